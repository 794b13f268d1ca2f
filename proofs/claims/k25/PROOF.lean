import PyProof.Rows.All
import Wide.All
import OpenK.AllK
import Wide.FinOn
import HandS.Base
import HandS.Call
import HandS.List
import HandS.Comp
import HandS.Ends
import HandS.Dict
import HandS.Iter
import HandS.Text
import HandS.Words
import HandS.IsInst
import HandS.TupAny
import HandS.Exc
import HandS.ExcIs
import HandS.ExcInit
import HandS.ExcField
import HandS.ExcOwn
import HandS.ExcValue
import HandS.WordsExc
import KE.KExcIs
import KE.KDflt
import HandS.Lambda
import HandS.EndTab
import HandS.EndOwn
import KE.KNestM
import HandS.Zip
import HandS.Walk
import HandS.Conv
import HandS.Small
import HandS.Iter
import KE.GoesMore
import HandS.Sort
import HandS.SortKw
import HandS.More
import HandS.RevTup
import HandS.Rev
import HandS.WideBits
import HandS.Wide
import HandS.Style
import PyProof.StrOps2
import HandS.MakeKwOnly
import HandS.MakeKw
import KE.GoesZip
import KE.GoesEnum
import HandS.OwnEq
import PyProof.InstNe
import HandS.TupMul
import HandS.SetFor
import HandS.SortInts
import HandS.TryOnly
import HandS.Star
import PySem.Challenge.RW_ropesays_k25_rings_deed_by_deed
set_option Elab.async false
set_option linter.all false
set_option maxRecDepth 100000
set_option maxHeartbeats 4000000
namespace Rp
open PySem PySem.Spec PyProof.Rows L2

/-! ### readings, a step each -/
section
variable {t u : TS} {D : Ends} {σ : L2.St} {H : Hp} {Q : VK} {v x y : V} {ta tb te : TE} {r : R2} {i j : Int} {g : Int → Int → V} {tt tt' : TT} {tl tr : TA}
theorem r_start {N : List Str} {vs : List V} {l : L2.St} (e : L2.start N vs = l) (h : t D l H) : t D (L2.start N vs) H := e ▸ h
theorem r_seq (h : t { D with nx := u D } σ H) : tSeq t u D σ H := h
/-- the ways meet: M -/
theorem r_cut (M : L2.St → Hp → Prop) (hu : ∀ σ H, M σ H → u D σ H) (h : (∀ σ H, M σ H → u D σ H) → t { D with nx := u D } σ H) : tSeq t u D σ H := h hu
theorem r_next (h : D.nx σ H) : tNext D σ H := h
theorem r_drop (h : te σ H fun _ H1 => D.nx σ H1) : tDrop te D σ H := h
theorem r_var {k : Nat} (h : σ[k]? = some (some v)) (q : Q v H) : tVar k σ H Q := ⟨v, h, q⟩
theorem r_varE {k : Nat} (h : ∃ v, σ[k]? = some (some v) ∧ Q v H) : tVar k σ H Q := h
theorem r_c (q : Q v H) : tC v σ H Q := q
theorem r_op (h : ta σ H fun x H1 => tb σ H1 fun y H2 => r x y H2 Q) : tOp r ta tb σ H Q := h
theorem r_I0 (q : Q (g i j) H) : rI0 g (.int i) (.int j) H Q := ⟨i, j, rfl, rfl, q⟩
theorem r_I {C : Int → Int → Prop} (c : C i j) (q : Q (g i j) H) : rI C g (.int i) (.int j) H Q := ⟨i, j, rfl, rfl, c, q⟩
theorem r_test {Q : Bool → Hp → Prop} (h : te σ H fun x H' => ∃ k, x = .bl k ∧ Q k H') : tTest te σ H Q := h
theorem r_tb {Q : Bool → Hp → Prop} (h : te σ H fun x H' => ∃ k, x = .bl k ∧ Q k H') : tB te σ H Q := h
theorem r_bl {k : Bool} {P : Bool → Prop} (q : P k) : ∃ k', V.bl k = .bl k' ∧ P k' := ⟨k, rfl, q⟩
theorem r_if (h : tt σ H fun b H1 => if b = true then t D σ H1 else u D σ H1) : tIfS tt t u D σ H := h
theorem r_not {Q : Bool → Hp → Prop} (h : tt σ H fun c H1 => Q (!c) H1) : tNot tt σ H Q := h
theorem r_and {Q : Bool → Hp → Prop} (h : tt σ H fun c H1 => if c = true then tt' σ H1 Q else Q false H1) : tAnd tt tt' σ H Q := h
theorem r_or {Q : Bool → Hp → Prop} (h : tt σ H fun c H1 => if c = true then Q true H1 else tt' σ H1 Q) : tOr tt tt' σ H Q := h
theorem r_andV (h : ta σ H fun x H1 => ∃ c, x = .bl c ∧ if c = true then tb σ H1 Q else Q (.bl false) H1) : tAndV ta tb σ H Q := h
theorem r_orV (h : ta σ H fun x H1 => ∃ c, x = .bl c ∧ if c = true then Q (.bl true) H1 else tb σ H1 Q) : tOrV ta tb σ H Q := h
theorem r_notV (h : ta σ H fun x H1 => ∃ c, x = .bl c ∧ Q (.bl (!c)) H1) : tNotV ta σ H Q := h
theorem r_ifx (h : tt σ H fun c H1 => if c = true then ta σ H1 Q else tb σ H1 Q) : tIf tt ta tb σ H Q := h
theorem r_asg {g : TG} (h : te σ H fun x H1 => g x σ H1 D.nx) : tAsg te g D σ H := h
theorem r_gname {k : Nat} {Q : L2.St → Hp → Prop} (h : Q (List.set σ k (some v)) H) : gName k v σ H Q := h
theorem r_gsub {to ti : TE} {ts : TSet} {Q : L2.St → Hp → Prop} (h : to σ H fun o H1 => ti σ H1 fun i H2 => ts o i v H2 fun H3 => Q σ H3) : gSub to ti ts v σ H Q := h
theorem r_ret (h : te σ H D.rt) : tRet te D σ H := h
theorem r_cb {r : List V → Hp → VK → Prop} (h : tl σ H fun vs H1 => r vs H1 Q) : tCB r tl σ H Q := h
theorem r_cons {Q : List V → Hp → Prop} (h : ta σ H fun x H1 => tr σ H1 fun xs H2 => Q (x :: xs) H2) : tCons ta tr σ H Q := h
theorem r_nil {Q : List V → Hp → Prop} (h : Q [] H) : tNil σ H Q := h
theorem r_ixL {K : PySem.W.Frag} {p : Addr} {xs : List V} (hs : SqL K H p xs) (ha : atI xs i = some v) (q : Q v H) : rIxL K (.ref p) (.int i) H Q := ⟨p, xs, i, v, rfl, rfl, hs, ha, q⟩
theorem r_setL {p : Addr} {xs : List V} {k : Nat} {Q : Hp → Prop} (hs : H p = some (.lst xs)) (hi : ixN xs.length i = some k) (q : Q (upd H p (.lst (xs.set k v)))) : rSetL (.ref p) (.int i) v H Q := ⟨p, xs, i, k, rfl, rfl, hs, hi, q⟩
theorem r_sl {r : V → Option Int → Option Int → Hp → VK → Prop} {tlo thi : TO} (h : te σ H fun x H1 => tlo σ H1 fun l H2 => thi σ H2 fun u H3 => r x l u H3 Q) : tSl r te tlo thi σ H Q := h
theorem r_pnone {Q : Option Int → Hp → Prop} (h : Q none H) : tNoPart σ H Q := h
theorem r_pint {Q : Option Int → Hp → Prop} (h : te σ H fun x H1 => ∃ i, x = .int i ∧ Q (some i) H1) : tPart te σ H Q := h
theorem r_un {ru : V → Hp → VK → Prop} (h : ta σ H fun x H1 => ru x H1 Q) : tUn ru ta σ H Q := h
theorem r_lst (h : tl σ H fun xs H1 => xs.length ≤ sizeLine ∧ ∀ p, H1 p = none → Q (.ref p) (upd H1 p (.lst xs))) : tLst tl σ H Q := h
theorem r_tup (h : tl σ H fun xs H1 => xs.length ≤ sizeLine ∧ ∀ p, H1 p = none → Q (.ref p) (upd H1 p (.tup xs))) : tTup tl σ H Q := h
theorem len_ok {n : Nat} (h : Nat.ble n sizeLine = true) : n ≤ sizeLine := Nat.le_of_ble_eq_true h
theorem r_lc {wi : TI} {g : TG} {vs : List Nat} (h : wi σ H fun J G => ∀ L, G L = none → ∃ M : Nat → Nat → Hp → Prop, (∃ n, M 0 n (upd G L (.lst []))) ∧ ∀ k n G, M k n G →
    (J.stop k G ∧ Q (.ref L) G) ∨ (J.go k G ∧ ∃ Z : Hp → Prop, (∀ G', Z G' → ∃ n', n' < n ∧ M (k + 1) n' G') ∧
      ∀ e G', J.yld k G e G' → g e (wipe σ vs) G' fun τ G2 => wipe τ vs = wipe σ vs ∧ tt τ G2 fun b G3 =>
        if b = true then te τ G3 fun y G4 => ∃ ac, G4 L = some (.lst ac) ∧ ac.length < sizeLine ∧ Z (upd G4 L (.lst (ac ++ [y]))) else Z G3)) : tLc wi g tt te vs σ H Q := h
theorem r_ilist {K : PySem.W.Frag} {R : It → Hp → Prop} (h : te σ H fun x G => ∃ a, x = .ref a ∧ (∃ xs, SqL K G a xs) ∧ R (Itl K a) G) : iList K te σ H R := h
theorem r_itup {K : PySem.W.Frag} {R : It → Hp → Prop} (h : te σ H fun x G => ∃ a, x = .ref a ∧ (∃ xs, SqT K G a xs) ∧ R (Itt K a) G) : iTup K te σ H R := h
theorem r_irng1 {R : It → Hp → Prop} (h : tl σ H fun vs G => ∃ j : Int, vs = [.int j] ∧ -(2 ^ 62) ≤ j ∧ j < 2 ^ 62 ∧ R (Itr 0 j.toNat) G) : iRng1 tl σ H R := h
theorem r_irng2 {R : It → Hp → Prop} (h : tl σ H fun vs G => ∃ i j : Int, vs = [.int i, .int j] ∧ (-(2 ^ 62) ≤ i ∧ i < 2 ^ 62 ∧ -(2 ^ 62) ≤ j ∧ j < 2 ^ 62) ∧ R (Itr i (j - i).toNat) G) : iRng2 tl σ H R := h
theorem r_for {wi : TI} {g : TG} {tb : TS} (h : wi σ H fun J G => ∃ M : Nat → Nat → L2.St → Hp → Prop, (∃ n, M 0 n σ G) ∧ ∀ k n τ G, M k n τ G →
    (J.stop k G ∧ D.nx τ G) ∨ (J.go k G ∧ ∃ Z : L2.St → Hp → Prop, (∀ τ' G', Z τ' G' → ∃ n', n' < n ∧ M (k + 1) n' τ' G') ∧
      ∀ e G', J.yld k G e G' → g e τ G' fun τ2 G2 => tb { D with nx := Z, ct := Z, bk := D.nx } τ2 G2)) : tFor wi g tb D σ H := h
theorem r_par {m n : Nat} (h : tl σ H fun vs G => ∃ v w, vs = [v, w] ∧ D.nx ((σ.set m (some v)).set n (some w)) G) : tPar m n tl D σ H := h
theorem r_isN (q : Q (.bl (decide (x = .non))) H) : (fun (x y : V) (H : Hp) (Q : VK) => y = .non ∧ Q (.bl (decide (x = .non))) H) x .non H Q := ⟨rfl, q⟩
theorem r_notN (q : Q (.bl (!decide (x = .non))) H) : (fun (x y : V) (H : Hp) (Q : VK) => y = .non ∧ Q (.bl (!decide (x = .non))) H) x .non H Q := ⟨rfl, q⟩
theorem r_call {sp : Sp} {dvs : List V} {E : XK} (h : tl σ H fun vs H1 => sp (vs ++ dvs) H1 Q E) : tCall sp dvs E tl σ H Q := h
theorem r_yes {Q : Bool → Hp → Prop} (h : Q true H) : tYes σ H Q := h
theorem r_true {A B : Prop} (h : A) : if true = true then A else B := iteT h
theorem r_false {A B : Prop} (h : B) : if false = true then A else B := iteF h
theorem r_truen {A B : Prop} (h : B) : if (!true) = true then A else B := iteF h
theorem r_falsen {A B : Prop} (h : A) : if (!false) = true then A else B := iteT h
/-- int(x) -/
theorem r_int (q : Q (.int i) H) : (fun (xs : List V) (H : Hp) (Q : VK) => (∃ i, xs = [.int i] ∧ Q (.int i) H) ∨ ∃ k, xs = [.bl k] ∧ Q (.int (if k then 1 else 0)) H) [.int i] H Q := .inl ⟨i, rfl, q⟩
end
end Rp
namespace Rp
open PySem PySem.Spec PyProof.Rows L2
/-! ### what draws: a box [cells, laps, rest] at q, its cells at c -/
/-- all but what stands at q stays -/
def But (q : Addr) (H H' : Hp) : Prop := ∀ b o, b ≠ q → H b = some o → H' b = some o
theorem But.refl (q : Addr) (H : Hp) : But q H H := fun _ _ _ h => h
theorem But.trans {q : Addr} {H H1 H2 : Hp} (a : But q H H1) (b : But q H1 H2) : But q H H2 := fun c o n h => b c o n (a c o n h)
theorem But.upd {q : Addr} {H : Hp} (o : HO) : But q H (upd H q o) := fun b u n h => by rw [upd_ne n]; exact h
theorem But.upd2 {q : Addr} {H H' : Hp} (e : But q H H') (o : HO) : But q H (L2.upd H' q o) := fun b u n h => by rw [upd_ne n]; exact e b u n h
theorem But.neu {q : Addr} {H H' : Hp} (e : But q H H') {p : Addr} {o : HO} (h : H' p = none) (hq : H p = none ∨ True := .inr True.intro) : But q H (L2.upd H' p o) := fun b u n k => by
  have k' := e b u n k
  rw [upd_ne (ne_of_none k' h)]
  exact k'
structure Dr (q c : Addr) (ns : List Int) (lap : Nat) (H : Hp) : Prop where
  ne : c ≠ q
  box : ∃ rest : Int, H q = some (.lst [.ref c, .int (lap : Int), .int rest])
  cells : H c = some (.lst (ns.map V.int))
  len : ns.length ≤ 60
theorem Dr.neu {q c : Addr} {ns : List Int} {lap : Nat} {H : Hp} (d : Dr q c ns lap H) {p : Addr} {o : HO} (h : H p = none) : Dr q c ns lap (upd H p o) := by
  obtain ⟨ne, ⟨rest, b⟩, cl, ln⟩ := d
  exact ⟨ne, ⟨rest, by rw [upd_ne (ne_of_none b h)]; exact b⟩, by rw [upd_ne (ne_of_none cl h)]; exact cl, ln⟩
/-- a number is drawn -/
def spDraw : Sp := fun vs H Q _ => ∃ (q c : Addr) (ns : List Int) (lap : Nat) (many : Int), vs = [.ref q, .int many] ∧ 0 < many ∧ many < 1073741824 ∧ lap < 2 ^ 20 ∧ Dr q c ns lap H ∧
  ∀ (H' : Hp) (lap' : Nat) (r : Int), lap' ≤ lap + 1 → Dr q c ns lap' H' → But q H H' → 0 ≤ r → r < many → Q (.int r) H'
theorem at0 {a b c : V} : atI [a, b, c] 0 = some a := rfl
theorem at1 {a b c : V} : atI [a, b, c] 1 = some b := rfl
theorem at2 {a b c : V} : atI [a, b, c] 2 = some c := rfl
theorem box_at {q c : Addr} {ns : List Int} {lap : Nat} {H : Hp} {rest : Int} (ne : c ≠ q) (b : H q = some (.lst [.ref c, .int (lap : Int), .int rest])) (cl : H c = some (.lst (ns.map V.int))) (ln : ns.length ≤ 60) : Dr q c ns lap H := ⟨ne, ⟨rest, b⟩, cl, ln⟩
theorem fmod_in {i j : Int} (h : 0 < j) : 0 ≤ i.fmod j ∧ i.fmod j < j := by
  rw [Int.fmod_eq_emod_of_nonneg i (by omega)]
  exact ⟨Int.emod_nonneg _ (by omega), Int.emod_lt_of_pos _ h⟩
theorem fits3 {m a b c : Int} {lap : Nat} (h0 : 0 ≤ m) (h1 : m < 2147483648) (hl : lap < 2 ^ 20) (ha : 0 ≤ a) (ha' : a < 131072) (hb : 0 ≤ b) (hb' : b < 131072) (hc : 0 ≤ c) (hc' : c < 131072) :
    (m * (2 * (lap : Int) + a) + b * (lap : Int) * (lap : Int) + c).natAbs < 2 ^ 64 := by
  have l0 : (0 : Int) ≤ (lap : Int) := by omega
  have l1 : (lap : Int) ≤ 1048576 := by omega
  have e1 : 0 ≤ m * (2 * (lap : Int) + a) := Int.mul_nonneg h0 (by omega)
  have e2 : m * (2 * (lap : Int) + a) ≤ 2147483648 * 2228224 := Int.mul_le_mul (by omega) (by omega) (by omega) (by omega)
  have e3 : 0 ≤ b * (lap : Int) := Int.mul_nonneg hb l0
  have e4 : b * (lap : Int) ≤ 131072 * 1048576 := Int.mul_le_mul (by omega) l1 l0 (by omega)
  have e5 : 0 ≤ b * (lap : Int) * (lap : Int) := Int.mul_nonneg e3 l0
  have e6 : b * (lap : Int) * (lap : Int) ≤ (131072 * 1048576) * 1048576 := Int.mul_le_mul e4 l1 l0 (by omega)
  omega
theorem fits1 {m b : Int} {lap : Nat} (hb : 0 ≤ b) (hb' : b < 131072) (hl : lap < 2 ^ 20) : -(2 ^ 64) < b * (lap : Int) ∧ b * (lap : Int) < 2 ^ 64 := by
  have e3 : 0 ≤ b * (lap : Int) := Int.mul_nonneg hb (by omega)
  have e4 : b * (lap : Int) ≤ 131072 * 1048576 := Int.mul_le_mul (by omega) (by omega) (by omega) (by omega)
  omega
theorem dp_ints {K : PySem.W.Frag} {H : Hp} : ∀ (ns : List Int), DpAll K H (ns.map V.int) (ns.map PyData.int)
  | [] => .nil
  | n :: r => .cons (.int n) (dp_ints r)
theorem canLay_ints : ∀ (ns : List Int), PyData.canLayAll0 (ns.map PyData.int) = true
  | [] => by simp [PyData.canLayAll0]
  | n :: r => by simp [PyData.canLayAll0, PyData.canLay0, canLay_ints r]
theorem depth_ints : ∀ (ns : List Int), PyData.depthAll (ns.map PyData.int) = 0
  | [] => by simp [PyData.depthAll]
  | n :: r => by simp [PyData.depthAll, PyData.depth, depth_ints r]
theorem shaped_ints (ns : List Int) : SeqAt.shaped (.list (ns.map PyData.int)) = true := by
  simp [SeqAt.shaped, PyData.canLay0, PyData.depth, canLay_ints, depth_ints]
theorem eqv_nil_ints (ns : List Int) : PyData.eqv (.list (ns.map PyData.int)) (.list []) = ns.isEmpty := by
  cases ns <;> simp [PyData.eqv, PyData.eqvAll]
/-- an int list, compared with a new [] -/
theorem ne_nil {K : PySem.W.Frag} {H : Hp} {c p : Addr} {ns : List Int} {Q : VK} (hc : H c = some (.lst (ns.map V.int))) (hp : H p = some (.lst [])) (q : Q (.bl (!ns.isEmpty)) H) : rNeD K (.ref c) (.ref p) H Q :=
  ⟨_, _, .lst (SqL.of hc) (dp_ints ns), .lst (SqL.of hp) .nil, shaped_ints ns, (shaped_ints []), by rw [eqv_nil_ints]; exact q⟩
theorem map_len {ns : List Int} : (ns.map V.int).length = ns.length := List.length_map ..
theorem at_ints {ns : List Int} {k : Int} (h0 : 0 ≤ k) (h1 : k < (ns.length : Int)) : ∃ n, atI (ns.map V.int) k = some (.int n) := by
  obtain ⟨j, rfl⟩ : ∃ j : Nat, k = (j : Int) := ⟨k.toNat, by omega⟩
  have hk : j < ns.length := by omega
  refine ⟨ns[j], atI_nat ?_⟩
  rw [List.getElem?_map, List.getElem?_eq_getElem hk]
  rfl
/-- the box of cells is made -/
def spBox (K : PySem.W.Frag) : Sp := fun vs H Q _ => ∃ (a : Addr) (ns : List Int), vs = [.ref a] ∧ SqL K H a (ns.map V.int) ∧ ∀ (H' : Hp) (q c : Addr) (ns' : List Int), Dr q c ns' 0 H' → Same H H' → H q = none → Q (.ref q) H'
/-- one of some things -/
def spOf (K : PySem.W.Frag) : Sp := fun vs H Q _ => ∃ (q c a : Addr) (ns : List Int) (lap : Nat) (xs : List V), vs = [.ref q, .ref a] ∧ SqL K H a xs ∧ 0 < xs.length ∧ xs.length < 1000000 ∧ lap < 2 ^ 20 ∧ a ≠ q ∧ Dr q c ns lap H ∧
  ∀ (H' : Hp) (lap' : Nat) (i : Nat) (v : V), lap' ≤ lap + 1 → Dr q c ns lap' H' → But q H H' → xs[i]? = some v → Q v H'
theorem cut60 (ns : List Int) : ∃ ns' : List Int, cutV (ns.map V.int) none (some 60) = ns'.map V.int ∧ ns'.length ≤ 60 := by
  refine ⟨((ns.drop (HT.sIx (ns.map V.int).length 0 none)).take (HT.sIx (ns.map V.int).length (ns.map V.int).length (some 60) - HT.sIx (ns.map V.int).length 0 none)), ?_, ?_⟩
  · unfold cutV
    rw [List.map_take, List.map_drop]
  · refine Nat.le_trans (List.length_take_le _ _) ?_
    have e : (60 : Int) = ((60 : Nat) : Int) := rfl
    rw [e, HT.sIx_nat]
    omega
theorem same_neu {H H' : Hp} (e : Same H H') {p : Addr} {o : HO} (h : H' p = none) : Same H (upd H' p o) := fun b u k => by
  have k' := e b u k
  rw [upd_ne (ne_of_none k' h)]
  exact k'
theorem But.seq {K : PySem.W.Frag} {q : Addr} {H H' : Hp} {a : Addr} {xs : List V} (e : But q H H') (n : a ≠ q) (h : SqL K H a xs) : SqL K H' a xs := by
  rcases h with (h | ⟨o, h⟩) | h
  · exact .inl (.inl (e _ _ n h))
  · exact .inl (.inr ⟨o, e _ _ n h⟩)
  · exact .inr h
theorem at_some {xs : List V} {k : Int} (h0 : 0 ≤ k) (h1 : k < (xs.length : Int)) : ∃ (i : Nat) (v : V), atI xs k = some v ∧ xs[i]? = some v := by
  obtain ⟨j, rfl⟩ : ∃ j : Nat, k = (j : Int) := ⟨k.toNat, by omega⟩
  have hk : j < xs.length := by omega
  exact ⟨j, xs[j], atI_nat (List.getElem?_eq_getElem hk), List.getElem?_eq_getElem hk⟩
end Rp
namespace Rp
open PySem PySem.Spec PyProof.Rows L2
/-! ### defs that are called while no builtin of containers runs: what repr asks -/
/-- the def at f keeps the promise sp, called where nothing is being shown -/
structure FnG (P : Program) (w : World) (K : PySem.W.Frag) (mg : Str → Option Value) (base : Heap) (k : Nat) (f : Addr) (fd : FuncData) (ps : List Str) (sp : Sp) : Prop where
  arity : ∀ {vs H Q E}, sp vs H Q E → vs.length = ps.length
  go : ∀ {A : Around} {fr : List Env} {s : Shared} {H : Hp} {args : Args} {us : List Value} {vs : List V} {Q : VK} {E : XK}, A.guards = some [] → Room k A → Env0 P w K mg base A fr s H →
    BindsTo s fd args (ps.zip us) → Vals vs us → sp vs H Q E → codeAny (model P w) A (.call (.ref f) args) (CR CX0 fr P w H s Q E) s
section
variable {P : Program} {w : World} {K : PySem.W.Frag} {mg : Str → Option Value} {base : Heap} {k j : Nat} {f : Addr} {fd : FuncData} {ps : List Str} {sp : Sp}
theorem FnG.of (F : FnOk P w K mg base CX0 k f fd ps sp) : FnG P w K mg base k f fd ps sp := ⟨F.len _ _ _ _, fun _ r e b v q => F.run _ _ _ _ _ _ _ _ _ r e b v q⟩
theorem FnG.up (F : FnG P w K mg base j f fd ps sp) (h : j ≤ k) : FnG P w K mg base k f fd ps sp := ⟨F.arity, fun g r => F.go g (r.mono h)⟩
/-- the rule for a def -/
theorem fng {x qual : Str} {st : Stmt} {N : List Str} (F : Fun K x qual st f fd) (S : FnScope N ps (defScope st)) (ar : ∀ {vs H Q E}, sp vs H Q E → vs.length = ps.length)
    (body : ∀ {cdv : Value} {A : Around} {fr : List Env} {s : Shared} {H : Hp} {vs : List V} {Q : VK} {E : XK}, A.guards = some [] → Room k (A.deeper (envOfC qual (defScope st) s.heap.objs.size f cdv)) → sp vs H Q E →
      ∃ t, PSs (cxOf CX0 P w K mg base N qual (defScope st) f cdv A fr s H E).nox (defBody st) t ∧ t ⟨fun _ G => Q .non G, Q, fun _ _ => False, fun _ _ => False⟩ (L2.start N vs) H) : FnG P w K mg base (k + 1) f fd ps sp := by
  obtain ⟨oc, od, kV, dc, pm, an, cdv, ct, sl, e, look, code⟩ := F.ex
  subst e
  constructor
  · exact ar
  intro A fr s H args us vs Q E hg room env bind rel q
  have size := ar q
  have kin := env.mod.kin.keeps fun b o z => (env.bs b o z).1
  have nolim := env.mod.nolimit.keeps fun b o z => (env.bs b o z).1
  have knd : ∀ p ∈ ps.zip us, (defScope st).names.lookup p.1 = some .local ∨ ((defScope st).names.lookup p.1 = some .cell ∧ ((cellsFrom (s.heap.objs.size + 1) (defScope st).names []).lookup p.1).isSome = true) := by
    rintro ⟨n, v⟩ hp
    exact (S.par n (List.of_mem_zip hp).1).imp id fun z => ⟨z, PySem.W.cellsFrom_some _ _ _ (.inl z)⟩
  apply codeAny_call_function room.depth (kin _ _ look) rfl S.co S.gen rfl (PySem.W.codeRec_of kin code)
  apply bind
  apply wpAny_newFunctionEnv_cells S.kind knd
  intro en he s1 ic
  subst he
  refine ⟨nolim.keeps ic.toInCall.keep, codeAny_func ?_⟩
  obtain ⟨t, pt, rd⟩ := body (cdv := cdv) (fr := fr) (E := E) hg (room.deeper _) q
  have inv : Inv (cxOf CX0 P w K mg base N qual (defScope st) f cdv A fr s H E) [] (L2.start N vs) H s1 := inv_start S room.hd env size rel ic
  apply wpAny_mono (pt.nox.run [] s1 (L2.start N vs) H _ inv rd)
  · intro fl s2 hs
    cases fl with
    | ret u => obtain ⟨v, τ, G, J, r, z⟩ := hs; exact ⟨v, G, J.os, J.bare, J.base, J.hok, r, z⟩
    | next => obtain ⟨τ, G, J, z⟩ := hs; exact ⟨.non, G, J.os, J.bare, J.base, J.hok, rfl, z⟩
    | brk => obtain ⟨_, _, _, z⟩ := hs; exact z.elim
    | cont => obtain ⟨_, _, _, z⟩ := hs; exact z.elim
  · intro er s2 hs
    exact hs
end
section
variable {X : Cx} {k : Nat} {f : Addr} {fd : FuncData} {ps ks : List Str} {sp : Sp} {E : XK} {x : Str} {p pos : Pos} {e : Expr} {es : List Expr} {t tk : TA} {kws : List Keyword}
/-- what the callee does, from the caller's state -/
theorem goes {pins : List (Addr × Obj)} {σ : L2.St} {H : Hp} {s : Shared} {Q : VK} {args : Args} {us : List Value} {vs : List V} (F : FnG X.prog X.w X.K X.mg X.base k f fd ps sp) (g : X.A.guards = some []) (r : Room k X.A)
    (I : Inv X pins σ H s) (b : BindsTo s fd args (ps.zip us)) (rel : Vals vs us) (q : sp vs H Q E) : codeAny (model X.prog X.w) X.A (.call (.ref f) args) (fun a s2 => ∃ u, a = .ok (.ret u) ∧ EP X pins σ Q u s2) s := by
  apply codeAny_mono (F.go g r I.env0 b rel q)
  intro a s2 h
  rcases a with er | fl
  · exact h.elim
  · cases fl with
    | ret u => exact ⟨u, rfl, I.after h⟩
    | next => exact h.elim
    | brk => exact h.elim
    | cont => exact h.elim
theorem pe_callG (F : FnG X.prog X.w X.K X.mg X.base k f fd ps sp) (g : X.A.guards = some []) (r : Room k X.A) (hg : Gl X x) (hm : X.mg x = some (.ref f)) (hk : PySem.W.keepIn X.K (.ref f) = true) (hb : Binds X.K fd ps [])
    (ha : PA X (e :: es) t) (d1 : (x == ("__debug__" : Str)) = false := by decide) (d2 : starEach (e :: es) X.env = (false, eval e X.env) :: starEach es X.env := by rfl) (d3 : (backTo pos (starEach es X.env)).any (·.1) = false := by rfl) :
    PE X (.Call (.Name x p) (e :: es) [] pos) (fun σ H Q => t σ H fun vs G => sp vs G Q E) := by
  constructor
  intro pins s σ H Q I h
  apply wpAny_Call_Name_kw (ld_glob I hg hm ?_ d1)
  apply PySem.W.callWith_K (h₀ := X.base) I.ok.mod.kin hk ?_ d2 d3
  apply thn (ha.run pos pins s σ H _ I h)
  rintro us s1 ⟨vs, H1, I1, rel, q⟩
  refine ⟨I1.kIn, wpAny_call ?_⟩
  have n : (us ++ ([] : List Value)).length = ps.length := by
    rw [List.append_nil, ← rel.length]
    exact F.arity q
  have bb := hb s1 us I1.kIn n
  rw [List.append_nil] at bb
  apply codeAny_mono (goes F g r I1 bb rel q)
  rintro a s2 ⟨u, rfl, z⟩
  exact z
/-- how written keywords ks, behind n arguments by place, come to the parameters: parameter i is value number ix[i] -/
structure KBx (K : PySem.W.Frag) (fd : FuncData) (ps : List Str) (n : Nat) (ks : List Str) (ix : List Nat) : Prop where
  to : ∀ (s : Shared) (us ws : List Value), us.length = n → ws.length = ks.length → BindsTo s fd ⟨us, ks.zip ws⟩ (ps.zip (ix.map fun i => (us ++ ws).getD i .none))
theorem vals_ix {vs : List V} {us : List Value} (r : Vals vs us) : ∀ ix : List Nat, Vals (ix.map fun i => vs.getD i .non) (ix.map fun i => us.getD i .none)
  | [] => .nil
  | i :: l => by
    refine .cons ?_ (vals_ix r l)
    show L2.RelV (vs.getD i .non) (us.getD i .none)
    rw [List.getD_eq_getElem?_getD, List.getD_eq_getElem?_getD]
    cases h : vs[i]? with
    | none => rw [r.none_of h]; rfl
    | some v =>
      obtain ⟨u, hu, z⟩ := r.get h
      rw [hu]
      exact z
def tKw (sp : Sp) (n m : Nat) (ix : List Nat) (E : XK) (t tk : TA) : TE := fun σ H Q => t σ H fun vs G => tk σ G fun zs G2 => vs.length = n ∧ zs.length = m ∧ sp (ix.map fun i => (vs ++ zs).getD i .non) G2 Q E
theorem pe_callGK0 {ix : List Nat} (F : FnG X.prog X.w X.K X.mg X.base k f fd ps sp) (g : X.A.guards = some []) (r : Room k X.A) (hg : Gl X x) (hm : X.mg x = some (.ref f)) (hk : PySem.W.keepIn X.K (.ref f) = true) (hb : KBx X.K fd ps 0 ks ix)
    (hkw : PK X kws tk) (d4 : (backToKw pos (keywordEach kws X.env)).all (·.1.isSome) = true := by rfl) (d5 : (backToKw pos (keywordEach kws X.env)).filterMap (·.1) = ks := by rfl) (d1 : (x == ("__debug__" : Str)) = false := by decide)
    (d3 : (backToKw pos (keywordEach kws X.env)).any (·.1.isNone) = false := by rfl) :
    PE X (.Call (.Name x p) [] kws pos) (tKw sp 0 ks.length ix E L2.tNil tk) := by
  constructor
  intro pins s σ H Q I h
  apply wpAny_Call_Name_kw (ld_glob I hg hm ?_ d1)
  apply PySem.W.callWith_KW0 (h₀ := X.base) I.ok.mod.kin hk d4 ?_ d3
  apply thn (hkw.run pos pins s σ H _ I h)
  rintro ws s2 ⟨zs, H2, I2, rz, _, lz, q⟩
  refine ⟨I2.kIn, ?_⟩
  rw [d5]
  apply wpAny_call
  have lw : ws.length = ks.length := by rw [← rz.length]; exact lz
  apply codeAny_mono (goes F g r I2 (hb.to s2 [] ws rfl lw) (vals_ix (.append .nil rz) ix) q)
  rintro a s3 ⟨u, rfl, z⟩
  exact z
end
/-- sys.modules stands in the base -/
def HasMods (base : Heap) : Prop := ∃ mm, base.Ns sysModules mm
/-! ### the law's call, from its promise -/
theorem law_go {P : Program} {w : World} {K : PySem.W.Frag} {mg mb : Str → Option Value} {k : Nat} {fa a : Addr} {fd : FuncData} {x : Str} {sp : Sp} {s : Shared} {us : List Value} {ns : List Int}
    (kin : K.In s.heap) (gl : s.heap.Ns mainGlobals mg) (bl : s.heap.Ns builtinsNs mb) (boot : ∀ y : Str, y ≠ "__name__" → mb y = bootBuiltins y) (nolim : s.heap.NoLimit) (mods : HasMods s.heap) (gen : s.gens = #[])
    (ob : s.heap.get? a = some { cls := .type "list", data := .seq us.toArray }) (nums : IntsAre us ns) (size : ns.length ≤ sizeLine) (room : Room k callerA)
    (F : ∀ base : Heap, K.In base → base.Ns mainGlobals mg → HasMods base → FnG P w K mg base k fa fd [x] sp) (bind : ∀ (t : Shared) (u : Value), BindsTo t fd ⟨[u], []⟩ [(x, u)])
    (prom : ∀ H : Hp, SqL K H a (ns.map V.int) → sp [.ref a] H (fun v _ => v = .bl true) fun _ _ _ => False) :
    codeAny (model P w) callerA (.call (.ref fa) ⟨[.ref a], []⟩) (fun r t => r = .ok (.ret (.bool true)) ∧ OldK s.heap t.heap ∧ t.os = s.os ∧ AllBare t.gens) s := by
  have rel := vals_ints nums
  -- H tracks nothing, or the script alone, as the object that it is
  suffices main : ∀ H : Hp, SqL K H a (ns.map V.int) → HOk P w H s.heap → (∀ b u, H b = some u → b = a ∧ K.lookup a = none ∧ ∃ o y, u = .frz o y ∧ s.heap.get? b = some o) →
      codeAny (model P w) callerA (.call (.ref fa) ⟨[.ref a], []⟩) (fun r t => r = .ok (.ret (.bool true)) ∧ OldK s.heap t.heap ∧ t.os = s.os ∧ AllBare t.gens) s by
    by_cases hk : K.lookup a = none
    · let o : Obj := { cls := .type "list", data := .seq us.toArray }
      refine main (fun b => if b = a then some (.frz o (.lst (ns.map V.int))) else none) (.inl (.inr ⟨o, if_pos rfl⟩)) ?_ ?_
      · intro b u z
        by_cases h : b = a
        · subst h
          cases (if_pos rfl).symm.trans z
          exact ⟨ob, by rw [List.length_map]; exact size, us, _, rel, ob⟩
        · cases (if_neg h).symm.trans z
      · intro b u z
        by_cases h : b = a
        · subst h
          cases (if_pos rfl).symm.trans z
          exact ⟨rfl, hk, o, _, rfl, ob⟩
        · cases (if_neg h).symm.trans z
    · obtain ⟨o, ho⟩ := Option.ne_none_iff_exists'.mp hk
      have e := kin a o ho
      rw [ob] at e
      cases e
      exact main (fun _ => none) (.inr ⟨_, us.toArray, _, ho, rfl, rfl, rfl, by rw [List.size_toArray, nums.length]; exact size, by simpa using rel⟩) (fun b u z => nomatch z) fun b u z => nomatch z
  intro H seq hok only
  have hid : ∀ {b o}, s.heap.get? b = some o → H b = none → (hidT s.heap H).get? b = some o := fun e n => hidT_get e n
  have free : ∀ {b o} {es : Array DictEntry} {n : Nat}, s.heap.get? b = some o → o.data = .dict es n → H b = none := by
    intro b o es n e d
    cases z : H b with
    | none => rfl
    | some u =>
      obtain ⟨rfl, _⟩ := only b u z
      rw [ob] at e
      cases e
      cases d
  have names : ∀ {b} {m : Str → Option Value}, s.heap.Ns b m → (hidT s.heap H).Ns b m := by
    rintro b m ⟨o, es, n, e, d, z⟩
    exact ⟨o, es, n, hid e (free e d), d, z⟩
  have kin' : K.In (hidT s.heap H) := by
    intro b o e
    refine hid (kin b o e) ?_
    cases z : H b with
    | none => rfl
    | some u =>
      obtain ⟨rfl, n, _⟩ := only b u z
      rw [n] at e
      cases e
  obtain ⟨mc, l1, l2⟩ := nolim
  have mod : Mod K mg (hidT s.heap H) := ⟨kin', names gl, ⟨mb, names bl, boot⟩, ⟨mc, names l1, l2⟩⟩
  have env : Env0 P w K mg (hidT s.heap H) callerA [] s H := ⟨rfl, mod, fun b o e => of_hidT e, Nat.le_of_eq (hidT_size _ _), trivial, fun b h => absurd (show b ∈ ([] : List Addr) from h) (by simp), hok, .of_eq gen⟩
  apply codeAny_mono ((F _ kin' (names gl) (mods.imp fun _ z => names z)).go (us := [.ref a]) (vs := [.ref a]) rfl room env (bind s (.ref a)) (.cons rfl .nil) (prom H seq))
  intro r t h
  rcases r with er | fl
  · exact h.elim
  cases fl with
  | next => exact h.elim
  | brk => exact h.elim
  | cont => exact h.elim
  | ret u =>
    obtain ⟨v, G, os, bare, un, hok', rl, q⟩ := h
    cases (show v = .bl true from q)
    obtain rfl : u = Value.bool true := rl
    refine ⟨rfl, OldK.of_keep fun b o e => ?_, os, bare⟩
    cases z : H b with
    | none => exact un.keep b o e z (by intro m; exact absurd (show b ∈ ([] : List Addr) from m) (by simp)) (by simp)
    | some u =>
      obtain ⟨_, _, o', y, rfl, e'⟩ := only b u z
      rw [e] at e'
      cases e'
      exact (hok' b _ (un.frzs b o y z)).1
/-- what k_head leaves, from the law's promise -/
theorem walk_G {l : PySem.W.OpenLaw} {n k : Nat} {q : Program} {loose : List Str} {XP : (Str → Option Value) → Heap → Prop} {YP : World → Heap → Prop} {d : DefRec} {K : Params → PySem.W.Frag} {sp : PySem.W.Frag → Sp} {x : Str}
    (none : importsNone q = true) (hn : l.most = some n) (hn2 : n ≤ sizeLine) (hdf : d.params.defaults = []) (room : Room k callerA) (hY : ∀ (w : World) (h : Heap), YP w h → (K w.params).In h)
    (F : ∀ (w : World) (mg : Str → Option Value) (fa : Addr) (h : Heap), (K w.params).In h → h.Ns mainGlobals mg → mg d.name = some (.ref fa) →
      ∃ fd : FuncData, (∀ (t : Shared) (u : Value), BindsTo t fd ⟨[u], []⟩ [(x, u)]) ∧ ∀ base : Heap, (K w.params).In base → base.Ns mainGlobals mg → HasMods base → FnG l.prog w (K w.params) mg base k fa fd [x] (sp (K w.params)))
    (prom : ∀ (K : PySem.W.Frag) (H : Hp) (a : Addr) (ns : List Int), ns.length ≤ n → SqL K H a (ns.map V.int) → sp K [.ref a] H (fun v _ => v = .bl true) fun _ _ _ => False) :
    PySem.W.WalkO q loose XP YP l.row.toRowW d [] (fun f vs => PySem.call f vs) := by
  apply Att.attach_call hn hdf
  intro w s0 s1 mg mb fa o pm cd dc a us ns G Y _ _ _ hmg hobj nums hlen hg
  have md : HasMods s1.heap := let ⟨mm, z, _⟩ := (G.T.seer none).mods; ⟨mm, z⟩
  obtain ⟨fd, hb, hF⟩ := F w mg fa _ (hY w _ Y) G.T.g hmg
  exact law_go (hY w _ Y) G.T.g G.T.b G.T.builtins G.T.nolimit md hg hobj nums (Nat.le_trans hlen hn2) room hF hb fun H hS => prom _ H a ns hlen hS
/-- a def as its callers know it -/
structure Cal (P : Program) (w : World) (K : PySem.W.Frag) (mg : Str → Option Value) (base : Heap) (x : Str) (k : Nat) (f : Addr) (fd : FuncData) (ps : List Str) (sp : Sp) : Prop where
  G : FnG P w K mg base k f fd ps sp
  mgf : mg x = some (.ref f)
  kp : PySem.W.keepIn K (.ref f) = true
  b : Binds K fd ps []
/-- keywords come to the parameters -/
theorem kb_of {K : PySem.W.Frag} {x qual : Str} {st : Stmt} {f : Addr} {fd : FuncData} {ps ks : List Str} {n : Nat} {ix : List Nat} (F : Fun K x qual st f fd)
    (h : ∀ (kV dc pm : Value) (an : Option Addr) (cd ct : Value) (us ws : List Value), us.length = n → ws.length = ks.length → bindArgs (PySem.W.fnOf x qual (defArgs st) (defBody st) (defScope st) .none kV dc pm an cd ct) ⟨us, ks.zip ws⟩ = pure (ps.zip (ix.map fun i => (us ++ ws).getD i .none))) : KBx K fd ps n ks ix := by
  obtain ⟨oc, od, kV, dc, pm, an, cd, ct, sl, e, _, _⟩ := F.ex
  subst e
  exact ⟨fun s us ws l1 l2 => .of_eq (h kV dc pm an cd ct us ws l1 l2)⟩
def tGo (sp : Sp) (t : TA) : TE := fun σ H Q => t σ H fun vs G => sp vs G Q E0
theorem r_go {sp : Sp} {t : TA} {σ : L2.St} {H : Hp} {Q : VK} (h : t σ H fun vs G => sp vs G Q E0) : tGo sp t σ H Q := h
theorem r_kw {sp : Sp} {n m : Nat} {ix : List Nat} {E : XK} {t tk : TA} {σ : L2.St} {H : Hp} {Q : VK} (h : t σ H fun vs G => tk σ G fun zs G2 => vs.length = n ∧ zs.length = m ∧ sp (ix.map fun i => (vs ++ zs).getD i .non) G2 Q E) : tKw sp n m ix E t tk σ H Q := h
section
variable {X : Cx} {k : Nat} {f : Addr} {fd : FuncData} {ps ks : List Str} {sp : Sp} {x : Str} {p pos : Pos} {e : Expr} {es : List Expr} {t tk : TA} {kws : List Keyword}
theorem pe_go (c : Cal X.prog X.w X.K X.mg X.base x k f fd ps sp) (g : X.A.guards = some []) (r : Room k X.A) (hg : Gl X x) (ha : PA X (e :: es) t) (d1 : (x == ("__debug__" : Str)) = false := by decide)
    (d2 : starEach (e :: es) X.env = (false, eval e X.env) :: starEach es X.env := by rfl) (d3 : (backTo pos (starEach es X.env)).any (·.1) = false := by rfl) : PE X (.Call (.Name x p) (e :: es) [] pos) (tGo sp t) :=
  pe_callG (E := E0) c.G g r hg c.mgf c.kp c.b ha d1 d2 d3
theorem pe_kw0 {ix : List Nat} (c : Cal X.prog X.w X.K X.mg X.base x k f fd ps sp) (hb : KBx X.K fd ps 0 ks ix) (g : X.A.guards = some []) (r : Room k X.A) (hg : Gl X x) (hkw : PK X kws tk)
    (d4 : (backToKw pos (keywordEach kws X.env)).all (·.1.isSome) = true := by rfl) (d5 : (backToKw pos (keywordEach kws X.env)).filterMap (·.1) = ks := by rfl) (d1 : (x == ("__debug__" : Str)) = false := by decide)
    (d3 : (backToKw pos (keywordEach kws X.env)).any (·.1.isNone) = false := by rfl) : PE X (.Call (.Name x p) [] kws pos) (tKw sp 0 ks.length ix E0 L2.tNil tk) :=
  pe_callGK0 c.G g r hg c.mgf c.kp hb hkw d4 d5 d1 d3
end
end Rp
namespace Rp
open PySem PySem.Spec PyProof.Rows L2
/-! ### data on the heap, dicts in it too; what repr shows of them -/
def kD : Key → PyData
  | .inl i => .int i
  | .inr x => .str x
mutual
inductive Dd (K : PySem.W.Frag) (H : Hp) : V → PyData → Prop
  | non : Dd K H .non .none
  | bl (b : Bool) : Dd K H (.bl b) (.bool b)
  | num (i : Int) : Dd K H (.int i) (.int i)
  | str (x : Str) : Dd K H (.str x) (.str x)
  | lst {a : Addr} {xs : List V} {ds : List PyData} (e : SqL K H a xs) (h : DdAll K H xs ds) : Dd K H (.ref a) (.list ds)
  | tup {a : Addr} {xs : List V} {ds : List PyData} (e : SqT K H a xs) (h : DdAll K H xs ds) : Dd K H (.ref a) (.tuple ds)
  | dic {a : Addr} {kvs : List (Key × V)} {ds : List (PyData × PyData)} (e : H a = some (.dK kvs)) (h : DdKv K H kvs ds) : Dd K H (.ref a) (.dict ds)
inductive DdAll (K : PySem.W.Frag) (H : Hp) : List V → List PyData → Prop
  | nil : DdAll K H [] []
  | cons {v : V} {vs : List V} {d : PyData} {ds : List PyData} (h : Dd K H v d) (t : DdAll K H vs ds) : DdAll K H (v :: vs) (d :: ds)
inductive DdKv (K : PySem.W.Frag) (H : Hp) : List (Key × V) → List (PyData × PyData) → Prop
  | nil : DdKv K H [] []
  | cons {k : Key} {v : V} {r : List (Key × V)} {d : PyData} {ds : List (PyData × PyData)} (h : Dd K H v d) (t : DdKv K H r ds) : DdKv K H ((k, v) :: r) ((kD k, d) :: ds)
end
section
variable {X : Cx} {pins : List (Addr × Obj)} {σ : L2.St} {H : Hp} {s : Shared}
theorem mods_ne (I : Inv X pins σ H s) (M : HasMods X.base) {a : Addr} {o : Obj} {vs : Array Value} {n : Nat} (e : s.heap.get? a = some o) (d : o.data = .seq vs n) : sysModules ≠ a := by
  intro z
  obtain ⟨mm, ob, es, ep, h1, h2, _⟩ := M
  have h3 := (I.bs _ _ h1).1
  rw [z, e] at h3
  cases h3
  rw [d] at h2
  cases h2
theorem key_reads {h : Heap} {k : Key} {v : Value} (e : keyIs k v = true) : Reads h v (kD k) [] := by
  rcases keyIs_shape e with ⟨i, t, rfl, rfl⟩ | ⟨x, t, rfl, rfl⟩
  · exact .int i t
  · exact .str x t
mutual
theorem dd_reads (I : Inv X pins σ H s) (M : HasMods X.base) : ∀ {v : V} {d : PyData}, Dd X.K H v d → ∀ u, RelV v u → ∃ as, Reads s.heap u d as ∧ sysModules ∉ as
  | _, _, .non, u, r => by cases r; exact ⟨[], .none, by simp⟩
  | _, _, .bl b, u, r => by cases r; exact ⟨[], .bool b, by simp⟩
  | _, _, .num i, u, r => by obtain ⟨t, rfl⟩ := r; exact ⟨[], .int i t, by simp⟩
  | _, _, .str x, u, r => by obtain ⟨t, rfl⟩ := r; exact ⟨[], .str x t, by simp⟩
  | _, _, .lst e h, u, r => by
    cases r
    obtain ⟨its, rv, ⟨o, n, h1, h2, _, h4⟩, _⟩ := I.list e
    obtain ⟨as, ra, na⟩ := dd_readsAll I M h its rv
    refine ⟨_, .list h1 h2 h4 (by simpa using ra), ?_⟩
    intro m
    rcases List.mem_cons.mp m with z | z
    · exact mods_ne I M h1 h4 z
    · exact na z
  | _, _, .tup e h, u, r => by
    cases r
    obtain ⟨its, rv, ⟨o, h1, h2, n, h4⟩, _⟩ := I.tuple e
    obtain ⟨as, ra, na⟩ := dd_readsAll I M h its rv
    exact ⟨_, .tuple h1 h2 h4 (by simpa using ra), na⟩
  | _, _, .dic e h, u, r => by
    cases r
    obtain ⟨_, ns, vs, kv, o, es, ep, h1, h2, h3, _, pr, _⟩ := I.hok _ _ e
    obtain ⟨bs, rk, rvs, nb⟩ := dd_readsKv I M h vs es.toList kv pr
    refine ⟨_, .dict h1 h2.1 h3 rk rvs, ?_⟩
    intro m
    rcases List.mem_cons.mp (by simpa using m) with z | z
    · rw [z] at ns
      simp at ns
    · exact nb (by simpa using z)
theorem dd_readsAll (I : Inv X pins σ H s) (M : HasMods X.base) : ∀ {vs : List V} {ds : List PyData}, DdAll X.K H vs ds → ∀ us, Vals vs us → ∃ as, ReadsAll s.heap us ds as ∧ sysModules ∉ as
  | _, _, .nil, us, r => by cases r; exact ⟨[], .nil, by simp⟩
  | _, _, .cons h t, us, r => by
    cases r with
    | cons r1 r2 =>
      obtain ⟨as, q1, n1⟩ := dd_reads I M h _ r1
      obtain ⟨bs, q2, n2⟩ := dd_readsAll I M t _ r2
      exact ⟨as ++ bs, .cons q1 q2, by rw [List.mem_append]; exact fun z => z.elim n1 n2⟩
theorem dd_readsKv (I : Inv X pins σ H s) (M : HasMods X.base) : ∀ {kvs : List (Key × V)} {ds : List (PyData × PyData)}, DdKv X.K H kvs ds → ∀ (vs : List (Key × Value)) (es : List DictEntry), KV kvs vs → Pairs (mixKind X.prog X.w) es vs →
    ∃ bs, ReadsAll s.heap (es.map (·.key)) (ds.map (·.1)) [] ∧ ReadsAll s.heap (es.map (·.val)) (ds.map (·.2)) bs ∧ sysModules ∉ bs
  | _, _, .nil, vs, es, kv, pr => by
    cases kv
    cases pr
    exact ⟨[], .nil, .nil, by simp⟩
  | _, _, .cons h t, vs, es, kv, pr => by
    cases kv with
    | cons k1 k2 =>
      cases pr with
      | cons p1 p2 p3 =>
        obtain ⟨e1, e2⟩ := k1
        rw [← p2] at e2
        rw [← e1] at p1
        obtain ⟨as, q1, n1⟩ := dd_reads I M h _ e2
        obtain ⟨bs, q2, q3, n2⟩ := dd_readsKv I M t _ _ k2 p3
        refine ⟨as ++ bs, ?_, .cons q1 q3, by rw [List.mem_append]; exact fun z => z.elim n1 n2⟩
        exact ReadsAll.cons (as := []) (key_reads p1) q2
end
/-- repr of a list, a tuple, a dict: of data -/
def rRepr (K : PySem.W.Frag) : List V → Hp → VK → Prop := fun xs H Q => ∃ (a : Addr) (d : PyData), xs = [.ref a] ∧ Dd K H (.ref a) d ∧ d.showable = true ∧ d.depth ≤ 64 ∧ d.shown.length ≤ sizeLine ∧ Q (.str d.shown) H
theorem call_reprD {k : Nat} (hr : Room k X.A) (g : X.A.guards = some []) (M : HasMods X.base) : CallR X (.builtin "repr") (rRepr X.K) := by
  intro pins s σ H xs us Q I r h
  obtain ⟨a, d, rfl, dd, hs, hdp, hsz, q⟩ := h
  obtain ⟨u, rfl, r1⟩ := vals1 r
  cases (show u = Value.ref a from r1)
  obtain ⟨as, rd, na⟩ := dd_reads I M dd _ rfl
  have un := hr.un
  exact repr_of_reads' rd hs (fun _ => na) g (by omega) (fun _ _ e => e) (fun h' t tk hk => ⟨.str d.shown, H, I.kept hk, ⟨_, rfl⟩, q⟩) hsz
end
end Rp
namespace Rp
open PySem PySem.Spec PyProof.Rows L2
/-! ### values of any kind, off the box -/
inductive Any (q : Addr) (H : Hp) : V → Prop
  | non : Any q H .non
  | bl (b : Bool) : Any q H (.bl b)
  | num (i : Int) : Any q H (.int i)
  | str (x : Str) : Any q H (.str x)
  | lst {a : Addr} {xs : List V} (n : a ≠ q) (e : H a = some (.lst xs)) : Any q H (.ref a)
  | tup {a : Addr} {xs : List V} (n : a ≠ q) (e : H a = some (.tup xs)) : Any q H (.ref a)
  | dic {a : Addr} {kvs : List (Key × V)} (n : a ≠ q) (e : H a = some (.dK kvs)) : Any q H (.ref a)
/-- a value that is a list or tuple of some values, or none -/
inductive RowV (q : Addr) (H : Hp) : V → Option (List V) → Prop
  | non : RowV q H .non none
  | bl (b : Bool) : RowV q H (.bl b) none
  | num (i : Int) : RowV q H (.int i) none
  | str (x : Str) : RowV q H (.str x) none
  | lst {a : Addr} {xs : List V} (n : a ≠ q) (e : H a = some (.lst xs)) (h : ∀ x ∈ xs, Any q H x) : RowV q H (.ref a) (some xs)
  | tup {a : Addr} {xs : List V} (n : a ≠ q) (e : H a = some (.tup xs)) (h : ∀ x ∈ xs, Any q H x) : RowV q H (.ref a) (some xs)
  | dic {a : Addr} {kvs : List (Key × V)} (n : a ≠ q) (e : H a = some (.dK kvs)) : RowV q H (.ref a) none
section
variable {q : Addr} {H H' : Hp} {v : V} {o : Option (List V)} {K : PySem.W.Frag}
theorem Any.but (h : Any q H v) (b : But q H H') : Any q H' v := by
  cases h with
  | non => exact .non
  | bl b => exact .bl b
  | num i => exact .num i
  | str x => exact .str x
  | lst n e => exact .lst n (b _ _ n e)
  | tup n e => exact .tup n (b _ _ n e)
  | dic n e => exact .dic n (b _ _ n e)
theorem RowV.but (h : RowV q H v o) (b : But q H H') : RowV q H' v o := by
  cases h with
  | non => exact .non
  | bl b => exact .bl b
  | num i => exact .num i
  | str x => exact .str x
  | lst n e it => exact .lst n (b _ _ n e) fun x m => (it x m).but b
  | tup n e it => exact .tup n (b _ _ n e) fun x m => (it x m).but b
  | dic n e => exact .dic n (b _ _ n e)
def isI : V → Bool
  | .int _ => true
  | _ => false
def isIB : V → Bool
  | .int _ => true
  | .bl _ => true
  | _ => false
def isB : V → Bool
  | .bl _ => true
  | _ => false
theorem isI_eq (v : V) : (isIB v && !isB v) = isI v := by cases v <;> rfl
theorem any_int (h : Any q H v) : ∃ t : Value, TyX K H v t ∧ PySem.W.kitOne K t (.type "int") = some (isIB v) := by
  cases h with
  | non => exact ⟨_, .base .non, kit_ty (r := false) (by decide +kernel)⟩
  | bl b => exact ⟨_, .base (.bl b), kit_ty (r := true) (by decide +kernel)⟩
  | num i => exact ⟨_, .base (.int i), kit_ty (r := true) (by decide +kernel)⟩
  | str x => exact ⟨_, .base (.str x), kit_ty (r := false) (by decide +kernel)⟩
  | lst n e => exact ⟨_, .base (.lst e), kit_ty (r := false) (by decide +kernel)⟩
  | tup n e => exact ⟨_, .base (.tup e), kit_ty (r := false) (by decide +kernel)⟩
  | dic n e => exact ⟨_, .base (.dK e), kit_ty (r := false) (by decide +kernel)⟩
theorem any_bool (h : Any q H v) : ∃ t : Value, TyX K H v t ∧ PySem.W.kitOne K t (.type "bool") = some (isB v) := by
  cases h with
  | non => exact ⟨_, .base .non, kit_ty (r := false) (by decide +kernel)⟩
  | bl b => exact ⟨_, .base (.bl b), kit_ty (r := true) (by decide +kernel)⟩
  | num i => exact ⟨_, .base (.int i), kit_ty (r := false) (by decide +kernel)⟩
  | str x => exact ⟨_, .base (.str x), kit_ty (r := false) (by decide +kernel)⟩
  | lst n e => exact ⟨_, .base (.lst e), kit_ty (r := false) (by decide +kernel)⟩
  | tup n e => exact ⟨_, .base (.tup e), kit_ty (r := false) (by decide +kernel)⟩
  | dic n e => exact ⟨_, .base (.dK e), kit_ty (r := false) (by decide +kernel)⟩
theorem kit2 {t a b : String} {x y : Bool} (h1 : kitB t a = some x) (h2 : kitB t b = some y) : PySem.W.kitAny K (.type t) [.type a, .type b] = some (x || y) := by
  refine kitAny_cons (kit_ty h1) (fun e => ?_) (fun e => by rw [e]; rfl)
  rw [e]
  refine kitAny_cons (kit_ty h2) (fun e => ?_) (fun e => by rw [e]; rfl)
  rw [e]
  exact kitAny_nil
theorem row_seq (h : RowV q H v o) : ∃ t : Value, TyX K H v t ∧ PySem.W.kitAny K t [.type "list", .type "tuple"] = some o.isSome := by
  cases h with
  | non => exact ⟨_, .base .non, kit2 (x := false) (y := false) (by decide +kernel) (by decide +kernel)⟩
  | bl b => exact ⟨_, .base (.bl b), kit2 (x := false) (y := false) (by decide +kernel) (by decide +kernel)⟩
  | num i => exact ⟨_, .base (.int i), kit2 (x := false) (y := false) (by decide +kernel) (by decide +kernel)⟩
  | str x => exact ⟨_, .base (.str x), kit2 (x := false) (y := false) (by decide +kernel) (by decide +kernel)⟩
  | lst n e => exact ⟨_, .base (.lst e), kit2 (x := true) (y := false) (by decide +kernel) (by decide +kernel)⟩
  | tup n e => exact ⟨_, .base (.tup e), kit2 (x := false) (y := true) (by decide +kernel) (by decide +kernel)⟩
  | dic n e => exact ⟨_, .base (.dK e), kit2 (x := false) (y := false) (by decide +kernel) (by decide +kernel)⟩
end
/-- any value is, is not a truth -/
def rIsAny (neg : Bool) : R2 := fun x y H Q => ∃ b, y = .bl b ∧ Q (.bl (if neg then !decide (x = .bl b) else decide (x = .bl b))) H
section
variable {X : Cx}
theorem bl_ne {x : V} {v : Value} {b : Bool} (rx : RelV x v) (ne : x ≠ .bl b) : v ≠ Value.bool b := by
  intro e
  subst e
  cases x with
  | bl c => exact ne (by rw [Value.bool.inj (show Value.bool b = Value.bool c from rx)])
  | non => cases (show Value.bool b = Value.none from rx)
  | int i => obtain ⟨t, z⟩ := rx; cases z
  | str y => obtain ⟨t, z⟩ := rx; cases z
  | byt y => obtain ⟨t, z⟩ := rx; cases z
  | flt y => obtain ⟨t, z⟩ := rx; cases z
  | ref a => cases (show Value.bool b = Value.ref a from rx)
  | ty n => cases (show Value.bool b = Value.type n from rx)
theorem plain_bl {x : V} {v : Value} {b : Bool} (rx : RelV x v) : plainIs v (.bool b) = true := by
  cases x with
  | bl c => cases rx; rfl
  | non => cases rx; rfl
  | int i => obtain ⟨t, rfl⟩ := rx; rfl
  | str y => obtain ⟨t, rfl⟩ := rx; rfl
  | byt y => obtain ⟨t, rfl⟩ := rx; rfl
  | flt y => obtain ⟨t, rfl⟩ := rx; rfl
  | ref a => cases rx; rfl
  | ty n => cases rx; rfl
theorem op_is_any : OpR X (compareOp .Is) (rIsAny false) := by
  intro pins s σ H x y v u Q I rx ry h
  obtain ⟨b, rfl, q⟩ := h
  cases (show u = Value.bool b from ry)
  by_cases e : x = .bl b
  · subst e
    cases (show v = Value.bool b from rx)
    exact wpAny_is_self rfl ⟨.bl true, H, I, rfl, by simpa using q⟩
  · exact wpAny_is_other (plain_bl rx) (bl_ne rx e) ⟨.bl false, H, I, rfl, by simpa [e] using q⟩
theorem op_isnot_any : OpR X (compareOp .IsNot) (rIsAny true) := by
  intro pins s σ H x y v u Q I rx ry h
  obtain ⟨b, rfl, q⟩ := h
  cases (show u = Value.bool b from ry)
  by_cases e : x = .bl b
  · subst e
    cases (show v = Value.bool b from rx)
    exact wpAny_isNot_self rfl ⟨.bl false, H, I, rfl, by simpa using q⟩
  · exact wpAny_isNot_other (plain_bl rx) (bl_ne rx e) ⟨.bl true, H, I, rfl, by simpa [e] using q⟩
end
end Rp
namespace Rp
open PySem PySem.Spec PyProof.Rows L2
section
variable {K : PySem.W.Frag} {H : Hp} {Q : VK} {x v : V} {t : Value} {b : Bool} {q : Addr}
theorem r_isi {n : String} (ty : TyX K H x t) (k : PySem.W.kitOne K t (.type n) = some b) (h : Q (.bl b) H) : rIsi K [x, .ty n] H Q := ⟨x, _, t, _, b, rfl, .ty n, ty, k, h⟩
theorem r_isiT {p : Addr} {n m : String} (e : H p = some (.tup [.ty n, .ty m])) (ty : TyX K H x t) (k : PySem.W.kitAny K t [.type n, .type m] = some b) (h : Q (.bl b) H) : rIsiT K [x, .ref p] H Q :=
  ⟨x, p, _, t, _, b, rfl, e, .cons (.ty n) (.cons (.ty m) .nil), ty, k, h⟩
theorem r_isAny {neg : Bool} {c : Bool} (h : Q (.bl (if neg then !decide (x = .bl c) else decide (x = .bl c))) H) : rIsAny neg x (.bl c) H Q := ⟨c, rfl, h⟩
@[reducible] def oV : Option Int → V
  | none => .non
  | some i => .int i
/-- an integer from lo to hi -/
def inB (v : V) (lo hi : Option Int) : Bool :=
  match v with
  | .int i => (match lo with | none => true | some l => decide (l ≤ i)) && (match hi with | none => true | some u => decide (i ≤ u))
  | _ => false
def clocks : List Int := [3, 5, 7, 11, 13, 17, 19, 23, 29, 31]
def clk (v : V) : Bool :=
  match v with
  | .int i => clocks.contains i
  | _ => false
def rowB (o : Option (List V)) (clock size : Int) : Bool :=
  match o with
  | none => false
  | some xs => decide ((xs.length : Int) = size) && xs.all fun x => inB x (some 0) (some (clock - 1))
def spIsInt : Sp := fun vs H Q _ => ∃ q v, vs = [v] ∧ Any q H v ∧ Q (.bl (isI v)) H
def spWithin : Sp := fun vs H Q _ => ∃ q v lo hi, vs = [v, oV lo, oV hi] ∧ Any q H v ∧ Q (.bl (inB v lo hi)) H
def spClock : Sp := fun vs H Q _ => ∃ q v, vs = [v] ∧ Any q H v ∧ Q (.bl (clk v)) H
def spRow : Sp := fun vs H Q _ => ∃ q v o clock size, vs = [v, .int clock, .int size] ∧ RowV q H v o ∧ clk (.int clock) = true ∧ (∀ xs, o = some xs → xs.length < sizeLine) ∧ ∀ H', Same H H' → Q (.bl (rowB o clock size)) H'
end
end Rp
namespace Rp
open PySem PySem.Spec PyProof.Rows L2
/-! ### steps at the box -/
section
variable {K : PySem.W.Frag} {q c p : Addr} {ns : List Int} {lap : Nat} {H0 H G : Hp} {o : HO} {Q : VK} {σ : L2.St} {x y v : V} {te tk tv : TE} {b : Bool}
theorem alloc (hG : upd H p o = G) (D : Dr q c ns lap H) (B : But q H0 H) (hp : H p = none) : Dr q c ns lap G ∧ But q H0 G ∧ But q H G ∧ p ≠ q ∧ G p = some o := by
  subst hG
  refine ⟨D.neu hp, B.neu hp, (But.refl q H).neu hp, ?_, upd_same⟩
  intro e
  obtain ⟨_, ⟨_, h⟩, _⟩ := D
  rw [e, h] at hp
  cases hp
/-- what stood at p is exchanged -/
theorem stored {u : HO} (hG : upd H p o = G) (D : Dr q c ns lap H) (np : p ≠ q) (ep : H p = some u) (d : ∀ xs, u ≠ .lst xs) : Dr q c ns lap G ∧ G p = some o := by
  subst hG
  obtain ⟨ne, ⟨rest, h⟩, hc, hl⟩ := D
  exact ⟨⟨ne, ⟨rest, by rw [upd_ne np.symm]; exact h⟩, by rw [upd_ne (ne_of hc ep (d _).symm)]; exact hc, hl⟩, upd_same⟩
theorem but_put {H1 : Hp} (hG : upd H p o = G) (B : But q H1 H) (hp : H1 p = none) : But q H1 G := by
  subst hG
  intro b u n e
  rw [upd_ne (ne_of_none e hp)]
  exact B b u n e
/-- a fact of each item -/
inductive EachP (F : V → Prop) : List V → Prop
  | nil : EachP F []
  | cons {x : V} {r : List V} (h : F x) (t : EachP F r) : EachP F (x :: r)
theorem EachP.get {F : V → Prop} {v : V} : ∀ {xs : List V} {i : Nat}, EachP F xs → xs[i]? = some v → F v
  | _, i, .nil, h => by simp at h
  | _, 0, .cons h _, e => by
    have e' := Option.some.inj e
    rw [← e']
    exact h
  | _, i + 1, .cons _ t, e => EachP.get (i := i) t (by simpa using e)
theorem EachP.mem {F : V → Prop} {xs : List V} (h : EachP F xs) : ∀ x ∈ xs, F x := fun x m => by
  obtain ⟨i, hi⟩ := List.mem_iff_getElem?.mp m
  exact h.get hi
theorem EachP.imp {F F' : V → Prop} (f : ∀ v, F v → F' v) : ∀ {xs : List V}, EachP F xs → EachP F' xs
  | _, .nil => .nil
  | _, .cons h t => .cons (f _ h) (EachP.imp f t)
theorem lt_ok {n m : Nat} (h : Nat.ble (n + 1) m = true) : n < m := Nat.le_of_ble_eq_true h
theorem le_ok {n m : Nat} (h : Nat.ble n m = true) : n ≤ m := Nat.le_of_ble_eq_true h
/-- an int within bounds -/
def IntIn (lo hi : Int) (v : V) : Prop := ∃ i, v = .int i ∧ lo ≤ i ∧ i ≤ hi
theorem log_ok {i : Int} (h : i.natAbs < 2 ^ 80) : i.natAbs.log2 < 1920 := by
  by_cases e : i.natAbs = 0
  · rw [e]
    decide
  · exact Nat.lt_of_lt_of_le ((Nat.log2_lt e).mpr h) (by decide)
theorem r_disp {trs : List (TE × TE)} (h : ∀ p, H p = none → tPairs trs σ (upd H p (.dK [])) fun ps G => G p = some (.dK []) ∧ ∃ kvs : List (Key × V), ps = kvs.map (fun kv => (kV kv.1, kv.2)) ∧ kvs.length ≤ 15 ∧ Q (.ref p) (upd G p (.dK (mergeK [] kvs)))) : tDisp trs σ H Q := h
theorem r_pair {r : List (TE × TE)} {R : List (V × V) → Hp → Prop} (h : tk σ H fun x G => tv σ G fun y G2 => tPairs r σ G2 fun ps G3 => R ((x, y) :: ps) G3) : tPairs ((tk, tv) :: r) σ H R := h
theorem r_pair0 {R : List (V × V) → Hp → Prop} (h : R [] H) : tPairs [] σ H R := h
theorem r_chain {r r' : R2} {ta tb tc : TE} (h : ta σ H fun x G => tb σ G fun y G2 => r x y G2 fun z G3 => ∃ k, z = .bl k ∧ (if k = true then tc σ G3 fun w G4 => r' y w G4 Q else Q (.bl false) G3)) : tChain r r' ta tb tc σ H Q := h
theorem r_U {g : Int → V} {i : Int} (h : Q (g i) H) : rU g (.int i) H Q := ⟨i, rfl, h⟩
theorem r_gtup {n : Nat} {t : TGs} {R : L2.St → Hp → Prop} (h : ∃ a xs, v = .ref a ∧ SqT K H a xs ∧ xs.length = n ∧ t xs σ H R) : gTup K n t v σ H R := h
end
end Rp
namespace Rp
open PySem PySem.Spec PyProof.Rows L2
section
variable {K : PySem.W.Frag} {q c p : Addr} {ns : List Int} {lap : Nat} {H0 H G : Hp} {o : HO} {Q : VK} {σ : L2.St} {x y v : V} {b : Bool} {F : V → Prop}
theorem eq_nil {nums : List Int} (hc : H c = some (.lst (nums.map V.int))) (hp : H p = some (.lst [])) (h : Q (.bl nums.isEmpty) H) : rEqD K (.ref c) (.ref p) H Q :=
  ⟨_, _, .lst (SqL.of hc) (dp_ints nums), .lst (SqL.of hp) .nil, shaped_ints nums, shaped_ints [], by rw [eqv_nil_ints]; exact h⟩
theorem bools_len (a b : Bool) : (PyData.list [.bool a, .bool b]).shown.length ≤ sizeLine := by
  cases a <;> cases b <;> exact Nat.le_trans (m := 100) (by decide +kernel) (by decide)
/-- repr of two truths -/
theorem r_bools {a b : Bool} (e : H p = some (.lst [.bl a, .bl b])) (h : Q (.str (PyData.list [.bool a, .bool b]).shown) H) : rRepr K [.ref p] H Q :=
  ⟨p, _, rfl, .lst (SqL.of e) (.cons (.bl a) (.cons (.bl b) .nil)), by simp [PyData.showable, PyData.showableAll], by simp [PyData.depth, PyData.depthAll], bools_len a b, h⟩
theorem r_ne_same {s : Str} (h : Q (.bl false) H) : rNe (.str s) (.str s) H Q := ⟨rfl, by rw [decide_eq_true rfl]; exact h⟩
theorem r_eq_same {s : Str} (h : Q (.bl true) H) : rEq (.str s) (.str s) H Q := ⟨rfl, by rw [decide_eq_true rfl]; exact h⟩
theorem inB_no {lo hi : Option Int} (h : isI v = false) : inB v lo hi = false := by cases v <;> first | rfl | cases h
theorem clk_no (h : isI v = false) : clk v = false := by cases v <;> first | rfl | cases h
/-- prime, as the law reckons it -/
def prB (n : Int) : Bool := (((List.range (n - 2).toNat).filter fun j : Nat => decide (n.fmod (2 + (j : Int)) = 0)).map fun j : Nat => 2 + (j : Int)).isEmpty
theorem clk_pr {n : Int} (h0 : 3 ≤ n) (h1 : n ≤ 31) : clk (.int n) = prB n := by
  have key : ∀ k : _root_.Fin 29, clk (.int (3 + (k.val : Int))) = prB (3 + (k.val : Int)) := by decide +kernel
  have e : n = 3 + (((n - 3).toNat : Nat) : Int) := by omega
  have z := key ⟨(n - 3).toNat, by omega⟩
  rw [e]
  exact z
theorem clk_out {n : Int} (h : n < 3 ∨ 31 < n) : clk (.int n) = false := by
  simp only [clk, clocks, List.contains_cons, List.contains_nil, Bool.or_false, Bool.or_eq_false_iff, beq_eq_false_iff_ne]
  omega
theorem EachP.append {xs ys : List V} (h : EachP F xs) (k : EachP F ys) : EachP F (xs ++ ys) := by
  induction h with
  | nil => exact k
  | cons a _ ih => exact .cons a ih
theorem EachP.of {xs : List V} (h : ∀ x ∈ xs, F x) : EachP F xs := by
  induction xs with
  | nil => exact .nil
  | cons a r ih => exact .cons (h a (List.mem_cons_self ..)) (ih fun x m => h x (List.mem_cons_of_mem _ m))
theorem EachP.sub {xs ys : List V} (h : EachP F ys) (s : ∀ x ∈ xs, x ∈ ys) : EachP F xs := .of fun x m => h.mem x (s x m)
theorem cut_lo {xs : List V} {n : Nat} (h : n ≤ xs.length) : cutV xs none (some (n : Int)) = xs.take n := by
  unfold cutV
  rw [HT.sIx_nat, HT.sIx_none, Nat.sub_zero, Nat.min_eq_left h, List.drop_zero]
theorem cut_hi {xs : List V} {n : Nat} (h : n ≤ xs.length) : cutV xs (some (n : Int)) none = xs.drop n := by
  unfold cutV
  rw [HT.sIx_nat, HT.sIx_none, Nat.min_eq_left h]
  exact List.take_of_length_le (by rw [List.length_drop]; omega)
theorem row_yes {xs : List V} {clock : Int} (h : EachP (IntIn 0 (clock - 1)) xs) : rowB (some xs) clock (xs.length : Int) = true := by
  simp only [rowB, decide_true, Bool.true_and, List.all_eq_true]
  intro x m
  obtain ⟨i, rfl, h0, h1⟩ := h.mem x m
  simp [inB, h0, h1]
theorem row_no {xs : List V} {clock size : Int} (m : x ∈ xs) (h : inB x (some 0) (some (clock - 1)) = false) : rowB (some xs) clock size = false := by
  simp only [rowB, Bool.and_eq_false_iff, List.all_eq_false]
  exact .inr ⟨x, m, by rw [h]; exact Bool.false_ne_true⟩
theorem row_size {xs : List V} {clock size : Int} (h : (xs.length : Int) ≠ size) : rowB (some xs) clock size = false := by simp [rowB, h]
theorem Dr.same (d : Dr q c ns lap H) (s : Same H G) : Dr q c ns lap G := by
  obtain ⟨ne, ⟨rest, h⟩, hc, hl⟩ := d
  exact ⟨ne, ⟨rest, s _ _ h⟩, s _ _ hc, hl⟩
theorem same_but (s : Same H G) : But q H G := fun b u _ e => s b u e
theorem IntIn.any {lo hi : Int} (h : IntIn lo hi v) : Any q H v := by
  obtain ⟨i, rfl, _⟩ := h
  exact .num i
end
end Rp
namespace Rp
open PySem PySem.Spec PyProof.Rows L2
/-- (value, many, due) with due what is_row tells of value -/
def RowItem (q : Addr) (clock : Int) (H : Hp) (v : V) : Prop := ∃ (t a : Addr) (m : Int) (d : Bool) (xs : List V), v = .ref t ∧ t ≠ q ∧ H t = some (.tup [.ref a, .int m, .bl d]) ∧ RowV q H (.ref a) (some xs) ∧ xs.length < 1000 ∧ rowB (some xs) clock m = d
section
variable {q : Addr} {clock : Int} {H H' : Hp} {v : V}
theorem RowItem.but (h : RowItem q clock H v) (b : But q H H') : RowItem q clock H' v := by
  obtain ⟨t, a, m, d, xs, e, n, ht, hr, hl, hd⟩ := h
  exact ⟨t, a, m, d, xs, e, n, b _ _ n ht, hr.but b, hl, hd⟩
theorem any_all {xs : List V} (h : EachP (Any q H) xs) : ∀ x ∈ xs, Any q H x := h.mem
theorem rep_one {n : Nat} {x : V} : (List.replicate n [x]).flatten = List.replicate n x := by
  induction n with
  | zero => rfl
  | succ n ih => rw [List.replicate_succ, List.flatten_cons, ih, List.replicate_succ]; rfl
theorem all_rep {F : V → Prop} {n : Nat} {x : V} (h : F x) : EachP F (List.replicate n x) := .of fun y m => by
  rw [(List.mem_replicate.mp m).2]
  exact h
theorem r_catA {K : PySem.W.Frag} {a b : Addr} {xs ys : List V} {Q : VK} (ha : SqT K H a xs) (hb : H b = some (.tup ys)) (hz : xs.length + ys.length ≤ sizeLine) (ny : ys ≠ [])
    (h : ∀ p G, G p = some (.tup (xs ++ ys)) → (G = H ∧ p = b ∨ H p = none ∧ G = upd H p (.tup (xs ++ ys))) → Q (.ref p) G) : rCatA K (.ref a) (.ref b) H Q := by
  refine ⟨a, b, xs, ys, rfl, rfl, ha, SqT.of hb, hz, fun e => ?_, fun _ e => absurd e ny, fun _ _ p hp => h p _ upd_same (.inr ⟨hp, rfl⟩)⟩
  subst e
  exact h b H hb (.inl ⟨rfl, rfl⟩)
theorem alloc_or {c p b : Addr} {ns : List Int} {lap : Nat} {H0 G : Hp} {o : HO} (z : G = H ∧ p = b ∨ H p = none ∧ G = upd H p o) (D : Dr q c ns lap H) (B : But q H0 H) (nb : b ≠ q) : Dr q c ns lap G ∧ But q H0 G ∧ But q H G ∧ p ≠ q := by
  rcases z with ⟨rfl, rfl⟩ | ⟨hp, rfl⟩
  · exact ⟨D, B, But.refl _ _, nb⟩
  · obtain ⟨a1, a2, a3, a4, _⟩ := alloc rfl D B hp
    exact ⟨a1, a2, a3, a4⟩
end
end Rp
namespace Rp
open PySem PySem.Spec PyProof.Rows L2
section
variable {K : PySem.W.Frag} {c p : Addr} {H : Hp} {Q : VK}
/-- two int lists that are the same -/
theorem eq_nums {nums : List Int} (hc : H c = some (.lst (nums.map V.int))) (hp : H p = some (.lst (nums.map V.int))) (h : Q (.bl true) H) : rEqD K (.ref c) (.ref p) H Q :=
  ⟨_, _, .lst (SqL.of hc) (dp_ints nums), .lst (SqL.of hp) (dp_ints nums), shaped_ints nums, shaped_ints nums, by
    rw [SeqAt.eqv_refl _ (by rw [PyData.canLay0]; exact canLay_ints nums)]
    exact h⟩
end
/-- the law: True, whatever the script -/
def spLaw (K : PySem.W.Frag) : Sp := fun vs H Q _ => ∃ (a : Addr) (ns : List Int), vs = [.ref a] ∧ SqL K H a (ns.map V.int) ∧ ∀ H', Q (.bl true) H'
end Rp
namespace Rp
open PySem PySem.Spec PyProof.Rows L2
/-! ### data off some places -/
/-- the heap without what stands at S -/
def hid (S : List Addr) (H : Hp) : Hp := fun b => if b ∈ S then none else H b
/-- all but what stands at S is as it was -/
def Keep (S : List Addr) (H H' : Hp) : Prop := ∀ b o, b ∉ S → H b = some o → H' b = some o
section
variable {K : PySem.W.Frag} {S S' : List Addr} {H H' H2 : Hp} {q p b : Addr} {o : HO} {v : V} {d : PyData}
theorem hid_in (h : b ∈ S) : hid S H b = none := by unfold hid; rw [if_pos h]
theorem hid_out (h : b ∉ S) : hid S H b = H b := by unfold hid; rw [if_neg h]
theorem hid_some (h : hid S H b = some o) : b ∉ S ∧ H b = some o := by
  by_cases m : b ∈ S
  · rw [hid_in m] at h
    cases h
  · rw [hid_out m] at h
    exact ⟨m, h⟩
theorem Keep.refl (S : List Addr) (H : Hp) : Keep S H H := fun _ _ _ h => h
theorem Keep.trans (a : Keep S H H') (c : Keep S H' H2) : Keep S H H2 := fun b o n h => c b o n (a b o n h)
theorem Keep.of (s : Same H H') : Keep S H H' := fun b o _ h => s b o h
theorem Keep.but (B : But q H H') : Keep [q] H H' := fun b o n h => B b o (fun e => n (by simp [e])) h
theorem Keep.toBut (k : Keep [q] H H') : But q H H' := fun b o n h => k b o (by simp [n]) h
theorem Keep.sub (k : Keep S H H') (s : ∀ b ∈ S, b ∈ S') : Keep S' H H' := fun b o n h => k b o (fun m => n (s b m)) h
theorem Keep.neu (k : Keep S H H') (h : H' p = none) : Keep S H (upd H' p o) := fun b u n e => by
  have e' := k b u n e
  rw [upd_ne (ne_of_none e' h)]
  exact e'
theorem Keep.put (k : Keep S H H') (h : H p = none) : Keep S H (upd H' p o) := fun b u n e => by
  rw [upd_ne (ne_of_none e h)]
  exact k b u n e
theorem Keep.hid (k : Keep S H H') : Same (hid S H) (hid S H') := fun b u e => by
  obtain ⟨n, e'⟩ := hid_some e
  rw [hid_out n]
  exact k b u n e'
theorem hid_up : Same (hid S H) H := fun b u e => (hid_some e).2
theorem hid_less (s : ∀ b ∈ S, b ∈ S') : Same (hid S' H) (hid S H) := fun b u e => by
  obtain ⟨n, e'⟩ := hid_some e
  rw [hid_out fun m => n (s b m)]
  exact e'
theorem hid_nil : hid [] H = H := by
  funext b
  exact hid_out (by simp)
theorem hid_upd (h : p ∈ S) : hid S (upd H p o) = hid S H := by
  funext b
  by_cases m : b ∈ S
  · rw [hid_in m, hid_in m]
  · rw [hid_out m, hid_out m, upd_ne fun e => m (by rw [e]; exact h)]
theorem Same.tupS {xs : List V} (s : Same H H') (h : SqT K H p xs) : SqT K H' p xs := by
  rcases h with (h | ⟨o, h⟩) | h
  · exact .inl (.inl (s _ _ h))
  · exact .inl (.inr ⟨o, s _ _ h⟩)
  · exact .inr h
mutual
theorem dd_same (s : Same H H') : ∀ {v : V} {d : PyData}, Dd K H v d → Dd K H' v d
  | _, _, .non => .non
  | _, _, .bl b => .bl b
  | _, _, .num i => .num i
  | _, _, .str x => .str x
  | _, _, .lst e h => .lst (s.seq e) (dd_sameAll s h)
  | _, _, .tup e h => .tup (Same.tupS s e) (dd_sameAll s h)
  | _, _, .dic e h => .dic (s _ _ e) (dd_sameKv s h)
theorem dd_sameAll (s : Same H H') : ∀ {vs : List V} {ds : List PyData}, DdAll K H vs ds → DdAll K H' vs ds
  | _, _, .nil => .nil
  | _, _, .cons h t => .cons (dd_same s h) (dd_sameAll s t)
theorem dd_sameKv (s : Same H H') : ∀ {kvs : List (Key × V)} {ds : List (PyData × PyData)}, DdKv K H kvs ds → DdKv K H' kvs ds
  | _, _, .nil => .nil
  | _, _, .cons h t => .cons (dd_same s h) (dd_sameKv s t)
end
theorem DdAll.append {xs ys : List V} {ds es : List PyData} (h : DdAll K H xs ds) (k : DdAll K H ys es) : DdAll K H (xs ++ ys) (ds ++ es) := by
  match xs, ds, h with
  | [], [], .nil => exact k
  | _ :: _, _ :: _, .cons a t => exact .cons a (DdAll.append t k)
theorem DdAll.len : ∀ {xs : List V} {ds : List PyData}, DdAll K H xs ds → xs.length = ds.length
  | _, _, .nil => rfl
  | _, _, .cons _ t => congrArg Nat.succ (DdAll.len t)
theorem DdAll.at : ∀ {xs : List V} {ds : List PyData} {i : Nat} {x : V}, DdAll K H xs ds → xs[i]? = some x → ∃ d, ds[i]? = some d ∧ Dd K H x d
  | _, _, i, _, .nil, e => by simp at e
  | _, _, 0, x, .cons (d := d) h _, e => by
    have e' := Option.some.inj e
    rw [← e']
    exact ⟨d, rfl, h⟩
  | _, _, i + 1, x, .cons _ t, e => DdAll.at (i := i) t (by simpa using e)
end
/-! ### a tuple for each list, all the way in -/
mutual
def fixD : PyData → PyData
  | .list xs => .tuple (fixAll xs)
  | .tuple xs => .tuple (fixAll xs)
  | d => d
def fixAll : List PyData → List PyData
  | [] => []
  | x :: r => fixD x :: fixAll r
end
theorem fixAll_map : ∀ xs : List PyData, fixAll xs = xs.map fixD
  | [] => by simp [fixAll]
  | x :: r => by simp [fixAll, fixAll_map r]
mutual
theorem fix_fix : ∀ d : PyData, fixD (fixD d) = fixD d
  | .list xs => by simp only [fixD]; rw [fix_fixAll xs]
  | .tuple xs => by simp only [fixD]; rw [fix_fixAll xs]
  | .none => by simp only [fixD]
  | .bool _ => by simp only [fixD]
  | .int _ => by simp only [fixD]
  | .str _ => by simp only [fixD]
  | .dict _ => by simp only [fixD]
theorem fix_fixAll : ∀ xs : List PyData, fixAll (fixAll xs) = fixAll xs
  | [] => by simp only [fixAll]
  | x :: r => by simp only [fixAll]; rw [fix_fix x, fix_fixAll r]
end
/-! ### how long it is shown -/
mutual
def cost : PyData → Nat
  | .list xs => 3 + costAll xs
  | .tuple xs => 3 + costAll xs
  | d => d.shown.length
def costAll : List PyData → Nat
  | [] => 0
  | x :: r => cost x + 2 + costAll r
end
mutual
theorem cost_fix : ∀ d : PyData, cost (fixD d) = cost d
  | .list xs => by simp only [fixD, cost]; rw [cost_fixAll xs]
  | .tuple xs => by simp only [fixD, cost]; rw [cost_fixAll xs]
  | .none => by simp only [fixD]
  | .bool _ => by simp only [fixD]
  | .int _ => by simp only [fixD]
  | .str _ => by simp only [fixD]
  | .dict _ => by simp only [fixD]
theorem cost_fixAll : ∀ xs : List PyData, costAll (fixAll xs) = costAll xs
  | [] => by simp only [fixAll]
  | x :: r => by simp only [fixAll, costAll]; rw [cost_fix x, cost_fixAll r]
end
mutual
theorem shown_cost : ∀ d : PyData, d.shown.length ≤ cost d
  | .list xs => by
    simp only [PyData.shown, cost]
    have h1 := listText_len_le (PyData.shownAll xs)
    have h2 := shown_costAll xs
    rw [PyData.shownAll_length] at h1
    omega
  | .tuple xs => by
    simp only [PyData.shown, cost]
    have h1 := tupleText_len_le (PyData.shownAll xs)
    have h2 := shown_costAll xs
    rw [PyData.shownAll_length] at h1
    omega
  | .none => by simp only [cost]; exact Nat.le_refl _
  | .bool _ => by simp only [cost]; exact Nat.le_refl _
  | .int _ => by simp only [cost]; exact Nat.le_refl _
  | .str _ => by simp only [cost]; exact Nat.le_refl _
  | .dict _ => by simp only [cost]; exact Nat.le_refl _
theorem shown_costAll : ∀ xs : List PyData, ((PyData.shownAll xs).map (·.length)).sum + 2 * xs.length ≤ costAll xs
  | [] => by simp [PyData.shownAll, costAll]
  | x :: r => by
    have h1 := shown_cost x
    have h2 := shown_costAll r
    simp only [PyData.shownAll, costAll, List.map_cons, List.sum_cons, List.length_cons]
    omega
end
mutual
theorem fix_showable : ∀ d : PyData, (fixD d).showable = d.showable
  | .list xs => by simp only [fixD, PyData.showable]; rw [fix_showableAll xs]
  | .tuple xs => by simp only [fixD, PyData.showable]; rw [fix_showableAll xs]
  | .none => by simp only [fixD]
  | .bool _ => by simp only [fixD]
  | .int _ => by simp only [fixD]
  | .str _ => by simp only [fixD]
  | .dict _ => by simp only [fixD]
theorem fix_showableAll : ∀ xs : List PyData, PyData.showableAll (fixAll xs) = PyData.showableAll xs
  | [] => by simp only [fixAll]
  | x :: r => by simp only [fixAll, PyData.showableAll]; rw [fix_showable x, fix_showableAll r]
end
mutual
theorem fix_depth : ∀ d : PyData, (fixD d).depth = d.depth
  | .list xs => by simp only [fixD, PyData.depth]; rw [fix_depthAll xs]
  | .tuple xs => by simp only [fixD, PyData.depth]; rw [fix_depthAll xs]
  | .none => by simp only [fixD]
  | .bool _ => by simp only [fixD]
  | .int _ => by simp only [fixD]
  | .str _ => by simp only [fixD]
  | .dict _ => by simp only [fixD]
theorem fix_depthAll : ∀ xs : List PyData, PyData.depthAll (fixAll xs) = PyData.depthAll xs
  | [] => by simp only [fixAll]
  | x :: r => by simp only [fixAll, PyData.depthAll]; rw [fix_depth x, fix_depthAll r]
end
/-- fit to be shown: not deep, not long -/
structure Fit (n c : Nat) (d : PyData) : Prop where
  sh : d.showable = true
  dp : d.depth ≤ n
  co : cost d ≤ c
theorem Fit.fix {n c : Nat} {d : PyData} (f : Fit n c d) : Fit n c (fixD d) := ⟨by rw [fix_showable]; exact f.sh, by rw [fix_depth]; exact f.dp, by rw [cost_fix]; exact f.co⟩
theorem Fit.le {n c m e : Nat} {d : PyData} (f : Fit n c d) (h : n ≤ m) (k : c ≤ e) : Fit m e d := ⟨f.sh, Nat.le_trans f.dp h, Nat.le_trans f.co k⟩
inductive FitAll (n : Nat) : Nat → List PyData → Prop
  | nil : FitAll n 0 []
  | cons {c e : Nat} {d : PyData} {ds : List PyData} (h : Fit n c d) (t : FitAll n e ds) : FitAll n (c + 2 + e) (d :: ds)
theorem FitAll.facts {n c : Nat} {ds : List PyData} (h : FitAll n c ds) : PyData.showableAll ds = true ∧ PyData.depthAll ds ≤ n ∧ costAll ds ≤ c := by
  induction h with
  | nil => exact ⟨by simp only [PyData.showableAll], by simp only [PyData.depthAll]; exact Nat.zero_le _, by simp only [costAll]; exact Nat.le_refl _⟩
  | cons h t ih =>
    obtain ⟨a, b, e⟩ := ih
    refine ⟨by simp only [PyData.showableAll, h.sh, a]; rfl, ?_, ?_⟩
    · simp only [PyData.depthAll]
      exact Nat.max_le.mpr ⟨h.dp, b⟩
    · simp only [costAll]
      have := h.co
      omega
theorem FitAll.list {n c : Nat} {ds : List PyData} (h : FitAll n c ds) : Fit (n + 1) (3 + c) (.list ds) := by
  obtain ⟨a, b, e⟩ := h.facts
  exact ⟨by simp only [PyData.showable]; exact a, by simp only [PyData.depth]; omega, by simp only [cost]; omega⟩
theorem FitAll.tuple {n c : Nat} {ds : List PyData} (h : FitAll n c ds) : Fit (n + 1) (3 + c) (.tuple ds) := by
  obtain ⟨a, b, e⟩ := h.facts
  exact ⟨by simp only [PyData.showable]; exact a, by simp only [PyData.depth]; omega, by simp only [cost]; omega⟩
theorem costAll_len : ∀ xs : List PyData, 2 * xs.length ≤ costAll xs
  | [] => by simp [costAll]
  | x :: r => by
    have := costAll_len r
    simp only [costAll, List.length_cons]
    omega
theorem costAll_mem : ∀ {xs : List PyData} {d : PyData}, d ∈ xs → cost d ≤ costAll xs
  | [], d, m => by cases m
  | x :: r, d, m => by
    simp only [costAll]
    rcases List.mem_cons.mp m with e | m
    · rw [e]
      omega
    · have := costAll_mem m
      omega
theorem depthAll_mem : ∀ {xs : List PyData} {d : PyData}, d ∈ xs → d.depth ≤ PyData.depthAll xs
  | [], d, m => by cases m
  | x :: r, d, m => by
    simp only [PyData.depthAll]
    rcases List.mem_cons.mp m with e | m
    · rw [e]
      exact Nat.le_max_left _ _
    · exact Nat.le_trans (depthAll_mem m) (Nat.le_max_right _ _)
theorem showableAll_mem : ∀ {xs : List PyData} {d : PyData}, PyData.showableAll xs = true → d ∈ xs → d.showable = true
  | [], d, _, m => by cases m
  | x :: r, d, h, m => by
    simp only [PyData.showableAll, Bool.and_eq_true] at h
    rcases List.mem_cons.mp m with e | m
    · rw [e]
      exact h.1
    · exact showableAll_mem h.2 m
/-- a list's or a tuple's item -/
theorem Fit.item {n c : Nat} {xs : List PyData} {d : PyData} (f : Fit (n + 1) c (.list xs) ∨ Fit (n + 1) c (.tuple xs)) (m : d ∈ xs) : Fit n c d := by
  rcases f with f | f
  · obtain ⟨a, b, e⟩ := f
    simp only [PyData.showable, PyData.depth, cost] at a b e
    have h1 := depthAll_mem m
    have h2 := costAll_mem m
    exact ⟨showableAll_mem a m, by omega, by omega⟩
  · obtain ⟨a, b, e⟩ := f
    simp only [PyData.showable, PyData.depth, cost] at a b e
    have h1 := depthAll_mem m
    have h2 := costAll_mem m
    exact ⟨showableAll_mem a m, by omega, by omega⟩
/-! ### repr of any data -/
/-- repr of a value that is data: its text -/
def rReprA (K : PySem.W.Frag) : List V → Hp → VK → Prop := fun xs H Q => ∃ (v : V) (d : PyData), xs = [v] ∧ Dd K H v d ∧ Fit 64 15000000 d ∧ Q (.str d.shown) H
section
variable {X : Cx}
theorem call_reprA {k : Nat} (hr : Room k X.A) (g : X.A.guards = some []) (M : HasMods X.base) : CallR X (.builtin "repr") (rReprA X.K) := by
  intro pins s σ H xs us Q I r h
  obtain ⟨v, d, rfl, dd, ⟨hs, hdp, hco⟩, q⟩ := h
  have hsz : d.shown.length ≤ sizeLine := Nat.le_trans (shown_cost d) (Nat.le_trans hco (by decide))
  cases dd with
  | non =>
    obtain ⟨u, rfl, r1⟩ := vals1 r
    cases (show u = Value.none from r1)
    exact PySem.P.repr_of_none ⟨.str _, H, I.tok _, ⟨_, rfl⟩, by rw [PyData.shown_none] at q; exact q⟩
  | bl b =>
    obtain ⟨u, rfl, r1⟩ := vals1 r
    cases (show u = Value.bool b from r1)
    refine PySem.P.repr_of_bool ⟨.str _, H, I.tok _, ⟨_, rfl⟩, ?_⟩
    rw [PyData.shown_bool] at q
    cases b <;> exact q
  | num i =>
    obtain ⟨u, rfl, t, rfl⟩ := vals1 r
    refine PySem.P.repr_of_int (by simpa [PyData.showable] using hs) ⟨.str _, H, I.tok _, ⟨_, rfl⟩, ?_⟩
    rw [PyData.shown_int] at q
    exact q
  | str x =>
    obtain ⟨u, rfl, t, rfl⟩ := vals1 r
    rw [PyData.shown_str] at hsz q
    exact PySem.P.repr_of_str ⟨.str _, H, I.tok _, ⟨_, rfl⟩, q⟩ hsz
  | lst e h => exact call_reprD hr g M pins s σ H _ us Q I r ⟨_, _, rfl, .lst e h, hs, hdp, hsz, q⟩
  | tup e h => exact call_reprD hr g M pins s σ H _ us Q I r ⟨_, _, rfl, .tup e h, hs, hdp, hsz, q⟩
  | dic e h => exact call_reprD hr g M pins s σ H _ us Q I r ⟨_, _, rfl, .dic e h, hs, hdp, hsz, q⟩
end
theorem r_reprA {K : PySem.W.Frag} {H : Hp} {Q : VK} {v : V} {d : PyData} (e : Dd K H v d) (f : Fit 64 15000000 d) (h : Q (.str d.shown) H) : rReprA K [v] H Q := ⟨v, d, rfl, e, f, h⟩
/-- what isinstance tells of data -/
def seqD : PyData → Bool
  | .list _ => true
  | .tuple _ => true
  | _ => false
theorem dd_seq {K : PySem.W.Frag} {H : Hp} {v : V} {d : PyData} (h : Dd K H v d) : ∃ t : Value, TyX K H v t ∧ PySem.W.kitAny K t [.type "list", .type "tuple"] = some (seqD d) := by
  cases h with
  | non => exact ⟨_, .base .non, kit2 (x := false) (y := false) (by decide +kernel) (by decide +kernel)⟩
  | bl b => exact ⟨_, .base (.bl b), kit2 (x := false) (y := false) (by decide +kernel) (by decide +kernel)⟩
  | num i => exact ⟨_, .base (.int i), kit2 (x := false) (y := false) (by decide +kernel) (by decide +kernel)⟩
  | str x => exact ⟨_, .base (.str x), kit2 (x := false) (y := false) (by decide +kernel) (by decide +kernel)⟩
  | lst e _ =>
    have k := kit2 (K := K) (t := "list") (a := "list") (b := "tuple") (x := true) (y := false) (by decide +kernel) (by decide +kernel)
    rcases e with (e | ⟨o, e⟩) | ⟨o, _, _, e, c, _⟩
    · exact ⟨_, .base (.lst e), k⟩
    · exact ⟨_, .base (.frz e), k⟩
    · exact ⟨_, .kList e c, k⟩
  | tup e _ =>
    have k := kit2 (K := K) (t := "tuple") (a := "list") (b := "tuple") (x := false) (y := true) (by decide +kernel) (by decide +kernel)
    rcases e with (e | ⟨o, e⟩) | ⟨o, _, _, e, c, _⟩
    · exact ⟨_, .base (.tup e), k⟩
    · exact ⟨_, .fTuple e, k⟩
    · exact ⟨_, .kTuple e c, k⟩
  | dic e _ => exact ⟨_, .base (.dK e), kit2 (x := false) (y := false) (by decide +kernel) (by decide +kernel)⟩
def isLst : PyData → Bool
  | .list _ => true
  | _ => false
def isTup : PyData → Bool
  | .tuple _ => true
  | _ => false
theorem dd_list {K : PySem.W.Frag} {H : Hp} {v : V} {d : PyData} (h : Dd K H v d) : ∃ t : Value, TyX K H v t ∧ PySem.W.kitOne K t (.type "list") = some (isLst d) ∧ PySem.W.kitOne K t (.type "tuple") = some (isTup d) := by
  cases h with
  | non => exact ⟨_, .base .non, kit_ty (r := false) (by decide +kernel), kit_ty (r := false) (by decide +kernel)⟩
  | bl b => exact ⟨_, .base (.bl b), kit_ty (r := false) (by decide +kernel), kit_ty (r := false) (by decide +kernel)⟩
  | num i => exact ⟨_, .base (.int i), kit_ty (r := false) (by decide +kernel), kit_ty (r := false) (by decide +kernel)⟩
  | str x => exact ⟨_, .base (.str x), kit_ty (r := false) (by decide +kernel), kit_ty (r := false) (by decide +kernel)⟩
  | lst e _ =>
    have k1 := kit_ty (K := K) (a := "list") (b := "list") (r := true) (by decide +kernel)
    have k2 := kit_ty (K := K) (a := "list") (b := "tuple") (r := false) (by decide +kernel)
    rcases e with (e | ⟨o, e⟩) | ⟨o, _, _, e, c, _⟩
    · exact ⟨_, .base (.lst e), k1, k2⟩
    · exact ⟨_, .base (.frz e), k1, k2⟩
    · exact ⟨_, .kList e c, k1, k2⟩
  | tup e _ =>
    have k1 := kit_ty (K := K) (a := "tuple") (b := "list") (r := false) (by decide +kernel)
    have k2 := kit_ty (K := K) (a := "tuple") (b := "tuple") (r := true) (by decide +kernel)
    rcases e with (e | ⟨o, e⟩) | ⟨o, _, _, e, c, _⟩
    · exact ⟨_, .base (.tup e), k1, k2⟩
    · exact ⟨_, .fTuple e, k1, k2⟩
    · exact ⟨_, .kTuple e c, k1, k2⟩
  | dic e _ => exact ⟨_, .base (.dK e), kit_ty (r := false) (by decide +kernel), kit_ty (r := false) (by decide +kernel)⟩
end Rp
namespace Rp
open PySem PySem.Spec PyProof.Rows L2
/-- data, with tuples for lists; S: what may change meanwhile -/
def spFix (K : PySem.W.Frag) (n : Nat) : Sp := fun vs H Q _ => ∃ (S : List Addr) (v : V) (d : PyData), vs = [v] ∧ (∀ b ∈ S, H b ≠ none) ∧ Dd K (hid S H) v d ∧ d.depth < n ∧ cost d ≤ 15000000 ∧
  ∀ (H' : Hp) (v' : V), Same H H' → Dd K (hid S H') v' (fixD d) → Q v' H'
section
variable {S : List Addr} {H H1 G : Hp} {D p b : Addr} {o : HO}
theorem Keep.own : Keep [D] H (upd H D o) := fun b u n e => by
  rw [upd_ne fun z => n (by simp [z])]
  exact e
theorem Keep.own2 (k : Keep [D] H G) : Keep [D] H (upd G D o) := fun b u n e => by
  rw [upd_ne fun z => n (by simp [z])]
  exact k b u n e
theorem hid_new (hD : H1 D = none) (k : Keep [D] H1 G) : Same (hid S H1) (hid (D :: S) G) := fun b u e => by
  obtain ⟨n, e'⟩ := hid_some e
  have nb : b ≠ D := ne_of_none e' hD
  rw [hid_out (by simp [nb, n])]
  exact k b u (by simp [nb]) e'
theorem live_new {o : HO} (hS : ∀ b ∈ S, H1 b ≠ none) (hD : H1 D = none) (k : Keep [D] H1 G) (e : G D = some o) : ∀ b ∈ D :: S, G b ≠ none := fun b m => by
  rcases List.mem_cons.mp m with z | m
  · rw [z, e]
    exact fun q => nomatch q
  · intro q
    cases z : H1 b with
    | none => exact hS b m z
    | some u =>
      have nb : b ≠ D := ne_of_none z hD
      rw [k b u (by simp [nb]) z] at q
      cases q
theorem live_same (hS : ∀ b ∈ S, H b ≠ none) (s : Same H G) : ∀ b ∈ S, G b ≠ none := fun b m q => by
  cases z : H b with
  | none => exact hS b m z
  | some u =>
    rw [s b u z] at q
    cases q
theorem live_not (hS : ∀ b ∈ S, H b ≠ none) (h : H p = none) : p ∉ S := fun m => hS p m h
theorem fixAll_take {ds : List PyData} {i : Nat} {d : PyData} (h : ds[i]? = some d) : fixAll (ds.take (i + 1)) = fixAll (ds.take i) ++ [fixD d] := by
  rw [fixAll_map, fixAll_map, List.take_succ, h, Option.toList_some, List.map_append]
  rfl
theorem len_cost {ds : List PyData} {c : Nat} (h : costAll ds ≤ c) (hc : c ≤ 15000000) : ds.length < sizeLine := by
  have := costAll_len ds
  exact Nat.lt_of_lt_of_le (m := 8000000) (by omega) (len_ok rfl)
end
end Rp
namespace Rp
open PySem PySem.Spec PyProof.Rows L2
section
variable {K : PySem.W.Frag} {S : List Addr} {H H1 G : Hp} {q p b l : Addr} {o u : HO} {v : V} {d : PyData} {n c : Nat}
theorem notin (hS : ∀ b ∈ S, H b ≠ none) (B : But q H G) (np : p ≠ q) (hp : G p = none) : p ∉ S := fun m => by
  cases z : H p with
  | none => exact hS p m z
  | some o =>
    rw [B p o np z] at hp
    cases hp
theorem dd_but (hq : q ∈ S) (B : But q H G) (h : Dd K (hid S H) v d) : Dd K (hid S G) v d := dd_same ((Keep.but B).sub fun b m => by rw [List.mem_singleton.mp m]; exact hq).hid h
theorem live_but {c0 : Addr} {nums : List Int} {lap : Nat} (hS : ∀ b ∈ S, H b ≠ none) (B : But q H G) (D : Dr q c0 nums lap G) : ∀ b ∈ S, G b ≠ none := fun b m z => by
  by_cases e : b = q
  · obtain ⟨_, ⟨_, h⟩, _⟩ := D
    rw [e, h] at z
    cases z
  · cases y : H b with
    | none => exact hS b m y
    | some o =>
      rw [B b o e y] at z
      cases z
theorem at_put (hG : upd H p o = G) (n : l ≠ p) : G l = H l := by rw [← hG, upd_ne n]
/-- data in a row, fit to be shown -/
def FitA (n c : Nat) (ds : List PyData) : Prop := PyData.showableAll ds = true ∧ PyData.depthAll ds ≤ n ∧ costAll ds ≤ c
theorem FitA.nil : FitA n c [] := ⟨by simp only [PyData.showableAll], by simp only [PyData.depthAll]; exact Nat.zero_le _, by simp only [costAll]; exact Nat.zero_le _⟩
theorem FitA.cons {e : Nat} {ds : List PyData} (h : Fit n c d) (t : FitA n e ds) : FitA n (c + 2 + e) (d :: ds) := by
  obtain ⟨a, b, f⟩ := t
  refine ⟨by simp only [PyData.showableAll, h.sh, a]; rfl, ?_, ?_⟩
  · simp only [PyData.depthAll]
    exact Nat.max_le.mpr ⟨h.dp, b⟩
  · simp only [costAll]
    have := h.co
    omega
theorem FitA.app {e : Nat} : ∀ {ds : List PyData} {m : Nat}, FitA n m ds → Fit n e d → FitA n (m + (e + 2)) (ds ++ [d])
  | [], m, _, f => by
    obtain ⟨a, b, g⟩ := FitA.cons (e := 0) f FitA.nil
    exact ⟨a, b, by show costAll [d] ≤ _; omega⟩
  | x :: r, m, ⟨a, b, g⟩, f => by
    simp only [PyData.showableAll, Bool.and_eq_true] at a
    simp only [PyData.depthAll] at b
    simp only [costAll] at g
    obtain ⟨a', b', g'⟩ := FitA.app (ds := r) (m := m - (cost x + 2)) ⟨a.2, by omega, by omega⟩ f
    refine ⟨?_, ?_, ?_⟩
    · show PyData.showableAll (x :: (r ++ [d])) = true
      simp only [PyData.showableAll, a.1, a']
      rfl
    · show PyData.depthAll (x :: (r ++ [d])) ≤ n
      simp only [PyData.depthAll]
      omega
    · show costAll (x :: (r ++ [d])) ≤ _
      simp only [costAll]
      omega
theorem FitA.le {m e : Nat} {ds : List PyData} (f : FitA n c ds) (h : n ≤ m) (k : c ≤ e) : FitA m e ds := ⟨f.1, Nat.le_trans f.2.1 h, Nat.le_trans f.2.2 k⟩
theorem FitA.list {ds : List PyData} (f : FitA n c ds) : Fit (n + 1) (3 + c) (.list ds) := by
  obtain ⟨a, b, e⟩ := f
  exact ⟨by simp only [PyData.showable]; exact a, by simp only [PyData.depth]; omega, by simp only [cost]; omega⟩
theorem FitA.tuple {ds : List PyData} (f : FitA n c ds) : Fit (n + 1) (3 + c) (.tuple ds) := by
  obtain ⟨a, b, e⟩ := f
  exact ⟨by simp only [PyData.showable]; exact a, by simp only [PyData.depth]; omega, by simp only [cost]; omega⟩
theorem fit_int {i : Int} (h : i.natAbs < 10 ^ 12) : Fit n 13 (.int i) :=
  ⟨by simp only [PyData.showable, decide_eq_true_eq]; exact log_ok (Nat.lt_of_lt_of_le h (by decide)), by simp only [PyData.depth]; exact Nat.zero_le _, by simp only [cost]; exact PyData.shown_int_le h⟩
end
end Rp
namespace Rp
open PySem
theorem leaf_fit {n c : Nat} {d : PyData} (a : d.showable = true) (b : d.depth ≤ n) (e : cost d ≤ c) : Fit n c d := ⟨a, b, e⟩
end Rp
namespace Rp
open PySem PySem.Spec PyProof.Rows L2
section
variable {K : PySem.W.Frag} {H : Hp} {q c p : Addr} {ns : List Int} {lap : Nat} {Q : VK} {xs : List V} {i : Int} {v : V}
theorem live_q (D : Dr q c ns lap H) : ∀ b ∈ [q], H b ≠ none := fun b m z => by
  obtain ⟨_, ⟨_, h⟩, _⟩ := D
  rw [List.mem_singleton.mp m, h] at z
  cases z
theorem r_ixT (hs : SqT K H p xs) (ha : atI xs i = some v) (h : Q v H) : rIxT K (.ref p) (.int i) H Q := ⟨p, xs, i, v, rfl, rfl, hs, ha, h⟩
end
end Rp
namespace Rp
open PySem PySem.Spec PyProof.Rows L2
/-! ### a caught error that outlives its suite -/
/-- the error at a: its class, its own dict -/
def ErO (a : Addr) (cls : Value) (d : Option Addr) : HO := .ext fun h => ∃ (oe : Obj) (vs : Array Value), h.get? a = some oe ∧ Zc cls d oe ∧ oe.data = .fields vs
theorem erO_ok {P : Program} {w : World} {H : Hp} {h : Heap} {a : Addr} {cls : Value} {d : Option Addr} {oe : Obj} {vs : Array Value} (e : h.get? a = some oe) (z : Zc cls d oe) (f : oe.data = .fields vs) : ObjOk P w H h a (ErO a cls d) :=
  ⟨⟨oe, vs, e, z, f⟩, ⟨oe, e⟩, fun _ _ ⟨o, us, e1, z1, f1⟩ st => ⟨o, us, st _ e1, z1, f1⟩⟩
theorem inv_track {X : Cx} {pins : List (Addr × Obj)} {σ : L2.St} {H : Hp} {s : Shared} {a : Addr} {o : HO} (I : Inv X pins σ H s) (n : H a = none) (new : ObjOk X.prog X.w (upd H a o) s.heap a o) (fresh : X.s_0.heap.get? a = none)
    (nL : a ≠ X.env.locals) (nC : ∀ x c, X.env.cells.lookup x = some c → c ≠ a) (np : ∀ p ∈ X.pn ++ pins, p.1 ≠ a) : Inv X pins σ (upd H a o) s := by
  have some_ : ∀ {b u}, H b = some u → b ≠ a := fun e => ne_of_none e n
  have keep_ : ∀ {b u}, H b = some u → upd H a o b = some u := fun e => by rw [upd_ne (some_ e)]; exact e
  refine ⟨I.ok, I.os, I.bare, ⟨I.base.keep, I.base.slot, fun b ob e n0 hx => ?_, I.base.there, fun b xs e => keep_ (I.base.tups b xs e), fun b ob u e => keep_ (I.base.frzs b ob u e), fun b ps e => ?_⟩, I.loc, I.cell, ?_, fun y c e => ?_, fun p hp => ?_, fun b u e => ?_, I.len⟩
  · rw [upd_ne (fun z => by rw [z, fresh] at e; cases e)]
    exact I.base.free b ob e n0 hx
  · obtain ⟨more, z⟩ := I.base.tbls b ps e
    exact ⟨more, keep_ z⟩
  · rw [upd_ne (Ne.symm nL)]
    exact I.free
  · rw [upd_ne (nC y c e)]
    exact I.freeC y c e
  · obtain ⟨h1, h2, h3⟩ := I.pin p hp
    exact ⟨h1, by rw [upd_ne (np p hp)]; exact h2, h3⟩
  · by_cases hb : b = a
    · subst hb
      rw [upd_same] at e
      cases e
      exact new
    · rw [upd_ne hb] at e
      exact (I.hok b u e).stay (fun _ _ _ q => q) (fun _ q => keep_ q) fun _ _ q => keep_ q
/-- what 'except x as n' wishes where the error is held on: as wAs, and behind the suite the error is tracked -/
def wAsT (K : PySem.W.Frag) (c : Value) (i : Nat) (ts : Addr → Value → Option Addr → TS) (Wout : WX) (D : Ends) : WX := fun cls d σ H =>
  ∃ b, PySem.W.exmOne K cls c = some b ∧ (b = true → ∀ a, H a = none → ts a cls d { nx := fun σ' H' => D.nx (σ'.set i none) (upd H' a (ErO a cls d)), rt := D.rt, bk := fun σ' H' => D.bk (σ'.set i none) H', ct := fun σ' H' => D.ct (σ'.set i none) H' } (σ.set i (some (.ref a))) H) ∧
    (b = false → Wout cls d σ H)
/-- a place that nothing of the state before knows -/
structure Unseen (X : Cx) (pins : List (Addr × Obj)) (a : Addr) : Prop where
  old : X.s_0.heap.get? a = none
  loc : a ≠ X.env.locals
  fs : a ∉ X.fs
  cel : ∀ x c, X.env.cells.lookup x = some c → c ≠ a
  pin : ∀ p ∈ X.pn ++ pins, p.1 ≠ a
/-- an error in flight stands where nothing stood -/
theorem unseen {X : Cx} {pins : List (Addr × Obj)} {σ : L2.St} {H : Hp} {s : Shared} {B h : Heap} {a : Addr} {o : Obj} {vs : Array Value} (I : Inv X pins σ H s) (st : X.stack = X.env :: X.outer) (fr : X.env.frame = some X.env.locals) (ex : X.ex = [])
    (sub : ∀ b u, s.heap.get? b = some u → b ∉ frs X.stack → B.get? b = some u) (new : B.get? a = none) (ff : h.FunFrames B (X.env :: X.outer)) (at_ : h.get? a = some o) (dt : o.data = .fields vs) : Unseen X pins a := by
  have off : a ∉ frs (X.env :: X.outer) := by
    intro m
    obtain ⟨_, u, eu, no⟩ := ff.mem m
    cases at_.symm.trans eu
    exact no vs dt
  have none_ : ∀ u, s.heap.get? a = some u → False := by
    intro u e
    have z := sub a u e (st ▸ off)
    cases new.symm.trans z
  constructor
  · cases e : X.s_0.heap.get? a with
    | none => rfl
    | some u =>
      obtain ⟨u', e'⟩ := I.base.there a u e (by rw [ex]; simp)
      exact (none_ u' e').elim
  · rintro rfl
    exact off (List.mem_filterMap.mpr ⟨X.env, .head _, fr⟩)
  · intro m
    obtain ⟨e, me, q⟩ := List.mem_filterMap.mp m
    exact off (List.mem_filterMap.mpr ⟨e, .tail _ me, q⟩)
  · rintro y c e rfl
    obtain ⟨_, u, eu, _⟩ := I.cell y c e
    exact none_ u eu
  · rintro p m rfl
    exact none_ _ (I.pin p m).1
section
variable {X : Cx} {x n : Str} {c : Value} {i : Nat} {body suite : List Stmt} {b₀ : Stmt} {np pos pos' : Pos} {tb : WX → TS} {ts : Addr → Value → Option Addr → TS} {Wout : WX}
/-- the clause's name goes, and the error is tracked from then on -/
theorem hold_on {pins : List (Addr × Obj)} {σ : L2.St} {H : Hp} {s : Shared} {a : Addr} {oe : Obj} {vs : Array Value} {cls : Value} {d : Option Addr} {Q : Unit → Shared → Prop} {Z : Value → Shared → Prop} (ok : X.Ok) (u : Unseen X pins a) (nd : X.N.Nodup) (at_ : X.N[i]? = some n) (lc : X.env.kindOf n = some .local)
    (z : Zc cls d oe) (dt : oe.data = .fields vs) (S : Inv (X.suite a ((a, oe) :: (X.pn ++ pins))) [] σ H s) (k : ∀ t, Inv X pins (σ.set i none) (upd H a (ErO a cls d)) t → Q () t) :
    wpAny (model X.prog X.w) X.A (do bindName X.env n .none; unbindBehindTheSuite X.env n pos) Q Z s := by
  apply gone_ok (X := X.suite a ((a, oe) :: (X.pn ++ pins))) S nd at_ lc
  intro t S'
  have pa := S'.pin (a, oe) (List.mem_append_left _ (.head _))
  exact k t (inv_track (S'.unsuite ok) pa.2.1 (erO_ok pa.1 z dt) u.old u.loc u.cel u.pin)
theorem ps_tryT (st : X.stack = X.env :: X.outer) (fr : X.env.frame = some X.env.locals) (ex : X.ex = []) (nd : X.N.Nodup) (at_ : X.N[i]? = some n) (lc : X.env.kindOf n = some .local) (nm : Names X x c) (tk : Takes X Wout)
    (B : ∀ (W : WX) (pn : List (Addr × Obj)) (xe : Value → Shared → Prop), Takes (X.tr pn xe) W → PassesOwn (model X.prog X.w) X.A X.env xe → PSs (X.tr pn xe) body (tb W))
    (S : ∀ (a : Addr) (oe : Obj) (cls : Value) (d : Option Addr) (pn : List (Addr × Obj)), Zc cls d oe → (∃ vs, oe.data = .fields vs) → PSs (X.suite a ((a, oe) :: pn)) (b₀ :: suite) (ts a cls d)) :
    PS X (.Try body [.ExceptHandler (some (.Name x np)) (some n) (b₀ :: suite) pos'] [] [] pos) (fun D σ H => tb (wAsT X.K c i ts Wout D) D σ H) := by
  constructor
  intro pins s σ H D I q
  have ok := I.ok
  have top : X.A.frames = some (X.env :: X.outer) := ok.frames.trans (congrArg some st)
  have own := B (wAsT X.K c i ts Wout D) (X.pn ++ pins) (fun e s1 => wpAny (model X.prog X.w) X.A (noteFrame e X.env) (fun _ s2 => wpAny (model X.prog X.w) X.A (setFlight e none) (fun _ s3 =>
    wpAny (model X.prog X.w) X.A (handleBy e X.env [.ExceptHandler (some (.Name x np)) (some n) (b₀ :: suite) pos']) (SP X pins D) X.xe s3) X.xe s2) X.xe s1) ?_ PassesOwn.looking
  · apply wpAny_Try_except
    apply wpAny_mono (own.run [] s σ H D (I.toTry _) q)
    · intro fl t z
      rcases fl with _ | _ | _ | v
      · obtain ⟨σ', G, J, r⟩ := z
        exact wpAny_execs_nil ⟨σ', G, J.ofTry ok, r⟩
      · obtain ⟨σ', G, J, r⟩ := z
        exact ⟨σ', G, J.ofTry ok, r⟩
      · obtain ⟨σ', G, J, r⟩ := z
        exact ⟨σ', G, J.ofTry ok, r⟩
      · obtain ⟨v', σ', G, J, r⟩ := z
        exact ⟨v', σ', G, J.ofTry ok, r⟩
    · intro e t z
      exact z
  -- an error comes out of the body
  rintro u t ⟨a, B0, sI, pI, σI, G, cls, d, rfl, JI, sub, up, sky, nG, os, bare, b, eb, yes, no⟩
  have J := JI.ofTry (pins := pins) ok
  rw [st] at sky
  show wpAny (model X.prog X.w) X.A (noteFrame (.ref a) X.env) _ _ _
  apply Sky.land Zc.steady top fr sky
  intro h1 fly1 up1
  obtain ⟨o1, v1, e1, z1, d1⟩ := fly1.there
  have un := unseen J st fr ex sub fly1.2.1 fly1.2.2.1 e1 d1
  have J1 : Inv X pins σI G { t with heap := h1 } := J.landed sub fly1.1 (up.trans up1) os bare
  have T1 := J1.suite e1 d1 nG un.loc un.fs
  refine wpAny_handleBy_cons (codeAny_handlers_test ?_) (fun z => nomatch z)
  -- the clause's class
  have ty : PySem.W.Looks (model X.prog X.w) h1 (typeOf (.ref a)) cls := fun _ _ _ _ k z => wpAny_typeOf_ref (k _ _ e1) (z1.1.symm ▸ z)
  have is_ := PySem.W.exm_one (M := model X.prog X.w) J1.kIn ty eb
  have named : ∀ {Q E : Value → Shared → Prop}, Q c { t with heap := h1 } → wpAny (model X.prog X.w) (X.A.mark (some (.ref a))) (eval (.Name x np) X.env) Q E { t with heap := h1 } := by
    intro Q E z
    rcases nm with ⟨g, db, m | ⟨m, v, nn⟩⟩
    · exact ld_glob (X := X.suite a ((a, o1) :: (X.pn ++ pins))) T1 g m z db
    · exact ld_blt (X := X.suite a ((a, o1) :: (X.pn ++ pins))) T1 g m v z nn db
  refine named (is_.here ?_)
  cases b with
  | false =>
    show wpAny _ X.A (handleBy (.ref a) X.env []) _ _ _
    apply wpAny_handleBy_nil
    obtain ⟨_, _, _, o2, v2, T, _, _, e2, _, d2, w2, _⟩ := id fly1
    have away : wpAny (model X.prog X.w) X.A (setFlight (.ref a) X.env.frame) (fun _ s4 => wpAny (model X.prog X.w) X.A (throw (.ref a) : Sem Flow) (SP X pins D) X.xe s4) X.xe { t with heap := h1 } := by
      rw [fr]
      apply HandSPX.setFlight_upZ fly1
      intro h2 sky2 up2
      apply wpAny_throw
      apply tk
      exact ⟨a, B0, sI, pins, σI, G, cls, d, rfl, J, sub, (up.trans up1).trans up2, .inr (.inr (st.symm ▸ sky2)), nG, os, bare, no rfl⟩
    unfold PySem.passOn
    apply wpAny_bind
    apply wpAny_field e2 d2 w2
    have ne : ¬ ((Value.ref T == Value.none) = true) := by simp
    rw [if_neg ne]
    first
      | exact wpAny_bind (wpAny_pure (wpAny_bind away))
      | exact wpAny_bind away
  | true =>
    apply codeAny_handlers_suite_as
    apply HandSPX.lands_againZ fly1
    intro h2 fly2 up2
    obtain ⟨o2, v2, e2, z2, d2⟩ := fly2.there
    have J2 : Inv X pins σI G { t with heap := h2 } := J.landed sub fly2.1 ((up.trans up1).trans up2) os bare
    have T2 := J2.suite e2 d2 nG un.loc un.fs
    refine store_ok (X := X.suite a ((a, o2) :: (X.pn ++ pins))) (v := .ref a) T2 nd at_ (.inl lc) rfl (fun t5 T5 => ?_) (.inr lc)
    apply wpAny_mono ((S a o2 cls d (X.pn ++ pins) z2 ⟨_, d2⟩).run [] t5 _ G _ T5 (yes rfl a nG))
    · intro fl t6 z
      rcases fl with _ | _ | _ | v
      · obtain ⟨σ6, G6, T6, r⟩ := z
        exact hold_on ok un nd at_ lc z2 d2 T6 fun t7 J7 => ⟨_, _, J7, r⟩
      · obtain ⟨σ6, G6, T6, r⟩ := z
        exact gone_ok (T6.unsuite ok) nd at_ lc fun t7 J7 => ⟨_, _, J7, r⟩
      · obtain ⟨σ6, G6, T6, r⟩ := z
        exact gone_ok (T6.unsuite ok) nd at_ lc fun t7 J7 => ⟨_, _, J7, r⟩
      · obtain ⟨w6, σ6, G6, T6, r6, r⟩ := z
        exact gone_ok (T6.unsuite ok) nd at_ lc fun t7 J7 => ⟨_, _, _, J7, r6, r⟩
    · intro e t6 z
      exact z.elim
end
/-! ### what is asked of a tracked error -/
/-- isinstance(e, c), e a tracked error -/
def rIsT (K : PySem.W.Frag) : List V → Hp → VK → Prop := fun xs H Q => ∃ (a D dx : Addr) (fs : List (Str × V)) (c : V) (cv : Value) (b : Bool), xs = [.ref a, c] ∧ ExcC K D ∧ H a = some (ErO a (.ref D) (some dx)) ∧ H dx = some (.xd fs) ∧
  (∀ u, RelV c u → u = cv) ∧ PySem.W.kitOne K (.ref D) cv = some b ∧ Q (.bl b) H
theorem erO_at {X : Cx} {pins : List (Addr × Obj)} {σ : L2.St} {H : Hp} {s : Shared} {a D dx : Addr} {fs : List (Str × V)} (I : Inv X pins σ H s) (h : H a = some (ErO a (.ref D) (some dx))) (hx : H dx = some (.xd fs)) :
    ∃ oe od, PySem.W.InstAt s.heap a oe D (some od) ∧ s.heap.get? dx = some od := by
  obtain ⟨⟨oe, vs, e, z, f⟩, _, _⟩ := I.hok a _ h
  obtain ⟨mA, hns, hr⟩ := I.hok dx _ hx
  obtain ⟨od, ho, _⟩ := lookIn_ns hns
  exact ⟨oe, od, ⟨e, z.1, by unfold PySem.W.notCls; rw [f] <;> rfl, by rw [z.2]; exact ho⟩, ho⟩
theorem call_isT {X : Cx} : CallR X (.builtin "isinstance") (rIsT X.K) := by
  intro pins s σ H xs us Q I r h
  obtain ⟨a, D, dx, fs, c, cv, b, rfl, C, ha, hd, hcv, e, q⟩ := h
  cases r with
  | cons rx rr =>
    cases rr with
    | cons rt rr =>
      cases rr
      cases rx
      have ec := hcv _ rt
      subst ec
      obtain ⟨oe, od, J, _⟩ := erO_at I ha hd
      have hcl : (PySem.W.clsIn X.K D).isSome = true := by
        obtain ⟨cd, hc, _⟩ := PySem.W.any_some C.hd
        rw [hc]
        rfl
      exact PySem.W.kia_one (PySem.W.kitx_exc (od := some od) hcl C.hg C.hk C.hs C.ha C.hn C.ht C.hm) I.kIn J e (fun z => nomatch z) fun tk => ⟨.bl b, H, I.kept (t' := tk) fun _ _ z => z, rfl, q⟩
/-- e.n, e a tracked error -/
def tXt (K : PySem.W.Frag) (f : Str) (te : TE) : TE := fun σ H Q => te σ H fun x H1 => ∃ (a C dd : Addr) (fs : List (Str × V)) (v : V), x = .ref a ∧ XfC K C ∧ PySem.W.findIn K (.ref C) f = some none ∧ H1 a = some (ErO a (.ref C) (some dd)) ∧ H1 dd = some (.xd fs) ∧ fs.lookup f = some v ∧ Q v H1
theorem pe_xt {X : Cx} {e : Expr} {te : TE} {pos : Pos} {n : Str} (he : PE X e te) (hb : attributeBase e n X.env (eval e X.env) = eval e X.env := by rfl) : PE X (.Attribute e n pos) (tXt X.K n te) := by
  refine ⟨fun pins s σ H Q I h => ?_⟩
  refine attr_of hb (thn (he.run pins s σ H _ I h) fun u s1 hh => ?_)
  obtain ⟨x, H1, I1, rx, a, C, dd, fs, v, ex, T, hno, ha, hd, l, q⟩ := hh
  subst ex
  obtain rfl : u = Value.ref a := rx
  obtain ⟨oe, od, J, ho⟩ := erO_at I1 ha hd
  obtain ⟨mA, hns, hr⟩ := I1.hok dd _ hd
  obtain ⟨od', ho', hl⟩ := lookIn_ns hns
  rw [ho] at ho'
  cases ho'
  obtain ⟨w', hu, ru⟩ := RelO.some_of (v := v) (o := mA n) (by rw [← l]; exact hr n)
  exact HandSPX.exc_get I1.kIn J T.ga T.gg T.exC (PySem.W.findObj_own T.hdC hno rfl (by rw [hl, hu])) (handed_of ru) ⟨v, H1, I1.tok _, ru, q⟩
end Rp
namespace Rp
open PySem PySem.Spec PyProof.Rows L2 LamX
/-! ### lambdas with given values, handed to a def -/
/-- where a lambda's given values stand -/
def DvOk (dV : Value) (us : List Value) (H : Hp) (stk : List Env) (h : Heap) : Prop := (us = [] ∧ dV = .none) ∨ (us ≠ [] ∧ ∃ t, dV = .ref t ∧ h.get? t = some (PySem.W.kdv_tup us) ∧ H t = none ∧ t ∉ frs stk)
abbrev lamObj (X : Cx) (params : Arguments) (body : Expr) (scope : Scope) (dV doc pm : Value) (c' : Addr) (ctv : Value) : Obj := PySem.W.kdv_obj "<lambda>" (X.env.qual ++ "<lambda>") params (.expr body) scope (cloFrom X.env.cells scope.names []) dV doc pm c' ctv
section
variable {X : Cx} {pins : List (Addr × Obj)} {σ : L2.St} {H : Hp} {s : Shared}
/-- a place that is not there yet is no frame's -/
theorem unframed (I : Inv X pins σ H s) {f : Addr} (h : s.heap.objs.size ≤ f) : f ∉ frs X.stack := by
  intro m
  cases I.stkSub _ m with
  | head => exact absurd I.lt (Nat.not_lt.mpr h)
  | tail _ z => exact I.nofs h z
theorem lam_tail {T : List (Addr × Str)} {c P : Addr} {params : Arguments} {body : Expr} {scope : Scope} {pos : Pos} {line : Nat} {dV : Value} {us : List Value} {Z : Value → Shared → Prop} {Q : Value → Shared → Prop} (I : Inv X pins σ H s) (TB : TabB X.base X.mg c P) (cd : X.env.code = .ref c)
    (mem : (P, X.env.qual ++ "<lambda>") ∈ T) (one : ∀ p ∈ T, p.1 = P → p.2 = X.env.qual ++ "<lambda>") (tabs : Tabs T H) (cap : ∀ y ∈ scope.names, y.2 = .free → ∃ c, X.env.cells.lookup y.1 = some c) (dv : DvOk dV us H X.stack s.heap)
    (k : ∀ (f c' : Addr) (doc pm ctv : Value) (G : Hp) (t : Shared), Inv X pins σ G t → ExtN H G → Tabs T G → t.heap.get? f = some (lamObj X params body scope dV doc pm c' ctv) → G f = none → f ∉ frs X.stack → DvOk dV us G X.stack t.heap → G c' = some (CodeO c' (X.env.qual ++ "<lambda>")) → Q (.ref f) t) :
    wpAny (model X.prog X.w) X.A (makeTail "<lambda>" (X.env.qual ++ "<lambda>") params (.expr body) scope X.env dV .none none pos line) Q Z s := by
  obtain ⟨ps, isP, trip, told⟩ := tabs _ mem
  have atP : s.heap.get? P = some { cls := .none, data := .fields ps } := I.hok P _ isP
  have clo := closure_ok cap
  have names := I.mod.glob.keeps I.bk
  have code := TB.code.keeps I.bk
  have blt : s.heap.BuiltinsAt X.mg P := TB.bm.keeps I.bk
  rcases found : codeAmong pos ps.toList with _ | cv
  · -- a code object is made, and noted in the table
    apply PySem.W.kdv_makeTail clo I.ok.glob names cd code atP trip found TB.gP blt
    rintro c' ctv doc h tk other fresh lt ⟨c2, oc, vs, t, rfl', hoc, dat, nm⟩ tab
    cases rfl'
    have nc : H c' = none := I.hok.fresh fresh
    have le : s.heap.objs.size ≤ h.objs.size := Nat.le_trans fresh (Nat.le_of_lt lt)
    have cP : P ≠ c' := ne_of_none isP nc
    have J := inv_table (q := X.env.qual ++ "<lambda>") (t' := tk) (h' := h.push (lamObj X params body scope dV doc ((X.mg "__name__").getD .none) c' ctv)) I isP (fun b o n e => Heap.get?_push_of_some _ (other b o n e)) (Heap.get?_push_of_some _ tab) fresh ⟨oc, vs, t, Heap.get?_push_of_some _ hoc, dat, nm⟩
    generalize hG : upd (upd H P _) c' _ = G at J
    have Gc : G c' = some (CodeO c' (X.env.qual ++ "<lambda>")) := by rw [← hG, upd_same]
    have GP : G P = some (.tbl (ps ++ #[rawInt pos.line, rawInt pos.col, .ref c'])) := by rw [← hG, upd_ne cP, upd_same]
    have Go : ∀ b, b ≠ P → b ≠ c' → G b = H b := fun b n1 n2 => by rw [← hG, upd_ne n2, upd_ne n1]
    have grow : ExtN H G := by
      intro b o e n
      rw [Go b (by rintro rfl; exact n ps (Option.some.inj (e.symm.trans isP))) (ne_of_none e nc)]
      exact e
    have snoc : (ps ++ #[rawInt pos.line, rawInt pos.col, Value.ref c']).toList = ps.toList ++ [rawInt pos.line, rawInt pos.col, .ref c'] := by simp
    refine k h.objs.size c' doc _ ctv G _ J grow ?_ (Heap.get?_push_size _ rfl) ?_ (unframed I le) ?_ Gc
    · intro p mp
      by_cases eP : p.1 = P
      · rw [one p mp eP, eP]
        refine ⟨_, GP, snoc ▸ PySem.TriplesOk_snoc _ _ _ _ trip, ?_⟩
        intro at_ cv z
        rw [snoc] at z
        rcases among_app _ trip z with z | rfl
        · obtain ⟨c0, rfl, z0⟩ := told at_ cv z
          exact ⟨c0, rfl, grow _ _ z0 codeO_ne⟩
        · exact ⟨c', rfl, Gc⟩
      · obtain ⟨ps2, t1, t2, t3⟩ := tabs p mp
        refine ⟨ps2, (Go _ eP (ne_of_none t1 nc)).trans t1, t2, ?_⟩
        intro at_ cv z
        obtain ⟨c0, rfl, z0⟩ := t3 at_ cv z
        exact ⟨c0, rfl, grow _ _ z0 codeO_ne⟩
    · rw [Go _ (Nat.ne_of_gt (Nat.lt_of_lt_of_le (Heap.lt_size atP) le)) (Nat.ne_of_gt lt)]
      exact I.hok.fresh le
    · rcases dv with z | ⟨nz, t, rfl, et, nt, ft⟩
      · exact .inl z
      · have tP : t ≠ P := by
          rintro rfl
          cases nt.symm.trans isP
        exact .inr ⟨nz, t, rfl, Heap.get?_push_of_some _ (other _ _ tP et), (Go t tP (Nat.ne_of_lt (Nat.lt_of_lt_of_le (Heap.lt_size et) fresh))).trans nt, ft⟩
  · -- it is there already
    obtain ⟨c', rfl, isC⟩ := told pos cv found
    apply PySem.W.kdv_makeTailHit clo I.ok.glob names cd code atP trip found blt
    intro ctv doc h tk all le
    refine k h.objs.size c' doc _ ctv H _ (I.kept fun b o e => Heap.get?_push_of_some _ (all b o e)) (ExtN.refl H) tabs (Heap.get?_push_size _ rfl) (I.hok.fresh le) (unframed I le) ?_ isC
    exact dv.imp id fun ⟨nz, t, e1, e2, e3⟩ => ⟨nz, t, e1, Heap.get?_push_of_some _ (all _ _ e2), e3⟩
/-- what comes of a lambda's expression -/
def LamMade (X : Cx) (pins : List (Addr × Obj)) (σ : L2.St) (H : Hp) (T : List (Addr × Str)) (params : Arguments) (body : Expr) (scope : Scope) (dvs : List V) (f : Addr) (s' : Shared) : Prop := ∃ (c' : Addr) (dV doc pm ctv : Value) (us : List Value) (H1 : Hp), Inv X pins σ H1 s' ∧ ExtN H H1 ∧ Tabs T H1 ∧
  s'.heap.get? f = some (lamObj X params body scope dV doc pm c' ctv) ∧ H1 f = none ∧ f ∉ frs X.stack ∧ DvOk dV us H1 X.stack s'.heap ∧ Vals dvs us ∧ H1 c' = some (CodeO c' (X.env.qual ++ "<lambda>"))
theorem lam_make0 {T : List (Addr × Str)} {c P : Addr} {params : Arguments} {body : Expr} {scope : Scope} {pos : Pos} {E : Value → Shared → Prop} {Q : Value → Shared → Prop} (I : Inv X pins σ H s) (TB : TabB X.base X.mg c P) (hcode : X.env.code = .ref c)
    (hm : (P, X.env.qual ++ "<lambda>") ∈ T) (hu : ∀ p ∈ T, p.1 = P → p.2 = X.env.qual ++ "<lambda>") (hT : Tabs T H) (hdef : defaultsOf params X.env = ([], [])) (hfree : ∀ y ∈ scope.names, y.2 = .free → ∃ c, X.env.cells.lookup y.1 = some c)
    (h : ∀ (f : Addr) (s' : Shared), LamMade X pins σ H T params body scope [] f s' → Q (.ref f) s') :
    wpAny (model X.prog X.w) X.A (eval (.Lambda params body scope pos) X.env) Q E s := by
  refine PySem.W.kla_eval hdef ?_
  rw [makeFunction_eq]
  simp only [List.zip_nil_right, List.filterMap_nil, List.isEmpty_nil, if_true, pure_bind]
  exact lam_tail I TB hcode hm hu hT hfree (.inl ⟨rfl, rfl⟩) fun f c' doc pm ctv H1 s' I1 e T1 h1 h2 h3 h4 h5 => h f s' ⟨c', _, doc, pm, ctv, [], H1, I1, e, T1, h1, h2, h3, h4, .nil, h5⟩
theorem lam_make1 {T : List (Addr × Str)} {c P : Addr} {params : Arguments} {body : Expr} {scope : Scope} {pos : Pos} {i : Int} {j : Nat} {dp : Pos} {E : Value → Shared → Prop} {Q : Value → Shared → Prop} (I : Inv X pins σ H s) (TB : TabB X.base X.mg c P) (hcode : X.env.code = .ref c)
    (hm : (P, X.env.qual ++ "<lambda>") ∈ T) (hu : ∀ p ∈ T, p.1 = P → p.2 = X.env.qual ++ "<lambda>") (hT : Tabs T H) (hdef : params.defaults = [.Constant (.int i) j dp]) (hkd : params.kw_defaults = []) (hfree : ∀ y ∈ scope.names, y.2 = .free → ∃ c, X.env.cells.lookup y.1 = some c)
    (h : ∀ (f : Addr) (s' : Shared), LamMade X pins σ H T params body scope [.int i] f s' → Q (.ref f) s') :
    wpAny (model X.prog X.w) X.A (eval (.Lambda params body scope pos) X.env) Q E s := by
  refine PySem.W.kdv_lam (by rw [hdef]; rfl) hkd ?_
  rw [hdef]
  refine PySem.W.kdv_all1 (wpAny_Constant_int ?_)
  refine PySem.W.kdv_all0 ?_
  generalize hv : (Value.int i _) = v
  have rv : L2.RelV (.int i) v := by rw [← hv]; exact ⟨_, rfl⟩
  rw [makeFunction_eq]
  simp only [List.zip_nil_right, List.filterMap_nil, List.isEmpty_nil, if_true, pure_bind, List.isEmpty_cons, Bool.false_eq_true, if_false]
  refine wpAny_bind (wpAny_newTextTuple ?_)
  have I1 := (I.tok (s.toks + 1)).kept (t' := s.toks + 1) (h' := s.heap.push (PySem.W.kdv_tup [v])) fun b u e => Heap.get?_push_of_some _ e
  exact lam_tail I1 TB hcode hm hu hT hfree (.inr ⟨by simp, _, rfl, Heap.get?_push_size _ rfl, I.hok.fresh (Nat.le_refl _), unframed I (Nat.le_refl _)⟩) fun f c' doc pm ctv H1 s' I1 e T1 h1 h2 h3 h4 h5 => h f s' ⟨c', _, doc, pm, ctv, [v], H1, I1, e, T1, h1, h2, h3, h4, .cons rv .nil, h5⟩
end
/-- a lambda's names: its parameters (no slot is called so), captured ones and globals -/
structure LamT (N : List Str) (sc scope : Scope) : Prop where
  kind : scope.kind = .function
  co : scope.isCoroutine = false
  gen : scope.isGenerator = false
  each : ∀ y ∈ scope.names, y.2 ≠ .cell ∧ (y.2 = .local → y.1 ∉ N) ∧ (y.2 = .free → sc.names.lookup y.1 = some .cell ∨ sc.names.lookup y.1 = some .free)
def lamTB (N : List Str) (sc scope : Scope) : Bool :=
  (scope.kind == .function) && (!scope.isCoroutine && (!scope.isGenerator && scope.names.all fun y => decide (y.2 ≠ .cell ∧ (y.2 = .local → y.1 ∉ N) ∧ (y.2 = .free → sc.names.lookup y.1 = some .cell ∨ sc.names.lookup y.1 = some .free))))
theorem lamT_by {N : List Str} {sc scope : Scope} (h : lamTB N sc scope = true) : LamT N sc scope := by
  obtain ⟨h1, h⟩ := Bool.and_eq_true_iff.mp h
  obtain ⟨h2, h⟩ := Bool.and_eq_true_iff.mp h
  obtain ⟨h3, h4⟩ := Bool.and_eq_true_iff.mp h
  exact ⟨by simpa using h1, by simpa using h2, by simpa using h3, fun y m => of_decide_eq_true (List.all_eq_true.mp h4 y m)⟩
theorem LamT.has {X : Cx} {scope : Scope} (L : LamT X.N X.env.scope scope) (ok : X.Ok) : ∀ y ∈ scope.names, y.2 = .free → ∃ c, X.env.cells.lookup y.1 = some c :=
  fun y m e => ok.has _ ((L.each y m).2.2 e)
section
variable {X : Cx} {pins : List (Addr × Obj)} {σ : L2.St} {H HZ : Hp} {s s1 : Shared}
/-- what a lambda captures, it captures of its maker's cells -/
theorem clo_of {scope : Scope} (cap : ∀ y ∈ scope.names, y.2 = .free → ∃ c, X.env.cells.lookup y.1 = some c) {y : Str} {c : Addr} (e : (cloFrom X.env.cells scope.names []).lookup y = some c) : X.env.cells.lookup y = some c := by
  rcases cloFrom_mem (PySem.mem_of_lookup e) with m | ⟨m, q⟩
  · cases m
  · obtain ⟨c', e'⟩ := cap _ m rfl
    have e2 : X.env.cells.lookup y = some c' := e'
    rw [e2] at q
    rw [e2, q] <;> rfl
theorem to_clo {scope : Scope} {y : Str} (m : scope.names.lookup y = some .free) : ∃ c, (cloFrom X.env.cells scope.names []).lookup y = some c :=
  mem_lookup (cloFrom_has (cells := X.env.cells) (acc := []) (PySem.mem_of_lookup m))
/-- the state as the lambda's body finds it -/
theorem lam_start3 {A : Around} {outer : List Env} {E : XK} {scope : Scope} {f c' : Addr} {h₁ : Heap} {tk : Nat} {m : Str → Option Value} (I : Inv X pins σ H s) (L : LamT X.N X.env.scope scope) (e0 : Env0 X.prog X.w X.K X.mg X.base A outer s1 HZ) (calm : A.handled = none)
    (un : Un (frs X.stack) [] H HZ s.heap s1.heap) (ns : h₁.Ns s1.heap.objs.size m) (kp : ∀ b o, s1.heap.get? b = some o → h₁.get? b = some o) :
    Inv (lamCx X A outer s1 HZ E scope f c') [] σ HZ { s1 with heap := h₁, toks := tk } := by
  have cap := L.has I.ok
  have cells : ∀ {y c}, (cloFrom X.env.cells scope.names []).lookup y = some c → X.env.cells.lookup y = some c := fun e => clo_of cap e
  have noCell : ∀ {y}, scope.names.lookup y = some .cell → False := fun e => (L.each _ (PySem.mem_of_lookup e)).1 rfl
  have cell_ : ∀ {c : Addr} {v : Option Value}, H c = none → s.heap.IsCell c v → h₁.IsCell c v := by
    rintro c v n ⟨o, e, d⟩
    obtain ⟨sl, e'⟩ := un.any e n (by simp)
    exact ⟨_, kp _ _ e', d⟩
  have nil_ : ∀ b : Addr, b ∉ ([] : List Addr) := by simp
  constructor
  case ok =>
    refine ⟨e0.mod, L.kind, rfl, rfl, Nat.le_refl _, fun y z c a b => I.ok.inj y z c (cells a) (cells b), ?_, ?_, fun _ => calm, Around.frames_deeper e0.frames, .inr ⟨rfl, rfl⟩, fun b z => (nil_ b z).elim, e0.bs, e0.bsz, fun b _ _ => nil_ b, fun b z => (nil_ b z).elim, e0.funs, e0.frf⟩
    · rintro y (z | z)
      · exact (noCell z).elim
      · exact to_clo z
    · intro y c z
      cases (show false = true from z)
  case os => rfl
  case bare => exact e0.bare
  case base => exact Un.kept kp
  case loc =>
    refine ⟨_, ns, ?_⟩
    rintro i y v at_ val (z | z | z)
    · exact ((L.each _ (PySem.mem_of_lookup z)).2.1 rfl (List.mem_of_getElem? at_)).elim
    · exact (noCell z).elim
    · obtain ⟨m', _, look⟩ := I.loc
      have seen := (L.each _ (PySem.mem_of_lookup z)).2.2 rfl
      obtain ⟨u, r, l⟩ := look i y v at_ val (.inr seen)
      obtain ⟨c, ec⟩ := to_clo (X := X) z
      refine ⟨u, r, .inr ⟨.inr z, c, ec, ?_⟩⟩
      rcases l with ⟨l, _⟩ | ⟨_, c2, e2, isc⟩
      · have l' : X.env.scope.names.lookup y = some .local := l
        rcases seen with k | k <;> cases l'.symm.trans k
      · cases (cells ec).symm.trans e2
        exact cell_ (I.freeC y _ e2) isc
  case cell =>
    intro y c e
    obtain ⟨v, z⟩ := I.cell y c (cells e)
    exact ⟨v, cell_ (I.freeC y c (cells e)) z⟩
  case free => exact e0.hok.fresh (Nat.le_refl _)
  case freeC =>
    intro y c e
    obtain ⟨v, o, at_, _⟩ := I.cell y c (cells e)
    exact un.free c o at_ (I.freeC y c (cells e)) (by simp)
  case pin =>
    intro p m
    exact absurd (show p ∈ ([] : List (Addr × Obj)) from m) (by simp)
  case hok => exact e0.hok.kept kp
  case len => exact I.len
/-- the parameters are bound by the given values -/
def LamBinds (params : Arguments) (body : Expr) (scope : Scope) (ps : List Str) (dvs : List V) : Prop := ∀ (q : Str) (cl : List (Str × Addr)) (dV doc pm cv ctv : Value) (us : List Value) (H : Hp) (stk : List Env) (s : Shared), Vals dvs us → DvOk dV us H stk s.heap →
  BindsTo s (PySem.W.kdv_fn "<lambda>" q params (.expr body) scope cl dV doc pm cv ctv) ⟨[], []⟩ (ps.zip us)
/-- the lambda called, from where its taker stands -/
theorem lam_runs {A : Around} {outer : List Env} {ps : List Str} {dvs : List V} {f c' : Addr} {dV doc pm ctv : Value} {us : List Value} {params : Arguments} {body : Expr} {scope : Scope} {k : Nat} {Q : VK} {E : XK} {tb : TE} (I : Inv X pins σ H s) (L : LamT X.N X.env.scope scope)
    (isF : s1.heap.get? f = some (lamObj X params body scope dV doc pm c' ctv)) (isC : HZ c' = some (CodeO c' (X.env.qual ++ "<lambda>"))) (dv : DvOk dV us H X.stack s1.heap) (rv : Vals dvs us) (bind : LamBinds params body scope ps dvs) (par : ∀ p ∈ ps, scope.names.lookup p = some .local)
    (e0 : Env0 X.prog X.w X.K X.mg X.base A outer s1 HZ) (lim : s1.heap.NoLimit) (un : Un (frs X.stack) [] H HZ s.heap s1.heap) (room : Room (k + 1) A)
    (B : ∀ (A : Around) (outer : List Env) (s : Shared) (H : Hp), Room k (A.deeper (lamEnv X scope s.heap.objs.size f c')) → PE (lamCx X A outer s H E scope f c') body tb) (q : tb σ HZ Q) :
    codeAny (model X.prog X.w) A (.call (.ref f) ⟨[], []⟩) (CR (L2.CX X.prog X.w) outer X.prog X.w HZ s1 Q E) s1 := by
  obtain ⟨⟨oc, vs, t, eo, ed, en⟩, _, _⟩ := e0.hok c' _ isC
  apply PySem.W.kla_callFunE room.depth isF rfl L.co L.gen rfl ⟨c', oc, vs, t, rfl, eo, ed, en⟩
  apply bind _ _ _ _ _ _ _ _ _ _ _ rv dv
  apply wpAny_newFunctionEnv (fun y m => (L.each y m).1) (fun p m => par p.1 (List.of_mem_zip (a := p.1) (b := p.2) m).1) ?_ L.kind
  intro h₁ ns but
  refine ⟨lim.fresh _ but, ?_⟩
  have kp : ∀ b o, s1.heap.get? b = some o → h₁.get? b = some o := fun b o e => but.extBut b o (Nat.ne_of_lt (Heap.lt_size e)) (Heap.get?_push_of_some _ e)
  apply PySem.W.kla_codeExpr
  apply wpAny_mono ((B A outer s1 HZ (room.deeper _)).run [] _ _ HZ Q (lam_start3 (f := f) (c' := c') I L e0 room.hd un ns kp) q)
  · rintro v t ⟨w', G, J, r, z⟩
    exact ⟨w', G, J.os, J.bare, J.base, J.hok, r, z⟩
  · intro e t z
    exact z
/-- x(), in the def that got the lambda -/
theorem pe_act3 {Eg : XK} {Ng ps : List Str} {dvs : List V} {qg : Str} {sg : Scope} {g f c' : Addr} {cdg dV doc pm ctv : Value} {us : List Value} {params : Arguments} {body : Expr} {scope : Scope} {k i : Nat} {a : Str} {pn : List (Addr × Obj)} {xe : Value → Shared → Prop} {W : WX} {E : XK} {tb : TE} {p1 p2 : Pos}
    (I : Inv X pins σ H s) (L : LamT X.N X.env.scope scope) (isF : s.heap.get? f = some (lamObj X params body scope dV doc pm c' ctv)) (nF : H f = none) (oF : f ∉ frs X.stack) (dv : DvOk dV us H X.stack s.heap) (rv : Vals dvs us)
    (bind : LamBinds params body scope ps dvs) (par : ∀ p ∈ ps, scope.names.lookup p = some .local)
    (tk : Takes ((cxOf CX0 X.prog X.w X.K X.mg X.base Ng qg sg g cdg X.A X.stack s H Eg).tr pn xe) W) (sub : ∀ cls d σ' H', E cls d H' → W cls d σ' H') (room : Room (k + 1) (X.A.deeper (envOfC qg sg s.heap.objs.size g cdg)))
    (B : ∀ (A : Around) (outer : List Env) (s : Shared) (H : Hp), Room k (A.deeper (lamEnv X scope s.heap.objs.size f c')) → PE (lamCx X A outer s H E scope f c') body tb)
    (at_ : Ng[i]? = some a) (vis : Vis sg a) (d1 : (a == ("__debug__" : Str)) = false := by decide) (d2 : (a == ("__classdict__" : Str)) = false := by decide) :
    PE ((cxOf CX0 X.prog X.w X.K X.mg X.base Ng qg sg g cdg X.A X.stack s H Eg).tr pn xe) (.Call (.Name a p1) [] [] p2)
      (fun σZ HZ Q => σZ[i]? = some (some (.ref f)) ∧ HZ c' = some (CodeO c' (X.env.qual ++ "<lambda>")) ∧ tb σ HZ Q) := by
  constructor
  rintro pinsZ sZ σZ HZ Q IZ ⟨slot, isC, q⟩
  apply wpAny_Call_Name_kw
  apply thn ((pe_var (pos := p1) (i := i) at_ vis d1 d2).run pinsZ sZ σZ HZ (fun v G => v = .ref f ∧ G = HZ) IZ ⟨.ref f, slot, rfl, rfl⟩)
  rintro u t ⟨_, _, J, r, rfl, rfl⟩
  cases (show u = Value.ref f from r)
  have old : ∀ {b o}, s.heap.get? b = some o → H b = none → b ∉ frs X.stack → t.heap.get? b = some o := fun e n nf => J.base.keep _ _ e n nf (by simp [cxOf])
  have isF1 := old isF nF oF
  have dv1 : DvOk dV us H X.stack t.heap := dv.imp id fun ⟨nz, b, e1, e2, e3, e4⟩ => ⟨nz, b, e1, old e2 e3 e4, e3, e4⟩
  apply PySem.W.callWith_F0 ⟨_, _, _, _, isF1⟩
  apply wpAny_call
  apply codeAny_mono (lam_runs I L isF1 isC dv1 rv bind par J.env0 J.nolimit J.base room B q)
  rintro (e | fl) t2 z
  · exact passes_call tk sub pinsZ σZ _ t e t2 J z
  · cases fl with
    | ret u => exact J.after z
    | next => exact z.elim
    | brk => exact z.elim
    | cont => exact z.elim
end
/-- lambda: .. -/
theorem lamBinds0 {body : Expr} {scope : Scope} : LamBinds { posonlyargs := [], args := [], vararg := none, kwonlyargs := [], kw_defaults := [], kwarg := none, defaults := [] } body scope [] [] := by
  intro q cl dV doc pm cv ctv us H stk s r d
  cases r
  rcases d with ⟨_, rfl⟩ | ⟨z, _⟩
  · exact .of_eq rfl
  · exact (z rfl).elim
/-! lambda a1=i: .. (and so on: the name must be written) -/
theorem lamBinds_a0 {i : Int} {j : Nat} {ap dp : Pos} {body : Expr} {scope : Scope} : LamBinds { posonlyargs := [], args := [{ arg := "a0", annotation := none, pos := ap }], vararg := none, kwonlyargs := [], kw_defaults := [], kwarg := none, defaults := [.Constant (.int i) j dp] } body scope ["a0"] [.int i] := by
  intro q cl dV doc pm cv ctv us H stk s r d
  cases r with
  | cons rx rr =>
    cases rr
    rcases d with ⟨z, _⟩ | ⟨_, t, rfl, e, _⟩
    · cases z
    · refine BindsTo.of_defaults (k := ?k) rfl e rfl ?h1 ?h2
      case h1 => exact rfl
      case h2 => exact rfl
theorem lamBinds_a1 {i : Int} {j : Nat} {ap dp : Pos} {body : Expr} {scope : Scope} : LamBinds { posonlyargs := [], args := [{ arg := "a1", annotation := none, pos := ap }], vararg := none, kwonlyargs := [], kw_defaults := [], kwarg := none, defaults := [.Constant (.int i) j dp] } body scope ["a1"] [.int i] := by
  intro q cl dV doc pm cv ctv us H stk s r d
  cases r with
  | cons rx rr =>
    cases rr
    rcases d with ⟨z, _⟩ | ⟨_, t, rfl, e, _⟩
    · cases z
    · refine BindsTo.of_defaults (k := ?k) rfl e rfl ?h1 ?h2
      case h1 => exact rfl
      case h2 => exact rfl
theorem lamBinds_a2 {i : Int} {j : Nat} {ap dp : Pos} {body : Expr} {scope : Scope} : LamBinds { posonlyargs := [], args := [{ arg := "a2", annotation := none, pos := ap }], vararg := none, kwonlyargs := [], kw_defaults := [], kwarg := none, defaults := [.Constant (.int i) j dp] } body scope ["a2"] [.int i] := by
  intro q cl dV doc pm cv ctv us H stk s r d
  cases r with
  | cons rx rr =>
    cases rr
    rcases d with ⟨z, _⟩ | ⟨_, t, rfl, e, _⟩
    · cases z
    · refine BindsTo.of_defaults (k := ?k) rfl e rfl ?h1 ?h2
      case h1 => exact rfl
      case h2 => exact rfl
theorem lamBinds_a3 {i : Int} {j : Nat} {ap dp : Pos} {body : Expr} {scope : Scope} : LamBinds { posonlyargs := [], args := [{ arg := "a3", annotation := none, pos := ap }], vararg := none, kwonlyargs := [], kw_defaults := [], kwarg := none, defaults := [.Constant (.int i) j dp] } body scope ["a3"] [.int i] := by
  intro q cl dV doc pm cv ctv us H stk s r d
  cases r with
  | cons rx rr =>
    cases rr
    rcases d with ⟨z, _⟩ | ⟨_, t, rfl, e, _⟩
    · cases z
    · refine BindsTo.of_defaults (k := ?k) rfl e rfl ?h1 ?h2
      case h1 => exact rfl
      case h2 => exact rfl
theorem lamBinds_a4 {i : Int} {j : Nat} {ap dp : Pos} {body : Expr} {scope : Scope} : LamBinds { posonlyargs := [], args := [{ arg := "a4", annotation := none, pos := ap }], vararg := none, kwonlyargs := [], kw_defaults := [], kwarg := none, defaults := [.Constant (.int i) j dp] } body scope ["a4"] [.int i] := by
  intro q cl dV doc pm cv ctv us H stk s r d
  cases r with
  | cons rx rr =>
    cases rr
    rcases d with ⟨z, _⟩ | ⟨_, t, rfl, e, _⟩
    · cases z
    · refine BindsTo.of_defaults (k := ?k) rfl e rfl ?h1 ?h2
      case h1 => exact rfl
      case h2 => exact rfl
theorem lamBinds_a5 {i : Int} {j : Nat} {ap dp : Pos} {body : Expr} {scope : Scope} : LamBinds { posonlyargs := [], args := [{ arg := "a5", annotation := none, pos := ap }], vararg := none, kwonlyargs := [], kw_defaults := [], kwarg := none, defaults := [.Constant (.int i) j dp] } body scope ["a5"] [.int i] := by
  intro q cl dV doc pm cv ctv us H stk s r d
  cases r with
  | cons rx rr =>
    cases rr
    rcases d with ⟨z, _⟩ | ⟨_, t, rfl, e, _⟩
    · cases z
    · refine BindsTo.of_defaults (k := ?k) rfl e rfl ?h1 ?h2
      case h1 => exact rfl
      case h2 => exact rfl
theorem lamBinds_a6 {i : Int} {j : Nat} {ap dp : Pos} {body : Expr} {scope : Scope} : LamBinds { posonlyargs := [], args := [{ arg := "a6", annotation := none, pos := ap }], vararg := none, kwonlyargs := [], kw_defaults := [], kwarg := none, defaults := [.Constant (.int i) j dp] } body scope ["a6"] [.int i] := by
  intro q cl dV doc pm cv ctv us H stk s r d
  cases r with
  | cons rx rr =>
    cases rr
    rcases d with ⟨z, _⟩ | ⟨_, t, rfl, e, _⟩
    · cases z
    · refine BindsTo.of_defaults (k := ?k) rfl e rfl ?h1 ?h2
      case h1 => exact rfl
      case h2 => exact rfl
theorem lamBinds_a7 {i : Int} {j : Nat} {ap dp : Pos} {body : Expr} {scope : Scope} : LamBinds { posonlyargs := [], args := [{ arg := "a7", annotation := none, pos := ap }], vararg := none, kwonlyargs := [], kw_defaults := [], kwarg := none, defaults := [.Constant (.int i) j dp] } body scope ["a7"] [.int i] := by
  intro q cl dV doc pm cv ctv us H stk s r d
  cases r with
  | cons rx rr =>
    cases rr
    rcases d with ⟨z, _⟩ | ⟨_, t, rfl, e, _⟩
    · cases z
    · refine BindsTo.of_defaults (k := ?k) rfl e rfl ?h1 ?h2
      case h1 => exact rfl
      case h2 => exact rfl
theorem lamBinds_a8 {i : Int} {j : Nat} {ap dp : Pos} {body : Expr} {scope : Scope} : LamBinds { posonlyargs := [], args := [{ arg := "a8", annotation := none, pos := ap }], vararg := none, kwonlyargs := [], kw_defaults := [], kwarg := none, defaults := [.Constant (.int i) j dp] } body scope ["a8"] [.int i] := by
  intro q cl dV doc pm cv ctv us H stk s r d
  cases r with
  | cons rx rr =>
    cases rr
    rcases d with ⟨z, _⟩ | ⟨_, t, rfl, e, _⟩
    · cases z
    · refine BindsTo.of_defaults (k := ?k) rfl e rfl ?h1 ?h2
      case h1 => exact rfl
      case h2 => exact rfl
theorem lamBinds_a9 {i : Int} {j : Nat} {ap dp : Pos} {body : Expr} {scope : Scope} : LamBinds { posonlyargs := [], args := [{ arg := "a9", annotation := none, pos := ap }], vararg := none, kwonlyargs := [], kw_defaults := [], kwarg := none, defaults := [.Constant (.int i) j dp] } body scope ["a9"] [.int i] := by
  intro q cl dV doc pm cv ctv us H stk s r d
  cases r with
  | cons rx rr =>
    cases rr
    rcases d with ⟨z, _⟩ | ⟨_, t, rfl, e, _⟩
    · cases z
    · refine BindsTo.of_defaults (k := ?k) rfl e rfl ?h1 ?h2
      case h1 => exact rfl
      case h2 => exact rfl
theorem lamBinds_a10 {i : Int} {j : Nat} {ap dp : Pos} {body : Expr} {scope : Scope} : LamBinds { posonlyargs := [], args := [{ arg := "a10", annotation := none, pos := ap }], vararg := none, kwonlyargs := [], kw_defaults := [], kwarg := none, defaults := [.Constant (.int i) j dp] } body scope ["a10"] [.int i] := by
  intro q cl dV doc pm cv ctv us H stk s r d
  cases r with
  | cons rx rr =>
    cases rr
    rcases d with ⟨z, _⟩ | ⟨_, t, rfl, e, _⟩
    · cases z
    · refine BindsTo.of_defaults (k := ?k) rfl e rfl ?h1 ?h2
      case h1 => exact rfl
      case h2 => exact rfl
theorem lamBinds_a11 {i : Int} {j : Nat} {ap dp : Pos} {body : Expr} {scope : Scope} : LamBinds { posonlyargs := [], args := [{ arg := "a11", annotation := none, pos := ap }], vararg := none, kwonlyargs := [], kw_defaults := [], kwarg := none, defaults := [.Constant (.int i) j dp] } body scope ["a11"] [.int i] := by
  intro q cl dV doc pm cv ctv us H stk s r d
  cases r with
  | cons rx rr =>
    cases rr
    rcases d with ⟨z, _⟩ | ⟨_, t, rfl, e, _⟩
    · cases z
    · refine BindsTo.of_defaults (k := ?k) rfl e rfl ?h1 ?h2
      case h1 => exact rfl
      case h2 => exact rfl
theorem lamBinds_a12 {i : Int} {j : Nat} {ap dp : Pos} {body : Expr} {scope : Scope} : LamBinds { posonlyargs := [], args := [{ arg := "a12", annotation := none, pos := ap }], vararg := none, kwonlyargs := [], kw_defaults := [], kwarg := none, defaults := [.Constant (.int i) j dp] } body scope ["a12"] [.int i] := by
  intro q cl dV doc pm cv ctv us H stk s r d
  cases r with
  | cons rx rr =>
    cases rr
    rcases d with ⟨z, _⟩ | ⟨_, t, rfl, e, _⟩
    · cases z
    · refine BindsTo.of_defaults (k := ?k) rfl e rfl ?h1 ?h2
      case h1 => exact rfl
      case h2 => exact rfl
/-! ### the def that a lambda is handed to -/
/-- the taker's context: the def x at g, entered at s with H -/
abbrev takerCx (X : Cx) (Ng : List Str) (x : Str) (sg : Scope) (g : Addr) (cdg : Value) (s : Shared) (H : Hp) : Cx := cxOf CX0 X.prog X.w X.K X.mg X.base Ng x sg g cdg X.A X.stack s H E0
/-- the taker keeps TT: what it makes of the lambda's reading; a is the name by which it calls what it got -/
def GivesG (X : Cx) (Ng : List Str) (x : Str) (sg : Scope) (g : Addr) (cdg : Value) (bg : List Stmt) (a : Str) (q : Str) (TT : (XK → Hp → VK → Prop) → Hp → VK → Prop) : Prop :=
  ∀ (f c' : Addr) (s : Shared) (H : Hp) (Q : VK) (tl : XK → Hp → VK → Prop),
    (∀ (W : WX) (pn : List (Addr × Obj)) (xe : Value → Shared → Prop) (E : XK) (p1 p2 : Pos), Takes ((takerCx X Ng x sg g cdg s H).tr pn xe) W → (∀ cls d σ' H', E cls d H' → W cls d σ' H') →
      PE ((takerCx X Ng x sg g cdg s H).tr pn xe) (.Call (.Name a p1) [] [] p2) (fun σZ HZ Q => σZ[0]? = some (some (.ref f)) ∧ HZ c' = some (CodeO c' q) ∧ tl E HZ Q)) →
    H c' = some (CodeO c' q) → TT tl H Q → ∃ t, PSs (takerCx X Ng x sg g cdg s H).nox bg t ∧ t ⟨fun _ G => Q .non G, Q, fun _ _ => False, fun _ _ => False⟩ (L2.start Ng [.ref f]) H
section
variable {X : Cx}
/-- a lambda's call, as the def that got it knows it -/
structure LamGo (X : Cx) (T : List (Addr × Str)) (c P : Addr) (params : Arguments) (body : Expr) (scope : Scope) (ps : List Str) (dvs : List V) : Prop where
  TB : TabB X.base X.mg c P
  code : X.env.code = .ref c
  mem : (P, X.env.qual ++ "<lambda>") ∈ T
  one : ∀ p ∈ T, p.1 = P → p.2 = X.env.qual ++ "<lambda>"
  L : LamT X.N X.env.scope scope
  binds : LamBinds params body scope ps dvs
  pl : ∀ p ∈ ps, scope.names.lookup p = some .local
/-- the given values: none, or one integer -/
def DefsOk (X : Cx) (params : Arguments) (dvs : List V) : Prop := (dvs = [] ∧ defaultsOf params X.env = ([], [])) ∨ (∃ i j dp, dvs = [.int i] ∧ params.defaults = [.Constant (.int i) j dp] ∧ params.kw_defaults = [])
theorem lam_make {pins : List (Addr × Obj)} {σ : L2.St} {H : Hp} {s : Shared} {T : List (Addr × Str)} {c P : Addr} {params : Arguments} {body : Expr} {scope : Scope} {ps : List Str} {dvs : List V} {pos : Pos} {E : Value → Shared → Prop} {Q : Value → Shared → Prop} (I : Inv X pins σ H s) (G : LamGo X T c P params body scope ps dvs) (D : DefsOk X params dvs) (hT : Tabs T H)
    (h : ∀ (f : Addr) (s' : Shared), LamMade X pins σ H T params body scope dvs f s' → Q (.ref f) s') : wpAny (model X.prog X.w) X.A (eval (.Lambda params body scope pos) X.env) Q E s := by
  rcases D with ⟨rfl, d⟩ | ⟨i, j, dp, rfl, d, kd⟩
  · exact lam_make0 I G.TB G.code G.mem G.one hT d (G.L.has I.ok) h
  · exact lam_make1 I G.TB G.code G.mem G.one hT d kd (G.L.has I.ok) h
/-- a def whose object is known: its call, where its body's reading is told of the very state -/
theorem taken {P : Program} {w : World} {K : PySem.W.Frag} {mg : Str → Option Value} {base : Heap} {k : Nat} {f : Addr} {x qual : Str} {pg : Arguments} {bg : List Stmt} {sg : Scope} {dV kV dc pm cdv ct oc : Value} {an od : Option Addr} {sl : Array (Option Value)} {N : List Str} {a : Str} (look : K.lookup f = some ⟨oc, od, .func (PySem.W.fnOf x qual pg bg sg dV kV dc pm an cdv ct), sl⟩)
    (code : PySem.W.codeIn K cdv qual = true) (S : FnScope N [a] sg) {A : Around} {fr : List Env} {s : Shared} {H : Hp} {args : Args} {u : Value} {v : V} {Q : VK} (room : Room (k + 1) A) (env : Env0 P w K mg base A fr s H) (bind : BindsTo s (PySem.W.fnOf x qual pg bg sg dV kV dc pm an cdv ct) args [(a, u)]) (rel : L2.RelV v u)
    (body : Room k (A.deeper (envOfC qual sg s.heap.objs.size f cdv)) → ∃ t, PSs (cxOf CX0 P w K mg base N qual sg f cdv A fr s H E0).nox bg t ∧ t ⟨fun _ G => Q .non G, Q, fun _ _ => False, fun _ _ => False⟩ (L2.start N [v]) H) :
    codeAny (model P w) A (.call (.ref f) args) (CR CX0 fr P w H s Q E0) s :=
  run_ofS (CX := CX0) (ps := [a]) (us := [u]) (vs := [v]) look code S room env bind (.cons rel .nil) rfl fun r => (body r).imp fun _ z => ⟨z.1.nox, z.2⟩
/-- x(lambda ..: body) -/
theorem pe_lamX {T : List (Addr × Str)} {TT : (XK → Hp → VK → Prop) → Hp → VK → Prop} {x a : Str} {g c P : Addr} {k : Nat} {pg : Arguments} {bg : List Stmt} {sg : Scope} {dV kV dc pm cdv ct oc : Value} {an od : Option Addr} {sl : Array (Option Value)} {Ng ps : List Str} {dvs : List V} {params : Arguments} {body : Expr} {scope : Scope} {t : XK → TE} {p lp pos : Pos}
    (glob : Gl X x) (mgx : X.mg x = some (.ref g)) (kp : PySem.W.keepIn X.K (.ref g) = true) (look : X.K.lookup g = some ⟨oc, od, .func (PySem.W.fnOf x x pg bg sg dV kV dc pm an cdv ct), sl⟩) (code : PySem.W.codeIn X.K cdv x = true)
    (b : L2.Binds X.K (PySem.W.fnOf x x pg bg sg dV kV dc pm an cdv ct) [a] []) (S : FnScope Ng [a] sg) (first : Ng[0]? = some a) (vis : Vis sg a) (give : GivesG X Ng x sg g cdv bg a (X.env.qual ++ "<lambda>") TT) (room : Room (k + 2) X.A) (G : LamGo X T c P params body scope ps dvs) (D : DefsOk X params dvs)
    (B : ∀ (A : Around) (outer : List Env) (s : Shared) (H : Hp) (E : XK) (f c' : Addr), Room k (A.deeper (lamEnv X scope s.heap.objs.size f c')) → PE (lamCx X A outer s H E scope f c') body (t E))
    (d0 : (x == ("__debug__" : Str)) = false := by decide) (d1 : (a == ("__debug__" : Str)) = false := by decide) (d2 : (a == ("__classdict__" : Str)) = false := by decide) :
    PE X (.Call (.Name x p) [.Lambda params body scope lp] [] pos) (tLam T TT t) := by
  constructor
  rintro pins s σ H Q I ⟨tabs, q⟩
  apply wpAny_Call_Name_kw (ld_glob I glob mgx ?_ d0)
  refine PySem.W.callWith_K (h₀ := X.base) I.ok.mod.kin kp ?_ (by rfl) (by rfl)
  refine Calls.spliced_cons (lam_make I G D tabs ?_)
  rintro f t1 ⟨c', dV', dc', pm', ctv, us, H1, J, grow, T1, isF, nF, oF, dv, rv, isC⟩
  refine Calls.spliced_nil ⟨J.kIn, wpAny_call ?_⟩
  have go := taken (Q := Q) look code S room J.env0 (b t1 [.ref f] J.kIn rfl) (show L2.RelV (.ref f) (.ref f) from rfl) fun r =>
    give f c' t1 H1 Q (fun E G Q' => t E σ G Q') (fun W pn xe E p1 p2 tk sub => pe_act3 (i := 0) J G.L isF nF oF dv rv G.binds G.pl tk sub r (fun A outer s H r2 => B A outer s H E f c' r2) first vis d1 d2) isC (q H1 grow T1)
  apply codeAny_mono go
  rintro (e | fl) t2 z
  · exact (show False from z).elim
  · cases fl with
    | ret u => exact J.after z
    | next => exact z.elim
    | brk => exact z.elim
    | cont => exact z.elim
end
end Rp
namespace Rp
open PySem PySem.Spec PyProof.Rows L2 LamX
/-! ### defs that errors may leave -/
theorem pass0X {X : Cx} {σ : L2.St} : PassesAt (L2.CX X.prog X.w) X σ E0 := fun _ _ _ _ _ _ c => by
  obtain ⟨_, _, _, _, _, _, _, _, _, _, _, _, z⟩ := c
  exact z.elim
/-- a def that errors may leave, as its callers know it -/
structure CalX (P : Program) (w : World) (K : PySem.W.Frag) (mg : Str → Option Value) (base : Heap) (x : Str) (k : Nat) (f : Addr) (fd : FuncData) (ps : List Str) (sp : Sp) : Prop where
  F : FnOk P w K mg base (L2.CX P w) k f fd ps sp
  mgf : mg x = some (.ref f)
  kp : PySem.W.keepIn K (.ref f) = true
  b : Binds K fd ps []
def tGoE (sp : Sp) (E : XK) (t : TA) : TE := fun σ H Q => t σ H fun vs G => sp vs G Q E
theorem r_goE {sp : Sp} {E : XK} {t : TA} {σ : L2.St} {H : Hp} {Q : VK} (h : t σ H fun vs G => sp vs G Q E) : tGoE sp E t σ H Q := h
section
variable {X : Cx} {k : Nat} {f : Addr} {fd : FuncData} {ps ks : List Str} {sp : Sp} {x : Str} {p pos : Pos} {e : Expr} {es : List Expr} {t tk : TA} {kws : List Keyword} {E : XK}
/-- called where no error may come -/
theorem pe_goX (c : CalX X.prog X.w X.K X.mg X.base x k f fd ps sp) (r : Room k X.A) (hg : Gl X x) (ha : PA X (e :: es) t) (d1 : (x == ("__debug__" : Str)) = false := by decide)
    (d2 : starEach (e :: es) X.env = (false, eval e X.env) :: starEach es X.env := by rfl) (d3 : (backTo pos (starEach es X.env)).any (·.1) = false := by rfl) : PE X (.Call (.Name x p) (e :: es) [] pos) (tGo sp t) :=
  pe_callS (E := fun _ => E0) c.F r hg c.mgf c.kp c.b (fun _ => pass0X) ha d1 d2 d3
/-- called where an error is E's -/
theorem pe_goE (c : CalX X.prog X.w X.K X.mg X.base x k f fd ps sp) (r : Room k X.A) (tk : Takes X (fun cls d _ H => E cls d H)) (hg : Gl X x) (ha : PA X (e :: es) t) (d1 : (x == ("__debug__" : Str)) = false := by decide)
    (d2 : starEach (e :: es) X.env = (false, eval e X.env) :: starEach es X.env := by rfl) (d3 : (backTo pos (starEach es X.env)).any (·.1) = false := by rfl) : PE X (.Call (.Name x p) (e :: es) [] pos) (tGoE sp E t) :=
  pe_callS (E := WE fun cls d _ H => E cls d H) c.F r hg c.mgf c.kp c.b (fun σ => passAt tk σ) ha d1 d2 d3
/-- what the callee does, from the caller's state -/
theorem goesX {pins : List (Addr × Obj)} {σ : L2.St} {H : Hp} {s : Shared} {Q : VK} {args : Args} {us : List Value} {vs : List V} (F : FnOk X.prog X.w X.K X.mg X.base (L2.CX X.prog X.w) k f fd ps sp) (r : Room k X.A)
    (I : Inv X pins σ H s) (b : BindsTo s fd args (ps.zip us)) (rel : Vals vs us) (q : sp vs H Q E0) : codeAny (model X.prog X.w) X.A (.call (.ref f) args) (fun a s2 => ∃ u, a = .ok (.ret u) ∧ EP X pins σ Q u s2) s := by
  apply codeAny_mono (F.run X.A X.stack s H args us vs Q E0 r I.env0 b rel q)
  intro a s2 h
  rcases a with er | fl
  · obtain ⟨_, _, _, _, _, _, _, _, _, _, _, _, z⟩ := h
    exact z.elim
  · cases fl with
    | ret u => exact ⟨u, rfl, I.after h⟩
    | next => exact h.elim
    | brk => exact h.elim
    | cont => exact h.elim
theorem pe_kwX {ix : List Nat} (c : CalX X.prog X.w X.K X.mg X.base x k f fd ps sp) (hb : KBx X.K fd ps 0 ks ix) (r : Room k X.A) (hg : Gl X x) (hkw : PK X kws tk)
    (d4 : (backToKw pos (keywordEach kws X.env)).all (·.1.isSome) = true := by rfl) (d5 : (backToKw pos (keywordEach kws X.env)).filterMap (·.1) = ks := by rfl) (d1 : (x == ("__debug__" : Str)) = false := by decide)
    (d3 : (backToKw pos (keywordEach kws X.env)).any (·.1.isNone) = false := by rfl) : PE X (.Call (.Name x p) [] kws pos) (tKw sp 0 ks.length ix E0 L2.tNil tk) := by
  constructor
  intro pins s σ H Q I h
  apply wpAny_Call_Name_kw (ld_glob I hg c.mgf ?_ d1)
  apply PySem.W.callWith_KW0 (h₀ := X.base) I.ok.mod.kin c.kp d4 ?_ d3
  apply thn (hkw.run pos pins s σ H _ I h)
  rintro ws s2 ⟨zs, H2, I2, rz, _, lz, q⟩
  refine ⟨I2.kIn, ?_⟩
  rw [d5]
  apply wpAny_call
  have lw : ws.length = ks.length := by rw [← rz.length]; exact lz
  apply codeAny_mono (goesX c.F r I2 (hb.to s2 [] ws rfl lw) (vals_ix (.append .nil rz) ix) q)
  rintro a s3 ⟨u, rfl, z⟩
  exact z
end
/-! ### own errors with one field -/
def spIni1 (C : Addr) (f : Str) : Sp := fun vs H Q _ => ∃ a v, vs = [.ref a, v] ∧ H a = some (exo a C none) ∧ ∀ dx, H dx = none → dx ≠ a → Q .non (upd (upd H dx (exd dx [(f, v)])) a (exo a C (some dx)))
/-- what the written part says of an error's class x at C, whose __init__ at fI keeps its one argument as f -/
structure Err1 (P : Program) (w : World) (K : PySem.W.Frag) (mg : Str → Option Value) (base : Heap) (x : Str) (C : Addr) (f : Str) : Prop where
  g : mg x = some (.ref C)
  oex : OexC K C
  no : PySem.W.findIn K (.ref C) f = some none
  xf : XfC K C
  ini : ∃ (fI : Addr) (fd : FuncData) (ps : List Str), PySem.W.findIn K (.ref C) "__init__" = some (some (.ref fI)) ∧ PySem.W.typeIn K (.ref fI) = some (.type "function") ∧ Binds K fd ps [] ∧
    FnOk P w K mg base CX0 1 fI fd ps (spIni1 C f)
/-- x(e), raised: the error's own dict is new -/
def tErr (C : Addr) (f : Str) (te : TE) : L2.St → Hp → XK → Prop := fun σ H Q => te σ H fun v H1 => ∀ d, H1 d = none → Q (.ref C) (some d) (upd H1 d (.xd [(f, v)]))
theorem del_put {H : Hp} {a d : Addr} {o u o2 : HO} {fs : List (Str × V)} (na : H a = none) (ne : d ≠ a) : upd (del (upd (upd (upd H a o) d u) a o2) a) d (.xd fs) = upd H d (.xd fs) := by
  funext b
  by_cases hd : b = d
  · rw [hd, upd_same, upd_same]
  · rw [upd_ne hd, upd_ne hd]
    by_cases ha : b = a
    · rw [ha, del_same, na]
    · rw [del_ne ha, upd_ne ha, upd_ne hd, upd_ne ha]
/-- a reading with room: weaker ends follow -/
def tMono (te : TE) : TE := fun σ H R => ∃ R0 : VK, te σ H R0 ∧ ∀ v G, R0 v G → R v G
theorem pe_mono {X : Cx} {e : Expr} {te : TE} (he : PE X e te) : PE X e (tMono te) :=
  ⟨fun pins s σ H Q I ⟨R0, h, m⟩ => wpAny_mono (he.run pins s σ H R0 I h) (fun u s1 ⟨v, G, J, r, q⟩ => ⟨v, G, J, r, m v G q⟩) fun _ _ z => z⟩
theorem pmk_err1 {X : Cx} {x f : Str} {C : Addr} {e : Expr} {te : TE} {p pos : Pos} (T : Err1 X.prog X.w X.K X.mg X.base x C f) (hr : Room 2 X.A) (hg : Gl X x) (he : PE X e te) (d1 : (x == ("__debug__" : Str)) = false := by decide)
    (d2 : starEach (e :: []) X.env = (false, eval e X.env) :: starEach [] X.env := by rfl) (d3 : (backTo pos (starEach [] X.env)).any (·.1) = false := by rfl) : PMk X (.Call (.Name x p) [e] [] pos) (tErr C f te) := by
  obtain ⟨fI, fd, ps, h1, h2, h3, h4⟩ := T.ini
  intro pins s σ H Q I h
  refine pmk_oex T.oex h1 h2 h4 hr h3 .nil (fun _ _ _ _ _ _ _ z => z.elim) hg T.g (pa_cons (pe_mono he) pa_nil d2) d1 d2 d3 pins s σ H Q I ?_
  refine ⟨_, h, fun v H1 k => ⟨by show 1 ≤ 1000; decide, fun a na => ⟨a, v, rfl, upd_same, fun dx nd ne => ⟨rfl, dx, [(f, v)], upd_same, ?_, ?_, ?_⟩⟩⟩⟩
  · rw [upd_ne ne, upd_same]
  · rw [upd_ne ne] at nd
    exact nd
  · rw [upd_ne ne] at nd
    rw [del_put na ne]
    exact k dx nd
/-! ### a def whose code object is known -/
structure FunC (K : PySem.W.Frag) (x qual : Str) (st : Stmt) (f : Addr) (fd : FuncData) (c : Addr) : Prop where
  ex : ∃ (oc : Value) (od : Option Addr) (kV doc pm : Value) (an : Option Addr) (ct : Value) (osl : Array (Option Value)),
    fd = PySem.W.fnOf x qual (defArgs st) (defBody st) (defScope st) .none kV doc pm an (.ref c) ct ∧ K.lookup f = some ⟨oc, od, .func fd, osl⟩ ∧ PySem.W.codeIn K (.ref c) qual = true
section
variable {P : Program} {w : World} {K : PySem.W.Frag} {mg : Str → Option Value} {base : Heap} {k : Nat} {f : Addr} {fd : FuncData} {ps : List Str} {sp : Sp}
theorem fngC {x qual : Str} {st : Stmt} {N : List Str} {c : Addr} (F : FunC K x qual st f fd c) (S : FnScope N ps (defScope st)) (ar : ∀ {vs H Q E}, sp vs H Q E → vs.length = ps.length)
    (body : ∀ {A : Around} {fr : List Env} {s : Shared} {H : Hp} {vs : List V} {Q : VK} {E : XK}, A.guards = some [] → Room k (A.deeper (envOfC qual (defScope st) s.heap.objs.size f (.ref c))) → sp vs H Q E →
      ∃ t, PSs (cxOf CX0 P w K mg base N qual (defScope st) f (.ref c) A fr s H E).nox (defBody st) t ∧ t ⟨fun _ G => Q .non G, Q, fun _ _ => False, fun _ _ => False⟩ (L2.start N vs) H) : FnG P w K mg base (k + 1) f fd ps sp := by
  generalize hcd : Value.ref c = cdv at body
  obtain ⟨oc, od, kV, dc, pm, an, ct, sl, e, look, code⟩ := F.ex
  rw [hcd] at e code
  subst e
  constructor
  · exact ar
  intro A fr s H args us vs Q E hg room env bind rel q
  have size := ar q
  have kin := env.mod.kin.keeps fun b o z => (env.bs b o z).1
  have nolim := env.mod.nolimit.keeps fun b o z => (env.bs b o z).1
  have knd : ∀ p ∈ ps.zip us, (defScope st).names.lookup p.1 = some .local ∨ ((defScope st).names.lookup p.1 = some .cell ∧ ((cellsFrom (s.heap.objs.size + 1) (defScope st).names []).lookup p.1).isSome = true) := by
    rintro ⟨n, v⟩ hp
    exact (S.par n (List.of_mem_zip hp).1).imp id fun z => ⟨z, PySem.W.cellsFrom_some _ _ _ (.inl z)⟩
  apply codeAny_call_function room.depth (kin _ _ look) rfl S.co S.gen rfl (PySem.W.codeRec_of kin code)
  apply bind
  apply wpAny_newFunctionEnv_cells S.kind knd
  intro en he s1 ic
  subst he
  refine ⟨nolim.keeps ic.toInCall.keep, codeAny_func ?_⟩
  obtain ⟨t, pt, rd⟩ := body (fr := fr) (E := E) hg (room.deeper _) q
  have inv : Inv (cxOf CX0 P w K mg base N qual (defScope st) f cdv A fr s H E) [] (L2.start N vs) H s1 := inv_start S room.hd env size rel ic
  apply wpAny_mono (pt.nox.run [] s1 (L2.start N vs) H _ inv rd)
  · intro fl s2 hs
    cases fl with
    | ret u => obtain ⟨v, τ, G, J, r, z⟩ := hs; exact ⟨v, G, J.os, J.bare, J.base, J.hok, r, z⟩
    | next => obtain ⟨τ, G, J, z⟩ := hs; exact ⟨.non, G, J.os, J.bare, J.base, J.hok, rfl, z⟩
    | brk => obtain ⟨_, _, _, z⟩ := hs; exact z.elim
    | cont => obtain ⟨_, _, _, z⟩ := hs; exact z.elim
  · intro er s2 hs
    exact hs
end
/-! ### the law's call, with tables of code objects -/

/-- what is tracked as the law begins: the tables, empty, and the script, if it is not written -/
def begun (cs : List (Addr × Addr)) (own : Option (Addr × HO)) : Hp := fun b => match own with
  | some (a, o) => if b = a then some o else if b ∈ cs.map (·.2) then some (.tbl #[]) else none
  | none => if b ∈ cs.map (·.2) then some (.tbl #[]) else none
theorem law_goTs {P : Program} {w : World} {K : PySem.W.Frag} {mg mb : Str → Option Value} {k : Nat} {fa a : Addr} {cs : List (Addr × Addr)} {fd : FuncData} {x : Str} {sp : Sp} {s : Shared} {us : List Value} {ns : List Int}
    (kin : K.In s.heap) (gl : s.heap.Ns mainGlobals mg) (bl : s.heap.Ns builtinsNs mb) (boot : ∀ y : Str, y ≠ "__name__" → mb y = bootBuiltins y) (nolim : s.heap.NoLimit) (mods : HasMods s.heap) (gen : s.gens = #[])
    (tab : ∀ p ∈ cs, s.heap.get? p.2 = some { cls := .none, data := .fields #[] }) (unw : ∀ p ∈ cs, K.lookup p.2 = none) (code : ∀ p ∈ cs, PySem.W.CodeHd s.heap p.1 p.2)
    (bmod : ∃ (bm : Addr) (ob : Obj), mg "__builtins__" = some (.ref bm) ∧ bm ≠ builtinsNs ∧ s.heap.get? bm = some ob ∧ ob.cls = .type "module" ∧ ob.dict = some builtinsNs ∧ ob.data = .plain)
    (ob : s.heap.get? a = some { cls := .type "list", data := .seq us.toArray }) (nums : IntsAre us ns) (size : ns.length ≤ sizeLine) (room : Room k callerA)
    (F : ∀ base : Heap, K.In base → base.Ns mainGlobals mg → HasMods base → (∀ p ∈ cs, TabB base mg p.1 p.2) → FnG P w K mg base k fa fd [x] sp) (bind : ∀ (t : Shared) (u : Value), BindsTo t fd ⟨[u], []⟩ [(x, u)])
    (prom : ∀ H : Hp, (∀ p ∈ cs, H p.2 = some (.tbl #[])) → SqL K H a (ns.map V.int) → sp [.ref a] H (fun v _ => v = .bl true) fun _ _ _ => False) :
    codeAny (model P w) callerA (.call (.ref fa) ⟨[.ref a], []⟩) (fun r t => r = .ok (.ret (.bool true)) ∧ OldK s.heap t.heap ∧ t.os = s.os ∧ AllBare t.gens) s := by
  have rel := vals_ints nums
  have seen : ∀ p ∈ cs, p.2 ∈ cs.map (·.2) := fun p m => List.mem_map_of_mem m
  have isTab : ∀ b ∈ cs.map (·.2), s.heap.get? b = some { cls := .none, data := .fields #[] } := by
    intro b m
    obtain ⟨p, mp, rfl⟩ := List.mem_map.mp m
    exact tab p mp
  have notA : a ∉ cs.map (·.2) := fun m => by
    have z := congrArg (Option.map Obj.data) (ob.symm.trans (isTab a m))
    cases z
  -- H tracks the tables, and the script, or not the script
  suffices main : ∀ own : Option (Addr × HO), (∀ b o, own = some (b, o) → b = a ∧ K.lookup a = none ∧ o = .frz { cls := .type "list", data := .seq us.toArray } (.lst (ns.map V.int))) → SqL K (begun cs own) a (ns.map V.int) →
      codeAny (model P w) callerA (.call (.ref fa) ⟨[.ref a], []⟩) (fun r t => r = .ok (.ret (.bool true)) ∧ OldK s.heap t.heap ∧ t.os = s.os ∧ AllBare t.gens) s by
    cases written : K.lookup a with
    | none => exact main (some (a, .frz { cls := .type "list", data := .seq us.toArray } (.lst (ns.map V.int)))) (fun b o z => by cases z; exact ⟨rfl, written, rfl⟩) (.inl (.inr ⟨_, if_pos rfl⟩))
    | some o =>
      cases ob.symm.trans (kin a o written)
      exact main none (fun b o z => nomatch z) (.inr ⟨_, us.toArray, _, written, rfl, rfl, rfl, by rw [List.size_toArray, nums.length]; exact size, by simpa using rel⟩)
  intro own isOwn seq
  generalize hH : begun cs own = H at seq
  -- what H tracks
  have kinds : ∀ b u, H b = some u → (b = a ∧ K.lookup a = none ∧ u = .frz { cls := .type "list", data := .seq us.toArray } (.lst (ns.map V.int))) ∨ (b ∈ cs.map (·.2) ∧ u = .tbl #[]) := by
    intro b u e
    rw [← hH] at e
    rcases own with _ | ⟨a', o⟩
    · have e' : (if b ∈ cs.map (·.2) then some (HO.tbl #[]) else none) = some u := e
      split at e'
      · exact .inr ⟨‹_›, (Option.some.inj e').symm⟩
      · cases e'
    · obtain ⟨rfl, n, rfl⟩ := isOwn a' o rfl
      have e' : (if b = a' then some _ else if b ∈ cs.map (·.2) then some (HO.tbl #[]) else none) = some u := e
      split at e'
      · exact .inl ⟨‹_›, n, (Option.some.inj e').symm⟩
      · split at e'
        · exact .inr ⟨‹_›, (Option.some.inj e').symm⟩
        · cases e'
  have tabs : ∀ b ∈ cs.map (·.2), H b = some (.tbl #[]) := by
    intro b m
    rw [← hH]
    rcases own with _ | ⟨a', o⟩
    · exact if_pos m
    · obtain ⟨rfl, _⟩ := isOwn a' o rfl
      exact (if_neg (by rintro rfl; exact notA m)).trans (if_pos m)
  have hok : HOk P w H s.heap := by
    intro b u e
    rcases kinds b u e with ⟨rfl, _, rfl⟩ | ⟨m, rfl⟩
    · exact ⟨ob, by rw [List.length_map]; exact size, us, _, rel, ob⟩
    · exact isTab b m
  have clear_ : ∀ {b o}, s.heap.get? b = some o → (∀ us n, o.data ≠ .seq us n) → o.data ≠ .fields #[] → H b = none := by
    intro b o e n1 n2
    cases z : H b with
    | none => rfl
    | some u =>
      rcases kinds b u z with ⟨rfl, _⟩ | ⟨m, _⟩
      · cases ob.symm.trans e
        exact (n1 _ _ rfl).elim
      · cases (isTab b m).symm.trans e
        exact (n2 rfl).elim
  have names : ∀ {b} {m : Str → Option Value}, s.heap.Ns b m → (hidT s.heap H).Ns b m := by
    rintro b m ⟨o, es, n, e, d, z⟩
    exact ⟨o, es, n, hidT_get e (clear_ e (by rw [d]; intro _ _ q; cases q) (by rw [d]; intro q; cases q)), d, z⟩
  have kin' : K.In (hidT s.heap H) := by
    intro b o e
    refine hidT_get (kin b o e) ?_
    cases z : H b with
    | none => rfl
    | some u =>
      rcases kinds b u z with ⟨rfl, n, _⟩ | ⟨m, _⟩
      · cases n.symm.trans e
      · obtain ⟨p, mp, rfl⟩ := List.mem_map.mp m
        cases (unw p mp).symm.trans e
  obtain ⟨mc, l1, l2⟩ := nolim
  have mod : L2.Mod K mg (hidT s.heap H) := ⟨kin', names gl, ⟨mb, names bl, boot⟩, ⟨mc, names l1, l2⟩⟩
  have TB : ∀ p ∈ cs, TabB (hidT s.heap H) mg p.1 p.2 := by
    intro p mp
    constructor
    · obtain ⟨o, vs, f1, t1, f2, t2, b3, i4, t4, e, kc, dt, tb, more⟩ := code p mp
      refine ⟨o, vs, f1, t1, f2, t2, b3, i4, t4, hidT_get e (clear_ e (by rw [dt]; intro _ _ q; cases q) ?_), kc, dt, tb, more⟩
      rw [dt]
      intro q
      cases q
      cases (show (none : Option Value) = some _ from tb)
    · obtain ⟨bm, o, g1, g2, g3, g4, g5, g6⟩ := bmod
      have apart : ∀ {b u}, s.heap.get? b = some u → u.data ≠ .plain → bm ≠ b := by
        rintro b u e n rfl
        cases g3.symm.trans e
        exact n g6
      refine ⟨bm, o, g1, g2, ?_, ?_, hidT_get g3 (clear_ g3 (by rw [g6]; intro _ _ q; cases q) (by rw [g6]; intro q; cases q)), g4, g5, g6⟩
      · obtain ⟨u, _, _, e, d, _⟩ := gl
        exact apart e (by rw [d]; intro q; cases q)
      · exact apart (tab p mp) (by intro q; cases q)
    · obtain ⟨u, _, _, e, d, _⟩ := gl
      intro q
      rw [q] at e
      cases (tab p mp).symm.trans e
      cases d
  have env : Env0 P w K mg (hidT s.heap H) callerA [] s H := ⟨rfl, mod, fun b o e => of_hidT e, Nat.le_of_eq (hidT_size _ _), trivial, fun b h => absurd (show b ∈ ([] : List Addr) from h) (by simp), hok, .of_eq gen⟩
  apply codeAny_mono ((F _ kin' (names gl) (mods.imp fun _ z => names z) TB).go (us := [.ref a]) (vs := [.ref a]) rfl room env (bind s (.ref a)) (.cons rfl .nil) (prom H (fun p mp => tabs _ (seen p mp)) seq))
  rintro (e | fl) t z
  · exact z.elim
  cases fl with
  | next => exact z.elim
  | brk => exact z.elim
  | cont => exact z.elim
  | ret u =>
    obtain ⟨v, G, os, bare, un, hok', rl, q⟩ := z
    cases (show v = .bl true from q)
    cases (show u = Value.bool true from rl)
    refine ⟨rfl, ?_, os, bare⟩
    have stay : ∀ b o, b ∉ cs.map (·.2) → s.heap.get? b = some o → t.heap.get? b = some o := by
      intro b o n e
      cases z : H b with
      | none => exact un.keep b o e z (by simp [frs]) (by simp)
      | some u =>
        rcases kinds b u z with ⟨rfl, _, rfl⟩ | ⟨m, _⟩
        · cases ob.symm.trans e
          exact (hok' b _ (un.frzs b _ _ z)).1
        · exact (n m).elim
    have grown : ∀ p ∈ cs, ∃ more : Array Value, t.heap.get? p.2 = some { cls := .none, data := .fields more } := by
      intro p mp
      obtain ⟨more, z⟩ := un.tbls p.2 #[] (tabs _ (seen p mp))
      exact ⟨_, hok' p.2 _ z⟩
    constructor
    · intro b o e
      by_cases m : b ∈ cs.map (·.2)
      · obtain ⟨p, mp, rfl⟩ := List.mem_map.mp m
        obtain ⟨more, z⟩ := grown p mp
        cases (tab p mp).symm.trans e
        exact .inr (.inl ⟨((code p mp).tab (tab p mp)).isCodeTable, rfl, #[], more, rfl, by rw [Array.empty_append]; exact z⟩)
      · exact .inl (stay b o m e)
    · intro b o e
      by_cases m : b ∈ cs.map (·.2)
      · obtain ⟨p, mp, rfl⟩ := List.mem_map.mp m
        obtain ⟨more, z⟩ := grown p mp
        exact ⟨_, z⟩
      · exact ⟨o, stay b o m e⟩
/-- what k_head leaves, from the law's promise, with tables -/
theorem walk_GT {l : PySem.W.OpenLaw} {n k : Nat} {q : Program} {loose : List Str} {XP : (Str → Option Value) → Heap → Prop} {YP : World → Heap → Prop} {d : DefRec} {K : Params → PySem.W.Frag} {cs : List (Addr × Addr)} {sp : PySem.W.Frag → Sp} {x : Str}
    (none : importsNone q = true) (hn : l.most = some n) (hn2 : n ≤ sizeLine) (hdf : d.params.defaults = []) (room : Room k callerA) (hY : ∀ (w : World) (h : Heap), YP w h → (K w.params).In h)
    (hT : ∀ (w : World) (h : Heap), YP w h → ∀ p ∈ cs, h.get? p.2 = some { cls := .none, data := .fields #[] }) (hC : ∀ (w : World) (h : Heap), YP w h → ∀ p ∈ cs, PySem.W.CodeHd h p.1 p.2) (nT : ∀ w : World, ∀ p ∈ cs, (K w.params).lookup p.2 = .none)
    (F : ∀ (w : World) (mg : Str → Option Value) (fa : Addr) (h : Heap), (K w.params).In h → h.Ns mainGlobals mg → mg d.name = some (.ref fa) →
      ∃ fd : FuncData, (∀ (t : Shared) (u : Value), BindsTo t fd ⟨[u], []⟩ [(x, u)]) ∧ ∀ base : Heap, (K w.params).In base → base.Ns mainGlobals mg → HasMods base → (∀ p ∈ cs, TabB base mg p.1 p.2) → FnG l.prog w (K w.params) mg base k fa fd [x] (sp (K w.params)))
    (prom : ∀ (K : PySem.W.Frag) (H : Hp) (a : Addr) (ns : List Int), ns.length ≤ n → (∀ p ∈ cs, H p.2 = some (.tbl #[])) → SqL K H a (ns.map V.int) → sp K [.ref a] H (fun v _ => v = .bl true) fun _ _ _ => False) :
    PySem.W.WalkO q loose XP YP l.row.toRowW d [] (fun f vs => PySem.call f vs) := by
  apply Att.attach_call hn hdf
  intro w s0 s1 mg mb fa o pm cd dc a us ns G Y _ _ _ hmg hobj nums hlen hg
  have md : HasMods s1.heap := let ⟨mm, z, _⟩ := (G.T.seer none).mods; ⟨mm, z⟩
  obtain ⟨fd, hb, hF⟩ := F w mg fa _ (hY w _ Y) G.T.g hmg
  exact law_goTs (hY w _ Y) G.T.g G.T.b G.T.builtins G.T.nolimit md hg (hT w _ Y) (nT w) (hC w _ Y) G.T.bmain hobj nums (Nat.le_trans hlen hn2) room hF hb fun H hH hS => prom _ H a ns hlen hH hS
end Rp
namespace Rp
open PySem PySem.Spec PyProof.Rows L2
/-- the rule for a def that errors may leave -/
theorem fnx {P : Program} {w : World} {K : PySem.W.Frag} {mg : Str → Option Value} {base : Heap} {k : Nat} {f : Addr} {fd : FuncData} {ps : List Str} {sp : Sp} {x qual : Str} {st : Stmt} {N : List Str} (F : Fun K x qual st f fd) (S : FnScope N ps (defScope st)) (ar : ∀ {vs H Q E}, sp vs H Q E → vs.length = ps.length)
    (body : ∀ {cdv : Value} {A : Around} {fr : List Env} {s : Shared} {H : Hp} {vs : List V} {Q : VK} {E : XK}, Room k (A.deeper (envOfC qual (defScope st) s.heap.objs.size f cdv)) → sp vs H Q E →
      ∃ t, PSs (cxOf (L2.CX P w) P w K mg base N qual (defScope st) f cdv A fr s H E) (defBody st) t ∧ t ⟨fun _ G => Q .non G, Q, fun _ _ => False, fun _ _ => False⟩ (L2.start N vs) H) : FnOk P w K mg base (L2.CX P w) (k + 1) f fd ps sp :=
  F.okX S (fun _ _ _ _ h => ar h) fun _ _ _ _ _ _ _ _ r h => body r h
/-- an error of one field is E's -/
def errAt (E : XK) (C : Addr) (f : Str) (v : V) (H : Hp) : Prop := ∀ d, H d = none → E (.ref C) (some d) (upd H d (.xd [(f, v)]))
def spDemClock (C : Addr) : Sp := fun vs H Q E => ∃ q v, vs = [v] ∧ Any q H v ∧ (clk v = true → Q .non H) ∧ (clk v = false → errAt E C "part" (.str "clock") H)
def spDemWithin (C : Addr) : Sp := fun vs H Q E => ∃ q v lo hi part, vs = [v, oV lo, oV hi, .str part] ∧ Any q H v ∧ (inB v lo hi = true → Q .non H) ∧ (inB v lo hi = false → errAt E C "part" (.str part) H)
/-- a row of the clock, of lo to hi numbers -/
def rowOk (o : Option (List V)) (clock lo hi : Int) : Bool :=
  match o with
  | none => false
  | some xs => (decide (lo ≤ (xs.length : Int)) && decide ((xs.length : Int) ≤ hi)) && xs.all fun x => inB x (some 0) (some (clock - 1))
def spDemRow (C : Addr) : Sp := fun vs H Q E => ∃ q v o clock lo hi part, vs = [v, .int clock, .int lo, .int hi, .str part] ∧ RowV q H v o ∧ clk (.int clock) = true ∧ (∀ xs, o = some xs → xs.length < sizeLine) ∧
  ∀ H', Same H H' → (rowOk o clock lo hi = true → Q .non H') ∧ (rowOk o clock lo hi = false → errAt E C "part" (.str part) H')
section
variable {K : PySem.W.Frag} {σ : L2.St} {H : Hp} {Q : XK} {W : WX} {D : Ends} {te : TE} {C : Addr} {f : Str} {sp : Sp} {t : TA} {E : XK} {Q' : VK} {tm : L2.St → Hp → XK → Prop}
theorem r_izipA {K : PySem.W.Frag} {ta : TA} {σ : L2.St} {H : Hp} {R : It → Hp → Prop} (h : ta σ H fun vs H1 => ∃ a b xs ys, vs = [.ref a, .ref b] ∧ ((SqL K H1 a xs ∧ SqL K H1 b ys ∧ R (Itz K a b) H1) ∨ (SqT K H1 a xs ∧ SqT K H1 b ys ∧ R (RZ.ItzT K a b) H1))) : RZ.iZipA K ta σ H R := h
theorem r_izip {K : PySem.W.Frag} {ta : TA} {σ : L2.St} {H : Hp} {R : It → Hp → Prop} (h : ta σ H fun vs H1 => ∃ a b xs ys, vs = [.ref a, .ref b] ∧ SqL K H1 a xs ∧ SqL K H1 b ys ∧ R (Itz K a b) H1) : iZip K ta σ H R := h
theorem r_err (h : te σ H fun v H1 => ∀ d, H1 d = none → Q (.ref C) (some d) (upd H1 d (.xd [(f, v)]))) : tErr C f te σ H Q := h
theorem r_raise (h : tm σ H fun cls d H' => E cls d H') : (fun (_ : Ends) σ H => tm σ H fun cls d H' => (fun cls d (_ : L2.St) H => E cls d H) cls d σ H') D σ H := h
end
end Rp
namespace Rp
open PySem PySem.Spec PyProof.Rows L2
/-! ### what a caught error is asked -/
/-- isinstance(e, C): e a tracked error, or any value of a kind that is known -/
def rIsO (K : PySem.W.Frag) : List V → Hp → VK → Prop := fun xs H Q => rIsT K xs H Q ∨ rIsi K xs H Q
theorem call_isO {X : Cx} : CallR X (.builtin "isinstance") (rIsO X.K) := by
  intro pins s σ H xs us Q I r h
  rcases h with h | h
  · exact call_isT pins s σ H xs us Q I r h
  · exact call_isi pins s σ H xs us Q I r h
/-- an error's class, as a clause and isinstance see it -/
structure ErrK (K : PySem.W.Frag) (C top : Addr) (f : Str) : Prop where
  ex : ExcC K C
  xf : XfC K C
  no : PySem.W.findIn K (.ref C) f = some none
  up : PySem.W.exmOne K (.ref C) (.ref top) = some true
  nn : PySem.W.kitOne K (.type "NoneType") (.ref C) = some false
section
variable {K : PySem.W.Frag} {H : Hp} {Q : VK} {a C D top dx : Addr} {fs : List (Str × V)} {f : Str} {b : Bool} {σ : L2.St} {te : TE}
theorem r_isE (T : ErrK K C top f) (ha : H a = some (ErO a (.ref C) (some dx))) (hd : H dx = some (.xd fs)) (k : PySem.W.kitOne K (.ref C) (.ref D) = some b) (h : Q (.bl b) H) : rIsO K [.ref a, .ref D] H Q :=
  .inl ⟨a, C, dx, fs, .ref D, .ref D, b, rfl, T.ex, ha, hd, fun _ r => r, k, h⟩
theorem r_isNo (T : ErrK K D top f) (h : Q (.bl false) H) : rIsO K [.non, .ref D] H Q := .inr ⟨.non, .ref D, _, .ref D, false, rfl, .own D, .base .non, T.nn, h⟩
theorem r_xt {n : Str} (h : te σ H fun x H1 => ∃ (a C dd : Addr) (fs : List (Str × V)) (v : V), x = .ref a ∧ XfC K C ∧ PySem.W.findIn K (.ref C) n = some none ∧ H1 a = some (ErO a (.ref C) (some dd)) ∧ H1 dd = some (.xd fs) ∧ fs.lookup n = some v ∧ Q v H1) : tXt K n te σ H Q := h
end
/-- the slots are as many as the names -/
theorem takes_len {X : Cx} {W : WX} (h : Takes X W) : Takes X (fun cls d σ H => σ.length = X.N.length → W cls d σ H) := by
  rintro u s' ⟨a, B, sI, pins, σ, H, cls, d, e1, I, e2, e3, e4, e5, e6, e7, w⟩
  exact h u s' ⟨a, B, sI, pins, σ, H, cls, d, e1, I, e2, e3, e4, e5, e6, e7, w I.len⟩
/-- the try's body, where what was got is called -/
def tTake (f c' : Addr) (q : Str) (n : Nat) (tl : XK → Hp → VK → Prop) (W : WX) : TS := fun D σ H => ∃ (Ech : XK) (R0 : VK), (∀ cls d σ' H', Ech cls d H' → σ'.length = n → W cls d σ' H') ∧ σ[0]? = some (some (.ref f)) ∧ H c' = some (LamX.CodeO c' q) ∧ tl Ech H R0 ∧ ∀ v G, R0 v G → D.nx σ G
theorem pss_take {X : Cx} {f c' : Addr} {q a : Str} {n : Nat} {tl : XK → Hp → VK → Prop} {W : WX} {p1 p2 p3 : Pos} (ln : X.N.length = n) (tk : Takes X W)
    (act : ∀ E : XK, Takes X (fun cls d σ H => σ.length = X.N.length → W cls d σ H) → (∀ cls d σ' H', E cls d H' → σ'.length = X.N.length → W cls d σ' H') → PE X (.Call (.Name a p1) [] [] p2) (fun σZ HZ Q => σZ[0]? = some (some (.ref f)) ∧ HZ c' = some (LamX.CodeO c' q) ∧ tl E HZ Q))
    (sw : swapsWith (.Call (.Name a p1) [] [] p2) none p3.line X.env = pure false := by rfl) : PSs X [.Expr (.Call (.Name a p1) [] [] p2) p3] (tTake f c' q n tl W) := by
  constructor
  rintro pins s σ H D I ⟨Ech, R0, h1, h2, h3, h4, h5⟩
  have hp := act Ech (takes_len tk) fun cls d σ' H' e l => h1 cls d σ' H' e (l.trans ln)
  exact (pss_one (ps_expr (pe_mono hp) sw)).run pins s σ H D I ⟨R0, ⟨h2, h3, h4⟩, h5⟩
end Rp
namespace Rp
open PySem PySem.Spec PyProof.Rows L2 LamX
section
variable {K : PySem.W.Frag} {σ : L2.St} {H : Hp} {Q : VK} {T : List (Addr × Str)} {TT : (XK → Hp → VK → Prop) → Hp → VK → Prop} {t : XK → TE}
theorem r_lam (h : Tabs T H ∧ ∀ H1, ExtN H H1 → Tabs T H1 → TT (fun E H' Q' => t E σ H' Q') H1 Q) : tLam T TT t σ H Q := h
end
theorem any_ext {q : Addr} {H H' : Hp} {v : V} (h : Any q H v) (x : ExtN H H') : Any q H' v := by
  cases h with
  | non => exact .non
  | bl b => exact .bl b
  | num i => exact .num i
  | str z => exact .str z
  | lst n e => exact .lst n (x _ _ e fun _ z => by cases z)
  | tup n e => exact .tup n (x _ _ e fun _ z => by cases z)
  | dic n e => exact .dic n (x _ _ e fun _ z => by cases z)
theorem row_ext {q : Addr} {H H' : Hp} {v : V} {o : Option (List V)} (h : RowV q H v o) (x : ExtN H H') : RowV q H' v o := by
  cases h with
  | non => exact .non
  | bl b => exact .bl b
  | num i => exact .num i
  | str z => exact .str z
  | lst n e it => exact .lst n (x _ _ e fun _ z => by cases z) fun v m => any_ext (it v m) x
  | tup n e it => exact .tup n (x _ _ e fun _ z => by cases z) fun v m => any_ext (it v m) x
  | dic n e => exact .dic n (x _ _ e fun _ z => by cases z)
theorem ext_same {H H1 H2 : Hp} (x : ExtN H H1) (s : Same H1 H2) : ExtN H H2 := x.trans (ExtN.of s)
theorem ext_neu {H H1 : Hp} {p : Addr} {o : HO} (x : ExtN H H1) (hp : H1 p = none) : ExtN H (upd H1 p o) := ext_same x (same_neu (Same.refl _) hp)
theorem tabs_same {T : List (Addr × Str)} {H H' : Hp} (t : Tabs T H) (s : Same H H') : Tabs T H' := t.ext s
end Rp
namespace Rp
open PySem PySem.Spec PyProof.Rows L2 LamX
/-! ### deeds: pairs of a word and a gap -/
theorem at20 {a b : V} : atI [a, b] 0 = some a := rfl
theorem at21 {a b : V} : atI [a, b] 1 = some b := rfl
abbrev Dl := List (Str × Int)
def W5 : List Str := ["over", "under", "join", "open", "turn"]
inductive DsV (q : Addr) (H : Hp) : List V → Dl → Prop
  | nil : DsV q H [] []
  | cons {t : Addr} {w : Str} {g : Int} {vs : List V} {ds : Dl} (n : t ≠ q) (e : H t = some (.tup [.str w, .int g])) (r : DsV q H vs ds) : DsV q H (.ref t :: vs) ((w, g) :: ds)
section
variable {q p : Addr} {H H' : Hp} {vs us : List V} {ds es : Dl} {v : V} {o : HO} {i : Nat}
theorem DsV.but (b : But q H H') : ∀ {vs : List V} {ds : Dl}, DsV q H vs ds → DsV q H' vs ds
  | _, _, .nil => .nil
  | _, _, .cons n e r => .cons n (b _ _ n e) (r.but b)
theorem DsV.ext (x : ExtN H H') : ∀ {vs : List V} {ds : Dl}, DsV q H vs ds → DsV q H' vs ds
  | _, _, .nil => .nil
  | _, _, .cons n e r => .cons n (x _ _ e fun _ z => by cases z) (r.ext x)
theorem DsV.keep (f : ∀ t xs, H t = some (.tup xs) → H' t = some (.tup xs)) : ∀ {vs : List V} {ds : Dl}, DsV q H vs ds → DsV q H' vs ds
  | _, _, .nil => .nil
  | _, _, .cons n e r => .cons n (f _ _ e) (r.keep f)
theorem DsV.len : ∀ {vs : List V} {ds : Dl}, DsV q H vs ds → vs.length = ds.length
  | _, _, .nil => rfl
  | _, _, .cons _ _ r => by rw [List.length_cons, List.length_cons, r.len]
theorem DsV.at : ∀ {vs : List V} {ds : Dl} {i : Nat}, DsV q H vs ds → vs[i]? = some v → ∃ t w g, v = .ref t ∧ t ≠ q ∧ H t = some (.tup [.str w, .int g]) ∧ ds[i]? = some (w, g)
  | _, _, i, .nil, h => by simp at h
  | _, _, 0, .cons n e _, h => by
    have h' := Option.some.inj h
    exact ⟨_, _, _, h'.symm, n, e, rfl⟩
  | _, _, i + 1, .cons _ _ r, h => r.at (i := i) (by simpa using h)
theorem DsV.app (k : DsV q H vs ds) (h : DsV q H us es) : DsV q H (vs ++ us) (ds ++ es) := by
  induction k with
  | nil => exact h
  | cons n e r ih => exact .cons n e ih
theorem DsV.one {t : Addr} {w : Str} {g : Int} (n : t ≠ q) (e : H t = some (.tup [.str w, .int g])) : DsV q H [.ref t] [(w, g)] := .cons n e .nil
theorem DsV.take : ∀ {vs : List V} {ds : Dl} (k : Nat), DsV q H vs ds → DsV q H (vs.take k) (ds.take k)
  | _, _, 0, _ => by rw [List.take_zero, List.take_zero]; exact .nil
  | _, _, k + 1, .nil => by rw [List.take_nil, List.take_nil]; exact .nil
  | _, _, k + 1, .cons n e r => by rw [List.take_succ_cons, List.take_succ_cons]; exact .cons n e (r.take k)
theorem DsV.drop : ∀ {vs : List V} {ds : Dl} (k : Nat), DsV q H vs ds → DsV q H (vs.drop k) (ds.drop k)
  | _, _, 0, h => by rw [List.drop_zero, List.drop_zero]; exact h
  | _, _, k + 1, .nil => by rw [List.drop_nil, List.drop_nil]; exact .nil
  | _, _, k + 1, .cons n e r => by rw [List.drop_succ_cons, List.drop_succ_cons]; exact r.drop k
theorem DsV.set {t : Addr} {w : Str} {g : Int} (n : t ≠ q) (e : H t = some (.tup [.str w, .int g])) : ∀ {vs : List V} {ds : Dl} (k : Nat), DsV q H vs ds → DsV q H (vs.set k (.ref t)) (ds.set k (w, g))
  | _, _, k, .nil => by rw [List.set_nil, List.set_nil]; exact .nil
  | _, _, 0, .cons _ _ r => .cons n e r
  | _, _, k + 1, .cons n2 e2 r => .cons n2 e2 (r.set n e k)
theorem DsV.rep {t : Addr} {w : Str} {g : Int} (n : t ≠ q) (e : H t = some (.tup [.str w, .int g])) : ∀ k : Nat, DsV q H (List.replicate k (.ref t)) (List.replicate k (w, g))
  | 0 => .nil
  | k + 1 => .cons n e (DsV.rep n e k)
end
/-- the words are words, the gaps gaps of some ring -/
def Typ (b : Int) (ds : Dl) : Prop := ∀ d ∈ ds, d.1 ∈ W5 ∧ 0 ≤ d.2 ∧ d.2 ≤ b
theorem Typ.nil {b : Int} : Typ b [] := fun _ m => nomatch m
theorem Typ.app {b : Int} {ds es : Dl} (h : Typ b ds) (k : Typ b es) : Typ b (ds ++ es) := fun d m => (List.mem_append.mp m).elim (h d) (k d)
theorem Typ.one {b : Int} {w : Str} {g : Int} (hw : w ∈ W5) (h0 : 0 ≤ g) (h1 : g ≤ b) : Typ b [(w, g)] := fun d m => by rw [List.mem_singleton.mp m]; exact ⟨hw, h0, h1⟩
theorem Typ.take {b : Int} {ds : Dl} (h : Typ b ds) (k : Nat) : Typ b (ds.take k) := fun d m => h d (List.mem_of_mem_take m)
theorem Typ.drop {b : Int} {ds : Dl} (h : Typ b ds) (k : Nat) : Typ b (ds.drop k) := fun d m => h d (List.mem_of_mem_drop m)
theorem Typ.set {b : Int} {ds : Dl} {w : Str} {g : Int} (h : Typ b ds) (hw : w ∈ W5) (h0 : 0 ≤ g) (h1 : g ≤ b) (k : Nat) : Typ b (ds.set k (w, g)) := fun d m => by
  rcases List.mem_or_eq_of_mem_set m with z | z
  · exact h d z
  · rw [z]; exact ⟨hw, h0, h1⟩
theorem Typ.at {b : Int} {ds : Dl} {i : Nat} {w : Str} {g : Int} (h : Typ b ds) (e : ds[i]? = some (w, g)) : w ∈ W5 ∧ 0 ≤ g ∧ g ≤ b := h _ (List.mem_of_getElem? e)
theorem Typ.rep {b : Int} {w : Str} {g : Int} (hw : w ∈ W5) (h0 : 0 ≤ g) (h1 : g ≤ b) (k : Nat) : Typ b (List.replicate k (w, g)) := fun d m => by rw [List.eq_of_mem_replicate m]; exact ⟨hw, h0, h1⟩
theorem Typ.le {b c : Int} {ds : Dl} (h : Typ b ds) (l : b ≤ c) : Typ c ds := fun d m => ⟨(h d m).1, (h d m).2.1, Int.le_trans (h d m).2.2 l⟩
/-- the gaps at which a deed fits: from gLo to gHi - 1 -/
def gLo (w : Str) (m : Int) : Int := if w = "open" then 0 else if w = "join" then (if 0 < m then 1 else 0) else 0
def gHi (w : Str) (m : Int) : Int := if w = "open" then (if 1 > m then 1 else m) else if w = "join" then (if 0 < m then (if 2 > m - 1 then 2 else m - 1) else m) else m
def fitsG (w : Str) (m g : Int) : Bool := decide (gLo w m ≤ g) && decide (g < gHi w m)
def behind (w : Str) (m : Int) : Int := if w = "join" then m - 2 else if w = "open" then m + 2 else m
/-- what comes of deeds: none, a misfit, too many ends -/
def demF : Dl → Int → Option Bool
  | [], m => if m = 0 then none else some false
  | (w, g) :: r, m => if fitsG w m g then (if behind w m > 24 then some true else demF r (behind w m)) else some false
/-- how many ends deeds leave that fit -/
def runD : Dl → Int → Option Int
  | [], m => some m
  | (w, g) :: r, m => if fitsG w m g ∧ ¬ behind w m > 24 then runD r (behind w m) else none
theorem runD_app : ∀ {ds es : Dl} {m : Int}, runD (ds ++ es) m = (runD ds m).bind (runD es)
  | [], _, _ => rfl
  | (w, g) :: r, es, m => by
    show (if _ then runD (r ++ es) _ else none) = (if _ then runD r _ else none).bind _
    split
    · exact runD_app
    · rfl
theorem demF_run : ∀ {ds es : Dl} {m n : Int}, runD ds m = some n → demF (ds ++ es) m = demF es n
  | [], _, _, _, h => by cases h; rfl
  | (w, g) :: r, es, m, n, h => by
    unfold runD at h
    split at h
    · rename_i c
      show (if fitsG w m g then (if behind w m > 24 then some true else demF (r ++ es) (behind w m)) else some false) = _
      rw [if_pos c.1, if_neg c.2]
      exact demF_run h
    · cases h
theorem demF_ok {ds : Dl} {m : Int} (h : runD ds m = some 0) : demF ds m = none := by
  have z := demF_run (es := []) h
  rw [List.append_nil] at z
  rw [z]
  rfl
/-- by the law's own fitting -/
def lawFits (m : Int) (w : Str) (g : Int) : Bool := if w = "join" then (if m = 2 then decide (g = 1) else (decide (1 ≤ g) && decide (g ≤ m - 2))) else (decide (0 ≤ g) && decide (g < (if w = "open" then (if m > 1 then m else 1) else m)))
theorem lawFits_eq {w : Str} {m g : Int} (h0 : 0 ≤ m) (h2 : m % 2 = 0) : lawFits m w g = fitsG w m g := by
  unfold lawFits fitsG gLo gHi
  by_cases h : w = "join"
  · have n : w ≠ "open" := by rw [h]; decide
    rw [if_pos h, if_neg n, if_neg n, if_pos h, if_pos h]
    by_cases hm : m = 2
    · subst hm
      rw [if_pos rfl, if_pos (by decide), if_pos (by decide), if_pos (by decide)]
      by_cases e : g = 1
      · subst e; rfl
      · rw [decide_eq_false e]
        by_cases e1 : 1 ≤ g
        · rw [decide_eq_false (p := g < 2) (by omega), Bool.and_false]
        · rw [decide_eq_false (p := 1 ≤ g) e1, Bool.false_and]
    · rw [if_neg hm]
      by_cases hp : 0 < m
      · rw [if_pos hp, if_pos hp, if_neg (by omega)]
        by_cases e1 : 1 ≤ g
        · rw [show decide (g ≤ m - 2) = decide (g < m - 1) from decide_eq_decide.mpr (by omega)]
        · rw [decide_eq_false (p := 1 ≤ g) e1, Bool.false_and, Bool.false_and]
      · rw [if_neg hp, if_neg hp]
        by_cases e1 : 1 ≤ g
        · rw [decide_eq_false (p := g ≤ m - 2) (by omega), decide_eq_false (p := g < m) (by omega), Bool.and_false, Bool.and_false]
        · rw [decide_eq_false (p := 1 ≤ g) e1, Bool.false_and]
          by_cases e2 : 0 ≤ g
          · rw [decide_eq_false (p := g < m) (by omega), Bool.and_false]
          · rw [decide_eq_false (p := 0 ≤ g) e2, Bool.false_and]
  · rw [if_neg h]
    by_cases ho : w = "open"
    · rw [if_pos ho, if_pos ho, if_pos ho]
      congr 2
      by_cases hm : m > 1
      · rw [if_pos hm, if_neg (by omega)]
      · rw [if_neg hm]
        split <;> (apply propext; omega)
    · rw [if_neg ho, if_neg ho, if_neg ho, if_neg h, if_neg h]
theorem fits_open {m g : Int} (h0 : 0 ≤ g) (h1 : g < m ∨ g = 0) : fitsG "open" m g = true := by
  unfold fitsG gLo gHi
  rw [if_pos rfl, if_pos rfl, decide_eq_true h0, decide_eq_true]
  · rfl
  · split <;> omega
theorem fits_cross {w : Str} {m g : Int} (hw : w = "over" ∨ w = "under" ∨ w = "turn") (h0 : 0 ≤ g) (h1 : g < m) : fitsG w m g = true := by
  have a : w ≠ "open" ∧ w ≠ "join" := by rcases hw with h | h | h <;> (rw [h]; decide)
  unfold fitsG gLo gHi
  rw [if_neg a.1, if_neg a.1, if_neg a.2, if_neg a.2, decide_eq_true h0, decide_eq_true h1]
  rfl
theorem fits_join {m g : Int} (hm : 2 ≤ m) (h0 : 1 ≤ g) (h1 : g < m - 1 ∨ g = 1) : fitsG "join" m g = true := by
  have n : ("join" : Str) ≠ "open" := by decide
  unfold fitsG gLo gHi
  rw [if_neg n, if_neg n, if_pos rfl, if_pos rfl, if_pos (by omega), if_pos (by omega), decide_eq_true h0, decide_eq_true]
  · rfl
  · split <;> omega
theorem behind_cross {w : Str} {m : Int} (hw : w = "over" ∨ w = "under" ∨ w = "turn") : behind w m = m := by
  have a : w ≠ "open" ∧ w ≠ "join" := by rcases hw with h | h | h <;> (rw [h]; decide)
  unfold behind
  rw [if_neg a.2, if_neg a.1]
theorem behind_join {m : Int} : behind "join" m = m - 2 := rfl
theorem behind_open {m : Int} : behind "open" m = m + 2 := rfl
/-- one deed more -/
theorem runD_one {ds : Dl} {w : Str} {g m n : Int} (h : runD ds m = some n) (f : fitsG w n g = true) (b : ¬ behind w n > 24) : runD (ds ++ [(w, g)]) m = some (behind w n) := by
  rw [runD_app, h]
  show (if fitsG w n g ∧ ¬ behind w n > 24 then some (behind w n) else none) = _
  rw [if_pos ⟨f, b⟩]
theorem even_behind {w : Str} {m : Int} (h : m % 2 = 0) : behind w m % 2 = 0 := by
  unfold behind
  split
  · omega
  · split <;> omega
theorem fits_ends {w : Str} {m g : Int} (h0 : 0 ≤ m) (h2 : m % 2 = 0) (f : fitsG w m g = true) : 0 ≤ behind w m := by
  unfold behind
  split
  · rename_i hj
    subst hj
    have n : ("join" : Str) ≠ "open" := by decide
    unfold fitsG gLo gHi at f
    rw [if_neg n, if_neg n, if_pos rfl, if_pos rfl] at f
    by_cases hp : 0 < m
    · omega
    · rw [if_neg hp, if_neg hp] at f
      have := (Bool.and_eq_true_iff.mp f)
      have a := of_decide_eq_true this.1
      have b := of_decide_eq_true this.2
      omega
  · split <;> omega
theorem inV_rg {g a b : Int} : inV (.int g) (rgV a b) = (decide (a ≤ g) && decide (g < b)) := by
  unfold inV rgV
  by_cases h : a ≤ g ∧ g < b
  · rw [decide_eq_true h.1, decide_eq_true h.2]
    refine List.any_eq_true.mpr ⟨.int g, List.mem_map.mpr ⟨(g - a).toNat, List.mem_range.mpr (by omega), by congr 1; omega⟩, ?_⟩
    show (g == g) = true
    exact beq_self_eq_true g
  · have e : (decide (a ≤ g) && decide (g < b)) = false := by
      by_cases h1 : a ≤ g
      · rw [decide_eq_false (p := g < b) (fun z => h ⟨h1, z⟩), Bool.and_false]
      · rw [decide_eq_false h1, Bool.false_and]
    rw [e]
    refine List.any_eq_false.mpr fun x m => ?_
    obtain ⟨k, mk, rfl⟩ := List.mem_map.mp m
    have := List.mem_range.mp mk
    show ¬ (a + (k : Int) == g) = true
    intro z
    have z' := eq_of_beq z
    exact h ⟨by omega, by omega⟩
theorem flat_rg {a b : Int} : (rgV a b).all flatV = true := by
  unfold rgV
  rw [List.all_map]
  exact List.all_eq_true.mpr fun _ _ => rfl
/-- all gaps are gaps of some ring -/
def gapsOk (ds : Dl) : Bool := ds.all fun d => inB (.int d.2) (some 0) (some 23)
theorem gapsOk_typ {ds : Dl} (h : Typ 23 ds) : gapsOk ds = true := List.all_eq_true.mpr fun d m => by
  obtain ⟨_, a, b⟩ := h d m
  show (decide ((0 : Int) ≤ d.2) && decide (d.2 ≤ (23 : Int))) = true
  rw [decide_eq_true a, decide_eq_true b]
  rfl
theorem r_eqS {x y : Str} {H : Hp} {Q : VK} (h : Q (.bl (decide (x = y))) H) : rEq (.str x) (.str y) H Q := ⟨rfl, by
  rw [show decide (V.str x = V.str y) = decide (x = y) from decide_eq_decide.mpr ⟨V.str.inj, congrArg V.str⟩]
  exact h⟩
theorem r_in {K : PySem.W.Frag} {p : Addr} {x : V} {xs : List V} {H : Hp} {Q : VK} (hs : SqL K H p xs ∨ SqT K H p xs) (f : flatV x = true) (fs : xs.all flatV = true) (h : Q (.bl (inV x xs)) H) : rIn K false x (.ref p) H Q := ⟨p, xs, rfl, hs, f, fs, h⟩
theorem r_notIn {K : PySem.W.Frag} {p : Addr} {x : V} {xs : List V} {H : Hp} {Q : VK} (hs : SqL K H p xs ∨ SqT K H p xs) (f : flatV x = true) (fs : xs.all flatV = true) (h : Q (.bl (!inV x xs)) H) : rIn K true x (.ref p) H Q := ⟨p, xs, rfl, hs, f, fs, h⟩
theorem in_W5 {w : Str} (h : w ∈ W5) : inV (.str w) [.str "over", .str "under", .str "join", .str "open", .str "turn"] = true := by
  unfold W5 at h
  simp only [List.mem_cons, List.not_mem_nil, or_false] at h
  rcases h with h | h | h | h | h <;> (rw [h]; decide +kernel)
end Rp
namespace Rp
open PySem PySem.Spec PyProof.Rows L2 LamX
/-! ### own errors with two fields; objects of own classes that may not come about -/
/-- tuple(x), x a list or a tuple -/
def rTupOf (K : PySem.W.Frag) : List V → Hp → VK → Prop := fun xs H Q => ∃ p ys, xs = [.ref p] ∧ ((SqL K H p ys ∧ ∀ l, H l = none → Q (.ref l) (upd H l (.tup ys))) ∨ (SqT K H p ys ∧ Q (.ref p) H))
theorem call_tupK {X : Cx} : CallR X (.type "tuple") (rTupOf X.K) := call_tuple_of
def spIni2 (C : Addr) (f g : Str) : Sp := fun vs H Q _ => ∃ a v u, vs = [.ref a, v, u] ∧ H a = some (exo a C none) ∧ ∀ dx, H dx = none → dx ≠ a → Q .non (upd (upd (upd H dx (exd dx [(f, v)])) a (exo a C (some dx))) dx (exd dx [(g, u), (f, v)]))
structure Err2 (P : Program) (w : World) (K : PySem.W.Frag) (mg : Str → Option Value) (base : Heap) (x : Str) (C : Addr) (f g : Str) : Prop where
  gm : mg x = some (.ref C)
  oex : OexC K C
  no : PySem.W.findIn K (.ref C) f = some none
  no2 : PySem.W.findIn K (.ref C) g = some none
  xf : XfC K C
  ini : ∃ (fI : Addr) (fd : FuncData) (ps : List Str), PySem.W.findIn K (.ref C) "__init__" = some (some (.ref fI)) ∧ PySem.W.typeIn K (.ref fI) = some (.type "function") ∧ Binds K fd ps [] ∧
    FnOk P w K mg base CX0 1 fI fd ps (spIni2 C f g)
/-- x(e, e'), raised: the error's own dict is new -/
def tErr2 (C : Addr) (f g : Str) (te tu : TE) : L2.St → Hp → XK → Prop := fun σ H Q => te σ H fun v H1 => tu σ H1 fun u H2 => ∀ d, H2 d = none → Q (.ref C) (some d) (upd H2 d (.xd [(g, u), (f, v)]))
theorem del_put2 {H : Hp} {a d : Addr} {o u o2 u2 : HO} {fs : List (Str × V)} (na : H a = none) (ne : d ≠ a) : upd (del (upd (upd (upd (upd H a o) d u) a o2) d u2) a) d (.xd fs) = upd H d (.xd fs) := by
  funext b
  by_cases hd : b = d
  · rw [hd, upd_same, upd_same]
  · rw [upd_ne hd, upd_ne hd]
    by_cases ha : b = a
    · rw [ha, del_same, na]
    · rw [del_ne ha, upd_ne hd, upd_ne ha, upd_ne hd, upd_ne ha]
theorem pmk_err2 {X : Cx} {x f g : Str} {C : Addr} {e e2 : Expr} {te tu : TE} {p pos : Pos} (T : Err2 X.prog X.w X.K X.mg X.base x C f g) (hr : Room 2 X.A) (hg : Gl X x) (he : PE X e te) (he2 : PE X e2 tu) (d1 : (x == ("__debug__" : Str)) = false := by decide)
    (d2 : starEach [e, e2] X.env = (false, eval e X.env) :: starEach [e2] X.env := by rfl) (d4 : starEach [e2] X.env = (false, eval e2 X.env) :: starEach [] X.env := by rfl) (d3 : (backTo pos (starEach [e2] X.env)).any (·.1) = false := by rfl) : PMk X (.Call (.Name x p) [e, e2] [] pos) (tErr2 C f g te tu) := by
  obtain ⟨fI, fd, ps, h1, h2, h3, h4⟩ := T.ini
  intro pins s σ H Q I h
  refine pmk_oex T.oex h1 h2 h4 hr h3 .nil (fun _ _ _ _ _ _ _ z => z.elim) hg T.gm (pa_cons (pe_mono he) (pa_cons (pe_mono he2) pa_nil d4) d2) d1 d2 d3 pins s σ H Q I ?_
  refine ⟨_, h, fun v H1 k => ⟨_, k, fun u H2 k2 => ⟨by show 2 ≤ 1000; decide, fun a na => ⟨a, v, u, rfl, upd_same, fun dx nd ne => ⟨rfl, dx, [(g, u), (f, v)], ?_, upd_same, ?_, ?_⟩⟩⟩⟩⟩
  · rw [upd_ne ne.symm, upd_same]
  · rw [upd_ne ne] at nd
    exact nd
  · rw [upd_ne ne] at nd
    rw [del_put2 na ne]
    exact k2 dx nd
/-- an error of two fields is E's -/
def err2At (E : XK) (C : Addr) (f g : Str) (v u : V) (H : Hp) : Prop := ∀ d, H d = none → E (.ref C) (some d) (upd H d (.xd [(g, u), (f, v)]))
structure MakX (P : Program) (w : World) (K : PySem.W.Frag) (mg : Str → Option Value) (base : Heap) (x : Str) (k : Nat) (C f : Addr) (fd : FuncData) (ps : List Str) (sp : Sp) : Prop where
  M : Mk K C f
  F : FnOk P w K mg base (L2.CX P w) k f fd ps sp
  mgf : mg x = some (.ref C)
  b : Binds K fd ps []
section
variable {X : Cx} {k : Nat} {f C : Addr} {fd : FuncData} {ps ks : List Str} {sp : Sp} {x : Str} {p pos : Pos} {e : Expr} {es : List Expr} {t tk : TA} {kws : List Keyword} {E : XK}
theorem pe_makeE (c : MakX X.prog X.w X.K X.mg X.base x k C f fd ps sp) (r : Room (k + 1) X.A) (tk : Takes X (fun cls d _ H => E cls d H)) (hg : Gl X x) (ha : PA X (e :: es) t) (d1 : (x == ("__debug__" : Str)) = false := by decide)
    (d2 : starEach (e :: es) X.env = (false, eval e X.env) :: starEach es X.env := by rfl) (d3 : (backTo pos (starEach es X.env)).any (·.1) = false := by rfl) : PE X (.Call (.Name x p) (e :: es) [] pos) (tMake C sp [] E t) :=
  pe_make c.M c.F r hg c.mgf c.b .nil (fun pins σ H s e s' I z => passAt tk σ pins H s e s' I z) ha d1 d2 d3
theorem pe_makeX (c : MakX X.prog X.w X.K X.mg X.base x k C f fd ps sp) (r : Room (k + 1) X.A) (hg : Gl X x) (ha : PA X (e :: es) t) (d1 : (x == ("__debug__" : Str)) = false := by decide)
    (d2 : starEach (e :: es) X.env = (false, eval e X.env) :: starEach es X.env := by rfl) (d3 : (backTo pos (starEach es X.env)).any (·.1) = false := by rfl) : PE X (.Call (.Name x p) (e :: es) [] pos) (tMake C sp [] E0 t) :=
  pe_make c.M c.F r hg c.mgf c.b .nil (fun pins σ H s e s' I z => pass0X pins H s e s' I z (σ := σ)) ha d1 d2 d3
end
section
variable {K : PySem.W.Frag} {σ : L2.St} {H : Hp} {Q : VK} {QX : XK} {D : Ends} {te tu ta tv : TE} {C : Addr} {f g : Str} {sp : Sp} {t : TA} {E : XK} {dvs : List V} {tc : TT} {tb : TS}
theorem r_err2 (h : te σ H fun v H1 => tu σ H1 fun u H2 => ∀ d, H2 d = none → QX (.ref C) (some d) (upd H2 d (.xd [(g, u), (f, v)]))) : tErr2 C f g te tu σ H QX := h
theorem r_make (h : t σ H fun vs H1 => ∀ x dx, H1 x = none → H1 dx = none → dx ≠ x → sp (.ref x :: (vs ++ dvs)) (upd (upd H1 dx (.own x)) x (.ins C dx [])) (fun v H2 => v = .non ∧ Q (.ref x) H2) E) : tMake C sp dvs E t σ H Q := h
theorem r_fld (h : ta σ H fun x H1 => ∃ a C dx fs v, x = .ref a ∧ H1 a = some (.ins C dx fs) ∧ Cls K C ∧ NoAttr K C f ∧ fs.lookup f = some v ∧ Q v H1) : tFld K ta f σ H Q := h
theorem r_sfld (h : tv σ H fun y H1 => ta σ H1 fun x H2 => ∃ a C dx fs, x = .ref a ∧ H2 a = some (.ins C dx fs) ∧ Cls K C ∧ NoAttr K C f ∧ fs.length < 1000 ∧ D.nx σ (upd H2 a (.ins C dx (putF f y fs)))) : sFld K ta tv f D σ H := h
theorem r_lrg {tr : L2.St → Hp → (Int → Int → Hp → Prop) → Prop} (h : tr σ H fun a b H1 => RgOk a b ∧ ∀ q, H1 q = none → Q (.ref q) (upd H1 q (.lst (rgV a b)))) : tLstRg tr σ H Q := h
theorem r_rg1 {R : Int → Int → Hp → Prop} (h : ta σ H fun x H1 => ∃ n, x = .int n ∧ R 0 n H1) : tRg1 ta σ H R := h
theorem r_rg2 {R : Int → Int → Hp → Prop} (h : ta σ H fun x H1 => tv σ H1 fun y H2 => ∃ i j, x = .int i ∧ y = .int j ∧ R i j H2) : tRg2 ta tv σ H R := h
theorem r_bm {T : String} {r : V → List V → Hp → VK → Prop} {to : TE} {t : TA} (h : to σ H fun x H1 => tyV K T x H1 ∧ t σ H1 fun xs H2 => r x xs H2 Q) : tBM K T r to t σ H Q := h
theorem ty_lst {p : Addr} {xs : List V} (e : H p = some (.lst xs)) : tyV K "list" (.ref p) H := .inl ⟨rfl, xs, SqL.of e⟩
theorem r_append {p : Addr} {xs : List V} {y : V} (e : H p = some (.lst xs)) (l : xs.length < sizeLine) (h : Q .non (upd H p (.lst (xs ++ [y])))) : rAppend (.ref p) [y] H Q := ⟨p, xs, y, rfl, rfl, e, l, h⟩
theorem r_cat {l b p : Addr} {xs zs : List V} (e : H l = some (.lst xs)) (e2 : H b = some (.lst zs)) (z : xs.length + zs.length ≤ sizeLine) (h : ∀ p, H p = none → Q (.ref p) (upd H p (.lst (xs ++ zs)))) : rCat (.ref l) (.ref b) H Q := ⟨l, b, xs, zs, rfl, rfl, e, e2, z, h⟩
theorem r_while (h : ∃ W : Nat → L2.St → Hp → Prop, (∃ m, W m σ H) ∧ ∀ m σ H, W m σ H → tc σ H fun b H1 => if b = true then ∃ N : L2.St → Hp → Prop, (∀ σ' H', N σ' H' → ∃ m', m' < m ∧ W m' σ' H') ∧ tb { D with nx := N, ct := N, bk := D.nx } σ H1 else D.nx σ H1) : tWhile tc tb D σ H := h
end
end Rp
namespace Rp
open PySem PySem.Spec PyProof.Rows L2
/-! ### rows packed into one integer -/
def pk : List Int → Int
  | [] => 0
  | x :: r => x + 16777216 * pk r
def Dig (B : Int) (xs : List Int) : Prop := ∀ x ∈ xs, 0 ≤ x ∧ x < B
theorem Dig.nil {B : Int} : Dig B [] := fun _ m => nomatch m
theorem Dig.cons {B x : Int} {r : List Int} (h : 0 ≤ x ∧ x < B) (t : Dig B r) : Dig B (x :: r) := fun y m => by
  rcases List.mem_cons.mp m with e | m
  · rw [e]; exact h
  · exact t y m
theorem Dig.head {B x : Int} {r : List Int} (h : Dig B (x :: r)) : 0 ≤ x ∧ x < B := h x (List.mem_cons_self ..)
theorem Dig.tail {B x : Int} {r : List Int} (h : Dig B (x :: r)) : Dig B r := fun y m => h y (List.mem_cons_of_mem _ m)
theorem Dig.le {B C : Int} {r : List Int} (h : Dig B r) (l : B ≤ C) : Dig C r := fun y m => ⟨(h y m).1, Int.lt_of_lt_of_le (h y m).2 l⟩
theorem Dig.at {B : Int} {r : List Int} {k : Nat} {x : Int} (h : Dig B r) (e : r[k]? = some x) : 0 ≤ x ∧ x < B := h x (List.mem_of_getElem? e)
theorem pk_pos {B : Int} : ∀ {xs : List Int}, Dig B xs → 0 ≤ pk xs
  | [], _ => Int.le_refl 0
  | x :: r, h => by
    have a := pk_pos h.tail
    have b := h.head.1
    show 0 ≤ x + 16777216 * pk r
    omega
theorem pk_lt : ∀ {xs : List Int}, Dig 16777216 xs → pk xs < 2 ^ (24 * xs.length)
  | [], _ => by show (0 : Int) < 1; decide
  | x :: r, h => by
    have a := pk_lt h.tail
    have b := h.head
    have e : (2 : Int) ^ (24 * (x :: r).length) = 16777216 * 2 ^ (24 * r.length) := by
      rw [List.length_cons, show 24 * (r.length + 1) = 24 * r.length + 24 by omega, Int.pow_add, Int.mul_comm]
      rfl
    rw [e]
    show x + 16777216 * pk r < _
    omega
theorem pk_at : ∀ {xs : List Int} {k : Nat} {x : Int}, Dig 16777216 xs → xs[k]? = some x → (pk xs / 2 ^ (24 * k)) % 2 ^ 24 = x
  | [], _, _, _, e => by cases e
  | y :: r, 0, x, h, e => by
    cases e
    have b := h.head
    show ((y + 16777216 * pk r) / 1) % 16777216 = y
    omega
  | y :: r, k + 1, x, h, e => by
    have a := pk_at (k := k) h.tail (show r[k]? = some x from e)
    have b := h.head
    have e2 : (2 : Int) ^ (24 * (k + 1)) = 16777216 * 2 ^ (24 * k) := by
      rw [show 24 * (k + 1) = 24 * k + 24 by omega, Int.pow_add, Int.mul_comm]
      rfl
    rw [e2]
    show ((y + 16777216 * pk r) / (16777216 * 2 ^ (24 * k))) % 2 ^ 24 = x
    rw [← Int.ediv_ediv_of_nonneg (by decide)]
    rw [show (y + 16777216 * pk r) / 16777216 = pk r by omega]
    exact a
def addT (t : Int) (xs ys : List Int) : List Int := List.zipWith (fun x y => x + t * y) xs ys
theorem pk_add (t : Int) : ∀ {xs ys : List Int}, xs.length = ys.length → pk (addT t xs ys) = pk xs + t * pk ys
  | [], [], _ => by show (0 : Int) = 0 + t * 0; rw [Int.mul_zero]; rfl
  | x :: r, y :: u, h => by
    have a := pk_add t (xs := r) (ys := u) (by simpa using h)
    show (x + t * y) + 16777216 * pk (addT t r u) = (x + 16777216 * pk r) + t * (y + 16777216 * pk u)
    rw [a, Int.mul_add, Int.mul_add, Int.mul_left_comm]
    omega
  | [], _ :: _, h => by cases h
  | _ :: _, [], h => by cases h
theorem addT_len {t : Int} {xs ys : List Int} (h : xs.length = ys.length) : (addT t xs ys).length = xs.length := by
  unfold addT
  rw [List.length_zipWith, h]
  exact Nat.min_self _
theorem addT_dig {t B : Int} (t0 : 0 ≤ t) (t1 : t ≤ 31) : ∀ {xs ys : List Int}, Dig B xs → Dig 31 ys → Dig (B + 961) (addT t xs ys)
  | [], _, _, _ => by cases ‹List Int› <;> exact Dig.nil
  | _ :: _, [], _, _ => Dig.nil
  | x :: r, y :: u, h, k => by
    refine Dig.cons ?_ (addT_dig t0 t1 h.tail k.tail)
    show 0 ≤ x + t * y ∧ x + t * y < B + 961
    have a := h.head
    have b := k.head
    have c0 := Int.mul_nonneg t0 b.1
    have c1 : t * y ≤ 31 * 31 := Int.mul_le_mul t1 (by omega) b.1 (by decide)
    omega
/-- rows added so that there is 0 where they lead -/
def clr (cl : Int) : List (Nat × List Int) → List Int → List Int
  | [], xs => xs
  | (a, r) :: ls, xs => clr cl ls (if xs.getD a 0 % cl ≠ 0 then addT (cl - xs.getD a 0 % cl) xs r else xs)
/-- what leading rows must be -/
def LdOk (cl : Int) (n : Nat) (ls : List (Nat × List Int)) : Prop := ∀ l ∈ ls, l.1 < n ∧ l.2.length = n ∧ Dig cl l.2
theorem LdOk.head {cl : Int} {n : Nat} {l : Nat × List Int} {ls : List (Nat × List Int)} (h : LdOk cl n (l :: ls)) : l.1 < n ∧ l.2.length = n ∧ Dig cl l.2 := h l (List.mem_cons_self ..)
theorem LdOk.tail {cl : Int} {n : Nat} {l : Nat × List Int} {ls : List (Nat × List Int)} (h : LdOk cl n (l :: ls)) : LdOk cl n ls := fun y m => h y (List.mem_cons_of_mem _ m)
theorem clr_ok {cl : Int} {n : Nat} (h3 : 3 ≤ cl) (h31 : cl ≤ 31) : ∀ {ls : List (Nat × List Int)} {xs : List Int} {B : Int}, LdOk cl n ls → Dig B xs → xs.length = n → Dig (B + 961 * ls.length) (clr cl ls xs) ∧ (clr cl ls xs).length = n
  | [], xs, B, _, d, l => ⟨d.le (by rw [List.length_nil]; omega), l⟩
  | (a, r) :: ls, xs, B, o, d, l => by
    have q := o.head
    have e : (((a, r) :: ls).length : Int) = (ls.length : Int) + 1 := by rw [List.length_cons]; omega
    unfold clr
    by_cases h : xs.getD a 0 % cl ≠ 0
    · rw [if_pos h]
      have m1 := Int.emod_nonneg (xs.getD a 0) (by omega : cl ≠ 0)
      have m2 := Int.emod_lt_of_pos (xs.getD a 0) (by omega : 0 < cl)
      obtain ⟨z1, z2⟩ := clr_ok h3 h31 (n := n) o.tail (addT_dig (t := cl - xs.getD a 0 % cl) (by omega) (by omega) d (q.2.2.le h31)) (by rw [addT_len (by rw [l, q.2.1])]; exact l)
      exact ⟨z1.le (by omega), z2⟩
    · rw [if_neg h]
      obtain ⟨z1, z2⟩ := clr_ok h3 h31 (n := n) o.tail d l
      exact ⟨z1.le (by omega), z2⟩
theorem clr_snoc (cl : Int) (a : Nat) (r : List Int) : ∀ (ls : List (Nat × List Int)) (xs : List Int), clr cl (ls ++ [(a, r)]) xs = (if (clr cl ls xs).getD a 0 % cl ≠ 0 then addT (cl - (clr cl ls xs).getD a 0 % cl) (clr cl ls xs) r else clr cl ls xs)
  | [], xs => rfl
  | (b, u) :: ls, xs => by
    show clr cl (ls ++ [(a, r)]) _ = _
    rw [clr_snoc cl a r ls]
    rfl
theorem clr_take {cl : Int} {a i : Nat} {r xs : List Int} {ls : List (Nat × List Int)} (e : ls[i]? = some (a, r)) : clr cl (ls.take (i + 1)) xs = (if (clr cl (ls.take i) xs).getD a 0 % cl ≠ 0 then addT (cl - (clr cl (ls.take i) xs).getD a 0 % cl) (clr cl (ls.take i) xs) r else clr cl (ls.take i) xs) := by
  rw [List.take_succ, e]
  exact clr_snoc cl a r _ _
theorem LdOk.take {cl : Int} {n : Nat} {ls : List (Nat × List Int)} (h : LdOk cl n ls) (i : Nat) : LdOk cl n (ls.take i) := fun l m => h l (List.mem_of_mem_take m)
def modRow (cl : Int) (xs : List Int) : List Int := xs.map fun x => x % cl
theorem modRow_dig {cl : Int} (h : 0 < cl) (xs : List Int) : Dig cl (modRow cl xs) := fun y m => by
  obtain ⟨x, _, rfl⟩ := List.mem_map.mp m
  exact ⟨Int.emod_nonneg _ (by omega), Int.emod_lt_of_pos _ h⟩
theorem modRow_len {cl : Int} {xs : List Int} : (modRow cl xs).length = xs.length := List.length_map ..
/-- the place of the first number that is not 0 -/
def leadOf : List Int → Nat
  | [] => 0
  | x :: r => if x = 0 then leadOf r + 1 else 0
theorem leadOf_le : ∀ xs : List Int, leadOf xs ≤ xs.length
  | [] => Nat.le_refl 0
  | x :: r => by
    have := leadOf_le r
    unfold leadOf
    rw [List.length_cons]
    split <;> omega
theorem leadOf_zero : ∀ {xs : List Int} {k : Nat} {x : Int}, k < leadOf xs → xs[k]? = some x → x = 0
  | [], _, _, _, e => by cases e
  | y :: r, 0, x, h, e => by
    cases e
    unfold leadOf at h
    split at h
    · assumption
    · omega
  | y :: r, k + 1, x, h, e => by
    unfold leadOf at h
    split at h
    · exact leadOf_zero (xs := r) (k := k) (by omega) e
    · omega
theorem leadOf_at : ∀ {xs : List Int} {k : Nat} {x : Int}, xs[k]? = some x → x ≠ 0 → (∀ j y, j < k → xs[j]? = some y → y = 0) → leadOf xs = k
  | [], _, _, e, _, _ => by cases e
  | y :: r, 0, x, e, n, _ => by
    cases e
    unfold leadOf
    rw [if_neg n]
  | y :: r, k + 1, x, e, n, h => by
    have h0 := h 0 y (by omega) rfl
    unfold leadOf
    rw [if_pos h0]
    have := leadOf_at (xs := r) (k := k) e n fun j z hj ez => h (j + 1) z (by omega) ez
    omega
theorem leadOf_all : ∀ {xs : List Int}, (∀ (j : Nat) (y : Int), xs[j]? = some y → y = 0) → leadOf xs = xs.length
  | [], _ => rfl
  | y :: r, h => by
    unfold leadOf
    rw [if_pos (h 0 y rfl), leadOf_all (xs := r) fun j z e => h (j + 1) z e]
    rfl
theorem leadOf_step : ∀ {xs : List Int} {k : Nat}, xs[k]? = some 0 → k ≤ leadOf xs → k + 1 ≤ leadOf xs
  | [], _, e, _ => by cases e
  | y :: r, 0, e, _ => by
    cases e
    unfold leadOf
    rw [if_pos rfl]
    omega
  | y :: r, k + 1, e, h => by
    unfold leadOf at h ⊢
    split at h
    · rename_i q
      rw [if_pos q]
      have := leadOf_step (xs := r) (k := k) e (by omega)
      omega
    · omega
theorem leadOf_is {xs : List Int} {k : Nat} {x : Int} (e : xs[k]? = some x) (n : x ≠ 0) (h : k ≤ leadOf xs) : leadOf xs = k := by
  refine leadOf_at e n fun j y hj ej => leadOf_zero (by omega) ej
def putL (ls : List (Nat × List Int)) (a : Nat) (r : List Int) : List (Nat × List Int) :=
  if ls.any (fun l => decide (l.1 = a)) then ls.map (fun l => if l.1 = a then (l.1, r) else l) else ls ++ [(a, r)]
/-- the power by clock - 2, round the clock -/
def powF (cl n : Int) : Nat → Int
  | 0 => 1
  | k + 1 => (powF cl n k * n).fmod cl
/-- one row more among the leading ones -/
def ldOne (cl : Int) (n : Nat) (ls : List (Nat × List Int)) (row : List Int) : List (Nat × List Int) :=
  let left := modRow cl (clr cl ls row)
  if leadOf left < n then putL ls (leadOf left) (left.map fun x => (powF cl (left.getD (leadOf left) 0) (cl - 2).toNat * x) % cl) else ls
def leading (cl : Int) (n : Nat) (rows : List (List Int)) : List (Nat × List Int) := rows.foldl (ldOne cl n) []
def findL (ls : List (Nat × List Int)) (a : Nat) : List Int := ((ls.find? fun l => decide (l.1 = a)).map (·.2)).getD []
/-- the leads, from the greatest one on -/
def insD (a : Nat) : List Nat → List Nat
  | [] => [a]
  | b :: r => if b ≤ a then a :: b :: r else b :: insD a r
def descend : List Nat → List Nat
  | [] => []
  | a :: r => insD a (descend r)
theorem insD_perm (a : Nat) : ∀ ls : List Nat, (insD a ls).Perm (a :: ls)
  | [] => .refl _
  | b :: r => by
    unfold insD
    split
    · exact .refl _
    · exact ((insD_perm a r).cons b).trans (.swap a b r)
theorem descend_perm : ∀ ls : List Nat, (descend ls).Perm ls
  | [] => .refl _
  | a :: r => (insD_perm a _).trans ((descend_perm r).cons a)
theorem insD_desc (a : Nat) : ∀ {ls : List Nat}, ls.Pairwise (· ≥ ·) → (insD a ls).Pairwise (· ≥ ·)
  | [], _ => by unfold insD; exact List.pairwise_singleton _ _
  | b :: r, h => by
    obtain ⟨h1, h2⟩ := List.pairwise_cons.mp h
    unfold insD
    split
    · rename_i q
      refine List.pairwise_cons.mpr ⟨fun c m => ?_, h⟩
      rcases List.mem_cons.mp m with e | m
      · rw [e]; exact q
      · exact Nat.le_trans (h1 c m) q
    · rename_i q
      refine List.pairwise_cons.mpr ⟨fun c m => ?_, insD_desc a h2⟩
      rcases List.mem_cons.mp ((insD_perm a r).mem_iff.mp m) with e | m
      · rw [e]; show a ≤ b; omega
      · exact h1 c m
theorem descend_desc : ∀ ls : List Nat, (descend ls).Pairwise (· ≥ ·)
  | [] => .nil
  | a :: r => insD_desc a (descend_desc r)
theorem desc_one : ∀ {a b : List Nat}, a.Perm b → a.Pairwise (· ≥ ·) → b.Pairwise (· ≥ ·) → a = b
  | [], b, p, _, _ => (List.nil_perm.mp p).symm
  | x :: r, [], p, _, _ => (List.perm_nil.mp p)
  | x :: r, y :: u, p, h, k => by
    obtain ⟨h1, h2⟩ := List.pairwise_cons.mp h
    obtain ⟨k1, k2⟩ := List.pairwise_cons.mp k
    have e : x = y := by
      have m1 : x ∈ y :: u := p.mem_iff.mp (List.mem_cons_self ..)
      have m2 : y ∈ x :: r := p.mem_iff.mpr (List.mem_cons_self ..)
      rcases List.mem_cons.mp m1 with e | m1
      · exact e
      rcases List.mem_cons.mp m2 with e | m2
      · exact e.symm
      have a := k1 x m1
      have b := h1 y m2
      omega
    subst e
    rw [desc_one (List.Perm.cons_inv p) h2 k2]
def backOne (cl : Int) (ls : List (Nat × List Int)) (st : List (Nat × List Int) × List (List Int)) (a : Nat) : List (Nat × List Int) × List (List Int) :=
  let row := modRow cl (clr cl st.1 (findL ls a))
  (putL st.1 a row, st.2 ++ [row])
def leastForm (cl : Int) (n : Nat) (rows : List (List Int)) : List (List Int) :=
  let ls := leading cl n rows
  ((descend (ls.map (·.1))).foldl (backOne cl ls) ([], [])).2.reverse
theorem putL_ok {cl : Int} {n a : Nat} {r : List Int} {ls : List (Nat × List Int)} (h : LdOk cl n ls) (ha : a < n) (hr : r.length = n) (hd : Dig cl r) : LdOk cl n (putL ls a r) := fun l m => by
  unfold putL at m
  split at m
  · obtain ⟨k, mk, e⟩ := List.mem_map.mp m
    split at e
    · rw [← e]
      exact ⟨(h k mk).1, hr, hd⟩
    · rw [← e]
      exact h k mk
  · rcases List.mem_append.mp m with m | m
    · exact h l m
    · rw [List.mem_singleton.mp m]
      exact ⟨ha, hr, hd⟩
end Rp
namespace PySem
open Sem (wp)
open AutoSeq1 (wpAny_loadPart')
theorem meets_enumerate_newT (l : Addr) (items : Array Value) (n : Nat) (dct : Option Addr) (sl : Array (Option Value)) :
    Meets (Builtin.«enumerate.__new__» ⟨[.type "enumerate", .ref l], []⟩) (fun _ R s => s.heap.get? l = some { cls := .type "tuple", dict := dct, data := .seq items n, slots := sl } ∧
      R (.ok (.ret (.ref (s.heap.push { cls := .type "tuple_iterator", data := .fields #[.ref l, .int 0 0] }).objs.size)))
        { s with heap := (s.heap.push { cls := .type "tuple_iterator", data := .fields #[.ref l, .int 0 0] }).push { cls := .type "enumerate", data := .fields #[.none, .bool false, .ref s.heap.objs.size, rawInt 0, .none, .none] } }) :=
  .of_wp fun prog w A R s h => by
    obtain ⟨hp, g, d, tk, os⟩ := s; obtain ⟨hl, h⟩ := h
    have hsub := sub_enumerate
    have hL : Heap.IsTuple (Shared.heap ⟨hp, g, d, tk, os⟩) l items := ⟨_, hl, rfl, n, rfl⟩
    wp_walk using wpAny_loadPart' hl
    refine wpAny_stack_any fun st => wpAny_pure ?_
    split
    · rename_i c _ _ _ _ _
      cases (c == Value.type "enumerate")
      · wp_walk using wpAny_loadPart' hl, wpAny_pyIter_tuple hL
        exact ⟨_, rfl, h⟩
      · wp_walk using wpAny_loadPart' hl, wpAny_pyIter_tuple hL
        exact ⟨_, rfl, h⟩
    · wp_walk using wpAny_loadPart' hl, wpAny_pyIter_tuple hL
      exact ⟨_, rfl, h⟩
theorem call_enumerate_tuple {prog : Program} {w : World} {A : Around} {E : Value → Shared → Prop} {s : Shared} {l : Addr} {items : Array Value} {Q : Value → Shared → Prop} (hL : s.heap.IsTuple l items)
    (h : ∀ h', IsEnum h' (s.heap.objs.size + 1) s.heap.objs.size 0 .none → h'.IsTupleIter s.heap.objs.size l 0 → h'.objs.size = s.heap.objs.size + 2 →
      (∀ b o, s.heap.get? b = some o → h'.get? b = some o) → Q (.ref (s.heap.objs.size + 1)) { s with heap := h' }) :
    wpAny (model prog w) A (call (.type "enumerate") [.ref l]) Q E s := by
  obtain ⟨⟨c, dct, dt, sl⟩, hl, hc, n, hd⟩ := hL
  replace hc : c = .type "tuple" := hc
  replace hd : dt = .seq items n := hd
  subst hc hd
  refine callType_new F.called_enumerate (by decide) (F.typeCall_enumerate_1 _) (F.newCall_enumerate_1 _) (fun obj => F.args_object_init_2 obj _) F.entry_enumerate_new
    (meets_enumerate_newT l items n dct sl) ⟨hl, ?_⟩
  have hz : (s.heap.push { cls := .type "tuple_iterator", data := .fields #[.ref l, .int 0 0] }).objs.size = s.heap.objs.size + 1 := Heap.size_push ..
  show _ ∧ _
  rw [hz]
  have he : IsEnum ((s.heap.push { cls := .type "tuple_iterator", data := .fields #[.ref l, .int 0 0] }).push
      { cls := .type "enumerate", data := .fields #[.none, .bool false, .ref s.heap.objs.size, rawInt 0, .none, .none] }) (s.heap.objs.size + 1) s.heap.objs.size 0 .none := by
    have := Heap.get?_push_size (s.heap.push { cls := .type "tuple_iterator", data := .fields #[.ref l, .int 0 0] })
      (o := { cls := .type "enumerate", data := .fields #[.none, .bool false, .ref s.heap.objs.size, rawInt 0, .none, .none] }) rfl
    rw [hz] at this; exact this
  refine ⟨⟨_, he, rfl⟩, h _ he ⟨_, Heap.get?_push_of_some _ (Heap.get?_push_size _ rfl), rfl, rfl⟩ (by rw [Heap.size_push, hz]) fun b o x => Heap.get?_push_of_some _ (Heap.get?_push_of_some _ x)⟩
end PySem
namespace Rp
open PySem PySem.Spec PyProof.Rows L2
/-! ### enumerate(tuple) -/
def IteT (K : PySem.W.Frag) (a : Addr) : It :=
  ⟨fun i H => ∃ (xs : List V) (x : V), SqT K H a xs ∧ xs[i]? = some x, fun i H v H' => ∃ T x, v = .ref T ∧ H T = none ∧ H' = upd H T (.tup [.int (i : Nat), x]) ∧ ∀ xs, SqT K H a xs → xs[i]? = some x, fun i H => ∃ xs : List V, SqT K H a xs ∧ xs.length ≤ i⟩
theorem turn_enumT {P : Program} {w : World} {K : PySem.W.Frag} {elts : List Expr} {kk : Nat} {tpos : Pos} (a e it : Addr) (na : a ≠ it) (nea : e ≠ a) :
    Turn P w K (.Tuple elts kk tpos) (IteT K a) [e, it] e (fun i h => (∃ old, IsEnum h e it ((i : Nat) : Int) old) ∧ h.IsTupleIter it a i ∧ e ≠ it) where
  mem := by simp
  obj := fun i h st b hb => by
    obtain ⟨⟨old, he⟩, ⟨o, ho, hc, hd⟩, _⟩ := st
    have e' : b = e ∨ b = it := by simpa using hb
    rcases e' with z | z
    · rw [z]; exact ⟨_, he, fun v q => nomatch q⟩
    · rw [z]; exact ⟨o, ho, fun v q => by rw [hd] at q; cases q⟩
  keep := fun i h h' st k => let ⟨⟨old, he⟩, hi, hne⟩ := st; ⟨⟨old, k e (by simp) _ he⟩, hi.at fun o q => k it (by simp) o q, hne⟩
  item := by
    intro X hP hw hK hc i pins s σ H E I hf st hg
    subst hP hw hK
    obtain ⟨⟨old, he⟩, hit, hne⟩ := st
    obtain ⟨xs, x, hq, hx⟩ := hg
    obtain ⟨its, rv, p, hz⟩ := I.tuple hq
    obtain ⟨u, hu, ru⟩ := rv.get hx
    have hel : e < s.heap.objs.size := Heap.lt_size he
    have hil : it < s.heap.objs.size := by obtain ⟨_, q, _⟩ := hit; exact Heap.lt_size q
    have hlt : i < its.toArray.size := by
      have := (List.getElem?_eq_some_iff.mp hu).1
      simpa using this
    refine PySem.wpAny_pyNext_enum_itemD (Draws.tuple (A := X.A.in1) (show X.A.in1.handled = none from I.ok.hd hc) it a na its.toArray) he ⟨hit, p⟩ hlt hne (by simp [hne, nea]) fun x' h' tk hx' ho st' hT hsz hk => ?_
    have hit' := st'.1
    have exu : x' = u := by
      have q : its.toArray[i]? = some u := by simpa using hu
      exact Option.some.inj (hx'.symm.trans q)
    subst exu
    refine ⟨_, rfl, wpAny_letOwnedTupleGo_enum (s := { s with heap := h', toks := tk + 1 }) ho fun h'' he' sb => ?_⟩
    have hT2 : h''.get? s.heap.objs.size = some { cls := .type "tuple", data := .seq #[.int i tk, x'] } := (sb.2 _ (Nat.ne_of_gt hel)).trans hT
    have new : ObjOk X.prog X.w (upd H s.heap.objs.size (.tup [.int (i : Nat), x])) h'' s.heap.objs.size (.tup [.int (i : Nat), x]) :=
      ⟨by show 2 ≤ sizeLine; decide, [.int i tk, x'], .cons ⟨_, rfl⟩ (.cons ru .nil), ⟨_, hT2, rfl, _, rfl⟩⟩
    have I1 : Inv X pins σ (upd H s.heap.objs.size (.tup [.int (i : Nat), x])) { s with heap := h'', toks := tk + 1 } :=
      I.turnedNew (ch := [e, it]) (fun b ob hb q => (sb.2 b (fun z => hb (by simp [z]))).trans (hk b ob (fun z => hb (by simp [z])) (fun z => hb (by simp [z])) q)) hf (Nat.le_refl _) new
    refine ⟨.ref s.heap.objs.size, _, I1, rfl, ⟨_, x, rfl, I.hok.fresh (Nat.le_refl _), rfl, fun ys hy => by rw [I.tuple_inj hy hq]; exact hx⟩, ⟨⟨x', ?_⟩, hit'.at fun o q => (sb.2 it (Ne.symm hne)).trans q, hne⟩, fun b hb => ?_⟩
    · have e1 : ((i + 1 : Nat) : Int) = (i : Int) + 1 := by omega
      rw [e1]; exact he'
    · have hb' : b < s.heap.objs.size := by
        have e' : b = e ∨ b = it := by simpa using hb
        rcases e' with z | z
        · rw [z]; exact hel
        · rw [z]; exact hil
      rw [upd_ne (Nat.ne_of_lt hb')]
      exact (hf b hb).1
  done := by
    intro X hP hw hK hc i pins s σ H E I hf st hg
    subst hP hw hK
    obtain ⟨⟨old, he⟩, hit, hne⟩ := st
    obtain ⟨xs, hq, hx⟩ := hg
    obtain ⟨its, rv, p, hz⟩ := I.tuple hq
    obtain ⟨f0, f1, f2, f3, f4, f5⟩ := hf it (by simp)
    have hl := rv.length
    have hT : s.TypeIs (.ref e) "enumerate" := ⟨_, he, rfl⟩
    unfold pyNext
    refine wpAny_bind (wpAny_attempt (wpAny_callSpecial?_slot (name := Str.ofString "__next__") hT PySem.F.slot_enumerate_next
      (wpAny_call_entry PySem.F.slot_enumerate_next hT PySem.F.entry_enumerate_next ?_ (PySem.F.args_enumerate_next_1 _))))
    show wpAny _ _ (field (.ref e) 2 >>= _) _ _ _
    refine wpAny_bind (wpAny_field he rfl (x := .ref it) rfl ?_)
    refine wpAny_bind (wpAny_nextOf_tuple_end (I.ok.hd hc) hit p (by simp; omega) fun h' x he' hx' => ?_)
    obtain ⟨o, ho, hc'⟩ := hx'
    refine wpAny_bind (wpAny_isInstance (T := "StopIteration") (b := true) ⟨o, ho, hc'⟩ isSubtype_stop ?_)
    exact wpAny_pure ⟨rfl, I.turned (t' := s.toks) (fun b o hb q => he' b o hb q) f0 f1 f3 f4 f5⟩
  self := fun A i s Q E st h => let ⟨⟨_, he⟩, _⟩ := st; wpAny_pyIter_enum he h
def iEnumT (K : PySem.W.Frag) (ta : TA) : TI := fun σ H R => ta σ H fun vs H1 => ∃ a xs, vs = [.ref a] ∧ SqT K H1 a xs ∧ R (IteT K a) H1
theorem pi_enumT {X : Cx} {e : Expr} {ta : TA} {p pos tpos : Pos} {elts : List Expr} {kk : Nat} (hg : Gl X "enumerate") (hm : X.mg "enumerate" = none) (ha : PA X [e] ta) (hs : starEach [e] X.env = [(false, eval e X.env)] := by rfl) :
    PI X (.Tuple elts kk tpos) (.Call (.Name "enumerate" p) [e] [] pos) (iEnumT X.K ta) := by
  refine ⟨fun pins s σ H R I h => ?_⟩
  refine Call_ (ld_blt I hg hm boot_enumerate (PyProof.Rows.callWith_type1 (thn (ha.run pos pins s σ H _ I h) fun us s1 ⟨vs, H1, I1, r1, q1⟩ => ?_) hs rfl))
  obtain ⟨a, xs, ex, hq, q⟩ := q1
  subst ex
  cases r1 with
  | cons r rr =>
    cases rr
    cases r
    obtain ⟨its, rv, p', hz⟩ := I1.tuple hq
    have hal : a < s1.heap.objs.size := by obtain ⟨_, ho, _⟩ := p'; exact Heap.lt_size ho
    refine call_enumerate_tuple p' fun h' he hit hsz hk => wpAny_pyIter_enum he ?_
    have I2 : Inv X pins σ H1 { s1 with heap := h' } := I1.kept (t' := s1.toks) hk
    refine ⟨s1.heap.objs.size + 1, [s1.heap.objs.size + 1, s1.heap.objs.size], _, _, H1, rfl, I2, turn_enumT a (s1.heap.objs.size + 1) s1.heap.objs.size (Nat.ne_of_lt hal) (Nat.ne_of_lt (Nat.lt_succ_of_lt hal)).symm, ⟨⟨.none, he⟩, hit, Nat.succ_ne_self _⟩, fun b hb => ?_, q⟩
    have e' : b = s1.heap.objs.size + 1 ∨ b = s1.heap.objs.size := by simpa using hb
    have hle : s1.heap.objs.size ≤ b := by
      rcases e' with z | z
      · rw [z]; exact Nat.le_add_right _ _
      · rw [z]; exact Nat.le_refl _
    exact I1.fpOk hle (I1.hok.fresh hle)
theorem walk_enumT {K : PySem.W.Frag} {a : Addr} {xs : List V} : Walk (IteT K a) xs.length (fun H => SqT K H a xs) (YPair (fun i => some (.int (i : Nat))) (fun i => xs[i]?)) := by
  constructor
  · intro i H hi q
    exact ⟨xs, xs[i], q, by simp [hi]⟩
  · intro H q
    exact ⟨xs, q, Nat.le_refl _⟩
  · rintro i H v H' _ q ⟨T, x, h1, h2, h3, h4⟩
    exact ⟨T, .int (i : Nat), x, h1, h2, h3, rfl, h4 xs q⟩
end Rp
namespace Rp
open PySem PySem.Spec PyProof.Rows L2
/-- sorted(d, reverse=b): the keys of a dict, all ints -/
def rSortedDR (b : Bool) : List V → List V → Hp → VK → Prop := fun xs zs H Q => ∃ (a : Addr) (kvs : List (Key × V)) (ks : List Int), xs = [.ref a] ∧ zs = [.bl b] ∧ H a = some (.dK kvs) ∧ kvs.map (·.1) = ks.map Sum.inl ∧ ks.length ≤ 1000 ∧
    ∀ (ys : List Int) (p : Addr), ys.Perm ks → OrdB b ys → H p = none → Q (.ref p) (upd H p (.lst (ys.map V.int)))
theorem cr_sortedDRev {X : Cx} {b : Bool} (hcalm : X.calm = true) : CallRK X (.builtin "sorted") [Str.ofString "reverse"] (rSortedDR b) := by
  intro pins s σ H xs zs us ws Q I r rz q
  obtain ⟨a, kvs, ks, ex, ez, hd, hks, h64, q⟩ := q
  subst ex
  subst ez
  obtain ⟨u, eu, rx⟩ := vals1 r
  subst eu
  cases rx
  obtain ⟨w1, rfl, e1⟩ := vals1 rz
  obtain rfl : w1 = Value.bool b := e1
  obtain ⟨z, lo, vs, rel, dd⟩ := dk_rd I.hok (.inl hd)
  obtain ⟨ep, hat⟩ := dd.dictAt
  have hkeys : vs.map (·.1) = ks.map Sum.inl := rel.keys.symm.trans hks
  have hl : vs.length = ks.length := by
    have e := congrArg List.length hkeys
    rw [List.length_map, List.length_map] at e
    exact e
  have h16 : vs.length ≤ sizeLine := by rw [hl, sizeLine_eq]; omega
  refine call_function_entry_kw PyProof.Rows.kind_sorted PyProof.Rows.plain_sorted PyProof.Rows.entry_sorted (PyProof.Rows.args_sorted_rev _ _) ?_
  unfold Builtin.«sorted»
  refine wpAny_bind (m := checkCount "sorted" 1 1 _) (wpAny_pure ?_)
  refine wpAny_bind (PySem.W.kdu_collect (A := X.A.in1) (PySem.W.kdl_dict (knd := mixKind X.prog X.w) (kvs := vs) (ep := ep) lo) (I.ok.hd hcalm) hat h16 fun h' tk acc hk hacc => ?_)
  have hal : acc.toList.length = ks.length := by rw [Array.length_toList, hacc.1, hl]
  have hS : IntsAre acc.toList ks := ints_each hal fun j v e => by
    obtain ⟨k, x, e1, e2⟩ := hacc.2 j v (by rw [← Array.getElem?_toList]; exact e)
    have e3 : (vs.map (·.1))[j]? = some k := by rw [List.getElem?_map, e1]; rfl
    rw [hkeys, List.getElem?_map] at e3
    cases e4 : ks[j]? with
    | none => rw [e4] at e3; cases e3
    | some y =>
      rw [e4] at e3
      have e5 : Sum.inl y = k := Option.some.inj e3
      subst e5
      rcases keyIs_shape (show keyIs (Sum.inl y) v = true from e2) with ⟨i, t, ek, ev⟩ | ⟨z, t, ek, ev⟩
      · cases ek
        exact ⟨y, t, rfl, ev⟩
      · cases ek
  have I1 : Inv X pins σ H { s with heap := h', toks := tk } := I.kept hk
  have hz : acc.toList.length ≤ sizeLine := by rw [hal, sizeLine_eq]; omega
  refine wpAny_bind (wpAny_newList ?_ (by rw [hal, sizeLine_eq]; omega))
  have hoL : (h'.push (seqObj "list" acc.toList.toArray 0)).get? h'.objs.size = some (seqObj "list" acc.toList.toArray 0) := Heap.get?_push_size _ rfl
  show wpAny _ _ _ _ _ { s with heap := h'.push (seqObj "list" acc.toList.toArray 0), toks := tk }
  refine wpAny_bind (wpAny_holding (wpAny_call_entry_kw PyProof.Rows.slot_list_sort ⟨_, hoL, rfl⟩ PyProof.Rows.entry_list_sort ?_ (PyProof.Rows.args_list_sort_rev _ _)))
  refine SrtR.list_sort_ordR (s := { s with heap := h'.push (seqObj "list" acc.toList.toArray 0), toks := tk }) SrtO.swo_int hoL hz (fun h2 => SrtO.ints_sortable hS h2) fun out g0 g3 => ⟨_, rfl, ?_⟩
  obtain ⟨ys, g1, g2, g3⟩ := SrtR.ints_outR hS g0 g3
  obtain ⟨e', he'⟩ := PyProof.Rows.sortedHeap_at (vs := acc.toList) (out := (if b = true then out.toArray.reverse else out.toArray)) hoL
  have hlen : (ys.map V.int).length ≤ sizeLine := by
    rw [List.length_map, g2.length_eq]
    rw [sizeLine_eq]; omega
  have e0 : ((if b = true then out.toArray.reverse else out.toArray).toList).toArray = (if b = true then out.toArray.reverse else out.toArray) := by rw [Array.toArray_toList]
  skip
  refine wpAny_pure ⟨_, rfl, .ref h'.objs.size, upd H h'.objs.size (.lst (ys.map V.int)), I1.laid (t' := tk) (fun b u e => ?_) (Nat.le_refl _)
    (show ObjOk X.prog X.w _ _ _ (.lst (ys.map V.int)) from ⟨hlen, _, e', vals_of_ints g1, by rw [e0]; exact he'⟩), rfl, q ys _ g2 g3 (I1.hok.fresh (Nat.le_refl _))⟩
  have hb : b < h'.objs.size := Heap.lt_size e
  rw [PyProof.Rows.sortedHeap_old (Nat.ne_of_lt hb) (by rw [size_push']; exact Nat.lt_succ_of_lt hb)]
  exact Heap.get?_push_of_some _ e
theorem r_callBK {r : List V → List V → Hp → VK → Prop} {t tk : TA} {σ : L2.St} {H : Hp} {Q : VK} (h : t σ H fun vs H1 => tk σ H1 fun zs H2 => r vs zs H2 Q) : tCKw r t tk σ H Q := h
end Rp
namespace Rp
open PySem PySem.Spec PyProof.Rows L2 LamX RZ
/-- what is a clock -/
theorem clk_int {v : V} (h : clk v = true) : ∃ cl : Int, v = .int cl ∧ 3 ≤ cl ∧ cl ≤ 31 := by
  cases v with
  | int i =>
    refine ⟨i, rfl, ?_⟩
    have m := List.contains_iff_mem.mp (show clocks.contains i = true from h)
    revert m
    simp only [clocks, List.mem_cons, List.not_mem_nil, or_false]
    omega
  | _ => cases h
theorem inB_int {v : V} {lo hi : Option Int} (h : inB v lo hi = true) : ∃ i : Int, v = .int i := by
  cases v with
  | int i => exact ⟨i, rfl⟩
  | _ => cases h
theorem inB_of {i : Int} {l u : Int} (h : inB (.int i) (some l) (some u) = true) : l ≤ i ∧ i ≤ u := by
  have z := Bool.and_eq_true_iff.mp (show (decide (l ≤ i) && decide (i ≤ u)) = true from h)
  exact ⟨of_decide_eq_true z.1, of_decide_eq_true z.2⟩
theorem powF_in {cl n : Int} (h : 2 ≤ cl) : ∀ k, 0 ≤ powF cl n k ∧ powF cl n k < cl
  | 0 => ⟨by show (0 : Int) ≤ 1; decide, by show (1 : Int) < cl; omega⟩
  | k + 1 => ⟨(fmod_in (by omega)).1, (fmod_in (by omega)).2⟩
theorem rowOk_some {o : Option (List V)} {c l h : Int} (e : rowOk o c l h = true) : ∃ xs, o = some xs ∧ xs.length ≤ h.toNat ∧ ∀ x ∈ xs, ∃ i : Int, x = .int i ∧ 0 ≤ i ∧ i ≤ c - 1 := by
  cases o with
  | none => cases e
  | some xs =>
    obtain ⟨e1, e2⟩ := Bool.and_eq_true_iff.mp (show ((decide (l ≤ (xs.length : Int)) && decide ((xs.length : Int) ≤ h)) && xs.all fun x => inB x (some 0) (some (c - 1))) = true from e)
    have e3 := of_decide_eq_true (Bool.and_eq_true_iff.mp e1).2
    refine ⟨xs, rfl, by omega, fun x m => ?_⟩
    have z := List.all_eq_true.mp e2 x m
    obtain ⟨i, rfl⟩ := inB_int z
    exact ⟨i, rfl, inB_of z⟩
theorem row_ref {K : PySem.W.Frag} {q : Addr} {H : Hp} {v : V} {xs : List V} (h : RowV q H v (some xs)) : ∃ p, v = .ref p ∧ (SqL K H p xs ∨ SqT K H p xs) := by
  cases h with
  | lst n e _ => exact ⟨_, rfl, .inl (SqL.of e)⟩
  | tup n e _ => exact ⟨_, rfl, .inr (SqT.of e)⟩
theorem row_same {q : Addr} {H H' : Hp} {v : V} {o : Option (List V)} (h : RowV q H v o) (s : Same H H') : RowV q H' v o := h.but fun b o _ e => s b o e
theorem any_same {q : Addr} {H H' : Hp} {v : V} (h : Any q H v) (s : Same H H') : Any q H' v := h.but fun b o _ e => s b o e
/-- zip of two tuples -/
theorem walk_zipT {K : PySem.W.Frag} {a b : Addr} {xs ys : List V} {n : Nat} (hn : n = min xs.length ys.length) : Walk (ItzT K a b) n (fun H => SqT K H a xs ∧ SqT K H b ys) (YPair (fun i => xs[i]?) (fun i => ys[i]?)) := by
  subst hn
  constructor
  · intro i H hi q
    have h1 : i < xs.length := by omega
    have h2 : i < ys.length := by omega
    exact ⟨xs, ys, xs[i], ys[i], q.1, q.2, by simp [h1], by simp [h2]⟩
  · intro H q
    exact ⟨xs, ys, q.1, q.2, by omega⟩
  · rintro i H v H' _ q ⟨T, x, z, h1, h2, h3, h4, h5⟩
    exact ⟨T, x, z, h1, h2, h3, h4 xs q.1, h5 ys q.2⟩
theorem zip_at {α β γ : Type} {xs : List α} {ys : List β} {f : α × β → γ} {i : Nat} {x : α} {y : β} (hx : xs[i]? = some x) (hy : ys[i]? = some y) : ((xs.zip ys).take (i + 1)).map f = ((xs.zip ys).take i).map f ++ [f (x, y)] := by
  have z : (xs.zip ys)[i]? = some (x, y) := by
    rw [List.getElem?_zip_eq_some]
    exact ⟨hx, hy⟩
  rw [List.take_succ, z, List.map_append]
  rfl
theorem dr_put {q c D : Addr} {ns : List Int} {lap : Nat} {H : Hp} {o : HO} (d : Dr q c ns lap H) (n1 : D ≠ q) (n2 : D ≠ c) : Dr q c ns lap (upd H D o) := by
  obtain ⟨ne, ⟨rest, hb⟩, hc, hl⟩ := d
  exact ⟨ne, ⟨rest, by rw [upd_ne n1.symm]; exact hb⟩, by rw [upd_ne n2.symm]; exact hc, hl⟩
theorem dr_off {q c D : Addr} {ns : List Int} {lap : Nat} {H : Hp} (d : Dr q c ns lap H) (h : H D = none) : D ≠ q ∧ D ≠ c := by
  obtain ⟨ne, ⟨rest, hb⟩, hc, hl⟩ := d
  exact ⟨(ne_of_none hb h).symm, (ne_of_none hc h).symm⟩
theorem inB_out {i l u : Int} (h : i < l ∨ u < i) : inB (.int i) (some l) (some u) = false := by
  show (decide (l ≤ i) && decide (i ≤ u)) = false
  rcases h with h | h
  · rw [decide_eq_false (by omega), Bool.false_and]
  · rw [decide_eq_false (p := i ≤ u) (by omega), Bool.and_false]
theorem rowOk_bad {xs : List V} {x : V} {cl : Int} (m : x ∈ xs) (h : inB x (some 0) (some (cl - 1)) = false) : rowOk (some xs) cl 1 400 = false := by
  have e : (xs.all fun x => inB x (some 0) (some (cl - 1))) = false := by
    rw [List.all_eq_false]
    exact ⟨x, m, by rw [h]; decide⟩
  show (_ && (xs.all fun x => inB x (some 0) (some (cl - 1)))) = false
  rw [e, Bool.and_false]
theorem rowOk_long {xs : List V} {cl : Int} (h : 400 < xs.length) : rowOk (some xs) cl 1 400 = false := by
  show ((_ && decide ((xs.length : Int) ≤ 400)) && _) = false
  rw [decide_eq_false (p := (xs.length : Int) ≤ 400) (by omega), Bool.and_false, Bool.false_and]
theorem inB_yes {i l u : Int} (a : l ≤ i) (b : i ≤ u) : inB (.int i) (some l) (some u) = true := by
  show (decide (l ≤ i) && decide (i ≤ u)) = true
  rw [decide_eq_true a, decide_eq_true b]
  rfl
theorem tabs_but {q : Addr} {T : List (Addr × Str)} {H H' : Hp} {xs : List V} (B : But q H H') (hq : H q = some (.lst xs)) (t : Tabs T H) : Tabs T H' := by
  intro p m
  obtain ⟨ps, h1, h2, h3⟩ := t p m
  have off : ∀ {b o}, H b = some o → (∀ xs, o ≠ .lst xs) → b ≠ q := by
    rintro b o e n rfl
    exact n xs (Option.some.inj (e.symm.trans hq))
  refine ⟨ps, B _ _ (off h1 fun _ z => by cases z) h1, h2, fun pos cv hc => ?_⟩
  obtain ⟨c, e1, e2⟩ := h3 pos cv hc
  exact ⟨c, e1, B _ _ (off e2 fun _ z => by unfold CodeO at z; cases z) e2⟩
theorem dr_ext {q c : Addr} {ns : List Int} {lap : Nat} {H H' : Hp} (d : Dr q c ns lap H) (x : ExtN H H') : Dr q c ns lap H' := by
  obtain ⟨ne, ⟨rest, hb⟩, hc, hl⟩ := d
  exact ⟨ne, ⟨rest, x _ _ hb (fun _ z => by cases z)⟩, x _ _ hc (fun _ z => by cases z), hl⟩
theorem fit_ints {xs : List Int} {lo hi : Int} (h : ∀ x ∈ xs, lo ≤ x ∧ x ≤ hi) (l0 : -(10 ^ 6) ≤ lo) (h0 : hi ≤ 10 ^ 6) : FitA 0 (15 * xs.length) (xs.map PyData.int) := by
  induction xs with
  | nil => exact FitA.nil
  | cons x r ih =>
    have z := h x (List.mem_cons_self ..)
    have f := FitA.cons (n := 0) (c := 13) (d := .int x) (fit_int (by omega)) (ih fun y m => h y (List.mem_cons_of_mem _ m))
    refine f.le (Nat.le_refl _) ?_
    rw [List.length_cons]
    omega
theorem dd_ints {K : PySem.W.Frag} {H : Hp} : ∀ (ns : List Int), DdAll K H (ns.map V.int) (ns.map PyData.int)
  | [] => .nil
  | n :: r => .cons (.num n) (dd_ints r)
theorem vint_of {xs : List Int} {cl : Int} (h : ∀ x ∈ xs, 0 ≤ x ∧ x ≤ cl - 1) : EachP (IntIn 0 (cl - 1)) (xs.map V.int) := .of fun v m => by
  obtain ⟨i, mi, rfl⟩ := List.mem_map.mp m
  exact ⟨i, rfl, (h i mi).1, (h i mi).2⟩
theorem rowOk_ints {xs : List Int} {cl : Int} (h : ∀ x ∈ xs, 0 ≤ x ∧ x ≤ cl - 1) (l1 : 1 ≤ xs.length) (l2 : xs.length ≤ 400) : rowOk (some (xs.map V.int)) cl 1 400 = true := by
  have r := row_yes (vint_of h)
  show (decide ((1 : Int) ≤ ((xs.map V.int).length : Int)) && decide (((xs.map V.int).length : Int) ≤ 400) && _) = true
  have e : (xs.map V.int).all (fun x => inB x (some 0) (some (cl - 1))) = true := (Bool.and_eq_true_iff.mp r).2
  rw [e, List.length_map, decide_eq_true (show (1 : Int) ≤ (xs.length : Int) by omega), decide_eq_true (show (xs.length : Int) ≤ 400 by omega)]
  rfl
theorem neu {H G : Hp} {p : Addr} {o : HO} (hG : upd H p o = G) (hp : H p = none) : Same H G ∧ G p = some o := by
  subst hG
  exact ⟨same_neu (Same.refl H) hp, upd_same⟩
theorem ints_fit : ∀ {xs : List Int}, (∀ x ∈ xs, 0 ≤ x ∧ x ≤ 31) → xs.length ≤ 400 → Fit 64 15000000 (.list (xs.map PyData.int)) := fun h l => (fit_ints h (by decide) (by decide)).list.le (by decide) (by omega)
def spInv (cC cN cM : Addr) : Sp := fun vs H Q E => ∃ q c v, vs = [c, v] ∧ Any q H c ∧ Any q H v ∧ (clk c = false → errAt E cC "part" (.str "clock") H) ∧
  ∀ cl, c = .int cl → clk c = true → (inB v (some 0) (some (cl - 1)) = false → errAt E cN "part" (.str "number") H) ∧ (v = .int 0 → errAt E cM "part" (.str "number") H) ∧
    ∀ i, v = .int i → 0 < i → i < cl → Q (.int (powF cl i (cl - 2).toNat)) H
/-! ### rows on the heap -/
def RowAt (K : PySem.W.Frag) (H : Hp) (a : Addr) (xs : List Int) : Prop := SqL K H a (xs.map V.int) ∨ SqT K H a (xs.map V.int)
theorem RowAt.same {K : PySem.W.Frag} {H H' : Hp} {a : Addr} {xs : List Int} (h : RowAt K H a xs) (s : Same H H') : RowAt K H' a xs := h.imp (fun z => s.seq z) (fun z => Same.tupS s z)
inductive RowsOf (K : PySem.W.Frag) (H : Hp) : List V → List (List Int) → Prop
  | nil : RowsOf K H [] []
  | cons {a : Addr} {xs : List Int} {vs : List V} {rs : List (List Int)} (h : RowAt K H a xs) (t : RowsOf K H vs rs) : RowsOf K H (.ref a :: vs) (xs :: rs)
theorem RowsOf.same {K : PySem.W.Frag} {H H' : Hp} (s : Same H H') : ∀ {vs : List V} {rs : List (List Int)}, RowsOf K H vs rs → RowsOf K H' vs rs
  | _, _, .nil => .nil
  | _, _, .cons h t => .cons (h.same s) (t.same s)
theorem RowsOf.len {K : PySem.W.Frag} {H : Hp} : ∀ {vs : List V} {rs : List (List Int)}, RowsOf K H vs rs → vs.length = rs.length
  | _, _, .nil => rfl
  | _, _, .cons _ t => by rw [List.length_cons, List.length_cons, t.len]
theorem RowsOf.at {K : PySem.W.Frag} {H : Hp} : ∀ {vs : List V} {rs : List (List Int)} {i : Nat} {v : V}, RowsOf K H vs rs → vs[i]? = some v → ∃ a xs, v = .ref a ∧ rs[i]? = some xs ∧ RowAt K H a xs
  | _, _, _, _, .nil, e => by cases e
  | _, _, 0, _, .cons h _, e => by cases e; exact ⟨_, _, rfl, rfl, h⟩
  | _, _, i + 1, _, .cons _ t, e => t.at (i := i) e
theorem RowsOf.snoc {K : PySem.W.Frag} {H : Hp} {a : Addr} {xs : List Int} : ∀ {vs : List V} {rs : List (List Int)}, RowsOf K H vs rs → RowAt K H a xs → RowsOf K H (vs ++ [.ref a]) (rs ++ [xs])
  | _, _, .nil, h => .cons h .nil
  | _, _, .cons h t, k => .cons h (t.snoc k)
theorem RowsOf.rev {K : PySem.W.Frag} {H : Hp} : ∀ {vs : List V} {rs : List (List Int)}, RowsOf K H vs rs → RowsOf K H vs.reverse rs.reverse
  | _, _, .nil => .nil
  | _, _, .cons h t => by rw [List.reverse_cons, List.reverse_cons]; exact t.rev.snoc h
/-- rows, each a tuple, in a tuple -/
def TupRows (K : PySem.W.Frag) (H : Hp) (p : Addr) (rs : List (List Int)) : Prop := ∃ ps : List Addr, H p = some (.tup (ps.map V.ref)) ∧ ps.length = rs.length ∧ ∀ (i : Nat) (b : Addr) (xs : List Int), ps[i]? = some b → rs[i]? = some xs → H b = some (.tup (xs.map V.int))
theorem TupRows.same {K : PySem.W.Frag} {H H' : Hp} {p : Addr} {rs : List (List Int)} (h : TupRows K H p rs) (s : Same H H') : TupRows K H' p rs := by
  obtain ⟨ps, h1, h2, h3⟩ := h
  exact ⟨ps, s _ _ h1, h2, fun i b xs e1 e2 => s _ _ (h3 i b xs e1 e2)⟩
def rowD (xs : List Int) : PyData := .tuple (xs.map PyData.int)
theorem dd_rows {K : PySem.W.Frag} {H : Hp} : ∀ {ps : List Addr} {rs : List (List Int)}, ps.length = rs.length → (∀ (i : Nat) (b : Addr) (xs : List Int), ps[i]? = some b → rs[i]? = some xs → H b = some (.tup (xs.map V.int))) → DdAll K H (ps.map V.ref) (rs.map rowD)
  | [], [], _, _ => .nil
  | b :: ps, xs :: rs, l, h => .cons (.tup (SqT.of (h 0 b xs rfl rfl)) (dd_ints xs)) (dd_rows (by simpa using l) fun i b xs e1 e2 => h (i + 1) b xs e1 e2)
  | [], _ :: _, l, _ => by cases l
  | _ :: _, [], l, _ => by cases l
theorem TupRows.dd {K : PySem.W.Frag} {H : Hp} {p : Addr} {rs : List (List Int)} (h : TupRows K H p rs) : Dd K H (.ref p) (.tuple (rs.map rowD)) := by
  obtain ⟨ps, h1, h2, h3⟩ := h
  exact .tup (SqT.of h1) (dd_rows h2 h3)
/-- any values for rows -/
inductive RowVs (q : Addr) (H : Hp) : List V → List (Option (List V)) → Prop
  | nil : RowVs q H [] []
  | cons {v : V} {o : Option (List V)} {vs : List V} {os : List (Option (List V))} (h : RowV q H v o) (t : RowVs q H vs os) : RowVs q H (v :: vs) (o :: os)
theorem RowVs.but {q : Addr} {H H' : Hp} (s : But q H H') : ∀ {vs : List V} {os : List (Option (List V))}, RowVs q H vs os → RowVs q H' vs os
  | _, _, .nil => .nil
  | _, _, .cons h t => .cons (h.but s) (t.but s)
theorem RowVs.same {q : Addr} {H H' : Hp} (s : Same H H') {vs : List V} {os : List (Option (List V))} (h : RowVs q H vs os) : RowVs q H' vs os := h.but (same_but s)
theorem RowVs.len {q : Addr} {H : Hp} : ∀ {vs : List V} {os : List (Option (List V))}, RowVs q H vs os → vs.length = os.length
  | _, _, .nil => rfl
  | _, _, .cons _ t => by rw [List.length_cons, List.length_cons, t.len]
theorem RowVs.at {q : Addr} {H : Hp} : ∀ {vs : List V} {os : List (Option (List V))} {i : Nat} {v : V}, RowVs q H vs os → vs[i]? = some v → ∃ o, os[i]? = some o ∧ RowV q H v o
  | _, _, _, _, .nil, e => by cases e
  | _, _, 0, _, .cons h _, e => by cases e; exact ⟨_, rfl, h⟩
  | _, _, i + 1, _, .cons _ t, e => t.at (i := i) e
inductive RowsV (q : Addr) (H : Hp) : V → Option (List (Option (List V))) → Prop
  | non : RowsV q H .non none
  | bl (b : Bool) : RowsV q H (.bl b) none
  | num (i : Int) : RowsV q H (.int i) none
  | str (x : Str) : RowsV q H (.str x) none
  | dic {a : Addr} {kvs : List (Key × V)} (n : a ≠ q) (e : H a = some (.dK kvs)) : RowsV q H (.ref a) none
  | lst {a : Addr} {xs : List V} {os : List (Option (List V))} (n : a ≠ q) (e : H a = some (.lst xs)) (it : RowVs q H xs os) : RowsV q H (.ref a) (some os)
  | tup {a : Addr} {xs : List V} {os : List (Option (List V))} (n : a ≠ q) (e : H a = some (.tup xs)) (it : RowVs q H xs os) : RowsV q H (.ref a) (some os)
theorem RowsV.but {q : Addr} {H H' : Hp} {v : V} {os : Option (List (Option (List V)))} (h : RowsV q H v os) (b : But q H H') : RowsV q H' v os := by
  cases h with
  | non => exact .non
  | bl b => exact .bl b
  | num i => exact .num i
  | str x => exact .str x
  | dic n e => exact .dic n (b _ _ n e)
  | lst n e it => exact .lst n (b _ _ n e) (it.but b)
  | tup n e it => exact .tup n (b _ _ n e) (it.but b)
theorem RowsV.same {q : Addr} {H H' : Hp} {v : V} {os : Option (List (Option (List V)))} (h : RowsV q H v os) (s : Same H H') : RowsV q H' v os := h.but (same_but s)
theorem rowsv_seq {K : PySem.W.Frag} {q : Addr} {H : Hp} {v : V} {os : Option (List (Option (List V)))} (h : RowsV q H v os) : ∃ t : Value, TyX K H v t ∧ PySem.W.kitAny K t [.type "list", .type "tuple"] = some os.isSome := by
  cases h with
  | non => exact row_seq (K := K) (RowV.non (q := q) (H := H))
  | bl b => exact row_seq (K := K) (RowV.bl (q := q) (H := H) b)
  | num i => exact row_seq (K := K) (RowV.num (q := q) (H := H) i)
  | str x => exact row_seq (K := K) (RowV.str (q := q) (H := H) x)
  | dic n e => exact row_seq (K := K) (RowV.dic n e)
  | lst n e it => exact ⟨_, .base (.lst e), kit2 (x := true) (y := false) (by decide +kernel) (by decide +kernel)⟩
  | tup n e it => exact ⟨_, .base (.tup e), kit2 (x := false) (y := true) (by decide +kernel) (by decide +kernel)⟩
/-- rows of the clock, not too many -/
def areB (os : Option (List (Option (List V)))) (cl size : Int) : Bool :=
  match os with
  | none => false
  | some l => decide ((l.length : Int) ≤ 400) && l.all fun o => rowB o cl size
/-- the numbers of a row -/
def numOf : V → Int
  | .int i => i
  | _ => 0
def rowsI (os : List (Option (List V))) : List (List Int) := os.map fun o => (o.getD []).map numOf
/-- the lengths that a value's lists may have -/
def LenOk (os : Option (List (Option (List V)))) : Prop := ∀ l, os = some l → l.length < sizeLine ∧ ∀ o ∈ l, ∀ xs, o = some xs → xs.length < sizeLine
/-- a row that is told to be one -/
theorem rowB_ints {o : Option (List V)} {cl n : Int} (h : rowB o cl n = true) : ∃ xs : List Int, o = some (xs.map V.int) ∧ ((o.getD []).map numOf) = xs ∧ (xs.length : Int) = n ∧ ∀ x ∈ xs, 0 ≤ x ∧ x ≤ cl - 1 := by
  cases o with
  | none => cases h
  | some vs =>
    obtain ⟨h1, h2⟩ := Bool.and_eq_true_iff.mp (show (decide ((vs.length : Int) = n) && vs.all fun x => inB x (some 0) (some (cl - 1))) = true from h)
    have l := of_decide_eq_true h1
    have key : ∀ ws : List V, (∀ w ∈ ws, inB w (some 0) (some (cl - 1)) = true) → ws = (ws.map numOf).map V.int ∧ ∀ x ∈ ws.map numOf, 0 ≤ x ∧ x ≤ cl - 1 := by
      intro ws
      induction ws with
      | nil => exact fun _ => ⟨rfl, fun x m => nomatch m⟩
      | cons w r ih =>
        intro q
        obtain ⟨i, rfl⟩ := inB_int (q w (List.mem_cons_self ..))
        have b := inB_of (q _ (List.mem_cons_self ..))
        obtain ⟨a1, a2⟩ := ih fun y m => q y (List.mem_cons_of_mem _ m)
        refine ⟨?_, fun x m => ?_⟩
        · show V.int i :: r = V.int i :: (r.map numOf).map V.int
          rw [← a1]
        · rcases List.mem_cons.mp (show x ∈ i :: r.map numOf from m) with e | m
          · rw [e]; exact b
          · exact a2 x m
    obtain ⟨k1, k2⟩ := key vs (List.all_eq_true.mp h2)
    refine ⟨vs.map numOf, ?_, rfl, ?_, k2⟩
    · rw [← k1]
    · rw [List.length_map]; exact l
theorem rowV_at {K : PySem.W.Frag} {q : Addr} {H : Hp} {v : V} {xs : List Int} (h : RowV q H v (some (xs.map V.int))) : ∃ a, v = .ref a ∧ RowAt K H a xs := by
  cases h with
  | lst n e _ => exact ⟨_, rfl, .inl (SqL.of e)⟩
  | tup n e _ => exact ⟨_, rfl, .inr (SqT.of e)⟩
/-- rows that are told to be rows -/
theorem rows_ints {K : PySem.W.Frag} {q : Addr} {H : Hp} {cl n : Int} : ∀ {vs : List V} {os : List (Option (List V))}, RowVs q H vs os → (os.all fun o => rowB o cl n) = true → RowsOf K H vs (rowsI os) ∧ ∀ xs ∈ rowsI os, (xs.length : Int) = n ∧ ∀ x ∈ xs, 0 ≤ x ∧ x ≤ cl - 1
  | _, _, .nil, _ => ⟨.nil, fun _ m => nomatch m⟩
  | _ :: vs, o :: os, .cons h t, e => by
    obtain ⟨e1, e2⟩ := Bool.and_eq_true_iff.mp (show (rowB o cl n && _) = true from e)
    obtain ⟨xs, r1, r2, r3, r4⟩ := rowB_ints e1
    obtain ⟨t1, t2⟩ := rows_ints (K := K) t e2
    have r5 : rowsI (o :: os) = xs :: rowsI os := congrArg (· :: rowsI os) r2
    rw [r1] at h
    obtain ⟨a, rfl, ha⟩ := rowV_at (K := K) h
    rw [r5]
    refine ⟨.cons ha t1, fun ys m => ?_⟩
    rcases List.mem_cons.mp m with z | m
    · rw [z]; exact ⟨r3, r4⟩
    · exact t2 ys m
end Rp
namespace Rp
open PySem PySem.Spec PyProof.Rows L2 RT RZ
theorem walk_revT {K : PySem.W.Frag} {a : Addr} {xs : List V} : Walk (ItvT K a xs.length) xs.length (fun H => SqT K H a xs) (fun i H x H' => H' = H ∧ xs[xs.length - 1 - i]? = some x) := by
  constructor
  · intro i H hi q
    exact ⟨hi, xs, xs[xs.length - 1 - i]'(by omega), q, List.getElem?_eq_getElem _⟩
  · intro H q
    exact Nat.le_refl _
  · rintro i H v H' _ q ⟨h1, h2⟩
    exact ⟨h1, h2 xs q⟩
section
variable {K : PySem.W.Frag} {ta te td ty tv : TE} {tl tk : TA} {σ : L2.St} {H : Hp} {Q : VK} {R : It → Hp → Prop} {f : Str} {D : Ends}
theorem r_ienumT (h : tl σ H fun vs H1 => ∃ a xs, vs = [.ref a] ∧ SqT K H1 a xs ∧ R (IteT K a) H1) : iEnumT K tl σ H R := h
theorem r_ienum (h : tl σ H fun vs H1 => ∃ a xs, vs = [.ref a] ∧ SqL K H1 a xs ∧ R (Ite K a) H1) : iEnum K tl σ H R := h
theorem r_irevA (h : te σ H fun v H1 => ∃ (a : Addr) (xs : List V), v = .ref a ∧ ((SqL K H1 a xs ∧ R (Itv K a xs.length) H1) ∨ (SqT K H1 a xs ∧ R (ItvT K a xs.length) H1))) : iRevA K te σ H R := h
theorem r_iitems (h : td σ H fun x H1 => ∃ d o kvs, x = .ref d ∧ H1 d = some (.frz o (.dK kvs)) ∧ R (Iti d o kvs) H1) : iItems td σ H R := h
theorem r_dget (h : td σ H fun x H1 => ty σ H1 fun y H2 => ∃ a v, x = .ref a ∧ DGet H2 a y (some v) ∧ Q v H2) : tDGet td ty σ H Q := h
theorem r_revL (h : te σ H fun x H1 => ∃ a xs, x = .ref a ∧ SqL K H1 a xs ∧ ∀ p, H1 p = none → Q (.ref p) (upd H1 p (.lst xs.reverse))) : tRevL K te σ H Q := h
theorem r_dnew (h : ∀ p, H p = none → Q (.ref p) (upd H p (.dK []))) : tDNewK σ H Q := h
end
theorem r_lock {t : TS} {D : Ends} {σ : L2.St} {H : Hp} {d : Addr} {u : HO} (hd : H d = some u) (m : Mut (some u)) (h : ∀ od, t ⟨fun σ' H' => H' d = some (.frz od u) ∧ D.nx σ' (upd H' d u), fun v H' => H' d = some (.frz od u) ∧ D.rt v (upd H' d u), fun σ' H' => H' d = some (.frz od u) ∧ D.bk σ' (upd H' d u), fun σ' H' => H' d = some (.frz od u) ∧ D.ct σ' (upd H' d u)⟩ σ (upd H d (.frz od u))) : tLock t D σ H := ⟨d, u, hd, m, h⟩
/-- leading rows, packed, by their leads -/
def dkl (ls : List (Nat × List Int)) : List (Key × V) := ls.map fun l => (Sum.inl (l.1 : Int), V.int (pk l.2))
theorem dkl_put (ls : List (Nat × List Int)) (a : Nat) (r : List Int) : putK (dkl ls) (Sum.inl (a : Int)) (.int (pk r)) = dkl (putL ls a r) := by
  have e : ((dkl ls).any fun kv => decide (kv.1 = Sum.inl (a : Int))) = ls.any fun l => decide (l.1 = a) := by
    unfold dkl
    rw [List.any_map]
    congr 1
    funext l
    show decide ((Sum.inl (l.1 : Int) : Key) = Sum.inl (a : Int)) = decide (l.1 = a)
    by_cases h : l.1 = a
    · rw [h, decide_eq_true rfl, decide_eq_true rfl]
    · rw [decide_eq_false h, decide_eq_false (fun z => h (by have := Sum.inl.inj z; omega))]
  unfold putK putL
  rw [e]
  split
  · unfold dkl
    rw [List.map_map, List.map_map]
    refine List.map_congr_left fun l _ => ?_
    show (if (Sum.inl (l.1 : Int) : Key) = Sum.inl (a : Int) then (Sum.inl (l.1 : Int), V.int (pk r)) else (Sum.inl (l.1 : Int), V.int (pk l.2))) = _
    by_cases h : l.1 = a
    · rw [if_pos (by rw [h])]
      simp [h]
    · rw [if_neg (fun z => h (by have := Sum.inl.inj z; omega))]
      simp [h]
  · unfold dkl
    rw [List.map_append]
    rfl
theorem dkl_val : ∀ {ls : List (Nat × List Int)} {a : Nat}, a ∈ ls.map (·.1) → valV (dkl ls) (Sum.inl (a : Int)) = some (.int (pk (findL ls a)))
  | [], _, m => nomatch m
  | l :: ls, a, m => by
    unfold dkl
    rw [List.map_cons]
    by_cases h : l.1 = a
    · rw [valV_pos (by rw [h])]
      unfold findL
      rw [List.find?_cons_of_pos (by simp [h])]
      rfl
    · rw [valV_neg (fun z => h (by have := Sum.inl.inj z; omega))]
      have m2 : a ∈ ls.map (·.1) := by
        rcases List.mem_cons.mp m with z | z
        · exact absurd z.symm h
        · exact z
      have q := dkl_val m2
      unfold dkl at q
      rw [q]
      unfold findL
      rw [List.find?_cons_of_neg (by simp [h])]
def spLeadOf (K : PySem.W.Frag) : Sp := fun vs H Q _ => ∃ (a : Addr) (xs : List Int), vs = [.ref a] ∧ SqT K H a (xs.map V.int) ∧ xs.length ≤ 400 ∧ ∀ H', Same H H' → Q (.int (leadOf xs : Nat)) H'
def spPacked (K : PySem.W.Frag) : Sp := fun vs H Q _ => ∃ (a : Addr) (xs : List Int), vs = [.ref a] ∧ RowAt K H a xs ∧ Dig 16777216 xs ∧ xs.length ≤ 400 ∧ Q (.int (pk xs)) H
def spNumAt : Sp := fun vs H Q _ => ∃ (cl x : Int) (xs : List Int) (k : Nat), vs = [.int cl, .int (pk xs), .int (k : Int)] ∧ 3 ≤ cl ∧ cl ≤ 31 ∧ Dig 16777216 xs ∧ xs[k]? = some x ∧ k ≤ 400 ∧ Q (.int (x % cl)) H
def spUnpacked : Sp := fun vs H Q _ => ∃ (cl : Int) (xs : List Int), vs = [.int cl, .int (xs.length : Int), .int (pk xs)] ∧ 3 ≤ cl ∧ cl ≤ 31 ∧ Dig 16777216 xs ∧ xs.length ≤ 400 ∧ ∀ H' p, Same H H' → H p = none → H' p = some (.tup ((modRow cl xs).map V.int)) → Q (.ref p) H'
def spCleared : Sp := fun vs H Q _ => ∃ (cl : Int) (xs : List Int) (d : Addr) (ls : List (Nat × List Int)), vs = [.int cl, .int (pk xs), .ref d] ∧ 3 ≤ cl ∧ cl ≤ 31 ∧ H d = some (.dK (dkl ls)) ∧ LdOk cl xs.length ls ∧ Dig 31 xs ∧ xs.length ≤ 400 ∧ ls.length ≤ 400 ∧ ∀ H', Same H H' → Q (.int (pk (clr cl ls xs))) H'
/-- the rows that a value has: numbers of the clock, so many in each -/
def RowsOk (cl : Int) (n : Nat) (rs : List (List Int)) : Prop := ∀ xs ∈ rs, xs.length = n ∧ Dig cl xs
def spLeading (K : PySem.W.Frag) : Sp := fun vs H Q _ => ∃ (cl : Int) (n : Nat) (r : Addr) (us : List V) (rs : List (List Int)), vs = [.int cl, .int (n : Int), .ref r] ∧ clk (.int cl) = true ∧ 1 ≤ n ∧ n ≤ 400 ∧ (SqL K H r us ∨ SqT K H r us) ∧ RowsOf K H us rs ∧ RowsOk cl n rs ∧ rs.length ≤ 400 ∧
  ∀ H' d, Same H H' → H d = none → H' d = some (.dK (dkl (leading cl n rs))) → Q (.ref d) H'
def spLeast (K : PySem.W.Frag) : Sp := fun vs H Q _ => ∃ (cl : Int) (n : Nat) (r : Addr) (us : List V) (rs : List (List Int)), vs = [.int cl, .int (n : Int), .ref r] ∧ clk (.int cl) = true ∧ 1 ≤ n ∧ n ≤ 400 ∧ (SqL K H r us ∨ SqT K H r us) ∧ RowsOf K H us rs ∧ RowsOk cl n rs ∧ rs.length ≤ 400 ∧
  ∀ H' p, Same H H' → H p = none → TupRows K H' p (leastForm cl n rs) → Q (.ref p) H'
theorem pk_drop {xs : List Int} {k : Nat} {x : Int} (h : xs[k]? = some x) : pk (xs.drop k) = x + 16777216 * pk (xs.drop (k + 1)) := by
  obtain ⟨hk, e⟩ := List.getElem?_eq_some_iff.mp h
  rw [List.drop_eq_getElem_cons hk, e]
  rfl
theorem pk_natAbs {xs : List Int} (h : Dig 16777216 xs) (l : xs.length ≤ 400) : (pk xs).natAbs < 2 ^ 9600 := by
  have a := pk_pos h
  have b := pk_lt h
  have c : (2 : Int) ^ (24 * xs.length) ≤ 2 ^ 9600 := by
    have z : (2 : Nat) ^ (24 * xs.length) ≤ 2 ^ 9600 := Nat.pow_le_pow_right (by decide) (by omega)
    have z2 : (((2 : Nat) ^ (24 * xs.length) : Nat) : Int) ≤ (((2 : Nat) ^ 9600 : Nat) : Int) := Int.ofNat_le.mpr z
    rw [Int.natCast_pow, Int.natCast_pow] at z2
    exact z2
  have d : ((pk xs).natAbs : Int) < ((2 ^ 9600 : Nat) : Int) := by
    rw [Int.natAbs_of_nonneg a, Int.natCast_pow]
    exact Int.lt_of_lt_of_le b c
  exact Int.ofNat_lt.mp d
theorem shl_ok {xs : List Int} (h : Dig 16777216 xs) (l : xs.length ≤ 400) : CShl (pk xs) 24 := by
  refine ⟨by decide, ?_⟩
  have a := pk_natAbs h l
  have b : Builtin.Int.intBits (pk xs) ≤ 9601 := by
    unfold Builtin.Int.intBits
    split
    · omega
    · rename_i z
      have nz : (pk xs).natAbs ≠ 0 := fun q => z (by rw [Int.natAbs_eq_zero.mp q]; rfl)
      have := (Nat.log2_lt nz).mpr a
      omega
  omega
theorem Dig.drop {B : Int} {xs : List Int} (h : Dig B xs) (k : Nat) : Dig B (xs.drop k) := fun y m => h y (List.mem_of_mem_drop m)
theorem map_at {xs : List Int} {i : Nat} {v : V} (h : (xs.map V.int)[i]? = some v) : ∃ x, xs[i]? = some x ∧ v = .int x := by
  rw [List.getElem?_map] at h
  cases e : xs[i]? with
  | none => rw [e] at h; cases h
  | some x => rw [e] at h; exact ⟨x, rfl, (Option.some.inj h).symm⟩
theorem powF_dig {cl n x : Int} (h : 2 ≤ cl) (k : Nat) : 0 ≤ powF cl n k * x % cl ∧ powF cl n k * x % cl < cl := ⟨Int.emod_nonneg _ (by omega), Int.emod_lt_of_pos _ (by omega)⟩
theorem putL_len (ls : List (Nat × List Int)) (a : Nat) (r : List Int) : (putL ls a r).length ≤ ls.length + 1 := by
  unfold putL
  split
  · rw [List.length_map]; omega
  · rw [List.length_append]; exact Nat.le_refl _
/-- what is left of a row -/
def leftOf (cl : Int) (ls : List (Nat × List Int)) (row : List Int) : List Int := modRow cl (clr cl ls row)
def timesRow (cl : Int) (left : List Int) : List Int := left.map fun x => (powF cl (left.getD (leadOf left) 0) (cl - 2).toNat * x) % cl
theorem ldOne_eq {cl : Int} {n : Nat} {ls : List (Nat × List Int)} {row : List Int} : ldOne cl n ls row = if leadOf (leftOf cl ls row) < n then putL ls (leadOf (leftOf cl ls row)) (timesRow cl (leftOf cl ls row)) else ls := rfl
theorem left_ok {cl : Int} {n : Nat} {ls : List (Nat × List Int)} {row : List Int} (h3 : 3 ≤ cl) (h31 : cl ≤ 31) (h : LdOk cl n ls) (r : row.length = n ∧ Dig cl row) : (leftOf cl ls row).length = n ∧ Dig cl (leftOf cl ls row) := by
  obtain ⟨_, b⟩ := clr_ok h3 h31 h (r.2.le h31) r.1
  exact ⟨by unfold leftOf; rw [modRow_len, b], modRow_dig (by omega) _⟩
theorem times_ok {cl : Int} {left : List Int} (h3 : 3 ≤ cl) : (timesRow cl left).length = left.length ∧ Dig cl (timesRow cl left) := by
  refine ⟨List.length_map .., fun y m => ?_⟩
  obtain ⟨x, _, rfl⟩ := List.mem_map.mp m
  exact powF_dig (by omega) _
theorem ldOne_ok {cl : Int} {n : Nat} {ls : List (Nat × List Int)} {row : List Int} (h3 : 3 ≤ cl) (h31 : cl ≤ 31) (h : LdOk cl n ls) (r : row.length = n ∧ Dig cl row) : LdOk cl n (ldOne cl n ls row) ∧ (ldOne cl n ls row).length ≤ ls.length + 1 := by
  obtain ⟨l1, l2⟩ := left_ok h3 h31 h r
  obtain ⟨t1, t2⟩ := times_ok (left := leftOf cl ls row) h3
  rw [ldOne_eq]
  split
  · rename_i q
    exact ⟨putL_ok h q (by rw [t1, l1]) t2, putL_len _ _ _⟩
  · exact ⟨h, by omega⟩
theorem fold_ok {cl : Int} {n : Nat} (h3 : 3 ≤ cl) (h31 : cl ≤ 31) : ∀ {rs : List (List Int)} {ls : List (Nat × List Int)}, RowsOk cl n rs → LdOk cl n ls → LdOk cl n (rs.foldl (ldOne cl n) ls) ∧ (rs.foldl (ldOne cl n) ls).length ≤ ls.length + rs.length
  | [], ls, _, h => ⟨h, Nat.le_refl _⟩
  | r :: rs, ls, o, h => by
    obtain ⟨a, b⟩ := ldOne_ok h3 h31 h (o r (List.mem_cons_self ..))
    obtain ⟨c, d⟩ := fold_ok h3 h31 (rs := rs) (fun x m => o x (List.mem_cons_of_mem _ m)) a
    refine ⟨c, ?_⟩
    rw [List.length_cons]
    show (rs.foldl (ldOne cl n) (ldOne cl n ls r)).length ≤ _
    omega
theorem leading_ok {cl : Int} {n : Nat} {rs : List (List Int)} (h3 : 3 ≤ cl) (h31 : cl ≤ 31) (o : RowsOk cl n rs) : LdOk cl n (leading cl n rs) ∧ (leading cl n rs).length ≤ rs.length := by
  obtain ⟨a, b⟩ := fold_ok h3 h31 o (fun _ m => nomatch m : LdOk cl n [])
  refine ⟨a, ?_⟩
  rw [List.length_nil, Nat.zero_add] at b
  exact b
theorem RowsOk.take {cl : Int} {n : Nat} {rs : List (List Int)} (o : RowsOk cl n rs) (i : Nat) : RowsOk cl n (rs.take i) := fun x m => o x (List.mem_of_mem_take m)
theorem leading_take {cl : Int} {n i : Nat} {rs : List (List Int)} {row : List Int} (e : rs[i]? = some row) : leading cl n (rs.take (i + 1)) = ldOne cl n (leading cl n (rs.take i)) row := by
  unfold leading
  rw [List.take_succ, e, List.foldl_append]
  rfl
theorem leadOf_ne : ∀ {xs : List Int} {x : Int}, xs[leadOf xs]? = some x → x ≠ 0
  | [], _, e => by cases e
  | y :: r, x, e => by
    unfold leadOf at e
    split at e
    · exact leadOf_ne (xs := r) e
    · cases e
      assumption
/-- the fold over the leads -/
def backFold (cl : Int) (ls : List (Nat × List Int)) (as : List Nat) : List (Nat × List Int) × List (List Int) := as.foldl (backOne cl ls) ([], [])
theorem findL_ok {cl : Int} {n a : Nat} {ls : List (Nat × List Int)} (h : LdOk cl n ls) (m : a ∈ ls.map (·.1)) : (findL ls a).length = n ∧ Dig cl (findL ls a) := by
  unfold findL
  cases e : ls.find? (fun l => decide (l.1 = a)) with
  | none =>
    exfalso
    obtain ⟨l, ml, el⟩ := List.mem_map.mp m
    have z := List.find?_eq_none.mp e l ml
    simp [el] at z
  | some l => exact (h l (List.mem_of_find?_eq_some e)).2
theorem back_ok {cl : Int} {n : Nat} {ls : List (Nat × List Int)} (h3 : 3 ≤ cl) (h31 : cl ≤ 31) (h : LdOk cl n ls) : ∀ {as : List Nat} {st : List (Nat × List Int) × List (List Int)}, (∀ a ∈ as, a ∈ ls.map (·.1)) → LdOk cl n st.1 → LdOk cl n (as.foldl (backOne cl ls) st).1 ∧ (as.foldl (backOne cl ls) st).1.length ≤ st.1.length + as.length
  | [], st, _, k => ⟨k, Nat.le_refl _⟩
  | a :: as, st, m, k => by
    have ma := m a (List.mem_cons_self ..)
    obtain ⟨f1, f2⟩ := findL_ok h ma
    have lt : a < n := by
      obtain ⟨l, ml, el⟩ := List.mem_map.mp ma
      rw [← el]
      exact (h l ml).1
    obtain ⟨l1, l2⟩ := left_ok (row := findL ls a) h3 h31 k ⟨f1, f2⟩
    have k2 : LdOk cl n (backOne cl ls st a).1 := putL_ok k lt l1 l2
    have k3 : (backOne cl ls st a).1.length ≤ st.1.length + 1 := putL_len _ _ _
    obtain ⟨c, d⟩ := back_ok h3 h31 h (as := as) (st := backOne cl ls st a) (fun b mb => m b (List.mem_cons_of_mem _ mb)) k2
    refine ⟨c, ?_⟩
    rw [List.length_cons]
    show (as.foldl (backOne cl ls) (backOne cl ls st a)).1.length ≤ _
    omega
theorem back_take {cl : Int} {i a : Nat} {ls : List (Nat × List Int)} {as : List Nat} (e : as[i]? = some a) : backFold cl ls (as.take (i + 1)) = backOne cl ls (backFold cl ls (as.take i)) a := by
  unfold backFold
  rw [List.take_succ, e, List.foldl_append]
  rfl
theorem backOne_row {cl : Int} {ls : List (Nat × List Int)} {st : List (Nat × List Int) × List (List Int)} {a : Nat} : backOne cl ls st a = (putL st.1 a (leftOf cl st.1 (findL ls a)), st.2 ++ [leftOf cl st.1 (findL ls a)]) := rfl
/-- ints that are the leads, in descending order -/
theorem leads_of {ls : List (Nat × List Int)} {ks ys : List Int} (hk : (dkl ls).map (·.1) = ks.map Sum.inl) (p : ys.Perm ks) (o : OrdB true ys) : ys = (descend (ls.map (·.1))).map Int.ofNat := by
  have e : ks = (ls.map (·.1)).map Int.ofNat := by
    have z : (dkl ls).map (·.1) = ((ls.map (·.1)).map Int.ofNat).map Sum.inl := by
      unfold dkl
      rw [List.map_map, List.map_map, List.map_map]
      rfl
    rw [z] at hk
    exact (List.map_inj_right (f := (Sum.inl : Int → Key)) (fun _ _ h => Sum.inl.inj h)).mp hk.symm
  rw [e] at p
  have pos : ∀ y ∈ ys, 0 ≤ y := fun y m => by
    obtain ⟨k, _, rfl⟩ := List.mem_map.mp (p.mem_iff.mp m)
    exact Int.natCast_nonneg k
  have back : ys = (ys.map Int.toNat).map Int.ofNat := by
    rw [List.map_map]
    refine ((List.map_congr_left fun y m => ?_).trans (List.map_id ys)).symm
    show Int.ofNat y.toNat = id y
    exact Int.toNat_of_nonneg (pos y m)
  have p2 : (ys.map Int.toNat).Perm (ls.map (·.1)) := by
    have q := p.map Int.toNat
    rw [List.map_map] at q
    have e2 : (ls.map (·.1)).map (Int.toNat ∘ Int.ofNat) = ls.map (·.1) := (List.map_congr_left fun y _ => rfl).trans (List.map_id _)
    rw [e2] at q
    exact q
  have o2 : (ys.map Int.toNat).Pairwise (· ≥ ·) := by
    have o' : ys.Pairwise (· ≥ ·) := o
    refine List.pairwise_map.mpr (o'.imp_of_mem fun {a b} ma mb h => ?_)
    have := pos b mb
    have h' : b ≤ a := h
    show b.toNat ≤ a.toNat
    omega
  rw [back, desc_one (p2.trans (descend_perm _).symm) o2 (descend_desc _)]
end Rp
namespace Rp
open PySem PySem.Spec PyProof.Rows L2 LamX
/-! ### a string some times -/
def rStrMul : R2 := fun x y H Q => ∃ (z : Str) (k : Int), x = .str z ∧ y = .int k ∧ 1 ≤ k ∧ k ≤ 1000 ∧ z.length = 1 ∧ ∀ r : Str, Q (.str r) H
theorem rep_size {α : Type} (c : Array α) : ∀ (n : Nat) (acc : Array α), ((List.replicate n c).foldl (· ++ ·) acc).size = acc.size + n * c.size
  | 0, acc => by show acc.size = _; omega
  | n + 1, acc => by
    rw [List.replicate_succ, List.foldl_cons, rep_size c n, Array.size_append, Nat.succ_mul]
    omega
theorem op_strMul {X : Cx} : OpR X (binaryOp .Mult) rStrMul := by
  intro pins s σ H x y v u Q I rx ry h
  obtain ⟨z, k, rfl, rfl, h1, h2, hz, q⟩ := h
  obtain ⟨t, rfl⟩ := rx
  obtain ⟨t', rfl⟩ := ry
  refine P.mul_str (by rw [decide_eq_false (by omega), decide_eq_false (by omega)]; rfl) (fun _ _ => ?_) (fun _ _ => ?_) ?_
  · rw [hz]
    have : (1 : Int) ≤ (2 ^ 63 - 1) / k := Int.le_ediv_of_mul_le (by omega) (by omega)
    omega
  · rw [hz, Nat.one_mul]
    have s1 : 1000 ≤ sizeLine := le_ok rfl
    unfold Builtin.Str.tooLong
    exact decide_eq_false (by omega)
  · rw [if_neg (by omega)]
    split
    · exact ⟨.str z, H, I, ⟨_, rfl⟩, q z⟩
    · refine ⟨?_, ⟨.str _, H, I.tok _, ⟨_, rfl⟩, q _⟩⟩
      have e : z.cps.size = 1 := hz
      show ((List.replicate k.toNat z.cps).foldl (· ++ ·) #[]).size ≤ sizeLine
      rw [rep_size, e]
      have s1 : 1000 ≤ sizeLine := le_ok rfl
      show 0 + _ ≤ _
      omega
theorem kbn_of {K : PySem.W.Frag} {fd : FuncData} {ps ks : List Str} {n : Nat} {ix : List Nat} (h : KBx K fd ps n ks ix) : KBn K fd ps n ks (fun us ws => ix.map fun i => (us ++ ws).getD i .none) (fun vs zs => ix.map fun i => (vs ++ zs).getD i .non) :=
  ⟨fun s us ws _ l1 l2 => h.to s us ws l1 l2, fun r1 r2 => vals_ix (.append r1 r2) ix⟩
section
variable {X : Cx} {k : Nat} {f C : Addr} {fd : FuncData} {ps ks : List Str} {sp : Sp} {x : Str} {p pos : Pos} {tk : TA} {kws : List Keyword} {E : XK} {ix : List Nat}
theorem pe_makeKE (c : MakX X.prog X.w X.K X.mg X.base x k C f fd ps sp) (hb : KBx X.K fd ps 1 ks ix) (r : Room (k + 1) X.A) (t : Takes X (fun cls d _ H => E cls d H)) (hg : Gl X x) (hkw : PK X kws tk)
    (hall : (backToKw pos (keywordEach kws X.env)).all (·.1.isSome) = true := by rfl) (hks : (backToKw pos (keywordEach kws X.env)).filterMap (·.1) = ks := by rfl) (hdb : (x == ("__debug__" : Str)) = false := by decide)
    (hpl : ((backTo pos (starEach [] X.env)).any (·.1) || (backToKw pos (keywordEach kws X.env)).any (·.1.isNone)) = false := by rfl) : PE X (.Call (.Name x p) [] kws pos) (tMakeK C 0 ks.length sp (fun vs zs => ix.map fun i => (vs ++ zs).getD i .non) E tNil tk) := by
  have hx : Passes (L2.CX X.prog X.w) X E := fun pins σ H s e s' I z => passAt t σ pins H s e s' I z
  exact pe_makeK0 c.M c.F r hg c.mgf (kbn_of hb) hx hkw hall hks hdb hpl
end
theorem r_makeK {C : Addr} {n m : Nat} {sp : Sp} {gV : List V → List V → List V} {E : XK} {t tk : TA} {σ : L2.St} {H : Hp} {Q : VK} (h : t σ H fun vs H1 => tk σ H1 fun zs H2 => vs.length = n ∧ zs.length = m ∧ ∀ x dx, H2 x = none → H2 dx = none → dx ≠ x → sp (gV (.ref x :: vs) zs) (upd (upd H2 dx (.own x)) x (.ins C dx [])) (fun v H3 => v = .non ∧ Q (.ref x) H3) E) : tMakeK C n m sp gV E t tk σ H Q := h
end Rp
namespace Rp
open PySem PySem.Spec PyProof.Rows L2
/-! ### zip of a list and a tuple, in any order -/
def SqB (t : Bool) (K : PySem.W.Frag) (H : Hp) (a : Addr) (xs : List V) : Prop := if t then SqL K H a xs else SqT K H a xs
def SeqB (t : Bool) (h : Heap) (a : Addr) (its : Array Value) : Prop := if t then h.IsList a its else h.IsTuple a its
def ItB (t : Bool) (h : Heap) (it a : Addr) (i : Nat) : Prop := if t then h.IsListIter it a i else h.IsTupleIter it a i
theorem draws_b {prog : Program} {w : World} {A : Around} (t : Bool) (hh : A.handled = none) (it a : Addr) (hne : a ≠ it) (items : Array Value) :
    Draws prog w A it [it, a] items.size (fun i v => items[i]? = some v) (fun i h => ItB t h it a i ∧ SeqB t h a items) := by
  cases t
  · exact Draws.tuple hh it a hne items
  · exact Draws.list hh it a hne items
theorem ItB.at {t : Bool} {h h' : Heap} {it a : Addr} {i : Nat} (x : ItB t h it a i) (k : ∀ o, h.get? it = some o → h'.get? it = some o) : ItB t h' it a i := by
  cases t
  · exact Heap.IsTupleIter.at x k
  · exact Heap.IsListIter.at x k
theorem ItB.obj {t : Bool} {h : Heap} {it a : Addr} {i : Nat} (x : ItB t h it a i) : ∃ o, h.get? it = some o ∧ ∀ v, o.data ≠ .cell v := by
  cases t
  · obtain ⟨o, e, _, d⟩ := x
    exact ⟨o, e, fun v q => by rw [d] at q; cases q⟩
  · obtain ⟨o, e, _, d⟩ := x
    exact ⟨o, e, fun v q => by rw [d] at q; cases q⟩
theorem seq_b {X : Cx} {pins : List (Addr × Obj)} {σ : L2.St} {H : Hp} {s : Shared} {t : Bool} {a : Addr} {xs : List V} (I : Inv X pins σ H s) (h : SqB t X.K H a xs) : ∃ its : List Value, Vals xs its ∧ SeqB t s.heap a its.toArray := by
  cases t
  · obtain ⟨its, rv, p, _⟩ := I.tuple h
    exact ⟨its, rv, p⟩
  · obtain ⟨its, rv, p, _⟩ := I.list h
    exact ⟨its, rv, p.isList⟩
theorem seq_b_inj {X : Cx} {pins : List (Addr × Obj)} {σ : L2.St} {H : Hp} {s : Shared} {t : Bool} {a : Addr} {xs ys : List V} (I : Inv X pins σ H s) (h : SqB t X.K H a xs) (k : SqB t X.K H a ys) : xs = ys := by
  cases t
  · exact I.tuple_inj h k
  · exact I.list_inj h k
theorem SeqB.lt {t : Bool} {h : Heap} {a : Addr} {its : Array Value} (x : SeqB t h a its) : a < h.objs.size := by
  cases t
  · obtain ⟨o, e, _⟩ := x
    exact Heap.lt_size e
  · obtain ⟨o, e, _⟩ := x
    exact Heap.lt_size e
/-- the sequences at a and b as they stand at each turn, the items in new pairs -/
def ItzB (K : PySem.W.Frag) (t u : Bool) (a b : Addr) : It :=
  ⟨fun i H => ∃ (xs ys : List V) (x y : V), SqB t K H a xs ∧ SqB u K H b ys ∧ xs[i]? = some x ∧ ys[i]? = some y,
    fun i H v H' => ∃ T x y, v = .ref T ∧ H T = none ∧ H' = upd H T (.tup [x, y]) ∧ (∀ xs, SqB t K H a xs → xs[i]? = some x) ∧ ∀ ys, SqB u K H b ys → ys[i]? = some y,
    fun i H => ∃ xs ys : List V, SqB t K H a xs ∧ SqB u K H b ys ∧ i = min xs.length ys.length⟩
theorem turn_zipB {P : Program} {w : World} {K : PySem.W.Frag} {elts : List Expr} {kk : Nat} {tpos : Pos} {t u : Bool} {a b z TI TO i1 i2 : Addr} (S : ZipSep2 z TI TO i1 i2 [i1, a] [i2, b]) (n1 : a ≠ i1) (n2 : b ≠ i2) :
    Turn P w K (.Tuple elts kk tpos) (ItzB K t u a b) [z, TI, TO, i1, i2] z (fun i h => IsZip h z TI TO .none ∧ IsTupOf2 h TI (.ref i1) (.ref i2) ∧ (∃ x y, IsTupOf2 h TO x y) ∧ ItB t h i1 a i ∧ ItB u h i2 b i) where
  mem := by simp
  obj := fun i h st c hc => by
    obtain ⟨hz, hTI, ⟨x, y, hTO⟩, h1, h2⟩ := st
    have e' : c = z ∨ c = TI ∨ c = TO ∨ c = i1 ∨ c = i2 := by simpa using hc
    rcases e' with q | q | q | q | q
    · rw [q]; exact ⟨_, hz, fun v q => nomatch q⟩
    · rw [q]; exact ⟨_, hTI, fun v q => nomatch q⟩
    · rw [q]; exact ⟨_, hTO, fun v q => nomatch q⟩
    · rw [q]; exact h1.obj
    · rw [q]; exact h2.obj
  keep := fun i h h' st k => by
    obtain ⟨hz, hTI, ⟨x, y, hTO⟩, h1, h2⟩ := st
    exact ⟨k z (by simp) _ hz, k TI (by simp) _ hTI, ⟨x, y, k TO (by simp) _ hTO⟩, h1.at fun o q => k i1 (by simp) o q, h2.at fun o q => k i2 (by simp) o q⟩
  item := by
    intro X hP hw hK hc i pins s σ H E I hf st hg
    subst hP hw hK
    obtain ⟨hz, hTI, ⟨x0, y0, hTO⟩, h1, h2⟩ := st
    obtain ⟨xs, ys, x, y, hqx, hqy, hx, hy⟩ := hg
    obtain ⟨its, rv, p⟩ := seq_b I hqx
    obtain ⟨its2, rv2, p2⟩ := seq_b I hqy
    obtain ⟨v1, hu, ru⟩ := rv.get hx
    obtain ⟨v2, hu2, ru2⟩ := rv2.get hy
    have hzl : z < s.heap.objs.size := Heap.lt_size hz
    have l1 : i < its.toArray.size := by have := (List.getElem?_eq_some_iff.mp hu).1; simpa using this
    have l2 : i < its2.toArray.size := by have := (List.getElem?_eq_some_iff.mp hu2).1; simpa using this
    have hh : X.A.in1.handled = none := I.ok.hd hc
    refine wpAny_pyNext_zipD2_item S (draws_b t hh i1 a n1 its.toArray) (draws_b u hh i2 b n2 its2.toArray) hz hTI hTO ⟨h1, p⟩ ⟨h2, p2⟩ l1 l2 fun x1 x2 h' tk hx1 hx2 z' TO' st1 st2 hT hsz hk => ?_
    have ex1 : x1 = v1 := Option.some.inj (hx1.symm.trans (by simpa using hu))
    have ex2 : x2 = v2 := Option.some.inj (hx2.symm.trans (by simpa using hu2))
    subst ex1 ex2
    refine ⟨_, rfl, wpAny_letOwnedTupleGo_zip (s := { s with heap := h', toks := tk }) z' fun h'' z'' sb => ?_⟩
    have hT2 : h''.get? s.heap.objs.size = some { cls := .type "tuple", data := .seq #[x1, x2] } := (sb.2 _ (Nat.ne_of_gt hzl)).trans hT
    have new : ObjOk X.prog X.w (upd H s.heap.objs.size (.tup [x, y])) h'' s.heap.objs.size (.tup [x, y]) :=
      ⟨by show 2 ≤ sizeLine; decide, [x1, x2], .cons ru (.cons ru2 .nil), ⟨_, hT2, rfl, _, rfl⟩⟩
    have zi1 : i1 ≠ z := fun q => S.zf1 (by rw [← q]; simp)
    have zi2 : i2 ≠ z := fun q => S.zf2 (by rw [← q]; simp)
    have I1 : Inv X pins σ (upd H s.heap.objs.size (.tup [x, y])) { s with heap := h'', toks := tk } :=
      I.turnedNew (t' := tk) (ch := [z, TI, TO, i1, i2]) (fun c o hb q => (sb.2 c (fun q' => hb (by simp [q']))).trans (hk c o (fun q' => hb (by simp [q'])) (fun q' => hb (by simp [q'])) (fun q' => hb (by simp [q'])) (fun q' => hb (by simp [q'])) q)) hf (Nat.le_refl _) new
    refine ⟨.ref s.heap.objs.size, _, I1, rfl, ⟨_, x, y, rfl, I.hok.fresh (Nat.le_refl _), rfl, fun l hl => by rw [seq_b_inj I hl hqx]; exact hx, fun l hl => by rw [seq_b_inj I hl hqy]; exact hy⟩, ⟨z'', ?_, ⟨x1, x2, ?_⟩, ?_, ?_⟩, fun c hcm => ?_⟩
    · exact (sb.2 _ S.TIz).trans (hk _ _ S.TIz S.TITO S.TIi1 S.TIi2 hTI)
    · exact (sb.2 _ S.TOz).trans TO'
    · exact st1.1.at fun o q => (sb.2 _ zi1).trans q
    · exact st2.1.at fun o q => (sb.2 _ zi2).trans q
    · have hlt : c < s.heap.objs.size := by
        have e' : c = z ∨ c = TI ∨ c = TO ∨ c = i1 ∨ c = i2 := by simpa using hcm
        rcases e' with q | q | q | q | q
        · rw [q]; exact hzl
        · rw [q]; exact Heap.lt_size hTI
        · rw [q]; exact Heap.lt_size hTO
        · rw [q]; obtain ⟨_, e1, _⟩ := h1.obj; exact Heap.lt_size e1
        · rw [q]; obtain ⟨_, e2, _⟩ := h2.obj; exact Heap.lt_size e2
      rw [upd_ne (Nat.ne_of_lt hlt)]
      exact (hf c hcm).1
  done := by
    intro X hP hw hK hc i pins s σ H E I hf st hg
    subst hP hw hK
    obtain ⟨hz, hTI, ⟨x0, y0, hTO⟩, h1, h2⟩ := st
    obtain ⟨xs, ys, hqx, hqy, hend⟩ := hg
    obtain ⟨its, rv, p⟩ := seq_b I hqx
    obtain ⟨its2, rv2, p2⟩ := seq_b I hqy
    have l1 := rv.length
    have l2 := rv2.length
    have hh : X.A.in1.handled = none := I.ok.hd hc
    refine wpAny_pyNext_zipD2_end S (draws_b t hh i1 a n1 its.toArray) (draws_b u hh i2 b n2 its2.toArray) hz hTI hTO ⟨h1, p⟩ ⟨h2, p2⟩ (by simp; omega) (by simp; omega) (by simp; omega) fun h' tk hk => ?_
    exact ⟨rfl, I.turnedL (t' := tk) (ch := [z, TI, TO, i1, i2]) (fun c o hb q => hk c o (fun q' => hb (by simp [q'])) (fun q' => hb (by simp [q'])) (fun q' => hb (by simp [q'])) (fun q' => hb (by simp [q'])) q) hf⟩
  self := fun A i s Q E st h => wpAny_pyIter_zip st.1 h
def itO (t : Bool) (a : Addr) : Obj := if t then { cls := .type "list_iterator", data := .fields #[.ref a, .int 0 0] } else { cls := .type "tuple_iterator", data := .fields #[.ref a, .int 0 0] }
theorem begins_b (t : Bool) (a : Addr) (its : Array Value) : Begins (.ref a) (itO t a) fun h => SeqB t h a its := by
  cases t
  · exact begins_tuple a its
  · exact begins_list a its
theorem itB_0 {t : Bool} {h : Heap} {it a : Addr} (e : h.get? it = some (itO t a)) : ItB t h it a 0 := by
  cases t
  · exact ⟨_, e, rfl, rfl⟩
  · exact ⟨_, e, rfl, rfl⟩
def iZipB (K : PySem.W.Frag) (ta : TA) : TI := fun σ H R => ta σ H fun vs H1 => ∃ (t u : Bool) (a b : Addr) (xs ys : List V), vs = [.ref a, .ref b] ∧ SqB t K H1 a xs ∧ SqB u K H1 b ys ∧ R (ItzB K t u a b) H1
theorem pi_zipB {X : Cx} {e e2 : Expr} {ta : TA} {p pos tpos : Pos} {elts : List Expr} {kk : Nat} (hg : Gl X "zip") (hm : X.mg "zip" = none) (ha : PA X [e, e2] ta)
    (hs : starEach [e, e2] X.env = (false, eval e X.env) :: starEach [e2] X.env := by rfl) (hpl : (backTo pos (starEach [e2] X.env)).any (·.1) = false := by rfl) :
    PI X (.Tuple elts kk tpos) (.Call (.Name "zip" p) [e, e2] [] pos) (iZipB X.K ta) := by
  refine ⟨fun pins s σ H R I h => ?_⟩
  refine Call_ (ld_blt I hg hm PyProof.Rows.boot_zip (PyProof.Rows.callWith_type1 (thn (ha.run pos pins s σ H _ I h) fun us s1 ⟨vs, H1, I1, r1, q1⟩ => ?_) hs hpl))
  obtain ⟨t, u, a, b, xs, ys, ex, hqx, hqy, q⟩ := q1
  subst ex
  cases r1 with
  | cons r rr =>
    cases rr with
    | cons r' rr =>
      cases rr
      cases r
      cases r'
      obtain ⟨its, rv, p1⟩ := seq_b I1 hqx
      obtain ⟨its2, rv2, p2⟩ := seq_b I1 hqy
      have la := p1.lt
      have lb := p2.lt
      refine zip_begins2 (begins_b t a its.toArray) (begins_b u b its2.toArray) p1 p2 fun h' hz hTI hTO h1 h2 hsz hk => wpAny_pyIter_zip hz ?_
      have I2 : Inv X pins σ H1 { s1 with heap := h' } := I1.kept (t' := s1.toks) hk
      have sep : ZipSep2 (s1.heap.objs.size + 4) (s1.heap.objs.size + 2) (s1.heap.objs.size + 3) s1.heap.objs.size (s1.heap.objs.size + 1) [s1.heap.objs.size, a] [s1.heap.objs.size + 1, b] :=
        zip_sep2 (fun c m => by rw [List.mem_singleton.mp m]; exact la) (fun c m => by rw [List.mem_singleton.mp m]; exact lb)
      refine ⟨s1.heap.objs.size + 4, [s1.heap.objs.size + 4, s1.heap.objs.size + 2, s1.heap.objs.size + 3, s1.heap.objs.size, s1.heap.objs.size + 1], _, _, H1, rfl, I2, turn_zipB sep (Nat.ne_of_lt la) (Nat.ne_of_lt (Nat.lt_succ_of_lt lb)), ⟨hz, hTI, ⟨_, _, hTO⟩, itB_0 h1, itB_0 h2⟩, fun c hcm => ?_, q⟩
      have e' : c = s1.heap.objs.size + 4 ∨ c = s1.heap.objs.size + 2 ∨ c = s1.heap.objs.size + 3 ∨ c = s1.heap.objs.size ∨ c = s1.heap.objs.size + 1 := by simpa using hcm
      have hle : s1.heap.objs.size ≤ c := by
        rcases e' with z | z | z | z | z
        · rw [z]; exact Nat.le_add_right _ _
        · rw [z]; exact Nat.le_add_right _ _
        · rw [z]; exact Nat.le_add_right _ _
        · rw [z]; exact Nat.le_refl _
        · rw [z]; exact Nat.le_add_right _ _
      exact I1.fpOk hle (I1.hok.fresh hle)
theorem walk_zipB {K : PySem.W.Frag} {t u : Bool} {a b : Addr} {xs ys : List V} {n : Nat} (hn : n = min xs.length ys.length) : Walk (ItzB K t u a b) n (fun H => SqB t K H a xs ∧ SqB u K H b ys) (YPair (fun i => xs[i]?) (fun i => ys[i]?)) := by
  subst hn
  constructor
  · intro i H hi ⟨h1, h2⟩
    exact ⟨xs, ys, xs[i]'(by omega), ys[i]'(by omega), h1, h2, List.getElem?_eq_getElem _, List.getElem?_eq_getElem _⟩
  · intro H ⟨h1, h2⟩
    exact ⟨xs, ys, h1, h2, rfl⟩
  · rintro i H v H' _ ⟨h1, h2⟩ ⟨T, x, y, e1, e2, e3, e4, e5⟩
    exact ⟨T, x, y, e1, e2, e3, e4 xs h1, e5 ys h2⟩
theorem r_izipB {K : PySem.W.Frag} {ta : TA} {σ : L2.St} {H : Hp} {R : It → Hp → Prop} (h : ta σ H fun vs H1 => ∃ (t u : Bool) (a b : Addr) (xs ys : List V), vs = [.ref a, .ref b] ∧ SqB t K H1 a xs ∧ SqB u K H1 b ys ∧ R (ItzB K t u a b) H1) : iZipB K ta σ H R := h
theorem row_b {K : PySem.W.Frag} {H : Hp} {a : Addr} {xs : List Int} (h : RowAt K H a xs) : ∃ t, SqB t K H a (xs.map V.int) := by
  rcases h with h | h
  · exact ⟨true, h⟩
  · exact ⟨false, h⟩
theorem SqB.same {K : PySem.W.Frag} {H H' : Hp} {t : Bool} {a : Addr} {xs : List V} (h : SqB t K H a xs) (s : Same H H') : SqB t K H' a xs := by
  cases t
  · exact Same.tupS s h
  · exact s.seq h
end Rp
namespace Rp
open PySem PySem.Spec PyProof.Rows L2
/-! ### == and != of instances whose class has an own __eq__ and no own __ne__ -/
section
variable {prog : Program} {w : World} {A : Around} {E : Value → Shared → Prop} {s : Shared} {K : PySem.W.Frag} {x C L f : Addr} {h₀ : Heap} {m : Str → Option Value} {ox : Obj} {od : Option Obj} {b tb : Value}
theorem ne_bind (self : Value) : bindSpecial (.builtin "object.__ne__") self = pure (.builtin "object.__ne__", [self]) := by kernel_rfl
theorem ne_plain : plainId "object.__ne__" = true := by decide +kernel
theorem ne_bound {M : Model} {args : List Value} {Q : Option Value → Shared → Prop} (X : K.In s.heap) (I : PySem.W.InstAt s.heap x ox C od) (hs : PySem.W.findIn K (.ref C) "__ne__" = some (some (.builtin "object.__ne__")))
    (h : wpAny M A (call (.builtin "object.__ne__") (.ref x :: args)) (fun v => Q (some v)) E s) : wpAny M A (callSpecialIfBound? (.ref x) "__ne__" args) Q E s := by
  simp only [callSpecialIfBound?, bindSpecialIfBound?]
  refine wpAny_holding (wpAny_bind (wpAny_bind (wpAny_bind (I.type.here ((PySem.W.looks_findIn X hs).here ?_)))))
  simp only [ne_bind]
  refine wpAny_bind (wpAny_askSetting (wpAny_ite ?_))
  have fin : wpAny M A (call (.builtin "object.__ne__") ([.ref x] ++ args) >>= fun v => pure (some v)) Q E s := wpAny_bind (wpAny_mono h (fun v s' h' => wpAny_pure h') fun _ _ h' => h')
  split
  · exact wpAny_bind (wpAny_pure (wpAny_pure fin))
  · exact wpAny_tryCatch (wpAny_bind (wpAny_pure (wpAny_pure fin)))
theorem ne_entry {Q : Fin → Shared → Prop} (hu : A.units < cLine) (X : K.In s.heap) (I : PySem.W.InstAt s.heap x ox C od) (hs : PySem.W.findIn K (.ref C) "__eq__" = some (some (.ref f))) (hf : PySem.W.isFn K (.ref f) = true)
    (h : wpAny (model prog w) A (call (.ref f) [.ref x, b]) (fun v s' => ∃ c, v = .bool c ∧ Q (.done (.ret (.bool (!c)))) s') E s) :
    wpAny (model prog w) A (Builtin.«object.__ne__» ⟨[.ref x, b], []⟩) Q E s := by
  obtain ⟨hp, g, d, t, os⟩ := s
  unfold Builtin.«object.__ne__»
  repeat (first
    | with_reducible refine wpAny_cRoomFor hu ?_
    | (refine wpAny_bind (m := callSpecialIfBound? (.ref x) (Str.ofString "__eq__") [b])
        (PySem.W.ifBound_K X I hs hf (wpAny_mono h (fun r s' hr => by
          obtain ⟨c, rfl, hq⟩ := hr
          repeat (first | exact hq | exact wpAny_pure hq | exact wpAny_truthy_bool hq | (refine wpAny_bind (m := truthy (.bool _)) (wpAny_truthy_bool ?_)) | wp_step)) fun _ _ e => e)))
    | wp_step)
theorem ne_try {Q : Option Value → Shared → Prop} (hu : A.units + 1 < cLine) (X : K.In s.heap) (I : PySem.W.InstAt s.heap x ox C od) (hm : PySem.W.mroIn K C (.type "object") = some true)
    (hn : PySem.W.findIn K (.ref C) "__ne__" = some (some (.builtin "object.__ne__"))) (hs : PySem.W.findIn K (.ref C) "__eq__" = some (some (.ref f))) (hf : PySem.W.isFn K (.ref f) = true)
    (h : wpAny (model prog w) A.in1 (call (.ref f) [.ref x, b]) (fun v s' => ∃ c, v = .bool c ∧ Q (some (.bool (!c))) s') E s) : wpAny (model prog w) A (tryCompare (.ref x) "__ne__" b) Q E s := by
  unfold tryCompare
  have sub : PySem.W.Looks (model prog w) s.heap (isInstance (.ref x) (.type "object")) true := I.type.andThen (PySem.W.looks_mroIn X hm)
  refine wpAny_bind (ne_bound X I hn (wpAny_call (codeAny_call_builtin ne_plain F.cmpEntry_ne (@PySem.W.check_slot (model prog w) _ _ s "object.__ne__" "object" "__ne__" (.ref x) [b] [] _ F.cmpKind_ne F.cmpSplit_ne sub (F.cmpArgs_ne _ _) ?_))))
  refine ne_entry (A := A.in1) hu X I hs hf (wpAny_mono h (fun v s' hv => ?_) fun _ _ e => e)
  obtain ⟨c, rfl, hq⟩ := hv
  first | exact ⟨c, rfl, wpAny_pure hq⟩ | exact ⟨c, rfl, wpAny_pure (wpAny_pure hq)⟩ | exact ⟨c, rfl, hq⟩
theorem ne_K {Q : Value → Shared → Prop} (hu : A.units + 1 < cLine) (X : K.In s.heap) (I : PySem.W.InstAt s.heap x ox C od) (hb : PySem.W.Looks (model prog w) s.heap (typeOf b) (.ref C)) (hm : PySem.W.mroIn K C (.type "object") = some true)
    (hn : PySem.W.findIn K (.ref C) "__ne__" = some (some (.builtin "object.__ne__"))) (hs : PySem.W.findIn K (.ref C) "__eq__" = some (some (.ref f))) (hf : PySem.W.isFn K (.ref f) = true)
    (h : wpAny (model prog w) A.in1 (call (.ref f) [.ref x, b]) (fun v s' => ∃ c, v = .bool c ∧ Q (.bool (!c)) s') E s) : wpAny (model prog w) A (richCompare .NotEq (.ref x) b) Q E s := by
  unfold richCompare
  simp only [oneThing_ref]
  refine wpAny_holding (wpAny_bind (wpAny_cRoomFor (Nat.lt_of_succ_lt hu) ?_))
  rw [cmpInfo_NotEq]
  dsimp only
  refine wpAny_bind (I.type.here (wpAny_bind (hb.here ?_)))
  rw [show (Value.ref C != Value.ref C) = false from by simp]
  simp only [Bool.false_eq_true, if_false]
  refine wpAny_bind (wpAny_pure ?_)
  simp only [Bool.false_eq_true, if_false]
  refine wpAny_bind (ne_try hu X I hm hn hs hf (wpAny_mono h (fun v s' hv => ?_) fun _ _ e => e))
  obtain ⟨c, rfl, hq⟩ := hv
  exact ⟨c, rfl, wpAny_pure hq⟩
end
section
variable {X : Cx} {CX : CXT} {pins : List (Addr × Obj)} {σ : L2.St} {H : Hp} {s : Shared} {C f : Addr} {n : Nat} {sp : Sp} {E : XK} {fd : FuncData} {ps : List Str}
/-- both are of the class at C; its own __eq__ promises sp; neg: asked by != -/
def rOwnI (C : Addr) (sp : Sp) (E : XK) (neg : Bool) : R2 := fun x y H Q => ∃ a b dx dy fs gs, x = .ref a ∧ y = .ref b ∧ H a = some (.ins C dx fs) ∧ H b = some (.ins C dy gs) ∧ sp [.ref a, .ref b] H (fun z H' => ∃ c, z = .bl c ∧ Q (.bl (if neg then !c else c)) H') E
theorem r_ownI {neg : Bool} {a b dx dy : Addr} {fs gs : List (Str × V)} {Q : VK} (h1 : H a = some (.ins C dx fs)) (h2 : H b = some (.ins C dy gs)) (q : sp [.ref a, .ref b] H (fun z H' => ∃ c, z = .bl c ∧ Q (.bl (if neg then !c else c)) H') E) :
    rOwnI C sp E neg (.ref a) (.ref b) H Q := ⟨a, b, dx, dy, fs, gs, rfl, rfl, h1, h2, q⟩
theorem run_eq {A : Around} {a b : Addr} {Q : VK} (F : FnOk X.prog X.w X.K X.mg X.base CX n f fd ps sp) (hb : Binds X.K fd ps []) (hx : Passes CX X E) (hr : Room n A) (fr : A.frames = X.A.frames) (I : Inv X pins σ H s) (q : sp [.ref a, .ref b] H Q E) :
    wpAny (model X.prog X.w) A (call (.ref f) [.ref a, .ref b]) (EP X pins σ Q) X.xe s := by
  have e0 : Env0 X.prog X.w X.K X.mg X.base A X.stack s H := by
    have e := I.env0
    exact ⟨by rw [fr]; exact e.frames, e.mod, e.bs, e.bsz, e.funs, e.frf, e.hok, e.bare⟩
  have hl := F.len _ _ _ _ q
  have r2 : Vals [V.ref a, V.ref b] [Value.ref a, Value.ref b] := .cons rfl (.cons rfl .nil)
  refine wpAny_call (codeAny_mono (F.run A X.stack s H ⟨[.ref a, .ref b], []⟩ [.ref a, .ref b] [.ref a, .ref b] _ E hr e0 (by
    have := hb s [.ref a, .ref b] I.kIn (by simpa using hl)
    simpa using this) r2 q) fun r s' hq => ?_)
  cases r with
  | error e => exact hx pins σ H s e s' I hq
  | ok fl =>
    cases fl with
    | ret w => exact I.after hq
    | next => exact False.elim hq
    | brk => exact False.elim hq
    | cont => exact False.elim hq
theorem op_eqI (F : FnOk X.prog X.w X.K X.mg X.base CX n f fd ps sp) (hb : Binds X.K fd ps []) (hx : Passes CX X E) (hr : Room n X.A)
    (hs : PySem.W.findIn X.K (.ref C) "__eq__" = some (some (.ref f))) (hf : PySem.W.isFn X.K (.ref f) = true) : OpR X (compareOp .Eq) (rOwnI C sp E false) := by
  intro pins s σ H x y v u Q I rx ry h
  obtain ⟨a, b, dx, dy, fs, gs, rfl, rfl, ha, hb', q⟩ := h
  cases (show v = Value.ref a from rx)
  cases (show u = Value.ref b from ry)
  obtain ⟨mA, J, _⟩ := ins_get I.hok ha
  obtain ⟨mB, J', _⟩ := ins_get I.hok hb'
  obtain ⟨od, J, _⟩ := J.look
  obtain ⟨od', J', _⟩ := J'.look
  obtain ⟨m, hF⟩ := I.fr
  refine PySem.W.cmp_K (op := .Eq) (tb := .ref C) hr.units0 hF I.ok.mod.kin J J'.type (by simp [PySem.W.notFirst]) hs hf ?_
  refine wpAny_mono (run_eq F hb hx hr rfl I q) (fun w s' z => ?_) fun _ _ x => x
  obtain ⟨z', H', I', rz, c, ec, qz⟩ := z
  subst ec
  cases (show w = Value.bool c from rz)
  exact ⟨.bl c, H', I', rfl, qz⟩
theorem op_neI (F : FnOk X.prog X.w X.K X.mg X.base CX n f fd ps sp) (hb : Binds X.K fd ps []) (hx : Passes CX X E) (hr : Room (n + 1) X.A)
    (hs : PySem.W.findIn X.K (.ref C) "__eq__" = some (some (.ref f))) (hf : PySem.W.isFn X.K (.ref f) = true) (hn : PySem.W.findIn X.K (.ref C) "__ne__" = some (some (.builtin "object.__ne__")))
    (hm : PySem.W.mroIn X.K C (.type "object") = some true) : OpR X (compareOp .NotEq) (rOwnI C sp E true) := by
  intro pins s σ H x y v u Q I rx ry h
  obtain ⟨a, b, dx, dy, fs, gs, rfl, rfl, ha, hb', q⟩ := h
  cases (show v = Value.ref a from rx)
  cases (show u = Value.ref b from ry)
  obtain ⟨mA, J, _⟩ := ins_get I.hok ha
  obtain ⟨mB, J', _⟩ := ins_get I.hok hb'
  obtain ⟨od, J, _⟩ := J.look
  obtain ⟨od', J', _⟩ := J'.look
  have hr1 : Room n X.A.in1 := Room.in1 hr
  refine ne_K (by exact hr1.units0) I.kIn J J'.type hm hn hs hf ?_
  refine wpAny_mono (run_eq F hb hx hr1 rfl I q) (fun w s' z => ?_) fun _ _ x => x
  obtain ⟨z', H', I', rz, c, ec, qz⟩ := z
  subst ec
  cases (show w = Value.bool c from rz)
  exact ⟨c, rfl, .bl !c, H', I', rfl, qz⟩
end
end Rp
namespace Rp
open PySem PySem.Spec PyProof.Rows L2
/-! ### a tuple once, and some times -/
theorem tuple_mul1 (l : Addr) (items : Array Value) (n : Nat) (dd : Option Addr) (sl : Array (Option Value)) (u : Tok) :
    Meets (Builtin.«tuple.__mul__» ⟨[.ref l, .int 1 u], []⟩) (fun _ R s => s.heap.get? l = some { cls := .type "tuple", dict := dd, data := .seq items n, slots := sl } ∧ R (.ok (.ret (Value.ref l))) s) :=
  .of_wp fun prog w A R s h => by
    obtain ⟨hp, g, d, tk, os⟩ := s
    obtain ⟨hl, h⟩ := h
    have f1 := AutoSeq1.idx_int
    have c1 : (items.isEmpty || (1 : Int) == 1) = true := by rw [Bool.or_eq_true]; exact .inr rfl
    wp_walk using wpAny_loadPart' hl
    repeat (first
      | (refine wpAny_ite_true (decide_eq_true c1) ?_; wp_walk using wpAny_loadPart' hl)
      | (refine wpAny_ite_false (decide_eq_false (by decide)) ?_; wp_walk using wpAny_loadPart' hl))
    exact ⟨_, rfl, h⟩
def rRep1 (K : PySem.W.Frag) : R2 := fun x y H Q => ∃ l xs, x = .ref l ∧ y = .int 1 ∧ SqT K H l xs ∧ Q (.ref l) H
theorem op_rep1 {X : Cx} : OpR X (binaryOp .Mult) (rRep1 X.K) := by
  intro pins s σ H x y v u Q I rx ry h
  obtain ⟨l, xs, rfl, rfl, hT, q⟩ := h
  cases rx
  obtain ⟨t, rfl⟩ := ry
  obtain ⟨its, r, ⟨⟨cls, dd, data, sl⟩, ho, hc, n, hd⟩, hs⟩ := I.tuple hT
  simp only at hc hd
  subst hc hd
  refine wpAny_binaryOp_repeat_ref (T := "tuple") (U := "int") (by decide) ⟨_, ho, rfl⟩ (fun s' => typeIs_int s' 1 t) noFill_tuple_mul F.fills_int_mul F.slot_int_rmul repeat_tuple F.slot_int_index.lookup
    (call_meets F.slot_int_rmul (typeIs_int s 1 t) F.entry_int_rmul (F.args_int_rmul_2 _ _) (int_rmul_tuple 1 t l its.toArray n dd sl)
      ⟨ho, rfl, ⟨_, ho, rfl⟩, call_meets F.slot_tuple_mul ⟨_, ho, rfl⟩ F.entry_tuple_mul (F.args_tuple_mul_2 _ _) (tuple_mul1 l its.toArray n dd sl t) ⟨ho, ?_⟩⟩)
  exact ⟨.ref l, H, I, rfl, q⟩
/-- xs * k, k from 1 -/
def rRepA (K : PySem.W.Frag) : R2 := fun x y H Q => ∃ l k xs, x = .ref l ∧ y = .int k ∧ SqT K H l xs ∧ xs ≠ [] ∧ 1 ≤ k ∧ k ≤ 1000 ∧ xs.length ≤ 1000 ∧ ∀ p H', Same H H' → SqT K H' p (List.replicate k.toNat xs).flatten → Q (.ref p) H'
theorem op_repA {X : Cx} : OpR X (binaryOp .Mult) (rRepA X.K) := by
  intro pins s σ H x y v u Q I rx ry h
  obtain ⟨l, k, xs, rfl, rfl, hT, hne, h1, h2, hz, q⟩ := h
  by_cases e : k = 1
  · subst e
    exact op_rep1 pins s σ H _ _ v u Q I rx ry ⟨l, xs, rfl, rfl, hT, q l H (Same.refl H) (by simpa using hT)⟩
  · exact op_repT pins s σ H _ _ v u Q I rx ry ⟨l, k, xs, rfl, rfl, hT, hne, by omega, h2, hz, fun p hp => q p _ (same_neu (Same.refl H) hp) (SqT.of upd_same)⟩
/-- the same, the tuple laid by the program: the answer is it, or new -/
def rRepN (K : PySem.W.Frag) : R2 := fun x y H Q => ∃ l k xs, x = .ref l ∧ y = .int k ∧ H l = some (.tup xs) ∧ xs ≠ [] ∧ 1 ≤ k ∧ k ≤ 1000 ∧ xs.length ≤ 1000 ∧ ∀ p H', Same H H' → (p = l ∨ H p = none) → H' p = some (.tup (List.replicate k.toNat xs).flatten) → Q (.ref p) H'
theorem op_repN {X : Cx} : OpR X (binaryOp .Mult) (rRepN X.K) := by
  intro pins s σ H x y v u Q I rx ry h
  obtain ⟨l, k, xs, rfl, rfl, hT, hne, h1, h2, hz, q⟩ := h
  by_cases e : k = 1
  · subst e
    exact op_rep1 pins s σ H _ _ v u Q I rx ry ⟨l, xs, rfl, rfl, SqT.of hT, q l H (Same.refl H) (.inl rfl) (by simpa using hT)⟩
  · exact op_repT pins s σ H _ _ v u Q I rx ry ⟨l, k, xs, rfl, rfl, SqT.of hT, hne, by omega, h2, hz, fun p hp => q p _ (same_neu (Same.refl H) hp) (.inr hp) upd_same⟩
/-- a list or a tuple at an index -/
theorem r_ixB {K : PySem.W.Frag} {H : Hp} {t : Bool} {p : Addr} {xs : List V} {i : Int} {v : V} {Q : VK} (h : SqB t K H p xs) (ha : atI xs i = some v) (q : Q v H) : rIx K (.ref p) (.int i) H Q := by
  cases t
  · exact .inr (.inl (r_ixT h ha q))
  · exact .inl (r_ixL h ha q)
theorem SqB.row {K : PySem.W.Frag} {H : Hp} {t : Bool} {a : Addr} {xs : List Int} (h : SqB t K H a (xs.map V.int)) : RowAt K H a xs := by
  cases t
  · exact .inr h
  · exact .inl h
end Rp
namespace Rp
open PySem PySem.Spec PyProof.Rows L2
/-! ### rims: steps, swings, chess rows -/
def stepAt (xs : List Int) (i : Nat) : Int := xs.getD (if i = 0 then xs.length - 1 else i - 1) 0 - xs.getD (if i + 1 = xs.length then 0 else i + 1) 0
def stepsF (xs : List Int) : List Int := (List.range xs.length).map (stepAt xs)
def swingF (cl : Int) (xs ys : List Int) : Int := ((ys.zip (stepsF xs)).map fun p => p.1 * p.2).sum % cl
def chessF (xs : List Int) : List Bool := (List.range xs.length).map fun i => decide (xs.getD i 0 = xs.getD (i % 2) 0)
theorem stepsF_len {xs : List Int} : (stepsF xs).length = xs.length := by unfold stepsF; rw [List.length_map, List.length_range]
theorem stepsF_at {xs : List Int} {i : Nat} (h : i < xs.length) : (stepsF xs)[i]? = some (stepAt xs i) := by
  unfold stepsF
  rw [List.getElem?_map, List.getElem?_range h]
  rfl
theorem chessF_len {xs : List Int} : (chessF xs).length = xs.length := by unfold chessF; rw [List.length_map, List.length_range]
theorem chessF_at {xs : List Int} {i : Nat} (h : i < xs.length) : (chessF xs)[i]? = some (decide (xs.getD i 0 = xs.getD (i % 2) 0)) := by
  unfold chessF
  rw [List.getElem?_map, List.getElem?_range h]
  rfl
theorem getD_at {xs : List Int} {i : Nat} (h : i < xs.length) : xs[i]? = some (xs.getD i 0) := by
  rw [List.getD_eq_getElem?_getD, List.getElem?_eq_getElem h]
  rfl
theorem SqB.or {K : PySem.W.Frag} {H : Hp} {t : Bool} {a : Addr} {xs : List V} (h : SqB t K H a xs) : SqL K H a xs ∨ SqT K H a xs := by
  cases t
  · exact .inr h
  · exact .inl h
theorem row_B {K : PySem.W.Frag} {q : Addr} {H : Hp} {v : V} {xs : List V} (h : RowV q H v (some xs)) : ∃ p t, v = .ref p ∧ SqB t K H p xs := by
  cases h with
  | lst n e _ => exact ⟨_, true, rfl, SqL.of e⟩
  | tup n e _ => exact ⟨_, false, rfl, SqT.of e⟩
theorem rowV_same {q : Addr} {H H' : Hp} {v : V} {o : Option (List V)} (h : RowV q H v o) (s : Same H H') : RowV q H' v o := h.but fun b o _ e => s b o e
theorem ints_of : ∀ {xs : List V}, (∀ x ∈ xs, ∃ i : Int, x = .int i) → ∃ ns : List Int, xs = ns.map V.int
  | [], _ => ⟨[], rfl⟩
  | x :: r, h => by
    obtain ⟨i, rfl⟩ := h x (List.mem_cons_self ..)
    obtain ⟨ns, rfl⟩ := ints_of fun y m => h y (List.mem_cons_of_mem _ m)
    exact ⟨i :: ns, rfl⟩
/-- a row of the gaps of a rim with ends -/
def rimOk (o : Option (List V)) (cl : Int) : Bool := rowOk o cl 2 16 && match o with | some xs => xs.length % 2 == 0 | none => false
theorem rimOk_some {o : Option (List V)} {cl : Int} (h : rimOk o cl = true) : ∃ ns : List Int, o = some (ns.map V.int) ∧ 2 ≤ ns.length ∧ ns.length ≤ 16 ∧ ns.length % 2 = 0 ∧ ∀ x ∈ ns, 0 ≤ x ∧ x ≤ cl - 1 := by
  obtain ⟨h1, h2⟩ := Bool.and_eq_true_iff.mp h
  obtain ⟨xs, rfl, l, m⟩ := rowOk_some h1
  obtain ⟨ns, rfl⟩ := ints_of fun x mx => (m x mx).imp fun i z => z.1
  have e1 := (Bool.and_eq_true_iff.mp (show ((decide ((2 : Int) ≤ ((ns.map V.int).length : Int)) && decide (((ns.map V.int).length : Int) ≤ 16)) && (ns.map V.int).all fun x => inB x (some 0) (some (cl - 1))) = true from h1)).1
  have e2 := of_decide_eq_true (Bool.and_eq_true_iff.mp e1).1
  rw [List.length_map] at e2 l
  have e3 : (ns.map V.int).length % 2 = 0 := beq_iff_eq.mp h2
  rw [List.length_map] at e3
  refine ⟨ns, rfl, by omega, by simpa using l, e3, fun x mx => ?_⟩
  obtain ⟨i, e, a, b⟩ := m (.int x) (List.mem_map.mpr ⟨x, mx, rfl⟩)
  cases e
  exact ⟨a, b⟩
theorem rimOk_ints {xs : List Int} {cl : Int} (h : ∀ x ∈ xs, 0 ≤ x ∧ x ≤ cl - 1) (l1 : 2 ≤ xs.length) (l2 : xs.length ≤ 16) (ev : xs.length % 2 = 0) : rimOk (some (xs.map V.int)) cl = true := by
  have a := rowOk_ints h (by omega) (by omega)
  have a2 := (Bool.and_eq_true_iff.mp (show ((decide ((1 : Int) ≤ ((xs.map V.int).length : Int)) && decide (((xs.map V.int).length : Int) ≤ 400)) && (xs.map V.int).all fun x => inB x (some 0) (some (cl - 1))) = true from a)).2
  refine Bool.and_eq_true_iff.mpr ⟨?_, ?_⟩
  · show ((decide ((2 : Int) ≤ ((xs.map V.int).length : Int)) && decide (((xs.map V.int).length : Int) ≤ 16)) && (xs.map V.int).all fun x => inB x (some 0) (some (cl - 1))) = true
    rw [a2, List.length_map, decide_eq_true (by omega), decide_eq_true (by omega)]
    rfl
  · show ((xs.map V.int).length % 2 == 0) = true
    rw [List.length_map, ev]
    rfl
def spDemRim (C : Addr) : Sp := fun vs H Q E => ∃ q v o clock part, vs = [.int clock, v, .str part] ∧ RowV q H v o ∧ clk (.int clock) = true ∧ (∀ xs, o = some xs → xs.length < sizeLine) ∧
  ∀ H', Same H H' → (rimOk o clock = true → Q .non H') ∧ (rimOk o clock = false → errAt E C "part" (.str part) H')
def spSteps (K : PySem.W.Frag) : Sp := fun vs H Q _ => ∃ t a xs, vs = [.ref a] ∧ SqB t K H a (xs.map V.int) ∧ 2 ≤ xs.length ∧ xs.length ≤ 400 ∧ ∀ D H', Same H H' → H' D = some (.lst ((stepsF xs).map V.int)) → Q (.ref D) H'
def spSwing (cC cR cM : Addr) : Sp := fun vs H Q E => ∃ q c a b oa ob, vs = [c, a, b] ∧ Any q H c ∧ RowV q H a oa ∧ RowV q H b ob ∧ (∀ xs, oa = some xs → xs.length < sizeLine) ∧ (∀ xs, ob = some xs → xs.length < sizeLine) ∧
  (clk c = false → errAt E cC "part" (.str "clock") H) ∧ ∀ cl, c = .int cl → clk c = true → ∀ H', Same H H' → (rimOk oa cl = false → errAt E cR "part" (.str "one") H') ∧ (rimOk oa cl = true → (rimOk ob cl = false → errAt E cR "part" (.str "other") H') ∧
    (rimOk ob cl = true → ∀ xs ys : List Int, oa = some (xs.map V.int) → ob = some (ys.map V.int) → (xs.length ≠ ys.length → errAt E cM "part" (.str "other") H') ∧ (xs.length = ys.length → Q (.int (swingF cl xs ys)) H')))
def spIsChess (cC cR : Addr) : Sp := fun vs H Q E => ∃ q c a oa, vs = [c, a] ∧ Any q H c ∧ RowV q H a oa ∧ (∀ xs, oa = some xs → xs.length < sizeLine) ∧
  (clk c = false → errAt E cC "part" (.str "clock") H) ∧ ∀ cl, c = .int cl → clk c = true → ∀ H', Same H H' → (rimOk oa cl = false → errAt E cR "part" (.str "row") H') ∧ (rimOk oa cl = true → ∀ xs : List Int, oa = some (xs.map V.int) → Q (.bl ((chessF xs).all id)) H')
def evenIn (v : V) (lo hi : Int) : Bool := inB v (some lo) (some hi) && match v with | .int i => i % 2 == 0 | _ => false
def spDemEven (C : Addr) : Sp := fun vs H Q E => ∃ q v lo hi part, vs = [v, .int lo, .int hi, .str part] ∧ Any q H v ∧ (evenIn v lo hi = true → Q .non H) ∧ (evenIn v lo hi = false → errAt E C "part" (.str part) H)
/-- len and an index, within a comprehension too -/
def rLenK (K : PySem.W.Frag) : List V → Hp → VK → Prop := fun xs H Q => ∃ p ys, xs = [V.ref p] ∧ (SqL K H p ys ∨ SqT K H p ys) ∧ Q (V.int ys.length) H
theorem cl_len {X : Cx} {K : PySem.W.Frag} (h : X.K = K) : CallR X (.builtin "len") (rLenK K) := by
  subst h
  exact call_len_seq
theorem ix_seqK {X : Cx} {K : PySem.W.Frag} (h : X.K = K) : IxR X (rIx K) := by
  subst h
  exact ix_seq
theorem ixN_last {n : Nat} (h : 0 < n) : ixN n (-1) = some (n - 1) := by
  unfold ixN
  rw [if_neg (by omega), if_pos (by omega)]
  congr 1
  omega
theorem atI_at {xs : List Int} {j : Nat} (h : j < xs.length) : atI (xs.map V.int) (j : Int) = some (.int (xs.getD j 0)) := atI_nat (by rw [List.getElem?_map, getD_at h]; rfl)
theorem atI_prev {xs : List Int} {i : Nat} (h : i < xs.length) : atI (xs.map V.int) (0 + (i : Int) - 1) = some (.int (xs.getD (if i = 0 then xs.length - 1 else i - 1) 0)) := by
  by_cases e : i = 0
  · subst e
    rw [if_pos rfl]
    show atI (xs.map V.int) (-1) = _
    unfold atI
    rw [List.length_map, ixN_last h, Option.bind_some, List.getElem?_map, getD_at (by omega : xs.length - 1 < xs.length)]
    rfl
  · rw [if_neg e, show 0 + (i : Int) - 1 = ((i - 1 : Nat) : Int) by omega]
    exact atI_at (by omega)
theorem mod_next {n i : Nat} (h : i < n) : (0 + (i : Int) + 1).fmod (n : Int) = ((if i + 1 = n then 0 else i + 1 : Nat) : Int) := by
  rw [Int.fmod_eq_emod_of_nonneg _ (by omega)]
  by_cases e : i + 1 = n
  · rw [if_pos e, show 0 + (i : Int) + 1 = (n : Int) by omega, Int.emod_self]
    rfl
  · rw [if_neg e, Int.emod_eq_of_lt (by omega) (by omega)]
    omega
theorem atI_next {xs : List Int} {i : Nat} (h : i < xs.length) : atI (xs.map V.int) ((0 + (i : Int) + 1).fmod (xs.length : Int)) = some (.int (xs.getD (if i + 1 = xs.length then 0 else i + 1) 0)) := by
  rw [mod_next h]
  refine atI_at ?_
  split <;> omega
theorem stepsF_take {xs : List Int} {i : Nat} (h : i < xs.length) : ((stepsF xs).take (i + 1)).map V.int = ((stepsF xs).take i).map V.int ++ [.int (stepAt xs i)] := by
  rw [List.take_succ, stepsF_at h, Option.toList_some, List.map_append]
  rfl
theorem zip_take {xs ys : List Int} {i : Nat} {x y : Int} (hx : xs[i]? = some x) (hy : ys[i]? = some y) : (((xs.zip ys).take (i + 1)).map fun p => p.1 * p.2).map V.int = (((xs.zip ys).take i).map fun p => p.1 * p.2).map V.int ++ [.int (x * y)] := by
  have z : (xs.zip ys)[i]? = some (x, y) := by
    rw [List.getElem?_zip_eq_some]
    exact ⟨hx, hy⟩
  rw [List.take_succ, z, List.map_append, List.map_append]
  rfl
theorem getD_in {cl : Int} {xs : List Int} (h : ∀ x ∈ xs, 0 ≤ x ∧ x ≤ cl - 1) {j : Nat} (hj : j < xs.length) : 0 ≤ xs.getD j 0 ∧ xs.getD j 0 ≤ cl - 1 := h _ (List.mem_of_getElem? (getD_at hj))
theorem stepAt_in {cl : Int} {xs : List Int} (h : ∀ x ∈ xs, 0 ≤ x ∧ x ≤ cl - 1) {i : Nat} (hi : i < xs.length) : -cl ≤ stepAt xs i ∧ stepAt xs i ≤ cl := by
  have a : 0 ≤ xs.getD (if i = 0 then xs.length - 1 else i - 1) 0 ∧ xs.getD (if i = 0 then xs.length - 1 else i - 1) 0 ≤ cl - 1 := getD_in h (by split <;> omega)
  have b : 0 ≤ xs.getD (if i + 1 = xs.length then 0 else i + 1) 0 ∧ xs.getD (if i + 1 = xs.length then 0 else i + 1) 0 ≤ cl - 1 := getD_in h (by split <;> omega)
  unfold stepAt
  omega
end Rp
namespace Rp
open PySem PySem.Spec PyProof.Rows L2 LamX
/-! ### what walks of laws carry along -/
theorem none_back {q c p : Addr} {ns : List Int} {lap : Nat} {H G : Hp} (D : Dr q c ns lap G) (B : But q H G) (h : G p = none) : H p = none := by
  cases z : H p with
  | none => rfl
  | some o =>
    by_cases e : p = q
    · subst e
      obtain ⟨ne, ⟨rest, hb⟩, hc, hl⟩ := D
      rw [hb] at h
      cases h
    · rw [B _ _ e z] at h
      cases h
theorem dr_neq {q c p : Addr} {ns : List Int} {lap : Nat} {H : Hp} (D : Dr q c ns lap H) (h : H p = none) : p ≠ q := by
  obtain ⟨ne, ⟨rest, hb⟩, hc, hl⟩ := D
  exact (ne_of_none hb h).symm
/-- None, or a pair -/
def TwoV (H : Hp) (v : V) : Option (V × V) → Prop
  | none => v = .non
  | some (x, y) => ∃ p, v = .ref p ∧ H p = some (.tup [x, y])
def vD : V → PyData
  | .str x => .str x
  | .int i => .int i
  | _ => .none
def twoD : Option (V × V) → PyData
  | none => .none
  | some (x, y) => .tuple [vD x, vD y]
/-- strings and numbers in it alone -/
def flatO : Option (V × V) → Prop
  | none => True
  | some (x, y) => (∃ s, x = .str s) ∧ ((∃ s, y = .str s) ∨ ∃ i, y = .int i)
theorem two_dp {K : PySem.W.Frag} {H : Hp} {v : V} {o : Option (V × V)} (h : TwoV H v o) (f : flatO o) : Dp K H v (twoD o) := by
  match o, h, f with
  | none, h, _ => cases h; exact .non
  | some (x, y), ⟨p, e, ep⟩, ⟨⟨s, ex⟩, f⟩ =>
    subst e ex
    rcases f with ⟨t, rfl⟩ | ⟨i, rfl⟩
    · exact .tup (SqT.of ep) (.cons (.str _) (.cons (.str _) .nil))
    · exact .tup (SqT.of ep) (.cons (.str _) (.cons (.int _) .nil))
theorem TwoV.ext {H H' : Hp} {v : V} {o : Option (V × V)} (h : TwoV H v o) (x : ExtN H H') : TwoV H' v o := by
  match o, h with
  | none, h => exact h
  | some (a, b), ⟨p, e, ep⟩ => exact ⟨p, e, x _ _ ep fun _ z => by cases z⟩
theorem neu2 {H G : Hp} {p : Addr} {o : HO} (hG : upd H p o = G) (hp : H p = none) : Same H G ∧ G p = some o := by
  subst hG
  exact ⟨same_neu (Same.refl H) hp, upd_same⟩
theorem tabs_dr {q c : Addr} {ns : List Int} {lap : Nat} {T : List (Addr × Str)} {H H' : Hp} (B : But q H H') (D : Dr q c ns lap H) (t : Tabs T H) : Tabs T H' := by
  obtain ⟨_, ⟨_, hq⟩, _, _⟩ := D
  exact tabs_but B hq t
theorem TwoV.same {H H' : Hp} {v : V} {o : Option (V × V)} (h : TwoV H v o) (s : Same H H') : TwoV H' v o := h.ext (ExtN.of s)
theorem Any.ext {q : Addr} {H H' : Hp} {v : V} (h : Any q H v) (x : ExtN H H') : Any q H' v := any_ext h x
theorem RowV.ext {q : Addr} {H H' : Hp} {v : V} {o : Option (List V)} (h : RowV q H v o) (x : ExtN H H') : RowV q H' v o := row_ext h x
theorem neD_ok {K : PySem.W.Frag} {H : Hp} {Q : VK} {x y : V} {d e : PyData} (h1 : Dp K H x d) (h2 : Dp K H y e) (s1 : SeqAt.shaped d = true) (s2 : SeqAt.shaped e = true) (q : PyData.eqv d e = true) (h : Q (.bl false) H) : rNeD K x y H Q :=
  ⟨d, e, h1, h2, s1, s2, by rw [q]; exact h⟩
theorem eqD_ok {K : PySem.W.Frag} {H : Hp} {Q : VK} {x y : V} {d e : PyData} (h1 : Dp K H x d) (h2 : Dp K H y e) (s1 : SeqAt.shaped d = true) (s2 : SeqAt.shaped e = true) (q : PyData.eqv d e = true) (h : Q (.bl true) H) : rEqD K x y H Q :=
  ⟨d, e, h1, h2, s1, s2, by rw [q]; exact h⟩
theorem big1 : 1000 ≤ sizeLine := le_ok rfl
end Rp
namespace Rp
/-! ### rows round the clock: sums of multiples, and their least form -/
theorem em_r {m a b : Int} (t : Int) : (a + t * (b % m)) % m = (a + t * b) % m := by
  rw [Int.add_emod, Int.mul_emod, Int.emod_emod, ← Int.mul_emod, ← Int.add_emod]
theorem em_l {m a b : Int} : (a % m + b) % m = (a + b) % m := by
  rw [Int.add_emod, Int.emod_emod, ← Int.add_emod]
theorem em_of {m x : Int} (h : 0 ≤ x ∧ x < m) : x % m = x := Int.emod_eq_of_lt h.1 h.2
/-- a row, and t times another one, round the clock -/
def adM (cl t : Int) (xs ys : List Int) : List Int := List.zipWith (fun x y => (x + t * y) % cl) xs ys
def zeroR (n : Nat) : List Int := List.replicate n 0
def RowOk (cl : Int) (n : Nat) (xs : List Int) : Prop := xs.length = n ∧ Dig cl xs
section
variable {cl t u : Int} {n : Nat} {xs ys zs : List Int} {rs ls ms : List (List Int)}
theorem gd_lt {k : Nat} (h : k < xs.length) : xs[k]? = some (xs.getD k 0) := by
  rw [List.getD_eq_getElem?_getD, List.getElem?_eq_getElem h]
  rfl
theorem gd_ge {k : Nat} (h : xs.length ≤ k) : xs.getD k 0 = 0 := by
  rw [List.getD_eq_getElem?_getD, List.getElem?_eq_none h]
  rfl
theorem row_ext' (l : xs.length = ys.length) (h : ∀ k, k < xs.length → xs.getD k 0 = ys.getD k 0) : xs = ys := by
  refine List.ext_getElem? fun k => ?_
  by_cases hk : k < xs.length
  · rw [gd_lt hk, gd_lt (by omega), h k hk]
  · rw [List.getElem?_eq_none (by omega), List.getElem?_eq_none (by omega)]
theorem dig_gd (d : Dig cl xs) (h : 0 < cl) (k : Nat) : 0 ≤ xs.getD k 0 ∧ xs.getD k 0 < cl := by
  by_cases hk : k < xs.length
  · exact d _ (List.mem_of_getElem? (gd_lt hk))
  · rw [gd_ge (by omega)]
    omega
theorem adM_len (l : xs.length = ys.length) : (adM cl t xs ys).length = xs.length := by
  unfold adM
  rw [List.length_zipWith, l]
  exact Nat.min_self _
theorem adM_at (l : xs.length = ys.length) (k : Nat) : (adM cl t xs ys).getD k 0 = (xs.getD k 0 + t * ys.getD k 0) % cl := by
  by_cases hk : k < xs.length
  · have e1 := gd_lt hk
    have e2 := gd_lt (xs := ys) (k := k) (by omega)
    rw [List.getD_eq_getElem?_getD]
    unfold adM
    rw [List.getElem?_zipWith, e1, e2]
    rfl
  · rw [gd_ge (by rw [adM_len l]; omega), gd_ge (xs := xs) (by omega), gd_ge (xs := ys) (by omega)]
    simp
theorem adM_dig (h : 0 < cl) : Dig cl (adM cl t xs ys) := by
  intro z m
  unfold adM at m
  obtain ⟨k, hk⟩ := List.mem_iff_getElem?.mp m
  rw [List.getElem?_zipWith] at hk
  cases e1 : xs[k]? with
  | none => rw [e1] at hk; cases hk
  | some x =>
    cases e2 : ys[k]? with
    | none => rw [e1, e2] at hk; cases hk
    | some y =>
      rw [e1, e2] at hk
      have e := Option.some.inj hk
      rw [← e]
      exact ⟨Int.emod_nonneg _ (by omega), Int.emod_lt_of_pos _ h⟩
theorem adM_ok (h : 0 < cl) (a : RowOk cl n xs) (b : RowOk cl n ys) : RowOk cl n (adM cl t xs ys) := ⟨by rw [adM_len (by rw [a.1, b.1]), a.1], adM_dig h⟩
theorem zeroR_ok (h : 0 < cl) : RowOk cl n (zeroR n) := ⟨List.length_replicate .., fun x m => by rw [List.eq_of_mem_replicate m]; omega⟩
theorem zeroR_at (k : Nat) : (zeroR n).getD k 0 = 0 := by
  unfold zeroR
  rw [List.getD_eq_getElem?_getD, List.getElem?_replicate]
  split <;> rfl
theorem adM_zero (h : 0 < cl) (a : RowOk cl n xs) : adM cl t xs (zeroR n) = xs := by
  have z := zeroR_ok (n := n) h
  refine row_ext' (adM_len (by rw [a.1, z.1])) fun k _ => ?_
  rw [adM_at (by rw [a.1, z.1]), zeroR_at, Int.mul_zero, Int.add_zero]
  exact em_of (dig_gd a.2 h k)
theorem zero_adM (h : 0 < cl) (a : RowOk cl n xs) : adM cl 1 (zeroR n) xs = xs := by
  have z := zeroR_ok (n := n) h
  refine row_ext' (by rw [adM_len (by rw [a.1, z.1]), a.1, z.1]) fun k _ => ?_
  rw [adM_at (by rw [a.1, z.1]), zeroR_at, Int.one_mul, Int.zero_add]
  exact em_of (dig_gd a.2 h k)
theorem adM_adM (h : 0 < cl) (a : RowOk cl n xs) (b : RowOk cl n ys) (c : RowOk cl n zs) : adM cl t xs (adM cl u ys zs) = adM cl (t * u) (adM cl t xs ys) zs := by
  have o1 := adM_ok (t := u) h b c
  have o2 := adM_ok (t := t) h a b
  refine row_ext' (by rw [adM_len (by rw [a.1, o1.1]), adM_len (by rw [o2.1, c.1]), a.1, o2.1]) fun k _ => ?_
  rw [adM_at (by rw [a.1, o1.1]), adM_at (by rw [b.1, c.1]), adM_at (by rw [o2.1, c.1]), adM_at (by rw [a.1, b.1]), em_r, em_l, Int.mul_add, Int.mul_assoc]
  congr 1
  omega
theorem adM_back (h : 0 < cl) (a : RowOk cl n xs) (b : RowOk cl n ys) : adM cl (-t) (adM cl t xs ys) ys = xs := by
  have o2 := adM_ok (t := t) h a b
  refine row_ext' (by rw [adM_len (by rw [o2.1, b.1]), a.1, o2.1]) fun k _ => ?_
  rw [adM_at (by rw [o2.1, b.1]), adM_at (by rw [a.1, b.1]), em_l, Int.neg_mul]
  rw [show xs.getD k 0 + t * ys.getD k 0 + -(t * ys.getD k 0) = xs.getD k 0 by omega]
  exact em_of (dig_gd a.2 h k)
end
/-- the sums of multiples of some rows -/
inductive Spn (cl : Int) (n : Nat) (rs : List (List Int)) : List Int → Prop
  | zero : Spn cl n rs (zeroR n)
  | add {x r : List Int} (t : Int) (h : Spn cl n rs x) (m : r ∈ rs) : Spn cl n rs (adM cl t x r)
section
variable {cl t u : Int} {n : Nat} {x y r : List Int} {rs ss ls ms : List (List Int)}
theorem Spn.ok (h : 0 < cl) (o : RowsOk cl n rs) (s : Spn cl n rs x) : RowOk cl n x := by
  induction s with
  | zero => exact zeroR_ok h
  | add t _ m ih => exact adM_ok h ih (o _ m)
theorem Spn.of (h : 0 < cl) (o : RowsOk cl n rs) (m : r ∈ rs) : Spn cl n rs r := by
  have z := Spn.add 1 (Spn.zero (cl := cl) (n := n)) m
  rwa [zero_adM h (o _ m)] at z
theorem Spn.comb (h : 0 < cl) (o : RowsOk cl n rs) (a : Spn cl n rs x) (b : Spn cl n rs y) (t : Int) : Spn cl n rs (adM cl t x y) := by
  induction b generalizing t with
  | zero => rw [adM_zero h (a.ok h o)]; exact a
  | add u b m ih =>
    rw [adM_adM h (a.ok h o) (b.ok h o) (o _ m)]
    exact .add _ (ih t) m
theorem Spn.mono (h : 0 < cl) (o : RowsOk cl n rs) (os : RowsOk cl n ss) (f : ∀ r ∈ rs, Spn cl n ss r) (a : Spn cl n rs x) : Spn cl n ss x := by
  induction a with
  | zero => exact .zero
  | add t _ m ih => exact ih.comb h os (f _ m) t
theorem Spn.sub (f : ∀ r ∈ rs, r ∈ ss) (a : Spn cl n rs x) : Spn cl n ss x := by
  induction a with
  | zero => exact .zero
  | add t _ m ih => exact .add t ih (f _ m)
/-- a multiple -/
def mulM (cl t : Int) (xs : List Int) : List Int := xs.map fun x => (t * x) % cl
theorem mulM_eq (h : 0 < cl) (a : RowOk cl n x) : mulM cl t x = adM cl t (zeroR n) x := by
  have z := zeroR_ok (n := n) h
  refine row_ext' (by rw [adM_len (by rw [a.1, z.1]), z.1]; unfold mulM; rw [List.length_map, a.1]) fun k hk => ?_
  have hk' : k < x.length := by unfold mulM at hk; rw [List.length_map] at hk; exact hk
  rw [adM_at (by rw [a.1, z.1]), zeroR_at, Int.zero_add]
  unfold mulM
  rw [List.getD_eq_getElem?_getD, List.getElem?_map, gd_lt hk']
  rfl
theorem Spn.mul (h : 0 < cl) (o : RowsOk cl n rs) (a : Spn cl n rs x) (t : Int) : Spn cl n rs (mulM cl t x) := by
  rw [mulM_eq h (a.ok h o)]
  exact Spn.zero.comb h o a t
/-- what is left if multiples are taken off, round the clock -/
def clrM (cl : Int) (ls : List (Nat × List Int)) (xs : List Int) : List Int := ls.foldl (fun x l => adM cl (cl - x.getD l.1 0) x l.2) xs
end
end Rp
namespace Rp
/-- the least form -/
structure LF (cl : Int) (n : Nat) (ls : List (List Int)) : Prop where
  ok : RowsOk cl n ls
  lead : ∀ r ∈ ls, leadOf r < n ∧ r.getD (leadOf r) 0 = 1
  asc : ls.Pairwise (fun r s => leadOf r < leadOf s)
  clr : ∀ r ∈ ls, ∀ s ∈ ls, r ≠ s → s.getD (leadOf r) 0 = 0
section
variable {cl t u : Int} {n : Nat} {x y r s : List Int} {rs ss ls ms : List (List Int)}
theorem before_lead {xs : List Int} {k : Nat} (h : k < leadOf xs) : xs.getD k 0 = 0 := by
  have := leadOf_le xs
  exact leadOf_zero h (gd_lt (by omega))
theorem lead_ne {xs : List Int} (h : leadOf xs < xs.length) : xs.getD (leadOf xs) 0 ≠ 0 := leadOf_ne (gd_lt h)
theorem lead_eq {xs : List Int} {k : Nat} (n0 : xs.getD k 0 ≠ 0) (h : ∀ j, j < k → xs.getD j 0 = 0) : leadOf xs = k := by
  have hk : k < xs.length := by
    by_cases z : k < xs.length
    · exact z
    · exact absurd (gd_ge (by omega)) n0
  refine leadOf_at (gd_lt hk) n0 fun j y hj e => ?_
  have := h j hj
  rw [List.getD_eq_getElem?_getD, e] at this
  exact this
theorem lead_full {xs : List Int} (h : ∀ j, j < xs.length → xs.getD j 0 = 0) : leadOf xs = xs.length := by
  refine leadOf_all fun j y e => ?_
  have hj := (List.getElem?_eq_some_iff.mp e).1
  have := h j hj
  rw [List.getD_eq_getElem?_getD, e] at this
  exact this
theorem full_zero {xs : List Int} (h : leadOf xs = xs.length) : xs = zeroR xs.length := by
  refine row_ext' (List.length_replicate ..).symm fun k hk => ?_
  rw [zeroR_at]
  exact before_lead (by omega)
theorem LF.nodup (h : LF cl n ls) : ls.Nodup := h.asc.imp fun a e => by rw [e] at a; omega
/-- sums of all rows, a column -/
def colS (ls : List (List Int)) (f : List Int → Int) : Int := (ls.map f).sum
theorem colS_lin (f g e : List Int → Int) (t : Int) (m : Int) : ∀ ls : List (List Int), (∀ r ∈ ls, f r % m = (g r + t * e r) % m) → colS ls f % m = (colS ls g + t * colS ls e) % m
  | [], _ => by simp [colS]
  | r :: ls, h => by
    have a := h r (List.mem_cons_self ..)
    have b := colS_lin f g e t m ls fun s q => h s (List.mem_cons_of_mem _ q)
    show (f r + colS ls f) % m = ((g r + colS ls g) + t * (e r + colS ls e)) % m
    rw [Int.add_emod, a, b, ← Int.add_emod, Int.mul_add]
    congr 1
    omega
theorem colS_zero (f : List Int → Int) : ∀ ls : List (List Int), (∀ r ∈ ls, f r = 0) → colS ls f = 0
  | [], _ => rfl
  | r :: ls, h => by
    show f r + colS ls f = 0
    rw [h r (List.mem_cons_self ..), colS_zero f ls fun s q => h s (List.mem_cons_of_mem _ q)]
    rfl
theorem colS_one {f : List Int → Int} {r : List Int} : ∀ {ls : List (List Int)}, ls.Nodup → r ∈ ls → (∀ s ∈ ls, s ≠ r → f s = 0) → colS ls f = f r
  | [], _, m, _ => nomatch m
  | s :: ls, nd, m, h => by
    obtain ⟨n1, n2⟩ := List.nodup_cons.mp nd
    show f s + colS ls f = f r
    rcases List.mem_cons.mp m with e | m'
    · subst e
      rw [colS_zero f ls fun s q => h s (List.mem_cons_of_mem _ q) fun e => n1 (by rw [← e]; exact q)]
      omega
    · rw [h s (List.mem_cons_self ..) fun e => n1 (by rw [e]; exact m'), colS_one n2 m' fun s q => h s (List.mem_cons_of_mem _ q)]
      omega
/-- a sum of multiples is told by its numbers where the rows lead -/
theorem LF.told (h0 : 0 < cl) (h : LF cl n ls) (a : Spn cl n ls x) (k : Nat) : x.getD k 0 = (colS ls fun r => x.getD (leadOf r) 0 * r.getD k 0) % cl := by
  induction a with
  | zero =>
    rw [zeroR_at, colS_zero _ ls fun r _ => by rw [zeroR_at, Int.zero_mul]]
    simp
  | @add x r t a m ih =>
    have ox := a.ok h0 h.ok
    have orr := h.ok r m
    rw [adM_at (by rw [ox.1, orr.1])]
    have e1 : (colS ls fun s => r.getD (leadOf s) 0 * s.getD k 0) = r.getD k 0 := by
      rw [colS_one h.nodup m fun s ms ne => by rw [h.clr s ms r m ne, Int.zero_mul], (h.lead r m).2, Int.one_mul]
    have e2 := colS_lin (fun s => (adM cl t x r).getD (leadOf s) 0 * s.getD k 0) (fun s => x.getD (leadOf s) 0 * s.getD k 0) (fun s => r.getD (leadOf s) 0 * s.getD k 0) t cl ls fun s ms => by
      show ((adM cl t x r).getD (leadOf s) 0 * s.getD k 0) % cl = _
      rw [adM_at (by rw [ox.1, orr.1]), Int.mul_emod, Int.emod_emod, ← Int.mul_emod, Int.add_mul, Int.mul_assoc]
    rw [e2, e1, ih, em_l]
theorem LF.lead_in (h0 : 0 < cl) (h : LF cl n ls) (a : Spn cl n ls x) (nz : leadOf x < n) : ∃ r ∈ ls, leadOf r = leadOf x := by
  have ox := a.ok h0 h.ok
  have t := h.told h0 a (leadOf x)
  apply Classical.byContradiction
  intro no
  refine lead_ne (by rw [ox.1]; exact nz) (t.trans ?_)
  rw [colS_zero _ ls fun r m => ?_]
  · simp
  · by_cases c : leadOf r < leadOf x
    · rw [before_lead c, Int.zero_mul]
    · have c2 : leadOf x < leadOf r := by
        have : leadOf r ≠ leadOf x := fun e => no ⟨r, m, e⟩
        omega
      rw [before_lead c2, Int.mul_zero]
theorem asc_eq : ∀ {ls ms : List (List Int)}, ls.Pairwise (fun r s => leadOf r < leadOf s) → ms.Pairwise (fun r s => leadOf r < leadOf s) → (∀ r ∈ ls, r ∈ ms) → (∀ r ∈ ms, r ∈ ls) → ls = ms
  | [], [], _, _, _, _ => rfl
  | [], m :: ms, _, _, _, g => nomatch g m (List.mem_cons_self ..)
  | l :: ls, [], _, _, f, _ => nomatch f l (List.mem_cons_self ..)
  | l :: ls, m :: ms, a, b, f, g => by
    obtain ⟨a1, a2⟩ := List.pairwise_cons.mp a
    obtain ⟨b1, b2⟩ := List.pairwise_cons.mp b
    have e : l = m := by
      rcases List.mem_cons.mp (f l (List.mem_cons_self ..)) with e | m1
      · exact e
      rcases List.mem_cons.mp (g m (List.mem_cons_self ..)) with e | m2
      · exact e.symm
      have := b1 l m1
      have := a1 m m2
      omega
    subst e
    rw [asc_eq a2 b2 (fun r mr => ?_) fun r mr => ?_]
    · rcases List.mem_cons.mp (f r (List.mem_cons_of_mem _ mr)) with e | m
      · have := a1 r mr
        rw [e] at this
        omega
      · exact m
    · rcases List.mem_cons.mp (g r (List.mem_cons_of_mem _ mr)) with e | m
      · have := b1 r mr
        rw [e] at this
        omega
      · exact m
theorem LF.inj (h : LF cl n ls) (mr : r ∈ ls) (ms : s ∈ ls) (e : leadOf r = leadOf s) : r = s := by
  apply Classical.byContradiction
  intro ne
  have a := h.clr r mr s ms ne
  rw [e, (h.lead s ms).2] at a
  cases a
theorem LF.half (h0 : 0 < cl) (h : LF cl n ls) (g : LF cl n ms) (f1 : ∀ r ∈ ls, Spn cl n ms r) (f2 : ∀ r ∈ ms, Spn cl n ls r) (m : r ∈ ls) : r ∈ ms := by
  obtain ⟨s, mst, es⟩ := g.lead_in h0 (f1 r m) (h.lead r m).1
  suffices e : r = s by rw [e]; exact mst
  refine row_ext' (by rw [(h.ok r m).1, (g.ok s mst).1]) fun k _ => ?_
  rw [g.told h0 (f1 r m) k, colS_one g.nodup mst fun q mq nq => ?_]
  · rw [es, (h.lead r m).2, Int.one_mul]
    exact em_of (dig_gd (g.ok s mst).2 h0 k)
  · obtain ⟨p, mp, ep⟩ := h.lead_in h0 (f2 q mq) (g.lead q mq).1
    have np : p ≠ r := fun e => nq (g.inj mq mst (by rw [es, ← ep, e]))
    rw [← ep, h.clr p mp r m np, Int.zero_mul]
/-- each space has just one least form -/
theorem LF.one (h0 : 0 < cl) (h : LF cl n ls) (g : LF cl n ms) (f1 : ∀ r ∈ ls, Spn cl n ms r) (f2 : ∀ r ∈ ms, Spn cl n ls r) : ls = ms :=
  asc_eq h.asc g.asc (fun _ m => h.half h0 g f1 f2 m) fun _ m => g.half h0 h f2 f1 m
/-! ### rows cleared -/
theorem modRow_at (xs : List Int) (k : Nat) : (modRow cl xs).getD k 0 = xs.getD k 0 % cl := by
  unfold modRow
  by_cases hk : k < xs.length
  · rw [List.getD_eq_getElem?_getD, List.getElem?_map, gd_lt hk]
    rfl
  · rw [gd_ge (xs := xs) (by omega), gd_ge (by rw [List.length_map]; omega)]
    simp
theorem modRow_self (h : 0 < cl) (d : Dig cl x) : modRow cl x = x := by
  refine row_ext' modRow_len fun k _ => ?_
  rw [modRow_at]
  exact em_of (dig_gd d h k)
theorem addT_at {xs ys : List Int} (l : xs.length = ys.length) (k : Nat) : (addT t xs ys).getD k 0 = xs.getD k 0 + t * ys.getD k 0 := by
  by_cases hk : k < xs.length
  · rw [List.getD_eq_getElem?_getD]
    unfold addT
    rw [List.getElem?_zipWith, gd_lt hk, gd_lt (xs := ys) (k := k) (by omega)]
    rfl
  · rw [gd_ge (by rw [addT_len l]; omega), gd_ge (xs := xs) (by omega), gd_ge (xs := ys) (by omega)]
    omega
theorem mod_addT {xs ys : List Int} (l : xs.length = ys.length) : modRow cl (addT t xs ys) = adM cl t (modRow cl xs) ys := by
  refine row_ext' (by rw [modRow_len, addT_len l, adM_len (by rw [modRow_len, l]), modRow_len]) fun k _ => ?_
  rw [modRow_at, addT_at l, adM_at (by rw [modRow_len, l]), modRow_at, em_l]
theorem adM_none (h : 0 < cl) (a : RowOk cl n x) (b : RowOk cl n y) : adM cl cl x y = x := by
  refine row_ext' (adM_len (by rw [a.1, b.1])) fun k _ => ?_
  rw [adM_at (by rw [a.1, b.1]), Int.add_mul_emod_self_left]
  exact em_of (dig_gd a.2 h k)
theorem clr_M (h : 0 < cl) : ∀ {ls : List (Nat × List Int)} {xs : List Int}, LdOk cl n ls → xs.length = n → modRow cl (clr cl ls xs) = clrM cl ls (modRow cl xs)
  | [], xs, _, _ => rfl
  | (a, r) :: ls, xs, o, l => by
    have q := o.head
    show modRow cl (clr cl ls (if xs.getD a 0 % cl ≠ 0 then addT (cl - xs.getD a 0 % cl) xs r else xs)) = clrM cl ls (adM cl (cl - (modRow cl xs).getD a 0) (modRow cl xs) r)
    rw [modRow_at]
    by_cases z : xs.getD a 0 % cl = 0
    · rw [if_neg (fun n => n z), z, Int.sub_zero, adM_none (n := n) h ⟨by rw [modRow_len, l], modRow_dig h _⟩ ⟨q.2.1, q.2.2⟩]
      exact clr_M h o.tail l
    · rw [if_pos z, clr_M h o.tail (by rw [addT_len (by rw [l, q.2.1]), l]), mod_addT (by rw [l, q.2.1])]
theorem left_M (h : 0 < cl) {ls : List (Nat × List Int)} (o : LdOk cl n ls) (a : RowOk cl n x) : leftOf cl ls x = clrM cl ls x := by
  unfold leftOf
  rw [clr_M h o a.1, modRow_self h a.2]
theorem clrM_ok (h : 0 < cl) : ∀ {ls : List (Nat × List Int)} {x : List Int}, LdOk cl n ls → RowOk cl n x → RowOk cl n (clrM cl ls x)
  | [], _, _, a => a
  | (b, r) :: ls, x, o, a => clrM_ok h (ls := ls) o.tail (adM_ok h a o.head.2)
theorem clrM_in (h : 0 < cl) (os : RowsOk cl n ss) : ∀ {ls : List (Nat × List Int)} {x : List Int}, (∀ l ∈ ls, Spn cl n ss l.2) → Spn cl n ss x → Spn cl n ss (clrM cl ls x)
  | [], _, _, a => a
  | l :: ls, x, f, a => clrM_in h os (ls := ls) (fun k m => f k (List.mem_cons_of_mem _ m)) (a.comb h os (f l (List.mem_cons_self ..)) _)
theorem clrM_back (h : 0 < cl) (os : RowsOk cl n ss) : ∀ {ls : List (Nat × List Int)} {x : List Int}, LdOk cl n ls → RowOk cl n x → (∀ l ∈ ls, Spn cl n ss l.2) → Spn cl n ss (clrM cl ls x) → Spn cl n ss x
  | [], _, _, _, _, a => a
  | l :: ls, x, o, ox, f, a => by
    have z := clrM_back h os (ls := ls) (x := adM cl (cl - x.getD l.1 0) x l.2) o.tail (adM_ok h ox o.head.2) (fun k m => f k (List.mem_cons_of_mem _ m)) a
    have w := z.comb h os (f l (List.mem_cons_self ..)) (-(cl - x.getD l.1 0))
    rwa [adM_back h ox o.head.2] at w
/-- rows that lead, each with 1, the later ones 0 where the earlier lead -/
structure LdI (cl : Int) (n : Nat) (ls : List (Nat × List Int)) : Prop where
  ok : LdOk cl n ls
  one : ∀ l ∈ ls, leadOf l.2 = l.1 ∧ l.2.getD l.1 0 = 1
  clr : ls.Pairwise (fun a b => b.2.getD a.1 0 = 0)
theorem clrM_keep (h : 0 < cl) {a : Nat} : ∀ {ls : List (Nat × List Int)} {x : List Int}, LdOk cl n ls → RowOk cl n x → (∀ l ∈ ls, l.2.getD a 0 = 0) → (clrM cl ls x).getD a 0 = x.getD a 0
  | [], _, _, _, _ => rfl
  | l :: ls, x, o, ox, f => by
    show (clrM cl ls (adM cl (cl - x.getD l.1 0) x l.2)).getD a 0 = _
    rw [clrM_keep h o.tail (adM_ok h ox o.head.2) fun k m => f k (List.mem_cons_of_mem _ m), adM_at (by rw [ox.1, o.head.2.1]), f l (List.mem_cons_self ..), Int.mul_zero, Int.add_zero]
    exact em_of (dig_gd ox.2 h a)
theorem LdI.tail {l : Nat × List Int} {ls : List (Nat × List Int)} (i : LdI cl n (l :: ls)) : LdI cl n ls :=
  ⟨i.ok.tail, fun k m => i.one k (List.mem_cons_of_mem _ m), (List.pairwise_cons.mp i.clr).2⟩
theorem LdI.zero (h : 0 < cl) : ∀ {ls : List (Nat × List Int)} {x : List Int}, LdI cl n ls → RowOk cl n x → ∀ l ∈ ls, (clrM cl ls x).getD l.1 0 = 0
  | [], _, _, _, _, m => nomatch m
  | k :: ls, x, i, ox, l, m => by
    obtain ⟨c1, c2⟩ := List.pairwise_cons.mp i.clr
    have oy := adM_ok (t := cl - x.getD k.1 0) h ox i.ok.head.2
    rcases List.mem_cons.mp m with e | m
    · rw [e]
      show (clrM cl ls (adM cl (cl - x.getD k.1 0) x k.2)).getD k.1 0 = 0
      rw [clrM_keep h i.ok.tail oy c1, adM_at (by rw [ox.1, i.ok.head.2.1]), (i.one k (List.mem_cons_self ..)).2, Int.mul_one, show x.getD k.1 0 + (cl - x.getD k.1 0) = cl by omega, Int.emod_self]
    · exact LdI.zero h i.tail oy l m
end
theorem pow_inv : ∀ cl ∈ clocks, ∀ k ∈ List.range (cl - 1).toNat, powF cl (1 + (k : Int)) (cl - 2).toNat * (1 + (k : Int)) % cl = 1 := by decide +kernel
theorem inv_one {cl v : Int} (h : cl ∈ clocks) (h0 : 0 < v) (h1 : v < cl) : powF cl v (cl - 2).toNat * v % cl = 1 := by
  have z := pow_inv cl h (v - 1).toNat (List.mem_range.mpr (by omega))
  rw [show (1 : Int) + ((v - 1).toNat : Int) = v by omega] at z
  exact z
end Rp
namespace Rp
section
variable {cl t u : Int} {n : Nat} {x y r s : List Int} {rs ss : List (List Int)} {ls : List (Nat × List Int)}
/-- the rows alone -/
def rowsL (ls : List (Nat × List Int)) : List (List Int) := ls.map (·.2)
theorem rowsL_ok (o : LdOk cl n ls) : RowsOk cl n (rowsL ls) := fun x m => by
  obtain ⟨l, ml, rfl⟩ := List.mem_map.mp m
  exact (o l ml).2
theorem rowsL_mem {l : Nat × List Int} (m : l ∈ ls) : l.2 ∈ rowsL ls := List.mem_map.mpr ⟨l, m, rfl⟩
theorem clocks_3 {cl : Int} (h : cl ∈ clocks) : 3 ≤ cl ∧ cl ≤ 31 := by
  revert h
  simp only [clocks, List.mem_cons, List.not_mem_nil, or_false]
  omega
theorem timesRow_at (left : List Int) (k : Nat) : (timesRow cl left).getD k 0 = (powF cl (left.getD (leadOf left) 0) (cl - 2).toNat * left.getD k 0) % cl := by
  unfold timesRow
  by_cases hk : k < left.length
  · rw [List.getD_eq_getElem?_getD, List.getElem?_map, gd_lt hk]
    rfl
  · rw [gd_ge (xs := left) (k := k) (by omega), gd_ge (by rw [List.length_map]; omega)]
    simp
theorem timesRow_M (left : List Int) : timesRow cl left = mulM cl (powF cl (left.getD (leadOf left) 0) (cl - 2).toNat) left := rfl
/-- a row that leads, made to have 1 there -/
theorem times_lead (hc : cl ∈ clocks) (o : RowOk cl n x) (h : leadOf x < n) : leadOf (timesRow cl x) = leadOf x ∧ (timesRow cl x).getD (leadOf x) 0 = 1 := by
  have c3 := clocks_3 hc
  have ne := lead_ne (xs := x) (by rw [o.1]; exact h)
  have b := dig_gd o.2 (by omega) (leadOf x)
  have e : (timesRow cl x).getD (leadOf x) 0 = 1 := by
    rw [timesRow_at]
    exact inv_one hc (by omega) b.2
  refine ⟨lead_eq (by rw [e]; decide) fun j hj => ?_, e⟩
  rw [timesRow_at, before_lead hj, Int.mul_zero]
  simp
theorem times_back (hc : cl ∈ clocks) (o : RowOk cl n x) (h : leadOf x < n) : mulM cl (x.getD (leadOf x) 0) (timesRow cl x) = x := by
  have c3 := clocks_3 hc
  have ne := lead_ne (xs := x) (by rw [o.1]; exact h)
  have b := dig_gd o.2 (by omega) (leadOf x)
  have e := inv_one hc (v := x.getD (leadOf x) 0) (by omega) b.2
  refine row_ext' (by unfold mulM; rw [List.length_map]; unfold timesRow; rw [List.length_map]) fun k hk => ?_
  have hk2 : k < (timesRow cl x).length := by unfold mulM at hk; rw [List.length_map] at hk; exact hk
  unfold mulM
  rw [List.getD_eq_getElem?_getD, List.getElem?_map, gd_lt hk2]
  show (x.getD (leadOf x) 0 * (timesRow cl x).getD k 0) % cl = x.getD k 0
  rw [timesRow_at, Int.mul_emod, Int.emod_emod, ← Int.mul_emod, ← Int.mul_assoc, Int.mul_comm (x.getD (leadOf x) 0), Int.mul_emod, e, Int.one_mul, Int.emod_emod]
  exact em_of (dig_gd o.2 (by omega) k)
/-- what leading rows are of given ones -/
structure LdS (cl : Int) (n : Nat) (ls : List (Nat × List Int)) (rs : List (List Int)) : Prop where
  I : LdI cl n ls
  to : ∀ l ∈ ls, Spn cl n rs l.2
  from_ : ∀ r ∈ rs, Spn cl n (rowsL ls) r
theorem putL_new {a : Nat} (h : ∀ l ∈ ls, l.1 ≠ a) : putL ls a r = ls ++ [(a, r)] := by
  unfold putL
  rw [if_neg]
  intro e
  obtain ⟨l, m, q⟩ := List.any_eq_true.mp e
  exact h l m (of_decide_eq_true q)
theorem ld_step (hc : cl ∈ clocks) (S : LdS cl n ls rs) (os : RowsOk cl n rs) (ox : RowOk cl n x) : LdS cl n (ldOne cl n ls x) (rs ++ [x]) := by
  have c3 := clocks_3 hc
  have h0 : 0 < cl := by omega
  have oss : RowsOk cl n (rs ++ [x]) := fun y m => by
    rcases List.mem_append.mp m with m | m
    · exact os y m
    · rw [List.mem_singleton.mp m]; exact ox
  have up : ∀ l ∈ ls, Spn cl n (rs ++ [x]) l.2 := fun l m => (S.to l m).sub fun r mr => List.mem_append_left _ mr
  have xin : Spn cl n (rs ++ [x]) x := .of h0 oss (List.mem_append_right _ (List.mem_singleton.mpr rfl))
  have oL := left_M h0 S.I.ok ox
  have okL : RowOk cl n (leftOf cl ls x) := by rw [oL]; exact clrM_ok h0 S.I.ok ox
  have z : ∀ l ∈ ls, (leftOf cl ls x).getD l.1 0 = 0 := by rw [oL]; exact S.I.zero h0 ox
  have inn : Spn cl n (rs ++ [x]) (leftOf cl ls x) := by rw [oL]; exact clrM_in h0 oss up xin
  rw [ldOne_eq]
  by_cases hl : leadOf (leftOf cl ls x) < n
  · rw [if_pos hl]
    have new : ∀ l ∈ ls, l.1 ≠ leadOf (leftOf cl ls x) := fun l m e => by
      have w := z l m
      rw [e] at w
      exact lead_ne (by rw [okL.1]; exact hl) w
    obtain ⟨t1, t2⟩ := times_lead hc okL hl
    have tok : RowOk cl n (timesRow cl (leftOf cl ls x)) := by
      obtain ⟨a, b⟩ := times_ok (cl := cl) (left := leftOf cl ls x) c3.1
      exact ⟨by rw [a, okL.1], b⟩
    have okn : LdOk cl n (ls ++ [(leadOf (leftOf cl ls x), timesRow cl (leftOf cl ls x))]) := fun l m => by
      rcases List.mem_append.mp m with m | m
      · exact S.I.ok l m
      · rw [List.mem_singleton.mp m]; exact ⟨hl, tok⟩
    rw [putL_new new]
    refine ⟨⟨okn, fun l m => ?_, ?_⟩, fun l m => ?_, fun r m => ?_⟩
    · rcases List.mem_append.mp m with m | m
      · exact S.I.one l m
      · rw [List.mem_singleton.mp m]; exact ⟨t1, t2⟩
    · refine List.pairwise_append.mpr ⟨S.I.clr, List.pairwise_singleton _ _, fun l m k mk => ?_⟩
      rw [List.mem_singleton.mp mk]
      show (timesRow cl (leftOf cl ls x)).getD l.1 0 = 0
      rw [timesRow_at, z l m, Int.mul_zero]
      simp
    · rcases List.mem_append.mp m with m | m
      · exact up l m
      · rw [List.mem_singleton.mp m]
        show Spn cl n (rs ++ [x]) (timesRow cl (leftOf cl ls x))
        rw [timesRow_M]
        exact inn.mul h0 oss _
    · have oN := rowsL_ok okn
      have ol : ∀ l ∈ ls, Spn cl n (rowsL (ls ++ [(leadOf (leftOf cl ls x), timesRow cl (leftOf cl ls x))])) l.2 := fun l m => .of h0 oN (rowsL_mem (List.mem_append_left _ m))
      rcases List.mem_append.mp m with m | m
      · exact (S.from_ r m).sub fun y my => by
          unfold rowsL at my ⊢
          rw [List.map_append]
          exact List.mem_append_left _ my
      · rw [List.mem_singleton.mp m]
        refine clrM_back h0 oN S.I.ok ox ol ?_
        rw [← oL]
        have w := Spn.mul h0 oN (.of h0 oN (rowsL_mem (List.mem_append_right ls (List.mem_singleton.mpr rfl)))) ((leftOf cl ls x).getD (leadOf (leftOf cl ls x)) 0)
        rw [times_back hc okL hl] at w
        exact w
  · rw [if_neg hl]
    have oN := rowsL_ok S.I.ok
    refine ⟨S.I, up, fun r m => ?_⟩
    rcases List.mem_append.mp m with m | m
    · exact S.from_ r m
    · rw [List.mem_singleton.mp m]
      refine clrM_back h0 oN S.I.ok ox (fun l ml => .of h0 oN (rowsL_mem ml)) ?_
      rw [← oL]
      have e : leadOf (leftOf cl ls x) = (leftOf cl ls x).length := by
        have := leadOf_le (leftOf cl ls x)
        rw [okL.1] at this ⊢
        omega
      rw [full_zero e, okL.1]
      exact .zero
theorem ld_fold (hc : cl ∈ clocks) : ∀ {us rs : List (List Int)} {ls : List (Nat × List Int)}, LdS cl n ls rs → RowsOk cl n rs → RowsOk cl n us → LdS cl n (us.foldl (ldOne cl n) ls) (rs ++ us)
  | [], rs, ls, S, _, _ => by rw [List.append_nil]; exact S
  | u :: us, rs, ls, S, o, ou => by
    have w := ld_fold hc (us := us) (ld_step hc S o (ou u (List.mem_cons_self ..))) (fun y m => by
      rcases List.mem_append.mp m with m | m
      · exact o y m
      · rw [List.mem_singleton.mp m]; exact ou u (List.mem_cons_self ..)) fun y m => ou y (List.mem_cons_of_mem _ m)
    rw [List.append_assoc] at w
    exact w
theorem leading_S (hc : cl ∈ clocks) (o : RowsOk cl n rs) : LdS cl n (leading cl n rs) rs := by
  have w := ld_fold hc (us := rs) (rs := []) (ls := []) (cl := cl) (n := n) ⟨⟨(fun _ m => nomatch m), (fun _ m => nomatch m), .nil⟩, (fun _ m => nomatch m), (fun _ m => nomatch m)⟩ (fun _ m => nomatch m) o
  rw [List.nil_append] at w
  exact w
theorem LdI.nodup (i : LdI cl n ls) : (ls.map (·.1)).Nodup := by
  refine List.pairwise_map.mpr (i.clr.imp_of_mem fun {a b} _ mb e e2 => ?_)
  have := (i.one b mb).2
  rw [← e2, e] at this
  cases this
theorem findL_mem {a : Nat} : ∀ {ls : List (Nat × List Int)}, a ∈ ls.map (·.1) → (a, findL ls a) ∈ ls
  | [], m => nomatch m
  | l :: ls, m => by
    by_cases h : l.1 = a
    · have e : findL (l :: ls) a = l.2 := by
        unfold findL
        rw [List.find?_cons_of_pos (by simp [h])]
        rfl
      rw [e, ← h]
      exact List.mem_cons_self ..
    · have m2 : a ∈ ls.map (·.1) := by
        rcases List.mem_cons.mp m with z | z
        · exact absurd z.symm h
        · exact z
      have e : findL (l :: ls) a = findL ls a := by
        unfold findL
        rw [List.find?_cons_of_neg (by simp [h])]
      rw [e]
      exact List.mem_cons_of_mem _ (findL_mem m2)
theorem findL_of {l : Nat × List Int} : ∀ {ls : List (Nat × List Int)}, (ls.map (·.1)).Nodup → l ∈ ls → findL ls l.1 = l.2
  | [], _, m => nomatch m
  | k :: ls, nd, m => by
    obtain ⟨n1, n2⟩ := List.nodup_cons.mp (show (k.1 :: ls.map (·.1)).Nodup from nd)
    rcases List.mem_cons.mp m with e | m
    · subst e
      unfold findL
      rw [List.find?_cons_of_pos (by simp)]
      rfl
    · have ne : k.1 ≠ l.1 := fun e => n1 (by rw [e]; exact List.mem_map.mpr ⟨l, m, rfl⟩)
      have e : findL (k :: ls) l.1 = findL ls l.1 := by
        unfold findL
        rw [List.find?_cons_of_neg (by simp [ne])]
      rw [e]
      exact findL_of n2 m
/-- rows cleared so far: leads descending, each row 0 where the others lead -/
structure BkI (cl : Int) (n : Nat) (ls : List (Nat × List Int)) (cs : List (Nat × List Int)) : Prop where
  I : LdI cl n cs
  to : ∀ l ∈ cs, Spn cl n (rowsL ls) l.2
  from_ : ∀ l ∈ ls, l.1 ∈ cs.map (·.1) → Spn cl n (rowsL cs) l.2
  desc : cs.Pairwise (fun a b => b.1 < a.1)
theorem bk_step {a : Nat} {cs : List (Nat × List Int)} (hc : cl ∈ clocks) (L : LdI cl n ls) (B : BkI cl n ls cs) (ma : a ∈ ls.map (·.1)) (lt : ∀ l ∈ cs, a < l.1) :
    BkI cl n ls (cs ++ [(a, leftOf cl cs (findL ls a))]) ∧ putL cs a (leftOf cl cs (findL ls a)) = cs ++ [(a, leftOf cl cs (findL ls a))] := by
  have c3 := clocks_3 hc
  have h0 : 0 < cl := by omega
  have fm := findL_mem ma
  have ox : RowOk cl n (findL ls a) := (L.ok _ fm).2
  have an : a < n := (L.ok _ fm).1
  have oL := left_M h0 B.I.ok ox
  have okL : RowOk cl n (leftOf cl cs (findL ls a)) := by rw [oL]; exact clrM_ok h0 B.I.ok ox
  have z : ∀ l ∈ cs, (leftOf cl cs (findL ls a)).getD l.1 0 = 0 := by rw [oL]; exact B.I.zero h0 ox
  have low : ∀ k, k ≤ a → ∀ l ∈ cs, l.2.getD k 0 = 0 := fun k hk l m => before_lead (by rw [(B.I.one l m).1]; have := lt l m; omega)
  have keep : ∀ k, k ≤ a → (leftOf cl cs (findL ls a)).getD k 0 = (findL ls a).getD k 0 := fun k hk => by rw [oL]; exact clrM_keep h0 B.I.ok ox (low k hk)
  have one := L.one _ fm
  have e1 : (leftOf cl cs (findL ls a)).getD a 0 = 1 := by rw [keep a (Nat.le_refl _)]; exact one.2
  have e2 : leadOf (leftOf cl cs (findL ls a)) = a := lead_eq (by rw [e1]; decide) fun j hj => by
    rw [keep j (by omega)]
    exact before_lead (by rw [one.1]; exact hj)
  have okn : LdOk cl n (cs ++ [(a, leftOf cl cs (findL ls a))]) := fun l m => by
    rcases List.mem_append.mp m with m | m
    · exact B.I.ok l m
    · rw [List.mem_singleton.mp m]; exact ⟨an, okL⟩
  refine ⟨⟨⟨okn, fun l m => ?_, ?_⟩, fun l m => ?_, fun l m mm => ?_, ?_⟩, putL_new fun l m e => by have := lt l m; omega⟩
  · rcases List.mem_append.mp m with m | m
    · exact B.I.one l m
    · rw [List.mem_singleton.mp m]; exact ⟨e2, e1⟩
  · refine List.pairwise_append.mpr ⟨B.I.clr, List.pairwise_singleton _ _, fun l m k mk => ?_⟩
    rw [List.mem_singleton.mp mk]
    exact z l m
  · rcases List.mem_append.mp m with m | m
    · exact B.to l m
    · rw [List.mem_singleton.mp m]
      show Spn cl n (rowsL ls) (leftOf cl cs (findL ls a))
      rw [oL]
      exact clrM_in h0 (rowsL_ok L.ok) B.to (.of h0 (rowsL_ok L.ok) (rowsL_mem fm))
  · have oN := rowsL_ok okn
    by_cases e : l.1 = a
    · have el : l.2 = findL ls a := by rw [← e]; exact (findL_of L.nodup m).symm
      rw [el]
      refine clrM_back h0 oN B.I.ok ox (fun k mk => .of h0 oN (rowsL_mem (List.mem_append_left _ mk))) ?_
      rw [← oL]
      exact .of h0 oN (rowsL_mem (List.mem_append_right _ (List.mem_singleton.mpr rfl)))
    · have m2 : l.1 ∈ cs.map (·.1) := by
        rw [List.map_append] at mm
        rcases List.mem_append.mp mm with q | q
        · exact q
        · exact absurd (List.mem_singleton.mp q) e
      exact (B.from_ l m m2).sub fun y my => by
        unfold rowsL at my ⊢
        rw [List.map_append]
        exact List.mem_append_left _ my
  · refine List.pairwise_append.mpr ⟨B.desc, List.pairwise_singleton _ _, fun l m k mk => ?_⟩
    rw [List.mem_singleton.mp mk]
    exact lt l m
theorem bk_fold (hc : cl ∈ clocks) (L : LdI cl n ls) : ∀ {as : List Nat} {cs : List (Nat × List Int)}, BkI cl n ls cs → (∀ a ∈ as, a ∈ ls.map (·.1)) → as.Pairwise (fun a b => b < a) → (∀ a ∈ as, ∀ l ∈ cs, a < l.1) →
    ∃ cs', as.foldl (backOne cl ls) (cs, rowsL cs) = (cs', rowsL cs') ∧ BkI cl n ls cs' ∧ cs'.map (·.1) = cs.map (·.1) ++ as
  | [], cs, B, _, _, _ => ⟨cs, rfl, B, by rw [List.append_nil]⟩
  | a :: as, cs, B, m, d, lt => by
    obtain ⟨d1, d2⟩ := List.pairwise_cons.mp d
    obtain ⟨B2, e2⟩ := bk_step hc L B (m a (List.mem_cons_self ..)) (lt a (List.mem_cons_self ..))
    obtain ⟨cs', h1, h2, h3⟩ := bk_fold hc L (as := as) B2 (fun b mb => m b (List.mem_cons_of_mem _ mb)) d2 fun b mb l ml => by
      rcases List.mem_append.mp ml with ml | ml
      · exact lt b (List.mem_cons_of_mem _ mb) l ml
      · rw [List.mem_singleton.mp ml]; exact d1 b mb
    refine ⟨cs', ?_, h2, ?_⟩
    · rw [List.foldl_cons, backOne_row, e2]
      have e : rowsL cs ++ [leftOf cl cs (findL ls a)] = rowsL (cs ++ [(a, leftOf cl cs (findL ls a))]) := by unfold rowsL; rw [List.map_append]; rfl
      show as.foldl (backOne cl ls) (_, rowsL cs ++ [leftOf cl cs (findL ls a)]) = _
      rw [e]
      exact h1
    · rw [h3, List.map_append, List.append_assoc]
      rfl
theorem desc_strict {as : List Nat} (h : as.Pairwise (· ≥ ·)) (nd : as.Nodup) : as.Pairwise (fun a b => b < a) :=
  (h.and nd).imp fun {a b} w => by
    have h1 : b ≤ a := w.1
    have h2 : a ≠ b := w.2
    omega
/-- the program's least form is one, of the same space -/
theorem least_ok (hc : cl ∈ clocks) (o : RowsOk cl n rs) : LF cl n (leastForm cl n rs) ∧ (∀ r ∈ leastForm cl n rs, Spn cl n rs r) ∧ ∀ r ∈ rs, Spn cl n (leastForm cl n rs) r := by
  have c3 := clocks_3 hc
  have h0 : 0 < cl := by omega
  have S := leading_S hc o
  have pm := descend_perm ((leading cl n rs).map (·.1))
  have nd : (descend ((leading cl n rs).map (·.1))).Nodup := pm.nodup_iff.mpr S.I.nodup
  obtain ⟨cs, h1, B, h3⟩ := bk_fold hc S.I (as := descend ((leading cl n rs).map (·.1))) (cs := []) ⟨⟨(fun _ m => nomatch m), (fun _ m => nomatch m), .nil⟩, (fun _ m => nomatch m), (fun _ _ m => nomatch m), .nil⟩
    (fun a m => pm.mem_iff.mp m) (desc_strict (descend_desc _) nd) fun _ _ _ m => nomatch m
  have e : leastForm cl n rs = (rowsL cs).reverse := by
    unfold leastForm
    show ((descend ((leading cl n rs).map (·.1))).foldl (backOne cl (leading cl n rs)) ([], rowsL [])).2.reverse = _
    rw [h1]
  have oC := rowsL_ok B.I.ok
  have key : ∀ l ∈ cs, ∀ k ∈ cs, l.1 ≠ k.1 → k.2.getD l.1 0 = 0 := by
    have aux : ∀ {qs : List (Nat × List Int)}, (∀ l ∈ qs, leadOf l.2 = l.1) → qs.Pairwise (fun a b => b.2.getD a.1 0 = 0) → qs.Pairwise (fun a b => b.1 < a.1) → ∀ l ∈ qs, ∀ k ∈ qs, l.1 ≠ k.1 → k.2.getD l.1 0 = 0 := by
      intro qs
      induction qs with
      | nil => intro _ _ _ l m; cases m
      | cons q qs ih =>
        intro f c d l ml k mk ne
        obtain ⟨c1, c2⟩ := List.pairwise_cons.mp c
        obtain ⟨d1, d2⟩ := List.pairwise_cons.mp d
        rcases List.mem_cons.mp ml with el | ml' <;> rcases List.mem_cons.mp mk with ek | mk'
        · rw [el, ek] at ne; exact absurd rfl ne
        · rw [el]; exact c1 k mk'
        · rw [ek]
          refine before_lead ?_
          rw [f q (List.mem_cons_self ..)]
          exact d1 l ml'
        · exact ih (fun l m => f l (List.mem_cons_of_mem _ m)) c2 d2 l ml' k mk' ne
    exact aux (fun l m => (B.I.one l m).1) B.I.clr B.desc
  have mem : ∀ r, r ∈ leastForm cl n rs ↔ r ∈ rowsL cs := fun r => by rw [e]; exact List.mem_reverse
  refine ⟨⟨fun r m => oC r ((mem r).mp m), fun r m => ?_, ?_, fun r m s ms ne => ?_⟩, fun r m => ?_, fun r m => ?_⟩
  · obtain ⟨l, ml, rfl⟩ := List.mem_map.mp ((mem r).mp m)
    obtain ⟨o1, o2⟩ := B.I.one l ml
    rw [o1]
    exact ⟨(B.I.ok l ml).1, o2⟩
  · rw [e]
    refine List.pairwise_reverse.mpr (List.pairwise_map.mpr (B.desc.imp_of_mem fun {a b} ma mb h => ?_))
    rw [(B.I.one a ma).1, (B.I.one b mb).1]
    exact h
  · obtain ⟨l, ml, rfl⟩ := List.mem_map.mp ((mem r).mp m)
    obtain ⟨k, mk, rfl⟩ := List.mem_map.mp ((mem s).mp ms)
    rw [(B.I.one l ml).1]
    refine key l ml k mk fun eq => ne ?_
    have a := findL_of B.I.nodup ml
    have b := findL_of B.I.nodup mk
    rw [← a, ← b, eq]
  · obtain ⟨l, ml, rfl⟩ := List.mem_map.mp ((mem r).mp m)
    exact (B.to l ml).mono h0 (rowsL_ok S.I.ok) o fun s ms => by
      obtain ⟨k, mk, rfl⟩ := List.mem_map.mp ms
      exact S.to k mk
  · have oF : RowsOk cl n (leastForm cl n rs) := fun r m => oC r ((mem r).mp m)
    refine (S.from_ r m).mono h0 (rowsL_ok S.I.ok) oF fun s ms => ?_
    obtain ⟨k, mk, rfl⟩ := List.mem_map.mp ms
    refine (B.from_ k mk ?_).sub fun y my => (mem y).mpr my
    rw [h3]
    exact List.mem_append_right _ (pm.mem_iff.mpr (List.mem_map.mpr ⟨k, mk, rfl⟩))
/-- any least form of the same space is the program's -/
theorem least_is {ms : List (List Int)} (hc : cl ∈ clocks) (o : RowsOk cl n rs) (g : LF cl n ms) (f1 : ∀ r ∈ ms, Spn cl n rs r) (f2 : ∀ r ∈ rs, Spn cl n ms r) : leastForm cl n rs = ms := by
  have c3 := clocks_3 hc
  have h0 : 0 < cl := by omega
  obtain ⟨h, a, b⟩ := least_ok hc o
  exact h.one h0 g (fun r m => (a r m).mono h0 o g.ok f2) fun r m => (f1 r m).mono h0 o h.ok b
/-- two lists of rows give one space -/
theorem least_same (hc : cl ∈ clocks) (o : RowsOk cl n rs) (o2 : RowsOk cl n ss) (f1 : ∀ r ∈ rs, Spn cl n ss r) (f2 : ∀ r ∈ ss, Spn cl n rs r) : leastForm cl n rs = leastForm cl n ss := by
  have c3 := clocks_3 hc
  have h0 : 0 < cl := by omega
  obtain ⟨h, a, b⟩ := least_ok hc o2
  exact least_is hc o h (fun r m => (a r m).mono h0 o2 o f2) fun r m => (f1 r m).mono h0 o2 h.ok b
end
end Rp
namespace Rp
/-! ### a law's own clearing, column by column -/
section
variable {cl t u b : Int} {n c s : Nat} {x y r first : List Int} {rs ss left found : List (List Int)}
def lessR (cl : Int) (c : Nat) (lead row : List Int) : List Int := adM cl (-(row.getD c 0)) row lead
structure OwI (cl : Int) (n c : Nat) (rs left found : List (List Int)) : Prop where
  okL : RowsOk cl n left
  zl : ∀ r ∈ left, ∀ k, k < c → r.getD k 0 = 0
  lf : LF cl n found
  lt : ∀ r ∈ found, leadOf r < c
  to : ∀ r ∈ left ++ found, Spn cl n rs r
  from_ : ∀ r ∈ rs, Spn cl n (left ++ found) r
theorem LF.nil : LF cl n [] := ⟨(fun _ m => nomatch m), (fun _ m => nomatch m), .nil, (fun _ m => nomatch m)⟩
theorem own_start (h : 0 < cl) (o : RowsOk cl n rs) : OwI cl n 0 rs rs [] :=
  ⟨o, (fun _ _ k hk => by omega), .nil, (fun _ m => nomatch m), (fun r m => by rw [List.append_nil] at m; exact .of h o m), fun r m => by rw [List.append_nil]; exact .of h o m⟩
theorem own_none (I : OwI cl n c rs left found) (z : ∀ r ∈ left, r.getD c 0 = 0) : OwI cl n (c + 1) rs left found :=
  ⟨I.okL, (fun r m k hk => by
    by_cases e : k = c
    · rw [e]; exact z r m
    · exact I.zl r m k (by omega)), I.lf, (fun r m => by have := I.lt r m; omega), I.to, I.from_⟩
theorem mem_erase {α : Type} {x : α} : ∀ {l : List α} {s : Nat} {y : α}, l[s]? = some x → y ∈ l → y = x ∨ y ∈ l.eraseIdx s
  | [], _, _, e, _ => by cases e
  | a :: l, 0, y, e, m => by
    cases e
    rcases List.mem_cons.mp m with e | m
    · exact .inl e
    · exact .inr m
  | a :: l, s + 1, y, e, m => by
    rcases List.mem_cons.mp m with e2 | m
    · exact .inr (by rw [e2]; exact List.mem_cons_self ..)
    · rcases mem_erase (s := s) e m with z | z
      · exact .inl z
      · exact .inr (List.mem_cons_of_mem _ z)
theorem erase_mem {α : Type} {y : α} {l : List α} {s : Nat} (m : y ∈ l.eraseIdx s) : y ∈ l := List.mem_of_mem_eraseIdx m
theorem mulM_at (k : Nat) : (mulM cl t x).getD k 0 = (t * x.getD k 0) % cl := by
  unfold mulM
  by_cases hk : k < x.length
  · rw [List.getD_eq_getElem?_getD, List.getElem?_map, gd_lt hk]
    rfl
  · rw [gd_ge (xs := x) (by omega), gd_ge (by rw [List.length_map]; omega)]
    simp
theorem mulM_len : (mulM cl t x).length = x.length := List.length_map ..
theorem mulM_ok (h : 0 < cl) (o : RowOk cl n x) : RowOk cl n (mulM cl t x) := ⟨by rw [mulM_len, o.1], fun y m => by
  unfold mulM at m
  obtain ⟨z, _, rfl⟩ := List.mem_map.mp m
  exact ⟨Int.emod_nonneg _ (by omega), Int.emod_lt_of_pos _ h⟩⟩
theorem mul_back (h : 0 < cl) (o : RowOk cl n x) (e : (b * u) % cl = 1) : mulM cl u (mulM cl b x) = x := by
  refine row_ext' (by rw [mulM_len, mulM_len]) fun k _ => ?_
  rw [mulM_at, mulM_at, Int.mul_emod, Int.emod_emod, ← Int.mul_emod, ← Int.mul_assoc, Int.mul_comm u, Int.mul_emod, e, Int.one_mul, Int.emod_emod]
  exact em_of (dig_gd o.2 h k)
theorem own_step (h1 : 1 < cl) (I : OwI cl n c rs left found) (os : RowsOk cl n rs) (cn : c < n) (e : left[s]? = some first) (e1 : (b * first.getD c 0) % cl = 1) :
    OwI cl n (c + 1) rs ((left.eraseIdx s).map (lessR cl c (mulM cl b first))) (found.map (lessR cl c (mulM cl b first)) ++ [mulM cl b first]) := by
  have h0 : 0 < cl := by omega
  have mf : first ∈ left := List.mem_of_getElem? e
  have of_ := I.okL first mf
  obtain ⟨lead, el⟩ : ∃ l, l = mulM cl b first := ⟨_, rfl⟩
  have ol : RowOk cl n lead := by rw [el]; exact mulM_ok h0 of_
  have lz : ∀ k, k < c → lead.getD k 0 = 0 := fun k hk => by rw [el, mulM_at, I.zl first mf k hk, Int.mul_zero]; simp
  have l1 : lead.getD c 0 = 1 := by rw [el, mulM_at]; exact e1
  have ll : leadOf lead = c := lead_eq (by rw [l1]; decide) lz
  rw [← el]
  have at_ : ∀ {y : List Int}, RowOk cl n y → ∀ k, (lessR cl c lead y).getD k 0 = (y.getD k 0 + -(y.getD c 0) * lead.getD k 0) % cl := fun {y} oy k => adM_at (by rw [oy.1, ol.1]) k
  have low : ∀ {y : List Int}, RowOk cl n y → ∀ k, k < c → (lessR cl c lead y).getD k 0 = y.getD k 0 := fun {y} oy k hk => by
    rw [at_ oy, lz k hk, Int.mul_zero, Int.add_zero]
    exact em_of (dig_gd oy.2 h0 k)
  have atc : ∀ {y : List Int}, RowOk cl n y → (lessR cl c lead y).getD c 0 = 0 := fun {y} oy => by
    rw [at_ oy, l1, Int.mul_one, show y.getD c 0 + -(y.getD c 0) = 0 by omega]
    simp
  have okr : ∀ {y : List Int}, RowOk cl n y → RowOk cl n (lessR cl c lead y) := fun {y} oy => adM_ok h0 oy ol
  have fl : ∀ f ∈ found, leadOf (lessR cl c lead f) = leadOf f := fun f m => by
    have lt := I.lt f m
    refine lead_eq (by rw [low (I.lf.ok f m) _ lt, (I.lf.lead f m).2]; decide) fun j hj => ?_
    rw [low (I.lf.ok f m) j (by omega)]
    exact before_lead hj
  have inn : Spn cl n rs lead := by
    rw [el]
    exact (I.to first (List.mem_append_left _ mf)).mul h0 os b
  have oN : RowsOk cl n ((left.eraseIdx s).map (lessR cl c lead) ++ (found.map (lessR cl c lead) ++ [lead])) := fun z m => by
    rcases List.mem_append.mp m with m | m
    · obtain ⟨y, my, rfl⟩ := List.mem_map.mp m
      exact okr (I.okL y (erase_mem my))
    · rcases List.mem_append.mp m with m | m
      · obtain ⟨y, my, rfl⟩ := List.mem_map.mp m
        exact okr (I.lf.ok y my)
      · rw [List.mem_singleton.mp m]; exact ol
  have lin : Spn cl n ((left.eraseIdx s).map (lessR cl c lead) ++ (found.map (lessR cl c lead) ++ [lead])) lead := .of h0 oN (List.mem_append_right _ (List.mem_append_right _ (List.mem_singleton.mpr rfl)))
  have bk : ∀ {y : List Int}, RowOk cl n y → Spn cl n ((left.eraseIdx s).map (lessR cl c lead) ++ (found.map (lessR cl c lead) ++ [lead])) (lessR cl c lead y) → Spn cl n ((left.eraseIdx s).map (lessR cl c lead) ++ (found.map (lessR cl c lead) ++ [lead])) y := fun {y} oy a => by
    have w := a.comb h0 oN lin (-(-(y.getD c 0)))
    rwa [show adM cl (-(-(y.getD c 0))) (lessR cl c lead y) lead = y from adM_back h0 oy ol] at w
  refine ⟨fun z m => oN z (List.mem_append_left _ m), fun z m k hk => ?_, ⟨fun z m => oN z (List.mem_append_right _ m), fun z m => ?_, ?_, fun z m w mw ne => ?_⟩, fun z m => ?_, fun z m => ?_, fun z m => ?_⟩
  · obtain ⟨y, my, rfl⟩ := List.mem_map.mp m
    have oy := I.okL y (erase_mem my)
    by_cases ek : k = c
    · rw [ek]; exact atc oy
    · rw [low oy k (by omega)]
      exact I.zl y (erase_mem my) k (by omega)
  · rcases List.mem_append.mp m with m | m
    · obtain ⟨f, mf2, rfl⟩ := List.mem_map.mp m
      have lt := I.lt f mf2
      rw [fl f mf2]
      exact ⟨by omega, by rw [low (I.lf.ok f mf2) _ lt]; exact (I.lf.lead f mf2).2⟩
    · rw [List.mem_singleton.mp m, ll]
      exact ⟨cn, l1⟩
  · refine List.pairwise_append.mpr ⟨List.pairwise_map.mpr (I.lf.asc.imp_of_mem fun {p q} mp mq h => by rw [fl p mp, fl q mq]; exact h), List.pairwise_singleton _ _, fun z m w mw => ?_⟩
    obtain ⟨f, mf2, rfl⟩ := List.mem_map.mp m
    rw [List.mem_singleton.mp mw, ll, fl f mf2]
    exact I.lt f mf2
  · rcases List.mem_append.mp m with m | m
    · obtain ⟨f, mf2, rfl⟩ := List.mem_map.mp m
      have lt := I.lt f mf2
      rw [fl f mf2]
      rcases List.mem_append.mp mw with mw | mw
      · obtain ⟨g, mg, rfl⟩ := List.mem_map.mp mw
        rw [low (I.lf.ok g mg) _ lt]
        exact I.lf.clr f mf2 g mg fun eq => ne (by rw [eq])
      · rw [List.mem_singleton.mp mw]
        exact lz _ lt
    · have ez := List.mem_singleton.mp m
      rw [ez, ll]
      rcases List.mem_append.mp mw with mw | mw
      · obtain ⟨g, mg, rfl⟩ := List.mem_map.mp mw
        exact atc (I.lf.ok g mg)
      · exact absurd (ez.trans (List.mem_singleton.mp mw).symm) ne
  · rcases List.mem_append.mp m with m | m
    · obtain ⟨f, mf2, rfl⟩ := List.mem_map.mp m
      have := I.lt f mf2
      rw [fl f mf2]
      omega
    · rw [List.mem_singleton.mp m, ll]
      omega
  · have cases_ : (∃ y, RowOk cl n y ∧ Spn cl n rs y ∧ z = lessR cl c lead y) ∨ z = lead := by
      rcases List.mem_append.mp m with m | m
      · obtain ⟨y, my, rfl⟩ := List.mem_map.mp m
        exact .inl ⟨y, I.okL y (erase_mem my), I.to y (List.mem_append_left _ (erase_mem my)), rfl⟩
      · rcases List.mem_append.mp m with m | m
        · obtain ⟨y, my, rfl⟩ := List.mem_map.mp m
          exact .inl ⟨y, I.lf.ok y my, I.to y (List.mem_append_right _ my), rfl⟩
        · exact .inr (List.mem_singleton.mp m)
    rcases cases_ with ⟨y, oy, sy, rfl⟩ | rfl
    · exact sy.comb h0 os inn _
    · exact inn
  · refine (I.from_ z m).mono h0 (fun w mw => ?_) oN fun w mw => ?_
    · rcases List.mem_append.mp mw with mw | mw
      · exact I.okL w mw
      · exact I.lf.ok w mw
    · rcases List.mem_append.mp mw with mw | mw
      · rcases mem_erase e mw with eq | me
        · rw [eq, ← mul_back h0 of_ e1, ← el]
          exact lin.mul h0 oN _
        · exact bk (I.okL w mw) (.of h0 oN (List.mem_append_left _ (List.mem_map.mpr ⟨w, me, rfl⟩)))
      · exact bk (I.lf.ok w mw) (.of h0 oN (List.mem_append_right _ (List.mem_append_left _ (List.mem_map.mpr ⟨w, mw, rfl⟩))))
theorem own_end (hc : cl ∈ clocks) (I : OwI cl n n rs left found) (os : RowsOk cl n rs) : leastForm cl n rs = found := by
  have c3 := clocks_3 hc
  have h0 : 0 < cl := by omega
  refine least_is hc os I.lf (fun r m => I.to r (List.mem_append_right _ m)) fun r m => ?_
  refine (I.from_ r m).mono h0 (fun w mw => ?_) I.lf.ok fun w mw => ?_
  · rcases List.mem_append.mp mw with mw | mw
    · exact I.okL w mw
    · exact I.lf.ok w mw
  · rcases List.mem_append.mp mw with mw | mw
    · have ow := I.okL w mw
      have e : w = zeroR n := row_ext' (by rw [ow.1]; exact (List.length_replicate ..).symm) fun k hk => by
        rw [zeroR_at]
        exact I.zl w mw k (by rw [← ow.1]; exact hk)
      rw [e]
      exact .zero
    · exact .of h0 I.lf.ok mw
/-- no rows, no row in the least form -/
theorem least_nil (hc : cl ∈ clocks) : leastForm cl n [] = [] := least_is hc (fun _ m => nomatch m) .nil (fun _ m => nomatch m) fun _ m => nomatch m
end
end Rp
namespace Rp
open PySem PySem.Spec PyProof.Rows L2 LamX RZ
/-! ### comprehensions: each item gives a value of which R tells -/
section
variable {J : It} {n : Nat} {G : Hp → Prop} {Y : Nat → Hp → V → Hp → Prop} {g : TG} {te : TE} {vs : List Nat} {σ : L2.St} {H1 : Hp} {D : Addr} {Qd : Hp → Prop}
/-- what is put behind the list at D -/
theorem put_but {H : Hp} {o : HO} : ∀ b u, b ≠ D → H b = some u → upd H D o b = some u := fun b u nb e => by rw [upd_ne nb]; exact e
/-- nothing but new objects -/
theorem lc_new (W : Walk J n G Y) (R : Nat → V → Hp → Prop) (stab : ∀ i y H H', (∀ b o, b ≠ D → H b = some o → H' b = some o) → R i y H → R i y H') (hG : ∀ H, Same H1 H → G H) (hD : H1 D = none) (hn : n < sizeLine)
    (step : ∀ i x H H', i < n → Same H1 H → (∃ xs, H D = some (.lst xs)) → Y i H x H' → ∀ Qn : VK, (∀ y H4, Same H H4 → R i y H4 → Qn y H4) → g x (wipe σ vs) H' fun σ2 H2 => wipe σ2 vs = wipe σ vs ∧ te σ2 H2 Qn)
    (done : ∀ H ys, Same H1 H → H D = some (.lst ys) → ys.length = n → (∀ i y, ys[i]? = some y → R i y H) → Qd H) :
    ∃ W : Nat → Nat → Hp → Prop, (∃ m, W 0 m (upd H1 D (.lst []))) ∧ ∀ (i m : Nat) (H : Hp), W i m H → J.stop i H ∧ Qd H ∨ J.go i H ∧ ∃ Nx : Hp → Prop, (∀ H', Nx H' → ∃ m', m' < m ∧ W (i + 1) m' H') ∧
      ∀ (x : V) (H' : Hp), J.yld i H x H' → g x (wipe σ vs) H' fun σ2 H2 => wipe σ2 vs = wipe σ vs ∧ tYes σ2 H2 fun b H3 => if b = true then te σ2 H3 fun y H4 => ∃ acc, H4 D = some (.lst acc) ∧ acc.length < sizeLine ∧ Nx (upd H4 D (.lst (acc ++ [y]))) else Nx H3 := by
  refine lc_it W (tt := tYes) (fun i H => Same H1 H ∧ ∃ ys, H D = some (.lst ys) ∧ ys.length = i ∧ ∀ j y, ys[j]? = some y → R j y H) ⟨same_neu (Same.refl _) hD, [], upd_same, rfl, fun j y e => by simp at e⟩ (fun i H _ h => hG H h.1) ?_ ?_
  · rintro i x H H' hi ⟨s, ys, eD, ly, hy⟩ hY
    refine step i x H H' hi s ⟨_, eD⟩ hY _ fun y H4 s4 ry => ?_
    have e4 := s4 _ _ eD
    refine ⟨ys, e4, by omega, fun b o e => ?_, ys ++ [y], upd_same, by rw [List.length_append, ly]; rfl, fun j z ej => ?_⟩
    · rw [upd_ne (ne_of_none e hD)]
      exact s4 b o (s b o e)
    · by_cases hj : j < ys.length
      · rw [List.getElem?_append_left hj] at ej
        exact stab _ _ _ _ put_but (stab _ _ H H4 (fun b o _ e => s4 b o e) (hy j z ej))
      · rw [List.getElem?_append_right (by omega)] at ej
        have : j = i := by
          have := (List.getElem?_eq_some_iff.mp ej).1
          simp at this
          omega
        subst this
        rw [show j - ys.length = 0 by omega] at ej
        have e := Option.some.inj ej
        rw [← e]
        exact stab _ _ _ _ put_but ry
  · rintro H ⟨s, ys, eD, ly, hy⟩
    exact done H ys s eD ly hy
/-- items that draw, m times at most each -/
theorem lc_drw {q c : Addr} {ns : List Int} {lap m : Nat} (W : Walk J n G Y) (R : Nat → V → Hp → Prop) (stab : ∀ i y H H', (∀ b o, b ≠ q → b ≠ D → H b = some o → H' b = some o) → R i y H → R i y H') (hG : ∀ H, But q H1 H → G H) (hD : H1 D = none) (hn : n < sizeLine)
    (Dr1 : Dr q c ns lap H1)
    (step : ∀ i x H H' l, i < n → But q H1 H → D ≠ q → (∃ xs, H D = some (.lst xs)) → l ≤ lap + m * i → Dr q c ns l H → Y i H x H' → ∀ Qn : VK, (∀ y H4 l', l' ≤ l + m → Dr q c ns l' H4 → But q H H4 → R i y H4 → Qn y H4) → g x (wipe σ vs) H' fun σ2 H2 => wipe σ2 vs = wipe σ vs ∧ te σ2 H2 Qn)
    (done : ∀ H ys l, l ≤ lap + m * n → Dr q c ns l H → But q H1 H → D ≠ q → H D = some (.lst ys) → ys.length = n → (∀ i y, ys[i]? = some y → R i y H) → Qd H) :
    ∃ W : Nat → Nat → Hp → Prop, (∃ m, W 0 m (upd H1 D (.lst []))) ∧ ∀ (i m : Nat) (H : Hp), W i m H → J.stop i H ∧ Qd H ∨ J.go i H ∧ ∃ Nx : Hp → Prop, (∀ H', Nx H' → ∃ m', m' < m ∧ W (i + 1) m' H') ∧
      ∀ (x : V) (H' : Hp), J.yld i H x H' → g x (wipe σ vs) H' fun σ2 H2 => wipe σ2 vs = wipe σ vs ∧ tYes σ2 H2 fun b H3 => if b = true then te σ2 H3 fun y H4 => ∃ acc, H4 D = some (.lst acc) ∧ acc.length < sizeLine ∧ Nx (upd H4 D (.lst (acc ++ [y]))) else Nx H3 := by
  have nDq : D ≠ q := dr_neq Dr1 hD
  have nDc : D ≠ c := (ne_of_none Dr1.cells hD).symm
  refine lc_it W (tt := tYes) (fun i H => But q H1 H ∧ ∃ ys l, l ≤ lap + m * i ∧ Dr q c ns l H ∧ H D = some (.lst ys) ∧ ys.length = i ∧ ∀ j y, ys[j]? = some y → R j y H) ⟨(But.refl q H1).neu hD, [], lap, Nat.le_refl _, Dr1.neu hD, upd_same, rfl, fun j y e => by simp at e⟩ (fun i H _ h => hG H h.1) ?_ ?_
  · rintro i x H H' hi ⟨s, ys, l, hl, dr, eD, ly, hy⟩ hY
    refine step i x H H' l hi s nDq ⟨_, eD⟩ hl dr hY _ fun y H4 l' hl' dr' b4 ry => ?_
    have e4 := b4 _ _ nDq eD
    have sk : ∀ {H5 H6 : Hp}, (∀ b o, b ≠ D → H5 b = some o → H6 b = some o) → ∀ b o, b ≠ q → b ≠ D → H5 b = some o → H6 b = some o := fun f b o _ nd e => f b o nd e
    refine ⟨ys, e4, by omega, fun b o nb e => ?_, ys ++ [y], l', by rw [Nat.mul_succ]; omega, ?_, upd_same, by rw [List.length_append, ly]; rfl, fun j z ej => ?_⟩
    · rw [upd_ne (ne_of_none e hD)]
      exact b4 b o nb (s b o nb e)
    · obtain ⟨ne, ⟨rest, hb⟩, hc, hlen⟩ := dr'
      exact ⟨ne, ⟨rest, by rw [upd_ne nDq.symm]; exact hb⟩, by rw [upd_ne nDc.symm]; exact hc, hlen⟩
    · by_cases hj : j < ys.length
      · rw [List.getElem?_append_left hj] at ej
        exact stab _ _ _ _ (sk put_but) (stab _ _ H H4 (fun b o nq _ e => b4 b o nq e) (hy j z ej))
      · rw [List.getElem?_append_right (by omega)] at ej
        have : j = i := by
          have := (List.getElem?_eq_some_iff.mp ej).1
          simp at this
          omega
        subst this
        rw [show j - ys.length = 0 by omega] at ej
        have e := Option.some.inj ej
        rw [← e]
        exact stab _ _ _ _ (sk put_but) ry
  · rintro H ⟨s, ys, l, hl, dr, eD, ly, hy⟩
    exact done H ys l hl dr s nDq eD ly hy
end
/-- values that are ints -/
theorem ints_vals {P : Nat → Int → Prop} : ∀ {ys : List V}, (∀ i y, ys[i]? = some y → ∃ v : Int, y = .int v ∧ P i v) → ∃ xs : List Int, ys = xs.map V.int ∧ ∀ i v, xs[i]? = some v → P i v
  | [], _ => ⟨[], rfl, fun i v e => by simp at e⟩
  | y :: ys, h => by
    obtain ⟨v, rfl, pv⟩ := h 0 y rfl
    obtain ⟨xs, rfl, hx⟩ := ints_vals (P := fun i => P (i + 1)) fun i y e => h (i + 1) y e
    exact ⟨v :: xs, rfl, fun i w e => by
      cases i with
      | zero => cases e; exact pv
      | succ i => exact hx i w e⟩
/-- values that are rows -/
theorem rows_vals {P : Nat → Addr → List Int → Prop} : ∀ {ys : List V}, (∀ i y, ys[i]? = some y → ∃ a xs, y = .ref a ∧ P i a xs) → ∃ (as : List Addr) (rs : List (List Int)), ys = as.map V.ref ∧ as.length = rs.length ∧ ∀ (i : Nat) a xs, as[i]? = some a → rs[i]? = some xs → P i a xs
  | [], _ => ⟨[], [], rfl, rfl, fun i v _ e => by simp at e⟩
  | y :: ys, h => by
    obtain ⟨a, xs, rfl, pv⟩ := h 0 y rfl
    obtain ⟨as, rs, rfl, l, hx⟩ := rows_vals (P := fun i => P (i + 1)) fun i y e => h (i + 1) y e
    exact ⟨a :: as, xs :: rs, rfl, by rw [List.length_cons, List.length_cons, l], fun i b zs e1 e2 => by
      cases i with
      | zero => cases e1; cases e2; exact pv
      | succ i => exact hx i b zs e1 e2⟩
/-- rows, each a list, off q -/
def LstRw (q : Addr) (H : Hp) (as : List Addr) (rs : List (List Int)) : Prop := as.length = rs.length ∧ ∀ (i : Nat) (a : Addr) (xs : List Int), as[i]? = some a → rs[i]? = some xs → a ≠ q ∧ H a = some (.lst (xs.map V.int))
def TupRw (H : Hp) (as : List Addr) (rs : List (List Int)) : Prop := as.length = rs.length ∧ ∀ (i : Nat) (a : Addr) (xs : List Int), as[i]? = some a → rs[i]? = some xs → H a = some (.tup (xs.map V.int))
section
variable {K : PySem.W.Frag} {q D : Addr} {H H' : Hp} {as : List Addr} {rs : List (List Int)}
theorem LstRw.but (h : LstRw q H as rs) (b : ∀ b o, b ≠ q → H b = some o → H' b = some o) : LstRw q H' as rs := ⟨h.1, fun i a xs e1 e2 => ⟨(h.2 i a xs e1 e2).1, b _ _ (h.2 i a xs e1 e2).1 (h.2 i a xs e1 e2).2⟩⟩
theorem LstRw.same (h : LstRw q H as rs) (s : Same H H') : LstRw q H' as rs := h.but fun b o _ e => s b o e
theorem TupRw.same (h : TupRw H as rs) (s : Same H H') : TupRw H' as rs := ⟨h.1, fun i a xs e1 e2 => s _ _ (h.2 i a xs e1 e2)⟩
theorem TupRw.at (h : TupRw H as rs) {i : Nat} {a : Addr} (e : as[i]? = some a) : ∃ xs, rs[i]? = some xs ∧ H a = some (.tup (xs.map V.int)) := by
  have hi : i < rs.length := by rw [← h.1]; exact (List.getElem?_eq_some_iff.mp e).1
  exact ⟨rs[i], List.getElem?_eq_getElem hi, h.2 i a _ e (List.getElem?_eq_getElem hi)⟩
theorem LstRw.at (h : LstRw q H as rs) {i : Nat} {a : Addr} (e : as[i]? = some a) : ∃ xs, rs[i]? = some xs ∧ a ≠ q ∧ H a = some (.lst (xs.map V.int)) := by
  have hi : i < rs.length := by rw [← h.1]; exact (List.getElem?_eq_some_iff.mp e).1
  exact ⟨rs[i], List.getElem?_eq_getElem hi, h.2 i a _ e (List.getElem?_eq_getElem hi)⟩
theorem TupRw.keep (h : TupRw H as rs) (k : ∀ b xs, H b = some (.tup xs) → H' b = some (.tup xs)) : TupRw H' as rs := ⟨h.1, fun i a xs e1 e2 => k _ _ (h.2 i a xs e1 e2)⟩
theorem LstRw.rows (h : LstRw q H as rs) : RowsOf K H (as.map V.ref) rs := by
  induction as generalizing rs with
  | nil =>
    cases rs with
    | nil => exact .nil
    | cons _ _ => cases h.1
  | cons a as ih =>
    cases rs with
    | nil => cases h.1
    | cons xs rs => exact .cons (.inl (SqL.of (h.2 0 a xs rfl rfl).2)) (ih ⟨by simpa using h.1, fun i b ys e1 e2 => h.2 (i + 1) b ys e1 e2⟩)
theorem TupRw.rows (h : TupRw H as rs) : RowsOf K H (as.map V.ref) rs := by
  induction as generalizing rs with
  | nil =>
    cases rs with
    | nil => exact .nil
    | cons _ _ => cases h.1
  | cons a as ih =>
    cases rs with
    | nil => cases h.1
    | cons xs rs => exact .cons (.inr (SqT.of (h.2 0 a xs rfl rfl))) (ih ⟨by simpa using h.1, fun i b ys e1 e2 => h.2 (i + 1) b ys e1 e2⟩)
theorem TupRw.tup {p : Addr} (h : TupRw H as rs) (e : H p = some (.tup (as.map V.ref))) : TupRows K H p rs := ⟨as, e, h.1, h.2⟩
theorem TupRw.vs (h : TupRw H as rs) (q : Addr) (hq : ∀ xs, H q ≠ some (.tup xs)) : RowVs q H (as.map V.ref) (rs.map fun r => some (r.map V.int)) := by
  induction as generalizing rs with
  | nil =>
    cases rs with
    | nil => exact .nil
    | cons _ _ => cases h.1
  | cons a as ih =>
    cases rs with
    | nil => cases h.1
    | cons xs rs =>
      have e := h.2 0 a xs rfl rfl
      refine .cons (.tup (fun z => hq _ (by rw [← z]; exact e)) e fun x m => ?_) (ih ⟨by simpa using h.1, fun i b ys e1 e2 => h.2 (i + 1) b ys e1 e2⟩)
      obtain ⟨i, _, rfl⟩ := List.mem_map.mp m
      exact .num i
theorem LstRw.vs (h : LstRw q H as rs) : RowVs q H (as.map V.ref) (rs.map fun r => some (r.map V.int)) := by
  induction as generalizing rs with
  | nil =>
    cases rs with
    | nil => exact .nil
    | cons _ _ => cases h.1
  | cons a as ih =>
    cases rs with
    | nil => cases h.1
    | cons xs rs =>
      obtain ⟨na, e⟩ := h.2 0 a xs rfl rfl
      refine .cons (.lst na e fun x m => ?_) (ih ⟨by simpa using h.1, fun i b ys e1 e2 => h.2 (i + 1) b ys e1 e2⟩)
      obtain ⟨i, _, rfl⟩ := List.mem_map.mp m
      exact .num i
theorem rowsI_of (rs : List (List Int)) : rowsI (rs.map fun r => some (r.map V.int)) = rs := by
  unfold rowsI
  rw [List.map_map]
  refine (List.map_congr_left fun r _ => ?_).trans (List.map_id rs)
  show (r.map V.int).map numOf = r
  rw [List.map_map]
  exact (List.map_congr_left fun _ _ => rfl).trans (List.map_id r)
theorem areB_of {cl : Int} {n : Nat} (h : RowsOk cl n rs) (l : rs.length ≤ 400) : areB (some (rs.map fun r => some (r.map V.int))) cl n = true := by
  show (decide (((rs.map fun r => some (r.map V.int)).length : Int) ≤ 400) && (rs.map fun r => some (r.map V.int)).all fun o => rowB o cl n) = true
  rw [List.length_map, decide_eq_true (by omega), Bool.true_and, List.all_eq_true]
  intro o m
  obtain ⟨r, mr, rfl⟩ := List.mem_map.mp m
  have o := h r mr
  have z := row_yes (vint_of (fun x mx => by have := o.2 x mx; omega : ∀ x ∈ r, 0 ≤ x ∧ x ≤ cl - 1))
  rw [List.length_map] at z
  rw [o.1] at z
  exact z
end

section
variable {J : It} {n : Nat} {G : Hp → Prop} {Y : Nat → Hp → V → Hp → Prop} {g : TG} {te : TE} {tt : TT} {vs : List Nat} {σ : L2.St} {H1 : Hp} {D : Addr} {Qd : Hp → Prop}
theorem list_eq {α : Type} {xs zs : List α} (l : xs.length = zs.length) (h : ∀ (i : Nat) (v : α), xs[i]? = some v → zs[i]? = some v) : xs = zs := by
  refine List.ext_getElem? fun i => ?_
  by_cases hi : i < xs.length
  · rw [List.getElem?_eq_getElem hi, h i _ (List.getElem?_eq_getElem hi)]
  · rw [List.getElem?_eq_none (by omega), List.getElem?_eq_none (by omega)]
/-- the values are known -/
theorem lc_val (W : Walk J n G Y) (zs : List V) (lz : zs.length = n) (hG : ∀ H, Same H1 H → G H) (hD : H1 D = none) (hn : n < sizeLine)
    (step : ∀ i x H H', i < n → Same H1 H → (∃ xs, H D = some (.lst xs)) → Y i H x H' → ∀ Qn : VK, (∀ y H4, zs[i]? = some y → Same H H4 → Qn y H4) → g x (wipe σ vs) H' fun σ2 H2 => wipe σ2 vs = wipe σ vs ∧ te σ2 H2 Qn)
    (done : ∀ H, Same H1 H → H D = some (.lst zs) → Qd H) :
    ∃ W : Nat → Nat → Hp → Prop, (∃ m, W 0 m (upd H1 D (.lst []))) ∧ ∀ (i m : Nat) (H : Hp), W i m H → J.stop i H ∧ Qd H ∨ J.go i H ∧ ∃ Nx : Hp → Prop, (∀ H', Nx H' → ∃ m', m' < m ∧ W (i + 1) m' H') ∧
      ∀ (x : V) (H' : Hp), J.yld i H x H' → g x (wipe σ vs) H' fun σ2 H2 => wipe σ2 vs = wipe σ vs ∧ tYes σ2 H2 fun b H3 => if b = true then te σ2 H3 fun y H4 => ∃ acc, H4 D = some (.lst acc) ∧ acc.length < sizeLine ∧ Nx (upd H4 D (.lst (acc ++ [y]))) else Nx H3 :=
  lc_new W (fun i y _ => zs[i]? = some y) (fun _ _ _ _ _ e => e) hG hD hn (fun i x H H' hi s e y Qn k => step i x H H' hi s e y Qn fun y H4 e s4 => k y H4 s4 e) fun H ys s e l h => done H s (by rw [e, list_eq (by rw [l, lz]) h])
/-- the rows are known, each a new list -/
theorem lc_rows (W : Walk J n G Y) (zs : List (List Int)) (lz : zs.length = n) (hG : ∀ H, Same H1 H → G H) (hD : H1 D = none) (hn : n < sizeLine)
    (step : ∀ i x H H' z, i < n → zs[i]? = some z → Same H1 H → (∃ xs, H D = some (.lst xs)) → Y i H x H' → ∀ Qn : VK, (∀ a H4, Same H H4 → a ≠ D → H4 a = some (.lst (z.map V.int)) → Qn (.ref a) H4) → g x (wipe σ vs) H' fun σ2 H2 => wipe σ2 vs = wipe σ vs ∧ te σ2 H2 Qn)
    (done : ∀ H as, Same H1 H → H D = some (.lst (as.map V.ref)) → LstRw D H as zs → Qd H) :
    ∃ W : Nat → Nat → Hp → Prop, (∃ m, W 0 m (upd H1 D (.lst []))) ∧ ∀ (i m : Nat) (H : Hp), W i m H → J.stop i H ∧ Qd H ∨ J.go i H ∧ ∃ Nx : Hp → Prop, (∀ H', Nx H' → ∃ m', m' < m ∧ W (i + 1) m' H') ∧
      ∀ (x : V) (H' : Hp), J.yld i H x H' → g x (wipe σ vs) H' fun σ2 H2 => wipe σ2 vs = wipe σ vs ∧ tYes σ2 H2 fun b H3 => if b = true then te σ2 H3 fun y H4 => ∃ acc, H4 D = some (.lst acc) ∧ acc.length < sizeLine ∧ Nx (upd H4 D (.lst (acc ++ [y]))) else Nx H3 := by
  refine lc_new W (fun i y H => ∃ a xs, y = .ref a ∧ zs[i]? = some xs ∧ a ≠ D ∧ H a = some (.lst (xs.map V.int))) ?_ hG hD hn ?_ ?_
  · rintro i y H H' f ⟨a, xs, e1, e2, e3, e4⟩
    exact ⟨a, xs, e1, e2, e3, f _ _ e3 e4⟩
  · intro i x H H' hi s e y Qn k
    exact step i x H H' zs[i] hi (List.getElem?_eq_getElem (by omega)) s e y Qn fun a H4 s4 na ea => k _ H4 s4 ⟨a, _, rfl, List.getElem?_eq_getElem (by omega), na, ea⟩
  · intro H ys s e l h
    obtain ⟨as, rs, rfl, las, hr⟩ := rows_vals (P := fun i a xs => zs[i]? = some xs ∧ a ≠ D ∧ H a = some (.lst (xs.map V.int))) fun i y e => let ⟨a, xs, e1, e2⟩ := h i y e; ⟨a, xs, e1, e2⟩
    have lr : rs.length = zs.length := by rw [← las, lz, ← l, List.length_map]
    have er : rs = zs := list_eq lr fun i v e => by
      have hi := (List.getElem?_eq_some_iff.mp e).1
      exact (hr i as[i] v (List.getElem?_eq_getElem (by omega)) e).1
    subst er
    exact done H as s e ⟨las, fun i a xs e1 e2 => (hr i a xs e1 e2).2⟩
/-- the rows are known, each a tuple -/
theorem lc_tups (W : Walk J n G Y) (zs : List (List Int)) (lz : zs.length = n) (hG : ∀ H, Same H1 H → G H) (hD : H1 D = none) (hn : n < sizeLine)
    (step : ∀ i x H H' z, i < n → zs[i]? = some z → Same H1 H → (∃ xs, H D = some (.lst xs)) → Y i H x H' → ∀ Qn : VK, (∀ a H4, Same H H4 → H4 a = some (.tup (z.map V.int)) → Qn (.ref a) H4) → g x (wipe σ vs) H' fun σ2 H2 => wipe σ2 vs = wipe σ vs ∧ te σ2 H2 Qn)
    (done : ∀ H as, Same H1 H → H D = some (.lst (as.map V.ref)) → TupRw H as zs → Qd H) :
    ∃ W : Nat → Nat → Hp → Prop, (∃ m, W 0 m (upd H1 D (.lst []))) ∧ ∀ (i m : Nat) (H : Hp), W i m H → J.stop i H ∧ Qd H ∨ J.go i H ∧ ∃ Nx : Hp → Prop, (∀ H', Nx H' → ∃ m', m' < m ∧ W (i + 1) m' H') ∧
      ∀ (x : V) (H' : Hp), J.yld i H x H' → g x (wipe σ vs) H' fun σ2 H2 => wipe σ2 vs = wipe σ vs ∧ tYes σ2 H2 fun b H3 => if b = true then te σ2 H3 fun y H4 => ∃ acc, H4 D = some (.lst acc) ∧ acc.length < sizeLine ∧ Nx (upd H4 D (.lst (acc ++ [y]))) else Nx H3 := by
  refine lc_new W (fun i y H => ∃ a xs, y = .ref a ∧ zs[i]? = some xs ∧ a ≠ D ∧ H a = some (.tup (xs.map V.int))) ?_ hG hD hn ?_ ?_
  · rintro i y H H' f ⟨a, xs, e1, e2, e3, e4⟩
    exact ⟨a, xs, e1, e2, e3, f _ _ e3 e4⟩
  · rintro i x H H' hi s ⟨us, eD⟩ y Qn k
    exact step i x H H' zs[i] hi (List.getElem?_eq_getElem (by omega)) s ⟨us, eD⟩ y Qn fun a H4 s4 ea => k _ H4 s4 ⟨a, _, rfl, List.getElem?_eq_getElem (by omega), ne_of ea (s4 _ _ eD) (fun z => by cases z), ea⟩
  · intro H ys s e l h
    obtain ⟨as, rs, rfl, las, hr⟩ := rows_vals (P := fun i a xs => zs[i]? = some xs ∧ a ≠ D ∧ H a = some (.tup (xs.map V.int))) fun i y e => let ⟨a, xs, e1, e2⟩ := h i y e; ⟨a, xs, e1, e2⟩
    have lr : rs.length = zs.length := by rw [← las, lz, ← l, List.length_map]
    have er : rs = zs := list_eq lr fun i v e => by
      have hi := (List.getElem?_eq_some_iff.mp e).1
      exact (hr i as[i] v (List.getElem?_eq_getElem (by omega)) e).1
    subst er
    exact done H as s e ⟨las, fun i a xs e1 e2 => (hr i a xs e1 e2).2.2⟩
/-- those of which a test holds -/
theorem lc_flt (W : Walk J n G Y) (p : Nat → Bool) (f : Nat → V) (hG : ∀ H, Same H1 H → G H) (hD : H1 D = none) (hn : n < sizeLine)
    (step : ∀ i x H H', i < n → Same H1 H → (∃ xs, H D = some (.lst xs)) → Y i H x H' → ∀ (T : VK) (F : Hp → Prop), (p i = true → ∀ H4, Same H H4 → T (f i) H4) → (p i = false → ∀ H4, Same H H4 → F H4) →
      g x (wipe σ vs) H' fun σ2 H2 => wipe σ2 vs = wipe σ vs ∧ tt σ2 H2 fun b H3 => if b = true then te σ2 H3 T else F H3)
    (done : ∀ H, Same H1 H → H D = some (.lst (((List.range n).filter p).map f)) → Qd H) :
    ∃ W : Nat → Nat → Hp → Prop, (∃ m, W 0 m (upd H1 D (.lst []))) ∧ ∀ (i m : Nat) (H : Hp), W i m H → J.stop i H ∧ Qd H ∨ J.go i H ∧ ∃ Nx : Hp → Prop, (∀ H', Nx H' → ∃ m', m' < m ∧ W (i + 1) m' H') ∧
      ∀ (x : V) (H' : Hp), J.yld i H x H' → g x (wipe σ vs) H' fun σ2 H2 => wipe σ2 vs = wipe σ vs ∧ tt σ2 H2 fun b H3 => if b = true then te σ2 H3 fun y H4 => ∃ acc, H4 D = some (.lst acc) ∧ acc.length < sizeLine ∧ Nx (upd H4 D (.lst (acc ++ [y]))) else Nx H3 := by
  refine lc_it W (tt := tt) (fun i H => Same H1 H ∧ H D = some (.lst (((List.range i).filter p).map f))) ⟨same_neu (Same.refl _) hD, upd_same⟩ (fun i H _ h => hG H h.1) ?_ ?_
  · rintro i x H H' hi ⟨s, eD⟩ hY
    refine step i x H H' hi s ⟨_, eD⟩ hY _ _ (fun pt H4 s4 => ?_) fun pf H4 s4 => ?_
    · refine ⟨_, s4 _ _ eD, ?_, fun b o e => ?_, ?_⟩
      · rw [List.length_map]
        refine Nat.lt_of_le_of_lt (List.length_filter_le _ _) ?_
        rw [List.length_range]
        omega
      · rw [upd_ne (ne_of_none e hD)]
        exact s4 b o (s b o e)
      · rw [upd_same, List.range_succ, List.filter_append, List.map_append, List.filter_cons_of_pos pt]
        rfl
    · refine ⟨fun b o e => s4 b o (s b o e), ?_⟩
      rw [List.range_succ, List.filter_append, List.map_append, List.filter_cons_of_neg (by rw [pf]; decide)]
      show H4 D = some (.lst (_ ++ []))
      rw [List.append_nil]
      exact s4 _ _ eD
  · rintro H ⟨s, eD⟩
    exact done H s eD
end
end Rp
namespace Rp
open PySem PySem.Spec PyProof.Rows L2 LamX RZ
/-- the ways of an expression meet: M -/
theorem r_cutE {te : TE} {σ : L2.St} {H : Hp} {Q : VK} (M : V → Hp → Prop) (hu : ∀ v G, M v G → Q v G) (h : (∀ v G, M v G → Q v G) → te σ H Q) : te σ H Q := h hu
/-- the ways of a test meet -/
theorem r_cutT {tt : TT} {σ : L2.St} {H : Hp} {Q : Bool → Hp → Prop} (M : Bool → Hp → Prop) (hu : ∀ v G, M v G → Q v G) (h : (∀ v G, M v G → Q v G) → tt σ H Q) : tt σ H Q := h hu
section
variable {K : PySem.W.Frag} {H : Hp} {Q : VK} {q L p : Addr} {as : List Addr} {rs : List (List Int)}
def rowL (xs : List Int) : PyData := .list (xs.map PyData.int)
theorem LstRw.dp (h : LstRw q H as rs) : DpAll K H (as.map V.ref) (rs.map rowL) := by
  induction as generalizing rs with
  | nil =>
    cases rs with
    | nil => exact .nil
    | cons _ _ => cases h.1
  | cons a as ih =>
    cases rs with
    | nil => cases h.1
    | cons xs rs => exact .cons (.lst (SqL.of (h.2 0 a xs rfl rfl).2) (dp_ints xs)) (ih ⟨by simpa using h.1, fun i b ys e1 e2 => h.2 (i + 1) b ys e1 e2⟩)
theorem lay_rowL : ∀ rs : List (List Int), PyData.canLayAll0 (rs.map rowL) = true
  | [] => by simp [PyData.canLayAll0]
  | r :: rs => by simp [PyData.canLayAll0, lay_rowL rs, rowL, PyData.canLay0, canLay_ints]
theorem deep_rowL : ∀ rs : List (List Int), PyData.depthAll (rs.map rowL) ≤ 1
  | [] => by simp [PyData.depthAll]
  | r :: rs => by
    have := deep_rowL rs
    simp only [List.map_cons, PyData.depthAll, rowL, PyData.depth, depth_ints]
    omega
theorem shaped_rowL (rs : List (List Int)) : SeqAt.shaped (.list (rs.map rowL)) = true := by
  have h := deep_rowL rs
  have e : (PyData.list (rs.map rowL)).depth ≤ 64 := by simp only [PyData.depth]; omega
  simp only [SeqAt.shaped, PyData.canLay0, lay_rowL, Bool.true_and, decide_eq_true e]
/-- a list of rows, compared with a new [] -/
theorem ne_nilR (e : H L = some (.lst (as.map V.ref))) (R : LstRw q H as rs) (ep : H p = some (.lst [])) (h : Q (.bl (!rs.isEmpty)) H) : rNeD K (.ref L) (.ref p) H Q :=
  ⟨_, _, .lst (SqL.of e) R.dp, .lst (SqL.of ep) .nil, shaped_rowL rs, shaped_ints [], by
    have z : PyData.eqv (.list (rs.map rowL)) (.list []) = rs.isEmpty := by cases rs <;> simp [PyData.eqv, PyData.eqvAll]
    rw [z]
    exact h⟩
end
theorem ref_at {as : List Addr} {i : Nat} {v : V} (h : (as.map V.ref)[i]? = some v) : ∃ a, as[i]? = some a ∧ v = .ref a := by
  rw [List.getElem?_map] at h
  cases e : as[i]? with
  | none => rw [e] at h; cases h
  | some b => rw [e] at h; exact ⟨b, rfl, (Option.some.inj h).symm⟩
theorem ref_erase {as : List Addr} {k : Nat} : (as.map V.ref).eraseIdx k = (as.eraseIdx k).map V.ref := by
  induction as generalizing k with
  | nil => rfl
  | cons a as ih =>
    cases k with
    | zero => rfl
    | succ k => show V.ref a :: (as.map V.ref).eraseIdx k = _; rw [ih]; rfl
theorem LstRw.erase {q : Addr} {H : Hp} : ∀ {as : List Addr} {rs : List (List Int)} {k : Nat}, LstRw q H as rs → LstRw q H (as.eraseIdx k) (rs.eraseIdx k)
  | [], [], _, h => h
  | [], _ :: _, _, h => by cases h.1
  | _ :: _, [], _, h => by cases h.1
  | a :: as, r :: rs, 0, h => ⟨by simpa using h.1, fun i b ys e1 e2 => h.2 (i + 1) b ys e1 e2⟩
  | a :: as, r :: rs, k + 1, h => by
    have t : LstRw q H as rs := ⟨by simpa using h.1, fun i b ys e1 e2 => h.2 (i + 1) b ys e1 e2⟩
    have w := LstRw.erase (k := k) t
    refine ⟨by show (as.eraseIdx k).length + 1 = (rs.eraseIdx k).length + 1; rw [w.1], fun i b ys e1 e2 => ?_⟩
    cases i with
    | zero => cases e1; cases e2; exact h.2 0 a r rfl rfl
    | succ i => exact w.2 i b ys e1 e2
theorem LstRw.snoc {q a : Addr} {H : Hp} {xs : List Int} {as : List Addr} {rs : List (List Int)} (h : LstRw q H as rs) (n : a ≠ q) (e : H a = some (.lst (xs.map V.int))) : LstRw q H (as ++ [a]) (rs ++ [xs]) := by
  refine ⟨by rw [List.length_append, List.length_append, h.1]; rfl, fun i b ys e1 e2 => ?_⟩
  by_cases hi : i < as.length
  · rw [List.getElem?_append_left hi] at e1
    rw [List.getElem?_append_left (by rw [← h.1]; exact hi)] at e2
    exact h.2 i b ys e1 e2
  · rw [List.getElem?_append_right (by omega)] at e1
    rw [List.getElem?_append_right (by rw [← h.1]; omega), ← h.1] at e2
    have z : i - as.length = 0 := by
      have := (List.getElem?_eq_some_iff.mp e1).1
      simp at this
      omega
    rw [z] at e1 e2
    cases e1
    cases e2
    exact ⟨n, e⟩
/-- off another place -/
theorem LstRw.off {q D : Addr} {H : Hp} {as : List Addr} {rs : List (List Int)} (h : LstRw q H as rs) (n : ∀ b o, H b = some o → b ≠ D) : LstRw D H as rs := ⟨h.1, fun i a xs e1 e2 => ⟨n _ _ (h.2 i a xs e1 e2).2, (h.2 i a xs e1 e2).2⟩⟩
/-- a filter's first item -/
theorem filt_head {p : Nat → Bool} {n k : Nat} {l : List Nat} (h : (List.range n).filter p = k :: l) : k < n ∧ p k = true := by
  have m : k ∈ (List.range n).filter p := by rw [h]; exact List.mem_cons_self ..
  obtain ⟨m1, m2⟩ := List.mem_filter.mp m
  exact ⟨List.mem_range.mp m1, m2⟩
theorem filt_none {p : Nat → Bool} {n : Nat} (h : (List.range n).filter p = []) : ∀ k, k < n → p k = false := fun k hk => by
  cases e : p k with
  | false => rfl
  | true =>
    have m : k ∈ (List.range n).filter p := List.mem_filter.mpr ⟨List.mem_range.mpr hk, e⟩
    rw [h] at m
    cases m
theorem LstRw.offL {q D : Addr} {H : Hp} {as bs : List Addr} {rs : List (List Int)} (h : LstRw q H as rs) (e : H D = some (.lst (bs.map V.ref))) (n : ∀ r ∈ rs, r ≠ []) : LstRw D H as rs := ⟨h.1, fun i a xs e1 e2 => by
  have f := (h.2 i a xs e1 e2).2
  refine ⟨?_, f⟩
  rintro rfl
  have z := f.symm.trans e
  cases xs with
  | nil => exact n _ (List.mem_of_getElem? e2) rfl
  | cons x xs =>
    cases bs with
    | nil => cases z
    | cons b bs => cases z⟩
end Rp
namespace Rp
open PySem PySem.Spec PyProof.Rows L2 LamX RZ
/-! ### tuples cut and put behind one another; rows compared and shown -/
section
variable {K : PySem.W.Frag} {a b p : Addr} {H : Hp} {Q : VK} {xs ys : List V}
theorem cut_full {lo hi : Option Int} (h1 : HT.sIx xs.length 0 lo = 0) (h2 : HT.sIx xs.length xs.length hi = xs.length) : cutV xs lo hi = xs := by
  unfold cutV
  rw [h1, h2, List.drop_zero, Nat.sub_zero, List.take_length]
theorem r_slA {lo hi : Option Int} (ha : H a = some (.tup xs)) (h : ∀ b H', Same H H' → H' b = some (.tup (cutV xs lo hi)) → Q (.ref b) H') : rSlA K (.ref a) lo hi H Q := by
  refine ⟨a, xs, rfl, SqT.of ha, fun ⟨h1, h2⟩ => h a H (Same.refl H) (by rw [cut_full h1 h2]; exact ha), fun _ p hp => h p _ (same_neu (Same.refl H) hp) upd_same⟩
theorem r_catS (ha : H a = some (.tup xs)) (hb : H b = some (.tup ys)) (hz : xs.length + ys.length ≤ sizeLine) (h : ∀ p H', Same H H' → H' p = some (.tup (xs ++ ys)) → Q (.ref p) H') : rCatA K (.ref a) (.ref b) H Q :=
  ⟨a, b, xs, ys, rfl, rfl, SqT.of ha, SqT.of hb, hz, fun e => h b H (Same.refl H) (by rw [e]; exact hb), fun _ e => h a H (Same.refl H) (by rw [e, List.append_nil]; exact ha), fun _ _ p hp => h p _ (same_neu (Same.refl H) hp) upd_same⟩
/-- tuple(x) of a list or a tuple -/
theorem r_tupL (ha : H a = some (.lst xs)) (h : ∀ p H', Same H H' → H p = none → H' p = some (.tup xs) → Q (.ref p) H') : rTupOf K [.ref a] H Q :=
  ⟨a, xs, rfl, .inl ⟨SqL.of ha, fun p hp => h p _ (same_neu (Same.refl H) hp) hp upd_same⟩⟩
end
theorem eqvAll_ints : ∀ (xs ys : List Int), PyData.eqvAll (xs.map PyData.int) (ys.map PyData.int) = decide (xs = ys)
  | [], [] => by simp [PyData.eqvAll]
  | [], y :: ys => by simp [PyData.eqvAll]
  | x :: xs, [] => by simp [PyData.eqvAll]
  | x :: xs, y :: ys => by
    have := eqvAll_ints xs ys
    simp only [List.map_cons, PyData.eqvAll, PyData.eqv, this, List.cons.injEq]
    by_cases h : x = y
    · subst h; simp
    · simp [h]
theorem eqv_row (xs ys : List Int) : PyData.eqv (rowD xs) (rowD ys) = decide (xs = ys) := by
  unfold rowD
  simp only [PyData.eqv]
  exact eqvAll_ints xs ys
theorem eqvAll_rows : ∀ (rs ss : List (List Int)), PyData.eqvAll (rs.map rowD) (ss.map rowD) = decide (rs = ss)
  | [], [] => by simp [PyData.eqvAll]
  | [], y :: ys => by simp [PyData.eqvAll]
  | x :: xs, [] => by simp [PyData.eqvAll]
  | x :: xs, y :: ys => by
    have := eqvAll_rows xs ys
    simp only [List.map_cons, PyData.eqvAll, eqv_row, this, List.cons.injEq]
    by_cases h : x = y
    · subst h; simp
    · simp [h]
theorem eqv_rows (rs ss : List (List Int)) : PyData.eqv (.tuple (rs.map rowD)) (.tuple (ss.map rowD)) = decide (rs = ss) := by
  simp only [PyData.eqv]
  exact eqvAll_rows rs ss
theorem lay_rows : ∀ rs : List (List Int), PyData.canLayAll0 (rs.map rowD) = true
  | [] => by simp [PyData.canLayAll0]
  | r :: rs => by simp [PyData.canLayAll0, lay_rows rs, rowD, PyData.canLay0, canLay_ints]
theorem deep_rows : ∀ rs : List (List Int), PyData.depthAll (rs.map rowD) ≤ 1
  | [] => by simp [PyData.depthAll]
  | r :: rs => by
    have := deep_rows rs
    simp only [List.map_cons, PyData.depthAll, rowD, PyData.depth, depth_ints]
    omega
theorem shaped_rows (rs : List (List Int)) : SeqAt.shaped (.tuple (rs.map rowD)) = true := by
  have h := deep_rows rs
  have e : (PyData.tuple (rs.map rowD)).depth ≤ 64 := by simp only [PyData.depth]; omega
  simp only [SeqAt.shaped, PyData.canLay0, lay_rows, Bool.true_and, decide_eq_true e]
theorem dp_rowsA {K : PySem.W.Frag} {H : Hp} : ∀ {ps : List Addr} {rs : List (List Int)}, ps.length = rs.length → (∀ (i : Nat) (b : Addr) (xs : List Int), ps[i]? = some b → rs[i]? = some xs → H b = some (.tup (xs.map V.int))) → DpAll K H (ps.map V.ref) (rs.map rowD)
  | [], [], _, _ => .nil
  | b :: ps, xs :: rs, l, h => .cons (.tup (SqT.of (h 0 b xs rfl rfl)) (dp_ints xs)) (dp_rowsA (by simpa using l) fun i b xs e1 e2 => h (i + 1) b xs e1 e2)
  | [], _ :: _, l, _ => by cases l
  | _ :: _, [], l, _ => by cases l
theorem TupRows.dp {K : PySem.W.Frag} {H : Hp} {p : Addr} {rs : List (List Int)} (h : TupRows K H p rs) : Dp K H (.ref p) (.tuple (rs.map rowD)) := by
  obtain ⟨ps, h1, h2, h3⟩ := h
  exact .tup (SqT.of h1) (dp_rowsA h2 h3)
theorem r_eqRows {K : PySem.W.Frag} {H : Hp} {Q : VK} {p r : Addr} {rs ss : List (List Int)} (h1 : TupRows K H p rs) (h2 : TupRows K H r ss) (h : Q (.bl (decide (rs = ss))) H) : rEqD K (.ref p) (.ref r) H Q :=
  ⟨_, _, h1.dp, h2.dp, shaped_rows rs, shaped_rows ss, by rw [eqv_rows]; exact h⟩
theorem r_neRows {K : PySem.W.Frag} {H : Hp} {Q : VK} {p r : Addr} {rs ss : List (List Int)} (h1 : TupRows K H p rs) (h2 : TupRows K H r ss) (h : Q (.bl (!decide (rs = ss))) H) : rNeD K (.ref p) (.ref r) H Q :=
  ⟨_, _, h1.dp, h2.dp, shaped_rows rs, shaped_rows ss, by rw [eqv_rows]; exact h⟩
/-- rows are fit to be shown -/
theorem fit_rows {cl : Int} {n m : Nat} (h31 : cl ≤ 31) (hn : n ≤ m) : ∀ {rs : List (List Int)}, RowsOk cl n rs → FitA 1 ((15 * m + 10) * rs.length) (rs.map rowD)
  | [], _ => FitA.nil
  | r :: rs, o => by
    have ok := o r (List.mem_cons_self ..)
    have f1 : FitA 0 (15 * m) (r.map PyData.int) := (fit_ints (xs := r) (lo := 0) (hi := 31) (fun x mx => by have := ok.2 x mx; omega) (by decide) (by decide)).le (Nat.le_refl _) (by rw [ok.1]; omega)
    have f2 := fit_rows h31 hn (rs := rs) fun y my => o y (List.mem_cons_of_mem _ my)
    refine (FitA.cons f1.tuple f2).le (Nat.le_refl _) ?_
    rw [List.length_cons, Nat.mul_succ]
    omega
/-- turned to a gap -/
def rotR (g : Nat) (xs : List Int) : List Int := xs.drop g ++ xs.take g
theorem rotR_len {g : Nat} {xs : List Int} : (rotR g xs).length = xs.length := by
  unfold rotR
  rw [List.length_append, List.length_drop, List.length_take]
  omega
theorem rotR_ok {cl : Int} {n g : Nat} {xs : List Int} (h : xs.length = n ∧ Dig cl xs) : (rotR g xs).length = n ∧ Dig cl (rotR g xs) := ⟨by rw [rotR_len, h.1], fun x m => by
  unfold rotR at m
  rcases List.mem_append.mp m with m | m
  · exact h.2 x (List.mem_of_mem_drop m)
  · exact h.2 x (List.mem_of_mem_take m)⟩
theorem cut_loI {xs : List Int} {n : Nat} (h : n ≤ xs.length) : cutV (xs.map V.int) none (some (n : Int)) = (xs.take n).map V.int := by
  rw [cut_lo (by rw [List.length_map]; exact h), List.map_take]
theorem cut_hiI {xs : List Int} {n : Nat} (h : n ≤ xs.length) : cutV (xs.map V.int) (some (n : Int)) none = (xs.drop n).map V.int := by
  rw [cut_hi (by rw [List.length_map]; exact h), List.map_drop]
/-- of another class than the values of no own one -/
structure NotK (K : PySem.W.Frag) (C : Addr) : Prop where
  non : PySem.W.kitOne K (.type "NoneType") (.ref C) = some false
  bl : PySem.W.kitOne K (.type "bool") (.ref C) = some false
  int : PySem.W.kitOne K (.type "int") (.ref C) = some false
  str : PySem.W.kitOne K (.type "str") (.ref C) = some false
  lst : PySem.W.kitOne K (.type "list") (.ref C) = some false
  tup : PySem.W.kitOne K (.type "tuple") (.ref C) = some false
  dic : PySem.W.kitOne K (.type "dict") (.ref C) = some false
/-- what isinstance asks of an own class -/
structure IsK (K : PySem.W.Frag) (C : Addr) : Prop where
  cl : Cls K C
  ha : PySem.W.findIn K (.ref C) "__class__" = some (some (.builtin "object.__class__"))
  hn : PySem.W.specialIn K (.builtin "object.__class__") "__get__" = some (some (.builtin "getset_descriptor.__get__"))
  ht : PySem.W.takesIn K (.builtin "object.__class__") = some true
  hm : PySem.W.mroIn K C (.type "object") = some true
  me : PySem.W.kitOne K (.ref C) (.ref C) = some true
theorem r_isOwn {K : PySem.W.Frag} {H : Hp} {Q : VK} {x C dx : Addr} {fs : List (Str × V)} (I : IsK K C) (e : H x = some (.ins C dx fs)) (h : Q (.bl true) H) : rIsi K [.ref x, .ref C] H Q :=
  ⟨.ref x, .ref C, _, .ref C, true, rfl, .own C, .base (.ins e I.cl I.ha I.hn I.ht I.hm), I.me, h⟩
theorem r_isNot {K : PySem.W.Frag} {q : Addr} {H : Hp} {Q : VK} {v : V} {C : Addr} (I : NotK K C) (a : Any q H v) (h : Q (.bl false) H) : rIsi K [v, .ref C] H Q := by
  cases a with
  | non => exact ⟨_, .ref C, _, .ref C, false, rfl, .own C, .base .non, I.non, h⟩
  | bl b => exact ⟨_, .ref C, _, .ref C, false, rfl, .own C, .base (.bl b), I.bl, h⟩
  | num i => exact ⟨_, .ref C, _, .ref C, false, rfl, .own C, .base (.int i), I.int, h⟩
  | str z => exact ⟨_, .ref C, _, .ref C, false, rfl, .own C, .base (.str z), I.str, h⟩
  | lst n e => exact ⟨_, .ref C, _, .ref C, false, rfl, .own C, .base (.lst e), I.lst, h⟩
  | tup n e => exact ⟨_, .ref C, _, .ref C, false, rfl, .own C, .base (.tup e), I.tup, h⟩
  | dic n e => exact ⟨_, .ref C, _, .ref C, false, rfl, .own C, .base (.dK e), I.dic, h⟩
/-- list(x) of a list or a tuple -/
def rListOf (K : PySem.W.Frag) : List V → Hp → VK → Prop := fun xs H Q => ∃ p ys, xs = [.ref p] ∧ (SqL K H p ys ∨ SqT K H p ys) ∧ ∀ l, H l = none → Q (.ref l) (upd H l (.lst ys))
theorem call_listK {X : Cx} : CallR X (.type "list") (rListOf X.K) := call_list_of
theorem seqIx_nat {k n : Nat} (h : k < n) : PySem.seqIndex? (k : Int) n = some k := by
  unfold PySem.seqIndex?
  have h1 : ¬ ((k : Int) < 0) := by omega
  have h2 : (k : Int) < (n : Int) := by omega
  simp [h1, h2, h]
end Rp
namespace Rp
/-! ### least forms of turned rows -/
section
variable {cl t : Int} {n g h : Nat} {x y : List Int} {rs ss ls : List (List Int)}
theorem LF.len (f : LF cl n ls) : ls.length ≤ n := by
  have aux : ∀ {qs : List (List Int)} {m : Nat}, qs.Pairwise (fun r s => leadOf r < leadOf s) → (∀ r ∈ qs, m ≤ leadOf r ∧ leadOf r < n) → m + qs.length ≤ n ∨ qs = [] := by
    intro qs
    induction qs with
    | nil => exact fun _ _ => .inr rfl
    | cons q qs ih =>
      intro m p b
      obtain ⟨p1, p2⟩ := List.pairwise_cons.mp p
      have bq := b q (List.mem_cons_self ..)
      left
      rcases ih (m := m + 1) p2 fun r mr => ⟨by have := p1 r mr; omega, (b r (List.mem_cons_of_mem _ mr)).2⟩ with e | e
      · rw [List.length_cons]; omega
      · subst e
        show m + 1 ≤ n
        omega
  rcases aux (m := 0) f.asc fun r m => ⟨Nat.zero_le _, (f.lead r m).1⟩ with e | e
  · omega
  · rw [e]; exact Nat.zero_le _
theorem least_rows (hc : cl ∈ clocks) (o : RowsOk cl n rs) : RowsOk cl n (leastForm cl n rs) ∧ (leastForm cl n rs).length ≤ n := ⟨(least_ok hc o).1.ok, (least_ok hc o).1.len⟩
theorem least_idem (hc : cl ∈ clocks) (o : RowsOk cl n rs) : leastForm cl n (leastForm cl n rs) = leastForm cl n rs := by
  obtain ⟨f, a, b⟩ := least_ok hc o
  have c3 := clocks_3 hc
  exact least_is hc f.ok f (fun r m => .of (by omega) f.ok m) fun r m => .of (by omega) f.ok m
theorem adM_append {xs ys us vs : List Int} (l : xs.length = us.length) : adM cl t (xs ++ ys) (us ++ vs) = adM cl t xs us ++ adM cl t ys vs := by
  unfold adM
  rw [List.zipWith_append l]
theorem adM_drop {xs ys : List Int} : (adM cl t xs ys).drop g = adM cl t (xs.drop g) (ys.drop g) := by
  unfold adM
  rw [List.drop_zipWith]
theorem adM_take {xs ys : List Int} : (adM cl t xs ys).take g = adM cl t (xs.take g) (ys.take g) := by
  unfold adM
  rw [List.take_zipWith]
theorem rot_adM (l : x.length = y.length) : rotR g (adM cl t x y) = adM cl t (rotR g x) (rotR g y) := by
  unfold rotR
  rw [adM_append (by rw [List.length_drop, List.length_drop, l]), adM_drop, adM_take]
theorem rot_zero : rotR g (zeroR n) = zeroR n := by
  unfold rotR zeroR
  rw [List.drop_replicate, List.take_replicate, List.replicate_append_replicate]
  congr 1
  omega
theorem Spn.rot (h0 : 0 < cl) (o : RowsOk cl n rs) (a : Spn cl n rs x) : Spn cl n (rs.map (rotR g)) (rotR g x) := by
  induction a with
  | zero => rw [rot_zero]; exact .zero
  | @add x r t a m ih =>
    rw [rot_adM (by rw [(a.ok h0 o).1, (o r m).1])]
    exact .add t ih (List.mem_map.mpr ⟨r, m, rfl⟩)
theorem rots_ok (o : RowsOk cl n rs) : RowsOk cl n (rs.map (rotR g)) := fun y m => by
  obtain ⟨xs, mx, rfl⟩ := List.mem_map.mp m
  exact rotR_ok (o xs mx)
theorem least_rot (hc : cl ∈ clocks) (o : RowsOk cl n rs) : leastForm cl n ((leastForm cl n rs).map (rotR g)) = leastForm cl n (rs.map (rotR g)) := by
  obtain ⟨f, a, b⟩ := least_ok hc o
  have c3 := clocks_3 hc
  refine least_same hc (rots_ok f.ok) (rots_ok o) (fun r m => ?_) fun r m => ?_
  · obtain ⟨x, mx, rfl⟩ := List.mem_map.mp m
    exact (a x mx).rot (by omega) o
  · obtain ⟨x, mx, rfl⟩ := List.mem_map.mp m
    exact (b x mx).rot (by omega) f.ok
theorem rot_none (x : List Int) : rotR 0 x = x := by
  unfold rotR
  rw [List.drop_zero, List.take_zero, List.append_nil]
theorem rots_none : rs.map (rotR 0) = rs := (List.map_congr_left fun x _ => rot_none x).trans (List.map_id rs)
theorem rot_at {k : Nat} (hg : g < x.length) (hk : k < x.length) : (rotR g x)[k]? = x[(k + g) % x.length]? := by
  unfold rotR
  by_cases c : k < x.length - g
  · rw [List.getElem?_append_left (by rw [List.length_drop]; exact c), List.getElem?_drop, Nat.mod_eq_of_lt (by omega), Nat.add_comm]
  · rw [List.getElem?_append_right (by rw [List.length_drop]; omega), List.length_drop, List.getElem?_take, if_pos (by omega)]
    rw [show k + g = (k + g - x.length) + x.length by omega, Nat.add_mod_right, Nat.mod_eq_of_lt (by omega)]
    congr 1
    omega
theorem rot_rot (hg : g < x.length) (hh : h < x.length) : rotR h (rotR g x) = rotR ((g + h) % x.length) x := by
  refine List.ext_getElem? fun k => ?_
  by_cases hk : k < x.length
  · rw [rot_at (by rw [rotR_len]; exact hh) (by rw [rotR_len]; exact hk), rotR_len, rot_at hg (Nat.mod_lt _ (by omega)), rot_at (Nat.mod_lt _ (by omega)) hk]
    congr 1
    rw [Nat.mod_add_mod, Nat.add_mod_mod]
    congr 1
    omega
  · rw [List.getElem?_eq_none (by rw [rotR_len, rotR_len]; omega), List.getElem?_eq_none (by rw [rotR_len]; omega)]
theorem rots_rots (o : RowsOk cl n rs) (hg : g < n) (hh : h < n) : (rs.map (rotR g)).map (rotR h) = rs.map (rotR ((g + h) % n)) := by
  rw [List.map_map]
  refine List.map_congr_left fun x m => ?_
  have l := (o x m).1
  have e := rot_rot (x := x) (g := g) (h := h) (by omega) (by omega)
  rw [l] at e
  exact e
/-- turned twice -/
theorem least_twice (hc : cl ∈ clocks) (o : RowsOk cl n rs) (hg : g < n) (hh : h < n) : leastForm cl n ((leastForm cl n ((leastForm cl n rs).map (rotR g))).map (rotR h)) = leastForm cl n ((leastForm cl n rs).map (rotR ((g + h) % n))) := by
  rw [least_rot hc (rots_ok (least_rows hc o).1), rots_rots (least_rows hc o).1 hg hh]
theorem least_round (hc : cl ∈ clocks) (o : RowsOk cl n rs) (hg : g < n) : leastForm cl n ((leastForm cl n ((leastForm cl n rs).map (rotR g))).map (rotR ((n - g) % n))) = leastForm cl n rs := by
  have hn : (n - g) % n < n := Nat.mod_lt _ (by omega)
  rw [least_twice hc o hg hn]
  have e : (g + (n - g) % n) % n = 0 := by
    rw [Nat.add_mod_mod, show g + (n - g) = n by omega, Nat.mod_self]
  rw [e, rots_none, least_idem hc o]
end
end Rp
namespace Rp
open PySem PySem.Spec PyProof.Rows L2 LamX RZ
section
variable {K : PySem.W.Frag} {q c p : Addr} {ns : List Int} {l : Nat} {H H' : Hp} {as : List Addr} {rs : List (List Int)}
theorem TupRw.drw (h : TupRw H as rs) (D : Dr q c ns l H) (b : But q H H') : TupRw H' as rs := by
  obtain ⟨_, ⟨_, hq⟩, _, _⟩ := D
  exact h.keep fun a xs e => b _ _ (ne_of e hq (fun z => by cases z)) e
theorem TupRows.drw (h : TupRows K H p rs) (D : Dr q c ns l H) (b : But q H H') : TupRows K H' p rs := by
  obtain ⟨_, ⟨_, hq⟩, _, _⟩ := D
  obtain ⟨ps, t1, t2, t3⟩ := h
  exact ⟨ps, b _ _ (ne_of t1 hq (fun z => by cases z)) t1, t2, fun i a xs e1 e2 => b _ _ (ne_of (t3 i a xs e1 e2) hq (fun z => by cases z)) (t3 i a xs e1 e2)⟩
end
/-- an own class's __eq__, as == and != ask for it -/
structure EqX (P : Program) (w : World) (K : PySem.W.Frag) (mg : Str → Option Value) (base : Heap) (k : Nat) (C f : Addr) (fd : FuncData) (sp : Sp) : Prop where
  F : FnOk P w K mg base (L2.CX P w) k f fd ["self", "other"] sp
  b : Binds K fd ["self", "other"] []
  hs : PySem.W.findIn K (.ref C) "__eq__" = some (some (.ref f))
  hf : PySem.W.isFn K (.ref f) = true
  hn : PySem.W.findIn K (.ref C) "__ne__" = some (some (.builtin "object.__ne__"))
  hm : PySem.W.mroIn K C (.type "object") = some true
section
variable {X : Cx} {k : Nat} {C f : Addr} {fd : FuncData} {sp : Sp}
theorem op_neS (o : EqX X.prog X.w X.K X.mg X.base k C f fd sp) (hr : Room (k + 1) X.A) : OpR X (compareOp .NotEq) (rOwnI C sp E0 true) :=
  op_neI o.F o.b (fun pins σ H s e s' I z => pass0X pins H s e s' I z (σ := σ)) hr o.hs o.hf o.hn o.hm
theorem op_eqS (o : EqX X.prog X.w X.K X.mg X.base k C f fd sp) (hr : Room k X.A) : OpR X (compareOp .Eq) (rOwnI C sp E0 false) :=
  op_eqI o.F o.b (fun pins σ H s e s' I z => pass0X pins H s e s' I z (σ := σ)) hr o.hs o.hf
end
end Rp
namespace Rp
/-! ### what agrees with a space: free rows, steps -/
section
/-- sums over the gaps -/
def gS (n : Nat) (f : Nat → Int) : Int := ((List.range n).map f).sum
theorem gS_succ (n : Nat) (f : Nat → Int) : gS (n + 1) f = gS n f + f n := by
  unfold gS
  rw [List.range_succ, List.map_append, List.sum_append]
  simp
theorem gS_zero (f : Nat → Int) : gS 0 f = 0 := rfl
theorem gS_head : ∀ (n : Nat) (f : Nat → Int), gS (n + 1) f = f 0 + gS n (fun k => f (k + 1))
  | 0, f => by rw [gS_succ, gS_zero, gS_zero]; omega
  | n + 1, f => by rw [gS_succ, gS_head n f, gS_succ n]; omega
theorem gS_congr {n : Nat} {f g : Nat → Int} (h : ∀ k, k < n → f k = g k) : gS n f = gS n g := by
  unfold gS
  rw [List.map_congr_left fun k m => h k (List.mem_range.mp m)]
theorem gS_sub : ∀ (n : Nat) (f g : Nat → Int), gS n (fun k => f k - g k) = gS n f - gS n g
  | 0, _, _ => rfl
  | n + 1, f, g => by rw [gS_succ, gS_succ, gS_succ, gS_sub n f g]; omega
theorem gS_lin (m t : Int) : ∀ (n : Nat) (f g e : Nat → Int), (∀ k, k < n → f k % m = (g k + t * e k) % m) → gS n f % m = (gS n g + t * gS n e) % m
  | 0, _, _, _, _ => by rw [gS_zero, gS_zero, gS_zero, Int.mul_zero]; rfl
  | n + 1, f, g, e, h => by
    rw [gS_succ, gS_succ, gS_succ, Int.add_emod, gS_lin m t n f g e fun k hk => h k (by omega), h n (by omega), ← Int.add_emod, Int.mul_add]
    congr 1
    omega
theorem gS_next (f : Nat → Int) : ∀ n : Nat, gS n (fun k => f (if k + 1 = n then 0 else k + 1)) = gS n f
  | 0 => rfl
  | n + 1 => by
    rw [gS_succ, gS_head, if_pos rfl, gS_congr (g := fun k => f (k + 1)) fun k hk => by rw [if_neg (by omega)]]
    omega
def nextG (n k : Nat) : Nat := if k + 1 = n then 0 else k + 1
def swL (xs ys : List Int) : Int := gS xs.length fun k => xs.getD k 0 * ys.getD (nextG xs.length k) 0 - xs.getD (nextG xs.length k) 0 * ys.getD k 0
theorem zip_sum : ∀ (ys zs : List Int), ys.length = zs.length → ((ys.zip zs).map fun p => p.1 * p.2).sum = gS ys.length fun k => ys.getD k 0 * zs.getD k 0
  | [], [], _ => rfl
  | y :: ys, z :: zs, h => by
    have := zip_sum ys zs (by simpa using h)
    rw [List.zip_cons_cons, List.map_cons, List.sum_cons, this, List.length_cons, gS_head]
    rfl
  | [], _ :: _, h => by cases h
  | _ :: _, [], h => by cases h
/-- the program's swing is the own sum -/
theorem swing_eq {cl : Int} {xs ys : List Int} (l : xs.length = ys.length) : swingF cl xs ys = swL xs ys % cl := by
  unfold swingF
  congr 1
  rw [zip_sum ys (stepsF xs) (by rw [stepsF_len, l])]
  have e : swL xs ys = gS xs.length (fun j => xs.getD (if j = 0 then xs.length - 1 else j - 1) 0 * ys.getD j 0) - gS xs.length (fun k => xs.getD (nextG xs.length k) 0 * ys.getD k 0) := by
    rw [← gS_next (fun j => xs.getD (if j = 0 then xs.length - 1 else j - 1) 0 * ys.getD j 0) xs.length, ← gS_sub]
    refine gS_congr fun k hk => ?_
    show xs.getD k 0 * ys.getD (nextG xs.length k) 0 - _ = _
    unfold nextG
    by_cases h : k + 1 = xs.length
    · rw [if_pos h]
      show _ = xs.getD (if (0 : Nat) = 0 then xs.length - 1 else 0 - 1) 0 * ys.getD 0 0 - _
      rw [if_pos rfl, show xs.length - 1 = k by omega]
    · rw [if_neg h]
      show _ = xs.getD (if k + 1 = 0 then xs.length - 1 else k + 1 - 1) 0 * ys.getD (k + 1) 0 - _
      rw [if_neg (by omega), Nat.add_sub_cancel]
  rw [e, ← gS_sub, ← l]
  refine gS_congr fun k hk => ?_
  have es : (stepsF xs).getD k 0 = stepAt xs k := by rw [List.getD_eq_getElem?_getD, stepsF_at hk]; rfl
  rw [es]
  unfold stepAt nextG
  rw [Int.mul_sub, Int.mul_comm (ys.getD k 0), Int.mul_comm (ys.getD k 0)]
theorem swL_anti {xs ys : List Int} (l : xs.length = ys.length) : swL ys xs = -swL xs ys := by
  have e : swL ys xs = gS xs.length (fun k => 0 - (xs.getD k 0 * ys.getD (nextG xs.length k) 0 - xs.getD (nextG xs.length k) 0 * ys.getD k 0)) := by
    unfold swL
    rw [← l]
    refine gS_congr fun k _ => ?_
    rw [Int.mul_comm (ys.getD k 0), Int.mul_comm (ys.getD (nextG xs.length k) 0)]
    omega
  rw [e, gS_sub]
  have z : gS xs.length (fun _ => 0) = 0 := by
    have : ∀ n : Nat, gS n (fun _ => 0) = 0 := fun n => by
      induction n with
      | zero => rfl
      | succ n ih => rw [gS_succ, ih]; rfl
    exact this _
  rw [z]
  unfold swL
  omega
theorem swL_self {xs : List Int} : swL xs xs = 0 := by
  have := swL_anti (xs := xs) (ys := xs) rfl
  omega
def addTwo (cl : Int) (xs zs : List Int) : List Int := List.zipWith (fun x z => (x + 2 * z) % cl) xs zs
theorem addTwo_eq {cl : Int} {xs zs : List Int} : addTwo cl xs zs = adM cl 2 xs zs := rfl
theorem swL_lin {cl : Int} {xs ys zs : List Int} (l : xs.length = zs.length) : swL (addTwo cl xs zs) ys % cl = (swL xs ys + 2 * swL zs ys) % cl := by
  unfold swL
  rw [addTwo_eq, adM_len l, ← l]
  refine gS_lin cl 2 _ _ _ _ fun k _ => ?_
  rw [adM_at l, adM_at l, Int.sub_emod, Int.mul_emod, Int.emod_emod, ← Int.mul_emod, Int.mul_emod ((xs.getD (nextG xs.length k) 0 + 2 * zs.getD (nextG xs.length k) 0) % cl), Int.emod_emod, ← Int.mul_emod, ← Int.sub_emod]
  congr 1
  rw [Int.add_mul, Int.add_mul, Int.mul_sub, Int.mul_assoc, Int.mul_assoc]
  omega
end
section
variable {cl t m : Int} {n p : Nat} {f g : Nat → Int} {x y q r : List Int} {rs ss ls : List (List Int)}
theorem gS_mod : ∀ {n : Nat} {f g : Nat → Int}, (∀ k, k < n → f k % m = g k % m) → gS n f % m = gS n g % m
  | 0, _, _, _ => rfl
  | n + 1, f, g, h => by rw [gS_succ, gS_succ, Int.add_emod, gS_mod (f := f) (g := g) fun k hk => h k (by omega), h n (by omega), ← Int.add_emod]
theorem gS_none : ∀ {n : Nat} {f : Nat → Int}, (∀ k, k < n → f k = 0) → gS n f = 0
  | 0, _, _ => rfl
  | n + 1, f, h => by rw [gS_succ, gS_none fun k hk => h k (by omega), h n (by omega)]; rfl
theorem gS_point {c : Int} : ∀ {n p : Nat}, p < n → gS n (fun k => if k = p then c else 0) = c
  | 0, _, h => by omega
  | n + 1, p, h => by
    rw [gS_succ]
    by_cases e : n = p
    · rw [if_pos e, gS_none fun k hk => if_neg (by omega)]; omega
    · rw [if_neg e, gS_point (by omega)]; omega
theorem gS_add : ∀ (n : Nat) (f g : Nat → Int), gS n (fun k => f k + g k) = gS n f + gS n g
  | 0, _, _ => rfl
  | n + 1, f, g => by rw [gS_succ, gS_succ, gS_succ, gS_add n f g]; omega
/-- places apart -/
theorem gS_split (f : Nat → Int) : ∀ {ps : List Nat}, ps.Nodup → (∀ p ∈ ps, p < n) → gS n f = gS n (fun k => if k ∈ ps then 0 else f k) + (ps.map f).sum
  | [], _, _ => by
    rw [List.map_nil, List.sum_nil, Int.add_zero]
    exact gS_congr fun k _ => (if_neg (fun e => nomatch e)).symm
  | p :: ps, nd, lt => by
    obtain ⟨n1, n2⟩ := List.nodup_cons.mp nd
    rw [gS_split f n2 fun k mk => lt k (List.mem_cons_of_mem _ mk), List.map_cons, List.sum_cons]
    have e : gS n (fun k => if k ∈ ps then 0 else f k) = gS n (fun k => if k ∈ p :: ps then 0 else f k) + gS n (fun k => if k = p then f p else 0) := by
      rw [← gS_add]
      refine gS_congr fun k _ => ?_
      by_cases e1 : k = p
      · subst e1
        rw [if_neg n1, if_pos (List.mem_cons_self ..), if_pos rfl]
        omega
      · rw [if_neg e1]
        by_cases e2 : k ∈ ps
        · rw [if_pos e2, if_pos (List.mem_cons_of_mem _ e2)]; rfl
        · rw [if_neg e2, if_neg (fun z => (List.mem_cons.mp z).elim e1 e2)]; omega
    rw [e, gS_point (lt p (List.mem_cons_self ..))]
    omega
theorem filt_sum (p : Nat → Bool) (f : Nat → Int) : ∀ n : Nat, (((List.range n).filter p).map f).sum = gS n fun k => if p k = true then f k else 0
  | 0 => rfl
  | n + 1 => by
    rw [gS_succ, ← filt_sum p f n, List.range_succ, List.filter_append, List.map_append, List.sum_append]
    cases e : p n with
    | true => rw [List.filter_cons_of_pos e, if_pos rfl]; simp
    | false => rw [List.filter_cons_of_neg (by rw [e]; decide), if_neg (by decide)]; simp
/-- two rows, number by number -/
def dotR (n : Nat) (xs ys : List Int) : Int := gS n fun k => xs.getD k 0 * ys.getD k 0
theorem dot_comm (x y : List Int) : dotR n x y = dotR n y x := gS_congr fun k _ => Int.mul_comm _ _
theorem dot_lin (q : List Int) (l : x.length = y.length) : dotR n q (adM cl t x y) % cl = (dotR n q x + t * dotR n q y) % cl := by
  refine gS_lin cl t n _ _ _ fun k _ => ?_
  show (q.getD k 0 * (adM cl t x y).getD k 0) % cl = _
  rw [adM_at l, Int.mul_emod, Int.emod_emod, ← Int.mul_emod, Int.mul_add, Int.mul_left_comm]
theorem dot_zero (q : List Int) : dotR n q (zeroR n) = 0 := gS_none fun k _ => by rw [zeroR_at, Int.mul_zero]
theorem Spn.perp (h0 : 0 < cl) (o : RowsOk cl n rs) (a : Spn cl n rs x) (h : ∀ r ∈ rs, dotR n q r % cl = 0) : dotR n q x % cl = 0 := by
  induction a with
  | zero => rw [dot_zero]; rfl
  | @add x r t a m ih =>
    rw [dot_lin q (by rw [(a.ok h0 o).1, (o r m).1]), Int.add_emod, ih, Int.mul_emod, h r m, Int.mul_zero]
    rfl
/-- a row whose numbers are sums of multiples -/
theorem Spn.of_sum {ι : Type} (h0 : 0 < cl) (o : RowsOk cl n rs) (gs : List ι) (row : ι → List Int) (c : ι → Int) (mem : ∀ g ∈ gs, row g ∈ rs) (ox : RowOk cl n x)
    (h : ∀ k, k < n → x.getD k 0 = ((gs.map fun g => c g * (row g).getD k 0).sum) % cl) : Spn cl n rs x := by
  have aux : ∀ qs : List ι, (∀ g ∈ qs, row g ∈ rs) → ∃ y, Spn cl n rs y ∧ ∀ k, y.getD k 0 = ((qs.map fun g => c g * (row g).getD k 0).sum) % cl := by
    intro qs
    induction qs with
    | nil => exact fun _ => ⟨_, .zero, fun k => by rw [zeroR_at]; rfl⟩
    | cons g qs ih =>
      intro mq
      obtain ⟨y, sy, hy⟩ := ih fun g' m' => mq g' (List.mem_cons_of_mem _ m')
      have mg := mq g (List.mem_cons_self ..)
      refine ⟨_, sy.add (c g) mg, fun k => ?_⟩
      rw [adM_at (by rw [(sy.ok h0 o).1, (o _ mg).1]), hy k, em_l, List.map_cons, List.sum_cons]
      congr 1
      omega
  obtain ⟨y, sy, hy⟩ := aux gs mem
  have oy := sy.ok h0 o
  have e : x = y := row_ext' (by rw [ox.1, oy.1]) fun k hk => by rw [h k (by rw [← ox.1]; exact hk), hy k]
  rw [e]
  exact sy
/-! free rows -/
def freeR (cl : Int) (n : Nat) (ls : List (List Int)) (g : Nat) : List Int := ls.foldl (fun acc r => acc.set (leadOf r) ((cl - r.getD g 0) % cl)) ((zeroR n).set g 1)
def gapP (ls : List (List Int)) (g : Nat) : Bool := !(ls.map leadOf).contains g
def gapsF (n : Nat) (ls : List (List Int)) : List Nat := (List.range n).filter (gapP ls)
def uprightF (cl : Int) (n : Nat) (ls : List (List Int)) : List (List Int) := (gapsF n ls).map (freeR cl n ls)
theorem gapP_yes {k : Nat} : gapP ls k = true ↔ k ∉ ls.map leadOf := by
  unfold gapP
  rw [Bool.not_eq_true', ← Bool.not_eq_true, List.contains_iff_mem]
theorem set_gd {xs : List Int} {i k : Nat} {v : Int} : (xs.set i v).getD k 0 = if i = k ∧ i < xs.length then v else xs.getD k 0 := by
  rw [List.getD_eq_getElem?_getD, List.getElem?_set, List.getD_eq_getElem?_getD]
  by_cases e : i = k
  · subst e
    by_cases h : i < xs.length
    · rw [if_pos rfl, if_pos h, if_pos ⟨rfl, h⟩]; rfl
    · rw [if_pos rfl, if_neg h, if_neg (fun z => h z.2), List.getElem?_eq_none (by omega)]
  · rw [if_neg e, if_neg (fun z => e z.1)]
theorem sets_len {w : List Int → Int} : ∀ {ls : List (List Int)} {acc : List Int}, (ls.foldl (fun acc r => acc.set (leadOf r) (w r)) acc).length = acc.length
  | [], _ => rfl
  | r :: ls, acc => by rw [List.foldl_cons, sets_len, List.length_set]
theorem sets_off {w : List Int → Int} {k : Nat} : ∀ {ls : List (List Int)} {acc : List Int}, k ∉ ls.map leadOf → (ls.foldl (fun acc r => acc.set (leadOf r) (w r)) acc).getD k 0 = acc.getD k 0
  | [], _, _ => rfl
  | r :: ls, acc, h => by
    rw [List.map_cons, List.mem_cons, not_or] at h
    rw [List.foldl_cons, sets_off h.2, set_gd, if_neg (fun z => h.1 z.1.symm)]
theorem sets_on {w : List Int → Int} : ∀ {ls : List (List Int)} {acc : List Int}, (ls.map leadOf).Nodup → r ∈ ls → leadOf r < acc.length → (ls.foldl (fun acc r => acc.set (leadOf r) (w r)) acc).getD (leadOf r) 0 = w r
  | [], _, _, m, _ => nomatch m
  | s :: ls, acc, nd, m, lt => by
    rw [List.map_cons, List.nodup_cons] at nd
    rw [List.foldl_cons]
    rcases List.mem_cons.mp m with e | m'
    · subst e
      rw [sets_off nd.1, set_gd, if_pos ⟨rfl, lt⟩]
    · exact sets_on nd.2 m' (by rw [List.length_set]; exact lt)
theorem LF.leads (h : LF cl n ls) : (ls.map leadOf).Nodup := by
  refine List.nodup_iff_pairwise_ne.mpr (List.pairwise_map.mpr (h.asc.imp fun a => by omega))
theorem LF.leads_lt (h : LF cl n ls) : ∀ p ∈ ls.map leadOf, p < n := fun p m => by
  obtain ⟨r, mr, rfl⟩ := List.mem_map.mp m
  exact (h.lead r mr).1
theorem free_len {k : Nat} : (freeR cl n ls k).length = n := by
  unfold freeR
  rw [sets_len, List.length_set]
  exact List.length_replicate ..
theorem free_off {j k : Nat} (hj : j < n) (h : k ∉ ls.map leadOf) : (freeR cl n ls j).getD k 0 = if k = j then 1 else 0 := by
  unfold freeR
  rw [sets_off h, set_gd, zeroR_at]
  by_cases e : k = j
  · rw [if_pos e, if_pos ⟨e.symm, by show j < (List.replicate n (0 : Int)).length; rw [List.length_replicate]; exact hj⟩]
  · rw [if_neg e, if_neg (fun z => e z.1.symm)]
theorem free_on (h : LF cl n ls) {j : Nat} (m : r ∈ ls) : (freeR cl n ls j).getD (leadOf r) 0 = (cl - r.getD j 0) % cl := by
  unfold freeR
  exact sets_on h.leads m (by rw [List.length_set]; show _ < (List.replicate n (0 : Int)).length; rw [List.length_replicate]; exact (h.lead r m).1)
theorem free_ok (h1 : 1 < cl) (h : LF cl n ls) {j : Nat} (hj : j < n) : RowOk cl n (freeR cl n ls j) := by
  refine ⟨free_len, fun v mv => ?_⟩
  obtain ⟨k, hk, e⟩ := List.mem_iff_getElem.mp mv
  have e2 : (freeR cl n ls j).getD k 0 = v := by rw [List.getD_eq_getElem?_getD, List.getElem?_eq_getElem hk, e]; rfl
  by_cases c : k ∈ ls.map leadOf
  · obtain ⟨r, mr, rfl⟩ := List.mem_map.mp c
    rw [free_on h mr] at e2
    have := Int.emod_nonneg (cl - r.getD j 0) (show cl ≠ 0 by omega)
    have := Int.emod_lt_of_pos (cl - r.getD j 0) (show 0 < cl by omega)
    omega
  · rw [free_off hj c] at e2
    split at e2 <;> omega
theorem gaps_mem {k : Nat} : k ∈ gapsF n ls ↔ k < n ∧ k ∉ ls.map leadOf := by
  unfold gapsF
  rw [List.mem_filter, List.mem_range, gapP_yes]
theorem upright_ok (h1 : 1 < cl) (h : LF cl n ls) : RowsOk cl n (uprightF cl n ls) := fun r m => by
  obtain ⟨k, mk, rfl⟩ := List.mem_map.mp m
  exact free_ok h1 h (gaps_mem.mp mk).1
theorem leads_sum {f : Nat → Int} : ((ls.map leadOf).map f).sum = colS ls fun r => f (leadOf r) := by
  unfold colS
  rw [List.map_map]
  rfl
/-- a row of a least form, with any row -/
theorem LF.dot (h : LF cl n ls) (m : r ∈ ls) (x : List Int) : dotR n r x = gS n (fun k => if k ∈ ls.map leadOf then 0 else r.getD k 0 * x.getD k 0) + x.getD (leadOf r) 0 := by
  unfold dotR
  rw [gS_split _ h.leads h.leads_lt, leads_sum, colS_one (r := r) h.nodup m fun s ms ne => by rw [h.clr s ms r m ne, Int.zero_mul], (h.lead r m).2, Int.one_mul]
theorem neg_em {a : Int} (h : 0 < cl) (x : Int) : (x * ((cl - a) % cl)) % cl = (0 + -1 * (x * a)) % cl := by
  rw [Int.mul_emod, Int.emod_emod, ← Int.mul_emod, Int.mul_sub, Int.zero_add, show x * cl - x * a = -1 * (x * a) + cl * x by rw [Int.mul_comm cl x]; omega, Int.add_mul_emod_self_left]
/-- the free rows agree -/
theorem free_perp (h1 : 1 < cl) (h : LF cl n ls) (m : r ∈ ls) {j : Nat} (mj : j ∈ gapsF n ls) : dotR n r (freeR cl n ls j) % cl = 0 := by
  obtain ⟨hj, nj⟩ := gaps_mem.mp mj
  rw [h.dot m, free_on h m]
  have e : gS n (fun k => if k ∈ ls.map leadOf then 0 else r.getD k 0 * (freeR cl n ls j).getD k 0) = r.getD j 0 := by
    rw [← gS_point (c := r.getD j 0) hj]
    refine gS_congr fun k _ => ?_
    by_cases c : k ∈ ls.map leadOf
    · rw [if_pos c, if_neg (fun e => nj (by rw [← e]; exact c))]
    · rw [if_neg c, free_off hj c]
      by_cases e : k = j
      · rw [if_pos e, if_pos e, e, Int.mul_one]
      · rw [if_neg e, if_neg e, Int.mul_zero]
  rw [e, Int.add_emod, Int.emod_emod, ← Int.add_emod, show r.getD j 0 + (cl - r.getD j 0) = cl by omega, Int.emod_self]
/-- what agrees is told by the free rows -/
theorem upright_mem (h1 : 1 < cl) (h : LF cl n ls) : Spn cl n (uprightF cl n ls) x ↔ RowOk cl n x ∧ ∀ r ∈ ls, dotR n r x % cl = 0 := by
  constructor
  · intro a
    refine ⟨a.ok (by omega) (upright_ok h1 h), fun r m => a.perp (by omega) (upright_ok h1 h) fun f mf => ?_⟩
    obtain ⟨k, mk, rfl⟩ := List.mem_map.mp mf
    exact free_perp h1 h m mk
  · rintro ⟨ox, hx⟩
    refine Spn.of_sum (by omega) (upright_ok h1 h) (gapsF n ls) (freeR cl n ls) (fun g => x.getD g 0) (fun g mg => List.mem_map.mpr ⟨g, mg, rfl⟩) ox fun k hk => ?_
    have dx := dig_gd ox.2 (by omega : 0 < cl) k
    unfold gapsF
    rw [filt_sum]
    by_cases c : k ∈ ls.map leadOf
    · obtain ⟨r, mr, rfl⟩ := List.mem_map.mp c
      have d := hx r mr
      rw [h.dot mr] at d
      have e := gS_lin cl (-1) n (fun g => if gapP ls g = true then x.getD g 0 * (freeR cl n ls g).getD (leadOf r) 0 else 0) (fun _ => 0) (fun g => if g ∈ ls.map leadOf then 0 else r.getD g 0 * x.getD g 0) fun g _ => by
        by_cases cg : g ∈ ls.map leadOf
        · rw [if_neg (fun z => gapP_yes.mp z cg), if_pos cg]; rfl
        · rw [if_pos (gapP_yes.mpr cg), if_neg cg, free_on h mr, neg_em (by omega), Int.mul_comm (r.getD g 0)]
      rw [e, gS_none (f := fun _ => 0) fun _ _ => rfl, Int.zero_add]
      generalize gS n (fun k => if k ∈ ls.map leadOf then 0 else r.getD k 0 * x.getD k 0) = S at d ⊢
      have : (-1 * S) % cl = (x.getD (leadOf r) 0 + cl * -((S + x.getD (leadOf r) 0) / cl)) % cl := by
        congr 1
        have := Int.emod_add_mul_ediv (S + x.getD (leadOf r) 0) cl
        rw [d] at this
        rw [Int.mul_neg]
        omega
      rw [this, Int.add_mul_emod_self_left, em_of dx]
    · have e : gS n (fun g => if gapP ls g = true then x.getD g 0 * (freeR cl n ls g).getD k 0 else 0) = x.getD k 0 := by
        rw [← gS_point (c := x.getD k 0) hk]
        refine gS_congr fun g hg => ?_
        by_cases cg : g ∈ ls.map leadOf
        · rw [if_neg (fun z => gapP_yes.mp z cg), if_neg (fun e => c (by rw [← e]; exact cg))]
        · rw [if_pos (gapP_yes.mpr cg), free_off hg c]
          by_cases e : k = g
          · rw [if_pos e, if_pos e.symm, e, Int.mul_one]
          · rw [if_neg e, if_neg (Ne.symm e), Int.mul_zero]
      rw [e, em_of dx]
/-- what agrees with all that agrees -/
theorem upright_perp (h1 : 1 < cl) (h : LF cl n ls) (ox : RowOk cl n x) (d : ∀ j ∈ gapsF n ls, dotR n (freeR cl n ls j) x % cl = 0) : Spn cl n ls x := by
  refine Spn.of_sum (by omega) h.ok ls (fun r => r) (fun r => x.getD (leadOf r) 0) (fun g mg => mg) ox fun k hk => ?_
  have dx := dig_gd ox.2 (by omega : 0 < cl) k
  show _ = (colS ls fun r => x.getD (leadOf r) 0 * r.getD k 0) % cl
  by_cases c : k ∈ ls.map leadOf
  · obtain ⟨r, mr, rfl⟩ := List.mem_map.mp c
    rw [colS_one h.nodup mr fun s ms ne => by rw [h.clr r mr s ms (Ne.symm ne), Int.mul_zero], (h.lead r mr).2, Int.mul_one, em_of dx]
  · have dk := d k (gaps_mem.mpr ⟨hk, c⟩)
    unfold dotR at dk
    rw [gS_split _ h.leads h.leads_lt, leads_sum] at dk
    have e : gS n (fun j => if j ∈ ls.map leadOf then 0 else (freeR cl n ls k).getD j 0 * x.getD j 0) = x.getD k 0 := by
      rw [← gS_point (c := x.getD k 0) hk]
      refine gS_congr fun j _ => ?_
      by_cases cj : j ∈ ls.map leadOf
      · rw [if_pos cj, if_neg (fun e => c (by rw [← e]; exact cj))]
      · rw [if_neg cj, free_off hk cj]
        by_cases e : j = k
        · rw [if_pos e, if_pos e, e, Int.one_mul]
        · rw [if_neg e, if_neg e, Int.zero_mul]
    rw [e] at dk
    have e2 := colS_lin (fun r => (freeR cl n ls k).getD (leadOf r) 0 * x.getD (leadOf r) 0) (fun _ => 0) (fun r => x.getD (leadOf r) 0 * r.getD k 0) (-1) cl ls fun r mr => by
      rw [free_on h mr, Int.mul_comm, neg_em (by omega)]
    rw [colS_zero (fun _ => 0) ls fun _ _ => rfl, Int.zero_add] at e2
    generalize (colS ls fun r => x.getD (leadOf r) 0 * r.getD k 0) = S at e2 ⊢
    rw [Int.add_emod, e2, ← Int.add_emod] at dk
    have : S % cl = (x.getD k 0 + cl * -((x.getD k 0 + -1 * S) / cl)) % cl := by
      congr 1
      have := Int.emod_add_mul_ediv (x.getD k 0 + -1 * S) cl
      rw [dk] at this
      rw [Int.mul_neg]
      omega
    rw [this, Int.add_mul_emod_self_left, em_of dx]
/-! steps -/
def stepsM (cl : Int) (xs : List Int) : List Int := modRow cl (stepsF xs)
theorem stepsM_len : (stepsM cl x).length = x.length := by unfold stepsM; rw [modRow_len, stepsF_len]
theorem stepsM_at {k : Nat} (h : k < x.length) : (stepsM cl x).getD k 0 = stepAt x k % cl := by
  unfold stepsM
  rw [modRow_at, List.getD_eq_getElem?_getD, stepsF_at h]
  rfl
theorem stepsM_ok (h : 0 < cl) (o : RowOk cl n x) : RowOk cl n (stepsM cl x) := ⟨by rw [stepsM_len, o.1], by unfold stepsM; exact modRow_dig h _⟩
theorem stepsM_zero : stepsM cl (zeroR n) = zeroR n := by
  refine row_ext' stepsM_len fun k hk => ?_
  rw [stepsM_len] at hk
  rw [stepsM_at hk]
  unfold stepAt
  rw [zeroR_at, zeroR_at, zeroR_at]
  rfl
theorem stepsM_adM (a : RowOk cl n x) (b : RowOk cl n y) : stepsM cl (adM cl t x y) = adM cl t (stepsM cl x) (stepsM cl y) := by
  have l : x.length = y.length := by rw [a.1, b.1]
  refine row_ext' (by rw [stepsM_len, adM_len l, adM_len (by rw [stepsM_len, stepsM_len, l]), stepsM_len]) fun k hk => ?_
  rw [stepsM_len, adM_len l] at hk
  rw [stepsM_at (by rw [adM_len l]; exact hk), adM_at (by rw [stepsM_len, stepsM_len, l]), stepsM_at hk, stepsM_at (by omega), em_l, em_r]
  unfold stepAt
  rw [adM_len l, ← l, adM_at l, adM_at l, Int.sub_emod, Int.emod_emod, Int.emod_emod, ← Int.sub_emod, Int.mul_sub]
  congr 1
  omega
theorem rsteps_ok (h : 0 < cl) (o : RowsOk cl n rs) : RowsOk cl n (rs.map (stepsM cl)) := fun y m => by
  obtain ⟨z, mz, rfl⟩ := List.mem_map.mp m
  exact stepsM_ok h (o z mz)
theorem Spn.steps (h0 : 0 < cl) (o : RowsOk cl n rs) (a : Spn cl n rs x) : Spn cl n (rs.map (stepsM cl)) (stepsM cl x) := by
  induction a with
  | zero => rw [stepsM_zero]; exact .zero
  | @add x r t a m ih =>
    rw [stepsM_adM (a.ok h0 o) (o r m)]
    exact .add t ih (List.mem_map.mpr ⟨r, m, rfl⟩)
theorem Spn.steps_of (h0 : 0 < cl) (o : RowsOk cl n rs) (a : Spn cl n (rs.map (stepsM cl)) y) : ∃ x, Spn cl n rs x ∧ stepsM cl x = y := by
  induction a with
  | zero => exact ⟨_, .zero, stepsM_zero⟩
  | @add z r t a m ih =>
    obtain ⟨x, sx, ex⟩ := ih
    obtain ⟨s, ms, rfl⟩ := List.mem_map.mp m
    exact ⟨_, sx.add t ms, by rw [stepsM_adM (sx.ok h0 o) (o s ms), ex]⟩
/-- one row with the other's steps is their swing -/
theorem dot_steps (a : RowOk cl n x) (b : RowOk cl n y) : dotR n (stepsM cl x) y % cl = swL x y % cl := by
  rw [← swing_eq (by rw [a.1, b.1])]
  unfold swingF
  rw [zip_sum y (stepsF x) (by rw [stepsF_len, a.1, b.1]), b.1]
  refine gS_mod fun k hk => ?_
  show ((stepsM cl x).getD k 0 * _) % cl = _
  rw [stepsM_at (by rw [a.1]; exact hk), Int.mul_emod, Int.emod_emod, ← Int.mul_emod, Int.mul_comm]
  congr 2
  rw [List.getD_eq_getElem?_getD, stepsF_at (by rw [a.1]; exact hk)]
  rfl
theorem dot_turn (a : RowOk cl n x) (b : RowOk cl n y) : dotR n (stepsM cl x) y % cl = 0 ↔ dotR n x (stepsM cl y) % cl = 0 := by
  have e0 := swL_anti (xs := x) (ys := y) (by rw [a.1, b.1])
  rw [dot_comm x, dot_steps a b, dot_steps b a, e0]
  constructor
  · intro e; exact Int.emod_eq_zero_of_dvd (Int.dvd_neg.mpr (Int.dvd_of_emod_eq_zero e))
  · intro e; exact Int.emod_eq_zero_of_dvd (Int.dvd_neg.mp (Int.dvd_of_emod_eq_zero e))
/-! beside -/
theorem least_spn (hc : cl ∈ clocks) (o : RowsOk cl n rs) : Spn cl n (leastForm cl n rs) x ↔ Spn cl n rs x := by
  obtain ⟨f, a, b⟩ := least_ok hc o
  have c3 := clocks_3 hc
  exact ⟨fun s => s.mono (by omega) f.ok o a, fun s => s.mono (by omega) o f.ok b⟩
theorem least_steps (hc : cl ∈ clocks) (o : RowsOk cl n rs) : leastForm cl n ((leastForm cl n rs).map (stepsM cl)) = leastForm cl n (rs.map (stepsM cl)) := by
  obtain ⟨f, a, b⟩ := least_ok hc o
  have c3 := clocks_3 hc
  refine least_same hc (rsteps_ok (by omega) f.ok) (rsteps_ok (by omega) o) (fun r m => ?_) fun r m => ?_
  · obtain ⟨x, mx, rfl⟩ := List.mem_map.mp m
    exact (a x mx).steps (by omega) o
  · obtain ⟨x, mx, rfl⟩ := List.mem_map.mp m
    exact (b x mx).steps (by omega) f.ok
def besideF (cl : Int) (n : Nat) (rs : List (List Int)) : List (List Int) := leastForm cl n (uprightF cl n (leastForm cl n (rs.map (stepsM cl))))
theorem beside_ok (hc : cl ∈ clocks) (o : RowsOk cl n rs) : RowsOk cl n (uprightF cl n (leastForm cl n (rs.map (stepsM cl)))) := by
  have c3 := clocks_3 hc
  exact upright_ok (by omega) (least_ok hc (rsteps_ok (by omega) o)).1
theorem beside_rows (hc : cl ∈ clocks) (o : RowsOk cl n rs) : LF cl n (besideF cl n rs) := (least_ok hc (beside_ok hc o)).1
theorem beside_least (hc : cl ∈ clocks) (o : RowsOk cl n rs) : besideF cl n (leastForm cl n rs) = besideF cl n rs := by
  unfold besideF
  rw [least_steps hc o]
/-- what stands beside: the rows that swing with none -/
theorem beside_mem (hc : cl ∈ clocks) (o : RowsOk cl n rs) : Spn cl n (besideF cl n rs) x ↔ RowOk cl n x ∧ ∀ y ∈ rs, dotR n (stepsM cl y) x % cl = 0 := by
  have c3 := clocks_3 hc
  have os := rsteps_ok (cl := cl) (n := n) (by omega) o
  unfold besideF
  rw [least_spn hc (beside_ok hc o), upright_mem (by omega) (least_ok hc os).1]
  constructor
  · rintro ⟨ox, h⟩
    refine ⟨ox, fun y my => ?_⟩
    rw [dot_comm]
    refine Spn.perp (by omega) (least_ok hc os).1.ok ((least_spn hc os).mpr (.of (by omega) os (List.mem_map.mpr ⟨y, my, rfl⟩))) fun r mr => ?_
    rw [dot_comm]
    exact h r mr
  · rintro ⟨ox, h⟩
    refine ⟨ox, fun r mr => ?_⟩
    rw [dot_comm]
    refine Spn.perp (by omega) os ((least_ok hc os).2.1 r mr) fun s ms => ?_
    obtain ⟨y, my, rfl⟩ := List.mem_map.mp ms
    rw [dot_comm]
    exact h y my
theorem beside_spn (hc : cl ∈ clocks) (o : RowsOk cl n rs) : Spn cl n (besideF cl n rs) x ↔ RowOk cl n x ∧ ∀ y, Spn cl n rs y → dotR n (stepsM cl y) x % cl = 0 := by
  have c3 := clocks_3 hc
  rw [beside_mem hc o]
  constructor
  · rintro ⟨ox, h⟩
    refine ⟨ox, fun y sy => ?_⟩
    rw [dot_comm]
    refine Spn.perp (by omega) (rsteps_ok (by omega) o) (sy.steps (by omega) o) fun s ms => ?_
    obtain ⟨z, mz, rfl⟩ := List.mem_map.mp ms
    rw [dot_comm]
    exact h z mz
  · rintro ⟨ox, h⟩
    exact ⟨ox, fun y my => h y (.of (by omega) o my)⟩
/-! chess rows -/
def chessL (k : Nat) : List (List Int) := [(List.replicate k [1, 0]).flatten, (List.replicate k [0, 1]).flatten]
theorem flat_at {u v : Int} : ∀ {h k : Nat}, k < 2 * h → ((List.replicate h [u, v]).flatten).getD k 0 = if k % 2 = 0 then u else v
  | 0, _, e => by omega
  | h + 1, 0, _ => rfl
  | h + 1, 1, _ => rfl
  | h + 1, k + 2, e => by
    rw [List.replicate_succ, List.flatten_cons]
    show ((List.replicate h [u, v]).flatten).getD k 0 = _
    rw [flat_at (by omega), Nat.add_mod_right]
theorem flat_len {u v : Int} : ∀ k : Nat, ((List.replicate k [u, v]).flatten).length = 2 * k
  | 0 => rfl
  | k + 1 => by rw [List.replicate_succ, List.flatten_cons, List.length_append, flat_len k]; show 2 + 2 * k = _; omega
theorem flat_ok {u v : Int} (hu : 0 ≤ u ∧ u < cl) (hv : 0 ≤ v ∧ v < cl) (k : Nat) : RowOk cl (2 * k) ((List.replicate k [u, v]).flatten) := by
  refine ⟨flat_len k, fun y m => ?_⟩
  obtain ⟨i, hi, e⟩ := List.mem_iff_getElem.mp m
  have z := flat_at (u := u) (v := v) (h := k) (k := i) (by rw [flat_len] at hi; exact hi)
  rw [List.getD_eq_getElem?_getD, List.getElem?_eq_getElem hi, e] at z
  have z' : y = if i % 2 = 0 then u else v := z
  split at z' <;> omega
theorem chessL_ok (h : 1 < cl) (k : Nat) : RowsOk cl (2 * k) (chessL k) := fun r m => by
  rcases List.mem_cons.mp m with e | m
  · rw [e]; exact flat_ok (by omega) (by omega) k
  · rw [List.mem_singleton.mp m]; exact flat_ok (by omega) (by omega) k
/-- rows without steps are sums of the chess rows -/
theorem steps_none (h : 1 < cl) {k : Nat} (ox : RowOk cl (2 * k) x) (e : stepsM cl x = zeroR (2 * k)) : Spn cl (2 * k) (chessL k) x := by
  have nx : ∀ j, j + 2 < 2 * k → x.getD (j + 2) 0 = x.getD j 0 := fun j hj => by
    have z := stepsM_at (cl := cl) (x := x) (k := j + 1) (by rw [ox.1]; omega)
    rw [e, zeroR_at] at z
    unfold stepAt at z
    rw [if_neg (by omega), if_neg (by rw [ox.1]; omega), Nat.add_sub_cancel] at z
    have a := dig_gd ox.2 (by omega : 0 < cl) j
    have b := dig_gd ox.2 (by omega : 0 < cl) (j + 1 + 1)
    have d := Int.emod_emod_of_dvd
    have c1 : x.getD j 0 % cl = x.getD (j + 1 + 1) 0 % cl := Int.emod_eq_emod_iff_emod_sub_eq_zero.mpr z.symm
    rw [em_of a, em_of b] at c1
    exact c1.symm
  have par : ∀ j, j < 2 * k → x.getD j 0 = x.getD (j % 2) 0 := fun j => by
    induction j using Nat.strongRecOn with
    | ind j ih =>
      intro hj
      by_cases c : j < 2
      · rw [Nat.mod_eq_of_lt c]
      · obtain ⟨i, rfl⟩ : ∃ i, j = i + 2 := ⟨j - 2, by omega⟩
        rw [nx i hj, ih i (by omega) (by omega), Nat.add_mod_right]
  refine Spn.of_sum (by omega) (chessL_ok h k) [0, 1] (fun g : Nat => (List.replicate k [if g = 0 then 1 else 0, if g = 0 then 0 else 1]).flatten) (fun g => x.getD g 0) (fun g mg => ?_) ox fun j hj => ?_
  · rcases List.mem_cons.mp mg with e | m
    · subst e; exact List.mem_cons_self ..
    · rw [List.mem_singleton.mp m]; exact List.mem_cons_of_mem _ (List.mem_cons_self ..)
  · have dx := dig_gd ox.2 (by omega : 0 < cl) (j % 2)
    rw [par j hj]
    show _ = (x.getD 0 0 * ((List.replicate k [1, 0]).flatten).getD j 0 + (x.getD 1 0 * ((List.replicate k [0, 1]).flatten).getD j 0 + 0)) % cl
    rw [flat_at hj, flat_at hj]
    rcases Nat.mod_two_eq_zero_or_one j with e | e
    · rw [e] at dx ⊢
      rw [if_pos rfl, if_pos rfl, Int.mul_one, Int.mul_zero, Int.zero_add, Int.add_zero, em_of dx]
    · rw [e] at dx ⊢
      rw [if_neg (by decide), if_neg (by decide), Int.mul_one, Int.mul_zero, Int.zero_add, Int.add_zero, em_of dx]
theorem chess_steps (h : 1 < cl) {k : Nat} : ∀ r ∈ chessL k, stepsM cl r = zeroR (2 * k) := fun r m => by
  have aux : ∀ u v : Int, stepsM cl ((List.replicate k [u, v]).flatten) = zeroR (2 * k) := fun u v => by
    refine row_ext' (by rw [stepsM_len, flat_len]; exact (List.length_replicate ..).symm) fun j hj => ?_
    rw [stepsM_len, flat_len] at hj
    rw [stepsM_at (by rw [flat_len]; exact hj), zeroR_at]
    unfold stepAt
    rw [flat_len, flat_at (by split <;> omega), flat_at (by split <;> omega)]
    have e : (if j = 0 then 2 * k - 1 else j - 1) % 2 = (if j + 1 = 2 * k then 0 else j + 1) % 2 := by split <;> split <;> omega
    rw [e, Int.sub_self]
    rfl
  rcases List.mem_cons.mp m with e | m
  · rw [e]; exact aux 1 0
  · rw [List.mem_singleton.mp m]; exact aux 0 1
theorem ok_append (o : RowsOk cl n rs) (o2 : RowsOk cl n ss) : RowsOk cl n (rs ++ ss) := fun r m => (List.mem_append.mp m).elim (o r) (o2 r)
/-- beside what stands beside -/
theorem beside_beside (hc : cl ∈ clocks) {k : Nat} (o : RowsOk cl (2 * k) rs) : besideF cl (2 * k) (besideF cl (2 * k) rs) = leastForm cl (2 * k) (rs ++ chessL k) := by
  have c3 := clocks_3 hc
  have oc := chessL_ok (cl := cl) (by omega) k
  have oa := ok_append o oc
  have ob := (beside_rows hc o).ok
  refine (least_is hc oa (beside_rows hc ob) (fun r m => ?_) fun r m => ?_).symm
  · obtain ⟨or, hr⟩ := (beside_spn hc ob).mp (.of (by omega) (beside_rows hc ob).ok m)
    have os := rsteps_ok (cl := cl) (n := 2 * k) (by omega) o
    have f := (least_ok hc os).1
    have s := upright_perp (by omega) f (stepsM_ok (by omega) or) fun j mj => by
      have mf : freeR cl (2 * k) (leastForm cl (2 * k) (rs.map (stepsM cl))) j ∈ uprightF cl (2 * k) (leastForm cl (2 * k) (rs.map (stepsM cl))) := List.mem_map.mpr ⟨j, mj, rfl⟩
      exact (dot_turn (beside_ok hc o _ mf) or).mp (hr _ ((least_spn hc (beside_ok hc o)).mpr (.of (by omega) (beside_ok hc o) mf)))
    obtain ⟨z, sz, ez⟩ := ((least_spn hc os).mp s).steps_of (by omega) o
    have oz := sz.ok (by omega) o
    have sc := steps_none (x := adM cl (-1) r z) (by omega) (adM_ok (by omega) or oz) (by
      rw [stepsM_adM or oz, ez]
      refine row_ext' (by rw [adM_len rfl, stepsM_len, or.1]; exact (List.length_replicate ..).symm) fun j _ => ?_
      rw [adM_at rfl, zeroR_at, show (stepsM cl r).getD j 0 + -1 * (stepsM cl r).getD j 0 = 0 by omega]
      rfl)
    have e := adM_back (t := -1) (by omega : 0 < cl) or oz
    have s2 := (sc.sub (ss := rs ++ chessL k) fun r m => List.mem_append.mpr (.inr m)).comb (by omega) oa (sz.sub fun r m => List.mem_append.mpr (.inl m)) (-(-1))
    rw [e] at s2
    exact s2
  · refine (beside_mem hc ob).mpr ⟨oa r m, fun y my => ?_⟩
    have oy := ob y my
    rw [dot_turn oy (oa r m)]
    rcases List.mem_append.mp m with mr | mc
    · rw [dot_comm]
      exact ((beside_mem hc o).mp (.of (by omega) ob my)).2 r mr
    · rw [chess_steps (by omega) r mc, dot_zero]
      rfl
theorem beside_thrice (hc : cl ∈ clocks) {k : Nat} (o : RowsOk cl (2 * k) rs) : besideF cl (2 * k) (besideF cl (2 * k) (besideF cl (2 * k) rs)) = besideF cl (2 * k) rs := by
  have c3 := clocks_3 hc
  have oc := chessL_ok (cl := cl) (by omega) k
  have oa := ok_append o oc
  rw [beside_beside hc o, beside_least hc oa]
  refine LF.one (by omega) (beside_rows hc oa) (beside_rows hc o) (fun r m => ?_) fun r m => ?_
  · obtain ⟨ox, h⟩ := (beside_mem hc oa).mp (.of (by omega) (beside_rows hc oa).ok m)
    exact (beside_mem hc o).mpr ⟨ox, fun y my => h y (List.mem_append.mpr (.inl my))⟩
  · obtain ⟨ox, h⟩ := (beside_mem hc o).mp (.of (by omega) (beside_rows hc o).ok m)
    refine (beside_mem hc oa).mpr ⟨ox, fun y my => ?_⟩
    rcases List.mem_append.mp my with mr | mc
    · exact h y mr
    · rw [chess_steps (by omega) y mc, dot_comm, dot_zero]
      rfl
theorem beside_swing (hc : cl ∈ clocks) (o : RowsOk cl n rs) (mx : x ∈ rs) (my : y ∈ besideF cl n rs) : swL x y % cl = 0 := by
  have c3 := clocks_3 hc
  have ob := (beside_rows hc o).ok
  rw [← dot_steps (o x mx) (ob y my)]
  exact ((beside_mem hc o).mp (.of (by omega) ob my)).2 x mx
end
end Rp
namespace Rp
open PySem PySem.Spec PyProof.Rows L2 LamX RZ
section
variable {J : It} {n : Nat} {G : Hp → Prop} {Y : Nat → Hp → V → Hp → Prop} {g : TG} {te : TE} {tt : TT} {vs : List Nat} {σ : L2.St} {H1 : Hp} {D : Addr} {Qd : Hp → Prop}
/-- rows, of those of which a test holds -/
theorem lc_fltR (W : Walk J n G Y) (p : Nat → Bool) (f : Nat → List Int) (hG : ∀ H, Same H1 H → G H) (hD : H1 D = none) (hn : n < sizeLine)
    (step : ∀ i x H H', i < n → Same H1 H → (∃ xs, H D = some (.lst xs)) → Y i H x H' → ∀ (T : VK) (F : Hp → Prop), (p i = true → ∀ a H4, Same H H4 → a ≠ D → H4 a = some (.lst ((f i).map V.int)) → T (.ref a) H4) → (p i = false → ∀ H4, Same H H4 → F H4) →
      g x (wipe σ vs) H' fun σ2 H2 => wipe σ2 vs = wipe σ vs ∧ tt σ2 H2 fun b H3 => if b = true then te σ2 H3 T else F H3)
    (done : ∀ H as, Same H1 H → H D = some (.lst (as.map V.ref)) → LstRw D H as (((List.range n).filter p).map f) → Qd H) :
    ∃ W : Nat → Nat → Hp → Prop, (∃ m, W 0 m (upd H1 D (.lst []))) ∧ ∀ (i m : Nat) (H : Hp), W i m H → J.stop i H ∧ Qd H ∨ J.go i H ∧ ∃ Nx : Hp → Prop, (∀ H', Nx H' → ∃ m', m' < m ∧ W (i + 1) m' H') ∧
      ∀ (x : V) (H' : Hp), J.yld i H x H' → g x (wipe σ vs) H' fun σ2 H2 => wipe σ2 vs = wipe σ vs ∧ tt σ2 H2 fun b H3 => if b = true then te σ2 H3 fun y H4 => ∃ acc, H4 D = some (.lst acc) ∧ acc.length < sizeLine ∧ Nx (upd H4 D (.lst (acc ++ [y]))) else Nx H3 := by
  refine lc_it W (tt := tt) (fun i H => Same H1 H ∧ ∃ as, H D = some (.lst (as.map V.ref)) ∧ LstRw D H as (((List.range i).filter p).map f)) ⟨same_neu (Same.refl _) hD, [], upd_same, rfl, fun i a xs e => by simp at e⟩ (fun i H _ h => hG H h.1) ?_ ?_
  · rintro i x H H' hi ⟨s, as, eD, R⟩ hY
    refine step i x H H' hi s ⟨_, eD⟩ hY _ _ (fun pt a H4 s4 na ea => ?_) fun pf H4 s4 => ?_
    · refine ⟨_, s4 _ _ eD, ?_, fun b o e => ?_, as ++ [a], ?_, ?_⟩
      · rw [List.length_map, R.1, List.length_map]
        refine Nat.lt_of_le_of_lt (List.length_filter_le _ _) ?_
        rw [List.length_range]
        omega
      · rw [upd_ne (ne_of_none e hD)]
        exact s4 b o (s b o e)
      · rw [upd_same, List.map_append]
        rfl
      · rw [List.range_succ, List.filter_append, List.map_append, List.filter_cons_of_pos pt]
        exact ((R.same s4).snoc na ea).but fun b o nb e => by rw [upd_ne nb]; exact e
    · refine ⟨fun b o e => s4 b o (s b o e), as, s4 _ _ eD, ?_⟩
      rw [List.range_succ, List.filter_append, List.map_append, List.filter_cons_of_neg (by rw [pf]; decide)]
      show LstRw D H4 as (_ ++ [])
      rw [List.append_nil]
      exact R.same s4
  · rintro H ⟨s, as, eD, R⟩
    exact done H as s eD R
end
/-- what stands in a list of ints -/
theorem inV_ints {i : Int} : ∀ {xs : List Int}, inV (.int i) (xs.map V.int) = xs.contains i
  | [] => rfl
  | x :: xs => by
    have ih := inV_ints (i := i) (xs := xs)
    unfold inV at ih ⊢
    rw [List.map_cons, List.any_cons, List.contains_cons, ih]
    congr 1
    show (x == i) = (i == x)
    by_cases e : x = i
    · rw [e]
    · rw [beq_eq_false_iff_ne.mpr e, beq_eq_false_iff_ne.mpr (Ne.symm e)]
end Rp
namespace Rp
/-! ### how many rows a space has; fair spaces -/
section
variable {cl t u : Int} {n m : Nat} {x y r s : List Int} {rs ss ks ls : List (List Int)}
def dimF (cl : Int) (n : Nat) (rs : List (List Int)) : Nat := (leastForm cl n rs).length
theorem back_len {ls : List (Nat × List Int)} : ∀ {as : List Nat} {st : List (Nat × List Int) × List (List Int)}, (as.foldl (backOne cl ls) st).2.length = st.2.length + as.length
  | [], _ => rfl
  | a :: as, st => by
    rw [List.foldl_cons, back_len]
    show (st.2 ++ [_]).length + as.length = _
    rw [List.length_append, List.length_singleton, List.length_cons]
    omega
theorem dim_leading : dimF cl n rs = (leading cl n rs).length := by
  unfold dimF leastForm
  show ((descend ((leading cl n rs).map (·.1))).foldl (backOne cl (leading cl n rs)) ([], [])).2.reverse.length = _
  rw [List.length_reverse, back_len, (descend_perm _).length_eq, List.length_map]
  exact Nat.zero_add _
theorem ok_snoc (o : RowsOk cl n rs) (ox : RowOk cl n x) : RowsOk cl n (rs ++ [x]) := fun y m => by
  rcases List.mem_append.mp m with m | m
  · exact o y m
  · rw [List.mem_singleton.mp m]; exact ox
theorem dim_same (hc : cl ∈ clocks) (o : RowsOk cl n rs) (o2 : RowsOk cl n ss) (f1 : ∀ r ∈ rs, Spn cl n ss r) (f2 : ∀ r ∈ ss, Spn cl n rs r) : dimF cl n rs = dimF cl n ss := by
  unfold dimF
  rw [least_same hc o o2 f1 f2]
theorem dim_in (hc : cl ∈ clocks) (o : RowsOk cl n rs) (h : Spn cl n rs x) : dimF cl n (rs ++ [x]) = dimF cl n rs := by
  have c3 := clocks_3 hc
  refine dim_same hc (ok_snoc o (h.ok (by omega) o)) o (fun r m => ?_) fun r m => ?_
  · rcases List.mem_append.mp m with m | m
    · exact .of (by omega) o m
    · rw [List.mem_singleton.mp m]; exact h
  · exact .of (by omega) (ok_snoc o (h.ok (by omega) o)) (List.mem_append_left _ m)
theorem dim_new (hc : cl ∈ clocks) (o : RowsOk cl n rs) (ox : RowOk cl n x) (h : ¬ Spn cl n rs x) : dimF cl n (rs ++ [x]) = dimF cl n rs + 1 := by
  have c3 := clocks_3 hc
  have h0 : 0 < cl := by omega
  have S := leading_S hc o
  have e : leading cl n (rs ++ [x]) = ldOne cl n (leading cl n rs) x := by
    unfold leading
    rw [List.foldl_append]
    rfl
  rw [dim_leading, dim_leading, e, ldOne_eq]
  have oL := left_M h0 S.I.ok ox
  have okL : RowOk cl n (leftOf cl (leading cl n rs) x) := by rw [oL]; exact clrM_ok h0 S.I.ok ox
  have z : ∀ l ∈ leading cl n rs, (leftOf cl (leading cl n rs) x).getD l.1 0 = 0 := by rw [oL]; exact S.I.zero h0 ox
  have hl : leadOf (leftOf cl (leading cl n rs) x) < n := by
    refine Classical.byContradiction fun hl => h ?_
    have oN := rowsL_ok S.I.ok
    have e : leadOf (leftOf cl (leading cl n rs) x) = (leftOf cl (leading cl n rs) x).length := by
      have := leadOf_le (leftOf cl (leading cl n rs) x)
      rw [okL.1] at this ⊢
      omega
    have w : Spn cl n (rowsL (leading cl n rs)) x := by
      refine clrM_back h0 oN S.I.ok ox (fun l ml => .of h0 oN (rowsL_mem ml)) ?_
      rw [← oL, full_zero e, okL.1]
      exact .zero
    exact w.mono h0 oN o fun r m => by
      obtain ⟨l, ml, rfl⟩ := List.mem_map.mp m
      exact S.to l ml
  have new : ∀ l ∈ leading cl n rs, l.1 ≠ leadOf (leftOf cl (leading cl n rs) x) := fun l m e => by
    have w := z l m
    rw [e] at w
    exact lead_ne (by rw [okL.1]; exact hl) w
  rw [if_pos hl, putL_new new, List.length_append]
  rfl
theorem dim_none (hc : cl ∈ clocks) : dimF cl n [] = 0 := by
  rw [dim_leading]
  rfl
theorem dim_grow (hc : cl ∈ clocks) : ∀ {us rs : List (List Int)}, RowsOk cl n rs → RowsOk cl n us → dimF cl n rs ≤ dimF cl n (rs ++ us)
  | [], rs, _, _ => by rw [List.append_nil]; exact Nat.le_refl _
  | u :: us, rs, o, ou => by
    have ox := ou u (List.mem_cons_self ..)
    have a := dim_grow hc (us := us) (ok_snoc o ox) fun y m => ou y (List.mem_cons_of_mem _ m)
    rw [List.append_assoc] at a
    refine Nat.le_trans ?_ a
    by_cases h : Spn cl n rs u
    · rw [dim_in hc o h]; exact Nat.le_refl _
    · rw [dim_new hc o ox h]; omega
theorem dim_mono (hc : cl ∈ clocks) (o : RowsOk cl n rs) (o2 : RowsOk cl n ss) (f : ∀ r ∈ rs, Spn cl n ss r) : dimF cl n rs ≤ dimF cl n ss := by
  have c3 := clocks_3 hc
  refine Nat.le_trans (dim_grow hc o o2) (Nat.le_of_eq (dim_same hc (ok_append o o2) o2 (fun r m => ?_) fun r m => ?_))
  · rcases List.mem_append.mp m with m | m
    · exact f r m
    · exact .of (by omega) o2 m
  · exact .of (by omega) (ok_append o o2) (List.mem_append_right _ m)
theorem dim_all (hc : cl ∈ clocks) (o : RowsOk cl n rs) (o2 : RowsOk cl n ss) (f : ∀ r ∈ rs, Spn cl n ss r) (d : dimF cl n ss ≤ dimF cl n rs) (a : Spn cl n ss x) : Spn cl n rs x := by
  have c3 := clocks_3 hc
  refine Classical.byContradiction fun h => ?_
  have ox := a.ok (by omega) o2
  have e := dim_new hc o ox h
  have g := dim_mono hc (ok_snoc o ox) o2 fun r m => by
    rcases List.mem_append.mp m with m | m
    · exact f r m
    · rw [List.mem_singleton.mp m]; exact a
  omega
/-- rows made of others, one for each -/
theorem dim_map (hc : cl ∈ clocks) {n' : Nat} {T : List Int → List Int} (ok : RowsOk cl n ks) (hT : ∀ x, RowOk cl n x → RowOk cl n' (T x))
    (h : ∀ p x, RowsOk cl n p → RowOk cl n x → (Spn cl n (ks ++ p) x ↔ Spn cl n' (p.map T) (T x))) (o : RowsOk cl n rs) : dimF cl n (ks ++ rs) = dimF cl n ks + dimF cl n' (rs.map T) := by
  have okm : ∀ {p : List (List Int)}, RowsOk cl n p → RowsOk cl n' (p.map T) := fun o y m => by
    obtain ⟨z, mz, rfl⟩ := List.mem_map.mp m
    exact hT z (o z mz)
  have aux : ∀ (us p : List (List Int)), RowsOk cl n p → RowsOk cl n us → dimF cl n (ks ++ p) = dimF cl n ks + dimF cl n' (p.map T) → dimF cl n (ks ++ (p ++ us)) = dimF cl n ks + dimF cl n' ((p ++ us).map T) := by
    intro us
    induction us with
    | nil => intro p _ _ e; rw [List.append_nil]; exact e
    | cons u us ih =>
      intro p op ou e
      have ox := ou u (List.mem_cons_self ..)
      have w := ih (p ++ [u]) (ok_snoc op ox) (fun y m => ou y (List.mem_cons_of_mem _ m)) ?_
      · rw [List.append_assoc] at w
        exact w
      · rw [← List.append_assoc, List.map_append, List.map_cons, List.map_nil]
        by_cases c : Spn cl n (ks ++ p) u
        · rw [dim_in hc (ok_append ok op) c, dim_in hc (okm op) ((h p u op ox).mp c), e]
        · rw [dim_new hc (ok_append ok op) ox c, dim_new hc (okm op) (hT u ox) fun z => c ((h p u op ox).mpr z), e]
          omega
  have z := aux rs [] (fun _ m => nomatch m) o (by rw [List.append_nil, List.map_nil, dim_none hc]; rfl)
  rw [List.nil_append] at z
  exact z
/-- a way of making rows of others that keeps sums and multiples -/
structure Lin (cl : Int) (n n' : Nat) (T : List Int → List Int) : Prop where
  ok : ∀ x, RowOk cl n x → RowOk cl n' (T x)
  zero : T (zeroR n) = zeroR n'
  lin : ∀ x y t, RowOk cl n x → RowOk cl n y → T (adM cl t x y) = adM cl t (T x) (T y)
variable {n' : Nat} {T : List Int → List Int}
theorem Lin.rows (L : Lin cl n n' T) (o : RowsOk cl n rs) : RowsOk cl n' (rs.map T) := fun y m => by
  obtain ⟨z, mz, rfl⟩ := List.mem_map.mp m
  exact L.ok z (o z mz)
theorem Lin.spn (L : Lin cl n n' T) (h0 : 0 < cl) (o : RowsOk cl n rs) (a : Spn cl n rs x) : Spn cl n' (rs.map T) (T x) := by
  induction a with
  | zero => rw [L.zero]; exact .zero
  | @add x r t a m ih =>
    rw [L.lin x r t (a.ok h0 o) (o r m)]
    exact .add t ih (List.mem_map.mpr ⟨r, m, rfl⟩)
theorem Lin.of (L : Lin cl n n' T) (h0 : 0 < cl) (o : RowsOk cl n rs) (a : Spn cl n' (rs.map T) y) : ∃ x, Spn cl n rs x ∧ T x = y := by
  induction a with
  | zero => exact ⟨_, .zero, L.zero⟩
  | @add z r t a m ih =>
    obtain ⟨x, sx, ex⟩ := ih
    obtain ⟨s, ms, rfl⟩ := List.mem_map.mp m
    exact ⟨_, sx.add t ms, by rw [L.lin x s t (sx.ok h0 o) (o s ms), ex]⟩
theorem Lin.dim (L : Lin cl n n' T) (hc : cl ∈ clocks) (inj : ∀ x y, RowOk cl n x → RowOk cl n y → T x = T y → x = y) (o : RowsOk cl n rs) : dimF cl n' (rs.map T) = dimF cl n rs := by
  have c3 := clocks_3 hc
  have z := dim_map hc (ks := []) (rs := rs) (T := T) (n := n) (n' := n') (fun _ m => nomatch m) L.ok (fun p x op ox => by
    rw [List.nil_append]
    refine ⟨fun a => L.spn (by omega) op a, fun a => ?_⟩
    obtain ⟨w, sw, ew⟩ := L.of (by omega) op a
    rw [← inj w x (sw.ok (by omega) op) ox ew]
    exact sw) o
  rw [List.nil_append, dim_none hc, Nat.zero_add] at z
  exact z.symm
theorem Spn.none_at {k : Nat} (h0 : 0 < cl) (o : RowsOk cl n rs) (a : Spn cl n rs x) (h : ∀ r ∈ rs, r.getD k 0 = 0) : x.getD k 0 = 0 := by
  induction a with
  | zero => exact zeroR_at k
  | @add x r t a m ih =>
    rw [adM_at (by rw [(a.ok h0 o).1, (o r m).1]), ih, h r m]
    simp
theorem dim_units (hc : cl ∈ clocks) (row : Nat → List Int) {gs : List Nat} (nd : gs.Nodup) (o : ∀ g ∈ gs, RowOk cl n (row g)) (h1 : ∀ g ∈ gs, (row g).getD g 0 ≠ 0) (h2 : ∀ g ∈ gs, ∀ h ∈ gs, h ≠ g → (row g).getD h 0 = 0) : dimF cl n (gs.map row) = gs.length := by
  have c3 := clocks_3 hc
  have aux : ∀ (us p : List Nat), (p ++ us).Nodup → (∀ g ∈ p ++ us, RowOk cl n (row g)) → (∀ g ∈ p ++ us, (row g).getD g 0 ≠ 0) → (∀ g ∈ p ++ us, ∀ h ∈ p ++ us, h ≠ g → (row g).getD h 0 = 0) → dimF cl n (p.map row) = p.length → dimF cl n ((p ++ us).map row) = (p ++ us).length := by
    intro us
    induction us with
    | nil => intro p _ _ _ _ e; rw [List.append_nil]; exact e
    | cons u us ih =>
      intro p nd o h1 h2 e
      have w := ih (p ++ [u])
      rw [List.append_assoc] at w
      refine w nd o h1 h2 ?_
      have mu : u ∈ p ++ u :: us := List.mem_append.mpr (.inr (List.mem_cons_self ..))
      have op : RowsOk cl n (p.map row) := fun y m => by
        obtain ⟨z, mz, rfl⟩ := List.mem_map.mp m
        exact o z (List.mem_append.mpr (.inl mz))
      rw [List.map_append, List.map_cons, List.map_nil, dim_new hc op (o u mu) fun a => ?_, e, List.length_append]
      · rfl
      · refine h1 u mu (a.none_at (by omega) op fun r m => ?_)
        obtain ⟨g, mg, rfl⟩ := List.mem_map.mp m
        refine h2 g (List.mem_append.mpr (.inl mg)) u mu fun e => ?_
        rw [← e] at mg
        exact (List.nodup_append.mp nd).2.2 u mg u (List.mem_cons_self ..) rfl
  have z := aux gs [] (by rw [List.nil_append]; exact nd) (by rw [List.nil_append]; exact o) (by rw [List.nil_append]; exact h1) (by rw [List.nil_append]; exact h2) (dim_none hc)
  rw [List.nil_append] at z
  exact z
theorem gS_ones : ∀ n : Nat, gS n (fun _ => 1) = (n : Int)
  | 0 => rfl
  | n + 1 => by rw [gS_succ, gS_ones n]; omega
theorem sum_ones {α : Type} : ∀ ls : List α, (ls.map fun _ => (1 : Int)).sum = (ls.length : Int)
  | [] => rfl
  | _ :: ls => by rw [List.map_cons, List.sum_cons, sum_ones ls, List.length_cons]; omega
theorem gaps_len (h : LF cl n ls) : (gapsF n ls).length + ls.length = n := by
  have a := filt_sum (gapP ls) (fun _ => 1) n
  have b := gS_split (n := n) (fun _ => 1) h.leads h.leads_lt
  rw [sum_ones, List.length_map, gS_ones] at b
  have e : gS n (fun k => if gapP ls k = true then 1 else 0) = gS n (fun k => if k ∈ ls.map leadOf then 0 else 1) := gS_congr fun k _ => by
    by_cases c : k ∈ ls.map leadOf
    · rw [if_pos c, if_neg (fun z => gapP_yes.mp z c)]
    · rw [if_neg c, if_pos (gapP_yes.mpr c)]
  rw [← e, ← a, sum_ones] at b
  show ((List.range n).filter (gapP ls)).length + ls.length = n
  omega
theorem dim_upright (hc : cl ∈ clocks) (h : LF cl n ls) : dimF cl n (uprightF cl n ls) + ls.length = n := by
  have c3 := clocks_3 hc
  have e := dim_units hc (freeR cl n ls) (gs := gapsF n ls) (n := n) ((List.nodup_range (n := n)).filter _) (fun g m => free_ok (by omega) h (gaps_mem.mp m).1) (fun g m => by rw [free_off (gaps_mem.mp m).1 (gaps_mem.mp m).2, if_pos rfl]; decide) (fun g m k mk ne => by rw [free_off (gaps_mem.mp m).1 (gaps_mem.mp mk).2, if_neg ne])
  have g := gaps_len h
  unfold uprightF
  omega
theorem dim_chess (hc : cl ∈ clocks) (m1 : 1 ≤ m) : dimF cl (2 * m) (chessL m) = 2 := by
  have c3 := clocks_3 hc
  have ok := chessL_ok (cl := cl) (by omega) m
  have z := dim_units hc (n := 2 * m) (fun g => if g = 0 then (List.replicate m [1, 0]).flatten else (List.replicate m [0, 1]).flatten) (gs := [0, 1]) (by decide) (fun g mg => by
    split
    · exact ok _ (List.mem_cons_self ..)
    · exact ok _ (List.mem_cons_of_mem _ (List.mem_cons_self ..))) (fun g mg => by
    rcases List.mem_cons.mp mg with e | e
    · subst e; rw [if_pos rfl, flat_at (by omega)]; decide
    · rw [List.mem_singleton.mp e, if_neg (by decide), flat_at (by omega)]; decide) (fun g mg h mh ne => by
    rcases List.mem_cons.mp mg with e | e <;> rcases List.mem_cons.mp mh with e2 | e2
    · exact absurd (e2.trans e.symm) ne
    · rw [List.mem_singleton.mp e2]; subst e; rw [if_pos rfl, flat_at (by omega)]; decide
    · rw [List.mem_singleton.mp e]; subst e2; rw [if_neg (by decide), flat_at (by omega)]; decide
    · exact absurd ((List.mem_singleton.mp e2).trans (List.mem_singleton.mp e).symm) ne)
  exact z
theorem lin_steps (h0 : 0 < cl) : Lin cl n n (stepsM cl) := ⟨fun x o => stepsM_ok h0 o, stepsM_zero, fun x y t a b => stepsM_adM a b⟩
/-- the chess rows are what steps lose -/
theorem dim_steps (hc : cl ∈ clocks) (m1 : 1 ≤ m) (o : RowsOk cl (2 * m) rs) : dimF cl (2 * m) (chessL m ++ rs) = 2 + dimF cl (2 * m) (rs.map (stepsM cl)) := by
  have c3 := clocks_3 hc
  have oc := chessL_ok (cl := cl) (by omega) m
  have e2 := dim_chess hc m1
  refine (dim_map (T := stepsM cl) hc oc (fun x o => stepsM_ok (by omega) o) (fun p x op ox => ⟨fun a => ?_, fun a => ?_⟩) o).trans (by rw [e2])
  · have z := (lin_steps (n := 2 * m) (show 0 < cl by omega)).spn (by omega) (ok_append oc op) a
    refine z.mono (by omega) (rsteps_ok (by omega) (ok_append oc op)) (rsteps_ok (by omega) op) fun r mr => ?_
    obtain ⟨w, mw, rfl⟩ := List.mem_map.mp mr
    rcases List.mem_append.mp mw with mw | mw
    · rw [chess_steps (by omega) w mw]; exact .zero
    · exact .of (by omega) (rsteps_ok (by omega) op) (List.mem_map.mpr ⟨w, mw, rfl⟩)
  · obtain ⟨z, sz, ez⟩ := a.steps_of (by omega) op
    have oz := sz.ok (by omega) op
    have sc := steps_none (x := adM cl (-1) x z) (by omega) (adM_ok (by omega) ox oz) (by
      rw [stepsM_adM ox oz, ez]
      refine row_ext' (by rw [adM_len rfl, stepsM_len, ox.1]; exact (List.length_replicate ..).symm) fun j _ => ?_
      rw [adM_at rfl, zeroR_at, show (stepsM cl x).getD j 0 + -1 * (stepsM cl x).getD j 0 = 0 by omega]
      rfl)
    have e := adM_back (t := -1) (by omega : 0 < cl) ox oz
    have s2 := (sc.sub (ss := chessL m ++ p) fun r mr => List.mem_append.mpr (.inl mr)).comb (by omega) (ok_append oc op) (sz.sub fun r mr => List.mem_append.mpr (.inr mr)) (-(-1))
    rw [e] at s2
    exact s2
theorem beside_dim (hc : cl ∈ clocks) (o : RowsOk cl n rs) : (besideF cl n rs).length + dimF cl n (rs.map (stepsM cl)) = n := by
  have c3 := clocks_3 hc
  exact dim_upright hc (least_ok hc (rsteps_ok (by omega) o)).1
/-- no two of them swing -/
def Agr (cl : Int) (rs : List (List Int)) : Prop := ∀ x ∈ rs, ∀ y ∈ rs, swL x y % cl = 0
theorem Agr.spn (hc : cl ∈ clocks) (o : RowsOk cl n rs) (h : Agr cl rs) (a : Spn cl n rs x) (b : Spn cl n rs y) : swL x y % cl = 0 := by
  have c3 := clocks_3 hc
  have h0 : 0 < cl := by omega
  have h1 : ∀ z ∈ rs, dotR n (stepsM cl x) z % cl = 0 := fun z mz => by
    rw [dot_turn (a.ok h0 o) (o z mz), dot_comm]
    refine Spn.perp h0 o a fun r mr => ?_
    rw [dot_steps (o z mz) (o r mr)]
    exact h z mz r mr
  rw [← dot_steps (a.ok h0 o) (b.ok h0 o)]
  exact Spn.perp h0 o b h1
theorem fair_iff (hc : cl ∈ clocks) (m1 : 1 ≤ m) (o : RowsOk cl (2 * m) rs) : besideF cl (2 * m) rs = leastForm cl (2 * m) rs ↔ dimF cl (2 * m) rs = m + 1 ∧ Agr cl (leastForm cl (2 * m) rs) := by
  have c3 := clocks_3 hc
  have h0 : 0 < cl := by omega
  have oc := chessL_ok (cl := cl) (by omega) m
  have d1 := beside_dim hc o
  have d2 := dim_steps hc m1 o
  have fl := (least_ok hc o).1
  constructor
  · intro e
    have chess : ∀ r ∈ chessL m, Spn cl (2 * m) rs r := fun r mr => by
      rw [← least_spn hc o, ← e, beside_mem hc o]
      refine ⟨oc r mr, fun y my => ?_⟩
      rw [dot_turn (o y my) (oc r mr), chess_steps (by omega) r mr, dot_zero]
      rfl
    have d3 : dimF cl (2 * m) (chessL m ++ rs) = dimF cl (2 * m) rs := dim_same hc (ok_append oc o) o (fun r mr => (List.mem_append.mp mr).elim (chess r) fun mr => .of h0 o mr) fun r mr => .of h0 (ok_append oc o) (List.mem_append_right _ mr)
    have d4 : (besideF cl (2 * m) rs).length = dimF cl (2 * m) rs := by rw [e]; rfl
    refine ⟨by omega, fun x mx y my => ?_⟩
    have sx := (least_spn hc o).mp (.of h0 fl.ok mx)
    rw [← e] at my
    have z := ((beside_spn hc o).mp (.of h0 (beside_rows hc o).ok my)).2 x sx
    rw [dot_steps (fl.ok x mx) ((beside_rows hc o).ok y my)] at z
    exact z
  · rintro ⟨d, ag⟩
    have f1 : ∀ r ∈ leastForm cl (2 * m) rs, Spn cl (2 * m) (besideF cl (2 * m) rs) r := fun r mr => by
      rw [← beside_least hc o, beside_mem hc fl.ok]
      refine ⟨fl.ok r mr, fun y my => ?_⟩
      rw [dot_steps (fl.ok y my) (fl.ok r mr)]
      exact ag y my r mr
    have d3 := dim_mono hc o (ok_append oc o) fun r mr => .of h0 (ok_append oc o) (List.mem_append_right _ mr)
    have d4 : dimF cl (2 * m) (besideF cl (2 * m) rs) = (besideF cl (2 * m) rs).length := by
      unfold dimF besideF
      rw [least_idem hc (beside_ok hc o)]
    have d5 : dimF cl (2 * m) (leastForm cl (2 * m) rs) = dimF cl (2 * m) rs := by
      unfold dimF
      rw [least_idem hc o]
    refine LF.one h0 (beside_rows hc o) fl (fun r mr => ?_) f1
    exact dim_all hc fl.ok (beside_rows hc o).ok f1 (by omega) (.of h0 (beside_rows hc o).ok mr)
/-- as many rows as half the ends and one more, none of which swings with another -/
structure Fair (cl : Int) (m : Nat) (rs : List (List Int)) : Prop where
  ok : RowsOk cl (2 * m) rs
  dim : dimF cl (2 * m) rs = m + 1
  agr : Agr cl rs
theorem Fair.least (hc : cl ∈ clocks) (f : Fair cl m rs) : Agr cl (leastForm cl (2 * m) rs) := fun x mx y my => by
  have c3 := clocks_3 hc
  have fl := (least_ok hc f.ok).1
  exact f.agr.spn hc f.ok ((least_spn hc f.ok).mp (.of (by omega) fl.ok mx)) ((least_spn hc f.ok).mp (.of (by omega) fl.ok my))
end
end Rp
namespace Rp
/-! ### gaps opened, ropes crossed: fair spaces stay fair -/
section
variable {cl t u : Int} {n m g : Nat} {x y r s : List Int} {rs ss ls : List (List Int)}
def insR (g : Nat) (x : List Int) : List Int := x.take g ++ (0 :: x.getD (g - 1) 0 :: x.drop g)
def unitR (n g : Nat) : List Int := (List.range n).map fun k => if k = g then 1 else 0
theorem unit_at {k : Nat} (h : k < n) : (unitR n g).getD k 0 = if k = g then 1 else 0 := by
  unfold unitR
  rw [List.getD_eq_getElem?_getD, List.getElem?_map, List.getElem?_range h]
  rfl
theorem unit_len : (unitR n g).length = n := by unfold unitR; rw [List.length_map, List.length_range]
theorem unit_ok (h1 : 1 < cl) : RowOk cl n (unitR n g) := by
  refine ⟨unit_len, fun v m => ?_⟩
  obtain ⟨k, _, rfl⟩ := List.mem_map.mp m
  show 0 ≤ (if k = g then (1 : Int) else 0) ∧ (if k = g then (1 : Int) else 0) < cl
  split <;> omega
theorem ins_len (h : g ≤ x.length) : (insR g x).length = x.length + 2 := by
  unfold insR
  rw [List.length_append, List.length_take, List.length_cons, List.length_cons, List.length_drop]
  omega
theorem ins_lo {k : Nat} (h : g ≤ x.length) (hk : k < g) : (insR g x).getD k 0 = x.getD k 0 := by
  unfold insR
  rw [List.getD_eq_getElem?_getD, List.getElem?_append_left (by rw [List.length_take]; omega), List.getElem?_take, if_pos hk, ← List.getD_eq_getElem?_getD]
theorem ins_mid (h : g ≤ x.length) : (insR g x).getD g 0 = 0 := by
  unfold insR
  rw [List.getD_eq_getElem?_getD, List.getElem?_append_right (by rw [List.length_take]; omega), List.length_take, show g - min g x.length = 0 by omega]
  rfl
theorem ins_hi {k : Nat} (h : g ≤ x.length) (hk : g ≤ k + 1) (h1 : 1 ≤ g) : (insR g x).getD (k + 2) 0 = x.getD k 0 := by
  unfold insR
  rw [List.getD_eq_getElem?_getD, List.getElem?_append_right (by rw [List.length_take]; omega), List.length_take, show min g x.length = g by omega]
  by_cases e : k + 1 = g
  · rw [show k + 2 - g = 1 by omega, show k = g - 1 by omega]
    rfl
  · rw [show k + 2 - g = (k - g) + 2 by omega]
    show ((x.drop g)[k - g]?).getD 0 = _
    rw [List.getElem?_drop, show g + (k - g) = k by omega, ← List.getD_eq_getElem?_getD]
theorem ins_ok (h0 : 0 < cl) (h1 : 1 ≤ g) (hg : g ≤ n) (o : RowOk cl n x) : RowOk cl (n + 2) (insR g x) := by
  have hl : g ≤ x.length := by rw [o.1]; exact hg
  refine ⟨by rw [ins_len hl, o.1], fun v mv => ?_⟩
  unfold insR at mv
  rcases List.mem_append.mp mv with mv | mv
  · exact o.2 v (List.mem_of_mem_take mv)
  · rcases List.mem_cons.mp mv with e | mv
    · omega
    · rcases List.mem_cons.mp mv with e | mv
      · have := dig_gd o.2 h0 (g - 1)
        omega
      · exact o.2 v (List.mem_of_mem_drop mv)
theorem at_cases {k g n : Nat} (h : k < n + 2) (h1 : 1 ≤ g) : k < g ∨ k = g ∨ ∃ j, k = j + 2 ∧ g ≤ j + 1 ∧ j < n := by
  by_cases a : k < g
  · exact .inl a
  · by_cases b : k = g
    · exact .inr (.inl b)
    · exact .inr (.inr ⟨k - 2, by omega, by omega, by omega⟩)
theorem lin_ins (h0 : 0 < cl) (h1 : 1 ≤ g) (hg : g ≤ n) : Lin cl n (n + 2) (insR g) := by
  refine ⟨fun x o => ins_ok h0 h1 hg o, ?_, fun x y t a b => ?_⟩
  · have lz : (zeroR n).length = n := List.length_replicate ..
    refine row_ext' (by rw [ins_len (by rw [lz]; exact hg), lz]; exact (List.length_replicate ..).symm) fun k hk => ?_
    rw [ins_len (by rw [lz]; exact hg), lz] at hk
    rw [zeroR_at]
    rcases at_cases hk h1 with c | c | ⟨j, rfl, c1, c2⟩
    · rw [ins_lo (by rw [lz]; exact hg) c, zeroR_at]
    · rw [c, ins_mid (by rw [lz]; exact hg)]
    · rw [ins_hi (by rw [lz]; exact hg) c1 h1, zeroR_at]
  · have l : x.length = y.length := by rw [a.1, b.1]
    have ha : g ≤ x.length := by rw [a.1]; exact hg
    have hb : g ≤ y.length := by rw [b.1]; exact hg
    have hl : (insR g x).length = (insR g y).length := by rw [ins_len ha, ins_len hb, l]
    have hm : g ≤ (adM cl t x y).length := by rw [adM_len l]; exact ha
    refine row_ext' (by rw [ins_len hm, adM_len l, adM_len hl, ins_len ha]) fun k hk => ?_
    rw [ins_len hm, adM_len l, a.1] at hk
    rw [adM_at hl]
    rcases at_cases hk h1 with c | c | ⟨j, rfl, c1, c2⟩
    · rw [ins_lo hm c, ins_lo ha c, ins_lo hb c, adM_at l]
    · rw [c, ins_mid hm, ins_mid ha, ins_mid hb]
      simp
    · rw [ins_hi hm c1 h1, ins_hi ha c1 h1, ins_hi hb c1 h1, adM_at l]
theorem ins_inj (h1 : 1 ≤ g) (hg : g ≤ n) (a : x.length = n) (b : y.length = n) (e : insR g x = insR g y) : x = y := by
  refine row_ext' (by rw [a, b]) fun k hk => ?_
  by_cases c : k < g
  · rw [← ins_lo (by rw [a]; exact hg) c, e, ins_lo (by rw [b]; exact hg) c]
  · rw [← ins_hi (x := x) (by rw [a]; exact hg) (by omega : g ≤ k + 1) h1, e, ins_hi (by rw [b]; exact hg) (by omega) h1]
theorem gS_insert {f f' : Nat → Int} {p : Nat} : ∀ d : Nat, (∀ k, k < p → f' k = f k) → f' p = 0 → f' (p + 1) = 0 → (∀ k, p ≤ k → k < p + d → f' (k + 2) = f k) → gS (p + d + 2) f' = gS (p + d) f
  | 0, a, b, c, _ => by
    show gS (p + 2) f' = gS p f
    rw [gS_succ, gS_succ, b, c, gS_congr a]; omega
  | d + 1, a, b, c, e => by
    have ih := gS_insert d a b c fun k h1 h2 => e k h1 (by omega)
    show gS (p + d + 2 + 1) f' = gS (p + d + 1) f
    rw [gS_succ, gS_succ (p + d) f, ih, e (p + d) (by omega) (by omega)]
theorem swL_ins (h1 : 1 ≤ g) (hg : g ≤ n) (a : x.length = n) (b : y.length = n) : swL (insR g x) (insR g y) = swL x y := by
  have ha : g ≤ x.length := by rw [a]; exact hg
  have hb : g ≤ y.length := by rw [b]; exact hg
  unfold swL
  rw [ins_len ha, a]
  obtain ⟨d, ed⟩ : ∃ d, n = g - 1 + d := ⟨n - (g - 1), by omega⟩
  rw [show gS (n + 2) = gS (g - 1 + d + 2) by rw [← ed], show gS n = gS (g - 1 + d) by rw [← ed]]
  refine gS_insert (p := g - 1) d (fun k hk => ?_) ?_ ?_ fun k hk1 hk2 => ?_
  · unfold nextG
    rw [if_neg (by omega), if_neg (by omega), ins_lo ha (by omega), ins_lo hb (by omega), ins_lo ha (by omega), ins_lo hb (by omega)]
  · unfold nextG
    rw [if_neg (by omega), show g - 1 + 1 = g by omega, ins_mid ha, ins_mid hb, Int.mul_zero, Int.zero_mul]
    rfl
  · rw [show g - 1 + 1 = g by omega, ins_mid ha, ins_mid hb, Int.mul_zero, Int.zero_mul]
    rfl
  · rw [ins_hi ha (by omega) h1, ins_hi hb (by omega) h1]
    unfold nextG
    by_cases e : k + 1 = n
    · rw [if_pos e, if_pos (by omega), ins_lo ha (by omega), ins_lo hb (by omega)]
    · rw [if_neg e, if_neg (by omega), show k + 2 + 1 = (k + 1) + 2 by omega, ins_hi ha (by omega) h1, ins_hi hb (by omega) h1]
theorem dot_unit (hg : g < n) : dotR n x (unitR n g) = x.getD g 0 := by
  unfold dotR
  rw [← gS_point (c := x.getD g 0) hg]
  refine gS_congr fun k hk => ?_
  rw [unit_at hk]
  by_cases e : k = g
  · rw [if_pos e, if_pos e, e, Int.mul_one]
  · rw [if_neg e, if_neg e, Int.mul_zero]
theorem swL_unit (h1 : 1 < cl) (o : RowOk cl n x) (hg : g < n) : swL x (unitR n g) % cl = stepAt x g % cl := by
  rw [← dot_steps o (unit_ok h1), dot_unit hg, stepsM_at (by rw [o.1]; exact hg), Int.emod_emod]
theorem neg_zero {a : Int} (h : a % cl = 0) : -a % cl = 0 := Int.emod_eq_zero_of_dvd (Int.dvd_neg.mpr (Int.dvd_of_emod_eq_zero h))
/-- a gap opened -/
theorem Fair.ins (hc : cl ∈ clocks) (f : Fair cl m rs) (h1 : 1 ≤ g) (hg : g ≤ 2 * m) : Fair cl (m + 1) (rs.map (insR g) ++ [unitR (2 * m + 2) g]) := by
  have c3 := clocks_3 hc
  have h0 : 0 < cl := by omega
  have L := lin_ins (cl := cl) (n := 2 * m) h0 h1 hg
  have oi := L.rows f.ok
  have ou : RowOk cl (2 * m + 2) (unitR (2 * m + 2) g) := unit_ok (by omega)
  have us : ∀ x ∈ rs, swL (insR g x) (unitR (2 * m + 2) g) % cl = 0 := fun x mx => by
    have ox := f.ok x mx
    have hl : g ≤ x.length := by rw [ox.1]; exact hg
    rw [swL_unit (by omega) (L.ok x ox) (by omega)]
    unfold stepAt
    rw [if_neg (by omega), if_neg (by rw [ins_len hl, ox.1]; omega), ins_lo hl (by omega), show g + 1 = (g - 1) + 2 by omega, ins_hi hl (by omega) h1, Int.sub_self]
    rfl
  refine ⟨ok_snoc oi ou, ?_, fun x mx y my => ?_⟩
  · show dimF cl (2 * m + 2) _ = _
    rw [dim_new hc oi ou fun a => ?_, L.dim hc (fun x y ox oy e => ins_inj h1 hg ox.1 oy.1 e) f.ok, f.dim]
    have z := a.none_at (k := g) h0 oi fun r mr => by
      obtain ⟨w, mw, rfl⟩ := List.mem_map.mp mr
      exact ins_mid (by rw [(f.ok w mw).1]; exact hg)
    rw [unit_at (by omega), if_pos rfl] at z
    cases z
  · rcases List.mem_append.mp mx with mx | mx <;> rcases List.mem_append.mp my with my | my
    · obtain ⟨x, mx', rfl⟩ := List.mem_map.mp mx
      obtain ⟨y, my', rfl⟩ := List.mem_map.mp my
      rw [swL_ins h1 hg (f.ok x mx').1 (f.ok y my').1]
      exact f.agr x mx' y my'
    · obtain ⟨x, mx', rfl⟩ := List.mem_map.mp mx
      rw [List.mem_singleton.mp my]
      exact us x mx'
    · obtain ⟨y, my', rfl⟩ := List.mem_map.mp my
      rw [List.mem_singleton.mp mx, swL_anti (by rw [(L.ok y (f.ok y my')).1, unit_len])]
      exact neg_zero (us y my')
    · rw [List.mem_singleton.mp mx, List.mem_singleton.mp my, swL_self]
      rfl
/-! crossings -/
def crossR (cl : Int) (g : Nat) (t : Int) (x : List Int) : List Int := x.set g ((x.getD g 0 + t * stepAt x g) % cl)
theorem cross_len : (crossR cl g t x).length = x.length := by unfold crossR; rw [List.length_set]
theorem cross_at {k : Nat} (hg : g < x.length) : (crossR cl g t x).getD k 0 = if k = g then (x.getD g 0 + t * stepAt x g) % cl else x.getD k 0 := by
  unfold crossR
  rw [set_gd]
  by_cases e : k = g
  · rw [if_pos e, if_pos ⟨e.symm, hg⟩]
  · rw [if_neg e, if_neg fun z => e z.1.symm]
theorem cross_ok (h0 : 0 < cl) (hg : g < n) (o : RowOk cl n x) : RowOk cl n (crossR cl g t x) := by
  refine ⟨by rw [cross_len, o.1], fun v mv => ?_⟩
  unfold crossR at mv
  rcases List.mem_or_eq_of_mem_set mv with mv | e
  · exact o.2 v mv
  · rw [e]
    exact ⟨Int.emod_nonneg _ (by omega), Int.emod_lt_of_pos _ h0⟩
/-- it adds the step, so many times, at its gap -/
theorem cross_eq (h0 : 0 < cl) (hg : g < n) (o : RowOk cl n x) : crossR cl g t x = adM cl (t * stepAt x g) x (unitR n g) := by
  have l : x.length = (unitR n g).length := by rw [unit_len, o.1]
  refine row_ext' (by rw [cross_len, adM_len l]) fun k hk => ?_
  rw [cross_len, o.1] at hk
  rw [cross_at (by rw [o.1]; exact hg), adM_at l, unit_at hk]
  by_cases e : k = g
  · rw [if_pos e, if_pos e, e, Int.mul_one]
  · rw [if_neg e, if_neg e, Int.mul_zero, Int.add_zero, em_of (dig_gd o.2 h0 k)]
theorem stepAt_lin {k : Nat} (a : RowOk cl n x) (b : RowOk cl n y) : stepAt (adM cl u x y) k % cl = (stepAt x k + u * stepAt y k) % cl := by
  have l : x.length = y.length := by rw [a.1, b.1]
  unfold stepAt
  rw [adM_len l, ← l, adM_at l, adM_at l, Int.sub_emod, Int.emod_emod, Int.emod_emod, ← Int.sub_emod, Int.mul_sub]
  congr 1
  omega
theorem em_mul {a b : Int} (t : Int) (h : a % cl = b % cl) : (t * a) % cl = (t * b) % cl := by rw [Int.mul_emod, h, ← Int.mul_emod]
theorem em_add {a a' b b' : Int} (h : a % cl = a' % cl) (h2 : b % cl = b' % cl) : (a + b) % cl = (a' + b') % cl := by rw [Int.add_emod, h, h2, ← Int.add_emod]
theorem lin_cross (h0 : 0 < cl) (hg : g < n) : Lin cl n n (crossR cl g t) := by
  refine ⟨fun x o => cross_ok h0 hg o, ?_, fun x y u a b => ?_⟩
  · have oz := zeroR_ok (cl := cl) (n := n) h0
    refine row_ext' cross_len fun k hk => ?_
    rw [cross_at (by rw [oz.1]; exact hg), zeroR_at, zeroR_at]
    unfold stepAt
    rw [zeroR_at, zeroR_at]
    split <;> simp
  · have l : x.length = y.length := by rw [a.1, b.1]
    have ga : g < x.length := by rw [a.1]; exact hg
    have gb : g < y.length := by rw [b.1]; exact hg
    have lc : (crossR cl g t x).length = (crossR cl g t y).length := by rw [cross_len, cross_len, l]
    refine row_ext' (by rw [cross_len, adM_len l, adM_len lc, cross_len]) fun k _ => ?_
    rw [cross_at (by rw [adM_len l]; exact ga), adM_at lc, cross_at ga, cross_at gb, adM_at l]
    by_cases e : k = g
    · rw [if_pos e, if_pos e, if_pos e, em_l, em_add rfl (em_mul t (stepAt_lin (k := g) a b)), em_l, em_r, Int.mul_add, Int.mul_add, Int.mul_left_comm t u]
      congr 1
      omega
    · rw [if_neg e, if_neg e, if_neg e, adM_at l]
theorem cross_inj (h0 : 0 < cl) (hn : 2 ≤ n) (hg : g < n) (a : RowOk cl n x) (b : RowOk cl n y) (e : crossR cl g t x = crossR cl g t y) : x = y := by
  have ga : g < x.length := by rw [a.1]; exact hg
  have gb : g < y.length := by rw [b.1]; exact hg
  have off : ∀ k, k ≠ g → x.getD k 0 = y.getD k 0 := fun k ne => by
    have z : (crossR cl g t x).getD k 0 = (crossR cl g t y).getD k 0 := by rw [e]
    rw [cross_at ga, cross_at gb, if_neg ne, if_neg ne] at z
    exact z
  refine row_ext' (by rw [a.1, b.1]) fun k _ => ?_
  by_cases c : k = g
  · rw [c]
    have z : (crossR cl g t x).getD k 0 = (crossR cl g t y).getD k 0 := by rw [e]
    rw [c, cross_at ga, cross_at gb, if_pos rfl, if_pos rfl] at z
    have es : stepAt x g = stepAt y g := by
      unfold stepAt
      rw [a.1, b.1, off _ (by split <;> omega), off _ (by split <;> omega)]
    rw [es] at z
    have w := Int.emod_eq_emod_iff_emod_sub_eq_zero.mp z
    rw [show x.getD g 0 + t * stepAt y g - (y.getD g 0 + t * stepAt y g) = x.getD g 0 - y.getD g 0 by omega] at w
    have v := Int.emod_eq_emod_iff_emod_sub_eq_zero.mpr w
    rw [em_of (dig_gd a.2 h0 g), em_of (dig_gd b.2 h0 g)] at v
    exact v
  · exact off k c
theorem swL_cross (h1 : 1 < cl) (hg : g < n) (a : RowOk cl n x) (b : RowOk cl n y) : swL (crossR cl g t x) (crossR cl g t y) % cl = swL x y % cl := by
  have h0 : 0 < cl := by omega
  have ou : RowOk cl n (unitR n g) := unit_ok h1
  have sl : ∀ {p q : List Int}, RowOk cl n p → RowOk cl n q → (stepsM cl p).length = (stepsM cl q).length := fun hp hq => by rw [stepsM_len, stepsM_len, hp.1, hq.1]
  have key : ∀ c d : Int, swL (adM cl c x (unitR n g)) (adM cl d y (unitR n g)) % cl = (swL x y + d * stepAt x g - c * stepAt y g) % cl := fun c d => by
    have oa := adM_ok (t := c) h0 a ou
    have ob := adM_ok (t := d) h0 b ou
    have q1 := (dot_steps a b)
    have q2 := (dot_steps a ou).trans (swL_unit h1 a hg)
    have q3 : dotR n (stepsM cl (unitR n g)) y % cl = (-1 * stepAt y g) % cl := by
      rw [dot_steps ou b, swL_anti (by rw [b.1, ou.1]), show -swL y (unitR n g) = -1 * swL y (unitR n g) by omega]
      exact em_mul _ (swL_unit h1 b hg)
    have q4 : dotR n (stepsM cl (unitR n g)) (unitR n g) % cl = 0 % cl := by rw [dot_steps ou ou, swL_self]
    rw [← dot_steps oa ob, dot_lin _ (by rw [b.1, ou.1]), stepsM_adM a ou, dot_comm (adM cl c _ _) y, dot_comm (adM cl c _ _) (unitR n g)]
    rw [em_add (dot_lin y (sl a ou)) (em_mul d (dot_lin (unitR n g) (sl a ou))), dot_comm y, dot_comm y, dot_comm (unitR n g) (stepsM cl x), dot_comm (unitR n g) (stepsM cl (unitR n g))]
    rw [em_add (em_add q1 (em_mul c q3)) (em_mul d (em_add q2 (em_mul c q4)))]
    congr 1
    rw [Int.mul_zero, Int.add_zero, show c * (-1 * stepAt y g) = -(c * stepAt y g) by rw [Int.mul_left_comm]; omega]
    omega
  rw [cross_eq h0 hg a, cross_eq h0 hg b, key, show swL x y + t * stepAt y g * stepAt x g - t * stepAt x g * stepAt y g = swL x y by rw [Int.mul_assoc, Int.mul_comm (stepAt y g), ← Int.mul_assoc]; omega]
theorem Fair.cross (hc : cl ∈ clocks) (m1 : 1 ≤ m) (f : Fair cl m rs) (hg : g < 2 * m) : Fair cl m (rs.map (crossR cl g t)) := by
  have c3 := clocks_3 hc
  have h0 : 0 < cl := by omega
  have L := lin_cross (cl := cl) (t := t) h0 hg
  refine ⟨L.rows f.ok, by rw [L.dim hc (fun x y ox oy e => cross_inj h0 (by omega) hg ox oy e) f.ok, f.dim], fun x mx y my => ?_⟩
  obtain ⟨x, mx', rfl⟩ := List.mem_map.mp mx
  obtain ⟨y, my', rfl⟩ := List.mem_map.mp my
  rw [swL_cross (by omega) hg (f.ok x mx') (f.ok y my')]
  exact f.agr x mx' y my'
theorem fair_start (hc : cl ∈ clocks) : Fair cl 1 [[1, 0], [0, 1]] := by
  have c3 := clocks_3 hc
  refine ⟨chessL_ok (by omega) 1, dim_chess hc (Nat.le_refl 1), fun x mx y my => ?_⟩
  have ok := chessL_ok (cl := cl) (by omega) 1
  have mx' : x ∈ chessL 1 := mx
  have e := chess_steps (cl := cl) (by omega) x mx'
  rw [← dot_steps (ok x mx) (ok y my), e, dot_comm, dot_zero]
  rfl
end
end Rp
namespace Rp
open PySem PySem.Spec PyProof.Rows L2 LamX RZ
/-! ### a list or a tuple, walked -/
def ItSB (K : PySem.W.Frag) (t : Bool) (a : Addr) : It :=
  match t with
  | true => Itl K a
  | false => Itt K a
def iSeqB (K : PySem.W.Frag) (te : TE) : TI := fun σ H R =>
  te σ H fun v G => ∃ (t : Bool) (a : Addr), v = .ref a ∧ (∃ xs, SqB t K G a xs) ∧ R (ItSB K t a) G
theorem r_iseqB {K : PySem.W.Frag} {te : TE} {σ : L2.St} {H : Hp} {R : It → Hp → Prop}
    (h : te σ H fun v G => ∃ (t : Bool) (a : Addr), v = .ref a ∧ (∃ xs, SqB t K G a xs) ∧ R (ItSB K t a) G) :
    iSeqB K te σ H R := h
theorem pi_seqB {X : Cx} {tg l : Expr} {te : TE} (he : PE X l te) : PI X tg l (iSeqB X.K te) := by
  constructor
  intro pins s σ H R I h
  refine thn (he.run pins s σ H _ I h) ?_
  rintro v s1 ⟨x, G, J, rx, t, a, rfl, ⟨xs, hx⟩, q⟩
  cases rx
  have fp : ∀ b ∈ [s1.heap.objs.size], FpOk X pins G b := by
    intro b m
    rw [List.mem_singleton.mp m]
    have f := J.hok.fresh (Nat.le_refl _)
    exact J.fpOk (Nat.le_refl _) f
  have up : ∀ {o' : Obj} (b : Addr) (o : Obj), s1.heap.get? b = some o → (s1.heap.push o').get? b = some o :=
    fun b o e => Heap.get?_push_of_some _ e
  cases t with
  | true =>
    obtain ⟨us, rv, pl, _⟩ := J.list hx
    refine wpAny_pyIter_list pl.isList ?_
    refine ⟨_, [s1.heap.objs.size], _, _, G, rfl, ?_, turn_list a _, ?_, fun b m => fp b m, q⟩
    · exact J.kept (t' := s1.toks) up
    · exact ⟨_, Heap.get?_push_size _ rfl, rfl, rfl⟩
  | false =>
    obtain ⟨us, rv, pl, _⟩ := J.tuple hx
    have pt : s1.heap.IsTuple a us.toArray := pl
    refine wpAny_pyIter_tuple pt ?_
    refine ⟨_, [s1.heap.objs.size], _, _, G, rfl, ?_, turn_tuple a _, ?_, fun b m => fp b m, q⟩
    · exact J.kept (t' := s1.toks) up
    · exact ⟨_, Heap.get?_push_size _ rfl, rfl, rfl⟩
theorem walk_seqB {K : PySem.W.Frag} {t : Bool} {a : Addr} {xs : List V} :
    Walk (ItSB K t a) xs.length (fun H => SqB t K H a xs) (fun i H x H' => H' = H ∧ xs[i]? = some x) := by
  cases t with
  | true => exact walk_list
  | false => exact walk_tup
end Rp
namespace Rp
open PySem PySem.Spec PyProof.Rows L2 LamX RZ
/-! ### more of what laws want -/
theorem set_intsX {xs : List Int} {k : Nat} {v : Int} : (xs.map V.int).set k (.int v) = (xs.set k v).map V.int := by rw [List.map_set]
theorem ixN_natX {n k : Nat} (h : k < n) : ixN n (k : Int) = some k := by
  unfold ixN
  rw [if_pos (by omega), if_pos (by omega)]
  congr 1
theorem dr_ne_tupX {q c p : Addr} {ns : List Int} {l : Nat} {H : Hp} {xs : List V} (D : Dr q c ns l H) (e : H p = some (.tup xs)) : p ≠ q := by
  obtain ⟨_, ⟨_, hq⟩, _, _⟩ := D
  exact ne_of e hq (fun z => by cases z)
theorem mem_setX {xs : List Int} {k : Nat} {v : Int} {P : Int → Prop} (h : ∀ x ∈ xs, P x) (hv : P v) : ∀ x ∈ xs.set k v, P x := fun x m => by
  rcases List.mem_or_eq_of_mem_set m with m | e
  · exact h x m
  · rw [e]; exact hv
theorem anys_ints {q : Addr} {H : Hp} {xs : List Int} : ∀ x ∈ xs.map V.int, Any q H x := fun x m => by
  obtain ⟨i, _, rfl⟩ := List.mem_map.mp m
  exact .num i
theorem rowV_lst {q a : Addr} {H : Hp} {xs : List Int} (n : a ≠ q) (e : H a = some (.lst (xs.map V.int))) : RowV q H (.ref a) (some (xs.map V.int)) := .lst n e anys_ints
theorem rowV_tup {q a : Addr} {H : Hp} {xs : List Int} (n : a ≠ q) (e : H a = some (.tup (xs.map V.int))) : RowV q H (.ref a) (some (xs.map V.int)) := .tup n e anys_ints
theorem len_sl {xs : List V} (h : xs.length ≤ 1000) : ∀ ys, some xs = some ys → ys.length < sizeLine := fun ys e => by
  cases e
  exact small1000 h
theorem dec_int {i j : Int} : decide (V.int i = V.int j) = decide (i = j) := decide_eq_decide.mpr ⟨fun w => V.int.inj w, fun w => by rw [w]⟩
theorem inB_yesX {i l u : Int} (a : l ≤ i) (b : i ≤ u) : inB (.int i) (some l) (some u) = true := by
  show (decide (l ≤ i) && decide (i ≤ u)) = true
  rw [decide_eq_true a, decide_eq_true b]
  rfl
theorem inB_outX {i l u : Int} (h : i < l ∨ u < i) : inB (.int i) (some l) (some u) = false := by
  show (decide (l ≤ i) && decide (i ≤ u)) = false
  rcases h with h | h
  · rw [decide_eq_false (by omega), Bool.false_and]
  · rw [decide_eq_false (p := i ≤ u) (by omega), Bool.and_false]
theorem atI_nxX {xs : List Int} {i n : Nat} (h : i < n) (l : xs.length = n) : atI (xs.map V.int) (((i : Int) + 1).fmod (n : Int)) = some (.int (xs.getD (if i + 1 = n then 0 else i + 1) 0)) := by
  have z := atI_next (xs := xs) (i := i) (by omega)
  rw [l] at z
  simp only [Int.zero_add] at z
  exact z
theorem atI_pvX {xs : List Int} {i : Nat} (h : i < xs.length) : atI (xs.map V.int) ((i : Int) - 1) = some (.int (xs.getD (if i = 0 then xs.length - 1 else i - 1) 0)) := by
  have z := atI_prev h
  simp only [Int.zero_add] at z
  exact z
theorem fit_boolsX (a b : Bool) : Fit 64 15000000 (.list [.bool a, .bool b]) := by
  cases a <;> cases b <;> exact leaf_fit (by decide +kernel) (by decide +kernel) (by decide +kernel)
theorem shaped_rowX (xs : List Int) : SeqAt.shaped (rowD xs) = true := by
  unfold rowD
  simp [SeqAt.shaped, PyData.canLay0, PyData.depth, canLay_ints, depth_ints]
/-- two tuples of numbers compared -/
theorem ne_tupsX {K : PySem.W.Frag} {H : Hp} {Q : VK} {a b : Addr} {xs ys : List Int} (ha : H a = some (.tup (xs.map V.int))) (hb : H b = some (.tup (ys.map V.int))) (h : Q (.bl (!decide (xs = ys))) H) : rNeD K (.ref a) (.ref b) H Q :=
  ⟨rowD xs, rowD ys, .tup (SqT.of ha) (dp_ints _), .tup (SqT.of hb) (dp_ints _), shaped_rowX _, shaped_rowX _, by rw [eqv_row]; exact h⟩
theorem ne_lstsX {K : PySem.W.Frag} {H : Hp} {Q : VK} {a b : Addr} {xs : List Int} (ha : H a = some (.lst (xs.map V.int))) (hb : H b = some (.lst (xs.map V.int))) (h : Q (.bl false) H) : rNeD K (.ref a) (.ref b) H Q :=
  ⟨_, _, .lst (SqL.of ha) (dp_ints xs), .lst (SqL.of hb) (dp_ints xs), shaped_ints xs, shaped_ints xs, by
    rw [SeqAt.eqv_refl _ (by rw [PyData.canLay0]; exact canLay_ints xs)]
    exact h⟩
theorem map_intX {xs ys : List Int} (h : xs.map V.int = ys.map V.int) : xs = ys := by
  have z := congrArg (List.map numOf) h
  rw [List.map_map, List.map_map] at z
  have e : ∀ l : List Int, List.map (numOf ∘ V.int) l = l := fun l => List.map_id'' (fun _ => rfl) l
  rw [e, e] at z
  exact z
/-- a row as a list or a tuple -/
structure PasR (q : Addr) (H : Hp) (v : V) (xs : List Int) : Prop where
  ex : ∃ a, v = .ref a ∧ a ≠ q ∧ (H a = some (.lst (xs.map V.int)) ∨ H a = some (.tup (xs.map V.int)))
theorem PasR.but {q : Addr} {H G : Hp} {v : V} {xs : List Int} (h : PasR q H v xs) (b : But q H G) : PasR q G v xs := by
  obtain ⟨a, e, n, z⟩ := h.ex
  exact ⟨a, e, n, z.imp (fun z => b _ _ n z) (fun z => b _ _ n z)⟩
theorem PasR.ext {q : Addr} {H G : Hp} {v : V} {xs : List Int} (h : PasR q H v xs) (x : ExtN H G) : PasR q G v xs := by
  obtain ⟨a, e, n, z⟩ := h.ex
  exact ⟨a, e, n, z.imp (fun z => x _ _ z fun _ y => by cases y) (fun z => x _ _ z fun _ y => by cases y)⟩
theorem PasR.row {q : Addr} {H : Hp} {v : V} {xs : List Int} (h : PasR q H v xs) : RowV q H v (some (xs.map V.int)) := by
  obtain ⟨a, rfl, n, z⟩ := h.ex
  rcases z with z | z
  · exact rowV_lst n z
  · exact rowV_tup n z
end Rp
namespace Rp
open PySem PySem.Spec PyProof.Rows L2
/-! ### what pairs make one: by relabelling, round by round -/
abbrev Prs := List (Nat × Nat)
inductive Conn (ps : Prs) : Nat → Nat → Prop
  | refl (x : Nat) : Conn ps x x
  | fwd {a b c : Nat} (h : (a, b) ∈ ps) (t : Conn ps b c) : Conn ps a c
  | bwd {a b c : Nat} (h : (b, a) ∈ ps) (t : Conn ps b c) : Conn ps a c
theorem Conn.trans {ps : Prs} {a b c : Nat} (h : Conn ps a b) (k : Conn ps b c) : Conn ps a c := by
  induction h with
  | refl x => exact k
  | fwd m _ ih => exact .fwd m (ih k)
  | bwd m _ ih => exact .bwd m (ih k)
theorem Conn.symm {ps : Prs} {a b : Nat} (h : Conn ps a b) : Conn ps b a := by
  induction h with
  | refl x => exact .refl x
  | fwd m _ ih => exact ih.trans (.bwd m (.refl _))
  | bwd m _ ih => exact ih.trans (.fwd m (.refl _))
theorem Conn.mono {ps qs : Prs} (s : ∀ e ∈ ps, e ∈ qs) {a b : Nat} (h : Conn ps a b) : Conn qs a b := by
  induction h with
  | refl x => exact .refl x
  | fwd m _ ih => exact .fwd (s _ m) ih
  | bwd m _ ih => exact .bwd (s _ m) ih
/-- the two of a pair get the lesser label -/
def relax (L : Nat → Nat) (e : Nat × Nat) : Nat → Nat := fun x => if x = e.1 ∨ x = e.2 then min (L e.1) (L e.2) else L x
def roundF (ps : Prs) (L : Nat → Nat) : Nat → Nat := ps.foldl relax L
theorem relax_le (L : Nat → Nat) (e : Nat × Nat) (x : Nat) : relax L e x ≤ L x := by
  unfold relax
  split
  · rename_i h
    rcases h with h | h
    · rw [h]; exact Nat.min_le_left _ _
    · rw [h]; exact Nat.min_le_right _ _
  · exact Nat.le_refl _
theorem round_le : ∀ (ps : Prs) (L : Nat → Nat) (x : Nat), roundF ps L x ≤ L x
  | [], _, _ => Nat.le_refl _
  | e :: ps, L, x => Nat.le_trans (round_le ps (relax L e) x) (relax_le L e x)
theorem relax_at (L : Nat → Nat) (e : Nat × Nat) : relax L e e.1 = min (L e.1) (L e.2) ∧ relax L e e.2 = min (L e.1) (L e.2) :=
  ⟨if_pos (.inl rfl), if_pos (.inr rfl)⟩
theorem round_edge : ∀ {ps : Prs} {L : Nat → Nat} {e : Nat × Nat}, e ∈ ps → roundF ps L e.1 ≤ min (L e.1) (L e.2) ∧ roundF ps L e.2 ≤ min (L e.1) (L e.2)
  | d :: ps, L, e, m => by
    rcases List.mem_cons.mp m with h | h
    · subst h
      have a := relax_at L e
      have b := round_le ps (relax L e) e.1
      have c := round_le ps (relax L e) e.2
      rw [a.1] at b
      rw [a.2] at c
      exact ⟨b, c⟩
    · have a := round_edge (L := relax L d) h
      have b := relax_le L d e.1
      have c := relax_le L d e.2
      have le : min (relax L d e.1) (relax L d e.2) ≤ min (L e.1) (L e.2) := by omega
      exact ⟨Nat.le_trans a.1 le, Nat.le_trans a.2 le⟩
theorem relax_conn {ps : Prs} {L : Nat → Nat} {e : Nat × Nat} (h : ∀ x, Conn ps (L x) x) (m : e ∈ ps) : ∀ x, Conn ps (relax L e x) x := by
  intro x
  have c12 : Conn ps e.1 e.2 := .fwd m (.refl _)
  unfold relax
  split
  · rename_i hx
    have a1 : Conn ps (min (L e.1) (L e.2)) e.1 := by
      rcases Nat.le_total (L e.1) (L e.2) with q | q
      · rw [Nat.min_eq_left q]; exact h _
      · rw [Nat.min_eq_right q]; exact (h _).trans c12.symm
    rcases hx with q | q
    · rw [q]; exact a1
    · rw [q]; exact a1.trans c12
  · exact h x
theorem round_conn {ps : Prs} : ∀ {qs : Prs} {L : Nat → Nat}, (∀ e ∈ qs, e ∈ ps) → (∀ x, Conn ps (L x) x) → ∀ x, Conn ps (roundF qs L x) x
  | [], _, _, h => h
  | e :: qs, L, s, h => round_conn (qs := qs) (L := relax L e) (fun d m => s d (List.mem_cons_of_mem _ m)) (relax_conn h (s e (List.mem_cons_self ..)))
def roundsF (ps : Prs) : Nat → (Nat → Nat) → Nat → Nat
  | 0, L => L
  | k + 1, L => roundF ps (roundsF ps k L)
theorem rounds_le (ps : Prs) : ∀ (k : Nat) (x : Nat), roundsF ps k id x ≤ x
  | 0, x => Nat.le_refl _
  | k + 1, x => Nat.le_trans (round_le ps _ x) (rounds_le ps k x)
theorem rounds_conn (ps : Prs) : ∀ (k : Nat) (x : Nat), Conn ps (roundsF ps k id x) x
  | 0, x => .refl x
  | k + 1, x => round_conn (fun _ m => m) (rounds_conn ps k) x
/-- how many pairs have the label u on both -/
def goodN (L : Nat → Nat) (u : Nat) (ps : Prs) : Nat := (ps.filter fun e => decide (L e.1 = u) && decide (L e.2 = u)).length
theorem goodN_le (L : Nat → Nat) (u : Nat) (ps : Prs) : goodN L u ps ≤ ps.length := List.length_filter_le _ _
theorem goodN_mono {L M : Nat → Nat} {u : Nat} : ∀ {ps : Prs}, (∀ e ∈ ps, L e.1 = u → L e.2 = u → M e.1 = u ∧ M e.2 = u) → goodN L u ps ≤ goodN M u ps
  | [], _ => Nat.le_refl _
  | e :: ps, h => by
    have ih := goodN_mono (ps := ps) fun d m => h d (List.mem_cons_of_mem _ m)
    have he := h e (List.mem_cons_self ..)
    unfold goodN at ih ⊢
    rw [List.filter_cons, List.filter_cons]
    by_cases a : L e.1 = u ∧ L e.2 = u
    · obtain ⟨b1, b2⟩ := he a.1 a.2
      simp only [a.1, a.2, b1, b2, decide_true, Bool.and_true, if_true, List.length_cons]
      omega
    · have na : (decide (L e.1 = u) && decide (L e.2 = u)) = false := by
        rw [Bool.and_eq_false_iff]
        by_cases c : L e.1 = u
        · exact .inr (decide_eq_false fun z => a ⟨c, z⟩)
        · exact .inl (decide_eq_false c)
      rw [na]
      split
      · cases ‹false = true›
      · split
        · rw [List.length_cons]; omega
        · exact ih
theorem goodN_lt {L M : Nat → Nat} {u : Nat} : ∀ {ps : Prs} {d : Nat × Nat}, (∀ e ∈ ps, L e.1 = u → L e.2 = u → M e.1 = u ∧ M e.2 = u) → d ∈ ps → ¬ (L d.1 = u ∧ L d.2 = u) → M d.1 = u ∧ M d.2 = u → goodN L u ps + 1 ≤ goodN M u ps
  | e :: ps, d, h, m, n, g => by
    have t : ∀ c ∈ ps, L c.1 = u → L c.2 = u → M c.1 = u ∧ M c.2 = u := fun c k => h c (List.mem_cons_of_mem _ k)
    rcases List.mem_cons.mp m with q | q
    · subst q
      have ih := goodN_mono t
      have na : (decide (L d.1 = u) && decide (L d.2 = u)) = false := by
        rw [Bool.and_eq_false_iff]
        by_cases c : L d.1 = u
        · exact .inr (decide_eq_false fun z => n ⟨c, z⟩)
        · exact .inl (decide_eq_false c)
      unfold goodN at ih ⊢
      rw [List.filter_cons, List.filter_cons, na]
      simp only [g.1, g.2, decide_true, Bool.and_true, if_true, List.length_cons]
      simp
      exact ih
    · have ih := goodN_lt t q n g
      have he := h e (List.mem_cons_self ..)
      unfold goodN at ih ⊢
      rw [List.filter_cons, List.filter_cons]
      by_cases a : L e.1 = u ∧ L e.2 = u
      · obtain ⟨b1, b2⟩ := he a.1 a.2
        simp only [a.1, a.2, b1, b2, decide_true, Bool.and_true, if_true, List.length_cons]
        omega
      · have na : (decide (L e.1 = u) && decide (L e.2 = u)) = false := by
          rw [Bool.and_eq_false_iff]
          by_cases c : L e.1 = u
          · exact .inr (decide_eq_false fun z => a ⟨c, z⟩)
          · exact .inl (decide_eq_false c)
        rw [na]
        split
        · cases ‹false = true›
        · split
          · rw [List.length_cons]; omega
          · exact ih
/-- where not all that is one has the label u, some pair has it on one side alone -/
theorem crossing {ps : Prs} {L : Nat → Nat} {u x y : Nat} (c : Conn ps x y) (hy : L y = u) (hx : L x ≠ u) : ∃ e ∈ ps, ¬ (L e.1 = u ∧ L e.2 = u) ∧ (L e.1 = u ∨ L e.2 = u) ∧ Conn ps x e.1 := by
  induction c with
  | refl x => exact absurd hy hx
  | @fwd a b c m t ih =>
    by_cases hb : L b = u
    · exact ⟨(a, b), m, fun z => hx z.1, .inr hb, .refl _⟩
    · obtain ⟨e, h1, h2, h3, h4⟩ := ih hy hb
      exact ⟨e, h1, h2, h3, .fwd m h4⟩
  | @bwd a b c m t ih =>
    by_cases hb : L b = u
    · exact ⟨(b, a), m, fun z => hx z.2, .inl hb, .bwd m (.refl _)⟩
    · obtain ⟨e, h1, h2, h3, h4⟩ := ih hy hb
      exact ⟨e, h1, h2, h3, .bwd m h4⟩
/-- u is the least of what is one with it -/
def LeastOf (ps : Prs) (u : Nat) : Prop := ∀ y, Conn ps y u → u ≤ y
theorem rounds_ge {ps : Prs} {u x : Nat} (h : LeastOf ps u) (c : Conn ps x u) (k : Nat) : u ≤ roundsF ps k id x := h _ ((rounds_conn ps k x).trans c)
theorem rounds_keep {ps : Prs} {u x : Nat} (h : LeastOf ps u) (c : Conn ps x u) {k : Nat} (e : roundsF ps k id x = u) : roundsF ps (k + 1) id x = u := by
  have a := rounds_ge h c (k + 1)
  have b : roundsF ps (k + 1) id x ≤ roundsF ps k id x := round_le ps _ x
  omega
theorem rounds_grow {ps : Prs} {u x : Nat} (h : LeastOf ps u) (c : Conn ps x u) (k : Nat) : roundsF ps k id x = u ∨ k ≤ goodN (roundsF ps k id) u ps := by
  induction k with
  | zero => exact .inr (Nat.zero_le _)
  | succ k ih =>
    by_cases hx : roundsF ps k id x = u
    · exact .inl (rounds_keep h c hx)
    · have g : k ≤ goodN (roundsF ps k id) u ps := ih.resolve_left hx
      have hu : roundsF ps k id u = u := by
        have a := rounds_ge h (.refl u) k
        have b := rounds_le ps k u
        omega
      obtain ⟨e, m, n, o, p⟩ := crossing c hu hx
      have ce1 : Conn ps e.1 u := p.symm.trans c
      have ce2 : Conn ps e.2 u := Conn.trans (.bwd m (.refl _)) ce1
      have ed := round_edge (L := roundsF ps k id) m
      have lo1 := rounds_ge h ce1 (k + 1)
      have lo2 := rounds_ge h ce2 (k + 1)
      have r1 : roundsF ps (k + 1) id e.1 = roundF ps (roundsF ps k id) e.1 := rfl
      have r2 : roundsF ps (k + 1) id e.2 = roundF ps (roundsF ps k id) e.2 := rfl
      have mn : min (roundsF ps k id e.1) (roundsF ps k id e.2) ≤ u := by
        rcases o with o | o
        · rw [o]; exact Nat.min_le_left _ _
        · rw [o]; exact Nat.min_le_right _ _
      refine .inr (Nat.le_trans (Nat.succ_le_succ g) (goodN_lt (M := roundsF ps (k + 1) id) (fun d md d1 d2 => ?_) m n ⟨by omega, by omega⟩))
      have cd1 : Conn ps d.1 u := by
        have z := (rounds_conn ps k d.1).symm
        rw [d1] at z
        exact z
      have cd2 : Conn ps d.2 u := by
        have z := (rounds_conn ps k d.2).symm
        rw [d2] at z
        exact z
      exact ⟨rounds_keep h cd1 d1, rounds_keep h cd2 d2⟩
/-- as many rounds as there are pairs: each has the least of what is one with it -/
theorem rounds_all {ps : Prs} {u x : Nat} (h : LeastOf ps u) (c : Conn ps x u) : roundsF ps ps.length id x = u := by
  rcases rounds_grow h c ps.length with e | g
  · exact e
  · by_cases hx : roundsF ps ps.length id x = u
    · exact hx
    · exfalso
      have hu : roundsF ps ps.length id u = u := by
        have a := rounds_ge h (.refl u) ps.length
        have b := rounds_le ps ps.length u
        omega
      obtain ⟨e, m, n, o, p⟩ := crossing c hu hx
      have lt : goodN (roundsF ps ps.length id) u ps < ps.length := by
        unfold goodN
        refine List.length_filter_lt_length_iff_exists.mpr ⟨e, m, ?_⟩
        intro z
        have z' := Bool.and_eq_true_iff.mp z
        exact n ⟨of_decide_eq_true z'.1, of_decide_eq_true z'.2⟩
      omega
/-! ### by lesser numbers, from one to the next -/
def rootN (par : Nat → Nat) : Nat → Nat → Nat
  | 0, x => x
  | k + 1, x => if par x = x then x else rootN par k (par x)
def rootF (par : Nat → Nat) (x : Nat) : Nat := rootN par x x
def Down (par : Nat → Nat) : Prop := ∀ y, par y ≤ y
theorem rootN_enough {par : Nat → Nat} (d : Down par) : ∀ (k j x : Nat), x ≤ k → x ≤ j → rootN par k x = rootN par j x
  | 0, 0, _, _, _ => rfl
  | 0, j + 1, x, h, _ => by
    obtain rfl : x = 0 := by omega
    have z : par 0 = 0 := by have := d 0; omega
    show 0 = if par 0 = 0 then 0 else _
    rw [if_pos z]
  | k + 1, 0, x, _, h => by
    obtain rfl : x = 0 := by omega
    have z : par 0 = 0 := by have := d 0; omega
    show (if par 0 = 0 then 0 else _) = 0
    rw [if_pos z]
  | k + 1, j + 1, x, h1, h2 => by
    show (if par x = x then x else rootN par k (par x)) = if par x = x then x else rootN par j (par x)
    by_cases e : par x = x
    · rw [if_pos e, if_pos e]
    · rw [if_neg e, if_neg e]
      have := d x
      exact rootN_enough d k j (par x) (by omega) (by omega)
theorem rootF_eq {par : Nat → Nat} (d : Down par) (x : Nat) : rootF par x = if par x = x then x else rootF par (par x) := by
  unfold rootF
  rw [rootN_enough d x (x + 1) x (Nat.le_refl _) (by omega)]
  show (if par x = x then x else rootN par x (par x)) = _
  by_cases e : par x = x
  · rw [if_pos e, if_pos e]
  · rw [if_neg e, if_neg e]
    have := d x
    exact rootN_enough d x (par x) (par x) (by omega) (Nat.le_refl _)
theorem root_self {par : Nat → Nat} (d : Down par) {x : Nat} (e : par x = x) : rootF par x = x := by rw [rootF_eq d, if_pos e]
theorem root_par {par : Nat → Nat} (d : Down par) (x : Nat) : rootF par (par x) = rootF par x := by
  by_cases e : par x = x
  · rw [e]
  · rw [rootF_eq d x, if_neg e]
theorem root_fix {par : Nat → Nat} (d : Down par) : ∀ x : Nat, par (rootF par x) = rootF par x := by
  intro x
  induction x using Nat.strongRecOn with
  | ind x ih =>
    rw [rootF_eq d x]
    by_cases e : par x = x
    · rw [if_pos e]; exact e
    · rw [if_neg e]
      have := d x
      exact ih (par x) (by omega)
theorem root_le {par : Nat → Nat} (d : Down par) : ∀ x : Nat, rootF par x ≤ x := by
  intro x
  induction x using Nat.strongRecOn with
  | ind x ih =>
    rw [rootF_eq d x]
    by_cases e : par x = x
    · rw [if_pos e]; exact Nat.le_refl _
    · rw [if_neg e]
      have a := d x
      have b := ih (par x) (by omega)
      omega
theorem root_root {par : Nat → Nat} (d : Down par) (x : Nat) : rootF par (rootF par x) = rootF par x := root_self d (root_fix d x)
/-- one way made shorter: the roots stay -/
def halved (par : Nat → Nat) (x : Nat) : Nat → Nat := fun y => if y = x then par (par x) else par y
theorem halved_down {par : Nat → Nat} (d : Down par) (x : Nat) : Down (halved par x) := fun y => by
  unfold halved
  split
  · rename_i e
    have a := d x
    have b := d (par x)
    omega
  · exact d y
theorem halved_root {par : Nat → Nat} (d : Down par) (x : Nat) : ∀ y, rootF (halved par x) y = rootF par y := by
  intro y
  induction y using Nat.strongRecOn with
  | ind y ih =>
    rw [rootF_eq (halved_down d x) y, rootF_eq d y]
    by_cases e : y = x
    · subst e
      have hv : halved par y y = par (par y) := if_pos rfl
      rw [hv]
      by_cases f : par y = y
      · rw [f, f, if_pos rfl, if_pos rfl]
      · have a := d y
        have b := d (par y)
        rw [if_neg (by omega), if_neg f, ih _ (by omega), root_par d]
    · have hv : halved par x y = par y := if_neg e
      rw [hv]
      by_cases f : par y = y
      · rw [if_pos f, if_pos f]
      · have a := d y
        rw [if_neg f, if_neg f, ih _ (by omega)]
/-- two roots made one -/
def united (par : Nat → Nat) (lo hi : Nat) : Nat → Nat := fun y => if y = hi then lo else par y
theorem united_down {par : Nat → Nat} (d : Down par) {lo hi : Nat} (h : lo ≤ hi) : Down (united par lo hi) := fun y => by
  unfold united
  split
  · omega
  · exact d y
theorem united_root {par : Nat → Nat} (d : Down par) {lo hi : Nat} (h : lo ≤ hi) (hl : par lo = lo) (hh : par hi = hi) : ∀ y, rootF (united par lo hi) y = if rootF par y = hi then lo else rootF par y := by
  have dd := united_down d h
  have ul : rootF (united par lo hi) lo = lo := by
    refine root_self dd ?_
    unfold united
    split
    · rfl
    · exact hl
  intro y
  induction y using Nat.strongRecOn with
  | ind y ih =>
    by_cases e : y = hi
    · subst e
      rw [root_self d hh, if_pos rfl, rootF_eq dd]
      have hv : united par lo y y = lo := if_pos rfl
      rw [hv]
      split
      · rename_i q; exact q.symm
      · exact ul
    · have hv : united par lo hi y = par y := if_neg e
      rw [rootF_eq dd, hv, rootF_eq d y]
      by_cases f : par y = y
      · rw [if_pos f, if_pos f, if_neg e]
      · have a := d y
        rw [if_neg f, if_neg f, ih _ (by omega)]
/-- one root exactly if the pairs make them one -/
def Joined (par : Nat → Nat) (ps : Prs) : Prop := ∀ x y, rootF par x = rootF par y ↔ Conn ps x y
theorem joined_nil : Joined id [] := fun x y => by
  have r : ∀ z, rootF id z = z := fun z => root_self (fun _ => Nat.le_refl _) rfl
  rw [r, r]
  constructor
  · rintro rfl; exact .refl _
  · intro h
    cases h with
    | refl => rfl
    | fwd m _ => cases m
    | bwd m _ => cases m
theorem joined_halved {par : Nat → Nat} {ps : Prs} (d : Down par) (j : Joined par ps) (x : Nat) : Joined (halved par x) ps := fun y z => by
  rw [halved_root d, halved_root d]
  exact j y z
theorem joined_more {par : Nat → Nat} {ps : Prs} (d : Down par) (j : Joined par ps) {a b lo hi : Nat} (hlo : lo = min (rootF par a) (rootF par b)) (hhi : hi = max (rootF par a) (rootF par b)) : Joined (united par lo hi) (ps ++ [(a, b)]) := by
  have fa := root_fix d a
  have fb := root_fix d b
  have le : lo ≤ hi := by omega
  have pl : par lo = lo := by
    rcases Nat.le_total (rootF par a) (rootF par b) with q | q
    · rw [hlo, Nat.min_eq_left q]; exact fa
    · rw [hlo, Nat.min_eq_right q]; exact fb
  have ph : par hi = hi := by
    rcases Nat.le_total (rootF par a) (rootF par b) with q | q
    · rw [hhi, Nat.max_eq_right q]; exact fb
    · rw [hhi, Nat.max_eq_left q]; exact fa
  have ur := united_root d le pl ph
  have sub : ∀ e ∈ ps, e ∈ ps ++ [(a, b)] := fun e m => List.mem_append_left _ m
  have cab : Conn (ps ++ [(a, b)]) a b := .fwd (by simp) (.refl _)
  have cr : ∀ x, Conn (ps ++ [(a, b)]) x (rootF par x) := fun x => ((j x (rootF par x)).mp (root_root d x).symm).mono sub
  have clh : Conn (ps ++ [(a, b)]) lo hi := by
    have ca := (cr a).symm
    have cb := cr b
    rcases Nat.le_total (rootF par a) (rootF par b) with q | q
    · rw [hlo, hhi, Nat.min_eq_left q, Nat.max_eq_right q]; exact ca.trans (cab.trans cb)
    · rw [hlo, hhi, Nat.min_eq_right q, Nat.max_eq_left q]; exact (ca.trans (cab.trans cb)).symm
  have cu : ∀ x, Conn (ps ++ [(a, b)]) x (rootF (united par lo hi) x) := fun x => by
    rw [ur]
    split
    · rename_i e
      have z := cr x
      rw [e] at z
      exact z.trans clh.symm
    · exact cr x
  intro x y
  constructor
  · intro e
    have z := cu x
    rw [e] at z
    exact z.trans (cu y).symm
  · intro h
    have edge : ∀ u v, (u, v) ∈ ps ++ [(a, b)] → rootF (united par lo hi) u = rootF (united par lo hi) v := by
      intro u v m
      rcases List.mem_append.mp m with m | m
      · rw [ur, ur, (j u v).mpr (.fwd m (.refl _))]
      · have e := List.mem_singleton.mp m
        cases e
        rw [ur, ur]
        split <;> split <;> omega
    induction h with
    | refl x => rfl
    | fwd m _ ih => exact (edge _ _ m).trans ih
    | bwd m _ ih => exact (edge _ _ m).symm.trans ih
/-- the root is the least of what is one with it -/
theorem joined_least {par : Nat → Nat} {ps : Prs} (d : Down par) (j : Joined par ps) (x : Nat) : LeastOf ps (rootF par x) ∧ Conn ps x (rootF par x) := by
  refine ⟨fun y c => ?_, (j x _).mp (root_root d x).symm⟩
  have e := (j y _).mpr c
  rw [root_root d] at e
  rw [← e]
  exact root_le d y
/-- both ways come to the same numbers -/
theorem rounds_root {par : Nat → Nat} {ps : Prs} (d : Down par) (j : Joined par ps) (x : Nat) : roundsF ps ps.length id x = rootF par x :=
  let ⟨h, c⟩ := joined_least d j x
  rounds_all h c
end Rp
namespace Rp
open PySem PySem.Spec PyProof.Rows L2
/-! ### floors: rings, crossings, regions -/
def nextN (n g : Nat) : Nat := if g + 1 = n then 0 else g + 1
def prevN (n g : Nat) : Nat := if g = 0 then n - 1 else g - 1
structure FR where
  ring : List Nat
  many : Nat
  ps : Prs
  rings : List (List Nat)
  crs : List (Str × List Nat)
def ringOf (w : Str) (r : List Nat) (g new : Nat) : List Nat :=
  if w = "turn" then r.drop g ++ r.take g else if w = "join" then r.take g ++ r.drop (g + 2)
  else if w = "open" then r.take (g + 1) ++ [new] ++ (if 1 < r.length then [r.getD g 0] else []) ++ r.drop (g + 1) else r.take g ++ [new] ++ r.drop (g + 1)
def isCr (w : Str) : Bool := decide (w = "over") || decide (w = "under")
def newOf (w : Str) : Nat := if w = "turn" then 0 else if w = "join" then 0 else 1
def fourOf (r : List Nat) (g new : Nat) : List Nat := [r.getD (prevN r.length g) 0, r.getD g 0, r.getD (nextN r.length g) 0, new]
def stepFR (f : FR) (w : Str) (g : Nat) : FR where
  ring := ringOf w f.ring g f.many
  many := f.many + newOf w
  ps := if w = "join" ∧ 2 < f.ring.length then f.ps ++ [(f.ring.getD (g - 1) 0, f.ring.getD (g + 1) 0)] else f.ps
  rings := f.rings ++ [ringOf w f.ring g f.many]
  crs := if isCr w = true then f.crs ++ [(w, fourOf f.ring g f.many)] else f.crs
def beginFR (m : Nat) : FR := ⟨List.range (max m 1), max m 1, [], [List.range (max m 1)], []⟩
def stepsFR : FR → Dl → FR
  | f, [] => f
  | f, (w, g) :: ds => stepsFR (stepFR f w g.toNat) ds
def floorFR (m : Int) (ds : Dl) : FR := stepsFR (beginFR m.toNat) ds
theorem stepsFR_app : ∀ (f : FR) (ds es : Dl), stepsFR f (ds ++ es) = stepsFR (stepsFR f ds) es
  | _, [], _ => rfl
  | f, (w, g) :: ds, es => stepsFR_app (stepFR f w g.toNat) ds es
theorem stepsFR_take {f : FR} {ds : Dl} {i : Nat} {w : Str} {g : Int} (e : ds[i]? = some (w, g)) : stepsFR f (ds.take (i + 1)) = stepFR (stepsFR f (ds.take i)) w g.toNat := by
  rw [List.take_succ, e, Option.toList_some, stepsFR_app]
  rfl
/-- what holds of a floor as it is laid: now: how many ends; k: how many deeds -/
structure FInv (m : Int) (f : FR) (now : Int) (k : Nat) : Prop where
  len : f.ring.length = max now.toNat 1
  rg : ∀ x ∈ f.ring, x < f.many
  rs : ∀ r ∈ f.rings, r.length ≤ 24 ∧ ∀ x ∈ r, x < f.many
  cs : ∀ c ∈ f.crs, c.2.length = 4 ∧ ∀ x ∈ c.2, x < f.many
  pl : ∀ p ∈ f.ps, p.1 < f.many ∧ p.2 < f.many
  m1 : 1 ≤ f.many
  mny : f.many ≤ max m.toNat 1 + k
  rk : f.rings.length = k + 1
  pk : f.ps.length ≤ k
  ck : f.crs.length ≤ k
  n0 : 0 ≤ now
  n24 : now ≤ 24
  n2 : now % 2 = 0
theorem FInv.begin {m : Int} (h0 : 0 ≤ m) (h24 : m ≤ 24) (h2 : m % 2 = 0) : FInv m (beginFR m.toNat) m 0 where
  len := List.length_range
  rg := fun x mx => List.mem_range.mp mx
  rs := fun r mr => by
    rw [show (beginFR m.toNat).rings = [List.range (max m.toNat 1)] from rfl] at mr
    rw [List.mem_singleton.mp mr]
    refine ⟨?_, fun x mx => List.mem_range.mp mx⟩
    rw [List.length_range]
    have : max m.toNat 1 ≤ 24 := Nat.max_le.mpr ⟨by omega, by decide⟩
    exact this
  cs := fun _ mc => nomatch mc
  pl := fun _ mp => nomatch mp
  m1 := Nat.le_max_right _ _
  mny := Nat.le_refl _
  rk := rfl
  pk := Nat.le_refl _
  ck := Nat.le_refl _
  n0 := h0
  n24 := h24
  n2 := h2
theorem getD_mem {r : List Nat} {g : Nat} (h : g < r.length) : r.getD g 0 ∈ r := by
  rw [List.getD_eq_getElem?_getD, List.getElem?_eq_getElem h]
  exact List.getElem_mem h
theorem getD_atN {r : List Nat} {g : Nat} (h : g < r.length) : r[g]? = some (r.getD g 0) := by
  rw [List.getD_eq_getElem?_getD, List.getElem?_eq_getElem h]
  rfl
/-- where a deed fits its gap is one of the ring -/
theorem fits_gap {w : Str} {m g : Int} (h0 : 0 ≤ m) (h2 : m % 2 = 0) (hw : w ∈ W5) (f : fitsG w m g = true) : 0 ≤ g ∧ g.toNat < max m.toNat 1 ∧ (w = "join" → 1 ≤ g ∧ 2 ≤ m ∧ (m ≤ 2 → g = 1) ∧ (2 < m → g + 1 < m)) ∧ (w ≠ "open" → w ≠ "join" → g < m) := by
  obtain ⟨a, b⟩ := Bool.and_eq_true_iff.mp f
  have a := of_decide_eq_true a
  have b := of_decide_eq_true b
  simp only [W5, List.mem_cons, List.not_mem_nil, or_false] at hw
  unfold gLo at a
  unfold gHi at b
  rcases hw with rfl | rfl | rfl | rfl | rfl
  · rw [if_neg (by decide), if_neg (by decide)] at a b
    exact ⟨a, by omega, fun e => absurd e (by decide), fun _ _ => b⟩
  · rw [if_neg (by decide), if_neg (by decide)] at a b
    exact ⟨a, by omega, fun e => absurd e (by decide), fun _ _ => b⟩
  · rw [if_neg (by decide), if_pos rfl] at a b
    split at a
    · split at b <;> exact ⟨by omega, by omega, fun _ => ⟨by omega, by omega, by omega, by omega⟩, fun _ e => absurd rfl e⟩
    · omega
  · rw [if_pos rfl] at a b
    split at b <;> exact ⟨by omega, by omega, fun e => absurd e (by decide), fun e => absurd rfl e⟩
  · rw [if_neg (by decide), if_neg (by decide)] at a b
    exact ⟨a, by omega, fun e => absurd e (by decide), fun _ _ => b⟩
theorem ringOf_len {w : Str} {r : List Nat} {g new : Nat} {m : Int} (h0 : 0 ≤ m) (h2 : m % 2 = 0) (hw : w ∈ W5) (hl : r.length = max m.toNat 1) {gi : Int} (eg : g = gi.toNat) (f : fitsG w m gi = true) : (ringOf w r g new).length = max (behind w m).toNat 1 := by
  obtain ⟨g0, g1, gj, gt⟩ := fits_gap h0 h2 hw f
  simp only [W5, List.mem_cons, List.not_mem_nil, or_false] at hw
  rcases hw with rfl | rfl | rfl | rfl | rfl
  · have := gt (by decide) (by decide)
    show ((r.take g ++ [new] ++ r.drop (g + 1)).length) = max m.toNat 1
    simp only [List.length_append, List.length_take, List.length_drop, List.length_singleton]
    omega
  · have := gt (by decide) (by decide)
    show ((r.take g ++ [new] ++ r.drop (g + 1)).length) = max m.toNat 1
    simp only [List.length_append, List.length_take, List.length_drop, List.length_singleton]
    omega
  · obtain ⟨j1, j2, j3, j4⟩ := gj rfl
    show ((r.take g ++ r.drop (g + 2)).length) = max (m - 2).toNat 1
    simp only [List.length_append, List.length_take, List.length_drop]
    omega
  · show ((r.take (g + 1) ++ [new] ++ (if 1 < r.length then [r.getD g 0] else []) ++ r.drop (g + 1)).length) = max (m + 2).toNat 1
    split
    · simp only [List.length_append, List.length_take, List.length_drop, List.length_singleton]
      omega
    · simp only [List.length_append, List.length_take, List.length_drop, List.length_singleton, List.length_nil]
      omega
  · have := gt (by decide) (by decide)
    show ((r.drop g ++ r.take g).length) = max m.toNat 1
    simp only [List.length_append, List.length_take, List.length_drop]
    omega
theorem ringOf_mem {w : Str} {r : List Nat} {g new b : Nat} (hr : ∀ x ∈ r, x < b) (hg : g < r.length) (hn : newOf w = 0 ∨ new < b) : ∀ x ∈ ringOf w r g new, x < b := by
  intro x mx
  unfold ringOf at mx
  unfold newOf at hn
  split at mx
  · rcases List.mem_append.mp mx with m | m
    · exact hr x (List.mem_of_mem_drop m)
    · exact hr x (List.mem_of_mem_take m)
  · rename_i e1
    rw [if_neg e1] at hn
    split at mx
    · rcases List.mem_append.mp mx with m | m
      · exact hr x (List.mem_of_mem_take m)
      · exact hr x (List.mem_of_mem_drop m)
    · rename_i e2
      rw [if_neg e2] at hn
      have hn : new < b := by omega
      split at mx
      · rcases List.mem_append.mp mx with m | m
        · rcases List.mem_append.mp m with m | m
          · rcases List.mem_append.mp m with m | m
            · exact hr x (List.mem_of_mem_take m)
            · rw [List.mem_singleton.mp m]; exact hn
          · split at m
            · rw [List.mem_singleton.mp m]; exact hr _ (getD_mem hg)
            · cases m
        · exact hr x (List.mem_of_mem_drop m)
      · rcases List.mem_append.mp mx with m | m
        · rcases List.mem_append.mp m with m | m
          · exact hr x (List.mem_of_mem_take m)
          · rw [List.mem_singleton.mp m]; exact hn
        · exact hr x (List.mem_of_mem_drop m)
theorem prevN_lt {n g : Nat} (h : g < n) : prevN n g < n := by unfold prevN; split <;> omega
theorem nextN_lt {n g : Nat} (h : g < n) : nextN n g < n := by unfold nextN; split <;> omega
theorem FInv.step {m : Int} {f : FR} {now : Int} {k : Nat} {w : Str} {g : Int} (I : FInv m f now k) (hw : w ∈ W5) (fit : fitsG w now g = true) (b : behind w now ≤ 24) : FInv m (stepFR f w g.toNat) (behind w now) (k + 1) := by
  obtain ⟨g0, g1, gj, gt⟩ := fits_gap I.n0 I.n2 hw fit
  have hg : g.toNat < f.ring.length := by rw [I.len]; exact g1
  have nle : f.many ≤ f.many + newOf w := Nat.le_add_right _ _
  have n1 : newOf w ≤ 1 := by unfold newOf; split; decide; split <;> decide
  have hnew : newOf w = 0 ∨ f.many < f.many + newOf w := by omega
  have lnr := ringOf_len (new := f.many) I.n0 I.n2 hw I.len rfl fit
  have mem := ringOf_mem (w := w) (g := g.toNat) (new := f.many) (b := f.many + newOf w) (fun x mx => Nat.lt_of_lt_of_le (I.rg x mx) nle) hg hnew
  refine ⟨lnr, mem, ?_, ?_, ?_, Nat.le_trans I.m1 nle, ?_, ?_, ?_, ?_, fits_ends I.n0 I.n2 fit, b, even_behind I.n2⟩
  · intro r mr
    rcases List.mem_append.mp (show r ∈ f.rings ++ [_] from mr) with mr | mr
    · obtain ⟨a, c⟩ := I.rs r mr
      exact ⟨a, fun x mx => Nat.lt_of_lt_of_le (c x mx) nle⟩
    · rw [List.mem_singleton.mp mr]
      refine ⟨?_, mem⟩
      rw [lnr]
      exact Nat.max_le.mpr ⟨by omega, by decide⟩
  · intro c mc
    have old : c ∈ f.crs → c.2.length = 4 ∧ ∀ x ∈ c.2, x < f.many + newOf w := fun mc => ⟨(I.cs c mc).1, fun x mx => Nat.lt_of_lt_of_le ((I.cs c mc).2 x mx) nle⟩
    by_cases hc : isCr w = true
    · rcases List.mem_append.mp (show c ∈ f.crs ++ [_] by rw [show (stepFR f w g.toNat).crs = f.crs ++ [(w, fourOf f.ring g.toNat f.many)] from if_pos hc] at mc; exact mc) with mc | mc
      · exact old mc
      · rw [List.mem_singleton.mp mc]
        refine ⟨rfl, fun x mx => ?_⟩
        have hn : newOf w = 1 := by
          unfold newOf
          rw [if_neg (fun e => by rw [e] at hc; exact absurd hc (by decide)), if_neg (fun e => by rw [e] at hc; exact absurd hc (by decide))]
        show x < f.many + newOf w
        rw [hn]
        have key : ∀ j, j < f.ring.length → f.ring.getD j 0 < f.many + 1 := fun j hj => Nat.lt_succ_of_lt (I.rg _ (getD_mem hj))
        simp only [fourOf, List.mem_cons, List.not_mem_nil, or_false] at mx
        rcases mx with rfl | rfl | rfl | rfl
        · exact key _ (prevN_lt hg)
        · exact key _ hg
        · exact key _ (nextN_lt hg)
        · omega
    · rw [show (stepFR f w g.toNat).crs = f.crs from if_neg hc] at mc
      exact old mc
  · intro p mp
    have old : p ∈ f.ps → p.1 < f.many + newOf w ∧ p.2 < f.many + newOf w := fun mp => ⟨Nat.lt_of_lt_of_le (I.pl p mp).1 nle, Nat.lt_of_lt_of_le (I.pl p mp).2 nle⟩
    by_cases hc : w = "join" ∧ 2 < f.ring.length
    · rw [show (stepFR f w g.toNat).ps = f.ps ++ [(f.ring.getD (g.toNat - 1) 0, f.ring.getD (g.toNat + 1) 0)] from if_pos hc] at mp
      rcases List.mem_append.mp mp with mp | mp
      · exact old mp
      · obtain ⟨j1, j2, j3, j4⟩ := gj hc.1
        have hl := I.len
        rw [List.mem_singleton.mp mp]
        exact ⟨Nat.lt_of_lt_of_le (I.rg _ (getD_mem (by omega))) nle, Nat.lt_of_lt_of_le (I.rg _ (getD_mem (by omega))) nle⟩
    · rw [show (stepFR f w g.toNat).ps = f.ps from if_neg hc] at mp
      exact old mp
  · show f.many + newOf w ≤ _
    have := I.mny
    omega
  · show (f.rings ++ [_]).length = _
    rw [List.length_append, I.rk]
    rfl
  · by_cases hc : w = "join" ∧ 2 < f.ring.length
    · rw [show (stepFR f w g.toNat).ps = f.ps ++ [(f.ring.getD (g.toNat - 1) 0, f.ring.getD (g.toNat + 1) 0)] from if_pos hc, List.length_append]
      exact Nat.succ_le_succ I.pk
    · rw [show (stepFR f w g.toNat).ps = f.ps from if_neg hc]
      exact Nat.le_succ_of_le I.pk
  · by_cases hc : isCr w = true
    · rw [show (stepFR f w g.toNat).crs = f.crs ++ [(w, fourOf f.ring g.toNat f.many)] from if_pos hc, List.length_append]
      exact Nat.succ_le_succ I.ck
    · rw [show (stepFR f w g.toNat).crs = f.crs from if_neg hc]
      exact Nat.le_succ_of_le I.ck
/-! ### numbers of regions -/
def cntR (lab : Nat → Nat) (n : Nat) : Nat := ((List.range n).filter fun y => decide (lab y = y)).length
theorem cntR_succ (lab : Nat → Nat) (n : Nat) : cntR lab (n + 1) = cntR lab n + if lab n = n then 1 else 0 := by
  unfold cntR
  rw [List.range_succ, List.filter_append, List.length_append]
  congr 1
  by_cases e : lab n = n <;> simp [e]
theorem cntR_le (lab : Nat → Nat) : ∀ n, cntR lab n ≤ n
  | 0 => Nat.le_refl _
  | n + 1 => by
    have := cntR_le lab n
    rw [cntR_succ]
    split <;> omega
theorem cntR_mono (lab : Nat → Nat) {n m : Nat} (h : n ≤ m) : cntR lab n ≤ cntR lab m := by
  induction m with
  | zero => rw [Nat.le_zero.mp h]; exact Nat.le_refl _
  | succ m ih =>
    rcases Nat.lt_or_eq_of_le h with h | h
    · exact Nat.le_trans (ih (Nat.le_of_lt_succ h)) (by rw [cntR_succ]; exact Nat.le_add_right _ _)
    · rw [h]; exact Nat.le_refl _
def labF (f : FR) : Nat → Nat := roundsF f.ps f.ps.length id
def nameF (f : FR) (x : Nat) : Nat := cntR (labF f) (labF f x)
def totF (f : FR) : Nat := cntR (labF f) f.many
def ringsF (f : FR) : List (List Nat) := f.rings.map fun r => r.map (nameF f)
def crsF (f : FR) : List (Str × List Nat) := f.crs.map fun c => (c.1, c.2.map (nameF f))
/-- the numbers so far, as a list -/
def parL (les : List Nat) (y : Nat) : Nat := les.getD y y
theorem parL_out {les : List Nat} {y : Nat} (h : les.length ≤ y) : parL les y = y := by
  unfold parL
  rw [List.getD_eq_getElem?_getD, List.getElem?_eq_none h]
  rfl
theorem parL_new {les : List Nat} : parL (les ++ [les.length]) = parL les := by
  funext y
  unfold parL
  rw [List.getD_eq_getElem?_getD, List.getD_eq_getElem?_getD]
  by_cases h : y < les.length
  · rw [List.getElem?_append_left h]
  · rw [List.getElem?_append_right (by omega), List.getElem?_eq_none (show les.length ≤ y by omega)]
    by_cases e : y = les.length
    · rw [e, Nat.sub_self]; rfl
    · rw [List.getElem?_eq_none (by rw [List.length_singleton]; omega)]
theorem parL_set {les : List Nat} {x v : Nat} (h : x < les.length) : parL (les.set x v) = fun y => if y = x then v else parL les y := by
  funext y
  unfold parL
  rw [List.getD_eq_getElem?_getD, List.getD_eq_getElem?_getD, List.getElem?_set]
  by_cases e : y = x
  · rw [if_pos e.symm, if_pos h, if_pos e]; rfl
  · rw [if_neg (fun z => e z.symm), if_neg e]
theorem parL_range (n : Nat) : parL (List.range n) = id := by
  funext y
  unfold parL
  rw [List.getD_eq_getElem?_getD]
  by_cases h : y < n
  · rw [List.getElem?_range h]; rfl
  · rw [List.getElem?_eq_none (by rw [List.length_range]; omega)]; rfl
theorem conn_same {ps : Prs} {a : Nat} {x y : Nat} (h : Conn (ps ++ [(a, a)]) x y) : Conn ps x y := by
  induction h with
  | refl x => exact .refl x
  | fwd m _ ih =>
    rcases List.mem_append.mp m with m | m
    · exact .fwd m ih
    · cases List.mem_singleton.mp m
      exact ih
  | bwd m _ ih =>
    rcases List.mem_append.mp m with m | m
    · exact .bwd m ih
    · cases List.mem_singleton.mp m
      exact ih
theorem joined_one {par : Nat → Nat} {ps : Prs} {a : Nat} (j : Joined par (ps ++ [(a, a)])) : Joined par ps := fun x y =>
  (j x y).trans ⟨conn_same, fun c => c.mono fun e m => List.mem_append_left _ m⟩
theorem par_for : ∀ (ps : Prs), ∃ par, Down par ∧ Joined par ps := by
  intro ps
  have key : ∀ qs : Prs, ∃ par, Down par ∧ Joined par qs.reverse := by
    intro qs
    induction qs with
    | nil => exact ⟨id, fun _ => Nat.le_refl _, joined_nil⟩
    | cons p qs ih =>
      obtain ⟨par, d, j⟩ := ih
      rw [List.reverse_cons]
      exact ⟨_, united_down d (Nat.le_trans (Nat.min_le_left _ _) (Nat.le_max_left _ _)), joined_more (a := p.1) (b := p.2) d j rfl rfl⟩
  have z := key ps.reverse
  rwa [List.reverse_reverse] at z
/-- the lesser numbers of a floor, as its list tells them -/
structure Les (les : List Nat) (f : FR) : Prop where
  len : les.length = f.many
  down : Down (parL les)
  join : Joined (parL les) f.ps
theorem Les.lab {les : List Nat} {f : FR} (h : Les les f) (x : Nat) : labF f x = rootF (parL les) x := rounds_root h.down h.join x
theorem lab_idem (f : FR) (x : Nat) : labF f (labF f x) = labF f x := by
  obtain ⟨par, d, j⟩ := par_for f.ps
  show roundsF f.ps f.ps.length id (roundsF f.ps f.ps.length id x) = roundsF f.ps f.ps.length id x
  rw [rounds_root d j, rounds_root d j, root_root d]
theorem lab_le (f : FR) (x : Nat) : labF f x ≤ x := rounds_le f.ps f.ps.length x
theorem Les.begin (m : Nat) : Les (List.range (max m 1)) (beginFR m) := ⟨List.length_range, by rw [parL_range]; exact fun _ => Nat.le_refl _, by rw [parL_range]; exact joined_nil⟩
theorem Les.self {les : List Nat} {f : FR} (h : Les les f) {n : Nat} (e : parL les n = n) : labF f n = n ∧ nameF f n = cntR (labF f) n ∧ cntR (labF f) (n + 1) = cntR (labF f) n + 1 := by
  have l : labF f n = n := by rw [h.lab, root_self h.down e]
  exact ⟨l, by unfold nameF; rw [l], by rw [cntR_succ, if_pos l]⟩
theorem Les.less {les : List Nat} {f : FR} (h : Les les f) {n : Nat} (e : parL les n ≠ n) : parL les n < n ∧ nameF f (parL les n) = nameF f n ∧ cntR (labF f) (n + 1) = cntR (labF f) n := by
  have d := h.down n
  have lt : parL les n < n := by omega
  have l : labF f (parL les n) = labF f n := by rw [h.lab, h.lab, root_par h.down]
  refine ⟨lt, by unfold nameF; rw [l], ?_⟩
  have ne : labF f n ≠ n := by
    have := lab_le f (parL les n)
    omega
  rw [cntR_succ, if_neg ne]
  rfl
theorem name_lt {f : FR} {x : Nat} (h : x < f.many) : nameF f x < totF f := by
  have l := lab_le f x
  have s : cntR (labF f) (labF f x + 1) = cntR (labF f) (labF f x) + 1 := by rw [cntR_succ, if_pos (lab_idem f x)]
  have m := cntR_mono (labF f) (show labF f x + 1 ≤ f.many by omega)
  show cntR (labF f) (labF f x) < cntR (labF f) f.many
  omega
/-- the roots, ascending -/
def rootsF (f : FR) : List Nat := (List.range f.many).filter fun y => decide (labF f y = y)
theorem rootsF_len (f : FR) : (rootsF f).length = totF f := rfl
theorem filt_at {p : Nat → Bool} : ∀ {n v : Nat}, v < n → p v = true → ((List.range n).filter p)[((List.range v).filter p).length]? = some v
  | 0, _, h, _ => absurd h (Nat.not_lt_zero _)
  | n + 1, v, h, hp => by
    rw [List.range_succ, List.filter_append]
    rcases Nat.lt_or_eq_of_le (Nat.le_of_lt_succ h) with h | h
    · have z := filt_at h hp
      rw [List.getElem?_append_left (List.getElem?_eq_some_iff.mp z).1]
      exact z
    · subst h
      rw [List.getElem?_append_right (Nat.le_refl _), Nat.sub_self, List.filter_cons_of_pos hp]
      rfl
theorem rootsF_at {f : FR} {x : Nat} (h : x < f.many) : (rootsF f)[nameF f x]? = some (labF f x) :=
  filt_at (Nat.lt_of_le_of_lt (lab_le f x) h) (decide_eq_true (lab_idem f x))
/-- two ascending lists of the same numbers are one -/
theorem asc_one : ∀ {a b : List Int}, a.Pairwise (· < ·) → b.Pairwise (· < ·) → (∀ x, x ∈ a ↔ x ∈ b) → a = b
  | [], [], _, _, _ => rfl
  | [], y :: b, _, _, h => absurd ((h y).mpr (List.mem_cons_self ..)) (List.not_mem_nil)
  | x :: a, [], _, _, h => absurd ((h x).mp (List.mem_cons_self ..)) (List.not_mem_nil)
  | x :: a, y :: b, ha, hb, h => by
    obtain ⟨ha1, ha2⟩ := List.pairwise_cons.mp ha
    obtain ⟨hb1, hb2⟩ := List.pairwise_cons.mp hb
    have e : x = y := by
      rcases List.mem_cons.mp ((h x).mp (List.mem_cons_self ..)) with e | m
      · exact e
      · rcases List.mem_cons.mp ((h y).mpr (List.mem_cons_self ..)) with e | m2
        · exact e.symm
        · have := hb1 x m; have := ha1 y m2; omega
    subst e
    rw [asc_one ha2 hb2 fun z => ?_]
    constructor
    · intro m
      rcases List.mem_cons.mp ((h z).mp (List.mem_cons_of_mem _ m)) with e | m2
      · have := ha1 z m; omega
      · exact m2
    · intro m
      rcases List.mem_cons.mp ((h z).mpr (List.mem_cons_of_mem _ m)) with e | m2
      · have := hb1 z m; omega
      · exact m2
theorem rootsF_asc (f : FR) : ((rootsF f).map fun (y : Nat) => (y : Int)).Pairwise (· < ·) := by
  rw [List.pairwise_map]
  exact (List.Pairwise.filter _ List.pairwise_lt_range).imp fun h => by omega
/-- the distinct labels, ascending, are the roots -/
theorem kept_roots {f : FR} {ks : List Int} (h1 : ks.Pairwise (· < ·)) (h2 : ∀ j, j ∈ ks ↔ j ∈ (List.range f.many).map fun x => ((labF f x : Nat) : Int)) : ks = (rootsF f).map fun (y : Nat) => (y : Int) := by
  refine asc_one h1 (rootsF_asc f) fun j => (h2 j).trans ?_
  constructor
  · intro m
    obtain ⟨x, mx, rfl⟩ := List.mem_map.mp m
    refine List.mem_map.mpr ⟨labF f x, List.mem_filter.mpr ⟨List.mem_range.mpr (Nat.lt_of_le_of_lt (lab_le f x) (List.mem_range.mp mx)), decide_eq_true (lab_idem f x)⟩, rfl⟩
  · intro m
    obtain ⟨y, my, rfl⟩ := List.mem_map.mp m
    obtain ⟨m1, m2⟩ := List.mem_filter.mp my
    exact List.mem_map.mpr ⟨y, m1, by rw [of_decide_eq_true m2]⟩
end Rp
namespace Rp
open PySem PySem.Spec PyProof.Rows L2 LamX RZ
/-! ### a set of a list's numbers, sorted; a list unpacked -/
section
variable {prog : Program} {w : World} {A : Around} {E : Value → Shared → Prop} {s : Shared}
/-- a set just begun -/
abbrev set0 (w : World) : Obj := { cls := .type "set", dict := none, data := .set #[] 0 (.fresh 0 0 (!w.params.followText "set-order")) }
set_option maxRecDepth 100000 in
set_option maxHeartbeats 3200000 in
theorem set_of_list {l : Addr} {its : Array Value} (ns : List Int) {Q : Value → Shared → Prop} (calm : A.handled = none) (atl : s.heap.IsList l its)
    (ofn : IntsAre its.toList ns) (room : ns.length + 1 < scanBound)
    (k : ∀ (g : Heap) (tk c : Nat), SetR w g s.heap.objs.size (fun j => decide (j ∈ ns)) c → c ≤ ns.length →
      (∀ b o, s.heap.get? b = some o → g.get? b = some o) → Q (.ref s.heap.objs.size) { s with heap := g, toks := tk }) :
    wpAny (model prog w) A (call (.type "set") [.ref l]) Q E s := by
  have size_eq : its.size = ns.length := by
    have z := IntsAre.length ofn
    rwa [Array.length_toList] at z
  obtain ⟨_, _, mro_⟩ := F.called_set.mro
  have made_ := F.called_set.made; have sub_ := F.called_set.sub
  refine wpAny_call (codeAny_of_tree ?_); show wpAny _ _ (callAny (.type "set") _) _ _ _
  refine wpAny_pure ⟨Code.quiet_builtin _ (by decide +kernel), codeAny_builtin F.entry_type_call ?_⟩; rw [Around.under_plain (weight_type_call_type "set" [.ref l] []) rfl]
  have nt_ := F.called_set.notType; have cc_ := F.called_set.canCreate; have tc_ := F.typeCall_set_1 (.ref l)
  repeat (any_goals (first | assumption | wp_step))
  refine codeAny_mono (code_set_led1 (.ref l) (E := E) (Q₁ := fun x t => x = .ref s.heap.objs.size ∧ t = { s with heap := s.heap.push (set0 w) }) ⟨rfl, rfl⟩) fun r t hr => ?_
  match r, hr with
  | .error _, hr => exact hr
  | .ok (.ret x), hr =>
    obtain ⟨ex, et⟩ := hr
    subst ex et
    have new_ : (s.heap.push (set0 w)).get? s.heap.objs.size = some (set0 w) := Heap.get?_push_size _ rfl
    have type_ : Shared.TypeIs { s with heap := s.heap.push (set0 w) } (.ref s.heap.objs.size) "set" := ⟨_, new_, rfl⟩
    have look_ := F.called_set.init.lookup; have bind_ := F.called_set.init.bind (.ref s.heap.objs.size)
    repeat (any_goals (first | assumption | wp_step))
    refine codeAny_mono (codeAny_call_builtin (R := wants (fun v u => v = .none ∧ ∃ g tk c, u = { s with heap := g, toks := tk } ∧ SetR w g s.heap.objs.size (fun j => decide (j ∈ ns)) c ∧ c ≤ ns.length ∧ ∀ b o, s.heap.get? b = some o → g.get? b = some o) E)
      F.called_set.init.plain F.entry_set_init (check_set_init_1 type_ ?_)) fun r2 t2 hr2 => ?_
    · obtain ⟨⟨oc, od, oq, osl⟩, at0, hc, n0, hd⟩ := atl
      simp only at hc hd
      subst hc hd
      have at1 : (s.heap.push (set0 w)).get? l = some { cls := .type "list", dict := od, data := .seq its n0, slots := osl } := Heap.get?_push_of_some _ at0
      have s1_ := F.sub_list_set; have s2_ := F.sub_list_frozenset
      have no_ : (Value.type "list" == Value.type "dict") = false := by decide
      have lst1 : (s.heap.push (set0 w)).IsList l its := ⟨_, at1, rfl, n0, rfl⟩
      unfold Builtin.«set.__init__» noKeywords Builtin.Frozenset.updateFrom
      generalize hI : pyIter = PI
      wp_walk
      subst hI
      refine wpAny_pyIter_list lst1 ?_
      refine wpAny_bind (wpAny_runValue ?_)
      have lt_ : l < s.heap.objs.size := Heap.lt_size at0
      have calm3 : A.in1.in1.in1.handled = none := by simp [calm]
      have neI : l ≠ (s.heap.push (set0 w)).objs.size := by rw [Heap.size_push]; exact Nat.ne_of_lt (Nat.lt_succ_of_lt lt_)
      have off : s.heap.objs.size ∉ [(s.heap.push (set0 w)).objs.size, l] := by
        rw [Heap.size_push]
        intro m
        rcases List.mem_cons.mp m with e | m
        · exact absurd e (Nat.ne_of_lt (Nat.lt_succ_self _))
        · exact absurd (List.mem_singleton.mp m) (Nat.ne_of_gt lt_)
      have vals : ∀ (i : Nat) (v : Value), its[i]? = some v → ∃ k t, ns[i]? = some k ∧ v = .int k t := fun i v hv => by
        have hi : i < ns.length := by rw [← size_eq]; exact (Array.getElem?_eq_some_iff.mp hv).1
        obtain ⟨t, e⟩ := PyProof.Rows.IntsAre.int_at ofn i v (by rw [Array.getElem?_toList]; exact hv)
        exact ⟨ns[i], t, List.getElem?_eq_getElem hi, by rw [e, List.getD_eq_getElem?_getD, List.getElem?_eq_getElem hi]; rfl⟩
      refine set_update_ints ((Walks.list calm3 _ l neI its).toS) s.heap.objs.size off ns size_eq room vals (its.size - 0) 0 _ (by omega) (Nat.zero_le _) ⟨⟨_, Heap.get?_push_size _ rfl, rfl, rfl⟩, (lst1.push _)⟩ ?h0 ?hR
      case h0 => exact ⟨0, Nat.le_refl 0, setR_new_at (Heap.get?_push_of_some _ new_)⟩
      case hR =>
        rintro ⟨g, gs, d, tk, os⟩ c moved le_ R_
        have e1 : gs = s.gens := moved.gens
        have e2 : d = s.drawn := moved.drawn
        have e3 : os = s.os := moved.os
        subst e1 e2 e3
        show wpAny _ _ _ _ _ _
        refine wpAny_pure ?_; show wpAny _ _ (ret Value.none) _ _ _
        rw [size_eq] at le_
        refine wpAny_pure ⟨rfl, g, tk, c, rfl, R_, le_, fun b o e => ?_⟩
        have lb : b < s.heap.objs.size := Heap.lt_size e
        refine moved.heap b o (fun m => ?_) (Heap.get?_push_of_some _ (Heap.get?_push_of_some _ e))
        rcases List.mem_cons.mp m with e | m
        · exact absurd e (Nat.ne_of_lt lb)
        · have z := List.mem_singleton.mp m
          rw [Heap.size_push] at z
          exact absurd z (Nat.ne_of_lt (Nat.lt_succ_of_lt lb))
    · match r2, hr2 with
      | .error _, hr2 => exact hr2
      | .ok (.ret v), hr2 =>
        obtain ⟨ev, g, tk, c, et, R_, le_, old⟩ := hr2
        subst ev et
        repeat (any_goals (first | assumption | wp_step))
        exact k _ _ _ R_ le_ old
      | .ok .next, hr2 => exact hr2.elim
      | .ok .brk, hr2 => exact hr2.elim
      | .ok .cont, hr2 => exact hr2.elim
  | .ok .next, hr => exact hr.elim
  | .ok .brk, hr => exact hr.elim
  | .ok .cont, hr => exact hr.elim
/-- a set's numbers, ascending, however many -/
theorem sorted_of_set {a : Addr} {S : Int → Bool} {n : Nat} {Q : Value → Shared → Prop} (R : SetR w s.heap a S n) (calm : A.handled = none) (small : n ≤ sizeLine)
    (k : ∀ t p (out : List Value) (c : Nat) (ns : List Int), (∀ b o, s.heap.get? b = some o → t.heap.get? b = some o) → t.gens = s.gens → t.os = s.os → s.heap.objs.size ≤ p →
      t.heap.get? p = some (seqObj "list" out.toArray c) → IntsAre out ns → ns.Pairwise (· < ·) → (∀ j, j ∈ ns ↔ S j = true) → Q (.ref p) t) :
    wpAny (model prog w) A (call (.builtin "sorted") [.ref a]) Q E s := by
  obtain ⟨o, es, ep, tb, ho, ex_, dt, good, nd, mem_, bd, fit_, hn, ris, led_⟩ := R
  refine Calls.call_function_entry kind_sorted plain_sorted entry_sorted (args_sorted1 _) ?_; unfold Builtin.«sorted»
  refine wpAny_bind (m := checkCount "sorted" 1 1 _) (wpAny_pure ?_)
  refine wpAny_bind (collect_set (A := A.in1) calm ⟨o, ho, ex_.1, dt⟩ fit_ bd ris led_ fun u vs old sz gs os pm => ?_)
  have lv : vs.length = n := by rw [pm.length_eq, List.length_map, Array.length_toList]; exact hn
  have iv_ : IntsAre vs (vs.map SrtO.iv) := SrtO.ints_iv fun v hv => by
    obtain ⟨e, he, q⟩ := List.mem_map.mp (pm.mem_iff.mp hv)
    obtain ⟨j, tk, h1, _⟩ := good e he
    exact ⟨j, tk, by rw [← q]; exact h1⟩
  have key_ : ∀ e : Int × Value, keyOf e = SrtO.iv e.2 := fun ⟨h, v⟩ => by cases v <;> rfl
  have pk : (vs.map SrtO.iv).Perm (es.toList.map keyOf) := by
    have q := pm.map SrtO.iv
    rw [List.map_map] at q
    rwa [show es.toList.map (SrtO.iv ∘ fun x => x.2) = es.toList.map keyOf from List.map_congr_left fun e _ => (key_ e).symm] at q
  refine wpAny_bind (wpAny_newList ?_ (by rw [lv]; exact small))
  have hL : (u.heap.push (seqObj "list" vs.toArray 0)).get? u.heap.objs.size = some (seqObj "list" vs.toArray 0) := Heap.get?_push_size _ rfl
  refine wpAny_bind (wpAny_holding (wpAny_call_entry slot_list_sort ⟨_, hL, rfl⟩ entry_list_sort (SrtO.list_sort_ord SrtO.swo_int hL (by rw [lv]; exact small) (fun h2 => SrtO.ints_sortable iv_ h2) fun out b1 b2 => ⟨_, rfl, ?_⟩) (args_list_sort _)))
  obtain ⟨k1, k2, k3⟩ := SrtO.ints_out iv_ b1 b2
  obtain ⟨c, hc⟩ := sortedHeap_at (vs := vs) (out := out.toArray) hL
  have pn : (out.map SrtO.iv).Perm (es.toList.map keyOf) := k2.trans pk
  refine wpAny_pure ⟨_, rfl, k _ u.heap.objs.size out c _ (fun b x e => ?_) gs os sz hc k1 (lt_of_le_nodup _ k3 (pn.nodup_iff.mpr nd)) fun j => by rw [pn.mem_iff, ← mem_ j]⟩
  have lt_ := Heap.lt_size (old b x e)
  show (sortedHeap (u.heap.push (seqObj "list" vs.toArray 0)) u.heap.objs.size vs out.toArray).get? b = some x
  rw [sortedHeap_old (Nat.ne_of_lt lt_) (by rw [size_push']; exact Nat.lt_succ_of_lt lt_)]
  exact Heap.get?_push_of_some _ (old b x e)
end
def tSortSet (K : PySem.W.Frag) (ta : TE) : TE := fun σ H Q => ta σ H fun x H1 => ∃ (l : Addr) (ns : List Int), x = .ref l ∧ SqL K H1 l (ns.map V.int) ∧ ns.length ≤ 4000 ∧
  ∀ (ks : List Int) (p : Addr), ks.Pairwise (· < ·) → (∀ j, j ∈ ks ↔ j ∈ ns) → H1 p = none → Q (.ref p) (upd H1 p (.lst (ks.map V.int)))
theorem r_sortSet {K : PySem.W.Frag} {ta : TE} {σ : L2.St} {H : Hp} {Q : VK} (h : ta σ H fun x H1 => ∃ (l : Addr) (ns : List Int), x = .ref l ∧ SqL K H1 l (ns.map V.int) ∧ ns.length ≤ 4000 ∧
  ∀ (ks : List Int) (p : Addr), ks.Pairwise (· < ·) → (∀ j, j ∈ ks ↔ j ∈ ns) → H1 p = none → Q (.ref p) (upd H1 p (.lst (ks.map V.int)))) : tSortSet K ta σ H Q := h
theorem pe_sortSet {X : Cx} {a : Expr} {ta : TE} {p p2 q pos : Pos} (hc : X.calm = true) (hg : Gl X "sorted") (hm : X.mg "sorted" = none) (hg2 : Gl X "set") (hm2 : X.mg "set" = none) (ha : PE X a ta)
    (na : starEach [a] X.env = (false, eval a X.env) :: starEach [] X.env := by rfl) : PE X (.Call (.Name "sorted" p) [.Call (.Name "set" p2) [a] [] q] [] pos) (tSortSet X.K ta) := by
  refine ⟨fun pins s σ H Q I h => ?_⟩
  refine Call_ (ld_blt I hg hm boot_sorted ?_)
  refine PyProof.Rows.callWith_builtin1 (PyProof.Rows.args_cons ?_ rfl) rfl rfl
  refine Call_ (ld_blt I hg2 hm2 boot_set ?_)
  refine PyProof.Rows.callWith_type1 (PyProof.Rows.args_cons (thn (ha.run pins s σ H _ I h) fun v s1 ⟨x, H1, I1, r1, q1⟩ => PyProof.Rows.args_nil ?_) na) na rfl
  obtain ⟨l, ns, rfl, hq, hl, q1⟩ := q1
  cases r1
  obtain ⟨its, rv, pl, hz⟩ := I1.list hq
  have it_ : IntsAre its.toArray.toList ns := by simpa using intsAre_vals rv
  refine set_of_list ns (I1.ok.hd hc) pl.isList it_ (by unfold scanBound; omega) fun g tk c R_ le_ old => ?_
  refine PyProof.Rows.args_nil ?_
  have I2 : Inv X pins σ H1 { s1 with heap := g, toks := tk } := I1.kept fun b o e => old b o e
  refine sorted_of_set R_ (I1.ok.hd hc) (Nat.le_trans le_ (Nat.le_trans hl (le_ok rfl))) fun t z out c2 ks old2 gs os lez hz2 hi2 asc mem2 => ?_
  have lk : (ks.map V.int).length ≤ sizeLine := by
    rw [List.length_map]
    have nd : ks.Nodup := asc.imp fun h => Int.ne_of_lt h
    exact Nat.le_trans (nd.length_le_of_subset (fun j hj => of_decide_eq_true ((mem2 j).mp hj))) (Nat.le_trans hl (le_ok rfl))
  have hn : H1 z = none := I2.hok.fresh lez
  have o12 : ∀ b o, s1.heap.get? b = some o → t.heap.get? b = some o := fun b o e => old2 b o (old b o e)
  have lez1 : s1.heap.objs.size ≤ z := by
    obtain ⟨_, _, _, _, hget, _⟩ := R_
    exact Nat.le_trans (Nat.le_of_lt (Heap.lt_size hget)) lez
  have J : Inv X pins σ (upd H1 z (.lst (ks.map V.int))) { s1 with heap := t.heap, gens := t.gens, drawn := t.drawn, toks := t.toks } :=
    I1.call (ch := []) (Un.laid o12 lez1 hn) (I1.hok.laid o12 lez1 ⟨lk, out, c2, vals_of_ints hi2, hz2⟩) (by rw [gs]; exact I1.bare) (fun _ z => nomatch z)
  have e : t = { s1 with heap := t.heap, gens := t.gens, drawn := t.drawn, toks := t.toks } := by
    cases t
    cases os
    rfl
  rw [e]
  exact ⟨.ref z, _, J, rfl, q1 ks z asc (fun j => (mem2 j).trans decide_eq_true_iff) hn⟩
end Rp
namespace Rp
open PySem PySem.Spec PyProof.Rows L2 LamX RZ
/-! ### own methods called where no error may come; more readings -/
structure MetX (P : Program) (w : World) (K : PySem.W.Frag) (mg : Str → Option Value) (base : Heap) (m : Str) (k : Nat) (C f : Addr) (fd : FuncData) (ps : List Str) (sp : Sp) : Prop where
  cls : Cls K C
  mt : Meth K C m f
  F : FnOk P w K mg base (L2.CX P w) k f fd ps sp
  b : Binds K fd ps []
theorem passE0 {X : Cx} : Passes (L2.CX X.prog X.w) X E0 := fun _ _ _ _ _ _ _ h => by
  obtain ⟨_, _, _, _, _, _, _, _, _, _, _, _, z⟩ := h
  exact z.elim
section
variable {X : Cx} {k : Nat} {C f : Addr} {fd : FuncData} {ps : List Str} {sp : Sp} {m : Str} {pos apos : Pos} {e o : Expr} {es : List Expr} {ta : TE} {t : TA}
theorem pe_mX {pl : Sem Bool} (c : MetX X.prog X.w X.K X.mg X.base m k C f fd ps sp) (r : Room k X.A) (he : PE X o ta) (ha : PA X (e :: es) t)
    (h1 : starEach (e :: es) X.env = (false, eval e X.env) :: starEach es X.env := by rfl) (h2 : (backTo pos (starEach es X.env)).any (·.1) = false := by rfl)
    (h3 : eval (.Call (.Attribute o m apos) (e :: es) [] pos) X.env = (do
      let ov ← eval o X.env; standAt apos.atName
      let (f, first) ← holding [ov] (getMethod ov m pl); callWith pos f first (backTo pos (starEach (e :: es) X.env)) (backToKw pos (keywordEach [] X.env))) := by rfl) :
    PE X (.Call (.Attribute o m apos) (e :: es) [] pos) (tMeth C m sp [] E0 ta t) :=
  pe_meth he c.cls c.mt c.F r c.b .nil passE0 ha h1 h2 h3
theorem pe_mX0 {pl : Sem Bool} (c : MetX X.prog X.w X.K X.mg X.base m k C f fd ps sp) (r : Room k X.A) (he : PE X o ta)
    (h3 : eval (.Call (.Attribute o m apos) [] [] pos) X.env = (do
      let ov ← eval o X.env; standAt apos.atName
      let (f, first) ← holding [ov] (getMethod ov m pl); callWith pos f first (backTo pos (starEach [] X.env)) (backToKw pos (keywordEach [] X.env))) := by rfl) :
    PE X (.Call (.Attribute o m apos) [] [] pos) (tMeth C m sp [] E0 ta tNil) :=
  pe_meth0 he c.cls c.mt c.F r c.b .nil passE0 h3
end
section
variable {K : PySem.W.Frag} {C : Addr} {m f : Str} {sp : Sp} {dvs : List V} {E : XK} {ta tv : TE} {t : TA} {σ : L2.St} {H : Hp} {Q : VK} {v : V}
theorem r_meth (h : ta σ H fun x H1 => ∃ a dx fs, x = .ref a ∧ H1 a = some (.ins C dx fs) ∧ fs.lookup m = none ∧ t σ H1 fun vs H2 => sp (x :: (vs ++ dvs)) H2 Q E) : tMeth C m sp dvs E ta t σ H Q := h
theorem r_meth0 (h : ta σ H fun x H1 => ∃ a dx fs, x = .ref a ∧ H1 a = some (.ins C dx fs) ∧ fs.lookup m = none ∧ sp (x :: dvs) H1 Q E) : tMeth C m sp dvs E ta tNil σ H Q := h
theorem r_fldaug {rd : V → V → Hp → VK → Prop} {D : Ends} (h : ta σ H fun x H1 => ∃ a C dx fs v, x = .ref a ∧ H1 a = some (.ins C dx fs) ∧ Cls K C ∧ NoAttr K C f ∧ fs.lookup f = some v ∧
  tv σ H1 fun y H2 => rd v y H2 fun z H3 => ∃ dx' fs', H3 a = some (.ins C dx' fs') ∧ fs'.length < 1000 ∧ D.nx σ (upd H3 a (.ins C dx' (putF f z fs')))) : sFldAug K ta tv rd f D σ H := h
theorem r_glst {n : Nat} {tg : TGs} {R : L2.St → Hp → Prop} (h : ∃ a xs, v = .ref a ∧ SqL K H a xs ∧ xs.length = n ∧ tg xs σ H R) : gLst K n tg v σ H R := h
theorem r_star {tr : TA} {R : List V → Hp → Prop} (h : ta σ H fun x H1 => ∃ p xs, x = .ref p ∧ (SqT K H1 p xs ∨ SqL K H1 p xs) ∧ tr σ H1 fun ys H2 => R (xs ++ ys) H2) : StX.tStar K ta tr σ H R := h
end
/-- lists of natural numbers, as values -/
abbrev nv (xs : List Nat) : List V := xs.map fun (n : Nat) => V.int (n : Int)
theorem nv_at {xs : List Nat} {i : Nat} (h : i < xs.length) : atI (nv xs) (i : Int) = some (.int ((xs.getD i 0 : Nat) : Int)) := atI_nat (by
  rw [List.getElem?_map, List.getD_eq_getElem?_getD, List.getElem?_eq_getElem h]
  rfl)
theorem nv_atD {xs : List Nat} {i : Nat} (h : i < xs.length) : atI (nv xs) (i : Int) = some (.int ((xs.getD i i : Nat) : Int)) := atI_nat (by
  rw [List.getElem?_map, List.getD_eq_getElem?_getD, List.getElem?_eq_getElem h]
  rfl)
theorem nv_set {xs : List Nat} {i v : Nat} : (nv xs).set i (.int (v : Int)) = nv (xs.set i v) := by unfold nv; rw [List.map_set]
theorem nv_len {xs : List Nat} : (nv xs).length = xs.length := List.length_map ..
theorem nv_app {xs ys : List Nat} : nv (xs ++ ys) = nv xs ++ nv ys := List.map_append ..
theorem nv_prev {xs : List Nat} {g : Nat} (h : g < xs.length) : atI (nv xs) ((g : Int) - 1) = some (.int ((xs.getD (prevN xs.length g) 0 : Nat) : Int)) := by
  unfold prevN
  by_cases e : g = 0
  · subst e
    rw [if_pos rfl]
    show atI (nv xs) (-1) = _
    unfold atI
    rw [nv_len, ixN_last (by omega), Option.bind_some, List.getElem?_map, getD_atN (by omega : xs.length - 1 < xs.length)]
    rfl
  · rw [if_neg e, show (g : Int) - 1 = ((g - 1 : Nat) : Int) by omega]
    exact nv_at (by omega)
theorem mod_nextN {n g : Nat} (h : g < n) : ((g : Int) + 1).fmod (n : Int) = ((nextN n g : Nat) : Int) := by
  have z := mod_next h
  rw [Int.zero_add] at z
  exact z
theorem nv_next {xs : List Nat} {g : Nat} (h : g < xs.length) : atI (nv xs) (((g : Int) + 1).fmod (xs.length : Int)) = some (.int ((xs.getD (nextN xs.length g) 0 : Nat) : Int)) := by
  rw [mod_nextN h]
  exact nv_at (nextN_lt h)
theorem cut_loN {xs : List Nat} {n : Nat} (h : n ≤ xs.length) : cutV (nv xs) none (some (n : Int)) = nv (xs.take n) := by
  rw [cut_lo (by rw [nv_len]; exact h)]
  unfold nv
  rw [List.map_take]
theorem cut_hiN {xs : List Nat} {n : Nat} (h : n ≤ xs.length) : cutV (nv xs) (some (n : Int)) none = nv (xs.drop n) := by
  rw [cut_hi (by rw [nv_len]; exact h)]
  unfold nv
  rw [List.map_drop]
/-- a list cut behind its end -/
theorem cut_over {xs : List Nat} {n : Nat} : cutV (nv xs) (some (n : Int)) none = nv (xs.drop n) := by
  by_cases h : n ≤ xs.length
  · exact cut_hiN h
  · unfold cutV
    rw [HT.sIx_nat, nv_len, Nat.min_eq_right (by omega)]
    rw [List.drop_of_length_le (by rw [nv_len]; omega), List.drop_of_length_le (by omega), List.take_nil]
    rfl
end Rp
local macro_rules | `(tactic| walk_at "re") => `(tactic| with_reducible first
  | refine Rp.r_op ?_ | refine Rp.r_test ?_ | refine Rp.r_if ?_ | refine Rp.r_asg ?_ | refine Rp.r_ret ?_
  | refine Rp.r_cb ?_ | refine Rp.r_cons ?_ | refine Rp.r_nil ?_ | refine Rp.r_c ?_ | refine Rp.r_gname ?_ | refine Rp.r_gsub ?_ | refine Rp.r_next ?_ | refine Rp.r_drop ?_
  | refine Rp.r_I0 ?_ | refine Rp.r_tb ?_ | refine Rp.r_not ?_ | refine Rp.r_and ?_ | refine Rp.r_or ?_ | refine Rp.r_sl ?_ | refine Rp.r_pnone ?_ | refine Rp.r_pint ?_
  | refine Rp.r_lst ?_ | refine Rp.r_tup ?_ | refine Rp.r_lc ?_ | refine Rp.r_ilist ?_ | refine Rp.r_itup ?_ | refine Rp.r_irng1 ?_ | refine Rp.r_irng2 ?_ | refine Rp.r_for ?_ | refine Rp.r_par ?_ | refine Rp.r_go ?_ | refine Rp.r_kw ?_ | refine Rp.r_disp ?_ | refine Rp.r_pair ?_ | refine Rp.r_pair0 ?_ | refine Rp.r_chain ?_ | refine Rp.r_U ?_ | refine Rp.r_gtup ?_ | refine Rp.r_un ?_ | refine Rp.r_ifx ?_ | refine Rp.r_bl ?_ | refine Rp.r_andV ?_ | refine Rp.r_orV ?_ | refine Rp.r_notV ?_ | refine Rp.r_call ?_ | refine Rp.r_yes ?_ | refine Rp.r_true ?_ | refine Rp.r_false ?_ | refine Rp.r_truen ?_ | refine Rp.r_falsen ?_ | refine Rp.r_goE ?_ | refine Rp.r_err ?_ | refine Rp.r_izipA ?_ | refine Rp.r_izip ?_ | refine Rp.r_lam ?_ | refine Rp.r_xt ?_ | refine Rp.r_err2 ?_ | refine Rp.r_make ?_ | refine Rp.r_fld ?_ | refine Rp.r_sfld ?_ | refine Rp.r_lrg ?_ | refine Rp.r_rg1 ?_ | refine Rp.r_rg2 ?_ | refine Rp.r_while ?_ | refine Rp.r_eqS ?_ | refine Rp.r_bm ?_ | refine Rp.r_izipB ?_ | refine Rp.r_makeK ?_ | refine Rp.r_ienumT ?_ | refine Rp.r_irevA ?_ | refine Rp.r_iitems ?_ | refine Rp.r_dget ?_ | refine Rp.r_revL ?_ | refine Rp.r_callBK ?_)
local macro_rules | `(tactic| walk_at "ex") => `(tactic| with_reducible first | refine Rp.r_op ?_ | refine Rp.r_test ?_ | refine Rp.r_cb ?_ | refine Rp.r_cons ?_ | refine Rp.r_nil ?_ | refine Rp.r_c ?_ | refine Rp.r_gname ?_ | refine Rp.r_gsub ?_ | refine Rp.r_I0 ?_ | refine Rp.r_tb ?_ | refine Rp.r_not ?_ | refine Rp.r_and ?_ | refine Rp.r_or ?_ | refine Rp.r_sl ?_ | refine Rp.r_pnone ?_ | refine Rp.r_pint ?_ | refine Rp.r_lst ?_ | refine Rp.r_tup ?_ | refine Rp.r_lc ?_ | refine Rp.r_ilist ?_ | refine Rp.r_itup ?_ | refine Rp.r_irng1 ?_ | refine Rp.r_irng2 ?_ | refine Rp.r_go ?_ | refine Rp.r_kw ?_ | refine Rp.r_disp ?_ | refine Rp.r_pair ?_ | refine Rp.r_pair0 ?_ | refine Rp.r_chain ?_ | refine Rp.r_U ?_ | refine Rp.r_gtup ?_ | refine Rp.r_un ?_ | refine Rp.r_ifx ?_ | refine Rp.r_bl ?_ | refine Rp.r_andV ?_ | refine Rp.r_orV ?_ | refine Rp.r_notV ?_ | refine Rp.r_call ?_ | refine Rp.r_yes ?_ | refine Rp.r_true ?_ | refine Rp.r_false ?_ | refine Rp.r_truen ?_ | refine Rp.r_falsen ?_ | refine Rp.r_goE ?_ | refine Rp.r_err ?_ | refine Rp.r_izipA ?_ | refine Rp.r_izip ?_ | refine Rp.r_lam ?_ | refine Rp.r_xt ?_ | refine Rp.r_err2 ?_ | refine Rp.r_make ?_ | refine Rp.r_fld ?_ | refine Rp.r_sfld ?_ | refine Rp.r_lrg ?_ | refine Rp.r_rg1 ?_ | refine Rp.r_rg2 ?_ | refine Rp.r_while ?_ | refine Rp.r_eqS ?_ | refine Rp.r_bm ?_ | refine Rp.r_izipB ?_ | refine Rp.r_makeK ?_ | refine Rp.r_ienumT ?_ | refine Rp.r_irevA ?_ | refine Rp.r_iitems ?_ | refine Rp.r_dget ?_ | refine Rp.r_revL ?_ | refine Rp.r_callBK ?_)
local macro_rules | `(tactic| walk_at "v") => `(tactic| ((with_reducible refine Rp.r_varE ?_); refine ⟨_, rfl, ?_⟩))
local macro_rules | `(tactic| walk_at "rex") => `(tactic| repeat (first | walk_at "ex" | walk_at "v"))
local macro_rules | `(tactic| walk_at "rd") => `(tactic| first | with_reducible refine Rp.r_seq ?_ | walk_at "re")
local macro_rules | `(tactic| walk_at "res") => `(tactic| repeat (first | walk_at "re" | walk_at "v"))
local macro_rules | `(tactic| walk_at "rds") => `(tactic| repeat (first | walk_at "rd" | walk_at "v"))
local macro_rules | `(tactic| walk_at "T") => `(tactic| (walk_at "rds"; refine L2.iteT ?_; walk_at "rds"))
local macro_rules | `(tactic| walk_at "F") => `(tactic| (walk_at "rds"; refine L2.iteF ?_; walk_at "rds"))
local macro_rules | `(tactic| walk_at "re") => `(tactic| with_reducible first | refine Rp.r_meth ?_ | refine Rp.r_meth0 ?_ | refine Rp.r_fldaug ?_ | refine Rp.r_glst ?_ | refine Rp.r_star ?_ | refine Rp.r_sortSet ?_)
local macro_rules | `(tactic| walk_at "ex") => `(tactic| with_reducible first | refine Rp.r_meth ?_ | refine Rp.r_meth0 ?_ | refine Rp.r_star ?_ | refine Rp.r_sortSet ?_)
namespace K25
open PySem PySem.Spec PyProof.Rows L2 Rp LamX RZ
def top (i : Nat) : Stmt := PySem.Challenge.pw_ropesays_k25_rings_deed_by_deed.main.body.getD i (.Pass ⟨0, 0, 0, 0⟩)
def clsBody (i : Nat) : List Stmt := match top i with | .ClassDef (body := b) .. => b | _ => []
structure Ad where
  k_MOST_DEEDS : Tok
  k_MOST_ENDS : Tok
  k_MOST_AT_RIM : Tok
  t_WORDS : Addr
  c_RopeError : Addr
  c_BadTangle : Addr
  c_Misfit : Addr
  c_TooMany : Addr
  c_BadText : Addr
  c_Floor : Addr
  c_Items : Addr
  c_Tangle : Addr
structure Txt (K : PySem.W.Frag) (mg : Str → Option Value) (ad : Ad) : Prop where
  g_MOST_DEEDS : mg "MOST_DEEDS" = some (.int 4000 ad.k_MOST_DEEDS)
  g_MOST_ENDS : mg "MOST_ENDS" = some (.int 24 ad.k_MOST_ENDS)
  g_MOST_AT_RIM : mg "MOST_AT_RIM" = some (.int 16 ad.k_MOST_AT_RIM)
  g_WORDS : mg "WORDS" = some (.ref ad.t_WORDS)
  o_WORDS : ∀ {H : Hp}, SqT K H ad.t_WORDS [.str "over", .str "under", .str "join", .str "open", .str "turn"]
  g_RopeError : mg "RopeError" = some (.ref ad.c_RopeError)
  g_BadTangle : mg "BadTangle" = some (.ref ad.c_BadTangle)
  g_Misfit : mg "Misfit" = some (.ref ad.c_Misfit)
  g_TooMany : mg "TooMany" = some (.ref ad.c_TooMany)
  g_BadText : mg "BadText" = some (.ref ad.c_BadText)
  g_Floor : mg "Floor" = some (.ref ad.c_Floor)
  g_Items : mg "Items" = some (.ref ad.c_Items)
  g_Tangle : mg "Tangle" = some (.ref ad.c_Tangle)
  z_abs : mg "abs" = none
  z_all : mg "all" = none
  z_bool : mg "bool" = none
  z_enumerate : mg "enumerate" = none
  z_int : mg "int" = none
  z_isinstance : mg "isinstance" = none
  z_len : mg "len" = none
  z_list : mg "list" = none
  z_max : mg "max" = none
  z_min : mg "min" = none
  z_range : mg "range" = none
  z_repr : mg "repr" = none
  z_set : mg "set" = none
  z_sorted : mg "sorted" = none
  z_str : mg "str" = none
  z_tuple : mg "tuple" = none
  z_zip : mg "zip" = none

def spIsDeed : Sp := fun vs H Q _ => ∃ (q t : Addr) (w : Str) (g : Int), vs = [.ref t] ∧ t ≠ q ∧ H t = some (.tup [.str w, .int g]) ∧ w ∈ W5 ∧ ∀ H', Same H H' → Q (.bl (inB (.int g) (some 0) (some 23))) H'
def spAreDeeds : Sp := fun vs H Q _ => ∃ (q a : Addr) (us : List V) (ds : Dl), vs = [.ref a] ∧ H a = some (.lst us) ∧ a ≠ q ∧ DsV q H us ds ∧ Typ 24 ds ∧ ds.length ≤ 4000 ∧ ∀ H', Same H H' → Q (.bl (gapsOk ds)) H'
def spFitting : Sp := fun vs H Q _ => ∃ (w : Str) (m : Int), vs = [.str w, .int m] ∧ 0 ≤ m ∧ m ≤ 24 ∧ ∀ H' p, Same H H' → H' p = some (.lst (rgV (gLo w m) (gHi w m))) → Q (.ref p) H'
def spBehind : Sp := fun vs H Q _ => ∃ (w : Str) (m : Int), vs = [.str w, .int m] ∧ Q (.int (behind w m)) H
def spDemFit (CM CT : Addr) : Sp := fun vs H Q E => ∃ (q a : Addr) (us : List V) (ds : Dl) (m : Int), vs = [.ref a, .int m, .int 0] ∧ H a = some (.lst us) ∧ DsV q H us ds ∧ 0 ≤ m ∧ m ≤ 24 ∧ m % 2 = 0 ∧ ∀ H', Same H H' →
  (demF ds m = none → Q .non H') ∧ (demF ds m = some false → errAt E CM "part" (.str "deeds") H') ∧ (demF ds m = some true → err2At E CT "what" "most" (.str "ends") (.int 24) H')

section
variable {P : Program} {w : World} {K : PySem.W.Frag} {mg : Str → Option Value} {base : Heap} {ad : Ad}
abbrev sIsInteger : Stmt := top 3
theorem scIsInteger : FnScope ["value"] ["value"] (defScope sIsInteger) := ⟨rfl, rfl, rfl, by decide +kernel, rfl, by decide +kernel, by decide +kernel⟩
theorem ok_IsInteger {f : Addr} {fd : FuncData} (F : Fun K "is_integer" "is_integer" sIsInteger f fd) (T : Txt K mg ad)   : FnOk P w K mg base (L2.CX P w) 1 f fd ["value"] spIsInt := by
  refine fnx F scIsInteger (fun {vs H Q E} h => ?_) (fun {cdv A fr s H vs Q E} hr h => ?_)
  · obtain ⟨q, v, rfl, ha, k⟩ := h
    rfl
  · obtain ⟨q, v, rfl, ha, k⟩ := h
    refine ⟨_, (PSs.nox (pss_one (ps_ret (pe_and (pe_callB call_isi (by rfl) T.z_isinstance (by decide +kernel) (pa_cons (pv 0) (pa_cons (pe_bltn (by rfl) T.z_int (by decide +kernel) (v := .ty "int") rfl) pa_nil))) (pe_one (pe_not (pe_callB call_isi (by rfl) T.z_isinstance (by decide +kernel) (pa_cons (pv 0) (pa_cons (pe_bltn (by rfl) T.z_bool (by decide +kernel) (v := .ty "bool") rfl) pa_nil))))))))), ?_⟩
    refine r_start (l := [some (v)]) rfl ?_
    walk_at "rds"
    obtain ⟨t, ty, kt⟩ := any_int (K := K) ha
    refine r_isi ty kt ?_
    walk_at "rds"
    have e0 := isI_eq v
    cases e : isIB v
    · walk_at "rds"
      rw [e] at e0
      rw [← e0] at k
      exact k
    · walk_at "rds"
      obtain ⟨t, ty, kt⟩ := any_bool (K := K) ha
      refine r_isi ty kt ?_
      walk_at "rds"
      rw [e, Bool.true_and] at e0
      rw [e0]
      exact k
abbrev sIsWithin : Stmt := top 4
theorem scIsWithin : FnScope ["value", "least", "most"] ["value", "least", "most"] (defScope sIsWithin) := ⟨rfl, rfl, rfl, by decide +kernel, rfl, by decide +kernel, by decide +kernel⟩
theorem ok_IsWithin {f : Addr} {fd : FuncData} (F : Fun K "is_within" "is_within" sIsWithin f fd) (T : Txt K mg ad)  {f0 : Addr} {fd0 : FuncData} (cIsInteger : CalX P w K mg base "is_integer" 1 f0 fd0 ["value"] spIsInt) : FnOk P w K mg base (L2.CX P w) 2 f fd ["value", "least", "most"] spWithin := by
  refine fnx F scIsWithin (fun {vs H Q E} h => ?_) (fun {cdv A fr s H vs Q E} hr h => ?_)
  · obtain ⟨q, v, lo, hi, rfl, ha, k⟩ := h
    rfl
  · obtain ⟨q, v, lo, hi, rfl, ha, k⟩ := h
    refine ⟨_, (PSs.nox (pss_cons (ps_if (pt_not (pt_val (pe_goX cIsInteger (hr.mono (by decide)) (by rfl) (pa_cons (pv 0) pa_nil))))
  (pss_one (ps_ret pe_bl))
  pss_nil)
  (pss_one (ps_ret (pe_and (pe_or (pe_cmpR op_isN (pv 1) pe_non (nomark _)) (pe_one (pe_cmpR op_le (pv 1) (pv 0) (nomark _)))) (pe_one (pe_or (pe_cmpR op_isN (pv 2) pe_non (nomark _)) (pe_one (pe_cmpR op_le (pv 0) (pv 2) (nomark _)))))))))), ?_⟩
    refine r_start (l := [some (v), some (oV lo), some (oV hi)]) rfl ?_
    walk_at "rds"
    refine ⟨q, v, rfl, ha, ?_⟩
    walk_at "rds"
    cases v with
    | int i =>
      walk_at "F"
      refine ⟨rfl, ?_⟩
      cases lo with
      | none =>
        walk_at "rds"
        walk_at "T"
        refine ⟨rfl, ?_⟩
        cases hi with
        | none => walk_at "rds"; walk_at "T"; exact k
        | some u => walk_at "rds"; walk_at "F"; exact k
      | some l =>
        walk_at "rds"
        walk_at "F"
        have k' : Q (.bl (decide (l ≤ i) && inB (.int i) none hi)) H := by
          have e : inB (.int i) (some l) hi = (decide (l ≤ i) && inB (.int i) none hi) := by simp [inB]
          rw [← e]
          exact k
        revert k'
        cases decide (l ≤ i) with
        | false =>
          intro k'
          walk_at "rds"
          exact k'
        | true =>
          intro k'
          rw [Bool.true_and] at k'
          walk_at "rds"
          refine ⟨rfl, ?_⟩
          cases hi with
          | none => walk_at "rds"; walk_at "T"; exact k'
          | some u => walk_at "rds"; walk_at "F"; exact k'
    | non => walk_at "T"; exact k
    | bl b => walk_at "T"; exact k
    | str x => walk_at "T"; exact k
    | byt x => walk_at "T"; exact k
    | flt x => walk_at "T"; exact k
    | ref a => walk_at "T"; exact k
    | ty n => walk_at "T"; exact k
abbrev sIsDeed : Stmt := top 22
theorem scIsDeed : FnScope ["value"] ["value"] (defScope sIsDeed) := ⟨rfl, rfl, rfl, by decide +kernel, rfl, by decide +kernel, by decide +kernel⟩
theorem ok_IsDeed {f : Addr} {fd : FuncData} (F : Fun K "_is_deed" "_is_deed" sIsDeed f fd) (T : Txt K mg ad)  {f0 : Addr} {fd0 : FuncData} (cIsWithin : CalX P w K mg base "is_within" 2 f0 fd0 ["value", "least", "most"] spWithin) : FnOk P w K mg base (L2.CX P w) 3 f fd ["value"] spIsDeed := by
  refine fnx F scIsDeed (fun {vs H Q E} h => ?_) (fun {cdv A fr s H vs Q E} hr h => ?_)
  · obtain ⟨q, t, w, g, rfl, nq, e, hw, k⟩ := h
    rfl
  · obtain ⟨q, t, w, g, rfl, nq, e, hw, k⟩ := h
    refine ⟨_, (PSs.nox (pss_cons (ps_if (PW.pt (pw_or (pt_not (pt_val (pe_callB call_isiT (by rfl) T.z_isinstance (by decide +kernel) (pa_cons (pv 0) (pa_cons (pe_tup (pa_cons (pe_bltn (by rfl) T.z_list (by decide +kernel) (v := .ty "list") rfl) (pa_cons (pe_bltn (by rfl) T.z_tuple (by decide +kernel) (v := .ty "tuple") rfl) pa_nil))) pa_nil))))) (pw_or1 (pt_cmpR op_ne (pe_callB call_len_seq (by rfl) T.z_len PySem.boot_len (pa_cons (pv 0) pa_nil)) pe_int (nomark _)))))
  (pss_one (ps_ret pe_bl))
  pss_nil)
  (pss_one (ps_ret (pe_and (pe_callB call_isi (by rfl) T.z_isinstance (by decide +kernel) (pa_cons (pe_ix ix_tup (pv 0) pe_int (fun _ _ => rfl)) (pa_cons (pe_bltn (by rfl) T.z_str (by decide +kernel) (v := .ty "str") rfl) pa_nil))) (pe_and (pe_cmpR op_in_seq (pe_ix ix_tup (pv 0) pe_int (fun _ _ => rfl)) (pe_glob (v := .ref ad.t_WORDS) (by rfl) T.g_WORDS rfl) rfl) (pe_one (pe_goX cIsWithin (hr.mono (by decide)) (by rfl) (pa_cons (pe_ix ix_tup (pv 0) pe_int (fun _ _ => rfl)) (pa_cons pe_int (pa_cons (pe_op op_sub (pe_glob (v := .int 24) (by rfl) T.g_MOST_ENDS ⟨_, rfl⟩) pe_int) pa_nil))))))))))), ?_⟩
    refine r_start (l := [some (.ref t)]) rfl ?_
    walk_at "rds"
    refine ⟨len_ok rfl, fun p hp => ?_⟩
    have s1 : Same H (upd H p (.tup [.ty "list", .ty "tuple"])) := same_neu (Same.refl H) hp
    have ep : upd H p (.tup [.ty "list", .ty "tuple"]) p = some (.tup [.ty "list", .ty "tuple"]) := upd_same
    generalize upd H p _ = H1 at s1 ep
    have e1 := s1 _ _ e
    walk_at "rds"
    refine r_isiT ep (.base (.tup e1)) (kit2 (x := false) (y := true) (by decide +kernel) (by decide +kernel)) ?_
    walk_at "F"
    refine ⟨_, _, rfl, .inr (SqT.of e1), ?_⟩
    walk_at "rds"
    refine ⟨rfl, ?_⟩
    walk_at "F"
    refine r_ixT (SqT.of e1) at20 ?_
    walk_at "rds"
    refine r_isi (.base (.str w)) (kit_ty (r := true) (by decide +kernel)) ?_
    walk_at "rds"
    refine r_ixT (SqT.of e1) at20 ?_
    walk_at "rds"
    refine r_in (.inr T.o_WORDS) rfl rfl ?_
    rw [in_W5 hw]
    walk_at "rds"
    refine r_ixT (SqT.of e1) at21 ?_
    walk_at "rds"
    exact ⟨q, .int g, some 0, some 23, rfl, .num g, k _ s1⟩
abbrev sAreDeeds : Stmt := top 21
theorem scAreDeeds : FnScope ["value", "each"] ["value"] (defScope sAreDeeds) := ⟨rfl, rfl, rfl, by decide +kernel, rfl, by decide +kernel, by decide +kernel⟩
theorem ok_AreDeeds {f : Addr} {fd : FuncData} (F : Fun K "are_deeds" "are_deeds" sAreDeeds f fd) (T : Txt K mg ad)  {f0 : Addr} {fd0 : FuncData} (cIsDeed : CalX P w K mg base "_is_deed" 3 f0 fd0 ["value"] spIsDeed) : FnOk P w K mg base (L2.CX P w) 4 f fd ["value"] spAreDeeds := by
  refine fnx F scAreDeeds (fun {vs H Q E} h => ?_) (fun {cdv A fr s H vs Q E} hr h => ?_)
  · obtain ⟨q, a, us, ds, rfl, ha, na, hds, ht, hl, k⟩ := h
    rfl
  · obtain ⟨q, a, us, ds, rfl, ha, na, hds, ht, hl, k⟩ := h
    refine ⟨_, (PSs.nox (pss_cons (ps_if (PW.pt (pw_or (pt_not (pt_val (pe_callB call_isiT (by rfl) T.z_isinstance (by decide +kernel) (pa_cons (pv 0) (pa_cons (pe_tup (pa_cons (pe_bltn (by rfl) T.z_list (by decide +kernel) (v := .ty "list") rfl) (pa_cons (pe_bltn (by rfl) T.z_tuple (by decide +kernel) (v := .ty "tuple") rfl) pa_nil))) pa_nil))))) (pw_or1 (pt_cmpR op_gt (pe_callB call_len_seq (by rfl) T.z_len PySem.boot_len (pa_cons (pv 0) pa_nil)) (pe_glob (v := .int 4000) (by rfl) T.g_MOST_DEEDS ⟨_, rfl⟩) (nomark _)))))
  (pss_one (ps_ret pe_bl))
  pss_nil)
  (pss_one (ps_ret (pe_callB (cr_all rfl) (by rfl) T.z_all (by decide +kernel) (pa_cons (pe_lc (own := [("each", 1)]) (g := gName 1) (tt := tYes) rfl scAreDeeds.nd (pi_list (pv 0)) (blkOk_by (own := [("each", 1)]) (N := ["value", "each"]) (sc := defScope sAreDeeds) (by decide +kernel)) (fun _ _ _ _ _ => (pg_name (i := 1) scAreDeeds.nd rfl (Or.inl rfl))) (fun _ _ _ _ _ => pts_nil) (fun _ _ _ _ _ => (pe_goX cIsDeed (hr.mono (by decide)) (by rfl) (pa_cons (pv 1) pa_nil)))) pa_nil)))))), ?_⟩
    refine r_start (l := [some (.ref a), none]) rfl ?_
    walk_at "rds"
    refine ⟨len_ok rfl, fun p hp => ?_⟩
    have s1 : Same H (upd H p (.tup [.ty "list", .ty "tuple"])) := same_neu (Same.refl H) hp
    have ep : upd H p (.tup [.ty "list", .ty "tuple"]) p = some (.tup [.ty "list", .ty "tuple"]) := upd_same
    generalize upd H p _ = H1 at s1 ep
    have e1 := s1 _ _ ha
    walk_at "rds"
    refine r_isiT ep (.base (.lst e1)) (kit2 (x := true) (y := false) (by decide +kernel) (by decide +kernel)) ?_
    walk_at "F"
    refine ⟨_, _, rfl, .inl (SqL.of e1), ?_⟩
    walk_at "rds"
    rw [decide_eq_false (show ¬ ((us.length : Int) > 4000) by rw [hds.len]; omega)]
    walk_at "rds"
    refine ⟨a, rfl, ⟨_, SqL.of e1⟩, fun D hD => ?_⟩
    have D0 : D ≠ a := (ne_of_none e1 hD).symm
    refine lc_list (K := K) (a := a) (xs := us) (fun i H' => H' D = some (.lst (((ds.take i).map fun d => inB (.int d.2) (some 0) (some 23)).map V.bl)) ∧ ∀ b o, b ≠ D → H1 b = some o → H' b = some o)
      ⟨upd_same, fun b o n e => by rw [upd_ne n]; exact e⟩ (fun i H' _ ⟨_, s2⟩ => SqL.of (s2 a _ D0.symm e1)) ?_ ?_
    · rintro i x H' hx ⟨hD', s2⟩
      obtain ⟨t, w, g, rfl, nt, et, ei⟩ := hds.at hx
      have et' := s2 t _ (ne_of_none (s1 _ _ et) hD) (s1 _ _ et)
      walk_at "rds"
      refine ⟨rfl, ?_⟩
      walk_at "rds"
      refine ⟨q, t, w, g, rfl, nt, et', (ht.at ei).1, fun H2 sH => ?_⟩
      refine ⟨_, sH _ _ hD', ?_, ?_, fun b o nb eb => by rw [upd_ne nb]; exact sH _ _ (s2 b o nb eb)⟩
      · rw [List.length_map, List.length_map, List.length_take]
        refine Nat.lt_of_le_of_lt (Nat.min_le_right _ _) (Nat.lt_of_le_of_lt hl ?_)
        exact lt_ok rfl
      · rw [upd_same, List.take_succ, ei, Option.toList_some, List.map_append, List.map_append]
        rfl
    · rintro H' ⟨hD', s2⟩
      rw [List.take_of_length_le (by rw [hds.len]; exact Nat.le_refl _)] at hD'
      walk_at "rds"
      refine ⟨D, _, rfl, SqL.of hD', ?_⟩
      have key : gapsOk ds = (ds.map fun d => inB (.int d.2) (some 0) (some 23)).all id := by
        rw [List.all_map]
        rfl
      rw [← key]
      exact k _ fun b o eb => s2 b o (ne_of_none (s1 b o eb) hD) (s1 b o eb)
abbrev sFittingGaps : Stmt := top 23
theorem scFittingGaps : FnScope ["word", "many"] ["word", "many"] (defScope sFittingGaps) := ⟨rfl, rfl, rfl, by decide +kernel, rfl, by decide +kernel, by decide +kernel⟩
theorem ok_FittingGaps {f : Addr} {fd : FuncData} (F : Fun K "_fitting_gaps" "_fitting_gaps" sFittingGaps f fd) (T : Txt K mg ad)   : FnOk P w K mg base (L2.CX P w) 1 f fd ["word", "many"] spFitting := by
  refine fnx F scFittingGaps (fun {vs H Q E} h => ?_) (fun {cdv A fr s H vs Q E} hr h => ?_)
  · obtain ⟨w, m, rfl, h0, h24, k⟩ := h
    rfl
  · obtain ⟨w, m, rfl, h0, h24, k⟩ := h
    refine ⟨_, (PSs.nox (pss_cons (ps_if (pt_cmpR op_eq (pv 0) pe_str (nomark _))
  (pss_one (ps_ret (pe_listRg rfl (by rfl) T.z_list (prg_1 (by rfl) T.z_range (pe_callB (call_max2 rfl) (by rfl) T.z_max (by decide +kernel) (pa_cons (pv 1) (pa_cons pe_int pa_nil)))))))
  pss_nil)
  (pss_cons (ps_if (PW.pt (pw_and (pt_cmpR op_eq (pv 0) pe_str (nomark _)) (pw_and1 (pt_cmpR op_gt (pv 1) pe_int (nomark _)))))
  (pss_one (ps_ret (pe_listRg rfl (by rfl) T.z_list (prg_2 (by rfl) T.z_range pe_int (pe_callB (call_max2 rfl) (by rfl) T.z_max (by decide +kernel) (pa_cons (pe_op op_sub (pv 1) pe_int) (pa_cons pe_int pa_nil)))))))
  pss_nil)
  (pss_one (ps_ret (pe_listRg rfl (by rfl) T.z_list (prg_1 (by rfl) T.z_range (pv 1)))))))), ?_⟩
    refine r_start (l := [some (.str w), some (.int m)]) rfl ?_
    walk_at "rds"
    by_cases ho : w = "open"
    · subst ho
      walk_at "T"
      refine ⟨_, _, rfl, ?_⟩
      walk_at "rds"
      have h1 : 0 ≤ (if 1 > m then 1 else m) ∧ (if 1 > m then 1 else m) ≤ 24 := by split <;> omega
      refine ⟨_, rfl, RgOk.of_le (by decide) (by omega) (by decide) h1.1, fun p hp => ?_⟩
      exact k _ p (same_neu (Same.refl H) hp) upd_same
    · rw [decide_eq_false ho]
      walk_at "rds"
      walk_at "rds"
      by_cases hj : w = "join"
      · subst hj
        rw [decide_eq_true rfl]
        walk_at "rds"
        have lo : gLo "join" m = if 0 < m then 1 else 0 := rfl
        have hi : gHi "join" m = if 0 < m then (if 2 > m - 1 then 2 else m - 1) else m := rfl
        rw [lo, hi] at k
        by_cases hm : 0 < m
        · rw [decide_eq_true hm]
          rw [if_pos hm, if_pos hm] at k
          walk_at "rds"
          refine ⟨_, _, rfl, ?_⟩
          walk_at "rds"
          have h1 : 0 ≤ (if 2 > m - 1 then 2 else m - 1) ∧ (if 2 > m - 1 then 2 else m - 1) ≤ 24 := by split <;> omega
          refine ⟨_, _, rfl, rfl, RgOk.of_le (by decide) (by omega) (by decide) h1.1, fun p hp => ?_⟩
          exact k _ p (same_neu (Same.refl H) hp) upd_same
        · rw [decide_eq_false hm]
          rw [if_neg hm, if_neg hm] at k
          walk_at "rds"
          refine ⟨_, rfl, RgOk.of_le (by decide) (by omega) (by decide) h0, fun p hp => ?_⟩
          exact k _ p (same_neu (Same.refl H) hp) upd_same
      · rw [decide_eq_false hj]
        have lo : gLo w m = 0 := by unfold gLo; rw [if_neg ho, if_neg hj]
        have hi : gHi w m = m := by unfold gHi; rw [if_neg ho, if_neg hj]
        rw [lo, hi] at k
        walk_at "rds"
        refine ⟨_, rfl, RgOk.of_le (by decide) (by omega) (by decide) h0, fun p hp => ?_⟩
        exact k _ p (same_neu (Same.refl H) hp) upd_same
abbrev sEndsBehind : Stmt := top 24
theorem scEndsBehind : FnScope ["word", "many"] ["word", "many"] (defScope sEndsBehind) := ⟨rfl, rfl, rfl, by decide +kernel, rfl, by decide +kernel, by decide +kernel⟩
theorem ok_EndsBehind {f : Addr} {fd : FuncData} (F : Fun K "ends_behind" "ends_behind" sEndsBehind f fd) (T : Txt K mg ad)   : FnOk P w K mg base (L2.CX P w) 1 f fd ["word", "many"] spBehind := by
  refine fnx F scEndsBehind (fun {vs H Q E} h => ?_) (fun {cdv A fr s H vs Q E} hr h => ?_)
  · obtain ⟨w, m, rfl, k⟩ := h
    rfl
  · obtain ⟨w, m, rfl, k⟩ := h
    refine ⟨_, (PSs.nox (pss_cons (ps_if (pt_cmpR op_eq (pv 0) pe_str (nomark _))
  (pss_one (ps_ret (pe_op op_sub (pv 1) pe_int)))
  pss_nil)
  (pss_cons (ps_if (pt_cmpR op_eq (pv 0) pe_str (nomark _))
  (pss_one (ps_ret (pe_op op_add (pv 1) pe_int)))
  pss_nil)
  (pss_one (ps_ret (pv 1)))))), ?_⟩
    refine r_start (l := [some (.str w), some (.int m)]) rfl ?_
    walk_at "rds"
    by_cases hj : w = "join"
    · subst hj
      rw [decide_eq_true rfl]
      walk_at "rds"
      exact k
    · rw [decide_eq_false hj]
      walk_at "rds"
      have e : behind w m = if w = "open" then m + 2 else m := by unfold behind; rw [if_neg hj]
      rw [e] at k
      by_cases ho : w = "open"
      · rw [decide_eq_true ho]
        rw [if_pos ho] at k
        walk_at "rds"
        exact k
      · rw [decide_eq_false ho]
        rw [if_neg ho] at k
        walk_at "rds"
        exact k
abbrev sDemandFitting : Stmt := top 25
theorem scDemandFitting : FnScope ["deeds", "ends", "inner", "many", "word", "gap"] ["deeds", "ends", "inner"] (defScope sDemandFitting) := ⟨rfl, rfl, rfl, by decide +kernel, rfl, by decide +kernel, by decide +kernel⟩
theorem ok_DemandFitting {f : Addr} {fd : FuncData} (F : Fun K "demand_fitting" "demand_fitting" sDemandFitting f fd) (T : Txt K mg ad)  {f0 : Addr} {fd0 : FuncData} (cEndsBehind : CalX P w K mg base "ends_behind" 1 f0 fd0 ["word", "many"] spBehind) {f1 : Addr} {fd1 : FuncData} (cFittingGaps : CalX P w K mg base "_fitting_gaps" 1 f1 fd1 ["word", "many"] spFitting) (eMisfit : Err1 P w K mg base "Misfit" ad.c_Misfit "part") (eTooMany : Err2 P w K mg base "TooMany" ad.c_TooMany "what" "most") : FnOk P w K mg base (L2.CX P w) 3 f fd ["deeds", "ends", "inner"] (spDemFit ad.c_Misfit ad.c_TooMany) := by
  refine fnx F scDemandFitting (fun {vs H Q E} h => ?_) (fun {cdv A fr s H vs Q E} hr h => ?_)
  · obtain ⟨q, a, us, ds, m, rfl, ha, hds, h0, h24, h2, k⟩ := h
    rfl
  · obtain ⟨q, a, us, ds, m, rfl, ha, hds, h0, h24, h2, k⟩ := h
    refine ⟨_, (pss_cons (ps_set (i := 3) scDemandFitting.nd rfl (Or.inl rfl) (pv 1))
  (pss_cons (ps_for (passes_of rfl) rfl (pi_list (pv 0)) (pg_tup rfl (pgs_cons (pg_name (i := 4) scDemandFitting.nd rfl (Or.inl rfl)) (pgs_cons (pg_name (i := 5) scDemandFitting.nd rfl (Or.inl rfl)) pgs_nil)))
  (pss_cons (ps_if (pt_cmpR op_notIn_seq (pv 5) (pe_goX cFittingGaps (hr.mono (by decide)) (by rfl) (pa_cons (pv 4) (pa_cons (pv 3) pa_nil))) rfl)
  (pss_one (ps_raise rfl (takes_of rfl rfl rfl rfl) (pmk_err1 eMisfit (hr.mono (by decide)) (by rfl) pe_str)))
  pss_nil)
  (pss_cons (ps_set (i := 3) scDemandFitting.nd rfl (Or.inl rfl) (pe_goX cEndsBehind (hr.mono (by decide)) (by rfl) (pa_cons (pv 4) (pa_cons (pv 3) pa_nil))))
  (pss_one (ps_if (pt_cmpR op_gt (pv 3) (pe_glob (v := .int 24) (by rfl) T.g_MOST_ENDS ⟨_, rfl⟩) (nomark _))
  (pss_one (ps_raise rfl (takes_of rfl rfl rfl rfl) (pmk_err2 eTooMany (hr.mono (by decide)) (by rfl) pe_str (pe_glob (v := .int 24) (by rfl) T.g_MOST_ENDS ⟨_, rfl⟩))))
  pss_nil)))))
  (pss_one (ps_if (pt_cmpR op_ne (pv 3) (pv 2) (nomark _))
  (pss_one (ps_raise rfl (takes_of rfl rfl rfl rfl) (pmk_err1 eMisfit (hr.mono (by decide)) (by rfl) pe_str)))
  pss_nil)))), ?_⟩
    refine r_start (l := [some (.ref a), some (.int m), some (.int 0), none, none, none]) rfl ?_
    walk_at "rds"
    refine ⟨a, rfl, ⟨_, SqL.of ha⟩, ?_⟩
    refine for_list (K := K) (a := a) (xs := us) (fun i σ G => ∃ (n : Int) (x y : Option V), σ = [some (.ref a), some (.int m), some (.int 0), some (.int n), x, y] ∧ Same H G ∧ 0 ≤ n ∧ n ≤ 24 ∧ n % 2 = 0 ∧ demF ds m = demF (ds.drop i) n) ⟨m, none, none, rfl, Same.refl H, h0, h24, h2, rfl⟩ (fun i σ G _ ⟨_, _, _, _, sG, _⟩ => SqL.of (sG _ _ ha)) ?_ ?_
    · rintro i x σ G hx ⟨n, x0, y0, rfl, sG, n0, n24, n2, hn⟩
      obtain ⟨t, w, g, rfl, nt, et, ei⟩ := hds.at hx
      have hd : ds.drop i = (w, g) :: ds.drop (i + 1) := by
        obtain ⟨hi, e⟩ := List.getElem?_eq_some_iff.mp ei
        rw [List.drop_eq_getElem_cons hi, e]
      rw [hd] at hn
      refine r_gtup ⟨_, _, rfl, SqT.of (sG _ _ et), rfl, ?_⟩
      refine ⟨_, _, rfl, ?_⟩
      walk_at "rds"
      refine ⟨_, _, rfl, ?_⟩
      walk_at "rds"
      refine ⟨rfl, ?_⟩
      walk_at "rds"
      refine ⟨w, n, rfl, n0, n24, fun G1 p s1 ep => ?_⟩
      refine r_notIn (.inl (SqL.of ep)) rfl flat_rg ?_
      rw [inV_rg]
      have hf : (decide (gLo w n ≤ g) && decide (g < gHi w n)) = fitsG w n g := rfl
      rw [hf]
      have s2 := sG.trans s1
      cases ef : fitsG w n g with
      | false =>
        have hs : demF ds m = some false := by
          rw [hn]
          show (if fitsG w n g then _ else some false) = _
          rw [ef]
          rfl
        walk_at "rds"
        exact (k _ s2).2.1 hs
      | true =>
        have b0 := fits_ends n0 n2 ef
        have b2 := even_behind (w := w) n2
        have hs : demF ds m = if behind w n > 24 then some true else demF (ds.drop (i + 1)) (behind w n) := by
          rw [hn]
          show (if fitsG w n g then _ else some false) = _
          rw [ef]
          rfl
        walk_at "rds"
        refine ⟨w, n, rfl, ?_⟩
        walk_at "rds"
        by_cases hb : behind w n > 24
        · rw [decide_eq_true hb]
          rw [if_pos hb] at hs
          walk_at "rds"
          exact (k _ s2).2.2 hs
        · rw [decide_eq_false hb]
          rw [if_neg hb] at hs
          walk_at "rds"
          exact ⟨_, _, _, rfl, s2, b0, by omega, b2, hs⟩
    · rintro σ G ⟨n, x0, y0, rfl, sG, n0, n24, n2, hn⟩
      rw [List.drop_of_length_le (by rw [hds.len]; exact Nat.le_refl _)] at hn
      have kk := k _ sG
      walk_at "rds"
      by_cases e : n = 0
      · subst e
        refine ⟨rfl, ?_⟩
        rw [show decide (V.int 0 = V.int 0) = true from rfl]
        walk_at "rds"
        exact kk.1 hn
      · refine ⟨rfl, ?_⟩
        rw [decide_eq_false (fun z => e (V.int.inj z))]
        walk_at "rds"
        exact kk.2.1 (by rw [hn]; show (if n = 0 then none else some false) = _; rw [if_neg e])
end
end K25
namespace K25
open PySem PySem.Spec PyProof.Rows L2 Rp LamX RZ

/-- the deeds that a Tangle keeps, its ends -/
def TanO (ends : Int) (p : Addr) : List (Str × V) := [("ends", .int ends), ("deeds", .ref p)]
def spTangle (C CB CM CT : Addr) : Sp := fun vs H Q E => ∃ (q x dx a : Addr) (us : List V) (ds : Dl) (m : Int), vs = [.ref x, .int m, .ref a] ∧ H x = some (.ins C dx []) ∧ H a = some (.lst us) ∧ a ≠ q ∧ DsV q H us ds ∧ Typ 24 ds ∧ ds.length ≤ 4000 ∧ 0 ≤ m ∧ m ≤ 16 ∧ m % 2 = 0 ∧
  (∀ H', Same H H' → gapsOk ds = false → errAt E CB "part" (.str "deeds") H') ∧
  (∀ H', Same H H' → gapsOk ds = true → demF ds m = some false → errAt E CM "part" (.str "deeds") H') ∧
  (∀ H', Same H H' → gapsOk ds = true → demF ds m = some true → err2At E CT "what" "most" (.str "ends") (.int 24) H') ∧
  (∀ H' p ts, But x H H' → gapsOk ds = true → demF ds m = none → H' x = some (.ins C dx (TanO m p)) → H' p = some (.tup ts) → DsV q H' ts ds → Q .non H')

section
variable {P : Program} {w : World} {K : PySem.W.Frag} {mg : Str → Option Value} {base : Heap} {ad : Ad}
abbrev sTangleInit : Stmt := (clsBody 31).getD 0 (.Pass ⟨0, 0, 0, 0⟩)
theorem scTangleInit : FnScope ["self", "ends", "deeds", "deed"] ["self", "ends", "deeds"] (defScope sTangleInit) := ⟨rfl, rfl, rfl, by decide +kernel, rfl, by decide +kernel, by decide +kernel⟩
theorem ok_TangleInit {f : Addr} {fd : FuncData} (F : Fun K "__init__" "Tangle.__init__" sTangleInit f fd) (T : Txt K mg ad) (TC : Cls K ad.c_Tangle) (TN1 : NoAttr K ad.c_Tangle "ends") (TN2 : NoAttr K ad.c_Tangle "deeds") {f0 : Addr} {fd0 : FuncData} (cDemandFitting : CalX P w K mg base "demand_fitting" 3 f0 fd0 ["deeds", "ends", "inner"] (spDemFit ad.c_Misfit ad.c_TooMany)) {f1 : Addr} {fd1 : FuncData} (cAreDeeds : CalX P w K mg base "are_deeds" 4 f1 fd1 ["value"] spAreDeeds) {f2 : Addr} {fd2 : FuncData} (cIsWithin : CalX P w K mg base "is_within" 2 f2 fd2 ["value", "least", "most"] spWithin) (eBadTangle : Err1 P w K mg base "BadTangle" ad.c_BadTangle "part") : FnOk P w K mg base (L2.CX P w) 5 f fd ["self", "ends", "deeds"] (spTangle ad.c_Tangle ad.c_BadTangle ad.c_Misfit ad.c_TooMany) := by
  refine fnx F scTangleInit (fun {vs H Q E} h => ?_) (fun {cdv A fr s H vs Q E} hr h => ?_)
  · obtain ⟨q, x, dx, a, us, ds, m, rfl, hx, ha, na, hds, ht, hl, h0, h16, h2, k1, k2, k3, k4⟩ := h
    rfl
  · obtain ⟨q, x, dx, a, us, ds, m, rfl, hx, ha, na, hds, ht, hl, h0, h16, h2, k1, k2, k3, k4⟩ := h
    refine ⟨_, (pss_cons (ps_if (PW.pt (pw_or (pt_not (pt_val (pe_goX cIsWithin (hr.mono (by decide)) (by rfl) (pa_cons (pv 1) (pa_cons pe_int (pa_cons (pe_glob (v := .int 16) (by rfl) T.g_MOST_AT_RIM ⟨_, rfl⟩) pa_nil)))))) (pw_or1 (pt_cmpR op_ne (pe_op op_modN (pv 1) pe_int) pe_int (nomark _)))))
  (pss_one (ps_raise rfl (takes_of rfl rfl rfl rfl) (pmk_err1 eBadTangle (hr.mono (by decide)) (by rfl) pe_str)))
  pss_nil)
  (pss_cons (ps_if (pt_not (pt_val (pe_goX cAreDeeds (hr.mono (by decide)) (by rfl) (pa_cons (pv 2) pa_nil))))
  (pss_one (ps_raise rfl (takes_of rfl rfl rfl rfl) (pmk_err1 eBadTangle (hr.mono (by decide)) (by rfl) pe_str)))
  pss_nil)
  (pss_cons (ps_expr (pe_goE cDemandFitting (hr.mono (by decide)) (takes_of rfl rfl rfl rfl) (by rfl) (pa_cons (pv 2) (pa_cons (pv 1) (pa_cons pe_int pa_nil)))))
  (PSs.nox (pss_cons (ps_fld (pv 0) (pv 1) (by rfl))
  (pss_one (ps_fld (pv 0) (pe_callTy call_tupK (by rfl) T.z_tuple (by decide +kernel) (pa_cons (pe_lc (own := [("deed", 3)]) (g := gName 3) (tt := tYes) (te := (tCB (rTupOf K) (tCons (tVar 3) tNil))) rfl scTangleInit.nd (pi_list (pv 2)) (blkOk_by (own := [("deed", 3)]) (N := ["self", "ends", "deeds", "deed"]) (sc := defScope sTangleInit) (by decide +kernel)) (fun _ _ _ _ _ => (pg_name (i := 3) scTangleInit.nd rfl (Or.inl rfl))) (fun _ _ _ _ _ => pts_nil) (fun _ _ _ _ _ => (pe_callTy call_tupK (by rfl) T.z_tuple (by decide +kernel) (pa_cons (pv 3) pa_nil)))) pa_nil)) (by rfl)))))))), ?_⟩
    refine r_start (l := [some (.ref x), some (.int m), some (.ref a), none]) rfl ?_
    walk_at "rds"
    refine ⟨q, .int m, some 0, some 16, rfl, .num m, ?_⟩
    have hB : inB (.int m) (some 0) (some 16) = true := by
      show (decide ((0 : Int) ≤ m) && decide (m ≤ (16 : Int))) = true
      rw [decide_eq_true h0, decide_eq_true h16]
      rfl
    rw [hB]
    walk_at "rds"
    refine r_I (by decide) ?_
    refine ⟨rfl, ?_⟩
    rw [show m.fmod 2 = 0 by rw [Int.fmod_eq_emod_of_nonneg _ (by decide)]; exact h2]
    walk_at "F"
    refine ⟨q, a, us, ds, rfl, ha, na, hds, ht, hl, fun H1 s1 => ?_⟩
    cases eg : gapsOk ds with
    | false =>
      walk_at "rds"
      exact k1 _ s1 eg
    | true =>
      walk_at "rds"
      refine ⟨q, a, us, ds, m, rfl, s1 _ _ ha, hds.but (same_but s1), h0, by omega, h2, fun H2 s2 => ?_⟩
      have s3 := s1.trans s2
      refine ⟨fun e => ?_, fun e => k2 _ s3 eg e, fun e => k3 _ s3 eg e⟩
      walk_at "rds"
      refine ⟨_, _, _, _, rfl, s3 _ _ hx, TC, TN1, le_ok rfl, ?_⟩
      walk_at "rds"
      generalize hG : upd H2 x _ = G
      have ex : G x = some (.ins ad.c_Tangle dx [("ends", .int m)]) := by rw [← hG]; exact upd_same
      have kG : ∀ b o, b ≠ x → H b = some o → G b = some o := fun b o n z => by rw [← hG, upd_ne n]; exact s3 b o z
      clear hG
      have nax : a ≠ x := ne_of hx ha (fun z => by cases z) |>.symm
      refine ⟨a, rfl, ⟨_, SqL.of (kG _ _ nax ha)⟩, fun D hD => ?_⟩
      have nDa : a ≠ D := ne_of_none (kG _ _ nax ha) hD
      have nDx : x ≠ D := ne_of_none ex hD
      refine lc_list (K := K) (a := a) (xs := us) (fun i H' => H' D = some (.lst (us.take i)) ∧ ∀ b o, b ≠ D → G b = some o → H' b = some o)
        ⟨upd_same, fun b o n e => by rw [upd_ne n]; exact e⟩ (fun i H' _ ⟨_, s2⟩ => SqL.of (s2 a _ nDa (kG _ _ nax ha))) ?_ ?_
      · rintro i v H' hv ⟨hD', sD⟩
        obtain ⟨t, w, g, rfl, nt, et, ei⟩ := hds.at hv
        have ntx : t ≠ x := ne_of hx et (fun z => by cases z) |>.symm
        have et' := sD t _ (ne_of_none (kG _ _ ntx et) hD) (kG _ _ ntx et)
        walk_at "rds"
        refine ⟨rfl, ?_⟩
        walk_at "rds"
        refine ⟨t, _, rfl, .inr ⟨SqT.of et', ?_⟩⟩
        refine ⟨_, hD', ?_, ?_, fun b o nb eb => by rw [upd_ne nb]; exact sD b o nb eb⟩
        · rw [List.length_take]
          refine Nat.lt_of_le_of_lt (Nat.min_le_right _ _) (Nat.lt_of_le_of_lt (by rw [hds.len]; exact hl) ?_)
          exact lt_ok rfl
        · rw [upd_same, List.take_succ, hv, Option.toList_some]
      · rintro H' ⟨hD', sD⟩
        rw [List.take_length] at hD'
        walk_at "rds"
        refine ⟨D, _, rfl, .inl ⟨SqL.of hD', fun l hl' => ?_⟩⟩
        walk_at "rds"
        have ex' := sD x _ nDx ex
        have nlx : x ≠ l := ne_of_none ex' hl'
        refine ⟨_, _, _, _, rfl, by rw [upd_ne nlx]; exact ex', TC, TN2, le_ok rfl, ?_⟩
        have keep : ∀ b o, b ≠ x → H b = some o → upd (upd H' l (.tup us)) x (.ins ad.c_Tangle dx (putF "deeds" (.ref l) [("ends", .int m)])) b = some o := fun b o n z => by
          have z1 := kG b o n z
          have z2 := sD b o (ne_of_none z1 hD) z1
          rw [upd_ne n, upd_ne (ne_of_none z2 hl')]
          exact z2
        refine k4 _ l us keep eg e ?_ ?_ ?_
        · rw [upd_same]; rfl
        · rw [upd_ne nlx.symm, upd_same]
        · exact hds.keep fun t xs z => keep t _ (ne_of hx z (fun z => by cases z) |>.symm) z
end
end K25
namespace K25
open PySem PySem.Spec PyProof.Rows L2 Rp LamX RZ

def spNewGap (C : Addr) : Sp := fun vs H Q _ => ∃ (x dx l : Addr) (fs : List (Str × V)) (les : List Nat), vs = [.ref x] ∧ H x = some (.ins C dx fs) ∧ fs.lookup ("lesser" : Str) = some (.ref l) ∧ H l = some (.lst (nv les)) ∧ les.length ≤ 5000 ∧ Q (.int (les.length : Nat)) (upd H l (.lst (nv (les ++ [les.length]))))
def spLeastN (C : Addr) : Sp := fun vs H Q _ => ∃ (x dx l : Addr) (fs : List (Str × V)) (les : List Nat) (n : Nat), vs = [.ref x, .int (n : Int)] ∧ H x = some (.ins C dx fs) ∧ fs.lookup ("lesser" : Str) = some (.ref l) ∧ H l = some (.lst (nv les)) ∧ n < les.length ∧ Down (parL les) ∧
  ∀ les' H', les'.length = les.length → Down (parL les') → (∀ y, rootF (parL les') y = rootF (parL les) y) → Keep [l] H H' → H' l = some (.lst (nv les')) → Q (.int ((rootF (parL les) n : Nat) : Int)) H'
def spMakeOne (C : Addr) : Sp := fun vs H Q _ => ∃ (x dx l : Addr) (fs : List (Str × V)) (les : List Nat) (a b : Nat), vs = [.ref x, .int (a : Int), .int (b : Int)] ∧ H x = some (.ins C dx fs) ∧ fs.lookup ("lesser" : Str) = some (.ref l) ∧ fs.lookup ("_least" : Str) = none ∧ H l = some (.lst (nv les)) ∧ a < les.length ∧ b < les.length ∧ Down (parL les) ∧
  ∀ les' H', les'.length = les.length → Down (parL les') → (∀ ps, Joined (parL les) ps → Joined (parL les') (ps ++ [(a, b)])) → Keep [l] H H' → H' l = some (.lst (nv les')) → Q .non H'
theorem parL_lt {les : List Nat} {n : Nat} (d : Down (parL les)) (h : n < les.length) : les.getD n n < les.length := Nat.lt_of_le_of_lt (d n) h
theorem two_sorted {ns : List Int} {u v : Nat} (p : ns.Perm [(u : Int), (v : Int)]) (s : ns.Pairwise (· ≤ ·)) : ns = [((min u v : Nat) : Int), ((max u v : Nat) : Int)] := by
  match ns, p.length_eq, p, s with
  | [a, b], _, p, s =>
    have h1 : a ≤ b := (List.pairwise_cons.mp s).1 b (List.mem_cons_self ..)
    have ma : a = u ∨ a = v := by have := p.mem_iff.mp (List.mem_cons_self .. : a ∈ [a, b]); simpa using this
    have mb : b = u ∨ b = v := by have := p.mem_iff.mp (List.mem_cons_of_mem _ (List.mem_cons_self ..) : b ∈ [a, b]); simpa using this
    have mu : (u : Int) = a ∨ (u : Int) = b := by have := p.mem_iff.mpr (List.mem_cons_self .. : (u : Int) ∈ [(u : Int), (v : Int)]); simpa using this
    have mv : (v : Int) = a ∨ (v : Int) = b := by have := p.mem_iff.mpr (List.mem_cons_of_mem _ (List.mem_cons_self ..) : (v : Int) ∈ [(u : Int), (v : Int)]); simpa using this
    have ha : a = ((min u v : Nat) : Int) := by omega
    have hb : b = ((max u v : Nat) : Int) := by omega
    rw [ha, hb]
theorem keep_at {S : List Addr} {H G : Hp} {b : Addr} {o : HO} (k : Keep S H G) (n : b ∉ S) (e : H b = some o) : G b = some o := k b o n e
theorem keep_put {l : Addr} {H G : Hp} {o : HO} (k : Keep [l] H G) : Keep [l] H (upd G l o) := fun b u n e => by
  rw [upd_ne (fun z => n (by rw [z]; exact List.mem_singleton.mpr rfl))]
  exact k b u n e

section
variable {P : Program} {w : World} {K : PySem.W.Frag} {mg : Str → Option Value} {base : Heap} {ad : Ad}
abbrev sFloorNewGap : Stmt := (clsBody 1).getD 2 (.Pass ⟨0, 0, 0, 0⟩)
theorem scFloorNewGap : FnScope ["self", "number"] ["self"] (defScope sFloorNewGap) := ⟨rfl, rfl, rfl, by decide +kernel, rfl, by decide +kernel, by decide +kernel⟩
theorem ok_FloorNewGap {f : Addr} {fd : FuncData} (F : Fun K "_new_gap" "Floor._new_gap" sFloorNewGap f fd) (T : Txt K mg ad) (TC : Cls K ad.c_Floor) (TN_lesser : NoAttr K ad.c_Floor "lesser")   : FnOk P w K mg base (L2.CX P w) 1 f fd ["self"] (spNewGap ad.c_Floor) := by
  refine fnx F scFloorNewGap (fun {vs H Q E} h => ?_) (fun {cdv A fr s H vs Q E} hr h => ?_)
  · obtain ⟨x, dx, l, fs, les, rfl, hx, hl, el, h5, k⟩ := h
    rfl
  · obtain ⟨x, dx, l, fs, les, rfl, hx, hl, el, h5, k⟩ := h
    refine ⟨_, (PSs.nox (pss_cons (ps_set (i := 1) scFloorNewGap.nd rfl (Or.inl rfl) (pe_callB call_len_seq (by rfl) T.z_len PySem.boot_len (pa_cons (pe_fld (pv 0) (by rfl)) pa_nil)))
  (pss_cons (ps_expr (pe_bm PySem.F.plainAttrs_list PySem.F.slot_list_append PySem.F.type_list_append mt_append (pe_fld (pv 0) (by rfl)) (pa_cons (pv 1) pa_nil)))
  (pss_one (ps_ret (pv 1)))))), ?_⟩
    refine r_start (l := [some (.ref x), none]) rfl ?_
    walk_at "rds"
    refine ⟨x, _, _, _, _, rfl, hx, TC, TN_lesser, hl, ?_⟩
    refine ⟨_, _, rfl, .inl (SqL.of el), ?_⟩
    rw [nv_len]
    walk_at "rds"
    refine ⟨x, _, _, _, _, rfl, hx, TC, TN_lesser, hl, ?_⟩
    refine ⟨ty_lst el, ?_⟩
    walk_at "rds"
    refine r_append el (by rw [nv_len]; exact Nat.lt_of_le_of_lt h5 (lt_ok rfl)) ?_
    walk_at "rds"
    rw [nv_app] at k
    exact k
abbrev sFloorLeast : Stmt := (clsBody 1).getD 3 (.Pass ⟨0, 0, 0, 0⟩)
theorem scFloorLeast : FnScope ["self", "number"] ["self", "number"] (defScope sFloorLeast) := ⟨rfl, rfl, rfl, by decide +kernel, rfl, by decide +kernel, by decide +kernel⟩
theorem ok_FloorLeast {f : Addr} {fd : FuncData} (F : Fun K "_least" "Floor._least" sFloorLeast f fd) (T : Txt K mg ad) (TC : Cls K ad.c_Floor) (TN_lesser : NoAttr K ad.c_Floor "lesser")   : FnOk P w K mg base (L2.CX P w) 1 f fd ["self", "number"] (spLeastN ad.c_Floor) := by
  refine fnx F scFloorLeast (fun {vs H Q E} h => ?_) (fun {cdv A fr s H vs Q E} hr h => ?_)
  · obtain ⟨x, dx, l, fs, les, n, rfl, hx, hl, el, hn, dn, k⟩ := h
    rfl
  · obtain ⟨x, dx, l, fs, les, n, rfl, hx, hl, el, hn, dn, k⟩ := h
    refine ⟨_, (PSs.nox (pss_cons (ps_while PassesOwn.never (pt_cmpR op_ne (pe_ix ix_list (pe_fld (pv 0) (by rfl)) (pv 1) (fun _ _ => rfl)) (pv 1) (nomark _))
  (pss_cons (ps_asg (pe_ix ix_list (pe_fld (pv 0) (by rfl)) (pe_ix ix_list (pe_fld (pv 0) (by rfl)) (pv 1) (fun _ _ => rfl)) (fun _ _ => rfl)) (pg_sub (pe_fld (pv 0) (by rfl)) (pv 1) set_list))
  (pss_one (ps_set (i := 1) scFloorLeast.nd rfl (Or.inl rfl) (pe_ix ix_list (pe_fld (pv 0) (by rfl)) (pv 1) (fun _ _ => rfl))))))
  (pss_one (ps_ret (pv 1))))), ?_⟩
    refine r_start (l := [some (.ref x), some (.int (n : Int))]) rfl ?_
    have hxl : x ≠ l := ne_of hx el (fun z => by cases z)
    have nx : x ∉ [l] := fun m => hxl (List.mem_singleton.mp m)
    walk_at "rds"
    refine ⟨fun m σ G => ∃ (n' : Nat) (le2 : List Nat), m = n' ∧ σ = [some (.ref x), some (.int (n' : Int))] ∧ n' < les.length ∧ le2.length = les.length ∧ Down (parL le2) ∧ (∀ y, rootF (parL le2) y = rootF (parL les) y) ∧ rootF (parL les) n' = rootF (parL les) n ∧ Keep [l] H G ∧ G l = some (.lst (nv le2)), ⟨n, n, les, rfl, rfl, hn, rfl, dn, fun _ => rfl, rfl, Keep.refl _ _, el⟩, ?_⟩
    rintro m σ G ⟨n', le2, rfl, rfl, hn', ln2, d2, ro2, rn, kp, e2⟩
    have hn2 : m < le2.length := by omega
    have hx2 := keep_at kp nx hx
    walk_at "rds"
    refine ⟨x, _, _, _, _, rfl, hx2, TC, TN_lesser, hl, ?_⟩
    walk_at "rds"
    refine r_ixL (SqL.of e2) (nv_atD hn2) ?_
    walk_at "rds"
    refine ⟨rfl, ?_⟩
    by_cases e : le2.getD m m = m
    · rw [decide_eq_true (show V.int ((le2.getD m m : Nat) : Int) = V.int (m : Int) by rw [e])]
      walk_at "rds"
      have r : rootF (parL les) n = m := by rw [← rn, ← ro2 m]; exact root_self d2 e
      have kk := k le2 G ln2 d2 ro2 kp e2
      rw [r] at kk
      exact kk
    · rw [decide_eq_false (fun z => e (by have := V.int.inj z; omega))]
      walk_at "rds"
      have p1 := parL_lt d2 hn2
      have lt1 : le2.getD m m < m := Nat.lt_of_le_of_ne (d2 m) e
      have e11 : parL le2 (parL le2 m) = le2.getD (le2.getD m m) (le2.getD m m) := rfl
      have lt2 : parL le2 (parL le2 m) < m := Nat.lt_of_le_of_lt (d2 _) lt1
      refine ⟨fun σ' G' => ∃ le3 : List Nat, σ' = [some (.ref x), some (.int ((parL le2 (parL le2 m) : Nat) : Int))] ∧ le3.length = les.length ∧ Down (parL le3) ∧ (∀ y, rootF (parL le3) y = rootF (parL les) y) ∧ Keep [l] H G' ∧ G' l = some (.lst (nv le3)), ?_, ?_⟩
      · rintro σ' G' ⟨le3, rfl, l3, d3, ro3, kp3, e3⟩
        exact ⟨_, lt2, _, le3, rfl, rfl, by omega, l3, d3, ro3, by rw [← ro2, root_par d2, root_par d2, ro2]; exact rn, kp3, e3⟩
      walk_at "rds"
      refine ⟨x, _, _, _, _, rfl, hx2, TC, TN_lesser, hl, ?_⟩
      walk_at "rds"
      refine ⟨x, _, _, _, _, rfl, hx2, TC, TN_lesser, hl, ?_⟩
      walk_at "rds"
      refine r_ixL (SqL.of e2) (nv_atD hn2) ?_
      refine r_ixL (SqL.of e2) (nv_atD p1) ?_
      walk_at "rds"
      refine ⟨x, _, _, _, _, rfl, hx2, TC, TN_lesser, hl, ?_⟩
      walk_at "rds"
      refine r_setL e2 (ixN_natX (by rw [nv_len]; exact hn2)) ?_
      rw [nv_set]
      have kp3 : Keep [l] H (upd G l (.lst (nv (le2.set m (le2.getD (le2.getD m m) (le2.getD m m)))))) := keep_put kp
      have e3 : upd G l (.lst (nv (le2.set m (le2.getD (le2.getD m m) (le2.getD m m))))) l = some (.lst (nv (le2.set m (le2.getD (le2.getD m m) (le2.getD m m))))) := upd_same
      generalize upd G l _ = G3 at kp3 e3
      have hp3 : parL (le2.set m (le2.getD (le2.getD m m) (le2.getD m m))) = halved (parL le2) m := by
        rw [parL_set hn2]
        rfl
      walk_at "rds"
      refine ⟨x, _, _, _, _, rfl, keep_at kp3 nx hx, TC, TN_lesser, hl, ?_⟩
      walk_at "rds"
      refine r_ixL (SqL.of e3) (nv_atD (by rw [List.length_set]; exact hn2)) ?_
      have ev : (le2.set m (le2.getD (le2.getD m m) (le2.getD m m))).getD m m = parL le2 (parL le2 m) := by
        show parL (le2.set m (le2.getD (le2.getD m m) (le2.getD m m))) m = _
        rw [hp3]
        unfold halved
        rw [if_pos rfl]
      rw [ev]
      walk_at "rds"
      exact ⟨_, rfl, by rw [List.length_set]; exact ln2, by rw [hp3]; exact halved_down d2 m, fun y => by rw [hp3, halved_root d2]; exact ro2 y, kp3, e3⟩
abbrev sFloorMakeOne : Stmt := (clsBody 1).getD 4 (.Pass ⟨0, 0, 0, 0⟩)
theorem scFloorMakeOne : FnScope ["self", "one", "other", "least", "more"] ["self", "one", "other"] (defScope sFloorMakeOne) := ⟨rfl, rfl, rfl, by decide +kernel, rfl, by decide +kernel, by decide +kernel⟩
theorem ok_FloorMakeOne {f : Addr} {fd : FuncData} (F : Fun K "_make_one" "Floor._make_one" sFloorMakeOne f fd) (T : Txt K mg ad) (TC : Cls K ad.c_Floor) (TN_lesser : NoAttr K ad.c_Floor "lesser") {fm50 : Addr} {fdm50 : FuncData} (mLeast : MetX P w K mg base "_least" 1 ad.c_Floor fm50 fdm50 ["self", "number"] (spLeastN ad.c_Floor))  : FnOk P w K mg base (L2.CX P w) 2 f fd ["self", "one", "other"] (spMakeOne ad.c_Floor) := by
  refine fnx F scFloorMakeOne (fun {vs H Q E} h => ?_) (fun {cdv A fr s H vs Q E} hr h => ?_)
  · obtain ⟨x, dx, l, fs, les, a, b, rfl, hx, hl, hm, el, ha, hb, dn, k⟩ := h
    rfl
  · obtain ⟨x, dx, l, fs, les, a, b, rfl, hx, hl, hm, el, ha, hb, dn, k⟩ := h
    refine ⟨_, (PSs.nox (pss_cons (ps_asg (pe_callB cr_sorted (by rfl) T.z_sorted (by decide +kernel) (pa_cons (pe_lst (pa_cons (pe_mX mLeast (hr.mono (by decide)) (pv 0) (pa_cons (pv 1) pa_nil)) (pa_cons (pe_mX mLeast (hr.mono (by decide)) (pv 0) (pa_cons (pv 2) pa_nil)) pa_nil))) pa_nil)) (pg_lst rfl (pgs_cons (pg_name (i := 3) scFloorMakeOne.nd rfl (Or.inl rfl)) (pgs_cons (pg_name (i := 4) scFloorMakeOne.nd rfl (Or.inl rfl)) pgs_nil))))
  (pss_one (ps_asg (pv 3) (pg_sub (pe_fld (pv 0) (by rfl)) (pv 4) set_list))))), ?_⟩
    refine r_start (l := [some (.ref x), some (.int (a : Int)), some (.int (b : Int)), none, none]) rfl ?_
    have hxl : x ≠ l := ne_of hx el (fun z => by cases z)
    have nx : x ∉ [l] := fun m => hxl (List.mem_singleton.mp m)
    walk_at "rds"
    refine ⟨x, dx, fs, rfl, hx, hm, ?_⟩
    walk_at "rds"
    refine ⟨x, dx, l, fs, les, a, rfl, hx, hl, el, ha, dn, fun le1 H1 l1 d1 ro1 k1 e1 => ?_⟩
    walk_at "rds"
    refine ⟨x, dx, fs, rfl, keep_at k1 nx hx, hm, ?_⟩
    walk_at "rds"
    refine ⟨x, dx, l, fs, le1, b, rfl, keep_at k1 nx hx, hl, e1, by omega, d1, fun le2 H2 l2 d2 ro2 k2 e2 => ?_⟩
    have kp := k1.trans k2
    walk_at "rds"
    refine ⟨len_ok rfl, fun p hp => ?_⟩
    have s3 := same_neu (Same.refl H2) hp (o := .lst [.int ((rootF (parL les) a : Nat) : Int), .int ((rootF (parL le1) b : Nat) : Int)])
    have ep : upd H2 p (.lst [.int ((rootF (parL les) a : Nat) : Int), .int ((rootF (parL le1) b : Nat) : Int)]) p = some (.lst ([((rootF (parL les) a : Nat) : Int), ((rootF (parL le1) b : Nat) : Int)].map V.int)) := upd_same
    generalize upd H2 p _ = H3 at s3 ep
    walk_at "rds"
    refine ⟨p, _, rfl, SqL.of ep, (by show 2 < 64; decide), fun ns' p2 perm asc hp2 => ?_⟩
    rw [two_sorted perm asc]
    have s4 := s3.trans (same_neu (Same.refl H3) hp2 (o := .lst ([((min (rootF (parL les) a) (rootF (parL le1) b) : Nat) : Int), ((max (rootF (parL les) a) (rootF (parL le1) b) : Nat) : Int)].map V.int)))
    have ep2 : upd H3 p2 (.lst ([((min (rootF (parL les) a) (rootF (parL le1) b) : Nat) : Int), ((max (rootF (parL les) a) (rootF (parL le1) b) : Nat) : Int)].map V.int)) p2 = some (.lst ([((min (rootF (parL les) a) (rootF (parL le1) b) : Nat) : Int), ((max (rootF (parL les) a) (rootF (parL le1) b) : Nat) : Int)].map V.int)) := upd_same
    generalize upd H3 p2 _ = H4 at s4 ep2
    refine r_glst ⟨p2, _, rfl, SqL.of ep2, rfl, ?_⟩
    refine ⟨_, _, rfl, ?_⟩
    walk_at "rds"
    refine ⟨_, _, rfl, ?_⟩
    walk_at "rds"
    refine ⟨rfl, ?_⟩
    have hb1 : rootF (parL le1) b = rootF (parL les) b := ro1 b
    have k4 : Keep [l] H H4 := kp.trans (Keep.of s4)
    have e4 := s4 _ _ e2
    walk_at "rds"
    refine ⟨x, _, _, _, _, rfl, keep_at k4 nx hx, TC, TN_lesser, hl, ?_⟩
    walk_at "rds"
    have ra := root_le dn a
    have rb := root_le d1 b
    refine r_setL e4 (ixN_natX (by rw [nv_len]; omega)) ?_
    rw [nv_set]
    refine k _ _ (by rw [List.length_set]; omega) ?_ (fun ps j => ?_) (keep_put k4) upd_same
    · rw [parL_set (by omega)]
      exact united_down d2 (Nat.le_trans (Nat.min_le_left _ _) (Nat.le_max_left _ _))
    · rw [parL_set (by omega)]
      have j2 : Joined (parL le2) ps := fun y z => by rw [ro2, ro2, ro1, ro1]; exact j y z
      exact joined_more d2 j2 (by rw [ro2 a, ro1 a, ro2 b]) (by rw [ro2 a, ro1 a, ro2 b])
end
end K25
namespace K25
open PySem PySem.Spec PyProof.Rows L2 Rp LamX RZ

def spRingBehind (C : Addr) : Sp := fun vs H Q _ => ∃ (x dx r l c : Addr) (fs : List (Str × V)) (f : FR) (les : List Nat) (cs : List V) (w : Str) (g : Nat), vs = [.ref x, .str w, .int (g : Int)] ∧ H x = some (.ins C dx fs) ∧
  fs.lookup ("ring" : Str) = some (.ref r) ∧ fs.lookup ("lesser" : Str) = some (.ref l) ∧ fs.lookup ("crossings" : Str) = some (.ref c) ∧ fs.lookup ("_make_one" : Str) = none ∧ fs.lookup ("_new_gap" : Str) = none ∧ fs.lookup ("_least" : Str) = none ∧
  H r = some (.lst (nv f.ring)) ∧ H l = some (.lst (nv les)) ∧ H c = some (.lst cs) ∧ l ≠ c ∧ l ≠ r ∧ c ≠ r ∧ Les les f ∧ w ∈ W5 ∧ g < f.ring.length ∧
  (w = "join" → 1 ≤ g ∧ ((f.ring.length = 2 ∧ g = 1) ∨ (2 < f.ring.length ∧ g + 1 < f.ring.length))) ∧ (∀ x ∈ f.ring, x < f.many) ∧ f.ring.length ≤ 24 ∧ f.many ≤ 4900 ∧ cs.length ≤ 4900 ∧
  ∀ r' les' H', H r' = none → H' r' = some (.lst (nv (ringOf w f.ring g f.many))) → H' l = some (.lst (nv les')) → Les les' (stepFR f w g) → Keep [l, c] H H' →
    ((isCr w = false ∧ H' c = some (.lst cs)) ∨ (isCr w = true ∧ ∃ t u, H t = none ∧ H u = none ∧ H' c = some (.lst (cs ++ [.ref t])) ∧ H' t = some (.tup [.str w, .ref u]) ∧ H' u = some (.tup (nv (fourOf f.ring g f.many))))) → Q (.ref r') H'
theorem step_ps {f : FR} {w : Str} {g : Nat} (h : w ≠ "join") : (stepFR f w g).ps = f.ps := if_neg fun z => h z.1
theorem keep_free {S : List Addr} {H G : Hp} {b : Addr} (k : Keep S H G) (i : ∀ s ∈ S, ∃ o, G s = some o) (h : G b = none) : H b = none := by
  cases e : H b with
  | none => rfl
  | some o =>
    by_cases m : b ∈ S
    · obtain ⟨u, eu⟩ := i b m
      rw [h] at eu
      cases eu
    · rw [k b o m e] at h
      cases h
theorem keep_two {l c : Addr} {H G : Hp} (k : Keep [l] H G) : Keep [l, c] H G := k.sub fun b m => by rw [List.mem_singleton.mp m]; exact List.mem_cons_self ..
theorem keep_putC {l c : Addr} {H G : Hp} {o : HO} (k : Keep [l, c] H G) : Keep [l, c] H (upd G c o) := fun b u n e => by
  rw [upd_ne (fun z => n (by rw [z]; simp))]
  exact k b u n e
theorem upd_keep {H : Hp} {b l : Addr} {o u : HO} (n : b ≠ l) (e : H b = some o) : upd H l u b = some o := by rw [upd_ne n]; exact e
theorem keep_putL {l c : Addr} {H G : Hp} {o : HO} (k : Keep [l, c] H G) : Keep [l, c] H (upd G l o) := fun b u n e => by
  rw [upd_ne (fun z => n (by rw [z]; simp))]
  exact k b u n e
theorem les_newgap {les : List Nat} {f f' : FR} (h : Les les f) (hm : f'.many = f.many + 1) (hp : f'.ps = f.ps) : Les (les ++ [les.length]) f' :=
  ⟨by rw [List.length_append, h.len, hm]; rfl, by rw [parL_new]; exact h.down, by rw [parL_new, hp]; exact h.join⟩
theorem small24 {a b : List V} (ha : a.length ≤ 60) (hb : b.length ≤ 60) : a.length + b.length ≤ sizeLine := Nat.le_of_lt (small1000 (by omega))

section
variable {P : Program} {w : World} {K : PySem.W.Frag} {mg : Str → Option Value} {base : Heap} {ad : Ad}
abbrev sFloorRingBehind : Stmt := (clsBody 1).getD 1 (.Pass ⟨0, 0, 0, 0⟩)
theorem scFloorRingBehind : FnScope ["self", "word", "gap", "ring", "again", "inner"] ["self", "word", "gap"] (defScope sFloorRingBehind) := ⟨rfl, rfl, rfl, by decide +kernel, rfl, by decide +kernel, by decide +kernel⟩
theorem ok_FloorRingBehind {f : Addr} {fd : FuncData} (F : Fun K "_ring_behind" "Floor._ring_behind" sFloorRingBehind f fd) (T : Txt K mg ad) (TC : Cls K ad.c_Floor) (TN_ring : NoAttr K ad.c_Floor "ring") (TN_crossings : NoAttr K ad.c_Floor "crossings") {fm50 : Addr} {fdm50 : FuncData} (mMakeOne : MetX P w K mg base "_make_one" 2 ad.c_Floor fm50 fdm50 ["self", "one", "other"] (spMakeOne ad.c_Floor)) {fm51 : Addr} {fdm51 : FuncData} (mNewGap : MetX P w K mg base "_new_gap" 1 ad.c_Floor fm51 fdm51 ["self"] (spNewGap ad.c_Floor))  : FnOk P w K mg base (L2.CX P w) 3 f fd ["self", "word", "gap"] (spRingBehind ad.c_Floor) := by
  refine fnx F scFloorRingBehind (fun {vs H Q E} h => ?_) (fun {cdv A fr s H vs Q E} hr h => ?_)
  · obtain ⟨x, dx, r, l, c, fs, f, les, cs, w, g, rfl, hx, lr, ll, lc, nm, ng, nl, er, el, ec, nlc, nlr, ncr, hles, hw, hg, hjoin, hring, h24, h49, hcs, k⟩ := h
    rfl
  · obtain ⟨x, dx, r, l, c, fs, f, les, cs, w, g, rfl, hx, lr, ll, lc, nm, ng, nl, er, el, ec, nlc, nlr, ncr, hles, hw, hg, hjoin, hring, h24, h49, hcs, k⟩ := h
    refine ⟨_, (PSs.nox (pss_cons (ps_set (i := 3) scFloorRingBehind.nd rfl (Or.inl rfl) (pe_fld (pv 0) (by rfl)))
  (pss_cons (ps_if (pt_cmpR op_eq (pv 1) pe_str (nomark _))
  (pss_one (ps_ret (pe_op op_cat (pe_slice sl_list (pv 3) (po_some (pv 2)) po_none) (pe_slice sl_list (pv 3) po_none (po_some (pv 2))))))
  pss_nil)
  (pss_cons (ps_if (pt_cmpR op_eq (pv 1) pe_str (nomark _))
  (pss_cons (ps_expr (pe_mX mMakeOne (hr.mono (by decide)) (pv 0) (pa_cons (pe_ix ix_list (pv 3) (pe_op op_sub (pv 2) pe_int) (fun _ _ => rfl)) (pa_cons (pe_ix ix_list (pv 3) (pe_op op_modN (pe_op op_add (pv 2) pe_int) (pe_callB call_len_seq (by rfl) T.z_len PySem.boot_len (pa_cons (pv 3) pa_nil))) (fun _ _ => rfl)) pa_nil))))
  (pss_one (ps_ret (pe_op op_cat (pe_slice sl_list (pv 3) po_none (po_some (pv 2))) (pe_slice sl_list (pv 3) (po_some (pe_op op_add (pv 2) pe_int)) po_none)))))
  pss_nil)
  (pss_cons (ps_if (pt_cmpR op_eq (pv 1) pe_str (nomark _))
  (pss_cons (ps_set (i := 4) scFloorRingBehind.nd rfl (Or.inl rfl) (pe_ifExp (pt_cmpR op_gt (pe_callB call_len_seq (by rfl) T.z_len PySem.boot_len (pa_cons (pv 3) pa_nil)) pe_int (nomark _)) (pe_lst (pa_cons (pe_ix ix_list (pv 3) (pv 2) (fun _ _ => rfl)) pa_nil)) (pe_lst pa_nil)))
  (pss_one (ps_ret (pe_op op_cat (pe_op op_cat (pe_op op_cat (pe_slice sl_list (pv 3) po_none (po_some (pe_op op_add (pv 2) pe_int))) (pe_lst (pa_cons (pe_mX0 mNewGap (hr.mono (by decide)) (pv 0)) pa_nil))) (pv 4)) (pe_slice sl_list (pv 3) (po_some (pe_op op_add (pv 2) pe_int)) po_none)))))
  pss_nil)
  (pss_cons (ps_set (i := 5) scFloorRingBehind.nd rfl (Or.inl rfl) (pe_mX0 mNewGap (hr.mono (by decide)) (pv 0)))
  (pss_cons (ps_expr (pe_bm PySem.F.plainAttrs_list PySem.F.slot_list_append PySem.F.type_list_append mt_append (pe_fld (pv 0) (by rfl)) (pa_cons (pe_tup (pa_cons (pv 1) (pa_cons (pe_tup (pa_cons (pe_ix ix_list (pv 3) (pe_op op_sub (pv 2) pe_int) (fun _ _ => rfl)) (pa_cons (pe_ix ix_list (pv 3) (pv 2) (fun _ _ => rfl)) (pa_cons (pe_ix ix_list (pv 3) (pe_op op_modN (pe_op op_add (pv 2) pe_int) (pe_callB call_len_seq (by rfl) T.z_len PySem.boot_len (pa_cons (pv 3) pa_nil))) (fun _ _ => rfl)) (pa_cons (pv 5) pa_nil))))) pa_nil))) pa_nil)))
  (pss_one (ps_ret (pe_op op_cat (pe_op op_cat (pe_slice sl_list (pv 3) po_none (po_some (pv 2))) (pe_lst (pa_cons (pv 5) pa_nil))) (pe_slice sl_list (pv 3) (po_some (pe_op op_add (pv 2) pe_int)) po_none))))))))))), ?_⟩
    refine r_start (l := [some (.ref x), some (.str w), some (.int (g : Int)), none, none, none]) rfl ?_
    have kp : Keep [l, c] H H := Keep.refl _ _
    have nx : x ∉ [l, c] := fun m => by
      rcases List.mem_cons.mp m with z | m
      · exact ne_of hx el (fun z => by cases z) z
      · exact ne_of hx ec (fun z => by cases z) (List.mem_singleton.mp m)
    have nr : r ∉ [l, c] := fun m => by
      rcases List.mem_cons.mp m with z | m
      · exact nlr z.symm
      · exact ncr (List.mem_singleton.mp m).symm
    have lenl := hles.len
    have lsz : ∀ {k : Nat}, k ≤ 1000 → k ≤ sizeLine := fun h => Nat.le_of_lt (small1000 h)
    walk_at "rds"
    refine ⟨x, _, _, _, _, rfl, hx, TC, TN_ring, lr, ?_⟩
    walk_at "rds"
    have ec0 := ec
    have el0 := el
    by_cases c1 : w = "turn"
    · rw [decide_eq_true (show (w : Str) = "turn" from c1)]
      walk_at "rds"
      refine ⟨_, rfl, ?_⟩
      refine ⟨_, _, rfl, SqL.of er, ?_⟩
      rw [cut_hiN (by omega)]
      intro a1 ha1
      have fa1 : H a1 = none := keep_free kp (fun s m => by
        rcases List.mem_cons.mp m with e | m
        · exact ⟨_, by rw [e]; exact el⟩
        · exact ⟨_, by rw [List.mem_singleton.mp m]; exact ec⟩) ha1
      generalize hga1 : upd H a1 _ = Ga1
      obtain ⟨sa1, ea1⟩ := neu2 hga1 ha1
      replace hx := sa1 _ _ hx
      replace er := sa1 _ _ er
      replace el := sa1 _ _ el
      replace ec := sa1 _ _ ec
      replace kp := kp.trans (Keep.of sa1)
      clear hga1 sa1 ha1
      walk_at "rds"
      refine ⟨_, rfl, ?_⟩
      refine ⟨_, _, rfl, SqL.of er, ?_⟩
      rw [cut_loN (by omega)]
      intro a2 ha2
      have fa2 : H a2 = none := keep_free kp (fun s m => by
        rcases List.mem_cons.mp m with e | m
        · exact ⟨_, by rw [e]; exact el⟩
        · exact ⟨_, by rw [List.mem_singleton.mp m]; exact ec⟩) ha2
      generalize hga2 : upd Ga1 a2 _ = Ga2
      obtain ⟨sa2, ea2⟩ := neu2 hga2 ha2
      replace hx := sa2 _ _ hx
      replace er := sa2 _ _ er
      replace el := sa2 _ _ el
      replace ec := sa2 _ _ ec
      replace ea1 := sa2 _ _ ea1
      replace kp := kp.trans (Keep.of sa2)
      clear hga2 sa2 ha2
      refine r_cat (p := a1) ea1 ea2 (lsz (by simp only [nv_len, List.length_take, List.length_drop, List.length_append, List.length_cons, List.length_nil]; omega)) fun a3 ha3 => ?_
      have fa3 : H a3 = none := keep_free kp (fun s m => by
        rcases List.mem_cons.mp m with e | m
        · exact ⟨_, by rw [e]; exact el⟩
        · exact ⟨_, by rw [List.mem_singleton.mp m]; exact ec⟩) ha3
      generalize hga3 : upd Ga2 a3 _ = Ga3
      obtain ⟨sa3, ea3⟩ := neu2 hga3 ha3
      replace hx := sa3 _ _ hx
      replace er := sa3 _ _ er
      replace el := sa3 _ _ el
      replace ec := sa3 _ _ ec
      replace ea1 := sa3 _ _ ea1
      replace ea2 := sa3 _ _ ea2
      replace kp := kp.trans (Keep.of sa3)
      clear hga3 sa3 ha3
      subst c1
      refine k a3 les _ fa3 ?_ el ?_ kp (.inl ⟨by decide, ec⟩)
      · rw [ea3]; exact congrArg (fun z => some (HO.lst z)) nv_app.symm
      · exact ⟨lenl, hles.down, hles.join⟩
    · rw [decide_eq_false (show ¬ (w : Str) = "turn" from c1)]
      walk_at "rds"
      by_cases c2 : w = "join"
      · rw [decide_eq_true (show (w : Str) = "join" from c2)]
        walk_at "rds"
        obtain ⟨g1, gg⟩ := hjoin c2
        refine ⟨x, dx, fs, rfl, hx, nm, ?_⟩
        walk_at "rds"
        refine r_ixL (SqL.of er) (show atI (nv f.ring) ((g : Int) - 1) = some (.int ((f.ring.getD (g - 1) 0 : Nat) : Int)) by rw [show (g : Int) - 1 = ((g - 1 : Nat) : Int) by omega]; exact nv_at (by omega)) ?_
        walk_at "rds"
        refine ⟨_, _, rfl, .inl (SqL.of er), ?_⟩
        rw [nv_len]
        walk_at "rds"
        refine r_I (by omega) ?_
        refine r_ixL (SqL.of er) (nv_next hg) ?_
        walk_at "rds"
        have m1 := hring _ (getD_mem (show g - 1 < f.ring.length by omega))
        have m2 := hring _ (getD_mem (nextN_lt hg))
        refine ⟨x, dx, l, fs, les, _, _, rfl, hx, ll, nl, el, by omega, by omega, hles.down, fun le2 H2 l2 d2 j2 k2 e2 => ?_⟩
        replace hx := k2 _ _ (fun m => nx (by rw [List.mem_singleton.mp m]; simp)) hx
        replace er := k2 _ _ (fun m => nlr (List.mem_singleton.mp m).symm) er
        replace ec := k2 _ _ (fun m => nlc (List.mem_singleton.mp m).symm) ec
        replace el := e2
        replace kp := kp.trans (keep_two k2)
        clear e2 k2
        walk_at "rds"
        refine ⟨_, rfl, ?_⟩
        refine ⟨_, _, rfl, SqL.of er, ?_⟩
        rw [cut_loN (by omega)]
        intro b1 hb1
        have fb1 : H b1 = none := keep_free kp (fun s m => by
          rcases List.mem_cons.mp m with e | m
          · exact ⟨_, by rw [e]; exact el⟩
          · exact ⟨_, by rw [List.mem_singleton.mp m]; exact ec⟩) hb1
        generalize hgb1 : upd H2 b1 _ = Gb1
        obtain ⟨sb1, eb1⟩ := neu2 hgb1 hb1
        replace hx := sb1 _ _ hx
        replace er := sb1 _ _ er
        replace el := sb1 _ _ el
        replace ec := sb1 _ _ ec
        replace kp := kp.trans (Keep.of sb1)
        clear hgb1 sb1 hb1
        walk_at "rds"
        refine ⟨_, rfl, ?_⟩
        refine ⟨_, _, rfl, SqL.of er, ?_⟩
        rw [show (g : Int) + 2 = ((g + 2 : Nat) : Int) by omega, cut_over]
        intro b2 hb2
        have fb2 : H b2 = none := keep_free kp (fun s m => by
          rcases List.mem_cons.mp m with e | m
          · exact ⟨_, by rw [e]; exact el⟩
          · exact ⟨_, by rw [List.mem_singleton.mp m]; exact ec⟩) hb2
        generalize hgb2 : upd Gb1 b2 _ = Gb2
        obtain ⟨sb2, eb2⟩ := neu2 hgb2 hb2
        replace hx := sb2 _ _ hx
        replace er := sb2 _ _ er
        replace el := sb2 _ _ el
        replace ec := sb2 _ _ ec
        replace eb1 := sb2 _ _ eb1
        replace kp := kp.trans (Keep.of sb2)
        clear hgb2 sb2 hb2
        refine r_cat (p := b1) eb1 eb2 (lsz (by simp only [nv_len, List.length_take, List.length_drop, List.length_append, List.length_cons, List.length_nil]; omega)) fun b3 hb3 => ?_
        have fb3 : H b3 = none := keep_free kp (fun s m => by
          rcases List.mem_cons.mp m with e | m
          · exact ⟨_, by rw [e]; exact el⟩
          · exact ⟨_, by rw [List.mem_singleton.mp m]; exact ec⟩) hb3
        generalize hgb3 : upd Gb2 b3 _ = Gb3
        obtain ⟨sb3, eb3⟩ := neu2 hgb3 hb3
        replace hx := sb3 _ _ hx
        replace er := sb3 _ _ er
        replace el := sb3 _ _ el
        replace ec := sb3 _ _ ec
        replace eb1 := sb3 _ _ eb1
        replace eb2 := sb3 _ _ eb2
        replace kp := kp.trans (Keep.of sb3)
        clear hgb3 sb3 hb3
        subst c2
        refine k b3 le2 _ fb3 ?_ el ?_ kp (.inl ⟨by decide, ec⟩)
        · rw [eb3]; exact congrArg (fun z => some (HO.lst z)) nv_app.symm
        · refine ⟨by rw [l2, lenl]; rfl, d2, ?_⟩
          have jj := j2 f.ps hles.join
          rcases gg with ⟨q1, q2⟩ | ⟨q1, q2⟩
          · rw [show (stepFR f "join" g).ps = f.ps from if_neg (fun z => absurd z.2 (by omega))]
            have z : nextN f.ring.length g = g - 1 := by unfold nextN; rw [if_pos (by omega)]; omega
            rw [z] at jj
            exact joined_one jj
          · rw [show (stepFR f "join" g).ps = f.ps ++ [(f.ring.getD (g - 1) 0, f.ring.getD (g + 1) 0)] from if_pos ⟨rfl, q1⟩]
            have z : nextN f.ring.length g = g + 1 := by unfold nextN; rw [if_neg (by omega)]
            rw [z] at jj
            exact jj
      · rw [decide_eq_false (show ¬ (w : Str) = "join" from c2)]
        walk_at "rds"
        by_cases c3 : w = "open"
        · rw [decide_eq_true (show (w : Str) = "open" from c3)]
          refine L2.iteT ?_
          with_reducible refine Rp.r_seq ?_
          with_reducible refine Rp.r_asg ?_
          refine r_cutE (fun v G => ∃ pa : Addr, v = .ref pa ∧ H pa = none ∧ G pa = some (.lst (nv (if 1 < f.ring.length then [f.ring.getD g 0] else []))) ∧ Same H G) ?_ fun go => ?_
          rotate_left
          · walk_at "rds"
            refine ⟨_, _, rfl, .inl (SqL.of er), ?_⟩
            rw [nv_len]
            walk_at "rds"
            by_cases big : 1 < f.ring.length
            · rw [decide_eq_true (show ((f.ring.length : Nat) : Int) > 1 by omega)]
              walk_at "rds"
              refine r_ixL (SqL.of er) (nv_at hg) ?_
              walk_at "rds"
              refine ⟨len_ok rfl, fun pa hpa => ?_⟩
              exact go _ _ ⟨pa, rfl, hpa, by rw [upd_same, if_pos big]; rfl, same_neu (Same.refl H) hpa⟩
            · rw [decide_eq_false (show ¬ ((f.ring.length : Nat) : Int) > 1 by omega)]
              walk_at "rds"
              refine ⟨len_ok rfl, fun pa hpa => ?_⟩
              exact go _ _ ⟨pa, rfl, hpa, by rw [upd_same, if_neg big]; rfl, same_neu (Same.refl H) hpa⟩
          rintro v G ⟨pa, rfl, fpa, epa, sG⟩
          replace hx := sG _ _ hx
          replace er := sG _ _ er
          replace el := sG _ _ el
          replace ec := sG _ _ ec
          replace kp := kp.trans (Keep.of sG)
          clear sG
          have lag : (if 1 < f.ring.length then [f.ring.getD g 0] else []).length ≤ 1 := by split <;> simp
          generalize hag : (if 1 < f.ring.length then [f.ring.getD g 0] else []) = ag at epa lag
          walk_at "rds"
          refine ⟨_, rfl, ?_⟩
          refine ⟨_, _, rfl, SqL.of er, ?_⟩
          rw [show (g : Int) + 1 = ((g + 1 : Nat) : Int) by omega, cut_loN (by omega)]
          intro c1 hc1
          have fc1 : H c1 = none := keep_free kp (fun s m => by
            rcases List.mem_cons.mp m with e | m
            · exact ⟨_, by rw [e]; exact el⟩
            · exact ⟨_, by rw [List.mem_singleton.mp m]; exact ec⟩) hc1
          generalize hgc1 : upd G c1 _ = Gc1
          obtain ⟨sc1, ec1⟩ := neu2 hgc1 hc1
          replace hx := sc1 _ _ hx
          replace er := sc1 _ _ er
          replace el := sc1 _ _ el
          replace ec := sc1 _ _ ec
          replace epa := sc1 _ _ epa
          replace kp := kp.trans (Keep.of sc1)
          clear hgc1 sc1 hc1
          walk_at "rds"
          have npa : pa ≠ l := fun z => by rw [z] at fpa; rw [fpa] at el0; cases el0
          have nc1 : c1 ≠ l := fun z => by rw [z] at fc1; rw [fc1] at el0; cases el0
          refine ⟨x, dx, fs, rfl, hx, ng, ?_⟩
          refine ⟨x, dx, l, fs, les, rfl, hx, ll, el, by omega, ?_⟩
          replace hx : upd Gc1 l (.lst (nv (les ++ [les.length]))) x = _ := upd_keep (fun z => nx (by rw [z]; simp)) hx
          replace er : upd Gc1 l (.lst (nv (les ++ [les.length]))) r = _ := upd_keep (nlr.symm) er
          replace ec : upd Gc1 l (.lst (nv (les ++ [les.length]))) c = _ := upd_keep (nlc.symm) ec
          replace epa : upd Gc1 l (.lst (nv (les ++ [les.length]))) pa = _ := upd_keep (npa) epa
          replace ec1 : upd Gc1 l (.lst (nv (les ++ [les.length]))) c1 = _ := upd_keep (nc1) ec1
          replace kp := keep_putL (o := .lst (nv (les ++ [les.length]))) kp
          replace el : upd Gc1 l (.lst (nv (les ++ [les.length]))) l = some (.lst (nv (les ++ [les.length]))) := upd_same
          generalize upd Gc1 l _ = Gn at *
          walk_at "rds"
          refine ⟨len_ok rfl, fun c2 hc2 => ?_⟩
          have fc2 : H c2 = none := keep_free kp (fun s m => by
            rcases List.mem_cons.mp m with e | m
            · exact ⟨_, by rw [e]; exact el⟩
            · exact ⟨_, by rw [List.mem_singleton.mp m]; exact ec⟩) hc2
          generalize hgc2 : upd Gn c2 _ = Gc2
          obtain ⟨sc2, ec2⟩ := neu2 hgc2 hc2
          replace hx := sc2 _ _ hx
          replace er := sc2 _ _ er
          replace el := sc2 _ _ el
          replace ec := sc2 _ _ ec
          replace epa := sc2 _ _ epa
          replace ec1 := sc2 _ _ ec1
          replace kp := kp.trans (Keep.of sc2)
          clear hgc2 sc2 hc2
          replace ec2 : Gc2 c2 = some (.lst (nv [les.length])) := ec2
          refine r_cat (p := c1) ec1 ec2 (lsz (by simp only [nv_len, List.length_take, List.length_drop, List.length_append, List.length_cons, List.length_nil]; omega)) fun c4 hc4 => ?_
          have fc4 : H c4 = none := keep_free kp (fun s m => by
            rcases List.mem_cons.mp m with e | m
            · exact ⟨_, by rw [e]; exact el⟩
            · exact ⟨_, by rw [List.mem_singleton.mp m]; exact ec⟩) hc4
          generalize hgc4 : upd Gc2 c4 _ = Gc4
          obtain ⟨sc4, ec4⟩ := neu2 hgc4 hc4
          replace hx := sc4 _ _ hx
          replace er := sc4 _ _ er
          replace el := sc4 _ _ el
          replace ec := sc4 _ _ ec
          replace epa := sc4 _ _ epa
          replace ec1 := sc4 _ _ ec1
          replace ec2 := sc4 _ _ ec2
          replace kp := kp.trans (Keep.of sc4)
          clear hgc4 sc4 hc4
          walk_at "rds"
          refine r_cat (p := c4) ec4 epa (lsz (by simp only [nv_len, List.length_take, List.length_drop, List.length_append, List.length_cons, List.length_nil]; omega)) fun c5 hc5 => ?_
          have fc5 : H c5 = none := keep_free kp (fun s m => by
            rcases List.mem_cons.mp m with e | m
            · exact ⟨_, by rw [e]; exact el⟩
            · exact ⟨_, by rw [List.mem_singleton.mp m]; exact ec⟩) hc5
          generalize hgc5 : upd Gc4 c5 _ = Gc5
          obtain ⟨sc5, ec5⟩ := neu2 hgc5 hc5
          replace hx := sc5 _ _ hx
          replace er := sc5 _ _ er
          replace el := sc5 _ _ el
          replace ec := sc5 _ _ ec
          replace epa := sc5 _ _ epa
          replace ec1 := sc5 _ _ ec1
          replace ec2 := sc5 _ _ ec2
          replace ec4 := sc5 _ _ ec4
          replace kp := kp.trans (Keep.of sc5)
          clear hgc5 sc5 hc5
          walk_at "rds"
          refine ⟨_, rfl, ?_⟩
          refine ⟨_, _, rfl, SqL.of er, ?_⟩
          rw [show (g : Int) + 1 = ((g + 1 : Nat) : Int) by omega, cut_over]
          intro c6 hc6
          have fc6 : H c6 = none := keep_free kp (fun s m => by
            rcases List.mem_cons.mp m with e | m
            · exact ⟨_, by rw [e]; exact el⟩
            · exact ⟨_, by rw [List.mem_singleton.mp m]; exact ec⟩) hc6
          generalize hgc6 : upd Gc5 c6 _ = Gc6
          obtain ⟨sc6, ec6⟩ := neu2 hgc6 hc6
          replace hx := sc6 _ _ hx
          replace er := sc6 _ _ er
          replace el := sc6 _ _ el
          replace ec := sc6 _ _ ec
          replace epa := sc6 _ _ epa
          replace ec1 := sc6 _ _ ec1
          replace ec2 := sc6 _ _ ec2
          replace ec4 := sc6 _ _ ec4
          replace ec5 := sc6 _ _ ec5
          replace kp := kp.trans (Keep.of sc6)
          clear hgc6 sc6 hc6
          refine r_cat (p := c5) ec5 ec6 (lsz (by simp only [nv_len, List.length_take, List.length_drop, List.length_append, List.length_cons, List.length_nil]; omega)) fun c7 hc7 => ?_
          have fc7 : H c7 = none := keep_free kp (fun s m => by
            rcases List.mem_cons.mp m with e | m
            · exact ⟨_, by rw [e]; exact el⟩
            · exact ⟨_, by rw [List.mem_singleton.mp m]; exact ec⟩) hc7
          generalize hgc7 : upd Gc6 c7 _ = Gc7
          obtain ⟨sc7, ec7⟩ := neu2 hgc7 hc7
          replace hx := sc7 _ _ hx
          replace er := sc7 _ _ er
          replace el := sc7 _ _ el
          replace ec := sc7 _ _ ec
          replace epa := sc7 _ _ epa
          replace ec1 := sc7 _ _ ec1
          replace ec2 := sc7 _ _ ec2
          replace ec4 := sc7 _ _ ec4
          replace ec5 := sc7 _ _ ec5
          replace ec6 := sc7 _ _ ec6
          replace kp := kp.trans (Keep.of sc7)
          clear hgc7 sc7 hc7
          subst c3
          refine k c7 _ _ fc7 ?_ el (les_newgap hles rfl (step_ps (by decide))) kp (.inl ⟨by decide, ec⟩)
          rw [ec7, lenl, ← hag]
          show some (HO.lst (nv (f.ring.take (g + 1)) ++ nv [f.many] ++ nv (if 1 < f.ring.length then [f.ring.getD g 0] else []) ++ nv (f.ring.drop (g + 1)))) = _
          rw [← nv_app, ← nv_app, ← nv_app]
          rfl
        · rw [decide_eq_false (show ¬ (w : Str) = "open" from c3)]
          walk_at "rds"
          refine ⟨x, dx, fs, rfl, hx, ng, ?_⟩
          refine ⟨x, dx, l, fs, les, rfl, hx, ll, el, by omega, ?_⟩
          replace hx : upd H l (.lst (nv (les ++ [les.length]))) x = _ := upd_keep (fun z => nx (by rw [z]; simp)) hx
          replace er : upd H l (.lst (nv (les ++ [les.length]))) r = _ := upd_keep (nlr.symm) er
          replace ec : upd H l (.lst (nv (les ++ [les.length]))) c = _ := upd_keep (nlc.symm) ec
          replace kp := keep_putL (o := .lst (nv (les ++ [les.length]))) kp
          replace el : upd H l (.lst (nv (les ++ [les.length]))) l = some (.lst (nv (les ++ [les.length]))) := upd_same
          generalize upd H l _ = Gn at *
          walk_at "rds"
          refine ⟨x, _, _, _, _, rfl, hx, TC, TN_crossings, lc, ?_⟩
          refine ⟨ty_lst ec, ?_⟩
          walk_at "rds"
          refine r_ixL (SqL.of er) (nv_prev hg) ?_
          walk_at "rds"
          refine r_ixL (SqL.of er) (nv_at hg) ?_
          walk_at "rds"
          refine ⟨_, _, rfl, .inl (SqL.of er), ?_⟩
          rw [nv_len]
          walk_at "rds"
          refine r_I (by omega) ?_
          refine r_ixL (SqL.of er) (nv_next hg) ?_
          walk_at "rds"
          refine ⟨len_ok rfl, fun u hu => ?_⟩
          have fu : H u = none := keep_free kp (fun s m => by
            rcases List.mem_cons.mp m with e | m
            · exact ⟨_, by rw [e]; exact el⟩
            · exact ⟨_, by rw [List.mem_singleton.mp m]; exact ec⟩) hu
          generalize hgu : upd Gn u _ = Gu
          obtain ⟨su, eu⟩ := neu2 hgu hu
          replace hx := su _ _ hx
          replace er := su _ _ er
          replace el := su _ _ el
          replace ec := su _ _ ec
          replace kp := kp.trans (Keep.of su)
          clear hgu su hu
          replace eu : Gu u = some (.tup (nv (fourOf f.ring g f.many))) := by rw [eu, lenl]; rfl
          walk_at "rds"
          refine ⟨len_ok rfl, fun t ht => ?_⟩
          have ft : H t = none := keep_free kp (fun s m => by
            rcases List.mem_cons.mp m with e | m
            · exact ⟨_, by rw [e]; exact el⟩
            · exact ⟨_, by rw [List.mem_singleton.mp m]; exact ec⟩) ht
          generalize hgt : upd Gu t _ = Gt
          obtain ⟨st, et⟩ := neu2 hgt ht
          replace hx := st _ _ hx
          replace er := st _ _ er
          replace el := st _ _ el
          replace ec := st _ _ ec
          replace eu := st _ _ eu
          replace kp := kp.trans (Keep.of st)
          clear hgt st ht
          walk_at "rds"
          refine r_append ec (Nat.lt_of_le_of_lt hcs (lt_ok rfl)) ?_
          have nuc : u ≠ c := fun z => by rw [z] at fu; rw [fu] at ec0; cases ec0
          have ntc : t ≠ c := fun z => by rw [z] at ft; rw [ft] at ec0; cases ec0
          replace hx : upd Gt c (.lst (cs ++ [.ref t])) x = _ := upd_keep (fun z => nx (by rw [z]; simp)) hx
          replace er : upd Gt c (.lst (cs ++ [.ref t])) r = _ := upd_keep (ncr.symm) er
          replace el : upd Gt c (.lst (cs ++ [.ref t])) l = _ := upd_keep (nlc) el
          replace eu : upd Gt c (.lst (cs ++ [.ref t])) u = _ := upd_keep (nuc) eu
          replace et : upd Gt c (.lst (cs ++ [.ref t])) t = _ := upd_keep (ntc) et
          replace kp := keep_putC (o := .lst (cs ++ [.ref t])) kp
          replace ec : upd Gt c (.lst (cs ++ [.ref t])) c = some (.lst (cs ++ [.ref t])) := upd_same
          generalize upd Gt c _ = Ga at *
          walk_at "rds"
          refine ⟨_, rfl, ?_⟩
          refine ⟨_, _, rfl, SqL.of er, ?_⟩
          rw [cut_loN (by omega)]
          intro d1 hd1
          have fd1 : H d1 = none := keep_free kp (fun s m => by
            rcases List.mem_cons.mp m with e | m
            · exact ⟨_, by rw [e]; exact el⟩
            · exact ⟨_, by rw [List.mem_singleton.mp m]; exact ec⟩) hd1
          generalize hgd1 : upd Ga d1 _ = Gd1
          obtain ⟨sd1, ed1⟩ := neu2 hgd1 hd1
          replace hx := sd1 _ _ hx
          replace er := sd1 _ _ er
          replace el := sd1 _ _ el
          replace ec := sd1 _ _ ec
          replace eu := sd1 _ _ eu
          replace et := sd1 _ _ et
          replace kp := kp.trans (Keep.of sd1)
          clear hgd1 sd1 hd1
          walk_at "rds"
          refine ⟨len_ok rfl, fun d2 hd2 => ?_⟩
          have fd2 : H d2 = none := keep_free kp (fun s m => by
            rcases List.mem_cons.mp m with e | m
            · exact ⟨_, by rw [e]; exact el⟩
            · exact ⟨_, by rw [List.mem_singleton.mp m]; exact ec⟩) hd2
          generalize hgd2 : upd Gd1 d2 _ = Gd2
          obtain ⟨sd2, ed2⟩ := neu2 hgd2 hd2
          replace hx := sd2 _ _ hx
          replace er := sd2 _ _ er
          replace el := sd2 _ _ el
          replace ec := sd2 _ _ ec
          replace eu := sd2 _ _ eu
          replace et := sd2 _ _ et
          replace ed1 := sd2 _ _ ed1
          replace kp := kp.trans (Keep.of sd2)
          clear hgd2 sd2 hd2
          replace ed2 : Gd2 d2 = some (.lst (nv [les.length])) := ed2
          refine r_cat (p := d1) ed1 ed2 (lsz (by simp only [nv_len, List.length_take, List.length_drop, List.length_append, List.length_cons, List.length_nil]; omega)) fun d3 hd3 => ?_
          have fd3 : H d3 = none := keep_free kp (fun s m => by
            rcases List.mem_cons.mp m with e | m
            · exact ⟨_, by rw [e]; exact el⟩
            · exact ⟨_, by rw [List.mem_singleton.mp m]; exact ec⟩) hd3
          generalize hgd3 : upd Gd2 d3 _ = Gd3
          obtain ⟨sd3, ed3⟩ := neu2 hgd3 hd3
          replace hx := sd3 _ _ hx
          replace er := sd3 _ _ er
          replace el := sd3 _ _ el
          replace ec := sd3 _ _ ec
          replace eu := sd3 _ _ eu
          replace et := sd3 _ _ et
          replace ed1 := sd3 _ _ ed1
          replace ed2 := sd3 _ _ ed2
          replace kp := kp.trans (Keep.of sd3)
          clear hgd3 sd3 hd3
          walk_at "rds"
          refine ⟨_, rfl, ?_⟩
          refine ⟨_, _, rfl, SqL.of er, ?_⟩
          rw [show (g : Int) + 1 = ((g + 1 : Nat) : Int) by omega, cut_over]
          intro d4 hd4
          have fd4 : H d4 = none := keep_free kp (fun s m => by
            rcases List.mem_cons.mp m with e | m
            · exact ⟨_, by rw [e]; exact el⟩
            · exact ⟨_, by rw [List.mem_singleton.mp m]; exact ec⟩) hd4
          generalize hgd4 : upd Gd3 d4 _ = Gd4
          obtain ⟨sd4, ed4⟩ := neu2 hgd4 hd4
          replace hx := sd4 _ _ hx
          replace er := sd4 _ _ er
          replace el := sd4 _ _ el
          replace ec := sd4 _ _ ec
          replace eu := sd4 _ _ eu
          replace et := sd4 _ _ et
          replace ed1 := sd4 _ _ ed1
          replace ed2 := sd4 _ _ ed2
          replace ed3 := sd4 _ _ ed3
          replace kp := kp.trans (Keep.of sd4)
          clear hgd4 sd4 hd4
          refine r_cat (p := d3) ed3 ed4 (lsz (by simp only [nv_len, List.length_take, List.length_drop, List.length_append, List.length_cons, List.length_nil]; omega)) fun d5 hd5 => ?_
          have fd5 : H d5 = none := keep_free kp (fun s m => by
            rcases List.mem_cons.mp m with e | m
            · exact ⟨_, by rw [e]; exact el⟩
            · exact ⟨_, by rw [List.mem_singleton.mp m]; exact ec⟩) hd5
          generalize hgd5 : upd Gd4 d5 _ = Gd5
          obtain ⟨sd5, ed5⟩ := neu2 hgd5 hd5
          replace hx := sd5 _ _ hx
          replace er := sd5 _ _ er
          replace el := sd5 _ _ el
          replace ec := sd5 _ _ ec
          replace eu := sd5 _ _ eu
          replace et := sd5 _ _ et
          replace ed1 := sd5 _ _ ed1
          replace ed2 := sd5 _ _ ed2
          replace ed3 := sd5 _ _ ed3
          replace ed4 := sd5 _ _ ed4
          replace kp := kp.trans (Keep.of sd5)
          clear hgd5 sd5 hd5
          have hcr : isCr w = true := by
            simp only [W5, List.mem_cons, List.not_mem_nil, or_false] at hw
            rcases hw with e | e | e | e | e
            · rw [e]; decide
            · rw [e]; decide
            · exact absurd e c2
            · exact absurd e c3
            · exact absurd e c1
          have er1 : ringOf w f.ring g f.many = f.ring.take g ++ [f.many] ++ f.ring.drop (g + 1) := by unfold ringOf; rw [if_neg c1, if_neg c2, if_neg c3]
          have en1 : newOf w = 1 := by unfold newOf; rw [if_neg c1, if_neg c2]
          refine k d5 _ _ fd5 ?_ el (les_newgap hles (by show f.many + newOf w = _; rw [en1]) (step_ps c2)) kp (.inr ⟨hcr, t, u, ft, fu, ec, et, eu⟩)
          rw [ed5, lenl, er1, nv_app, nv_app]
end
end K25
namespace K25
open PySem PySem.Spec PyProof.Rows L2 Rp LamX RZ

def nvI (xs : List Nat) : List Int := xs.map fun (n : Nat) => (n : Int)
theorem nv_ints {xs : List Nat} : nv xs = (nvI xs).map V.int := by
  unfold nv nvI
  rw [List.map_map]
  rfl
/-- lists of numbers at addresses -/
def LstN (H : Hp) (as : List Addr) (rs : List (List Nat)) : Prop := as.length = rs.length ∧ ∀ (i : Nat) (a : Addr) (xs : List Nat), as[i]? = some a → rs[i]? = some xs → H a = some (.lst (nv xs))
def CrN (H : Hp) (cs : List Addr) (l : List (Str × List Nat)) : Prop := cs.length = l.length ∧ ∀ (i : Nat) (t : Addr) (e : Str × List Nat), cs[i]? = some t → l[i]? = some e → ∃ u, H t = some (.tup [.str e.1, .ref u]) ∧ H u = some (.tup (nv e.2))
def CrT (H : Hp) (cs : List Addr) (l : List (Str × List Nat)) : Prop := cs.length = l.length ∧ ∀ (i : Nat) (t : Addr) (e : Str × List Nat), cs[i]? = some t → l[i]? = some e → H t = some (.tup (.str e.1 :: nv e.2))
theorem LstN.at {H : Hp} {as : List Addr} {rs : List (List Nat)} (h : LstN H as rs) {i : Nat} {a : Addr} (e : as[i]? = some a) : ∃ xs, rs[i]? = some xs ∧ H a = some (.lst (nv xs)) := by
  have hi : i < rs.length := by rw [← h.1]; exact (List.getElem?_eq_some_iff.mp e).1
  exact ⟨_, List.getElem?_eq_getElem hi, h.2 i a _ e (List.getElem?_eq_getElem hi)⟩
theorem CrN.at {H : Hp} {cs : List Addr} {l : List (Str × List Nat)} (h : CrN H cs l) {i : Nat} {t : Addr} (e : cs[i]? = some t) : ∃ z u, l[i]? = some z ∧ H t = some (.tup [.str z.1, .ref u]) ∧ H u = some (.tup (nv z.2)) := by
  have hi : i < l.length := by rw [← h.1]; exact (List.getElem?_eq_some_iff.mp e).1
  obtain ⟨u, e1, e2⟩ := h.2 i t _ e (List.getElem?_eq_getElem hi)
  exact ⟨_, u, List.getElem?_eq_getElem hi, e1, e2⟩
def FlFs (r l s c : Addr) (k : Int) : List (Str × V) := [("ring", .ref r), ("lesser", .ref l), ("rings", .ref s), ("crossings", .ref c), ("regions", .int k)]
/-- what a Floor is, all laid and closed up -/
def spCloseUp (C : Addr) : Sp := fun vs H Q _ => ∃ (x dx r l s c : Addr) (f : FR) (les : List Nat) (as cs : List Addr), vs = [.ref x] ∧ H x = some (.ins C dx (FlFs r l s c 0)) ∧ H l = some (.lst (nv les)) ∧ Les les f ∧ H s = some (.lst (as.map V.ref)) ∧ LstN H as f.rings ∧ H c = some (.lst (cs.map V.ref)) ∧ CrN H cs f.crs ∧
  f.many ≤ 4900 ∧ (∀ r ∈ f.rings, r.length ≤ 24 ∧ ∀ y ∈ r, y < f.many) ∧ (∀ z ∈ f.crs, z.2.length = 4 ∧ ∀ y ∈ z.2, y < f.many) ∧ f.rings.length ≤ 4900 ∧ f.crs.length ≤ 4900 ∧
  ∀ H' s' c' as' cs', But x H H' → H' x = some (.ins C dx (FlFs r l s' c' (totF f : Nat))) → H' s' = some (.lst (as'.map V.ref)) → TupRw H' as' ((ringsF f).map nvI) → H' c' = some (.lst (cs'.map V.ref)) → CrT H' cs' (crsF f) → Q .non H'
theorem ref_atN {as : List Addr} {i : Nat} {v : V} (h : (as.map V.ref)[i]? = some v) : ∃ a, as[i]? = some a ∧ v = .ref a := ref_at h
theorem names_at {f : FR} {n p : Nat} (h : p < n) : atI (nv ((List.range n).map (nameF f))) (p : Int) = some (.int ((nameF f p : Nat) : Int)) := atI_nat (by
  rw [List.getElem?_map, List.getElem?_map, List.getElem?_range h]
  rfl)
theorem small5000 {k : Nat} (h : k ≤ 5000) : k < sizeLine := Nat.lt_of_le_of_lt h (lt_ok rfl)

theorem refs_of : ∀ (ys : List V) (P : Nat → Addr → Prop), (∀ i y, ys[i]? = some y → ∃ t, y = .ref t ∧ P i t) → ∃ cs : List Addr, ys = cs.map V.ref ∧ ∀ i t, cs[i]? = some t → P i t
  | [], _, _ => ⟨[], rfl, fun i t e => by simp at e⟩
  | y :: ys, P, h => by
    obtain ⟨t, rfl, p0⟩ := h 0 y rfl
    obtain ⟨cs, rfl, hc⟩ := refs_of ys (fun i => P (i + 1)) fun i y e => h (i + 1) y e
    refine ⟨t :: cs, rfl, fun i u e => ?_⟩
    cases i with
    | zero => cases e; exact p0
    | succ i => exact hc i u e

section
variable {P : Program} {w : World} {K : PySem.W.Frag} {mg : Str → Option Value} {base : Heap} {ad : Ad}
abbrev sFloorCloseUp : Stmt := (clsBody 1).getD 5 (.Pass ⟨0, 0, 0, 0⟩)
theorem scFloorCloseUp : FnScope ["self", "regions", "number", "lesser", "ring", "word", "gaps", "gap"] ["self"] (defScope sFloorCloseUp) := ⟨rfl, rfl, rfl, by decide +kernel, rfl, by decide +kernel, by decide +kernel⟩
theorem ok_FloorCloseUp {f : Addr} {fd : FuncData} (F : Fun K "_close_up" "Floor._close_up" sFloorCloseUp f fd) (T : Txt K mg ad) (TC : Cls K ad.c_Floor) (TN_lesser : NoAttr K ad.c_Floor "lesser") (TN_regions : NoAttr K ad.c_Floor "regions") (TN_rings : NoAttr K ad.c_Floor "rings") (TN_crossings : NoAttr K ad.c_Floor "crossings")   : FnOk P w K mg base (L2.CX P w) 1 f fd ["self"] (spCloseUp ad.c_Floor) := by
  refine fnx F scFloorCloseUp (fun {vs H Q E} h => ?_) (fun {cdv A fr s H vs Q E} hr h => ?_)
  · obtain ⟨x, dx, r, l, s, c, f, les, as, cs, rfl, hx, el, hles, es, has, ec, hcs, hm, hrb, hcb, hrl, hcl, k⟩ := h
    rfl
  · obtain ⟨x, dx, r, l, s, c, f, les, as, cs, rfl, hx, el, hles, es, has, ec, hcs, hm, hrb, hcb, hrl, hcl, k⟩ := h
    refine ⟨_, (PSs.nox (pss_cons (ps_set (i := 1) scFloorCloseUp.nd rfl (Or.inr rfl) (pe_lst pa_nil))
  (pss_cons (ps_for PassesOwn.never rfl (pi_enum (by rfl) T.z_enumerate (pa_cons (pe_fld (pv 0) (by rfl)) pa_nil)) (pg_tup rfl (pgs_cons (pg_name (i := 2) scFloorCloseUp.nd rfl (Or.inl rfl)) (pgs_cons (pg_name (i := 3) scFloorCloseUp.nd rfl (Or.inl rfl)) pgs_nil)))
  (pss_one (ps_if (pt_cmpR op_eq (pv 3) (pv 2) (nomark _))
  (pss_cons (ps_expr (pe_bm PySem.F.plainAttrs_list PySem.F.slot_list_append PySem.F.type_list_append mt_append (pv 1) (pa_cons (pe_fld (pv 0) (by rfl)) pa_nil)))
  (pss_one (ps_fldaug (pv 0) pe_int in_add)))
  (pss_one (ps_expr (pe_bm PySem.F.plainAttrs_list PySem.F.slot_list_append PySem.F.type_list_append mt_append (pv 1) (pa_cons (pe_ix ix_list (pv 1) (pv 3) (fun _ _ => rfl)) pa_nil)))))))
  (pss_cons (ps_fld (pv 0) (pe_lc (own := [("ring", 4)]) (g := gName 4) (tt := tYes) (te := (tCB (rTupOf K) (tCons (tLc (iList K (tVar 4)) (gName 7) tYes (tOp (rIxL K) (tVar 1) (tVar 7)) [7]) tNil))) rfl scFloorCloseUp.nd (pi_list (pe_fld (pv 0) (by rfl))) (blkOk_by (own := [("ring", 4)]) (N := ["self", "regions", "number", "lesser", "ring", "word", "gaps", "gap"]) (sc := defScope sFloorCloseUp) (by decide +kernel)) (fun _ _ _ _ _ => (pg_name (i := 4) scFloorCloseUp.nd rfl (Or.inl rfl))) (fun _ _ _ _ _ => pts_nil) (fun _ _ _ _ _ => (pe_callTy call_tupK (by rfl) T.z_tuple (by decide +kernel) (pa_cons (pe_lc (own := [("gap", 7)]) (g := gName 7) (tt := tYes) (te := (tOp (rIxL K) (tVar 1) (tVar 7))) rfl scFloorCloseUp.nd (pi_list (pv 4)) (blkOk_by (own := [("gap", 7)]) (N := ["self", "regions", "number", "lesser", "ring", "word", "gaps", "gap"]) (sc := ({ kind := .function, names := [(".0", .local), ("ring", .local), ("tuple", .globalImplicit), ("regions", .cell)], isGenerator := false, isCoroutine := false, more := [] } : Scope)) (by decide +kernel)) (fun _ _ _ _ _ => (pg_name (i := 7) scFloorCloseUp.nd rfl (Or.inl rfl))) (fun _ _ _ _ _ => pts_nil) (fun _ _ _ _ _ => (pe_ix ix_list (pv 1) (pv 7) (fun _ _ => rfl)))) pa_nil)))) (by rfl))
  (pss_one (ps_fld (pv 0) (pe_lc (own := [("word", 5), ("gaps", 6)]) (g := gTup K 2 (gCons (gName 5) (gCons (gName 6) gNil))) (tt := tYes) (te := (tTup (tCons (tVar 5) (StX.tStar K (tLc (iTup K (tVar 6)) (gName 7) tYes (tOp (rIxL K) (tVar 1) (tVar 7)) [7]) tNil)))) rfl scFloorCloseUp.nd (pi_list (pe_fld (pv 0) (by rfl))) (blkOk_by (own := [("word", 5), ("gaps", 6)]) (N := ["self", "regions", "number", "lesser", "ring", "word", "gaps", "gap"]) (sc := defScope sFloorCloseUp) (by decide +kernel)) (fun _ _ _ _ _ => (pg_tup rfl (pgs_cons (pg_name (i := 5) scFloorCloseUp.nd rfl (Or.inl rfl)) (pgs_cons (pg_name (i := 6) scFloorCloseUp.nd rfl (Or.inl rfl)) pgs_nil)))) (fun _ _ _ _ _ => pts_nil) (fun _ _ _ _ _ => (pe_tup (pa_cons (pv 5) (StX.pa_star (pe_lc (own := [("gap", 7)]) (g := gName 7) (tt := tYes) (te := (tOp (rIxL K) (tVar 1) (tVar 7))) rfl scFloorCloseUp.nd (pi_tup (pv 6)) (blkOk_by (own := [("gap", 7)]) (N := ["self", "regions", "number", "lesser", "ring", "word", "gaps", "gap"]) (sc := ({ kind := .function, names := [(".0", .local), ("word", .local), ("gaps", .local), ("regions", .cell)], isGenerator := false, isCoroutine := false, more := [] } : Scope)) (by decide +kernel)) (fun _ _ _ _ _ => (pg_name (i := 7) scFloorCloseUp.nd rfl (Or.inl rfl))) (fun _ _ _ _ _ => pts_nil) (fun _ _ _ _ _ => (pe_ix ix_list (pv 1) (pv 7) (fun _ _ => rfl)))) pa_nil))))) (by rfl))))))), ?_⟩
    refine r_start (l := [some (.ref x), none, none, none, none, none, none, none]) rfl ?_
    have hx0 := hx
    walk_at "rds"
    refine ⟨len_ok rfl, fun R hR => ?_⟩
    have nRx : R ≠ x := (ne_of_none hx hR).symm
    have b1 : But x H (upd H R (.lst [])) := (But.refl x H).neu hR
    have eR : upd H R (.lst []) R = some (.lst (nv ((List.range 0).map (nameF f)))) := upd_same
    have kR : ∀ b u, b ≠ R → H b = some u → upd H R (.lst []) b = some u := fun b u n e => by rw [upd_ne n]; exact e
    replace hx := kR _ _ nRx.symm hx
    have nRl : R ≠ l := (ne_of_none el hR).symm
    have nRs : R ≠ s := (ne_of_none es hR).symm
    have nRc : R ≠ c := (ne_of_none ec hR).symm
    have fR : ∀ {b u}, H b = some u → b ≠ R := fun e => ne_of_none e hR
    replace el := kR _ _ nRl.symm el
    have es0 := es
    have ec0 := ec
    replace es := kR _ _ nRs.symm es
    replace ec := kR _ _ nRc.symm ec
    generalize upd H R (.lst []) = H1 at *
    have nlx : l ≠ x := ne_of el hx (fun z => by cases z)
    walk_at "rds"
    refine Rp.r_ienum ?_
    walk_at "rds"
    refine ⟨x, _, _, _, _, rfl, hx, TC, TN_lesser, rfl, ?_⟩
    refine ⟨l, _, rfl, SqL.of el, ?_⟩
    have lenl := hles.len
    refine for_it (walk_enum (K := K) (a := l) (xs := nv les)) (fun i σ G => ∃ y2 y3, σ = [some (.ref x), some (.ref R), y2, y3, none, none, none, none] ∧ Keep [x, R] H1 G ∧ G R = some (.lst (nv ((List.range i).map (nameF f)))) ∧ G x = some (.ins ad.c_Floor dx (FlFs r l s c (cntR (labF f) i : Nat)))) ⟨_, _, rfl, Keep.refl _ _, eR, hx⟩ (fun i σ G _ h => by
      obtain ⟨_, _, _, k1, _, _⟩ := h
      exact SqL.of (k1 l _ (fun m => by rcases List.mem_cons.mp m with e | m; exact nlx e; exact nRl.symm (List.mem_singleton.mp m)) el)) ?_ ?_
    · rintro i v σ G G2 hi ⟨y2, y3, rfl, kp, gR, gx⟩ ⟨T0, u, w, rfl, hT, rfl, hu, hw⟩
      cases hu
      rw [nv_len] at hi
      have hw2 : w = .int ((les.getD i i : Nat) : Int) := by
        have hw3 : (nv les)[i]? = some w := hw
        unfold nv at hw3
        rw [List.getElem?_map, List.getElem?_eq_getElem hi] at hw3
        rw [List.getD_eq_getElem?_getD, List.getElem?_eq_getElem hi]
        exact (Option.some.inj hw3).symm
      subst hw2
      refine r_gtup ⟨_, _, rfl, SqT.of upd_same, rfl, ?_⟩
      have s5 : Same G (upd G T0 (.tup [.int (i : Nat), .int ((les.getD i i : Nat) : Int)])) := same_neu (Same.refl G) hT
      generalize upd G T0 _ = G3 at s5
      refine ⟨_, _, rfl, ?_⟩
      walk_at "rds"
      refine ⟨_, _, rfl, ?_⟩
      walk_at "rds"
      refine ⟨rfl, ?_⟩
      replace gR := s5 _ _ gR
      replace gx := s5 _ _ gx
      replace kp := kp.trans (Keep.of s5)
      clear s5
      walk_at "rds"
      refine ⟨rfl, ?_⟩
      have lR : (nv ((List.range i).map (nameF f))).length < sizeLine := by rw [nv_len, List.length_map, List.length_range]; exact small5000 (by omega)
      have rangeS : nv ((List.range i).map (nameF f)) ++ [.int ((nameF f i : Nat) : Int)] = nv ((List.range (i + 1)).map (nameF f)) := by
        rw [List.range_succ, List.map_append, nv_app]
        rfl
      by_cases e : les.getD i i = i
      · rw [decide_eq_true (show V.int ((les.getD i i : Nat) : Int) = V.int (i : Int) by rw [e])]
        obtain ⟨h1, h2, h3⟩ := hles.self (show parL les i = i from e)
        walk_at "rds"
        refine ⟨ty_lst gR, ?_⟩
        walk_at "rds"
        refine ⟨x, _, _, _, _, rfl, gx, TC, TN_regions, rfl, ?_⟩
        walk_at "rds"
        refine r_append gR lR ?_
        rw [← h2, rangeS]
        have gx2 : upd G3 R (.lst (nv ((List.range (i + 1)).map (nameF f)))) x = some (.ins ad.c_Floor dx (FlFs r l s c (cntR (labF f) i : Nat))) := by rw [upd_ne nRx.symm]; exact gx
        have gR2 : upd G3 R (.lst (nv ((List.range (i + 1)).map (nameF f)))) R = some (.lst (nv ((List.range (i + 1)).map (nameF f)))) := upd_same
        have kp2 : Keep [x, R] H1 (upd G3 R (.lst (nv ((List.range (i + 1)).map (nameF f))))) := keep_putC kp
        generalize upd G3 R _ = G4 at gx2 gR2 kp2
        walk_at "rds"
        refine ⟨x, _, _, _, _, rfl, gx2, TC, TN_regions, rfl, ?_⟩
        walk_at "rds"
        refine ⟨_, _, rfl, rfl, ?_⟩
        refine ⟨dx, _, gx2, (by show 5 < 1000; decide), ?_⟩
        refine ⟨_, _, rfl, keep_putL kp2, by rw [upd_ne nRx]; exact gR2, ?_⟩
        rw [upd_same, h3]
        rfl
      · rw [decide_eq_false (fun z => e (by have := V.int.inj z; omega))]
        obtain ⟨h1, h2, h3⟩ := hles.less (show parL les i ≠ i from e)
        walk_at "rds"
        refine ⟨ty_lst gR, ?_⟩
        walk_at "rds"
        refine r_ixL (SqL.of gR) (names_at (show les.getD i i < i from h1)) ?_
        rw [show nameF f (les.getD i i) = nameF f i from h2]
        walk_at "rds"
        refine r_append gR lR ?_
        rw [rangeS]
        refine ⟨_, _, rfl, keep_putC kp, upd_same, ?_⟩
        rw [upd_ne nRx.symm, h3]
        exact gx
    · rintro σ G ⟨y2, y3, rfl, kp, gR, gx⟩
      rw [nv_len, lenl] at gR gx
      have out : ∀ {b u}, H b = some u → b ≠ x → G b = some u := fun {b u} e nx => kp b u (fun m => by
        rcases List.mem_cons.mp m with z | m
        · exact nx z
        · exact fR e (List.mem_singleton.mp m)) (kR _ _ (fR e) e)
      have gs := out es0 (ne_of es hx (fun z => by cases z))
      have gc := out ec0 (ne_of ec hx (fun z => by cases z))
      have gas : LstN G as f.rings := ⟨has.1, fun i a xs e1 e2 => out (has.2 i a xs e1 e2) (fun z => by have q := has.2 i a xs e1 e2; rw [z] at q; rw [q] at hx0; cases hx0)⟩
      have gcs : CrN G cs f.crs := ⟨hcs.1, fun i t z e1 e2 => by
        obtain ⟨u, q1, q2⟩ := hcs.2 i t z e1 e2
        exact ⟨u, out q1 (fun z => by rw [z] at q1; rw [q1] at hx0; cases hx0), out q2 (fun z => by rw [z] at q2; rw [q2] at hx0; cases hx0)⟩⟩
      have bG : But x H G := fun b u n e => out e n
      clear kp out kR
      walk_at "rds"
      refine ⟨x, _, _, _, _, rfl, gx, TC, TN_rings, rfl, ?_⟩
      refine ⟨s, rfl, ⟨_, SqL.of gs⟩, fun D hD => ?_⟩
      refine lc_tups (walk_list (K := K) (xs := as.map V.ref)) ((ringsF f).map nvI) (by rw [List.length_map, List.length_map]; unfold ringsF; rw [List.length_map, has.1]) (fun G' s1 => SqL.of (s1 _ _ gs)) hD (by rw [List.length_map, has.1]; exact small5000 (by omega)) ?_ ?_
      · rintro i v G1 G2 z hi hz s1 ⟨_, _⟩ ⟨rfl, hv⟩ Qn kn
        obtain ⟨a, ha, rfl⟩ := ref_at hv
        obtain ⟨xs, hxs, ea⟩ := gas.at ha
        obtain ⟨b24, bm⟩ := hrb _ (List.mem_of_getElem? hxs)
        have ez : z = nvI (xs.map (nameF f)) := by
          unfold ringsF at hz
          rw [List.getElem?_map, List.getElem?_map, hxs] at hz
          exact (Option.some.inj hz).symm
        subst ez
        replace ea := s1 _ _ ea
        have gR1 := s1 _ _ gR
        walk_at "rds"
        refine ⟨rfl, ?_⟩
        walk_at "rds"
        refine ⟨a, rfl, ⟨_, SqL.of ea⟩, fun D2 hD2 => ?_⟩
        refine lc_val (walk_list (K := K) (xs := nv xs)) (nv (xs.map (nameF f))) (by rw [nv_len, nv_len, List.length_map]) (fun G' s2 => SqL.of (s2 _ _ ea)) hD2 (by rw [nv_len]; exact small1000 (by omega)) ?_ ?_
        · rintro j y G3 G4 hj s2 ⟨_, _⟩ ⟨rfl, hy⟩ Qm km
          rw [nv_len] at hj
          have hy2 : y = .int ((xs[j] : Nat) : Int) := by
            rw [List.getElem?_map, List.getElem?_eq_getElem hj] at hy
            exact (Option.some.inj hy).symm
          subst hy2
          walk_at "rds"
          refine ⟨rfl, ?_⟩
          walk_at "rds"
          refine r_ixL (SqL.of (s2 _ _ gR1)) (names_at (bm _ (List.getElem_mem hj))) ?_
          refine km _ _ ?_ (Same.refl _)
          rw [List.getElem?_map, List.getElem?_map, List.getElem?_eq_getElem hj]
          rfl
        · intro G3 s2 e2
          walk_at "rds"
          exact r_tupL e2 fun pt G4 s4 hp ep => kn pt G4 (fun b o e => s4 _ _ (s2 _ _ e)) (by rw [← nv_ints]; exact ep)
      intro Ga as' sa eD TD
      replace gx := sa _ _ gx
      replace gR := sa _ _ gR
      replace gc := sa _ _ gc
      have gcs2 : CrN Ga cs f.crs := ⟨gcs.1, fun i t z e1 e2 => by
        obtain ⟨u, q1, q2⟩ := gcs.2 i t z e1 e2
        exact ⟨u, sa _ _ q1, sa _ _ q2⟩⟩
      have bGa : But x H Ga := bG.trans (same_but sa)
      clear gs gas gcs sa bG hD
      walk_at "rds"
      refine ⟨x, _, _, _, rfl, gx, TC, TN_rings, (by show 5 < 1000; decide), ?_⟩
      have nDx : D ≠ x := ne_of eD gx (fun z => by cases z)
      have gx3 : upd Ga x (.ins ad.c_Floor dx (putF "rings" (.ref D) (FlFs r l s c (cntR (labF f) f.many : Nat)))) x = some (.ins ad.c_Floor dx (FlFs r l D c (totF f : Nat))) := by rw [upd_same]; rfl
      have kx : ∀ {b u}, b ≠ x → Ga b = some u → upd Ga x (.ins ad.c_Floor dx (putF "rings" (.ref D) (FlFs r l s c (cntR (labF f) f.many : Nat)))) b = some u := fun n e => by rw [upd_ne n]; exact e
      have offx : ∀ {b u}, Ga b = some u → (∀ C d q, u ≠ .ins C d q) → b ≠ x := fun e n z => by rw [z, gx] at e; exact n _ _ _ (Option.some.inj e).symm
      replace gR := kx nRx gR
      replace eD := kx nDx eD
      replace gc := kx (offx gc (fun _ _ _ z => by cases z)) gc
      have TD2 : TupRw (upd Ga x (.ins ad.c_Floor dx (putF "rings" (.ref D) (FlFs r l s c (cntR (labF f) f.many : Nat))))) as' ((ringsF f).map nvI) := ⟨TD.1, fun i a xs e1 e2 => kx (offx (TD.2 i a xs e1 e2) (fun _ _ _ z => by cases z)) (TD.2 i a xs e1 e2)⟩
      have gcs3 : CrN (upd Ga x (.ins ad.c_Floor dx (putF "rings" (.ref D) (FlFs r l s c (cntR (labF f) f.many : Nat))))) cs f.crs := ⟨gcs2.1, fun i t z e1 e2 => by
        obtain ⟨u, q1, q2⟩ := gcs2.2 i t z e1 e2
        exact ⟨u, kx (offx q1 (fun _ _ _ z => by cases z)) q1, kx (offx q2 (fun _ _ _ z => by cases z)) q2⟩⟩
      have bGb : But x H (upd Ga x (.ins ad.c_Floor dx (putF "rings" (.ref D) (FlFs r l s c (cntR (labF f) f.many : Nat))))) := fun b u n e => by rw [upd_ne n]; exact bGa b u n e
      clear kx offx gcs2 bGa TD gx
      generalize upd Ga x _ = Gb at *
      walk_at "rds"
      refine ⟨x, _, _, _, _, rfl, gx3, TC, TN_crossings, rfl, ?_⟩
      refine ⟨c, rfl, ⟨_, SqL.of gc⟩, fun D3 hD3 => ?_⟩
      refine lc_new (walk_list (K := K) (xs := cs.map V.ref)) (fun i y G' => ∃ t z, y = .ref t ∧ t ≠ D3 ∧ (crsF f)[i]? = some z ∧ G' t = some (.tup (.str z.1 :: nv z.2))) (fun i y G' G'' st h => by
        obtain ⟨t, z, h1, h2, h3, h4⟩ := h
        exact ⟨t, z, h1, h2, h3, st _ _ h2 h4⟩) (fun G' s1 => SqL.of (s1 _ _ gc)) hD3 (by rw [List.length_map, hcs.1]; exact small5000 (by omega)) ?_ ?_
      · rintro i v G1 G2 hi s1 ⟨ys0, eD30⟩ ⟨rfl, hv⟩ Qn kn
        obtain ⟨t, ht, rfl⟩ := ref_at hv
        obtain ⟨z, u, hz, et, eu⟩ := gcs3.at ht
        obtain ⟨l4, bm⟩ := hcb _ (List.mem_of_getElem? hz)
        replace et := s1 _ _ et
        replace eu := s1 _ _ eu
        have gR1 := s1 _ _ gR
        refine r_gtup ⟨_, _, rfl, SqT.of et, rfl, ?_⟩
        refine ⟨_, _, rfl, ?_⟩
        walk_at "rds"
        refine ⟨_, _, rfl, ?_⟩
        walk_at "rds"
        refine ⟨rfl, ?_⟩
        refine ⟨rfl, ?_⟩
        walk_at "rds"
        refine ⟨u, rfl, ⟨_, SqT.of eu⟩, fun D4 hD4 => ?_⟩
        refine lc_val (walk_tup (K := K) (xs := nv z.2)) (nv (z.2.map (nameF f))) (by rw [nv_len, nv_len, List.length_map]) (fun G' s2 => SqT.of (s2 _ _ eu)) hD4 (by rw [nv_len]; exact small1000 (by omega)) ?_ ?_
        · rintro j y G3 G4 hj s2 ⟨_, _⟩ ⟨rfl, hy⟩ Qm km
          rw [nv_len] at hj
          have hy2 : y = .int ((z.2[j] : Nat) : Int) := by
            rw [List.getElem?_map, List.getElem?_eq_getElem hj] at hy
            exact (Option.some.inj hy).symm
          subst hy2
          walk_at "rds"
          refine ⟨rfl, ?_⟩
          walk_at "rds"
          refine r_ixL (SqL.of (s2 _ _ gR1)) (names_at (bm _ (List.getElem_mem hj))) ?_
          refine km _ _ ?_ (Same.refl _)
          rw [List.getElem?_map, List.getElem?_map, List.getElem?_eq_getElem hj]
          rfl
        · intro G3 s2 e2
          refine ⟨D4, _, rfl, .inr (SqL.of e2), ?_⟩
          walk_at "rds"
          refine ⟨by rw [List.append_nil, List.length_cons, nv_len, List.length_map, l4]; exact len_ok rfl, fun pt hpt => ?_⟩
          refine kn _ _ (fun b o e => by rw [upd_ne (ne_of_none (s2 _ _ e) hpt)]; exact s2 _ _ e) ⟨pt, (z.1, z.2.map (nameF f)), rfl, ?_, ?_, ?_⟩
          · exact (ne_of_none (s2 _ _ eD30) hpt).symm
          · unfold crsF
            rw [List.getElem?_map, hz]
            rfl
          · rw [upd_same, List.append_nil]
      intro Gc ys sc eD3 ly hy
      obtain ⟨cs', rfl, hcs'⟩ : ∃ cs' : List Addr, ys = cs'.map V.ref ∧ ∀ i t, cs'[i]? = some t → ∃ z : Str × List Nat, (crsF f)[i]? = some z ∧ Gc t = some (.tup (.str z.1 :: nv z.2)) ∧ t ≠ x := by
        refine refs_of ys (fun i t => ∃ z : Str × List Nat, (crsF f)[i]? = some z ∧ Gc t = some (.tup (.str z.1 :: nv z.2)) ∧ t ≠ x) fun i y e => ?_
        obtain ⟨t, z, h1, h2, h3, h4⟩ := hy i y e
        exact ⟨t, h1, z, h3, h4, fun q => by rw [q, sc _ _ gx3] at h4; cases h4⟩
      rw [List.length_map, List.length_map] at ly
      replace gx3 := sc _ _ gx3
      walk_at "rds"
      refine ⟨x, _, _, _, rfl, gx3, TC, TN_crossings, (by show 5 < 1000; decide), ?_⟩
      have nD3x : D3 ≠ x := ne_of eD3 gx3 (fun z => by cases z)
      refine k _ D D3 as' cs' ?_ (by rw [upd_same]; rfl) (by rw [upd_ne nDx]; exact sc _ _ eD) ?_ (by rw [upd_ne nD3x]; exact eD3) ?_
      · exact fun b u n e => by rw [upd_ne n]; exact sc _ _ (bGb b u n e)
      · refine ⟨TD2.1, fun i a xs e1 e2 => ?_⟩
        have q := sc _ _ (TD2.2 i a xs e1 e2)
        rw [upd_ne (fun z => by rw [z, gx3] at q; cases q)]
        exact q
      · refine ⟨by unfold crsF; rw [List.length_map, ly, hcs.1], fun i t z e1 e2 => ?_⟩
        obtain ⟨z2, q1, q2, q3⟩ := hcs' i t e1
        rw [q1] at e2
        cases e2
        rw [upd_ne q3]
        exact q2
end
end K25
namespace K25
open PySem PySem.Spec PyProof.Rows L2 Rp LamX RZ

def spFloor (C : Addr) : Sp := fun vs H Q _ => ∃ (q x dx a : Addr) (us : List V) (ds : Dl) (m n : Int), vs = [.ref x, .int m, .ref a] ∧ H x = some (.ins C dx []) ∧ H a = some (.tup us) ∧ DsV q H us ds ∧ Typ 24 ds ∧ ds.length ≤ 4000 ∧ 0 ≤ m ∧ m ≤ 24 ∧ m % 2 = 0 ∧ runD ds m = some n ∧
  ∀ H' r l s c as cs, But x H H' → H' x = some (.ins C dx (FlFs r l s c (totF (floorFR m ds) : Nat))) → H' s = some (.lst (as.map V.ref)) → TupRw H' as ((ringsF (floorFR m ds)).map nvI) → H' c = some (.lst (cs.map V.ref)) → CrT H' cs (crsF (floorFR m ds)) → Q .non H'
theorem rgV_nv {m : Int} : rgV 0 (if 1 > m then 1 else m) = nv (List.range (max m.toNat 1)) := by
  unfold rgV nv
  rw [show ((if 1 > m then 1 else m) - 0 : Int).toNat = max m.toNat 1 by split <;> omega]
  exact List.map_congr_left fun i _ => by rw [Int.zero_add]
/-- a floor as it is being laid -/
structure Lay (x dx C : Addr) (H0 G : Hp) (r l s c : Addr) (f : FR) (les : List Nat) (as cs : List Addr) : Prop where
  b : But x H0 G
  fl : H0 l = none
  fs : H0 s = none
  fc : H0 c = none
  hx : G x = some (.ins C dx (FlFs r l s c 0))
  er : G r = some (.lst (nv f.ring))
  el : G l = some (.lst (nv les))
  es : G s = some (.lst (as.map V.ref))
  ec : G c = some (.lst (cs.map V.ref))
  ls : LstN G as f.rings
  cr : CrN G cs f.crs
  le : Les les f
  nlc : l ≠ c
  nls : l ≠ s
  nsc : s ≠ c
  nlr : l ≠ r
  ncr : c ≠ r
  nsr : s ≠ r
  nas : ∀ a ∈ as, a ≠ l ∧ a ≠ c ∧ a ≠ s
theorem but_none {x b : Addr} {H G : Hp} (k : But x H G) (n : b ≠ x) (h : G b = none) : H b = none := by
  cases e : H b with
  | none => rfl
  | some o => rw [k b o n e] at h; cases h
theorem snoc_at {α : Type} {xs : List α} {y z : α} {i : Nat} (h : (xs ++ [y])[i]? = some z) : (i < xs.length ∧ xs[i]? = some z) ∨ (i = xs.length ∧ z = y) := by
  by_cases hi : i < xs.length
  · rw [List.getElem?_append_left hi] at h
    exact .inl ⟨hi, h⟩
  · rw [List.getElem?_append_right (by omega)] at h
    have := (List.getElem?_eq_some_iff.mp h).1
    simp at this
    have e : i = xs.length := by omega
    rw [e, Nat.sub_self] at h
    exact .inr ⟨e, (Option.some.inj h).symm⟩
theorem LstN.snoc {H : Hp} {as : List Addr} {rs : List (List Nat)} {a : Addr} {r : List Nat} (h : LstN H as rs) (e : H a = some (.lst (nv r))) : LstN H (as ++ [a]) (rs ++ [r]) := by
  refine ⟨by rw [List.length_append, List.length_append, h.1]; rfl, fun i b xs e1 e2 => ?_⟩
  rcases snoc_at e1 with ⟨q1, q2⟩ | ⟨q1, rfl⟩
  · rw [List.getElem?_append_left (by rw [← h.1]; exact q1)] at e2
    exact h.2 i b xs q2 e2
  · rw [q1, h.1, List.getElem?_append_right (Nat.le_refl _), Nat.sub_self] at e2
    cases e2
    exact e
theorem CrN.snoc {H : Hp} {cs : List Addr} {l : List (Str × List Nat)} {t u : Addr} {z : Str × List Nat} (h : CrN H cs l) (e : H t = some (.tup [.str z.1, .ref u])) (e2 : H u = some (.tup (nv z.2))) : CrN H (cs ++ [t]) (l ++ [z]) := by
  refine ⟨by rw [List.length_append, List.length_append, h.1]; rfl, fun i b y e3 e4 => ?_⟩
  rcases snoc_at e3 with ⟨q1, q2⟩ | ⟨q1, rfl⟩
  · rw [List.getElem?_append_left (by rw [← h.1]; exact q1)] at e4
    exact h.2 i b y q2 e4
  · rw [q1, h.1, List.getElem?_append_right (Nat.le_refl _), Nat.sub_self] at e4
    cases e4
    exact ⟨u, e, e2⟩
theorem LstN.keep {H G : Hp} {as : List Addr} {rs : List (List Nat)} (h : LstN H as rs) (k : ∀ a ∈ as, ∀ xs, H a = some (.lst xs) → G a = some (.lst xs)) : LstN G as rs := ⟨h.1, fun i a xs e1 e2 => k a (List.mem_of_getElem? e1) _ (h.2 i a xs e1 e2)⟩
theorem CrN.keep {H G : Hp} {cs : List Addr} {l : List (Str × List Nat)} (h : CrN H cs l) (k : ∀ b xs, H b = some (.tup xs) → G b = some (.tup xs)) : CrN G cs l := ⟨h.1, fun i t z e1 e2 => by
  obtain ⟨u, q1, q2⟩ := h.2 i t z e1 e2
  exact ⟨u, k _ _ q1, k _ _ q2⟩⟩
theorem runD_take : ∀ {ds : Dl} {m n : Int} (i : Nat), runD ds m = some n → ∃ k, runD (ds.take i) m = some k := by
  intro ds m n i h
  rw [← List.take_append_drop i ds, runD_app] at h
  cases e : runD (ds.take i) m with
  | none => rw [e] at h; cases h
  | some k => exact ⟨k, rfl⟩
theorem runD_snoc {ds : Dl} {m k n : Int} {w : Str} {g : Int} (h : runD ds m = some k) (h2 : runD (ds ++ [(w, g)]) m = some n) : fitsG w k g = true ∧ n = behind w k ∧ behind w k ≤ 24 := by
  rw [runD_app, h] at h2
  have h3 : runD [(w, g)] k = some n := h2
  unfold runD at h3
  by_cases f : fitsG w k g = true
  · rw [f] at h3
    by_cases b : behind w k > 24
    · simp [b] at h3
    · simp [b, runD] at h3
      exact ⟨f, h3.symm, by omega⟩
  · simp [f] at h3
theorem join_gap {f : FR} {m now : Int} {k : Nat} {w : Str} {g : Int} (I : FInv m f now k) (hw : w ∈ W5) (fit : fitsG w now g = true) : g.toNat < f.ring.length ∧ (w = "join" → 1 ≤ g.toNat ∧ ((f.ring.length = 2 ∧ g.toNat = 1) ∨ (2 < f.ring.length ∧ g.toNat + 1 < f.ring.length))) ∧ 0 ≤ g := by
  obtain ⟨g0, g1, gj, gt⟩ := fits_gap I.n0 I.n2 hw fit
  refine ⟨by rw [I.len]; exact g1, fun e => ?_, g0⟩
  obtain ⟨j1, j2, j3, j4⟩ := gj e
  have hl := I.len
  have h2 := I.n2
  refine ⟨by omega, ?_⟩
  by_cases z : now ≤ 2
  · have := j3 z
    exact .inl ⟨by omega, by omega⟩
  · have := j4 (by omega)
    exact .inr ⟨by omega, by omega⟩

section
variable {P : Program} {w : World} {K : PySem.W.Frag} {mg : Str → Option Value} {base : Heap} {ad : Ad}
abbrev sFloorInit : Stmt := (clsBody 1).getD 0 (.Pass ⟨0, 0, 0, 0⟩)
theorem scFloorInit : FnScope ["self", "ends", "deeds", "word", "gap"] ["self", "ends", "deeds"] (defScope sFloorInit) := ⟨rfl, rfl, rfl, by decide +kernel, rfl, by decide +kernel, by decide +kernel⟩
theorem ok_FloorInit {f : Addr} {fd : FuncData} (F : Fun K "__init__" "Floor.__init__" sFloorInit f fd) (T : Txt K mg ad) (TC : Cls K ad.c_Floor) (TN_ring : NoAttr K ad.c_Floor "ring") (TN_lesser : NoAttr K ad.c_Floor "lesser") (TN_rings : NoAttr K ad.c_Floor "rings") (TN_crossings : NoAttr K ad.c_Floor "crossings") (TN_regions : NoAttr K ad.c_Floor "regions") {fm50 : Addr} {fdm50 : FuncData} (mRingBehind : MetX P w K mg base "_ring_behind" 3 ad.c_Floor fm50 fdm50 ["self", "word", "gap"] (spRingBehind ad.c_Floor)) {fm51 : Addr} {fdm51 : FuncData} (mCloseUp : MetX P w K mg base "_close_up" 1 ad.c_Floor fm51 fdm51 ["self"] (spCloseUp ad.c_Floor))  : FnOk P w K mg base (L2.CX P w) 4 f fd ["self", "ends", "deeds"] (spFloor ad.c_Floor) := by
  refine fnx F scFloorInit (fun {vs H Q E} h => ?_) (fun {cdv A fr s H vs Q E} hr h => ?_)
  · obtain ⟨q, x, dx, a, us, ds, m, n, rfl, hx, ha, hds, ht, hl4, h0, h24, h2, hr0, k⟩ := h
    rfl
  · obtain ⟨q, x, dx, a, us, ds, m, n, rfl, hx, ha, hds, ht, hl4, h0, h24, h2, hr0, k⟩ := h
    refine ⟨_, (PSs.nox (pss_cons (ps_fld (pv 0) (pe_listRg rfl (by rfl) T.z_list (prg_1 (by rfl) T.z_range (pe_callB (call_max2 rfl) (by rfl) T.z_max (by decide +kernel) (pa_cons (pv 1) (pa_cons pe_int pa_nil))))) (by rfl))
  (pss_cons (ps_fld (pv 0) (pe_callTy call_listK (by rfl) T.z_list (by decide +kernel) (pa_cons (pe_fld (pv 0) (by rfl)) pa_nil)) (by rfl))
  (pss_cons (ps_fld (pv 0) (pe_lst (pa_cons (pe_fld (pv 0) (by rfl)) pa_nil)) (by rfl))
  (pss_cons (ps_fld (pv 0) (pe_lst pa_nil) (by rfl))
  (pss_cons (ps_fld (pv 0) pe_int (by rfl))
  (pss_cons (ps_for PassesOwn.never rfl (pi_tup (pv 2)) (pg_tup rfl (pgs_cons (pg_name (i := 3) scFloorInit.nd rfl (Or.inl rfl)) (pgs_cons (pg_name (i := 4) scFloorInit.nd rfl (Or.inl rfl)) pgs_nil)))
  (pss_cons (ps_fld (pv 0) (pe_mX mRingBehind (hr.mono (by decide)) (pv 0) (pa_cons (pv 3) (pa_cons (pv 4) pa_nil))) (by rfl))
  (pss_one (ps_expr (pe_bm PySem.F.plainAttrs_list PySem.F.slot_list_append PySem.F.type_list_append mt_append (pe_fld (pv 0) (by rfl)) (pa_cons (pe_fld (pv 0) (by rfl)) pa_nil))))))
  (pss_one (ps_expr (pe_mX0 mCloseUp (hr.mono (by decide)) (pv 0))))))))))), ?_⟩
    refine r_start (l := [some (.ref x), some (.int m), some (.ref a), none, none]) rfl ?_
    have hx0 := hx
    walk_at "rds"
    refine ⟨_, _, rfl, ?_⟩
    refine ⟨_, rfl, ?_⟩
    refine ⟨⟨by decide, by decide, by split <;> omega, by split <;> omega, by split <;> omega⟩, fun r hr => ?_⟩
    rw [rgV_nv]
    have nxr : r ≠ x := (ne_of_none hx hr).symm
    have er : upd H r (.lst (nv (List.range (max m.toNat 1)))) r = some (.lst (nv (List.range (max m.toNat 1)))) := upd_same
    have k1 : But x H (upd H r (.lst (nv (List.range (max m.toNat 1))))) := (But.refl x H).neu hr
    replace hx := upd_keep (u := .lst (nv (List.range (max m.toNat 1)))) nxr.symm hx
    generalize upd H r _ = G1 at *
    walk_at "rds"
    refine ⟨x, _, _, _, rfl, hx, TC, TN_ring, (by show 0 < 1000; decide), ?_⟩
    replace er := upd_keep (u := .ins ad.c_Floor dx (putF "ring" (.ref r) [])) nxr er
    have hx2 : upd G1 x (.ins ad.c_Floor dx (putF "ring" (.ref r) [])) x = some (.ins ad.c_Floor dx [("ring", .ref r)]) := upd_same
    have k2 : But x H (upd G1 x (.ins ad.c_Floor dx (putF "ring" (.ref r) []))) := k1.upd2 _
    generalize upd G1 x _ = G2 at *
    clear hx k1 G1
    walk_at "rds"
    refine ⟨x, _, _, _, _, rfl, hx2, TC, TN_ring, rfl, ?_⟩
    walk_at "rds"
    refine ⟨r, _, rfl, .inl (SqL.of er), fun l hl => ?_⟩
    have nlx : l ≠ x := (ne_of_none hx2 hl).symm
    have nlr : l ≠ r := (ne_of_none er hl).symm
    have el : upd G2 l (.lst (nv (List.range (max m.toNat 1)))) l = some (.lst (nv (List.range (max m.toNat 1)))) := upd_same
    have fl := but_none k2 nlx hl
    have k3 : But x H (upd G2 l (.lst (nv (List.range (max m.toNat 1))))) := k2.neu hl
    replace hx2 := upd_keep (u := .lst (nv (List.range (max m.toNat 1)))) nlx.symm hx2
    replace er := upd_keep (u := .lst (nv (List.range (max m.toNat 1)))) nlr.symm er
    generalize upd G2 l _ = G3 at *
    clear hl k2 G2
    walk_at "rds"
    refine ⟨x, _, _, _, rfl, hx2, TC, TN_lesser, (by show 1 < 1000; decide), ?_⟩
    replace er := upd_keep (u := .ins ad.c_Floor dx (putF "lesser" (.ref l) [("ring", .ref r)])) nxr er
    replace el := upd_keep (u := .ins ad.c_Floor dx (putF "lesser" (.ref l) [("ring", .ref r)])) nlx el
    have hx3 : upd G3 x (.ins ad.c_Floor dx (putF "lesser" (.ref l) [("ring", .ref r)])) x = some (.ins ad.c_Floor dx [("ring", .ref r), ("lesser", .ref l)]) := upd_same
    have k4 : But x H (upd G3 x (.ins ad.c_Floor dx (putF "lesser" (.ref l) [("ring", .ref r)]))) := k3.upd2 _
    generalize upd G3 x _ = G4 at *
    clear hx2 k3 G3
    walk_at "rds"
    refine ⟨x, _, _, _, _, rfl, hx3, TC, TN_ring, rfl, ?_⟩
    walk_at "rds"
    refine ⟨len_ok rfl, fun s hs => ?_⟩
    have nsx : s ≠ x := (ne_of_none hx3 hs).symm
    have nsr : s ≠ r := (ne_of_none er hs).symm
    have nls : l ≠ s := ne_of_none el hs
    have es : upd G4 s (.lst [.ref r]) s = some (.lst ([r].map V.ref)) := upd_same
    have fs := but_none k4 nsx hs
    have k5 : But x H (upd G4 s (.lst [.ref r])) := k4.neu hs
    replace hx3 := upd_keep (u := .lst [.ref r]) nsx.symm hx3
    replace er := upd_keep (u := .lst [.ref r]) nsr.symm er
    replace el := upd_keep (u := .lst [.ref r]) nls el
    generalize upd G4 s _ = G5 at *
    clear hs k4 G4
    walk_at "rds"
    refine ⟨x, _, _, _, rfl, hx3, TC, TN_rings, (by show 2 < 1000; decide), ?_⟩
    replace er := upd_keep (u := .ins ad.c_Floor dx (putF "rings" (.ref s) [("ring", .ref r), ("lesser", .ref l)])) nxr er
    replace el := upd_keep (u := .ins ad.c_Floor dx (putF "rings" (.ref s) [("ring", .ref r), ("lesser", .ref l)])) nlx el
    replace es := upd_keep (u := .ins ad.c_Floor dx (putF "rings" (.ref s) [("ring", .ref r), ("lesser", .ref l)])) nsx es
    have hx4 : upd G5 x (.ins ad.c_Floor dx (putF "rings" (.ref s) [("ring", .ref r), ("lesser", .ref l)])) x = some (.ins ad.c_Floor dx [("ring", .ref r), ("lesser", .ref l), ("rings", .ref s)]) := upd_same
    have k6 : But x H (upd G5 x (.ins ad.c_Floor dx (putF "rings" (.ref s) [("ring", .ref r), ("lesser", .ref l)]))) := k5.upd2 _
    generalize upd G5 x _ = G6 at *
    clear hx3 k5 G5
    walk_at "rds"
    refine ⟨len_ok rfl, fun c hc => ?_⟩
    have ncx : c ≠ x := (ne_of_none hx4 hc).symm
    have ncr : c ≠ r := (ne_of_none er hc).symm
    have nlc : l ≠ c := ne_of_none el hc
    have nsc : s ≠ c := ne_of_none es hc
    have ec : upd G6 c (.lst []) c = some (.lst (([] : List Addr).map V.ref)) := upd_same
    have fc := but_none k6 ncx hc
    have k7 : But x H (upd G6 c (.lst [])) := k6.neu hc
    replace hx4 := upd_keep (u := .lst []) ncx.symm hx4
    replace er := upd_keep (u := .lst []) ncr.symm er
    replace el := upd_keep (u := .lst []) nlc el
    replace es := upd_keep (u := .lst []) nsc es
    generalize upd G6 c _ = G7 at *
    clear hc k6 G6
    walk_at "rds"
    refine ⟨x, _, _, _, rfl, hx4, TC, TN_crossings, (by show 3 < 1000; decide), ?_⟩
    replace er := upd_keep (u := .ins ad.c_Floor dx (putF "crossings" (.ref c) [("ring", .ref r), ("lesser", .ref l), ("rings", .ref s)])) nxr er
    replace el := upd_keep (u := .ins ad.c_Floor dx (putF "crossings" (.ref c) [("ring", .ref r), ("lesser", .ref l), ("rings", .ref s)])) nlx el
    replace es := upd_keep (u := .ins ad.c_Floor dx (putF "crossings" (.ref c) [("ring", .ref r), ("lesser", .ref l), ("rings", .ref s)])) nsx es
    replace ec := upd_keep (u := .ins ad.c_Floor dx (putF "crossings" (.ref c) [("ring", .ref r), ("lesser", .ref l), ("rings", .ref s)])) ncx ec
    have hx5 : upd G7 x (.ins ad.c_Floor dx (putF "crossings" (.ref c) [("ring", .ref r), ("lesser", .ref l), ("rings", .ref s)])) x = some (.ins ad.c_Floor dx [("ring", .ref r), ("lesser", .ref l), ("rings", .ref s), ("crossings", .ref c)]) := upd_same
    have k8 : But x H (upd G7 x (.ins ad.c_Floor dx (putF "crossings" (.ref c) [("ring", .ref r), ("lesser", .ref l), ("rings", .ref s)]))) := k7.upd2 _
    generalize upd G7 x _ = G8 at *
    clear hx4 k7 G7
    walk_at "rds"
    refine ⟨x, _, _, _, rfl, hx5, TC, TN_regions, (by show 4 < 1000; decide), ?_⟩
    replace er := upd_keep (u := .ins ad.c_Floor dx (putF "regions" (.int 0) [("ring", .ref r), ("lesser", .ref l), ("rings", .ref s), ("crossings", .ref c)])) nxr er
    replace el := upd_keep (u := .ins ad.c_Floor dx (putF "regions" (.int 0) [("ring", .ref r), ("lesser", .ref l), ("rings", .ref s), ("crossings", .ref c)])) nlx el
    replace es := upd_keep (u := .ins ad.c_Floor dx (putF "regions" (.int 0) [("ring", .ref r), ("lesser", .ref l), ("rings", .ref s), ("crossings", .ref c)])) nsx es
    replace ec := upd_keep (u := .ins ad.c_Floor dx (putF "regions" (.int 0) [("ring", .ref r), ("lesser", .ref l), ("rings", .ref s), ("crossings", .ref c)])) ncx ec
    have hx6 : upd G8 x (.ins ad.c_Floor dx (putF "regions" (.int 0) [("ring", .ref r), ("lesser", .ref l), ("rings", .ref s), ("crossings", .ref c)])) x = some (.ins ad.c_Floor dx (FlFs r l s c 0)) := upd_same
    have k9 : But x H (upd G8 x (.ins ad.c_Floor dx (putF "regions" (.int 0) [("ring", .ref r), ("lesser", .ref l), ("rings", .ref s), ("crossings", .ref c)]))) := k8.upd2 _
    generalize upd G8 x _ = G9 at *
    clear hx5 k8 G8
    have hL : Lay x dx ad.c_Floor H G9 r l s c (beginFR m.toNat) (List.range (max m.toNat 1)) [r] [] := ⟨k9, fl, fs, fc, hx6, er, el, es, ec, ⟨rfl, fun i a xs e1 e2 => by
      match i, e1, e2 with
      | 0, e1, e2 => cases e1; cases e2; exact er
      | _ + 1, e1, _ => simp at e1⟩, ⟨rfl, fun i t z e _ => by simp at e⟩, Les.begin _, nlc, nls, nsc, nlr, ncr, nsr, fun a ma => by rw [List.mem_singleton.mp ma]; exact ⟨nlr.symm, ncr.symm, nsr.symm⟩⟩
    clear k9 hx6 er el es ec nlc nls nsc nlr ncr nsr nxr nlx nsx ncx
    have nax : a ≠ x := ne_of ha hx0 (fun z => by cases z)
    walk_at "rds"
    refine ⟨a, rfl, ⟨_, SqT.of (hL.b _ _ nax ha)⟩, ?_⟩
    have lds := hds.len
    refine for_it (walk_tup (K := K) (a := a) (xs := us)) (fun i σ G => ∃ (y3 y4 : Option V) (r l s c : Addr) (les : List Nat) (as cs : List Addr) (now : Int), σ = [some (.ref x), some (.int m), some (.ref a), y3, y4] ∧ runD (ds.take i) m = some now ∧ FInv m (stepsFR (beginFR m.toNat) (ds.take i)) now i ∧ Lay x dx ad.c_Floor H G r l s c (stepsFR (beginFR m.toNat) (ds.take i)) les as cs) ⟨_, _, r, l, s, c, _, _, _, m, rfl, rfl, FInv.begin h0 h24 h2, hL⟩ (fun i σ G _ h => by
      obtain ⟨_, _, _, _, _, _, _, _, _, _, _, _, _, L⟩ := h
      exact SqT.of (L.b _ _ nax ha)) ?_ ?_
    · clear hL
      rintro i v σ G G' hi ⟨y3, y4, r, l, s, c, les, as, cs, now, rfl, hrun, I, L⟩ ⟨rfl, hv⟩
      obtain ⟨t, w, g, rfl, _, et, ed⟩ := hds.at hv
      obtain ⟨n2, hn2⟩ := runD_take (i + 1) hr0
      have etk : ds.take (i + 1) = ds.take i ++ [(w, g)] := by rw [List.take_succ, ed]; rfl
      rw [etk] at hn2
      obtain ⟨fit, rfl, b24⟩ := runD_snoc hrun hn2
      obtain ⟨hw, _, _⟩ := ht.at ed
      have I2 := I.step hw fit b24
      obtain ⟨hg, hj, g0⟩ := join_gap I hw fit
      obtain ⟨gn, rfl⟩ : ∃ gn : Nat, g = (gn : Int) := ⟨g.toNat, by omega⟩
      rw [Int.toNat_natCast] at hg hj I2
      have ntx : t ≠ x := ne_of et hx0 (fun z => by cases z)
      have estep : stepsFR (beginFR m.toNat) (ds.take (i + 1)) = stepFR (stepsFR (beginFR m.toNat) (ds.take i)) w gn := by rw [stepsFR_take ed, Int.toNat_natCast]
      rw [etk] at estep
      generalize hf : stepsFR (beginFR m.toNat) (ds.take i) = f at *
      have lk := I.rs
      have hmny := I.mny
      have hrk := I.rk
      have hck := I.ck
      have h24r : f.ring.length ≤ 24 := by
        have := I.len
        have := I.n24
        omega
      have la : as.length ≤ 4001 := by rw [L.ls.1]; omega
      have lcs : cs.length ≤ 4000 := by rw [L.cr.1]; omega
      refine r_gtup ⟨_, _, rfl, SqT.of (L.b _ _ ntx et), rfl, ?_⟩
      refine ⟨_, _, rfl, ?_⟩
      walk_at "rds"
      refine ⟨_, _, rfl, ?_⟩
      walk_at "rds"
      refine ⟨rfl, ?_⟩
      walk_at "rds"
      refine ⟨x, dx, _, rfl, L.hx, rfl, ?_⟩
      walk_at "rds"
      refine ⟨x, dx, r, l, c, _, f, les, cs.map V.ref, w, gn, rfl, L.hx, rfl, rfl, rfl, rfl, rfl, rfl, L.er, L.el, L.ec, L.nlc, L.nlr, L.ncr, L.le, hw, hg, hj, I.rg, h24r, by omega, by rw [List.length_map]; omega, fun r' les' G1 fr er' el' le' kp cr' => ?_⟩
      have nxl : x ∉ [l, c] := fun mm => by
        rcases List.mem_cons.mp mm with z | mm
        · exact ne_of L.hx L.el (fun z => by cases z) z
        · exact ne_of L.hx L.ec (fun z => by cases z) (List.mem_singleton.mp mm)
      have hx1 := kp _ _ nxl L.hx
      have nsl : s ∉ [l, c] := fun mm => by
        rcases List.mem_cons.mp mm with z | mm
        · exact L.nls z.symm
        · exact L.nsc (List.mem_singleton.mp mm)
      have es1 := kp _ _ nsl L.es
      have nr'x : r' ≠ x := (ne_of_none L.hx fr).symm
      have nr'l : r' ≠ l := (ne_of_none L.el fr).symm
      have nr's : r' ≠ s := (ne_of_none L.es fr).symm
      have nr'c : r' ≠ c := (ne_of_none L.ec fr).symm
      have nsx : s ≠ x := ne_of es1 hx1 (fun z => by cases z)
      have b1 : But x H G1 := fun b u n e => kp b u (fun mm => by
        rcases List.mem_cons.mp mm with z | mm
        · rw [z, L.fl] at e; cases e
        · rw [List.mem_singleton.mp mm, L.fc] at e; cases e) (L.b b u n e)
      have lst1 : LstN G1 as f.rings := L.ls.keep fun a ma xs e => kp _ _ (fun mm => by
        rcases List.mem_cons.mp mm with z | mm
        · exact (L.nas a ma).1 z
        · exact (L.nas a ma).2.1 (List.mem_singleton.mp mm)) e
      have crn0 : CrN G1 cs f.crs := L.cr.keep fun b xs e => kp _ _ (fun mm => by
        rcases List.mem_cons.mp mm with z | mm
        · exact ne_of e L.el (fun z => by cases z) z
        · exact ne_of e L.ec (fun z => by cases z) (List.mem_singleton.mp mm)) e
      obtain ⟨cs2, ec1, crn1⟩ : ∃ cs2, G1 c = some (.lst (cs2.map V.ref)) ∧ CrN G1 cs2 (stepFR f w gn).crs := by
        rcases cr' with ⟨h1, h3⟩ | ⟨h1, t', u', _, _, h4, h5, h6⟩
        · exact ⟨cs, h3, by rw [show (stepFR f w gn).crs = f.crs from if_neg (by rw [h1]; decide)]; exact crn0⟩
        · refine ⟨cs ++ [t'], by rw [h4, List.map_append]; rfl, ?_⟩
          rw [show (stepFR f w gn).crs = f.crs ++ [(w, fourOf f.ring gn f.many)] from if_pos h1]
          exact crn0.snoc h5 h6
      have nas1 : ∀ a ∈ as, a ≠ x := fun a ma z => by
        obtain ⟨i2, hi2⟩ := List.mem_iff_getElem?.mp ma
        obtain ⟨xs, _, e3⟩ := lst1.at hi2
        rw [z, hx1] at e3
        cases e3
      clear cr' crn0
      walk_at "rds"
      refine ⟨x, _, _, _, rfl, hx1, TC, TN_ring, (by show 5 < 1000; decide), ?_⟩
      have hx2 : upd G1 x (.ins ad.c_Floor dx (putF "ring" (.ref r') (FlFs r l s c 0))) x = some (.ins ad.c_Floor dx (FlFs r' l s c 0)) := upd_same
      have nlx : l ≠ x := ne_of el' hx1 (fun z => by cases z)
      have ncx : c ≠ x := ne_of ec1 hx1 (fun z => by cases z)
      have er2 := upd_keep (u := .ins ad.c_Floor dx (putF "ring" (.ref r') (FlFs r l s c 0))) nr'x er'
      have el2 := upd_keep (u := .ins ad.c_Floor dx (putF "ring" (.ref r') (FlFs r l s c 0))) nlx el'
      have es2 := upd_keep (u := .ins ad.c_Floor dx (putF "ring" (.ref r') (FlFs r l s c 0))) nsx es1
      have ec2 := upd_keep (u := .ins ad.c_Floor dx (putF "ring" (.ref r') (FlFs r l s c 0))) ncx ec1
      have b2 : But x H (upd G1 x (.ins ad.c_Floor dx (putF "ring" (.ref r') (FlFs r l s c 0)))) := b1.upd2 _
      have lst2 : LstN (upd G1 x (.ins ad.c_Floor dx (putF "ring" (.ref r') (FlFs r l s c 0)))) as f.rings := lst1.keep fun a ma xs e => upd_keep (nas1 a ma) e
      have crn2 : CrN (upd G1 x (.ins ad.c_Floor dx (putF "ring" (.ref r') (FlFs r l s c 0)))) cs2 (stepFR f w gn).crs := crn1.keep fun b xs e => upd_keep (ne_of e hx1 (fun z => by cases z)) e
      generalize upd G1 x _ = G2 at *
      walk_at "rds"
      refine ⟨x, _, _, _, _, rfl, hx2, TC, TN_rings, rfl, ?_⟩
      refine ⟨ty_lst es2, ?_⟩
      walk_at "rds"
      refine ⟨x, _, _, _, _, rfl, hx2, TC, TN_ring, rfl, ?_⟩
      walk_at "rds"
      refine r_append es2 (by rw [List.length_map]; exact small5000 (by omega)) ?_
      have hcs2 : cs2.length = (stepFR f w gn).crs.length := crn2.1
      rw [etk, estep]
      refine ⟨_, _, r', l, s, c, les', as ++ [r'], cs2, behind w now, rfl, hn2, I2, ⟨fun b u n e => ?_, L.fl, L.fs, L.fc, upd_keep nsx.symm hx2, upd_keep nr's er2, upd_keep L.nls el2, by rw [upd_same, List.map_append]; rfl, upd_keep L.nsc.symm ec2, ?_, ?_, le', L.nlc, L.nls, L.nsc, nr'l.symm, nr'c.symm, nr's.symm, fun a ma => ?_⟩⟩
      · rw [upd_ne (fun z => by rw [z, L.fs] at e; cases e)]
        exact b2 b u n e
      · exact (lst2.keep fun a ma xs e => upd_keep (L.nas a ma).2.2 e).snoc (upd_keep nr's er2)
      · exact crn2.keep fun b xs e => upd_keep (ne_of e es2 (fun z => by cases z)) e
      · rcases List.mem_append.mp ma with ma | ma
        · exact L.nas a ma
        · rw [List.mem_singleton.mp ma]
          exact ⟨nr'l, nr'c, nr's⟩
    · clear hL
      rintro σ G ⟨y3, y4, r, l, s, c, les, as, cs, now, rfl, hrun, I, L⟩
      rw [List.take_of_length_le (by omega)] at I L
      have hmny := I.mny
      have hrk := I.rk
      have hck := I.ck
      walk_at "rds"
      refine ⟨x, dx, _, rfl, L.hx, rfl, ?_⟩
      walk_at "rds"
      exact ⟨x, dx, r, l, s, c, _, les, as, cs, rfl, L.hx, L.el, L.le, L.es, L.ls, L.ec, L.cr, by omega, I.rs, I.cs, by omega, by omega, fun H' s' c' as' cs' b1 h1 h2 h3 h4 h5 => k H' r l s' c' as' cs' (L.b.trans b1) h1 h2 h3 h4 h5⟩
end
end K25
namespace K25
open PySem PySem.Spec PyProof.Rows L2 Rp LamX RZ

/-- a Tangle of m ends and the deeds ds at y -/
def TanAt (C q : Addr) (H : Hp) (y : Addr) (m : Int) (ds : Dl) : Prop := ∃ dx p ts, H y = some (.ins C dx (TanO m p)) ∧ H p = some (.tup ts) ∧ DsV q H ts ds
theorem TanAt.same {C q : Addr} {H H' : Hp} {y : Addr} {m : Int} {ds : Dl} (h : TanAt C q H y m ds) (s : Same H H') : TanAt C q H' y m ds := by
  obtain ⟨dx, p, ts, h1, h2, h3⟩ := h
  exact ⟨dx, p, ts, s _ _ h1, s _ _ h2, h3.keep fun _ _ e => s _ _ e⟩
theorem TanAt.drw {C q c : Addr} {ns : List Int} {l : Nat} {H H' : Hp} {y : Addr} {m : Int} {ds : Dl} (h : TanAt C q H y m ds) (D : Dr q c ns l H) (b : But q H H') : TanAt C q H' y m ds := by
  obtain ⟨_, ⟨_, hq⟩, _, _⟩ := D
  obtain ⟨dx, p, ts, h1, h2, h3⟩ := h
  exact ⟨dx, p, ts, b _ _ (ne_of h1 hq (fun z => by cases z)) h1, b _ _ (ne_of h2 hq (fun z => by cases z)) h2, h3.but b⟩
def spDemTangle (C CT : Addr) : Sp := fun vs H Q E => ∃ v part, vs = [v, .str part] ∧ ((∃ x dx fs, v = .ref x ∧ H x = some (.ins C dx fs) ∧ Q .non H) ∨ (∃ q, Any q H v ∧ errAt E CT "part" (.str part) H))
/-- deeds that a Tangle may have -/
structure DsOk (m : Int) (ds : Dl) : Prop where
  t : Typ 24 ds
  l : ds.length ≤ 4000
  m0 : 0 ≤ m
  m16 : m ≤ 16
  m2 : m % 2 = 0
  r : runD ds m = some 0
def spCrossingsOf (C CB : Addr) : Sp := fun vs H Q E => ∃ v, vs = [v] ∧ ((∃ q y m ds, v = .ref y ∧ TanAt C q H y m ds ∧ DsOk m ds ∧ ∀ H' p cs, Same H H' → H' p = some (.tup (cs.map V.ref)) → CrT H' cs (crsF (floorFR m ds)) → Q (.ref p) H') ∨ (∃ q, Any q H v ∧ errAt E CB "part" (.str "tangle") H))
def spRingsOf (K : PySem.W.Frag) (C CB : Addr) : Sp := fun vs H Q E => ∃ v, vs = [v] ∧ ((∃ q y m ds, v = .ref y ∧ TanAt C q H y m ds ∧ DsOk m ds ∧ ∀ H' p, Same H H' → TupRows K H' p ((ringsF (floorFR m ds)).map nvI) → Q (.ref p) H') ∨ (∃ q, Any q H v ∧ errAt E CB "part" (.str "tangle") H))
theorem rings_len : ∀ (ds : Dl) (f : FR), (stepsFR f ds).rings.length = f.rings.length + ds.length
  | [], _ => rfl
  | (w, g) :: ds, f => by
    show (stepsFR (stepFR f w g.toNat) ds).rings.length = _
    rw [rings_len ds]
    show (f.rings ++ [_]).length + ds.length = f.rings.length + (ds.length + 1)
    rw [List.length_append]
    show f.rings.length + 1 + ds.length = _
    omega
def spRimOf (C CB : Addr) : Sp := fun vs H Q E => ∃ v, vs = [v] ∧ ((∃ q y m ds, v = .ref y ∧ TanAt C q H y m ds ∧ DsOk m ds ∧ ∀ H' p, Same H H' → H' p = some (.tup (nv ((ringsF (floorFR m ds)).getD 0 []))) → Q (.ref p) H') ∨ (∃ q, Any q H v ∧ errAt E CB "part" (.str "tangle") H))
def spRegionsOf (C CB : Addr) : Sp := fun vs H Q E => ∃ v, vs = [v] ∧ ((∃ q y m ds, v = .ref y ∧ TanAt C q H y m ds ∧ DsOk m ds ∧ ∀ H', Same H H' → Q (.int (totF (floorFR m ds) : Nat)) H') ∨ (∃ q, Any q H v ∧ errAt E CB "part" (.str "tangle") H))
theorem CrT.same {H H' : Hp} {cs : List Addr} {l : List (Str × List Nat)} (h : CrT H cs l) (s : Same H H') : CrT H' cs l := ⟨h.1, fun i t e e1 e2 => s _ _ (h.2 i t e e1 e2)⟩
/-- a Floor made of a Tangle -/
theorem mk_floor {C q : Addr} {H : Hp} {R : Addr → Hp → Prop} {E : XK} {m : Int} {ds : Dl} {p : Addr} {ts : List V} (hp : H p = some (.tup ts)) (hd : DsV q H ts ds) (ok : DsOk m ds)
    (k : ∀ H' x dx r l s c as cs, Same H H' → H' x = some (.ins C dx (FlFs r l s c (totF (floorFR m ds) : Nat))) → H' s = some (.lst (as.map V.ref)) → TupRw H' as ((ringsF (floorFR m ds)).map nvI) → H' c = some (.lst (cs.map V.ref)) → CrT H' cs (crsF (floorFR m ds)) → R x H') :
    ∀ x dx, H x = none → H dx = none → dx ≠ x → spFloor C [.ref x, .int m, .ref p] (upd (upd H dx (.own x)) x (.ins C dx [])) (fun v H2 => v = .non ∧ R x H2) E := by
  intro x dx hx hdx ne
  have s0 : Same H (upd (upd H dx (.own x)) x (.ins C dx [])) := fun b o e => by rw [upd_ne (ne_of_none e hx), upd_ne (ne_of_none e hdx)]; exact e
  refine ⟨q, x, dx, p, ts, ds, m, 0, rfl, upd_same, s0 _ _ hp, hd.keep fun _ _ e => s0 _ _ e, ok.t, ok.l, ok.m0, by have := ok.m16; omega, ok.m2, ok.r, fun H' r l s c as cs b h1 h2 h3 h4 h5 => ⟨rfl, ?_⟩⟩
  exact k H' x dx r l s c as cs (fun b' o e => b b' o (ne_of_none e hx) (s0 b' o e)) h1 h2 h3 h4 h5

section
variable {P : Program} {w : World} {K : PySem.W.Frag} {mg : Str → Option Value} {base : Heap} {ad : Ad}
abbrev sDemandTangle : Stmt := top 32
theorem scDemandTangle : FnScope ["value", "part"] ["value", "part"] (defScope sDemandTangle) := ⟨rfl, rfl, rfl, by decide +kernel, rfl, by decide +kernel, by decide +kernel⟩
theorem ok_DemandTangle {f : Addr} {fd : FuncData} (F : Fun K "demand_tangle" "demand_tangle" sDemandTangle f fd) (T : Txt K mg ad) (IK : IsK K ad.c_Tangle) (NK : NotK K ad.c_Tangle) (eBadTangle : Err1 P w K mg base "BadTangle" ad.c_BadTangle "part") : FnOk P w K mg base (L2.CX P w) 3 f fd ["value", "part"] (spDemTangle ad.c_Tangle ad.c_BadTangle) := by
  refine fnx F scDemandTangle (fun {vs H Q E} h => ?_) (fun {cdv A fr s H vs Q E} hr h => ?_)
  · obtain ⟨v, part, rfl, h⟩ := h
    rfl
  · obtain ⟨v, part, rfl, h⟩ := h
    refine ⟨_, (pss_one (ps_if (pt_not (pt_val (pe_callB call_isi (by rfl) T.z_isinstance (by decide +kernel) (pa_cons (pv 0) (pa_cons (pe_glob (v := .ref ad.c_Tangle) (by rfl) T.g_Tangle rfl) pa_nil)))))
  (pss_one (ps_raise rfl (takes_of rfl rfl rfl rfl) (pmk_err1 eBadTangle (hr.mono (by decide)) (by rfl) (pv 1))))
  pss_nil)), ?_⟩
    refine r_start (l := [some (v), some (.str part)]) rfl ?_
    rcases h with ⟨x, dx, fs, rfl, e, k⟩ | ⟨q, a, k⟩
    · walk_at "rds"
      refine r_isOwn IK e ?_
      walk_at "rds"
      exact k
    · walk_at "rds"
      refine r_isNot NK a ?_
      walk_at "rds"
      exact k
abbrev sRingsOf : Stmt := top 35
theorem scRingsOf : FnScope ["tangle"] ["tangle"] (defScope sRingsOf) := ⟨rfl, rfl, rfl, by decide +kernel, rfl, by decide +kernel, by decide +kernel⟩
theorem ok_RingsOf {f : Addr} {fd : FuncData} (F : Fun K "rings_of" "rings_of" sRingsOf f fd) (T : Txt K mg ad) (TC : Cls K ad.c_Tangle) (TF : Cls K ad.c_Floor) (TN_ends : NoAttr K ad.c_Tangle "ends") (TN_deeds : NoAttr K ad.c_Tangle "deeds") (TN_rings : NoAttr K ad.c_Floor "rings") {f0 : Addr} {fd0 : FuncData} (cDemandTangle : CalX P w K mg base "demand_tangle" 3 f0 fd0 ["value", "part"] (spDemTangle ad.c_Tangle ad.c_BadTangle)) {f1 : Addr} {fd1 : FuncData} (cFloor : MakX P w K mg base "Floor" 4 ad.c_Floor f1 fd1 ["self", "ends", "deeds"] (spFloor ad.c_Floor)) : FnOk P w K mg base (L2.CX P w) 6 f fd ["tangle"] (spRingsOf K ad.c_Tangle ad.c_BadTangle) := by
  refine fnx F scRingsOf (fun {vs H Q E} h => ?_) (fun {cdv A fr s H vs Q E} hr h => ?_)
  · obtain ⟨v, rfl, h⟩ := h
    rfl
  · obtain ⟨v, rfl, h⟩ := h
    refine ⟨_, (pss_cons (ps_expr (pe_goE cDemandTangle (hr.mono (by decide)) (takes_of rfl rfl rfl rfl) (by rfl) (pa_cons (pv 0) (pa_cons pe_str pa_nil))))
  (pss_one (ps_ret (pe_callTy call_tupK (by rfl) T.z_tuple (by decide +kernel) (pa_cons (pe_fld (pe_makeE cFloor (hr.mono (by decide)) (takes_of rfl rfl rfl rfl) (by rfl) (pa_cons (pe_fld (pv 0) (by rfl)) (pa_cons (pe_fld (pv 0) (by rfl)) pa_nil))) (by rfl)) pa_nil))))), ?_⟩
    refine r_start (l := [some (v)]) rfl ?_
    rcases h with ⟨q, y, m, ds, rfl, hT, ok, k⟩ | ⟨q, hA, k⟩
    · obtain ⟨dy, p, ts, ey, ep, hd⟩ := id hT
      walk_at "rds"
      refine ⟨_, _, rfl, .inl ⟨y, _, _, rfl, ey, ?_⟩⟩
      walk_at "rds"
      refine ⟨y, _, _, _, _, rfl, ey, TC, TN_ends, rfl, ?_⟩
      walk_at "rds"
      refine ⟨y, _, _, _, _, rfl, ey, TC, TN_deeds, rfl, ?_⟩
      walk_at "rds"
      refine mk_floor ep hd ok fun H' x dx r l s c as cs s1 hx es tr ec tc => ?_
      refine ⟨x, _, _, _, _, rfl, hx, TF, TN_rings, rfl, ?_⟩
      walk_at "rds"
      exact r_tupL es fun p2 H2 s2 hp2 ep2 => k H2 p2 (s1.trans s2) ((tr.same s2).tup ep2)
    · walk_at "rds"
      exact ⟨_, _, rfl, .inr ⟨q, hA, k⟩⟩
abbrev sCrossingsOf : Stmt := top 36
theorem scCrossingsOf : FnScope ["tangle"] ["tangle"] (defScope sCrossingsOf) := ⟨rfl, rfl, rfl, by decide +kernel, rfl, by decide +kernel, by decide +kernel⟩
theorem ok_CrossingsOf {f : Addr} {fd : FuncData} (F : Fun K "crossings_of" "crossings_of" sCrossingsOf f fd) (T : Txt K mg ad) (TC : Cls K ad.c_Tangle) (TF : Cls K ad.c_Floor) (TN_ends : NoAttr K ad.c_Tangle "ends") (TN_deeds : NoAttr K ad.c_Tangle "deeds") (TN_crossings : NoAttr K ad.c_Floor "crossings") {f0 : Addr} {fd0 : FuncData} (cDemandTangle : CalX P w K mg base "demand_tangle" 3 f0 fd0 ["value", "part"] (spDemTangle ad.c_Tangle ad.c_BadTangle)) {f1 : Addr} {fd1 : FuncData} (cFloor : MakX P w K mg base "Floor" 4 ad.c_Floor f1 fd1 ["self", "ends", "deeds"] (spFloor ad.c_Floor)) : FnOk P w K mg base (L2.CX P w) 6 f fd ["tangle"] (spCrossingsOf ad.c_Tangle ad.c_BadTangle) := by
  refine fnx F scCrossingsOf (fun {vs H Q E} h => ?_) (fun {cdv A fr s H vs Q E} hr h => ?_)
  · obtain ⟨v, rfl, h⟩ := h
    rfl
  · obtain ⟨v, rfl, h⟩ := h
    refine ⟨_, (pss_cons (ps_expr (pe_goE cDemandTangle (hr.mono (by decide)) (takes_of rfl rfl rfl rfl) (by rfl) (pa_cons (pv 0) (pa_cons pe_str pa_nil))))
  (pss_one (ps_ret (pe_callTy call_tupK (by rfl) T.z_tuple (by decide +kernel) (pa_cons (pe_fld (pe_makeE cFloor (hr.mono (by decide)) (takes_of rfl rfl rfl rfl) (by rfl) (pa_cons (pe_fld (pv 0) (by rfl)) (pa_cons (pe_fld (pv 0) (by rfl)) pa_nil))) (by rfl)) pa_nil))))), ?_⟩
    refine r_start (l := [some (v)]) rfl ?_
    rcases h with ⟨q, y, m, ds, rfl, hT, ok, k⟩ | ⟨q, hA, k⟩
    · obtain ⟨dy, p, ts, ey, ep, hd⟩ := id hT
      walk_at "rds"
      refine ⟨_, _, rfl, .inl ⟨y, _, _, rfl, ey, ?_⟩⟩
      walk_at "rds"
      refine ⟨y, _, _, _, _, rfl, ey, TC, TN_ends, rfl, ?_⟩
      walk_at "rds"
      refine ⟨y, _, _, _, _, rfl, ey, TC, TN_deeds, rfl, ?_⟩
      walk_at "rds"
      refine mk_floor ep hd ok fun H' x dx r l s c as cs s1 hx es tr ec tc => ?_
      refine ⟨x, _, _, _, _, rfl, hx, TF, TN_crossings, rfl, ?_⟩
      walk_at "rds"
      exact r_tupL ec fun p2 H2 s2 hp2 ep2 => k H2 p2 cs (s1.trans s2) ep2 (tc.same s2)
    · walk_at "rds"
      exact ⟨_, _, rfl, .inr ⟨q, hA, k⟩⟩
abbrev sRimOf : Stmt := top 34
theorem scRimOf : FnScope ["tangle"] ["tangle"] (defScope sRimOf) := ⟨rfl, rfl, rfl, by decide +kernel, rfl, by decide +kernel, by decide +kernel⟩
theorem ok_RimOf {f : Addr} {fd : FuncData} (F : Fun K "rim_of" "rim_of" sRimOf f fd) (T : Txt K mg ad)  {f0 : Addr} {fd0 : FuncData} (cRingsOf : CalX P w K mg base "rings_of" 6 f0 fd0 ["tangle"] (spRingsOf K ad.c_Tangle ad.c_BadTangle)) : FnOk P w K mg base (L2.CX P w) 7 f fd ["tangle"] (spRimOf ad.c_Tangle ad.c_BadTangle) := by
  refine fnx F scRimOf (fun {vs H Q E} h => ?_) (fun {cdv A fr s H vs Q E} hr h => ?_)
  · obtain ⟨v, rfl, h⟩ := h
    rfl
  · obtain ⟨v, rfl, h⟩ := h
    refine ⟨_, (pss_one (ps_ret (pe_ix ix_tup (pe_goE cRingsOf (hr.mono (by decide)) (takes_of rfl rfl rfl rfl) (by rfl) (pa_cons (pv 0) pa_nil)) pe_int (fun _ _ => rfl)))), ?_⟩
    refine r_start (l := [some (v)]) rfl ?_
    rcases h with ⟨q, y, m, ds, rfl, hT, ok, k⟩ | ⟨q, hA, k⟩
    · walk_at "rds"
      refine ⟨_, rfl, .inl ⟨q, y, m, ds, rfl, hT, ok, fun H' p s1 R => ?_⟩⟩
      have ln : (ringsF (floorFR m ds)).length = ds.length + 1 := by
        show ((stepsFR (beginFR m.toNat) ds).rings.map _).length = _
        rw [List.length_map, rings_len]
        show 1 + ds.length = _
        omega
      obtain ⟨as, ep, la, hr⟩ := R
      rw [List.length_map] at la
      obtain ⟨a0, rest, rfl⟩ : ∃ a0 rest, as = a0 :: rest := by
        cases as with
        | nil => rw [ln] at la; cases la
        | cons x r => exact ⟨x, r, rfl⟩
      obtain ⟨r0, hr0⟩ : ∃ r0, (ringsF (floorFR m ds))[0]? = some r0 := ⟨_, List.getElem?_eq_getElem (by omega)⟩
      have e0 := hr 0 a0 (nvI r0) rfl (by rw [List.getElem?_map, hr0]; rfl)
      walk_at "rds"
      refine r_ixT (SqT.of ep) (v := .ref a0) (by show atI _ ((0 : Nat) : Int) = _; exact atI_nat rfl) ?_
      refine k H' a0 s1 ?_
      rw [show (ringsF (floorFR m ds)).getD 0 [] = r0 by rw [List.getD_eq_getElem?_getD, hr0]; rfl, nv_ints]
      exact e0
    · walk_at "rds"
      exact ⟨_, rfl, .inr ⟨q, hA, k⟩⟩
end
end K25
namespace K25
open PySem PySem.Spec PyProof.Rows L2 Rp LamX RZ

section
variable {P : Program} {w : World} {K : PySem.W.Frag} {mg : Str → Option Value} {base : Heap} {ad : Ad}
abbrev sLawStaircase : Stmt := top 38
theorem scLawStaircase : FnScope ["script", "cell"] ["script"] (defScope sLawStaircase) := ⟨rfl, rfl, rfl, by decide +kernel, rfl, by decide +kernel, by decide +kernel⟩
theorem ok_LawStaircase {f : Addr} {fd : FuncData} (F : Fun K "_law_staircase" "_law_staircase" sLawStaircase f fd) (T : Txt K mg ad) (hM : HasMods base)   : FnG P w K mg base 1 f fd ["script"] (spBox K) := by
  refine fng F scLawStaircase (fun {vs H Q E} h => ?_) (fun {cdv A fr s H vs Q E} hg hr h => ?_)
  · obtain ⟨a, ns, rfl, hS, k⟩ := h
    rfl
  · obtain ⟨a, ns, rfl, hS, k⟩ := h
    refine ⟨_, (pss_one (ps_ret (pe_lst (pa_cons (pe_lc (own := [("cell", 1)]) (g := gName 1) (tt := tYes) rfl scLawStaircase.nd (pi_list (pe_slice sl_list (pv 0) po_none (po_some pe_int))) (blkOk_by (own := [("cell", 1)]) (N := ["script", "cell"]) (sc := defScope sLawStaircase) (by decide +kernel)) (fun _ _ _ _ _ => (pg_name (i := 1) scLawStaircase.nd rfl (Or.inl rfl))) (fun _ _ _ _ _ => pts_nil) (fun _ _ _ _ _ => (pe_callTy call_int1 (by rfl) T.z_int (by decide +kernel) (pa_cons (pv 1) pa_nil)))) (pa_cons pe_int (pa_cons pe_int pa_nil)))))), ?_⟩
    refine r_start (l := [some (.ref a), none]) rfl ?_
    walk_at "rds"
    refine ⟨_, rfl, ?_⟩
    refine ⟨_, _, rfl, hS, fun p hp => ?_⟩
    have s1 : Same H (upd H p (.lst (cutV (ns.map V.int) none (some 60)))) := same_neu (Same.refl H) hp
    obtain ⟨ns', ec, el⟩ := cut60 ns
    rw [ec] at s1 ⊢
    generalize hH1 : upd H p _ = H1
    rw [hH1] at s1
    have hp1 : H1 p = some (.lst (ns'.map V.int)) := by rw [← hH1]; exact upd_same
    refine ⟨p, rfl, ⟨_, SqL.of hp1⟩, fun D hD => ?_⟩
    refine lc_list (K := K) (a := p) (xs := ns'.map V.int) (fun i H' => H' D = some (.lst ((ns'.take i).map V.int)) ∧ ∀ b o, b ≠ D → H1 b = some o → H' b = some o)
      ⟨upd_same, fun b o n e => by rw [upd_ne n]; exact e⟩ (fun i H' _ ⟨_, s2⟩ => SqL.of (s2 p _ (ne_of_none hp1 hD) hp1)) ?_ ?_
    · rintro i x H' hi ⟨hD', s2⟩
      have hi' : i < ns'.length := by
        have q := (List.getElem?_eq_some_iff.mp hi).1
        rw [List.length_map] at q
        exact q
      obtain ⟨n, en, rfl⟩ : ∃ n, ns'[i]? = some n ∧ x = V.int n := by
        rw [List.getElem?_map] at hi
        cases e : ns'[i]? with
        | none => rw [e] at hi; cases hi
        | some u => rw [e] at hi; exact ⟨u, rfl, (Option.some.inj hi).symm⟩
      walk_at "rds"
      refine ⟨rfl, ?_⟩
      walk_at "rds"
      refine .inl ⟨_, rfl, ?_⟩
      refine ⟨_, hD', ?_, ?_, fun b o n e => by rw [upd_ne n]; exact s2 b o n e⟩
      · rw [List.length_map, List.length_take]
        exact small1000 (by omega)
      · rw [upd_same, List.take_succ, en, Option.toList_some, List.map_append]
        rfl
    · rintro H' ⟨hD', s2⟩
      rw [List.length_map, List.take_length] at hD'
      walk_at "rds"
      refine ⟨len_ok rfl, fun q hq => ?_⟩
      have nD : H D = none := s1.free hD
      refine k _ q D ns' ⟨ne_of_none hD' hq, ⟨0, upd_same⟩, by rw [upd_ne (ne_of_none hD' hq)]; exact hD', el⟩ (fun b o e => ?_) ?_
      · have e1 := s1 b o e
        have e2 := s2 b o (ne_of_none e nD) e1
        rw [upd_ne (ne_of_none e2 hq)]
        exact e2
      · cases e : H q with
        | none => rfl
        | some o =>
          have e2 := s2 q o (ne_of_none e nD) (s1 q o e)
          rw [hq] at e2
          cases e2
abbrev sLawStep : Stmt := top 39
theorem scLawStep : FnScope ["staircase", "many", "left", "turn", "cell", "mixed"] ["staircase", "many"] (defScope sLawStep) := ⟨rfl, rfl, rfl, by decide +kernel, rfl, by decide +kernel, by decide +kernel⟩
theorem ok_LawStep {f : Addr} {fd : FuncData} (F : Fun K "_law_step" "_law_step" sLawStep f fd) (T : Txt K mg ad) (hM : HasMods base)   : FnG P w K mg base 1 f fd ["staircase", "many"] spDraw := by
  refine fng F scLawStep (fun {vs H Q E} h => ?_) (fun {cdv A fr s H vs Q E} hg hr h => ?_)
  · obtain ⟨q, c, ns, lap, many, rfl, hm, hm2, hlap, ⟨ne, ⟨rest, hb⟩, hc, hl⟩, k⟩ := h
    rfl
  · obtain ⟨q, c, ns, lap, many, rfl, hm, hm2, hlap, ⟨ne, ⟨rest, hb⟩, hc, hl⟩, k⟩ := h
    refine ⟨_, (pss_cons (ps_if (pt_cmpR op_gt (pe_ix ix_list (pv 0) pe_int (fun _ _ => rfl)) pe_int (nomark _))
  (pss_cons (ps_set (i := 2) scLawStep.nd rfl (Or.inl rfl) (pe_callTy call_int1 (by rfl) T.z_int (by decide +kernel) (pa_cons (pe_ix ix_list (pv 0) pe_int (fun _ _ => rfl)) pa_nil)))
  (pss_cons (ps_asg (pe_op op_fdivN (pv 2) (pv 1)) (pg_sub (pv 0) pe_int set_list))
  (pss_one (ps_ret (pe_op op_modN (pe_callTy call_int1 (by rfl) T.z_int (by decide +kernel) (pa_cons (pv 2) pa_nil)) (pv 1))))))
  pss_nil)
  (pss_cons (ps_set (i := 3) scLawStep.nd rfl (Or.inl rfl) (pe_ix ix_list (pv 0) pe_int (fun _ _ => rfl)))
  (pss_cons (ps_asg (pe_op op_add (pv 3) pe_int) (pg_sub (pv 0) pe_int set_list))
  (pss_cons (ps_set (i := 4) scLawStep.nd rfl (Or.inl rfl) (pe_op op_add (pe_op op_mul pe_int (pv 3)) pe_int))
  (pss_cons (ps_if (pt_cmpR (op_neD hr.units) (pe_ix ix_list (pv 0) pe_int (fun _ _ => rfl)) (pe_lst pa_nil) (nomark _))
  (pss_one (ps_set (i := 4) scLawStep.nd rfl (Or.inl rfl) (pe_ix ix_list (pe_ix ix_list (pv 0) pe_int (fun _ _ => rfl)) (pe_op op_modN (pe_callTy call_int1 (by rfl) T.z_int (by decide +kernel) (pa_cons (pv 3) pa_nil)) (pe_callB call_len_seq (by rfl) T.z_len PySem.boot_len (pa_cons (pe_ix ix_list (pv 0) pe_int (fun _ _ => rfl)) pa_nil))) (fun _ _ => rfl))))
  pss_nil)
  (pss_cons (ps_if (PW.pt (pw_and (pt_cmpR op_lt (pv 3) (pe_callB call_len_seq (by rfl) T.z_len PySem.boot_len (pa_cons (pe_ix ix_list (pv 0) pe_int (fun _ _ => rfl)) pa_nil)) (nomark _)) (pw_and1 (pt_cmpR op_ge (pe_callB call_abs (by rfl) T.z_abs (by decide +kernel) (pa_cons (pv 4) pa_nil)) (pe_op op_pow pe_int pe_int) (nomark _)))))
  (pss_cons (ps_set (i := 2) scLawStep.nd rfl (Or.inl rfl) (pe_op op_add (pe_op op_mul pe_int (pe_op op_sub (pe_callB call_abs (by rfl) T.z_abs (by decide +kernel) (pa_cons (pe_callTy call_int1 (by rfl) T.z_int (by decide +kernel) (pa_cons (pv 4) pa_nil)) pa_nil)) (pe_op op_pow pe_int pe_int))) (pe_callTy call_int1 (by rfl) T.z_int (by decide +kernel) (pa_cons (pe_cmpR op_lt (pv 4) pe_int (nomark _)) pa_nil))))
  (pss_cons (ps_asg (pe_op op_fdivN (pv 2) (pv 1)) (pg_sub (pv 0) pe_int set_list))
  (pss_one (ps_ret (pe_op op_modN (pe_callTy call_int1 (by rfl) T.z_int (by decide +kernel) (pa_cons (pv 2) pa_nil)) (pv 1))))))
  pss_nil)
  (pss_cons (ps_set (i := 5) scLawStep.nd rfl (Or.inl rfl) (pe_op op_modN (pe_callTy call_int1 (by rfl) T.z_int (by decide +kernel) (pa_cons (pe_op op_pow (pe_op op_add (pe_op op_add (pe_op op_modN (pe_callTy call_int1 (by rfl) T.z_int (by decide +kernel) (pa_cons (pv 4) pa_nil)) pe_int) (pe_op op_mul pe_int (pv 3))) pe_int) pe_int) pa_nil)) pe_int))
  (pss_cons (ps_set (i := 5) scLawStep.nd rfl (Or.inl rfl) (pe_op op_modN (pe_callTy call_int1 (by rfl) T.z_int (by decide +kernel) (pa_cons (pe_op op_pow (pe_op op_add (pe_op op_add (pe_op op_mul (pv 5) (pe_op op_add (pe_op op_mul pe_int (pv 3)) pe_int)) (pe_op op_mul (pe_op op_mul pe_int (pv 3)) (pv 3))) pe_int) pe_int) pa_nil)) pe_int))
  (pss_one (ps_ret (pe_op op_modN (pe_callTy call_int1 (by rfl) T.z_int (by decide +kernel) (pa_cons (pe_op op_fdivN (pv 5) pe_int) pa_nil)) (pv 1)))))))))))), ?_⟩
    refine r_start (l := [some (.ref q), some (.int many), none, none, none, none]) rfl ?_
    have hmN : many.natAbs < 1073741824 := by omega
    have hm0 : many ≠ 0 := by omega
    have bq : ∀ {o : HO}, But q H (upd H q o) := fun {o} => But.upd o
    -- if quay[2] > 0
    walk_at "rds"
    refine r_ixL (SqL.of hb) at2 ?_
    walk_at "rds"
    refine ite2 (fun hpos => ?_) (fun _ => ?_)
    · walk_at "rds"
      refine r_ixL (SqL.of hb) at2 ?_
      walk_at "rds"
      refine .inl ⟨_, rfl, ?_⟩
      walk_at "rds"
      refine r_I ⟨hm0, hmN⟩ ?_
      walk_at "rds"
      refine r_setL hb (k := 2) rfl ?_
      walk_at "rds"
      refine .inl ⟨_, rfl, ?_⟩
      walk_at "rds"
      refine r_I hm0 ?_
      exact k _ lap _ (by omega) ⟨ne, ⟨_, upd_same⟩, by rw [upd_ne ne]; exact hc, hl⟩ bq (fmod_in hm).1 (fmod_in hm).2
    -- lap = quay[1]; quay[1] = lap + 1; cell = ..
    walk_at "rds"
    refine r_ixL (SqL.of hb) at1 ?_
    walk_at "rds"
    refine r_setL hb (k := 1) rfl ?_
    walk_at "rds"
    refine r_I (.inl ⟨by decide, by decide⟩) ?_
    generalize hH1 : upd H q _ = H1
    have hb1 : H1 q = some (.lst [.ref c, .int ((lap + 1 : Nat) : Int), .int rest]) := by rw [← hH1]; exact upd_same
    have hc1 : H1 c = some (.lst (ns.map V.int)) := by rw [← hH1, upd_ne ne]; exact hc
    have q1 : But q H H1 := by rw [← hH1]; exact bq
    clear hH1 hb hc bq
    walk_at "res"
    with_reducible refine r_cut (fun σ H' => ∃ cell : Int, σ = [some (.ref q), some (.int many), none, some (.int (lap : Int)), some (.int cell), none] ∧ H' q = some (.lst [.ref c, .int ((lap + 1 : Nat) : Int), .int rest]) ∧ H' c = some (.lst (ns.map V.int)) ∧ But q H H') ?_ fun go => ?_
    rotate_left
    · -- if quay[0] != []
      walk_at "rds"
      refine r_ixL (SqL.of hb1) at0 ?_
      walk_at "rds"
      refine ⟨len_ok rfl, fun p hp => ?_⟩
      have hb2 : upd H1 p (.lst []) q = some (.lst [.ref c, .int ((lap + 1 : Nat) : Int), .int rest]) := by rw [upd_ne (ne_of_none hb1 hp)]; exact hb1
      have hc2 : upd H1 p (.lst []) c = some (.lst (ns.map V.int)) := by rw [upd_ne (ne_of_none hc1 hp)]; exact hc1
      have q2 : But q H (upd H1 p (.lst [])) := q1.neu hp
      refine ne_nil hc2 upd_same ?_
      walk_at "rds"
      cases hns : ns.isEmpty with
      | true =>
        walk_at "res"
        exact go _ _ ⟨_, rfl, hb2, hc2, q2⟩
      | false =>
        have hlen : (0 : Int) < (ns.length : Int) := by
          cases ns with
          | nil => cases hns
          | cons n0 nr => simp <;> omega
        walk_at "rds"
        refine r_ixL (SqL.of hb2) at0 ?_
        walk_at "rds"
        refine .inl ⟨_, rfl, ?_⟩
        walk_at "rds"
        refine r_ixL (SqL.of hb2) at0 ?_
        walk_at "rds"
        refine ⟨_, _, rfl, .inl (SqL.of hc2), ?_⟩
        walk_at "rds"
        rw [map_len]
        refine r_I (by omega) ?_
        obtain ⟨cell, hcell⟩ := at_ints (ns := ns) (fmod_in (i := (lap : Int)) hlen).1 (fmod_in hlen).2
        refine r_ixL (SqL.of hc2) hcell ?_
        walk_at "res"
        exact go _ _ ⟨_, rfl, hb2, hc2, q2⟩
    clear hb1 hc1 q1 H1
    rintro σ H1 ⟨cell, rfl, hb1, hc1, q1⟩
    have D1 : Dr q c ns (lap + 1) H1 := ⟨ne, ⟨_, hb1⟩, hc1, hl⟩
    -- if lap < len(quay[0]) and abs(cell) >= 10 ** 18
    with_reducible refine r_cut (fun σ H' => σ = [some (.ref q), some (.int many), none, some (.int (lap : Int)), some (.int cell), none] ∧ H' = H1) ?_ fun go => ?_
    rotate_left
    · walk_at "rds"
      refine r_ixL (SqL.of hb1) at0 ?_
      walk_at "rds"
      refine ⟨_, _, rfl, .inl (SqL.of hc1), ?_⟩
      walk_at "rds"
      refine ite2 (fun _ => ?_) (fun _ => ?_)
      · walk_at "rds"
        refine ⟨_, rfl, ?_⟩
        walk_at "rds"
        refine r_I ⟨by decide, by decide, by decide⟩ ?_
        walk_at "rds"
        refine ite2 (fun _ => ?_) (fun _ => ?_)
        · walk_at "rds"
          refine .inl ⟨_, rfl, ?_⟩
          walk_at "rds"
          refine ⟨_, rfl, ?_⟩
          walk_at "rds"
          refine r_I ⟨by decide, by decide, by decide⟩ ?_
          walk_at "rds"
          refine r_I (.inl ⟨by decide, by decide⟩) ?_
          walk_at "rds"
          refine .inr ⟨_, rfl, ?_⟩
          walk_at "rds"
          refine r_I ⟨hm0, hmN⟩ ?_
          walk_at "rds"
          refine r_setL hb1 (k := 2) rfl ?_
          walk_at "rds"
          refine .inl ⟨_, rfl, ?_⟩
          walk_at "rds"
          refine r_I hm0 ?_
          exact k _ (lap + 1) _ (by omega) ⟨ne, ⟨_, upd_same⟩, by rw [upd_ne ne]; exact hc1, hl⟩ (q1.upd2 _) (fmod_in hm).1 (fmod_in hm).2
        · walk_at "res"
          exact go _ _ ⟨rfl, rfl⟩
      · walk_at "res"
        exact go _ _ ⟨rfl, rfl⟩
    rintro σ H' ⟨rfl, rfl⟩
    -- mixed
    walk_at "rds"
    refine .inl ⟨_, rfl, ?_⟩
    walk_at "rds"
    refine r_I (by decide) ?_
    walk_at "rds"
    refine r_I (.inl ⟨by decide, by decide⟩) ?_
    walk_at "rds"
    have f1 := fmod_in (i := cell) (j := 2147483563) (by decide)
    refine r_I ⟨by decide, by decide, by omega⟩ ?_
    generalize (_ : Int) ^ (_ : Nat) = big1
    walk_at "rds"
    refine .inl ⟨_, rfl, ?_⟩
    walk_at "rds"
    refine r_I (by decide) ?_
    have f2 := fmod_in (i := big1) (j := 2147483549) (by decide)
    revert f2
    generalize big1.fmod _ = mixed
    intro f2
    walk_at "rds"
    refine r_I (.inl ⟨by decide, by decide⟩) ?_
    walk_at "rds"
    refine r_I (.inl ⟨by omega, by omega⟩) ?_
    walk_at "rds"
    refine r_I (.inl ⟨by decide, by decide⟩) ?_
    walk_at "rds"
    refine r_I (.inl ⟨by omega, by omega⟩) ?_
    walk_at "rds"
    refine r_I ⟨by decide, by decide, fits3 f2.1 (by omega) hlap (by decide) (by decide) (by decide) (by decide) (by decide) (by decide)⟩ ?_
    generalize (_ : Int) ^ (_ : Nat) = big2
    walk_at "rds"
    refine .inl ⟨_, rfl, ?_⟩
    walk_at "rds"
    refine r_I (by decide) ?_
    generalize big2.fmod _ = mixed2
    walk_at "rds"
    refine r_I ⟨by decide, by decide⟩ ?_
    walk_at "rds"
    refine .inl ⟨_, rfl, ?_⟩
    walk_at "rds"
    refine r_I hm0 ?_
    exact k _ (lap + 1) _ (by omega) D1 q1 (fmod_in hm).1 (fmod_in hm).2
abbrev sLawPick : Stmt := top 40
theorem scLawPick : FnScope ["staircase", "some"] ["staircase", "some"] (defScope sLawPick) := ⟨rfl, rfl, rfl, by decide +kernel, rfl, by decide +kernel, by decide +kernel⟩
theorem ok_LawPick {f : Addr} {fd : FuncData} (F : Fun K "_law_pick" "_law_pick" sLawPick f fd) (T : Txt K mg ad) (hM : HasMods base)  {f0 : Addr} {fd0 : FuncData} (cLawStep : Cal P w K mg base "_law_step" 1 f0 fd0 ["staircase", "many"] spDraw) : FnG P w K mg base 2 f fd ["staircase", "some"] (spOf K) := by
  refine fng F scLawPick (fun {vs H Q E} h => ?_) (fun {cdv A fr s H vs Q E} hg hr h => ?_)
  · obtain ⟨q, c, a, ns, lap, xs, rfl, hS, h0, h1, hlap, hne, hD, k⟩ := h
    rfl
  · obtain ⟨q, c, a, ns, lap, xs, rfl, hS, h0, h1, hlap, hne, hD, k⟩ := h
    refine ⟨_, (pss_one (ps_ret (pe_ix ix_list (pv 1) (pe_go cLawStep hg (hr.mono (by decide)) (by rfl) (pa_cons (pv 0) (pa_cons (pe_callB call_len_seq (by rfl) T.z_len PySem.boot_len (pa_cons (pv 1) pa_nil)) pa_nil))) (fun _ _ => rfl)))), ?_⟩
    refine r_start (l := [some (.ref q), some (.ref a)]) rfl ?_
    walk_at "rds"
    refine ⟨_, _, rfl, .inl hS, ?_⟩
    walk_at "rds"
    refine ⟨q, c, ns, lap, _, rfl, by omega, by omega, hlap, hD, fun H' lap' r hl D' B r0 r1 => ?_⟩
    obtain ⟨i, v, e1, e2⟩ := at_some r0 r1
    refine r_ixL (B.seq hne hS) e1 ?_
    exact k _ _ i v hl D' B e2
end
end K25
namespace K25
open PySem PySem.Spec PyProof.Rows L2 Rp LamX RZ

def spDeeds : Sp := fun vs H Q _ => ∃ (q c : Addr) (ns : List Int) (lap : Nat) (m most : Int), vs = [.ref q, .int m, .int most] ∧ 0 ≤ m ∧ m ≤ 16 ∧ m % 2 = 0 ∧ 0 ≤ most ∧ most ≤ 100 ∧ lap + 1000 < 2 ^ 20 ∧ Dr q c ns lap H ∧
  ∀ (H' : Hp) (lap' : Nat) (p : Addr) (us : List V) (ds : Dl), lap' ≤ lap + 400 → Dr q c ns lap' H' → But q H H' → H p = none → p ≠ q → H' p = some (.lst us) → DsV q H' us ds → Typ 23 ds → (ds.length : Int) ≤ most + 12 → runD ds m = some 0 → Q (.ref p) H'
theorem fits_all {w : Str} {m g : Int} (h : fitsG w m g = true) (h0 : 0 ≤ m) (h24 : m ≤ 24) : 0 ≤ g ∧ g ≤ 23 := by
  unfold fitsG at h
  have a := Bool.and_eq_true_iff.mp h
  have b := of_decide_eq_true a.1
  have c := of_decide_eq_true a.2
  have l : 0 ≤ gLo w m := by unfold gLo; split; decide; split; split <;> decide; decide
  have u : gHi w m ≤ 24 := by
    unfold gHi
    split
    · split <;> omega
    · split
      · split
        · split <;> omega
        · omega
      · omega
  omega
theorem big200 : 200 ≤ sizeLine := le_ok rfl
/-- the deeds found so far, in the list at p -/
structure FD (q c : Addr) (ns : List Int) (H G : Hp) (lap : Nat) (p : Addr) (us : List V) (ds : Dl) : Prop where
  D : Dr q c ns lap G
  B : But q H G
  hp : H p = none
  np : p ≠ q
  pc : p ≠ c
  ls : G p = some (.lst us)
  ds : DsV q G us ds
section
variable {q c p t x : Addr} {ns : List Int} {H G G' : Hp} {lap lap' : Nat} {us : List V} {ds : Dl} {w : Str} {g : Int} {o : HO}
theorem FD.draw (f : FD q c ns H G lap p us ds) (D' : Dr q c ns lap' G') (b : But q G G') : FD q c ns H G' lap' p us ds :=
  ⟨D', f.B.trans b, f.hp, f.np, f.pc, b _ _ f.np f.ls, f.ds.but b⟩
theorem FD.neu (f : FD q c ns H G lap p us ds) (hx : G x = none) : FD q c ns H (upd G x o) lap p us ds :=
  ⟨f.D.neu hx, f.B.neu hx, f.hp, f.np, f.pc, by rw [upd_ne (ne_of_none f.ls hx)]; exact f.ls, f.ds.but ((But.refl q G).neu hx)⟩
theorem FD.push (f : FD q c ns H G lap p us ds) (et : G t = some (.tup [.str w, .int g])) (nt : t ≠ q) : FD q c ns H (upd G p (.lst (us ++ [.ref t]))) lap p (us ++ [.ref t]) (ds ++ [(w, g)]) := by
  have k : ∀ t xs, G t = some (.tup xs) → upd G p (.lst (us ++ [.ref t])) t = some (.tup xs) := fun t xs z => by
    rw [upd_ne (ne_of z f.ls (fun z => by cases z))]
    exact z
  have k' : ∀ b xs, G b = some (.tup xs) → upd G p (.lst (us ++ [.ref t])) b = some (.tup xs) := fun b xs z => by
    rw [upd_ne (ne_of z f.ls (fun z => by cases z))]
    exact z
  obtain ⟨ne, ⟨rest, hb⟩, hc, hl⟩ := f.D
  exact ⟨⟨ne, ⟨rest, by rw [upd_ne f.np.symm]; exact hb⟩, by rw [upd_ne f.pc.symm]; exact hc, hl⟩, but_put rfl f.B f.hp, f.hp, f.np, f.pc, upd_same, (f.ds.keep k').app (.one nt (k' _ _ et))⟩
theorem FD.off (f : FD q c ns H G lap p us ds) (hx : G x = none) : x ≠ q := by
  obtain ⟨ne, ⟨rest, hb⟩, hc, hl⟩ := f.D
  exact (ne_of_none hb hx).symm
end
/-- what holds as deeds are found -/
structure FI (q c : Addr) (ns : List Int) (H G : Hp) (lap : Nat) (p : Addr) (us : List V) (ds : Dl) (m n : Int) (k : Nat) : Prop where
  f : FD q c ns H G lap p us ds
  t : Typ 23 ds
  l : ds.length ≤ k
  r : runD ds m = some n
  n0 : 0 ≤ n
  n24 : n ≤ 24
  n2 : n % 2 = 0
theorem FI.push {q c p t : Addr} {ns : List Int} {H G : Hp} {lap : Nat} {us : List V} {ds : Dl} {w : Str} {g m n : Int} {k : Nat} (h : FI q c ns H G lap p us ds m n k) (et : G t = some (.tup [.str w, .int g])) (nt : t ≠ q) (hw : w ∈ W5) (fit : fitsG w n g = true) (b : behind w n ≤ 24) :
    FI q c ns H (upd G p (.lst (us ++ [.ref t]))) lap p (us ++ [.ref t]) (ds ++ [(w, g)]) m (behind w n) (k + 1) := by
  obtain ⟨g0, g1⟩ := fits_all fit h.n0 h.n24
  exact ⟨h.f.push et nt, h.t.app (.one hw g0 g1), by rw [List.length_append]; exact Nat.add_le_add_right h.l 1, runD_one h.r fit (by omega), fits_ends h.n0 h.n2 fit, b, even_behind h.n2⟩
theorem FI.draw {q c p : Addr} {ns : List Int} {H G G' : Hp} {lap lap' : Nat} {us : List V} {ds : Dl} {m n : Int} {k : Nat} (h : FI q c ns H G lap p us ds m n k) (D' : Dr q c ns lap' G') (b : But q G G') : FI q c ns H G' lap' p us ds m n k := { h with f := h.f.draw D' b }
theorem FI.neu {q c p x : Addr} {ns : List Int} {H G : Hp} {lap : Nat} {us : List V} {ds : Dl} {m n : Int} {k : Nat} {o : HO} (h : FI q c ns H G lap p us ds m n k) (hx : G x = none) : FI q c ns H (upd G x o) lap p us ds m n k := { h with f := h.f.neu hx }
theorem FI.up {q c p : Addr} {ns : List Int} {H G : Hp} {lap : Nat} {us : List V} {ds : Dl} {m n : Int} {k k' : Nat} (h : FI q c ns H G lap p us ds m n k) (l : k ≤ k') : FI q c ns H G lap p us ds m n k' := { h with l := Nat.le_trans h.l l }
/-- the list is exchanged for a longer one -/
theorem FI.cat {q c p p2 t : Addr} {ns : List Int} {H G : Hp} {lap : Nat} {us : List V} {ds : Dl} {w : Str} {g m n : Int} {k : Nat} (h : FI q c ns H G lap p us ds m n k) (et : G t = some (.tup [.str w, .int g])) (nt : t ≠ q) (hp2 : G p2 = none) (hw : w ∈ W5) (fit : fitsG w n g = true) (b : behind w n ≤ 24) (h2 : H p2 = none) :
    FI q c ns H (upd G p2 (.lst (us ++ [.ref t]))) lap p2 (us ++ [.ref t]) (ds ++ [(w, g)]) m (behind w n) (k + 1) := by
  obtain ⟨g0, g1⟩ := fits_all fit h.n0 h.n24
  have f2 := h.f.neu (o := .lst (us ++ [.ref t])) hp2
  have e2 : upd G p2 (.lst (us ++ [.ref t])) t = some (.tup [.str w, .int g]) := by rw [upd_ne (ne_of_none et hp2)]; exact et
  exact ⟨⟨f2.D, f2.B, h2, h.f.off hp2, (ne_of_none h.f.D.cells hp2).symm, upd_same, f2.ds.app (.one nt e2)⟩, h.t.app (.one hw g0 g1), by rw [List.length_append]; exact Nat.add_le_add_right h.l 1, runD_one h.r fit (by omega), fits_ends h.n0 h.n2 fit, b, even_behind h.n2⟩

section
variable {P : Program} {w : World} {K : PySem.W.Frag} {mg : Str → Option Value} {base : Heap} {ad : Ad}
abbrev sLawDeeds : Stmt := top 41
theorem scLawDeeds : FnScope ["staircase", "ends", "most", "found", "now", "turn", "way"] ["staircase", "ends", "most"] (defScope sLawDeeds) := ⟨rfl, rfl, rfl, by decide +kernel, rfl, by decide +kernel, by decide +kernel⟩
theorem ok_LawDeeds {f : Addr} {fd : FuncData} (F : Fun K "_law_deeds" "_law_deeds" sLawDeeds f fd) (T : Txt K mg ad) (hM : HasMods base)  {f0 : Addr} {fd0 : FuncData} (cLawStep : Cal P w K mg base "_law_step" 1 f0 fd0 ["staircase", "many"] spDraw) {f1 : Addr} {fd1 : FuncData} (cLawPick : Cal P w K mg base "_law_pick" 2 f1 fd1 ["staircase", "some"] (spOf K)) : FnG P w K mg base 3 f fd ["staircase", "ends", "most"] spDeeds := by
  refine fng F scLawDeeds (fun {vs H Q E} h => ?_) (fun {cdv A fr s H vs Q E} hg hr h => ?_)
  · obtain ⟨q, c, ns, lap, m, most, rfl, h0, h16, h2, hm0, hm1, hlap, hD, k⟩ := h
    rfl
  · obtain ⟨q, c, ns, lap, m, most, rfl, h0, h16, h2, hm0, hm1, hlap, hD, k⟩ := h
    refine ⟨_, (pss_cons (ps_par (i := 3) (j := 4) (by rfl) scLawDeeds.nd rfl rfl (by decide) rfl rfl (pa_cons (pe_lst pa_nil) (pa_cons (pv 1) pa_nil)) (by rfl))
  (pss_cons (ps_for PassesOwn.never rfl (pi_range1 (by rfl) T.z_range (pa_cons (pe_go cLawStep hg (hr.mono (by decide)) (by rfl) (pa_cons (pv 0) (pa_cons (pe_op op_add (pv 2) pe_int) pa_nil))) pa_nil)) (pg_name (i := 5) scLawDeeds.nd rfl (Or.inl rfl))
  (pss_cons (ps_set (i := 6) scLawDeeds.nd rfl (Or.inl rfl) (pe_go cLawStep hg (hr.mono (by decide)) (by rfl) (pa_cons (pv 0) (pa_cons pe_int pa_nil))))
  (pss_one (ps_if (pt_cmpR op_eq (pv 4) pe_int (nomark _))
  (pss_one (ps_par (i := 3) (j := 4) (by rfl) scLawDeeds.nd rfl rfl (by decide) rfl rfl (pa_cons (pe_op op_cat (pv 3) (pe_lst (pa_cons (pe_tup (pa_cons pe_str (pa_cons pe_int pa_nil))) pa_nil))) (pa_cons pe_int pa_nil)) (by rfl)))
  (pss_one (ps_if (pt_cmpR op_lt (pv 6) pe_int (nomark _))
  (pss_one (ps_expr (pe_bm PySem.F.plainAttrs_list PySem.F.slot_list_append PySem.F.type_list_append mt_append (pv 3) (pa_cons (pe_tup (pa_cons (pe_go cLawPick hg (hr.mono (by decide)) (by rfl) (pa_cons (pv 0) (pa_cons (pe_lst (pa_cons pe_str (pa_cons pe_str pa_nil))) pa_nil))) (pa_cons (pe_go cLawStep hg (hr.mono (by decide)) (by rfl) (pa_cons (pv 0) (pa_cons (pv 4) pa_nil))) pa_nil))) pa_nil))))
  (pss_one (ps_if (PW.pt (pw_and (pt_cmpR op_lt (pv 6) pe_int (nomark _)) (pw_and1 (pt_cmpR op_lt (pv 4) pe_int (nomark _)))))
  (pss_cons (ps_expr (pe_bm PySem.F.plainAttrs_list PySem.F.slot_list_append PySem.F.type_list_append mt_append (pv 3) (pa_cons (pe_tup (pa_cons pe_str (pa_cons (pe_go cLawStep hg (hr.mono (by decide)) (by rfl) (pa_cons (pv 0) (pa_cons (pv 4) pa_nil))) pa_nil))) pa_nil)))
  (pss_one (ps_set (i := 4) scLawDeeds.nd rfl (Or.inl rfl) (pe_op op_add (pv 4) pe_int))))
  (pss_one (ps_if (pt_cmpR op_eq (pv 6) pe_int (nomark _))
  (pss_one (ps_expr (pe_bm PySem.F.plainAttrs_list PySem.F.slot_list_append PySem.F.type_list_append mt_append (pv 3) (pa_cons (pe_tup (pa_cons pe_str (pa_cons (pe_go cLawStep hg (hr.mono (by decide)) (by rfl) (pa_cons (pv 0) (pa_cons (pv 4) pa_nil))) pa_nil))) pa_nil))))
  (pss_one (ps_if (pt_cmpR op_gt (pv 6) pe_int (nomark _))
  (pss_cons (ps_expr (pe_bm PySem.F.plainAttrs_list PySem.F.slot_list_append PySem.F.type_list_append mt_append (pv 3) (pa_cons (pe_tup (pa_cons pe_str (pa_cons (pe_op op_add pe_int (pe_go cLawStep hg (hr.mono (by decide)) (by rfl) (pa_cons (pv 0) (pa_cons (pe_callB (call_max2 rfl) (by rfl) T.z_max (by decide +kernel) (pa_cons pe_int (pa_cons (pe_op op_sub (pv 4) pe_int) pa_nil))) pa_nil)))) pa_nil))) pa_nil)))
  (pss_one (ps_set (i := 4) scLawDeeds.nd rfl (Or.inl rfl) (pe_op op_sub (pv 4) pe_int))))
  pss_nil))))))))))))
  (pss_cons (ps_while PassesOwn.never (pt_cmpR op_gt (pv 4) pe_int (nomark _))
  (pss_cons (ps_expr (pe_bm PySem.F.plainAttrs_list PySem.F.slot_list_append PySem.F.type_list_append mt_append (pv 3) (pa_cons (pe_tup (pa_cons pe_str (pa_cons (pe_op op_add pe_int (pe_go cLawStep hg (hr.mono (by decide)) (by rfl) (pa_cons (pv 0) (pa_cons (pe_callB (call_max2 rfl) (by rfl) T.z_max (by decide +kernel) (pa_cons pe_int (pa_cons (pe_op op_sub (pv 4) pe_int) pa_nil))) pa_nil)))) pa_nil))) pa_nil)))
  (pss_one (ps_set (i := 4) scLawDeeds.nd rfl (Or.inl rfl) (pe_op op_sub (pv 4) pe_int)))))
  (pss_one (ps_ret (pv 3)))))), ?_⟩
    refine r_start (l := [some (.ref q), some (.int m), some (.int most), none, none, none, none]) rfl ?_
    walk_at "rds"
    refine ⟨len_ok rfl, fun p hp => ?_⟩
    walk_at "rds"
    refine ⟨_, _, rfl, ?_⟩
    have I0 : FI q c ns H (upd H p (.lst [])) lap p [] [] m m 0 :=
      ⟨⟨hD.neu hp, (But.refl q H).neu hp, hp, (by obtain ⟨ne, ⟨rest, hb⟩, hc, hl⟩ := hD; exact (ne_of_none hb hp).symm), (ne_of_none hD.cells hp).symm, upd_same, .nil⟩, .nil, Nat.le_refl _, rfl, h0, by omega, h2⟩
    generalize upd H p (.lst []) = G0 at I0
    walk_at "rds"
    refine ⟨_, _, _, _, _, rfl, by omega, by omega, by omega, I0.f.D, fun G1 l1 r1 hl1 D1 b1 m1 n1 => ?_⟩
    refine ⟨_, rfl, by omega, by omega, ?_⟩
    refine for_range (lo := 0) (n := r1.toNat) (fun i σ G => ∃ (p : Addr) (us : List V) (ds : Dl) (n : Int) (l : Nat) (x y : Option V), σ = [some (.ref q), some (.int m), some (.int most), some (.ref p), some (.int n), x, y] ∧ l ≤ lap + 1 + 3 * i ∧ FI q c ns H G l p us ds m n i) ⟨p, [], [], m, l1, none, none, rfl, by omega, I0.draw D1 b1⟩ ?_ ?_
    · rintro i σ G hi ⟨p, us, ds, n, l, x, y, rfl, hl, I⟩
      have small : ∀ {k : Nat}, k ≤ i → k < sizeLine := fun {k} z => Nat.lt_of_lt_of_le (show k < 200 by omega) (le_ok rfl)
      walk_at "rds"
      refine ⟨_, _, _, _, _, rfl, by decide, by decide, by omega, I.f.D, fun G2 l2 way hl2 D2 b2 m2 n2 => ?_⟩
      replace I := I.draw D2 b2
      walk_at "rds"
      refine ⟨rfl, ?_⟩
      by_cases e0 : n = 0
      · subst e0
        rw [show decide (V.int 0 = V.int 0) = true from rfl]
        walk_at "rds"
        refine ⟨len_ok rfl, fun t ht => ?_⟩
        have nt := I.f.off ht
        replace I := I.neu (o := .tup [.str "open", .int 0]) ht
        have et : upd G2 t (.tup [.str "open", .int 0]) t = some (.tup [.str "open", .int 0]) := upd_same
        generalize upd G2 t _ = G3 at I et
        walk_at "rds"
        refine ⟨len_ok rfl, fun t2 ht2 => ?_⟩
        replace I := I.neu (o := .lst [.ref t]) ht2
        have et3 : upd G3 t2 (.lst [.ref t]) t = some (.tup [.str "open", .int 0]) := by rw [upd_ne (ne_of_none et ht2)]; exact et
        have et2 : upd G3 t2 (.lst [.ref t]) t2 = some (.lst [.ref t]) := upd_same
        generalize upd G3 t2 _ = G4 at I et3 et2
        refine r_cat (p := p) I.f.ls et2 (by rw [I.f.ds.len]; exact Nat.le_trans (show ds.length + 1 ≤ 200 by have := I.l; omega) big200) fun p3 hp3 => ?_
        have J := I.cat et3 nt hp3 (by decide) (fits_open (by decide) (.inr rfl)) (by decide) (by
          cases z : H p3 with
          | none => rfl
          | some o => 
            by_cases zq : p3 = q
            · subst zq
              obtain ⟨ne, ⟨rest, hb⟩, hc, hl⟩ := I.f.D
              rw [hb] at hp3
              cases hp3
            · rw [I.f.B _ _ zq z] at hp3
              cases hp3)
        walk_at "rds"
        refine ⟨_, _, rfl, ?_⟩
        exact ⟨p3, _, _, _, l2, _, _, rfl, by omega, J⟩
      · rw [decide_eq_false (fun z => e0 (V.int.inj z))]
        have npos : 0 < n := by have := I.n0; omega
        have ntwo : 2 ≤ n := by have := I.n2; omega
        walk_at "rds"
        by_cases w5 : way < 5
        · rw [decide_eq_true w5]
          walk_at "rds"
          refine ⟨ty_lst I.f.ls, ?_⟩
          walk_at "rds"
          refine ⟨len_ok rfl, fun pl hpl => ?_⟩
          have npl := I.f.off hpl
          replace I := I.neu (o := .lst [.str "over", .str "under"]) hpl
          have epl : upd G2 pl (.lst [.str "over", .str "under"]) pl = some (.lst [.str "over", .str "under"]) := upd_same
          generalize upd G2 pl _ = G3 at I epl
          refine ⟨_, _, _, _, _, _, rfl, SqL.of epl, Nat.zero_lt_succ _, lt_ok rfl, by omega, npl, I.f.D, fun G4 l4 i4 v4 hl4 D4 b4 e4 => ?_⟩
          have pv4 := EachP.get (F := fun v => ∃ w : Str, v = .str w ∧ (w = "over" ∨ w = "under" ∨ w = "turn") ∧ w ∈ W5) (.cons ⟨_, rfl, .inl rfl, by decide⟩ (.cons ⟨_, rfl, .inr (.inl rfl), by decide⟩ .nil)) e4
          obtain ⟨wd, rfl, hw3, hw5⟩ := pv4
          replace I := I.draw D4 b4
          walk_at "rds"
          refine ⟨_, _, _, _, _, rfl, npos, by have := I.n24; omega, by omega, I.f.D, fun G5 l5 gp hl5 D5 b5 m5 n5 => ?_⟩
          replace I := I.draw D5 b5
          walk_at "rds"
          refine ⟨len_ok rfl, fun t ht => ?_⟩
          have nt := I.f.off ht
          replace I := I.neu (o := .tup [.str wd, .int gp]) ht
          have et : upd G5 t (.tup [.str wd, .int gp]) t = some (.tup [.str wd, .int gp]) := upd_same
          generalize upd G5 t _ = G6 at I et
          walk_at "rds"
          refine r_append I.f.ls (by rw [I.f.ds.len]; exact small I.l) ?_
          have J := I.push et nt hw5 (fits_cross hw3 m5 n5) (by rw [behind_cross hw3]; exact I.n24)
          rw [behind_cross hw3] at J
          walk_at "rds"
          exact ⟨p, _, _, _, l5, _, _, rfl, by omega, J⟩
        · rw [decide_eq_false w5]
          walk_at "rds"
          by_cases w7 : way < 7 ∧ n < 18
          · rw [decide_eq_true w7.1]
            walk_at "rds"
            rw [decide_eq_true w7.2]
            walk_at "rds"
            refine ⟨ty_lst I.f.ls, ?_⟩
            walk_at "rds"
            refine ⟨_, _, _, _, _, rfl, npos, by have := I.n24; omega, by omega, I.f.D, fun G5 l5 gp hl5 D5 b5 m5 n5 => ?_⟩
            replace I := I.draw D5 b5
            walk_at "rds"
            refine ⟨len_ok rfl, fun t ht => ?_⟩
            have nt := I.f.off ht
            replace I := I.neu (o := .tup [.str "open", .int gp]) ht
            have et : upd G5 t (.tup [.str "open", .int gp]) t = some (.tup [.str "open", .int gp]) := upd_same
            generalize upd G5 t _ = G6 at I et
            walk_at "rds"
            refine r_append I.f.ls (by rw [I.f.ds.len]; exact small I.l) ?_
            have J := I.push et nt (by decide) (fits_open m5 (.inl n5)) (by rw [behind_open]; have := I.n2; omega)
            rw [behind_open] at J
            walk_at "rds"
            exact ⟨p, _, _, _, l5, _, _, rfl, by omega, J⟩
          · have skip : ∀ {T : Prop}, T → T := fun t => t
            have go : ∀ {A B : TS} {D : Ends} {σ : L2.St}, tIfS (tAnd (tTest (tOp (rI0 fun i j => V.bl (decide (i < j))) (tVar 6) (tC (V.int 7)))) (tTest (tOp (rI0 fun i j => V.bl (decide (i < j))) (tVar 4) (tC (V.int 18))))) A B D σ G2 = (tIfS (tAnd (tTest (tOp (rI0 fun i j => V.bl (decide (i < j))) (tVar 6) (tC (V.int 7)))) (tTest (tOp (rI0 fun i j => V.bl (decide (i < j))) (tVar 4) (tC (V.int 18))))) A B D σ G2) := rfl
            clear skip go
            have tail : ∀ (Z : Prop), Z → Z := fun _ z => z
            clear tail
            by_cases w7a : way < 7
            · rw [decide_eq_true w7a]
              walk_at "rds"
              rw [decide_eq_false (show ¬ n < 18 from fun z => w7 ⟨w7a, z⟩)]
              walk_at "rds"
              refine ⟨rfl, ?_⟩
              rw [decide_eq_false (fun z => absurd (V.int.inj z) (by omega))]
              walk_at "rds"
              rw [decide_eq_false (show ¬ 7 < way by omega)]
              walk_at "rds"
              exact ⟨p, _, _, _, l2, _, _, rfl, by omega, I.up (Nat.le_succ i)⟩
            · rw [decide_eq_false w7a]
              walk_at "rds"
              refine ⟨rfl, ?_⟩
              by_cases w8 : way = 7
              · rw [decide_eq_true (congrArg V.int w8)]
                walk_at "rds"
                refine ⟨ty_lst I.f.ls, ?_⟩
                walk_at "rds"
                refine ⟨_, _, _, _, _, rfl, npos, by have := I.n24; omega, by omega, I.f.D, fun G5 l5 gp hl5 D5 b5 m5 n5 => ?_⟩
                replace I := I.draw D5 b5
                walk_at "rds"
                refine ⟨len_ok rfl, fun t ht => ?_⟩
                have nt := I.f.off ht
                replace I := I.neu (o := .tup [.str "turn", .int gp]) ht
                have et : upd G5 t (.tup [.str "turn", .int gp]) t = some (.tup [.str "turn", .int gp]) := upd_same
                generalize upd G5 t _ = G6 at I et
                walk_at "rds"
                refine r_append I.f.ls (by rw [I.f.ds.len]; exact small I.l) ?_
                have J := I.push et nt (by decide) (fits_cross (.inr (.inr rfl)) m5 n5) (by rw [behind_cross (.inr (.inr rfl))]; exact I.n24)
                rw [behind_cross (.inr (.inr rfl))] at J
                walk_at "rds"
                exact ⟨p, _, _, _, l5, _, _, rfl, by omega, J⟩
              · rw [decide_eq_false (fun z => w8 (V.int.inj z))]
                walk_at "rds"
                rw [decide_eq_true (show 7 < way by omega)]
                walk_at "rds"
                refine ⟨ty_lst I.f.ls, ?_⟩
                walk_at "rds"
                refine ⟨_, _, rfl, ?_⟩
                refine ⟨_, _, _, _, _, rfl, by split <;> omega, by have := I.n24; split <;> omega, by omega, I.f.D, fun G5 l5 gp hl5 D5 b5 m5 n5 => ?_⟩
                replace I := I.draw D5 b5
                walk_at "rds"
                refine ⟨len_ok rfl, fun t ht => ?_⟩
                have nt := I.f.off ht
                replace I := I.neu (o := .tup [.str "join", .int (1 + gp)]) ht
                have et : upd G5 t (.tup [.str "join", .int (1 + gp)]) t = some (.tup [.str "join", .int (1 + gp)]) := upd_same
                generalize upd G5 t _ = G6 at I et
                walk_at "rds"
                refine r_append I.f.ls (by rw [I.f.ds.len]; exact small I.l) ?_
                have J := I.push et nt (by decide) (fits_join ntwo (by omega) (by split at n5 <;> omega)) (by rw [behind_join]; have := I.n24; omega)
                rw [behind_join] at J
                walk_at "rds"
                exact ⟨p, _, _, _, l5, _, _, rfl, by omega, J⟩
    · rintro σ G ⟨p, us, ds, n, l, x, y, rfl, hl, I⟩
      refine r_while ?_
      refine ⟨fun mm σ G => ∃ (us : List V) (ds : Dl) (n : Int) (l : Nat), σ = [some (.ref q), some (.int m), some (.int most), some (.ref p), some (.int n), x, y] ∧ mm = n.toNat ∧ l + n.toNat ≤ lap + 400 ∧ 2 * ds.length + n.toNat ≤ 2 * most.toNat + 24 ∧ FI q c ns H G l p us ds m n 200, ⟨_, us, ds, n, l, rfl, rfl, ?_, ?_, I.up (by omega)⟩, ?_⟩
      · have := I.n24; omega
      · have := I.n24; have := I.l; omega
      · rintro mm σ G ⟨us, ds, n, l, rfl, rfl, hl, hd, I⟩
        walk_at "rds"
        by_cases e0 : 0 < n
        · rw [decide_eq_true e0]
          have ntwo : 2 ≤ n := by have := I.n2; omega
          walk_at "rds"
          refine ⟨fun σ' G' => ∃ (us : List V) (ds : Dl) (l : Nat), σ' = [some (.ref q), some (.int m), some (.int most), some (.ref p), some (.int (n - 2)), x, y] ∧ l + (n - 2).toNat ≤ lap + 400 ∧ 2 * ds.length + (n - 2).toNat ≤ 2 * most.toNat + 24 ∧ FI q c ns H G' l p us ds m (n - 2) 200, ?_, ?_⟩
          · rintro σ' G' ⟨us, ds, l, e, h1, h2, J⟩
            exact ⟨_, by omega, us, ds, n - 2, l, e, rfl, h1, h2, J⟩
          walk_at "rds"
          refine ⟨ty_lst I.f.ls, ?_⟩
          walk_at "rds"
          refine ⟨_, _, rfl, ?_⟩
          refine ⟨_, _, _, _, _, rfl, by split <;> omega, by have := I.n24; split <;> omega, by omega, I.f.D, fun G5 l5 gp hl5 D5 b5 m5 n5 => ?_⟩
          replace I := I.draw D5 b5
          walk_at "rds"
          refine ⟨len_ok rfl, fun t ht => ?_⟩
          have nt := I.f.off ht
          replace I := I.neu (o := .tup [.str "join", .int (1 + gp)]) ht
          have et : upd G5 t (.tup [.str "join", .int (1 + gp)]) t = some (.tup [.str "join", .int (1 + gp)]) := upd_same
          generalize upd G5 t _ = G6 at I et
          walk_at "rds"
          refine r_append I.f.ls (by rw [I.f.ds.len]; exact Nat.lt_of_lt_of_le (show ds.length < 200 by omega) big200) ?_
          have J := I.push et nt (by decide) (fits_join ntwo (by omega) (by split at n5 <;> omega)) (by rw [behind_join]; have := I.n24; omega)
          rw [behind_join] at J
          walk_at "rds"
          exact ⟨_, _, l5, rfl, by omega, by rw [List.length_append]; show 2 * (ds.length + 1) + _ ≤ _; omega, { J with l := by rw [List.length_append]; show ds.length + 1 ≤ 200; omega }⟩
        · rw [decide_eq_false e0]
          have n0 : n = 0 := by have := I.n0; omega
          subst n0
          walk_at "rds"
          exact k _ l p us ds (by omega) I.f.D I.f.B I.f.hp I.f.np I.f.ls I.f.ds I.t (by omega) I.r
end
end K25
namespace K25
open PySem PySem.Spec PyProof.Rows L2 Rp LamX RZ

theorem r_par3F {i j l : Nat} {ta : TA} {D : Ends} {σ : L2.St} {H : Hp} (h : ta σ H fun vs H1 => ∃ u v w, vs = [u, v, w] ∧ D.nx (((σ.set i (some u)).set j (some v)).set l (some w)) H1) : tPar3 i j l ta D σ H := h
def PrN (H : Hp) (qs : List Addr) (ps : Prs) : Prop := qs.length = ps.length ∧ ∀ (i : Nat) (t : Addr) (p : Nat × Nat), qs[i]? = some t → ps[i]? = some p → H t = some (.tup (nv [p.1, p.2]))
theorem PrN.keep {H G : Hp} {qs : List Addr} {ps : Prs} (h : PrN H qs ps) (k : ∀ b xs, H b = some (.tup xs) → G b = some (.tup xs)) : PrN G qs ps := ⟨h.1, fun i t p e1 e2 => k _ _ (h.2 i t p e1 e2)⟩
theorem CrT.keep {H G : Hp} {cs : List Addr} {l : List (Str × List Nat)} (h : CrT H cs l) (k : ∀ b xs, H b = some (.tup xs) → G b = some (.tup xs)) : CrT G cs l := ⟨h.1, fun i t e e1 e2 => k _ _ (h.2 i t e e1 e2)⟩
theorem PrN.snoc {H : Hp} {qs : List Addr} {ps : Prs} {t : Addr} {p : Nat × Nat} (h : PrN H qs ps) (e : H t = some (.tup (nv [p.1, p.2]))) : PrN H (qs ++ [t]) (ps ++ [p]) := by
  refine ⟨by rw [List.length_append, List.length_append, h.1]; rfl, fun i b y e3 e4 => ?_⟩
  rcases snoc_at e3 with ⟨q1, q2⟩ | ⟨q1, rfl⟩
  · rw [List.getElem?_append_left (by rw [← h.1]; exact q1)] at e4
    exact h.2 i b y q2 e4
  · rw [q1, h.1, List.getElem?_append_right (Nat.le_refl _), Nat.sub_self] at e4
    cases e4
    exact e
theorem CrT.snoc {H : Hp} {cs : List Addr} {l : List (Str × List Nat)} {t : Addr} {z : Str × List Nat} (h : CrT H cs l) (e : H t = some (.tup (.str z.1 :: nv z.2))) : CrT H (cs ++ [t]) (l ++ [z]) := by
  refine ⟨by rw [List.length_append, List.length_append, h.1]; rfl, fun i b y e3 e4 => ?_⟩
  rcases snoc_at e3 with ⟨q1, q2⟩ | ⟨q1, rfl⟩
  · rw [List.getElem?_append_left (by rw [← h.1]; exact q1)] at e4
    exact h.2 i b y q2 e4
  · rw [q1, h.1, List.getElem?_append_right (Nat.le_refl _), Nat.sub_self] at e4
    cases e4
    exact e
/-- what the law has laid so far -/
structure LF (H0 G : Hp) (r pp cc rr : Addr) (ring : List Nat) (rings : List (List Nat)) (crs : List (Str × List Nat)) (ps : Prs) (as cs qs : List Addr) : Prop where
  s : Same H0 G
  fp : H0 pp = none
  fc : H0 cc = none
  fr : H0 rr = none
  er : G r = some (.lst (nv ring))
  ep : G pp = some (.lst (qs.map V.ref))
  ec : G cc = some (.lst (cs.map V.ref))
  es : G rr = some (.lst (as.map V.ref))
  ls : LstN G as rings
  cr : CrT G cs crs
  pr : PrN G qs ps
  npc : pp ≠ cc
  npr : pp ≠ rr
  ncr : cc ≠ rr
  nrp : r ≠ pp
  nrc : r ≠ cc
  nrr : r ≠ rr
  nas : ∀ a ∈ as, a ≠ pp ∧ a ≠ cc ∧ a ≠ rr
theorem LF.same {H0 G G' : Hp} {r pp cc rr : Addr} {ring : List Nat} {rings : List (List Nat)} {crs : List (Str × List Nat)} {ps : Prs} {as cs qs : List Addr} (L : LF H0 G r pp cc rr ring rings crs ps as cs qs) (s : Same G G') : LF H0 G' r pp cc rr ring rings crs ps as cs qs :=
  { L with s := L.s.trans s, er := s _ _ L.er, ep := s _ _ L.ep, ec := s _ _ L.ec, es := s _ _ L.es, ls := L.ls.keep fun _ _ _ e => s _ _ e, cr := L.cr.keep fun _ _ e => s _ _ e, pr := L.pr.keep fun _ _ e => s _ _ e }
theorem LF.ring {H0 G : Hp} {r r' pp cc rr : Addr} {ring ring' : List Nat} {rings : List (List Nat)} {crs : List (Str × List Nat)} {ps : Prs} {as cs qs : List Addr} (L : LF H0 G r pp cc rr ring rings crs ps as cs qs) (e : G r' = some (.lst (nv ring'))) (n1 : r' ≠ pp) (n2 : r' ≠ cc) (n3 : r' ≠ rr) : LF H0 G r' pp cc rr ring' rings crs ps as cs qs :=
  { L with er := e, nrp := n1, nrc := n2, nrr := n3 }
theorem LF.pair {H0 G : Hp} {r pp cc rr t : Addr} {ring : List Nat} {rings : List (List Nat)} {crs : List (Str × List Nat)} {ps : Prs} {as cs qs : List Addr} {p : Nat × Nat} (L : LF H0 G r pp cc rr ring rings crs ps as cs qs) (e : G t = some (.tup (nv [p.1, p.2]))) : LF H0 (upd G pp (.lst (qs.map V.ref ++ [.ref t]))) r pp cc rr ring rings crs (ps ++ [p]) as cs (qs ++ [t]) := by
  have nt : ∀ {b xs}, G b = some (.tup xs) → b ≠ pp := fun e => ne_of e L.ep (fun z => by cases z)
  exact { L with
    s := fun b u e => upd_keep (fun z => by rw [z, L.fp] at e; cases e) (L.s b u e), er := upd_keep L.nrp L.er, ep := by rw [upd_same, List.map_append]; rfl, ec := upd_keep L.npc.symm L.ec, es := upd_keep L.npr.symm L.es,
    ls := L.ls.keep fun a m xs e => upd_keep (L.nas a m).1 e, cr := L.cr.keep fun b xs e => upd_keep (nt e) e, pr := (L.pr.keep fun b xs e => upd_keep (nt e) e).snoc (upd_keep (nt e) e) }
theorem LF.cross {H0 G : Hp} {r pp cc rr t : Addr} {ring : List Nat} {rings : List (List Nat)} {crs : List (Str × List Nat)} {ps : Prs} {as cs qs : List Addr} {z : Str × List Nat} (L : LF H0 G r pp cc rr ring rings crs ps as cs qs) (e : G t = some (.tup (.str z.1 :: nv z.2))) : LF H0 (upd G cc (.lst (cs.map V.ref ++ [.ref t]))) r pp cc rr ring rings (crs ++ [z]) ps as (cs ++ [t]) qs := by
  have nt : ∀ {b xs}, G b = some (.tup xs) → b ≠ cc := fun e => ne_of e L.ec (fun z => by cases z)
  exact { L with
    s := fun b u e => upd_keep (fun z => by rw [z, L.fc] at e; cases e) (L.s b u e), er := upd_keep L.nrc L.er, ec := by rw [upd_same, List.map_append]; rfl, ep := upd_keep L.npc L.ep, es := upd_keep L.ncr.symm L.es,
    ls := L.ls.keep fun a m xs e => upd_keep (L.nas a m).2.1 e, pr := L.pr.keep fun b xs e => upd_keep (nt e) e, cr := (L.cr.keep fun b xs e => upd_keep (nt e) e).snoc (upd_keep (nt e) e) }
theorem LF.rings {H0 G : Hp} {r pp cc rr : Addr} {ring : List Nat} {rings : List (List Nat)} {crs : List (Str × List Nat)} {ps : Prs} {as cs qs : List Addr} (L : LF H0 G r pp cc rr ring rings crs ps as cs qs) : LF H0 (upd G rr (.lst (as.map V.ref ++ [.ref r]))) r pp cc rr ring (rings ++ [ring]) crs ps (as ++ [r]) cs qs := by
  have nt : ∀ {b xs}, G b = some (.tup xs) → b ≠ rr := fun e => ne_of e L.es (fun z => by cases z)
  exact { L with
    s := fun b u e => upd_keep (fun z => by rw [z, L.fr] at e; cases e) (L.s b u e), er := upd_keep L.nrr L.er, es := by rw [upd_same, List.map_append]; rfl, ep := upd_keep L.npr L.ep, ec := upd_keep L.ncr L.ec,
    ls := (L.ls.keep fun a m xs e => upd_keep (L.nas a m).2.2 e).snoc (upd_keep L.nrr L.er), cr := L.cr.keep fun b xs e => upd_keep (nt e) e, pr := L.pr.keep fun b xs e => upd_keep (nt e) e,
    nas := fun a m => (List.mem_append.mp m).elim (L.nas a) fun m => by rw [List.mem_singleton.mp m]; exact ⟨L.nrp, L.nrc, L.nrr⟩ }
theorem in_cross {w : Str} : inV (.str w) [.str "over", .str "under"] = isCr w := by
  show (((("over" : Str) == w)) || ((("under" : Str) == w) || false)) = (decide (w = "over") || decide (w = "under"))
  rw [Bool.or_false]
  congr 1 <;> (rw [Bool.eq_iff_iff, beq_iff_eq, decide_eq_true_iff]; exact eq_comm)
theorem mod_prevN {n g : Nat} (h : g < n) : ((g : Int) + (n : Int) - 1).fmod (n : Int) = ((prevN n g : Nat) : Int) := by
  rw [Int.fmod_eq_emod_of_nonneg _ (by omega)]
  unfold prevN
  by_cases e : g = 0
  · rw [if_pos e, e, Int.emod_eq_of_lt (by omega) (by omega)]
    omega
  · rw [if_neg e, show (g : Int) + (n : Int) - 1 = ((g - 1 : Nat) : Int) + (n : Int) by omega, Int.add_emod_right, Int.emod_eq_of_lt (by omega) (by omega)]
def spLawFloor (K : PySem.W.Frag) : Sp := fun vs H Q _ => ∃ (q a : Addr) (us : List V) (ds : Dl) (m n : Int), vs = [.int m, .ref a] ∧ H a = some (.lst us) ∧ DsV q H us ds ∧ Typ 24 ds ∧ ds.length ≤ 800 ∧ 0 ≤ m ∧ m ≤ 24 ∧ m % 2 = 0 ∧ runD ds m = some n ∧
  ∀ H' p ps pc as cs, Same H H' → H' p = some (.tup [.int (totF (floorFR m ds) : Nat), .ref ps, .ref pc]) → H' ps = some (.tup (as.map V.ref)) → TupRw H' as ((ringsF (floorFR m ds)).map nvI) → H' pc = some (.tup (cs.map V.ref)) → CrT H' cs (crsF (floorFR m ds)) → Q (.ref p) H'
theorem relax_list {F : Nat → Nat} {n a b : Nat} (ha : a < n) (hb : b < n) : (((List.range n).map F).set a (min (F a) (F b))).set b (min (F a) (F b)) = (List.range n).map (relax F (a, b)) := by
  refine List.ext_getElem? fun x => ?_
  rw [List.getElem?_set, List.getElem?_set, List.getElem?_map, List.getElem?_map, List.length_set, List.length_map, List.length_range]
  unfold relax
  by_cases hx : x < n
  · rw [List.getElem?_range hx]
    simp only [Option.map_some]
    by_cases e1 : b = x
    · subst e1
      rw [if_pos rfl, if_pos hb, if_pos (.inr rfl)]
    · rw [if_neg e1]
      by_cases e2 : a = x
      · subst e2
        rw [if_pos rfl, if_pos ha, if_pos (.inl rfl)]
      · rw [if_neg e2, if_neg (fun z => z.elim (fun z => e2 z.symm) (fun z => e1 z.symm))]
  · rw [List.getElem?_eq_none (by rw [List.length_range]; omega), if_neg (by omega), if_neg (by omega)]
    rfl
theorem roundF_take {ps : Prs} {L : Nat → Nat} {i : Nat} {p : Nat × Nat} (e : ps[i]? = some p) : roundF (ps.take (i + 1)) L = relax (roundF (ps.take i) L) p := by
  unfold roundF
  rw [List.take_succ, e, Option.toList_some, List.foldl_append]
  rfl
theorem nvmap_at {F : Nat → Nat} {n p : Nat} (h : p < n) : atI (nv ((List.range n).map F)) (p : Int) = some (.int ((F p : Nat) : Int)) := atI_nat (by
  rw [List.getElem?_map, List.getElem?_map, List.getElem?_range h]
  rfl)
theorem min_if {a b : Nat} : (if ((b : Nat) : Int) < ((a : Nat) : Int) then ((b : Nat) : Int) else ((a : Nat) : Int)) = ((min a b : Nat) : Int) := by split <;> omega
theorem flat_nv : ∀ xs : List Nat, (nv xs).all flatV = true
  | [] => rfl
  | x :: xs => flat_nv xs

theorem rg_nv {n : Nat} : rgV 0 ((n : Nat) : Int) = nv (List.range n) := by
  unfold rgV nv
  rw [show (((n : Nat) : Int) - 0).toNat = n by omega]
  exact List.map_congr_left fun i _ => by rw [Int.zero_add]
theorem drop_one {r : List Nat} {g : Nat} (h : g < r.length) : [r.getD g 0] ++ r.drop (g + 1) = r.drop g := by
  rw [List.drop_eq_getElem_cons h, List.getD_eq_getElem?_getD, List.getElem?_eq_getElem h]
  rfl
/-- a list that is none of these -/
structure NF (lb r pp cc rr : Addr) (as : List Addr) (H0 : Hp) : Prop where
  f : H0 lb = none
  r : r ≠ lb
  p : pp ≠ lb
  c : cc ≠ lb
  s : rr ≠ lb
  as : ∀ a ∈ as, a ≠ lb
theorem LF.new {H0 G : Hp} {r pp cc rr lb : Addr} {ring : List Nat} {rings : List (List Nat)} {crs : List (Str × List Nat)} {ps : Prs} {as cs qs : List Addr} (L : LF H0 G r pp cc rr ring rings crs ps as cs qs) (h : G lb = none) : NF lb r pp cc rr as H0 :=
  ⟨L.s.free h, ne_of_none L.er h, ne_of_none L.ep h, ne_of_none L.ec h, ne_of_none L.es h, fun a m => by
    obtain ⟨i, hi⟩ := List.mem_iff_getElem?.mp m
    obtain ⟨xs, _, e⟩ := L.ls.at hi
    exact ne_of_none e h⟩
/-- but for a new list -/
theorem LF.but {H0 G G' : Hp} {r pp cc rr lb : Addr} {ring : List Nat} {rings : List (List Nat)} {crs : List (Str × List Nat)} {ps : Prs} {as cs qs : List Addr} {us : List V} (L : LF H0 G r pp cc rr ring rings crs ps as cs qs) (b : But lb G G') (e : G lb = some (.lst us)) (f : NF lb r pp cc rr as H0) : LF H0 G' r pp cc rr ring rings crs ps as cs qs :=
  { L with s := fun a u e => b _ _ (fun z => by rw [z, f.f] at e; cases e) (L.s a u e), er := b _ _ f.r L.er, ep := b _ _ f.p L.ep, ec := b _ _ f.c L.ec, es := b _ _ f.s L.es, ls := L.ls.keep fun a m xs e => b _ _ (f.as a m) e, cr := L.cr.keep fun a xs z => b _ _ (ne_of z e (fun z => by cases z)) z, pr := L.pr.keep fun a xs z => b _ _ (ne_of z e (fun z => by cases z)) z }

section
variable {P : Program} {w : World} {K : PySem.W.Frag} {mg : Str → Option Value} {base : Heap} {ad : Ad}
abbrev sLawFloor : Stmt := top 42
theorem scLawFloor : FnScope ["ends", "deeds", "many", "pairs", "crossings", "ring", "rings", "word", "gap", "size", "labels", "turn", "one", "other", "low", "kept", "names", "told", "label", "each"] ["ends", "deeds"] (defScope sLawFloor) := ⟨rfl, rfl, rfl, by decide +kernel, rfl, by decide +kernel, by decide +kernel⟩
theorem ok_LawFloor {f : Addr} {fd : FuncData} (F : Fun K "_law_floor" "_law_floor" sLawFloor f fd) (T : Txt K mg ad) (hM : HasMods base)   : FnG P w K mg base 1 f fd ["ends", "deeds"] (spLawFloor K) := by
  refine fng F scLawFloor (fun {vs H Q E} h => ?_) (fun {cdv A fr s H vs Q E} hg hr h => ?_)
  · obtain ⟨q, a, us, ds, m, n, rfl, ha, hds, ht, hl8, h0, h24, h2, hr0, k⟩ := h
    rfl
  · obtain ⟨q, a, us, ds, m, n, rfl, ha, hds, ht, hl8, h0, h24, h2, hr0, k⟩ := h
    refine ⟨_, (pss_cons (ps_par3 (i := 2) (j := 3) (l := 4) (by rfl) scLawFloor.nd rfl rfl rfl (by decide) (by decide) (by decide) rfl rfl rfl (pa_cons (pe_callB (call_max2 rfl) (by rfl) T.z_max (by decide +kernel) (pa_cons pe_int (pa_cons (pv 0) pa_nil))) (pa_cons (pe_lst pa_nil) (pa_cons (pe_lst pa_nil) pa_nil))) (by rfl))
  (pss_cons (ps_set (i := 5) scLawFloor.nd rfl (Or.inl rfl) (pe_listRg rfl (by rfl) T.z_list (prg_1 (by rfl) T.z_range (pv 2))))
  (pss_cons (ps_set (i := 6) scLawFloor.nd rfl (Or.inl rfl) (pe_lst (pa_cons (pv 5) pa_nil)))
  (pss_cons (ps_for PassesOwn.never rfl (pi_list (pv 1)) (pg_tup rfl (pgs_cons (pg_name (i := 7) scLawFloor.nd rfl (Or.inl rfl)) (pgs_cons (pg_name (i := 8) scLawFloor.nd rfl (Or.inl rfl)) pgs_nil)))
  (pss_cons (ps_set (i := 9) scLawFloor.nd rfl (Or.inl rfl) (pe_callB call_len_seq (by rfl) T.z_len PySem.boot_len (pa_cons (pv 5) pa_nil)))
  (pss_cons (ps_if (pt_cmpR op_in_seq (pv 7) (pe_tup (pa_cons pe_str (pa_cons pe_str pa_nil))) rfl)
  (pss_cons (ps_expr (pe_bm PySem.F.plainAttrs_list PySem.F.slot_list_append PySem.F.type_list_append mt_append (pv 4) (pa_cons (pe_tup (pa_cons (pv 7) (pa_cons (pe_ix ix_list (pv 5) (pe_op op_modN (pe_callTy call_int1 (by rfl) T.z_int (by decide +kernel) (pa_cons (pe_op op_sub (pe_op op_add (pv 8) (pv 9)) pe_int) pa_nil)) (pv 9)) (fun _ _ => rfl)) (pa_cons (pe_ix ix_list (pv 5) (pv 8) (fun _ _ => rfl)) (pa_cons (pe_ix ix_list (pv 5) (pe_op op_modN (pe_callTy call_int1 (by rfl) T.z_int (by decide +kernel) (pa_cons (pe_op op_add (pv 8) pe_int) pa_nil)) (pv 9)) (fun _ _ => rfl)) (pa_cons (pv 2) pa_nil)))))) pa_nil)))
  (pss_one (ps_par (i := 5) (j := 2) (by rfl) scLawFloor.nd rfl rfl (by decide) rfl rfl (pa_cons (pe_op op_cat (pe_op op_cat (pe_slice sl_list (pv 5) po_none (po_some (pv 8))) (pe_lst (pa_cons (pv 2) pa_nil))) (pe_slice sl_list (pv 5) (po_some (pe_op op_add (pv 8) pe_int)) po_none)) (pa_cons (pe_op op_add (pv 2) pe_int) pa_nil)) (by rfl))))
  (pss_one (ps_if (pt_cmpR op_eq (pv 7) pe_str (nomark _))
  (pss_cons (ps_if (pt_cmpR op_gt (pv 9) pe_int (nomark _))
  (pss_one (ps_expr (pe_bm PySem.F.plainAttrs_list PySem.F.slot_list_append PySem.F.type_list_append mt_append (pv 3) (pa_cons (pe_tup (pa_cons (pe_ix ix_list (pv 5) (pe_op op_sub (pv 8) pe_int) (fun _ _ => rfl)) (pa_cons (pe_ix ix_list (pv 5) (pe_op op_add (pv 8) pe_int) (fun _ _ => rfl)) pa_nil))) pa_nil))))
  pss_nil)
  (pss_one (ps_set (i := 5) scLawFloor.nd rfl (Or.inl rfl) (pe_op op_cat (pe_slice sl_list (pv 5) po_none (po_some (pv 8))) (pe_slice sl_list (pv 5) (po_some (pe_op op_add (pv 8) pe_int)) po_none)))))
  (pss_one (ps_if (pt_cmpR op_eq (pv 7) pe_str (nomark _))
  (pss_one (ps_par (i := 5) (j := 2) (by rfl) scLawFloor.nd rfl rfl (by decide) rfl rfl (pa_cons (pe_op op_cat (pe_op op_cat (pe_slice sl_list (pv 5) po_none (po_some (pe_op op_add (pv 8) pe_int))) (pe_lst (pa_cons (pv 2) pa_nil))) (pe_ifExp (pt_cmpR op_gt (pv 9) pe_int (nomark _)) (pe_slice sl_list (pv 5) (po_some (pv 8)) po_none) (pe_lst pa_nil))) (pa_cons (pe_op op_add (pv 2) pe_int) pa_nil)) (by rfl)))
  (pss_one (ps_set (i := 5) scLawFloor.nd rfl (Or.inl rfl) (pe_op op_cat (pe_slice sl_list (pv 5) (po_some (pv 8)) po_none) (pe_slice sl_list (pv 5) po_none (po_some (pv 8)))))))))))
  (pss_one (ps_expr (pe_bm PySem.F.plainAttrs_list PySem.F.slot_list_append PySem.F.type_list_append mt_append (pv 6) (pa_cons (pv 5) pa_nil)))))))
  (pss_cons (ps_set (i := 10) scLawFloor.nd rfl (Or.inl rfl) (pe_listRg rfl (by rfl) T.z_list (prg_1 (by rfl) T.z_range (pv 2))))
  (pss_cons (ps_for PassesOwn.never rfl (pi_range1 (by rfl) T.z_range (pa_cons (pe_callB call_len_seq (by rfl) T.z_len PySem.boot_len (pa_cons (pv 3) pa_nil)) pa_nil)) (pg_name (i := 11) scLawFloor.nd rfl (Or.inl rfl))
  (pss_one (ps_for PassesOwn.never rfl (pi_list (pv 3)) (pg_tup rfl (pgs_cons (pg_name (i := 12) scLawFloor.nd rfl (Or.inl rfl)) (pgs_cons (pg_name (i := 13) scLawFloor.nd rfl (Or.inl rfl)) pgs_nil)))
  (pss_cons (ps_set (i := 14) scLawFloor.nd rfl (Or.inl rfl) (pe_callB (call_min2 rfl) (by rfl) T.z_min (by decide +kernel) (pa_cons (pe_ix ix_list (pv 10) (pv 12) (fun _ _ => rfl)) (pa_cons (pe_ix ix_list (pv 10) (pv 13) (fun _ _ => rfl)) pa_nil))))
  (pss_one (ps_asg (pe_tup (pa_cons (pv 14) (pa_cons (pv 14) pa_nil))) (pg_tup rfl (pgs_cons (pg_sub (pv 10) (pv 12) set_list) (pgs_cons (pg_sub (pv 10) (pv 13) set_list) pgs_nil)))))))))
  (pss_cons (ps_set (i := 15) scLawFloor.nd rfl (Or.inr rfl) (pe_sortSet rfl (by rfl) T.z_sorted (by rfl) T.z_set (pv 10)))
  (pss_cons (ps_set (i := 16) scLawFloor.nd rfl (Or.inr rfl) (pe_lc (own := [("label", 18)]) (g := gName 18) (tt := tYes) (te := (tBM K "list" (rIndex K) (tVar 15) (tCons (tVar 18) tNil))) rfl scLawFloor.nd (pi_list (pv 10)) (blkOk_by (own := [("label", 18)]) (N := ["ends", "deeds", "many", "pairs", "crossings", "ring", "rings", "word", "gap", "size", "labels", "turn", "one", "other", "low", "kept", "names", "told", "label", "each"]) (sc := defScope sLawFloor) (by decide +kernel)) (fun _ _ _ _ _ => (pg_name (i := 18) scLawFloor.nd rfl (Or.inl rfl))) (fun _ _ _ _ _ => pts_nil) (fun _ _ _ _ _ => (pe_bm PySem.F.plainAttrs_list PySem.F.slot_list_index PySem.F.type_list_index mt_index (pv 15) (pa_cons (pv 18) pa_nil)))))
  (pss_cons (ps_setLc (i := 17) (own := [("each", 19)]) (g := gName 19) (tt := tYes) (te := (tCB (rTupOf K) (tCons (tLc (iList K (tVar 19)) (gName 8) tYes (tOp (rIxL K) (tVar 16) (tVar 8)) [8]) tNil))) rfl scLawFloor.nd rfl rfl (sw_true rfl rfl rfl (by decide +kernel)) (pi_list (pv 6)) (blkOk_by (own := [("each", 19)]) (N := ["ends", "deeds", "many", "pairs", "crossings", "ring", "rings", "word", "gap", "size", "labels", "turn", "one", "other", "low", "kept", "names", "told", "label", "each"]) (sc := defScope sLawFloor) (by decide +kernel)) (fun _ _ _ _ _ => (pg_name (i := 19) scLawFloor.nd rfl (Or.inl rfl))) (fun _ _ _ _ _ => pts_nil) (fun _ _ _ _ _ => (pe_callTy call_tupK (by rfl) T.z_tuple (by decide +kernel) (pa_cons (pe_lc (own := [("gap", 8)]) (g := gName 8) (tt := tYes) (te := (tOp (rIxL K) (tVar 16) (tVar 8))) rfl scLawFloor.nd (pi_list (pv 19)) (blkOk_by (own := [("gap", 8)]) (N := ["ends", "deeds", "many", "pairs", "crossings", "ring", "rings", "word", "gap", "size", "labels", "turn", "one", "other", "low", "kept", "names", "told", "label", "each"]) (sc := ({ kind := .function, names := [(".0", .local), ("each", .local), ("tuple", .globalImplicit), ("names", .cell)], isGenerator := false, isCoroutine := false, more := [] } : Scope)) (by decide +kernel)) (fun _ _ _ _ _ => (pg_name (i := 8) scLawFloor.nd rfl (Or.inl rfl))) (fun _ _ _ _ _ => pts_nil) (fun _ _ _ _ _ => (pe_ix ix_list (pv 16) (pv 8) (fun _ _ => rfl)))) pa_nil))))
  (pss_one (ps_ret (pe_tup (pa_cons (pe_callB call_len_seq (by rfl) T.z_len PySem.boot_len (pa_cons (pv 15) pa_nil)) (pa_cons (pe_callTy call_tupK (by rfl) T.z_tuple (by decide +kernel) (pa_cons (pv 17) pa_nil)) (pa_cons (pe_callTy call_tupK (by rfl) T.z_tuple (by decide +kernel) (pa_cons (pe_lc (own := [("each", 19)]) (g := gName 19) (tt := tYes) (te := (tTup (tCons (tOp (rIxT K) (tVar 19) (tC (.int 0))) (tCons (tOp (rIxL K) (tVar 16) (tOp (rIxT K) (tVar 19) (tC (.int 1)))) (tCons (tOp (rIxL K) (tVar 16) (tOp (rIxT K) (tVar 19) (tC (.int 2)))) (tCons (tOp (rIxL K) (tVar 16) (tOp (rIxT K) (tVar 19) (tC (.int 3)))) (tCons (tOp (rIxL K) (tVar 16) (tOp (rIxT K) (tVar 19) (tC (.int 4)))) tNil))))))) rfl scLawFloor.nd (pi_list (pv 4)) (blkOk_by (own := [("each", 19)]) (N := ["ends", "deeds", "many", "pairs", "crossings", "ring", "rings", "word", "gap", "size", "labels", "turn", "one", "other", "low", "kept", "names", "told", "label", "each"]) (sc := defScope sLawFloor) (by decide +kernel)) (fun _ _ _ _ _ => (pg_name (i := 19) scLawFloor.nd rfl (Or.inl rfl))) (fun _ _ _ _ _ => pts_nil) (fun _ _ _ _ _ => (pe_tup (pa_cons (pe_ix ix_tup (pv 19) pe_int (fun _ _ => rfl)) (pa_cons (pe_ix ix_list (pv 16) (pe_ix ix_tup (pv 19) pe_int (fun _ _ => rfl)) (fun _ _ => rfl)) (pa_cons (pe_ix ix_list (pv 16) (pe_ix ix_tup (pv 19) pe_int (fun _ _ => rfl)) (fun _ _ => rfl)) (pa_cons (pe_ix ix_list (pv 16) (pe_ix ix_tup (pv 19) pe_int (fun _ _ => rfl)) (fun _ _ => rfl)) (pa_cons (pe_ix ix_list (pv 16) (pe_ix ix_tup (pv 19) pe_int (fun _ _ => rfl)) (fun _ _ => rfl)) pa_nil)))))))) pa_nil)) pa_nil))))))))))))))), ?_⟩
    refine r_start (l := [some (.int m), some (.ref a), none, none, none, none, none, none, none, none, none, none, none, none, none, none, none, none, none, none]) rfl ?_
    have mx : (if m > 1 then m else 1) = ((max m.toNat 1 : Nat) : Int) := by split <;> omega
    have lsz : ∀ {k : Nat}, k ≤ 1000 → k ≤ sizeLine := fun h => Nat.le_of_lt (small1000 h)
    walk_at "rds"
    refine r_par3F ?_
    walk_at "rds"
    refine ⟨_, _, rfl, ?_⟩
    rw [mx]
    walk_at "rds"
    refine ⟨len_ok rfl, fun pp hpp => ?_⟩
    have fp := hpp
    have s0 := same_neu (Same.refl H) hpp (o := .lst [])
    have ep : upd H pp (.lst []) pp = some (.lst (([] : List Addr).map V.ref)) := upd_same
    generalize upd H pp _ = G1 at s0 ep
    walk_at "rds"
    refine ⟨len_ok rfl, fun cc hcc => ?_⟩
    have fc := s0.free hcc
    have npc : pp ≠ cc := ne_of_none ep hcc
    have s1 := same_neu s0 hcc (o := .lst [])
    have ec : upd G1 cc (.lst []) cc = some (.lst (([] : List Addr).map V.ref)) := upd_same
    replace ep := upd_keep (u := .lst []) npc ep
    generalize upd G1 cc _ = G2 at s1 ec ep
    clear s0
    refine ⟨_, _, _, rfl, ?_⟩
    walk_at "rds"
    refine ⟨_, rfl, ?_⟩
    refine ⟨⟨by decide, by decide, by omega, by omega, by omega⟩, fun r hr => ?_⟩
    rw [show rgV 0 ((max m.toNat 1 : Nat) : Int) = nv (List.range (max m.toNat 1)) from rg_nv]
    have nrp : r ≠ pp := (ne_of_none ep hr).symm
    have nrc : r ≠ cc := (ne_of_none ec hr).symm
    have s2 := same_neu s1 hr (o := .lst (nv (List.range (max m.toNat 1))))
    have er : upd G2 r (.lst (nv (List.range (max m.toNat 1)))) r = some (.lst (nv (List.range (max m.toNat 1)))) := upd_same
    replace ep := upd_keep (u := .lst (nv (List.range (max m.toNat 1)))) nrp.symm ep
    replace ec := upd_keep (u := .lst (nv (List.range (max m.toNat 1)))) nrc.symm ec
    generalize upd G2 r _ = G3 at s2 ec ep er
    clear s1 hr
    walk_at "rds"
    refine ⟨len_ok rfl, fun rr hrr => ?_⟩
    have frr := s2.free hrr
    have npr : pp ≠ rr := ne_of_none ep hrr
    have ncr : cc ≠ rr := ne_of_none ec hrr
    have nrr : r ≠ rr := ne_of_none er hrr
    have s3 := same_neu s2 hrr (o := .lst [.ref r])
    have es : upd G3 rr (.lst [.ref r]) rr = some (.lst ([r].map V.ref)) := upd_same
    replace ep := upd_keep (u := .lst [.ref r]) npr ep
    replace ec := upd_keep (u := .lst [.ref r]) ncr ec
    replace er := upd_keep (u := .lst [.ref r]) nrr er
    generalize upd G3 rr _ = G4 at s3 es ep ec er
    clear s2 hrr
    have L0 : LF H G4 r pp cc rr (beginFR m.toNat).ring (beginFR m.toNat).rings (beginFR m.toNat).crs (beginFR m.toNat).ps [r] [] [] := ⟨s3, fp, fc, frr, er, ep, ec, es, ⟨rfl, fun i a xs e1 e2 => by
      match i, e1, e2 with
      | 0, e1, e2 => cases e1; cases e2; exact er
      | _ + 1, e1, _ => simp at e1⟩, ⟨rfl, fun i t z e _ => by simp at e⟩, ⟨rfl, fun i t z e _ => by simp at e⟩, npc, npr, ncr, nrp, nrc, nrr, fun a ma => by rw [List.mem_singleton.mp ma]; exact ⟨nrp, nrc, nrr⟩⟩
    clear er ep ec es npc npr ncr nrp nrc nrr fp fc frr mx
    walk_at "rds"
    refine ⟨a, rfl, ⟨_, SqL.of (s3 _ _ ha)⟩, ?_⟩
    have lds := hds.len
    clear s3
    refine for_it (walk_list (K := K) (a := a) (xs := us)) (fun i σ G => ∃ (y7 y8 y9 : Option V) (r : Addr) (as cs qs : List Addr) (now : Int), σ = [some (.int m), some (.ref a), some (.int ((stepsFR (beginFR m.toNat) (ds.take i)).many : Nat)), some (.ref pp), some (.ref cc), some (.ref r), some (.ref rr), y7, y8, y9, none, none, none, none, none, none, none, none, none, none] ∧ runD (ds.take i) m = some now ∧ FInv m (stepsFR (beginFR m.toNat) (ds.take i)) now i ∧
      LF H G r pp cc rr (stepsFR (beginFR m.toNat) (ds.take i)).ring (stepsFR (beginFR m.toNat) (ds.take i)).rings (stepsFR (beginFR m.toNat) (ds.take i)).crs (stepsFR (beginFR m.toNat) (ds.take i)).ps as cs qs) ⟨_, _, _, r, _, _, _, m, rfl, rfl, FInv.begin h0 h24 h2, L0⟩ (fun i σ G _ h => by
      obtain ⟨_, _, _, _, _, _, _, _, _, _, _, L⟩ := h
      exact SqL.of (L.s _ _ ha)) ?_ ?_
    · clear L0
      rintro i v σ G G' hi ⟨y7, y8, y9, r, as, cs, qs, now, rfl, hrun, I, L⟩ ⟨rfl, hv⟩
      obtain ⟨t, w, g, rfl, _, et, ed⟩ := hds.at hv
      obtain ⟨n2, hn2⟩ := runD_take (i + 1) hr0
      have etk : ds.take (i + 1) = ds.take i ++ [(w, g)] := by rw [List.take_succ, ed]; rfl
      rw [etk] at hn2
      obtain ⟨fit, rfl, b24⟩ := runD_snoc hrun hn2
      obtain ⟨hw, _, _⟩ := ht.at ed
      have I2 := I.step hw fit b24
      obtain ⟨hg, hj, g0⟩ := join_gap I hw fit
      obtain ⟨gn, rfl⟩ : ∃ gn : Nat, g = (gn : Int) := ⟨g.toNat, by omega⟩
      rw [Int.toNat_natCast] at hg hj I2
      have estep : stepsFR (beginFR m.toNat) (ds.take (i + 1)) = stepFR (stepsFR (beginFR m.toNat) (ds.take i)) w gn := by rw [stepsFR_take ed, Int.toNat_natCast]
      rw [etk] at estep
      rw [etk, estep]
      generalize hf : stepsFR (beginFR m.toNat) (ds.take i) = f at *
      have hmny := I.mny
      have hrk := I.rk
      have hck := I.ck
      have hpk := I.pk
      have h24r : f.ring.length ≤ 24 := by
        have := I.len
        have := I.n24
        omega
      have la : as.length ≤ 801 := by rw [L.ls.1]; omega
      have lcs : cs.length ≤ 800 := by rw [L.cr.1]; omega
      have lqs : qs.length ≤ 800 := by rw [L.pr.1]; omega
      refine r_gtup ⟨_, _, rfl, SqT.of (L.s _ _ et), rfl, ?_⟩
      refine ⟨_, _, rfl, ?_⟩
      walk_at "rds"
      refine ⟨_, _, rfl, ?_⟩
      walk_at "rds"
      refine ⟨rfl, ?_⟩
      walk_at "rds"
      refine ⟨_, _, rfl, .inl (SqL.of L.er), ?_⟩
      rw [nv_len]
      walk_at "res"
      with_reducible refine r_cut (fun σ G => ∃ (r' : Addr) (as' cs' qs' : List Addr), σ = [some (.int m), some (.ref a), some (.int ((stepFR f w gn).many : Nat)), some (.ref pp), some (.ref cc), some (.ref r'), some (.ref rr), some (.str w), some (.int (gn : Int)), some (.int (f.ring.length : Nat)), none, none, none, none, none, none, none, none, none, none] ∧ as'.length ≤ 801 ∧ LF H G r' pp cc rr (stepFR f w gn).ring f.rings (stepFR f w gn).crs (stepFR f w gn).ps as' cs' qs') ?_ fun go => ?_
      · rintro σ G5 ⟨r', as', cs', qs', rfl, la', L5⟩
        walk_at "rds"
        refine ⟨ty_lst L5.es, ?_⟩
        walk_at "rds"
        refine r_append L5.es (by rw [List.length_map]; exact small1000 (by omega)) ?_
        walk_at "rds"
        exact ⟨_, _, _, r', _, _, _, behind w now, rfl, hn2, I2, L5.rings⟩
      walk_at "rds"
      refine ⟨len_ok rfl, fun tw htw => ?_⟩
      have ntwp := (ne_of_none L.ep htw).symm
      have ntwc := (ne_of_none L.ec htw).symm
      have ntwr := (ne_of_none L.es htw).symm
      generalize hgtw : upd G' tw _ = Gtw
      obtain ⟨stw, etw⟩ := neu2 hgtw htw
      clear hgtw htw
      replace L := L.same stw
      clear stw
      refine r_in (.inr (SqT.of etw)) rfl (by decide) ?_
      rw [in_cross]
      clear etw ntwp ntwc ntwr
      walk_at "rds"
      by_cases hc : isCr w = true
      · rw [hc]
        walk_at "rds"
        refine ⟨ty_lst L.ec, ?_⟩
        walk_at "rds"
        refine .inl ⟨_, rfl, ?_⟩
        walk_at "rds"
        refine r_I (by omega) ?_
        rw [mod_prevN hg]
        refine r_ixL (SqL.of L.er) (nv_at (prevN_lt hg)) ?_
        walk_at "rds"
        refine r_ixL (SqL.of L.er) (nv_at hg) ?_
        walk_at "rds"
        refine .inl ⟨_, rfl, ?_⟩
        walk_at "rds"
        refine r_I (by omega) ?_
        refine r_ixL (SqL.of L.er) (nv_next hg) ?_
        walk_at "rds"
        refine ⟨len_ok rfl, fun t5 ht5 => ?_⟩
        have nt5p := (ne_of_none L.ep ht5).symm
        have nt5c := (ne_of_none L.ec ht5).symm
        have nt5r := (ne_of_none L.es ht5).symm
        generalize hgt5 : upd Gtw t5 _ = Gt5
        obtain ⟨st5, et5⟩ := neu2 hgt5 ht5
        clear hgt5 ht5
        replace L := L.same st5
        clear st5
        replace et5 : Gt5 t5 = some (.tup (.str w :: nv (fourOf f.ring gn f.many))) := et5
        walk_at "rds"
        refine r_append L.ec (by rw [List.length_map]; exact small1000 (by omega)) ?_
        replace L := L.cross (z := (w, fourOf f.ring gn f.many)) et5
        clear et5 nt5p nt5c nt5r
        generalize upd Gt5 cc _ = G6 at L
        walk_at "rds"
        refine ⟨_, rfl, ?_⟩
        refine ⟨_, _, rfl, SqL.of L.er, ?_⟩
        rw [cut_loN (by omega)]
        intro k1 hk1
        have nk1p := (ne_of_none L.ep hk1).symm
        have nk1c := (ne_of_none L.ec hk1).symm
        have nk1r := (ne_of_none L.es hk1).symm
        generalize hgk1 : upd G6 k1 _ = Gk1
        obtain ⟨sk1, ek1⟩ := neu2 hgk1 hk1
        clear hgk1 hk1
        replace L := L.same sk1
        clear sk1
        walk_at "rds"
        refine ⟨len_ok rfl, fun k2 hk2 => ?_⟩
        have nk2p := (ne_of_none L.ep hk2).symm
        have nk2c := (ne_of_none L.ec hk2).symm
        have nk2r := (ne_of_none L.es hk2).symm
        generalize hgk2 : upd Gk1 k2 _ = Gk2
        obtain ⟨sk2, ek2⟩ := neu2 hgk2 hk2
        clear hgk2 hk2
        replace L := L.same sk2
        replace ek1 := sk2 _ _ ek1
        clear sk2
        replace ek2 : Gk2 k2 = some (.lst (nv [f.many])) := ek2
        refine r_cat (p := k1) ek1 ek2 (lsz (by simp only [nv_len, List.length_take, List.length_drop, List.length_append, List.length_cons, List.length_nil]; omega)) fun k3 hk3 => ?_
        have nk3p := (ne_of_none L.ep hk3).symm
        have nk3c := (ne_of_none L.ec hk3).symm
        have nk3r := (ne_of_none L.es hk3).symm
        generalize hgk3 : upd Gk2 k3 _ = Gk3
        obtain ⟨sk3, ek3⟩ := neu2 hgk3 hk3
        clear hgk3 hk3
        replace L := L.same sk3
        clear sk3
        walk_at "rds"
        refine ⟨_, rfl, ?_⟩
        refine ⟨_, _, rfl, SqL.of L.er, ?_⟩
        rw [show (gn : Int) + 1 = ((gn + 1 : Nat) : Int) by omega, cut_over]
        intro k4 hk4
        have nk4p := (ne_of_none L.ep hk4).symm
        have nk4c := (ne_of_none L.ec hk4).symm
        have nk4r := (ne_of_none L.es hk4).symm
        generalize hgk4 : upd Gk3 k4 _ = Gk4
        obtain ⟨sk4, ek4⟩ := neu2 hgk4 hk4
        clear hgk4 hk4
        replace L := L.same sk4
        replace ek3 := sk4 _ _ ek3
        clear sk4
        refine r_cat (p := k3) ek3 ek4 (lsz (by simp only [nv_len, List.length_take, List.length_drop, List.length_append, List.length_cons, List.length_nil]; omega)) fun k5 hk5 => ?_
        have nk5p := (ne_of_none L.ep hk5).symm
        have nk5c := (ne_of_none L.ec hk5).symm
        have nk5r := (ne_of_none L.es hk5).symm
        generalize hgk5 : upd Gk4 k5 _ = Gk5
        obtain ⟨sk5, ek5⟩ := neu2 hgk5 hk5
        clear hgk5 hk5
        replace L := L.same sk5
        clear sk5
        walk_at "rds"
        refine ⟨_, _, rfl, ?_⟩
        have ht : w ≠ "turn" := fun z => by rw [z] at hc; exact absurd hc (by decide)
        have hjn : w ≠ "join" := fun z => by rw [z] at hc; exact absurd hc (by decide)
        have ho : w ≠ "open" := fun z => by rw [z] at hc; exact absurd hc (by decide)
        refine go _ _ ⟨k5, as, cs ++ [t5], qs, ?_, la, ?_⟩
        · rw [show (stepFR f w gn).many = f.many + 1 from congrArg (f.many + ·) (by unfold newOf; rw [if_neg ht, if_neg hjn])]; rfl
        · rw [show (stepFR f w gn).crs = f.crs ++ [(w, fourOf f.ring gn f.many)] from if_pos hc, step_ps hjn, show (stepFR f w gn).ring = f.ring.take gn ++ [f.many] ++ f.ring.drop (gn + 1) from by show ringOf w f.ring gn f.many = _; unfold ringOf; rw [if_neg ht, if_neg hjn, if_neg ho]]
          exact L.ring (by rw [ek5, nv_app, nv_app]) nk5p nk5c nk5r
      · replace hc : isCr w = false := by simpa using hc
        have crs_ : (stepFR f w gn).crs = f.crs := if_neg (by rw [hc]; decide)
        rw [hc]
        walk_at "rds"
        by_cases hjn : w = "join"
        · rw [decide_eq_true (show (w : Str) = "join" from hjn)]
          walk_at "rds"
          obtain ⟨g1, gg⟩ := hj hjn
          have hm1 : (stepFR f w gn).many = f.many := by subst hjn; rfl
          have hr1 : (stepFR f w gn).ring = f.ring.take gn ++ f.ring.drop (gn + 2) := by subst hjn; rfl
          by_cases big : 2 < f.ring.length
          · rw [decide_eq_true (show ((f.ring.length : Nat) : Int) > 2 by omega)]
            walk_at "rds"
            refine ⟨ty_lst L.ep, ?_⟩
            walk_at "rds"
            refine r_ixL (SqL.of L.er) (show atI (nv f.ring) ((gn : Int) - 1) = some (.int ((f.ring.getD (gn - 1) 0 : Nat) : Int)) by rw [show (gn : Int) - 1 = ((gn - 1 : Nat) : Int) by omega]; exact nv_at (by omega)) ?_
            walk_at "rds"
            refine r_ixL (SqL.of L.er) (show atI (nv f.ring) ((gn : Int) + 1) = some (.int ((f.ring.getD (gn + 1) 0 : Nat) : Int)) by rw [show (gn : Int) + 1 = ((gn + 1 : Nat) : Int) by omega]; exact nv_at (by omega)) ?_
            walk_at "rds"
            refine ⟨len_ok rfl, fun t5 ht5 => ?_⟩
            have nt5p := (ne_of_none L.ep ht5).symm
            have nt5c := (ne_of_none L.ec ht5).symm
            have nt5r := (ne_of_none L.es ht5).symm
            generalize hgt5 : upd Gtw t5 _ = Gt5
            obtain ⟨st5, et5⟩ := neu2 hgt5 ht5
            clear hgt5 ht5
            replace L := L.same st5
            clear st5
            walk_at "rds"
            refine r_append L.ep (by rw [List.length_map]; exact small1000 (by omega)) ?_
            replace L := L.pair (p := (f.ring.getD (gn - 1) 0, f.ring.getD (gn + 1) 0)) et5
            clear et5 nt5p nt5c nt5r
            generalize upd Gt5 pp _ = G6 at L
            walk_at "rds"
            refine ⟨_, rfl, ?_⟩
            refine ⟨_, _, rfl, SqL.of L.er, ?_⟩
            rw [cut_loN (by omega)]
            intro k1 hk1
            have nk1p := (ne_of_none L.ep hk1).symm
            have nk1c := (ne_of_none L.ec hk1).symm
            have nk1r := (ne_of_none L.es hk1).symm
            generalize hgk1 : upd G6 k1 _ = Gk1
            obtain ⟨sk1, ek1⟩ := neu2 hgk1 hk1
            clear hgk1 hk1
            replace L := L.same sk1
            clear sk1
            walk_at "rds"
            refine ⟨_, rfl, ?_⟩
            refine ⟨_, _, rfl, SqL.of L.er, ?_⟩
            rw [show (gn : Int) + 2 = ((gn + 2 : Nat) : Int) by omega, cut_over]
            intro k2 hk2
            have nk2p := (ne_of_none L.ep hk2).symm
            have nk2c := (ne_of_none L.ec hk2).symm
            have nk2r := (ne_of_none L.es hk2).symm
            generalize hgk2 : upd Gk1 k2 _ = Gk2
            obtain ⟨sk2, ek2⟩ := neu2 hgk2 hk2
            clear hgk2 hk2
            replace L := L.same sk2
            replace ek1 := sk2 _ _ ek1
            clear sk2
            refine r_cat (p := k1) ek1 ek2 (lsz (by simp only [nv_len, List.length_take, List.length_drop, List.length_append, List.length_cons, List.length_nil]; omega)) fun k3 hk3 => ?_
            have nk3p := (ne_of_none L.ep hk3).symm
            have nk3c := (ne_of_none L.ec hk3).symm
            have nk3r := (ne_of_none L.es hk3).symm
            generalize hgk3 : upd Gk2 k3 _ = Gk3
            obtain ⟨sk3, ek3⟩ := neu2 hgk3 hk3
            clear hgk3 hk3
            replace L := L.same sk3
            clear sk3
            refine Rp.r_gname ?_
            have hps : (stepFR f w gn).ps = f.ps ++ [(f.ring.getD (gn - 1) 0, f.ring.getD (gn + 1) 0)] := if_pos ⟨hjn, big⟩
            refine go _ _ ⟨k3, as, cs, qs ++ [t5], by rw [hm1]; rfl, la, ?_⟩
            rw [crs_, hr1, hps]
            exact L.ring (by rw [ek3, nv_app]) nk3p nk3c nk3r
          · rw [decide_eq_false (show ¬ ((f.ring.length : Nat) : Int) > 2 by omega)]
            walk_at "rds"
            refine ⟨_, rfl, ?_⟩
            refine ⟨_, _, rfl, SqL.of L.er, ?_⟩
            rw [cut_loN (by omega)]
            intro k1 hk1
            have nk1p := (ne_of_none L.ep hk1).symm
            have nk1c := (ne_of_none L.ec hk1).symm
            have nk1r := (ne_of_none L.es hk1).symm
            generalize hgk1 : upd Gtw k1 _ = Gk1
            obtain ⟨sk1, ek1⟩ := neu2 hgk1 hk1
            clear hgk1 hk1
            replace L := L.same sk1
            clear sk1
            walk_at "rds"
            refine ⟨_, rfl, ?_⟩
            refine ⟨_, _, rfl, SqL.of L.er, ?_⟩
            rw [show (gn : Int) + 2 = ((gn + 2 : Nat) : Int) by omega, cut_over]
            intro k2 hk2
            have nk2p := (ne_of_none L.ep hk2).symm
            have nk2c := (ne_of_none L.ec hk2).symm
            have nk2r := (ne_of_none L.es hk2).symm
            generalize hgk2 : upd Gk1 k2 _ = Gk2
            obtain ⟨sk2, ek2⟩ := neu2 hgk2 hk2
            clear hgk2 hk2
            replace L := L.same sk2
            replace ek1 := sk2 _ _ ek1
            clear sk2
            refine r_cat (p := k1) ek1 ek2 (lsz (by simp only [nv_len, List.length_take, List.length_drop, List.length_append, List.length_cons, List.length_nil]; omega)) fun k3 hk3 => ?_
            have nk3p := (ne_of_none L.ep hk3).symm
            have nk3c := (ne_of_none L.ec hk3).symm
            have nk3r := (ne_of_none L.es hk3).symm
            generalize hgk3 : upd Gk2 k3 _ = Gk3
            obtain ⟨sk3, ek3⟩ := neu2 hgk3 hk3
            clear hgk3 hk3
            replace L := L.same sk3
            clear sk3
            refine Rp.r_gname ?_
            have hps : (stepFR f w gn).ps = f.ps := if_neg (fun z => big z.2)
            refine go _ _ ⟨k3, as, cs, qs, by rw [hm1]; rfl, la, ?_⟩
            rw [crs_, hr1, hps]
            exact L.ring (by rw [ek3, nv_app]) nk3p nk3c nk3r
        · have hps : (stepFR f w gn).ps = f.ps := step_ps hjn
          rw [decide_eq_false (show ¬ (w : Str) = "join" from hjn)]
          walk_at "rds"
          by_cases ho : w = "open"
          · rw [decide_eq_true (show (w : Str) = "open" from ho)]
            walk_at "rds"
            have hm1 : (stepFR f w gn).many = f.many + 1 := by subst ho; rfl
            refine ⟨_, rfl, ?_⟩
            refine ⟨_, _, rfl, SqL.of L.er, ?_⟩
            rw [show (gn : Int) + 1 = ((gn + 1 : Nat) : Int) by omega, cut_loN (by omega)]
            intro k1 hk1
            have nk1p := (ne_of_none L.ep hk1).symm
            have nk1c := (ne_of_none L.ec hk1).symm
            have nk1r := (ne_of_none L.es hk1).symm
            generalize hgk1 : upd Gtw k1 _ = Gk1
            obtain ⟨sk1, ek1⟩ := neu2 hgk1 hk1
            clear hgk1 hk1
            replace L := L.same sk1
            clear sk1
            walk_at "rds"
            refine ⟨len_ok rfl, fun k2 hk2 => ?_⟩
            have nk2p := (ne_of_none L.ep hk2).symm
            have nk2c := (ne_of_none L.ec hk2).symm
            have nk2r := (ne_of_none L.es hk2).symm
            generalize hgk2 : upd Gk1 k2 _ = Gk2
            obtain ⟨sk2, ek2⟩ := neu2 hgk2 hk2
            clear hgk2 hk2
            replace L := L.same sk2
            replace ek1 := sk2 _ _ ek1
            clear sk2
            replace ek2 : Gk2 k2 = some (.lst (nv [f.many])) := ek2
            refine r_cat (p := k1) ek1 ek2 (lsz (by simp only [nv_len, List.length_take, List.length_drop, List.length_append, List.length_cons, List.length_nil]; omega)) fun k3 hk3 => ?_
            have nk3p := (ne_of_none L.ep hk3).symm
            have nk3c := (ne_of_none L.ec hk3).symm
            have nk3r := (ne_of_none L.es hk3).symm
            generalize hgk3 : upd Gk2 k3 _ = Gk3
            obtain ⟨sk3, ek3⟩ := neu2 hgk3 hk3
            clear hgk3 hk3
            replace L := L.same sk3
            clear sk3
            walk_at "rds"
            by_cases big : 1 < f.ring.length
            · rw [decide_eq_true (show ((f.ring.length : Nat) : Int) > 1 by omega)]
              walk_at "rds"
              refine ⟨_, rfl, ?_⟩
              refine ⟨_, _, rfl, SqL.of L.er, ?_⟩
              rw [cut_hiN (by omega)]
              intro k4 hk4
              have nk4p := (ne_of_none L.ep hk4).symm
              have nk4c := (ne_of_none L.ec hk4).symm
              have nk4r := (ne_of_none L.es hk4).symm
              generalize hgk4 : upd Gk3 k4 _ = Gk4
              obtain ⟨sk4, ek4⟩ := neu2 hgk4 hk4
              clear hgk4 hk4
              replace L := L.same sk4
              replace ek3 := sk4 _ _ ek3
              clear sk4
              refine r_cat (p := k3) ek3 ek4 (lsz (by simp only [nv_len, List.length_take, List.length_drop, List.length_append, List.length_cons, List.length_nil]; omega)) fun k5 hk5 => ?_
              have nk5p := (ne_of_none L.ep hk5).symm
              have nk5c := (ne_of_none L.ec hk5).symm
              have nk5r := (ne_of_none L.es hk5).symm
              generalize hgk5 : upd Gk4 k5 _ = Gk5
              obtain ⟨sk5, ek5⟩ := neu2 hgk5 hk5
              clear hgk5 hk5
              replace L := L.same sk5
              clear sk5
              walk_at "rds"
              refine ⟨_, _, rfl, ?_⟩
              refine go _ _ ⟨k5, as, cs, qs, by rw [hm1]; rfl, la, ?_⟩
              rw [crs_, hps, show (stepFR f w gn).ring = f.ring.take (gn + 1) ++ [f.many] ++ f.ring.drop gn from by subst ho; show f.ring.take (gn + 1) ++ [f.many] ++ (if 1 < f.ring.length then [f.ring.getD gn 0] else []) ++ f.ring.drop (gn + 1) = _; rw [if_pos big, List.append_assoc _ _ (f.ring.drop (gn + 1)), drop_one hg]]
              exact L.ring (by rw [ek5, nv_app, nv_app]) nk5p nk5c nk5r
            · rw [decide_eq_false (show ¬ ((f.ring.length : Nat) : Int) > 1 by omega)]
              walk_at "rds"
              refine ⟨len_ok rfl, fun k4 hk4 => ?_⟩
              have nk4p := (ne_of_none L.ep hk4).symm
              have nk4c := (ne_of_none L.ec hk4).symm
              have nk4r := (ne_of_none L.es hk4).symm
              generalize hgk4 : upd Gk3 k4 _ = Gk4
              obtain ⟨sk4, ek4⟩ := neu2 hgk4 hk4
              clear hgk4 hk4
              replace L := L.same sk4
              replace ek3 := sk4 _ _ ek3
              clear sk4
              replace ek4 : Gk4 k4 = some (.lst (nv [])) := ek4
              refine r_cat (p := k3) ek3 ek4 (lsz (by simp only [nv_len, List.length_take, List.length_drop, List.length_append, List.length_cons, List.length_nil]; omega)) fun k5 hk5 => ?_
              have nk5p := (ne_of_none L.ep hk5).symm
              have nk5c := (ne_of_none L.ec hk5).symm
              have nk5r := (ne_of_none L.es hk5).symm
              generalize hgk5 : upd Gk4 k5 _ = Gk5
              obtain ⟨sk5, ek5⟩ := neu2 hgk5 hk5
              clear hgk5 hk5
              replace L := L.same sk5
              clear sk5
              walk_at "rds"
              refine ⟨_, _, rfl, ?_⟩
              refine go _ _ ⟨k5, as, cs, qs, by rw [hm1]; rfl, la, ?_⟩
              rw [crs_, hps, show (stepFR f w gn).ring = f.ring.take (gn + 1) ++ [f.many] ++ [] from by subst ho; show f.ring.take (gn + 1) ++ [f.many] ++ (if 1 < f.ring.length then [f.ring.getD gn 0] else []) ++ f.ring.drop (gn + 1) = _; rw [if_neg big, List.drop_of_length_le (by omega), List.append_nil, List.append_nil]]
              exact L.ring (by rw [ek5, nv_app, nv_app]) nk5p nk5c nk5r
          · rw [decide_eq_false (show ¬ (w : Str) = "open" from ho)]
            walk_at "rds"
            have htn : w = "turn" := by
              simp only [W5, List.mem_cons, List.not_mem_nil, or_false] at hw
              rcases hw with z | z | z | z | z
              · rw [z] at hc; exact absurd hc (by decide)
              · rw [z] at hc; exact absurd hc (by decide)
              · exact absurd z hjn
              · exact absurd z ho
              · exact z
            have hm1 : (stepFR f w gn).many = f.many := by subst htn; rfl
            refine ⟨_, rfl, ?_⟩
            refine ⟨_, _, rfl, SqL.of L.er, ?_⟩
            rw [cut_hiN (by omega)]
            intro k1 hk1
            have nk1p := (ne_of_none L.ep hk1).symm
            have nk1c := (ne_of_none L.ec hk1).symm
            have nk1r := (ne_of_none L.es hk1).symm
            generalize hgk1 : upd Gtw k1 _ = Gk1
            obtain ⟨sk1, ek1⟩ := neu2 hgk1 hk1
            clear hgk1 hk1
            replace L := L.same sk1
            clear sk1
            walk_at "rds"
            refine ⟨_, rfl, ?_⟩
            refine ⟨_, _, rfl, SqL.of L.er, ?_⟩
            rw [cut_loN (by omega)]
            intro k2 hk2
            have nk2p := (ne_of_none L.ep hk2).symm
            have nk2c := (ne_of_none L.ec hk2).symm
            have nk2r := (ne_of_none L.es hk2).symm
            generalize hgk2 : upd Gk1 k2 _ = Gk2
            obtain ⟨sk2, ek2⟩ := neu2 hgk2 hk2
            clear hgk2 hk2
            replace L := L.same sk2
            replace ek1 := sk2 _ _ ek1
            clear sk2
            refine r_cat (p := k1) ek1 ek2 (lsz (by simp only [nv_len, List.length_take, List.length_drop, List.length_append, List.length_cons, List.length_nil]; omega)) fun k3 hk3 => ?_
            have nk3p := (ne_of_none L.ep hk3).symm
            have nk3c := (ne_of_none L.ec hk3).symm
            have nk3r := (ne_of_none L.es hk3).symm
            generalize hgk3 : upd Gk2 k3 _ = Gk3
            obtain ⟨sk3, ek3⟩ := neu2 hgk3 hk3
            clear hgk3 hk3
            replace L := L.same sk3
            clear sk3
            refine Rp.r_gname ?_
            have hr1 : (stepFR f w gn).ring = f.ring.drop gn ++ f.ring.take gn := by subst htn; rfl
            refine go _ _ ⟨k3, as, cs, qs, by rw [hm1]; rfl, la, ?_⟩
            rw [crs_, hr1, hps]
            exact L.ring (by rw [ek3, nv_app]) nk3p nk3c nk3r
    · clear L0
      rintro σ G ⟨y7, y8, y9, r, as, cs, qs, now, rfl, hrun, I, L⟩
      rw [List.take_of_length_le (by omega)] at I L
      rw [List.take_of_length_le (by omega)]
      have ef : stepsFR (beginFR m.toNat) ds = floorFR m ds := rfl
      rw [ef] at I L ⊢
      generalize hff : floorFR m ds = f at *
      have hmny := I.mny
      have hrk := I.rk
      have hck := I.ck
      have hpk := I.pk
      have hb := I.pl
      walk_at "rds"
      refine ⟨_, rfl, ?_⟩
      refine ⟨⟨by decide, by decide, by omega, by omega, by omega⟩, fun lb hlb => ?_⟩
      rw [show rgV 0 ((f.many : Nat) : Int) = nv (List.range f.many) from rg_nv]
      have flb := L.new hlb
      have nlp : lb ≠ pp := (ne_of_none L.ep hlb).symm
      have L1 := L.same (same_neu (Same.refl G) hlb (o := .lst (nv (List.range f.many))))
      have el : upd G lb (.lst (nv (List.range f.many))) lb = some (.lst (nv ((List.range f.many).map (roundsF f.ps 0 id)))) := by rw [upd_same]; exact congrArg (fun z => some (HO.lst (nv z))) (List.map_id _).symm
      have kb : ∀ b u, b ≠ lb → upd G lb (.lst (nv (List.range f.many))) b = some u → upd G lb (.lst (nv (List.range f.many))) b = some u := fun _ _ _ e => e
      generalize upd G lb _ = G1 at *
      clear L kb
      walk_at "rds"
      refine ⟨_, _, rfl, .inl (SqL.of L1.ep), ?_⟩
      rw [List.length_map, L1.pr.1]
      refine ⟨_, rfl, by omega, by omega, ?_⟩
      refine for_range (lo := 0) (n := ((f.ps.length : Nat) : Int).toNat) (fun k σ G2 => ∃ (y11 y12 y13 y14 : Option V), σ = [some (.int m), some (.ref a), some (.int (f.many : Nat)), some (.ref pp), some (.ref cc), some (.ref r), some (.ref rr), y7, y8, y9, some (.ref lb), y11, y12, y13, y14, none, none, none, none, none] ∧ But lb G1 G2 ∧ G2 lb = some (.lst (nv ((List.range f.many).map (roundsF f.ps k id))))) ⟨_, _, _, _, rfl, But.refl _ _, el⟩ ?_ ?_
      · rintro k σ G2 hk ⟨y11, y12, y13, y14, rfl, B2, e2⟩
        have ep2 := B2 _ _ nlp.symm L1.ep
        walk_at "rds"
        refine ⟨pp, rfl, ⟨_, SqL.of ep2⟩, ?_⟩
        refine for_it (walk_list (K := K) (a := pp) (xs := qs.map V.ref)) (fun j σ G3 => ∃ (z12 z13 z14 : Option V), σ = [some (.int m), some (.ref a), some (.int (f.many : Nat)), some (.ref pp), some (.ref cc), some (.ref r), some (.ref rr), y7, y8, y9, some (.ref lb), some (.int (0 + (k : Int))), z12, z13, z14, none, none, none, none, none] ∧ But lb G1 G3 ∧ G3 lb = some (.lst (nv ((List.range f.many).map (roundF (f.ps.take j) (roundsF f.ps k id)))))) ⟨_, _, _, rfl, B2, e2⟩ (fun j σ G3 _ h => by
          obtain ⟨_, _, _, _, B3, _⟩ := h
          exact SqL.of (B3 _ _ nlp.symm L1.ep)) ?_ ?_
        · rintro j v σ G3 G4 hj ⟨z12, z13, z14, rfl, B3, e3⟩ ⟨rfl, hv⟩
          obtain ⟨t, ht2, rfl⟩ := ref_at hv
          have hjp : j < f.ps.length := by rw [List.length_map, L1.pr.1] at hj; exact hj
          have hpj := List.getElem?_eq_getElem hjp
          have et := L1.pr.2 j t _ ht2 hpj
          have et3 := B3 _ _ (ne_of et el (fun z => by cases z)) et
          obtain ⟨b1, b2⟩ := hb _ (List.getElem_mem hjp)
          refine r_gtup ⟨_, _, rfl, SqT.of et3, rfl, ?_⟩
          refine ⟨_, _, rfl, ?_⟩
          walk_at "rds"
          refine ⟨_, _, rfl, ?_⟩
          walk_at "rds"
          refine ⟨rfl, ?_⟩
          walk_at "rds"
          refine r_ixL (SqL.of e3) (nvmap_at b1) ?_
          walk_at "rds"
          refine r_ixL (SqL.of e3) (nvmap_at b2) ?_
          walk_at "rds"
          refine ⟨_, _, rfl, ?_⟩
          rw [min_if]
          walk_at "rds"
          refine ⟨len_ok rfl, fun tp htp => ?_⟩
          have ntl : tp ≠ lb := (ne_of_none e3 htp).symm
          have B4 := B3.trans (same_but (q := lb) (same_neu (Same.refl G4) htp (o := .tup [.int ((min (roundF (f.ps.take j) (roundsF f.ps k id) f.ps[j].1) (roundF (f.ps.take j) (roundsF f.ps k id) f.ps[j].2) : Nat) : Int), .int ((min (roundF (f.ps.take j) (roundsF f.ps k id) f.ps[j].1) (roundF (f.ps.take j) (roundsF f.ps k id) f.ps[j].2) : Nat) : Int)])))
          have etp : upd G4 tp (.tup [.int ((min (roundF (f.ps.take j) (roundsF f.ps k id) f.ps[j].1) (roundF (f.ps.take j) (roundsF f.ps k id) f.ps[j].2) : Nat) : Int), .int ((min (roundF (f.ps.take j) (roundsF f.ps k id) f.ps[j].1) (roundF (f.ps.take j) (roundsF f.ps k id) f.ps[j].2) : Nat) : Int)]) tp = some (.tup [.int ((min (roundF (f.ps.take j) (roundsF f.ps k id) f.ps[j].1) (roundF (f.ps.take j) (roundsF f.ps k id) f.ps[j].2) : Nat) : Int), .int ((min (roundF (f.ps.take j) (roundsF f.ps k id) f.ps[j].1) (roundF (f.ps.take j) (roundsF f.ps k id) f.ps[j].2) : Nat) : Int)]) := upd_same
          replace e3 := upd_keep (u := .tup [.int ((min (roundF (f.ps.take j) (roundsF f.ps k id) f.ps[j].1) (roundF (f.ps.take j) (roundsF f.ps k id) f.ps[j].2) : Nat) : Int), .int ((min (roundF (f.ps.take j) (roundsF f.ps k id) f.ps[j].1) (roundF (f.ps.take j) (roundsF f.ps k id) f.ps[j].2) : Nat) : Int)]) ntl.symm e3
          generalize upd G4 tp _ = G5 at B4 etp e3
          refine r_gtup ⟨_, _, rfl, SqT.of etp, rfl, ?_⟩
          refine ⟨_, _, rfl, ?_⟩
          walk_at "rds"
          refine r_setL e3 (ixN_natX (by rw [nv_len, List.length_map, List.length_range]; exact b1)) ?_
          rw [nv_set]
          refine ⟨_, _, rfl, ?_⟩
          walk_at "rds"
          refine r_setL upd_same (ixN_natX (by rw [nv_len, List.length_set, List.length_map, List.length_range]; exact b2)) ?_
          rw [nv_set, relax_list b1 b2]
          refine ⟨rfl, ?_⟩
          refine ⟨_, _, _, rfl, (B4.upd2 _).upd2 _, ?_⟩
          rw [upd_same, roundF_take hpj]
        · rintro σ G3 ⟨z12, z13, z14, rfl, B3, e3⟩
          rw [List.length_map, L1.pr.1, List.take_of_length_le (Nat.le_refl _)] at e3
          exact ⟨_, _, _, _, rfl, B3, e3⟩
      rintro σ G2 ⟨y11, y12, y13, y14, rfl, B2, e2⟩
      rw [Int.toNat_natCast] at e2
      have e2' : G2 lb = some (.lst (nv ((List.range f.many).map (labF f)))) := e2
      clear e2
      have L2 : LF H G2 r pp cc rr f.ring f.rings f.crs f.ps as cs qs := L1.but B2 el flb
      clear L1 B2 el
      walk_at "rds"
      refine ⟨lb, (List.range f.many).map fun x => ((labF f x : Nat) : Int), rfl, SqL.of (by rw [e2']; unfold nv; rw [List.map_map, List.map_map]; rfl), by rw [List.length_map, List.length_range]; omega, fun ks kp asc mem hkp => ?_⟩
      rw [kept_roots asc mem]
      have s3 := same_neu (Same.refl G2) hkp (o := .lst (((rootsF f).map fun (y : Nat) => (y : Int)).map V.int))
      have ek : upd G2 kp (.lst (((rootsF f).map fun (y : Nat) => (y : Int)).map V.int)) kp = some (.lst (nv (rootsF f))) := by rw [upd_same]; unfold nv; rw [List.map_map]; rfl
      generalize upd G2 kp _ = G3 at s3 ek
      replace L2 := L2.same s3
      replace e2' := s3 _ _ e2'
      clear s3 asc mem hkp
      walk_at "rds"
      refine ⟨lb, rfl, ⟨_, SqL.of e2'⟩, fun D hD => ?_⟩
      refine lc_val (walk_list (K := K) (xs := nv ((List.range f.many).map (labF f)))) (nv ((List.range f.many).map (nameF f))) (by rw [nv_len, nv_len, List.length_map, List.length_map]) (fun G' s => SqL.of (s _ _ e2')) hD (by rw [nv_len, List.length_map, List.length_range]; exact small1000 (by omega)) ?_ ?_
      · rintro x v G4 G5 hx s4 ⟨_, _⟩ ⟨rfl, hv⟩ Qn kn
        have hxm : x < f.many := by rw [nv_len, List.length_map, List.length_range] at hx; exact hx
        have ev : v = .int ((labF f x : Nat) : Int) := by
          rw [List.getElem?_map, List.getElem?_map, List.getElem?_range hxm] at hv
          exact (Option.some.inj hv).symm
        subst ev
        have ek4 := s4 _ _ ek
        walk_at "rds"
        refine ⟨rfl, ?_⟩
        walk_at "rds"
        refine ⟨ty_lst ek4, ?_⟩
        walk_at "rds"
        have ra := rootsF_at hxm
        refine ⟨kp, _, _, nameF f x, .int ((labF f x : Nat) : Int), rfl, rfl, SqL.of ek4, rfl, flat_nv _, by rw [List.getElem?_map, ra]; rfl, (show (((labF f x : Nat) : Int) == ((labF f x : Nat) : Int)) = true from beq_iff_eq.mpr rfl), fun y z' hy hz' => ?_, ?_⟩
        · have hyl : y < (rootsF f).length := by have := (List.getElem?_eq_some_iff.mp ra).1; omega
          rw [List.getElem?_map, List.getElem?_eq_getElem hyl] at hz'
          cases hz'
          have lt := List.pairwise_iff_getElem.mp (rootsF_asc f) y (nameF f x) (by rw [List.length_map]; exact hyl) (by rw [List.length_map]; exact (List.getElem?_eq_some_iff.mp ra).1) hy
          have e9 : (rootsF f)[nameF f x]'((List.getElem?_eq_some_iff.mp ra).1) = labF f x := (List.getElem?_eq_some_iff.mp ra).2
          simp only [List.getElem_map] at lt
          rw [e9] at lt
          exact beq_eq_false_iff_ne.mpr (by omega)
        · refine kn _ _ ?_ (Same.refl _)
          rw [List.getElem?_map, List.getElem?_map, List.getElem?_range hxm]
          rfl
      intro G4 s4 eN
      replace L2 := L2.same s4
      replace ek := s4 _ _ ek
      clear e2' s4 hD
      walk_at "rds"
      refine ⟨rr, rfl, ⟨_, SqL.of L2.es⟩, fun D2 hD2 => ?_⟩
      refine lc_tups (walk_list (K := K) (xs := as.map V.ref)) ((ringsF f).map nvI) (by rw [List.length_map, List.length_map]; unfold ringsF; rw [List.length_map, L2.ls.1]) (fun G' s => SqL.of (s _ _ L2.es)) hD2 (by rw [List.length_map, L2.ls.1]; exact small1000 (by omega)) ?_ ?_
      · rintro i v G5 G6 z hi hz s5 ⟨_, _⟩ ⟨rfl, hv⟩ Qn kn
        obtain ⟨a2, ha2, rfl⟩ := ref_at hv
        obtain ⟨xs, hxs, ea⟩ := L2.ls.at ha2
        obtain ⟨b24, bm⟩ := I.rs _ (List.mem_of_getElem? hxs)
        have ez : z = nvI (xs.map (nameF f)) := by
          unfold ringsF at hz
          rw [List.getElem?_map, List.getElem?_map, hxs] at hz
          exact (Option.some.inj hz).symm
        subst ez
        replace ea := s5 _ _ ea
        have eN5 := s5 _ _ eN
        walk_at "rds"
        refine ⟨rfl, ?_⟩
        walk_at "rds"
        refine ⟨a2, rfl, ⟨_, SqL.of ea⟩, fun D3 hD3 => ?_⟩
        refine lc_val (walk_list (K := K) (xs := nv xs)) (nv (xs.map (nameF f))) (by rw [nv_len, nv_len, List.length_map]) (fun G' s => SqL.of (s _ _ ea)) hD3 (by rw [nv_len]; exact small1000 (by omega)) ?_ ?_
        · rintro j y G7 G8 hj s7 ⟨_, _⟩ ⟨rfl, hy⟩ Qm km
          rw [nv_len] at hj
          have hy2 : y = .int ((xs[j] : Nat) : Int) := by
            rw [List.getElem?_map, List.getElem?_eq_getElem hj] at hy
            exact (Option.some.inj hy).symm
          subst hy2
          walk_at "rds"
          refine ⟨rfl, ?_⟩
          walk_at "rds"
          refine r_ixL (SqL.of (s7 _ _ eN5)) (nvmap_at (bm _ (List.getElem_mem hj))) ?_
          refine km _ _ ?_ (Same.refl _)
          rw [List.getElem?_map, List.getElem?_map, List.getElem?_eq_getElem hj]
          rfl
        · intro G7 s7 e7
          walk_at "rds"
          exact r_tupL e7 fun pt G8 s8 hp ep => kn pt G8 (fun b o e => s8 _ _ (s7 _ _ e)) (by rw [← nv_ints]; exact ep)
      intro G5 as' s5 eD TD
      replace L2 := L2.same s5
      replace ek := s5 _ _ ek
      replace eN := s5 _ _ eN
      clear s5 hD2
      walk_at "rds"
      refine ⟨_, _, rfl, .inl (SqL.of ek), ?_⟩
      rw [nv_len, rootsF_len]
      walk_at "rds"
      refine r_tupL eD fun pt G6 s6 hpt ept => ?_
      replace L2 := L2.same s6
      replace eN := s6 _ _ eN
      replace TD := TD.same s6
      clear s6 eD hpt ek
      walk_at "rds"
      refine ⟨cc, rfl, ⟨_, SqL.of L2.ec⟩, fun D4 hD4 => ?_⟩
      refine lc_new (walk_list (K := K) (xs := cs.map V.ref)) (fun i y G' => ∃ t, ∃ z : Str × List Nat, y = .ref t ∧ t ≠ D4 ∧ (crsF f)[i]? = some z ∧ G' t = some (.tup (.str z.1 :: nv z.2))) (fun i y G' G'' st h => by
        obtain ⟨t, z, h1, h2, h3, h4⟩ := h
        exact ⟨t, z, h1, h2, h3, st _ _ h2 h4⟩) (fun G' s1 => SqL.of (s1 _ _ L2.ec)) hD4 (by rw [List.length_map, L2.cr.1]; exact small1000 (by omega)) ?_ ?_
      · rintro i v G7 G8 hi s7 ⟨ys0, eD40⟩ ⟨rfl, hv⟩ Qn kn
        obtain ⟨t, ht2, rfl⟩ := ref_at hv
        have hil : i < f.crs.length := by rw [List.length_map, L2.cr.1] at hi; exact hi
        have hz := List.getElem?_eq_getElem hil
        have et := s7 _ _ (L2.cr.2 i t _ ht2 hz)
        obtain ⟨l4, bm⟩ := I.cs _ (List.getElem_mem hil)
        generalize f.crs[i] = z at *
        obtain ⟨zw, zl⟩ := z
        obtain ⟨x0, x1, x2, x3, rfl⟩ : ∃ x0 x1 x2 x3, zl = [x0, x1, x2, x3] := by
          match zl, l4 with
          | [x0, x1, x2, x3], _ => exact ⟨x0, x1, x2, x3, rfl⟩
        have c0 := bm x0 (by simp)
        have c1 := bm x1 (by simp)
        have c2 := bm x2 (by simp)
        have c3 := bm x3 (by simp)
        have eN7 := s7 _ _ eN
        replace et : G8 t = some (.tup [.str zw, .int (x0 : Nat), .int (x1 : Nat), .int (x2 : Nat), .int (x3 : Nat)]) := et
        walk_at "rds"
        refine ⟨rfl, ?_⟩
        walk_at "rds"
        refine r_ixT (SqT.of et) (v := .str zw) rfl ?_
        walk_at "rds"
        refine r_ixT (SqT.of et) (v := .int (x0 : Nat)) rfl ?_
        refine r_ixL (SqL.of eN7) (nvmap_at c0) ?_
        walk_at "rds"
        refine r_ixT (SqT.of et) (v := .int (x1 : Nat)) rfl ?_
        refine r_ixL (SqL.of eN7) (nvmap_at c1) ?_
        walk_at "rds"
        refine r_ixT (SqT.of et) (v := .int (x2 : Nat)) rfl ?_
        refine r_ixL (SqL.of eN7) (nvmap_at c2) ?_
        walk_at "rds"
        refine r_ixT (SqT.of et) (v := .int (x3 : Nat)) rfl ?_
        refine r_ixL (SqL.of eN7) (nvmap_at c3) ?_
        walk_at "rds"
        refine ⟨len_ok rfl, fun p5 hp5 => ?_⟩
        refine kn _ _ (same_neu (Same.refl G8) hp5) ⟨p5, (zw, [nameF f x0, nameF f x1, nameF f x2, nameF f x3]), rfl, (ne_of_none eD40 hp5).symm, ?_, upd_same⟩
        unfold crsF
        rw [List.getElem?_map, hz]
        rfl
      intro G7 ys s7 eD4 ly hy
      obtain ⟨cs', rfl, hcs'⟩ : ∃ cs' : List Addr, ys = cs'.map V.ref ∧ ∀ i t, cs'[i]? = some t → ∃ z : Str × List Nat, (crsF f)[i]? = some z ∧ G7 t = some (.tup (.str z.1 :: nv z.2)) := by
        refine refs_of ys (fun i t => ∃ z : Str × List Nat, (crsF f)[i]? = some z ∧ G7 t = some (.tup (.str z.1 :: nv z.2))) fun i y e => ?_
        obtain ⟨t, z, h1, h2, h3, h4⟩ := hy i y e
        exact ⟨t, h1, z, h3, h4⟩
      rw [List.length_map, List.length_map] at ly
      walk_at "rds"
      refine r_tupL eD4 fun pc G8 s8 hpc epc => ?_
      walk_at "rds"
      refine ⟨len_ok rfl, fun p hp => ?_⟩
      have s9 : Same G6 (upd G8 p (.tup [.int ((totF f : Nat) : Int), .ref pt, .ref pc])) := (s7.trans s8).trans (same_neu (Same.refl G8) hp)
      have s89 : Same G7 (upd G8 p (.tup [.int ((totF f : Nat) : Int), .ref pt, .ref pc])) := s8.trans (same_neu (Same.refl G8) hp)
      refine k _ p pt pc as' cs' (L2.s.trans s9) upd_same (s9 _ _ ept) (TD.same s9) ((same_neu (Same.refl G8) hp) _ _ epc) ⟨by unfold crsF; rw [List.length_map, ly, L2.cr.1], fun i t z e1 e2 => ?_⟩
      obtain ⟨z2, q1, q2⟩ := hcs' i t e1
      rw [q1] at e2
      cases e2
      exact s89 _ _ q2
end
end K25
namespace Rp
open PySem PySem.Spec PyProof.Rows L2 LamX RZ K25
/-! ### crossings told -/
def crD (z : Str × List Nat) : PyData := .tuple (.str z.1 :: z.2.map fun x => .int ((x : Nat) : Int))
def crsD (l : List (Str × List Nat)) : PyData := .tuple (l.map crD)
theorem dd_nv {K : PySem.W.Frag} {H : Hp} : ∀ xs : List Nat, DdAll K H (nv xs) (xs.map fun x => .int ((x : Nat) : Int))
  | [] => .nil
  | x :: xs => .cons (.num _) (dd_nv xs)
theorem crT_dd {K : PySem.W.Frag} {H : Hp} : ∀ {cs : List Addr} {l : List (Str × List Nat)}, CrT H cs l → DdAll K H (cs.map V.ref) (l.map crD)
  | [], [], _ => .nil
  | _ :: _, _ :: _, h => .cons (.tup (SqT.of (h.2 0 _ _ rfl rfl)) (.cons (.str _) (dd_nv _))) (crT_dd ⟨Nat.succ.inj h.1, fun i t e e1 e2 => h.2 (i + 1) t e e1 e2⟩)
  | [], _ :: _, h => nomatch h.1
  | _ :: _, [], h => nomatch h.1
def CrP (H : Hp) (p : Addr) (l : List (Str × List Nat)) : Prop := ∃ cs : List Addr, H p = some (.tup (cs.map V.ref)) ∧ CrT H cs l
theorem CrP.same {H H' : Hp} {p : Addr} {l : List (Str × List Nat)} (h : CrP H p l) (s : Same H H') : CrP H' p l := by
  obtain ⟨cs, h1, h2⟩ := h
  exact ⟨cs, s _ _ h1, h2.same s⟩
theorem CrP.dd {K : PySem.W.Frag} {H : Hp} {p : Addr} {l : List (Str × List Nat)} (h : CrP H p l) : Dd K H (.ref p) (crsD l) := by
  obtain ⟨cs, h1, h2⟩ := h
  exact .tup (SqT.of h1) (crT_dd h2)
theorem fitA_map {α : Type} {n c : Nat} (f : α → PyData) : ∀ l : List α, (∀ z ∈ l, Fit n c (f z)) → FitA n ((c + 2) * l.length) (l.map f)
  | [], _ => FitA.nil
  | z :: l, h => (FitA.cons (h z (.head _)) (fitA_map f l fun y m => h y (.tail _ m))).le (Nat.le_refl _) (by rw [List.length_cons, Nat.mul_succ]; omega)
theorem fit_word {w : Str} (h : isCr w = true) : Fit 0 20 (.str w) := by
  rcases Bool.or_eq_true_iff.mp h with h | h
  · rw [of_decide_eq_true h]
    exact ⟨by decide +kernel, by decide +kernel, by decide +kernel⟩
  · rw [of_decide_eq_true h]
    exact ⟨by decide +kernel, by decide +kernel, by decide +kernel⟩
/-- a told crossing -/
def CrOk (z : Str × List Nat) : Prop := isCr z.1 = true ∧ z.2.length = 4 ∧ ∀ x ∈ z.2, x < 1000
theorem fit_cr {z : Str × List Nat} (h : CrOk z) : Fit 1 100 (crD z) := by
  have f := fitA_map (n := 0) (c := 13) (fun x : Nat => PyData.int ((x : Nat) : Int)) z.2 fun x m => fit_int (by have := h.2.2 x m; omega)
  rw [h.2.1] at f
  exact ((FitA.cons (fit_word h.1) f).tuple).le (Nat.le_refl _) (by decide)
theorem fit_crs {l : List (Str × List Nat)} (h : ∀ z ∈ l, CrOk z) (hl : l.length ≤ 1000) : Fit 2 200000 (crsD l) :=
  ((fitA_map crD l fun z m => fit_cr (h z m)).tuple).le (Nat.le_refl _) (by omega)
theorem fit_two {l : List (Str × List Nat)} (h : ∀ z ∈ l, CrOk z) (hl : l.length ≤ 1000) : Fit 64 15000000 (.list [crsD l, crsD l]) :=
  ((FitA.cons (fit_crs h hl) (FitA.cons (e := 0) (fit_crs h hl) FitA.nil)).list).le (by decide) (by decide)
theorem crs_word : ∀ {f : FR} {ds : Dl}, (∀ z ∈ f.crs, isCr z.1 = true) → ∀ z ∈ (stepsFR f ds).crs, isCr z.1 = true
  | _, [], h => h
  | f, (w, g) :: ds, h => crs_word (f := stepFR f w g.toNat) (ds := ds) fun z m => by
    unfold stepFR at m
    by_cases e : isCr w = true
    · rw [if_pos e] at m
      rcases List.mem_append.mp m with m | m
      · exact h z m
      · rw [List.mem_singleton.mp m]
        exact e
    · rw [if_neg e] at m
      exact h z m
theorem nameF_lt {f : FR} {x : Nat} (h : x < f.many) : nameF f x < f.many := by
  have h1 := (List.getElem?_eq_some_iff.mp (rootsF_at h)).1
  have h2 : (rootsF f).length ≤ f.many := by rw [rootsF_len]; exact cntR_le _ _
  omega
theorem finv_all {m : Int} {ds : Dl} {b : Int} (h0 : 0 ≤ m) (h24 : m ≤ 24) (h2 : m % 2 = 0) (ht : Typ b ds) (hr : runD ds m = some 0) : ∀ i, i ≤ ds.length → ∃ n, runD (ds.take i) m = some n ∧ FInv m (stepsFR (beginFR m.toNat) (ds.take i)) n i := by
  intro i
  induction i with
  | zero => intro _; exact ⟨m, rfl, FInv.begin h0 h24 h2⟩
  | succ i ih =>
    intro hi
    obtain ⟨n, hn, I⟩ := ih (by omega)
    have ed : ds[i]? = some (ds[i].1, ds[i].2) := List.getElem?_eq_getElem hi
    generalize ds[i] = z at ed
    obtain ⟨w, g⟩ := z
    have etk : ds.take (i + 1) = ds.take i ++ [(w, g)] := by rw [List.take_succ, ed]; rfl
    obtain ⟨n2, hn2⟩ := runD_take (i + 1) hr
    have hn3 := hn2
    rw [etk] at hn2
    obtain ⟨fit, rfl, b24⟩ := runD_snoc hn hn2
    obtain ⟨hw, _, _⟩ := ht.at ed
    refine ⟨_, hn3, ?_⟩
    rw [stepsFR_take ed]
    exact I.step hw fit b24
theorem crs_ok {m : Int} {ds : Dl} {b : Int} (h0 : 0 ≤ m) (h24 : m ≤ 24) (h2 : m % 2 = 0) (ht : Typ b ds) (hl : ds.length ≤ 800) (hr : runD ds m = some 0) : (∀ z ∈ crsF (floorFR m ds), CrOk z) ∧ (crsF (floorFR m ds)).length ≤ 1000 := by
  obtain ⟨n, _, I⟩ := finv_all h0 h24 h2 ht hr ds.length (Nat.le_refl _)
  rw [List.take_length] at I
  have hw : ∀ z ∈ (stepsFR (beginFR m.toNat) ds).crs, isCr z.1 = true := crs_word fun z m => nomatch m
  have hm := I.mny
  refine ⟨fun z mz => ?_, ?_⟩
  · unfold crsF at mz
    obtain ⟨c, mc, rfl⟩ := List.mem_map.mp mz
    obtain ⟨l4, lm⟩ := I.cs c mc
    refine ⟨hw c mc, by rw [List.length_map]; exact l4, fun x mx => ?_⟩
    obtain ⟨y, my, rfl⟩ := List.mem_map.mp mx
    have h1 := nameF_lt (lm y my)
    have h3 : nameF (floorFR m ds) y < (stepsFR (beginFR m.toNat) ds).many := h1
    omega
  · unfold crsF
    rw [List.length_map]
    have := I.ck
    show (stepsFR (beginFR m.toNat) ds).crs.length ≤ 1000
    omega
/-! ### turned by none -/
structure SameF (f g : FR) : Prop where
  r : f.ring = g.ring
  m : f.many = g.many
  p : f.ps = g.ps
  c : f.crs = g.crs
theorem SameF.step {f g : FR} (h : SameF f g) (w : Str) (k : Nat) : SameF (stepFR f w k) (stepFR g w k) := by
  obtain ⟨h1, h2, h3, h4⟩ := h
  refine ⟨?_, ?_, ?_, ?_⟩ <;> unfold stepFR <;> simp only [h1, h2, h3, h4]
theorem SameF.steps : ∀ {ds : Dl} {f g : FR}, SameF f g → SameF (stepsFR f ds) (stepsFR g ds)
  | [], _, _, h => h
  | (w, k) :: ds, _, _, h => SameF.steps (ds := ds) (h.step w k.toNat)
theorem SameF.crs {f g : FR} (h : SameF f g) : crsF f = crsF g := by
  unfold crsF nameF labF
  rw [h.p, h.c]
theorem crs_noncr {f : FR} {w : Str} {g : Nat} (h : ¬ isCr w = true) : (stepFR f w g).crs = f.crs := by
  unfold stepFR
  rw [if_neg h]
theorem ps_nonjoin {f : FR} {w : Str} {g : Nat} (h : w ≠ "join") : (stepFR f w g).ps = f.ps := by
  unfold stepFR
  rw [if_neg (c := w = "join" ∧ 2 < f.ring.length) fun z => h z.1]
theorem turn0 (f : FR) : SameF (stepFR f "turn" 0) f := ⟨by
  show f.ring.drop 0 ++ f.ring.take 0 = f.ring
  rw [List.take_zero, List.append_nil, List.drop_zero], rfl, ps_nonjoin (by decide), crs_noncr (by decide)⟩
theorem crs_turn0 {m : Int} {ds : Dl} : crsF (floorFR m (("turn", 0) :: ds)) = crsF (floorFR m ds) := (SameF.steps (turn0 _)).crs
theorem run_turn0 {m : Int} {ds : Dl} (h : 0 < m) (h24 : m ≤ 24) (hr : runD ds m = some 0) : runD (("turn", 0) :: ds) m = some 0 := by
  have b : behind "turn" m = m := behind_cross (.inr (.inr rfl))
  show (if fitsG "turn" m 0 = true ∧ ¬ behind "turn" m > 24 then runD ds (behind "turn" m) else none) = some 0
  rw [b, if_pos ⟨fits_cross (.inr (.inr rfl)) (by omega) h, by omega⟩]
  exact hr
/-! ### two ends, twisted -/
def TwOk (f : FR) : Prop := f.ring.length = 2 ∧ ∀ z ∈ f.crs, ∃ a b c, z.2 = [a, b, a, c]
def Twist (ds : Dl) : Prop := ∀ d ∈ ds, (d.1 = "over" ∨ d.1 = "under") ∧ 0 ≤ d.2 ∧ d.2 < 2
theorem TwOk.step {f : FR} (h : TwOk f) {w : Str} {g : Nat} (hw : w = "over" ∨ w = "under") (hg : g < 2) : TwOk (stepFR f w g) := by
  have nt : w ≠ "turn" := by rcases hw with rfl | rfl <;> decide
  have nj : w ≠ "join" := by rcases hw with rfl | rfl <;> decide
  have no : w ≠ "open" := by rcases hw with rfl | rfl <;> decide
  obtain ⟨h1, h2⟩ := h
  refine ⟨?_, fun z m => ?_⟩
  · show (ringOf w f.ring g f.many).length = 2
    unfold ringOf
    rw [if_neg nt, if_neg nj, if_neg no]
    simp only [List.length_append, List.length_take, List.length_drop, List.length_singleton, h1]
    omega
  · unfold stepFR at m
    by_cases e : isCr w = true
    · rw [if_pos e] at m
      rcases List.mem_append.mp m with m | m
      · exact h2 z m
      · rw [List.mem_singleton.mp m]
        refine ⟨f.ring.getD (prevN f.ring.length g) 0, f.ring.getD g 0, f.many, ?_⟩
        show [_, _, f.ring.getD (nextN f.ring.length g) 0, _] = _
        rw [h1]
        rw [show nextN 2 g = prevN 2 g by
          unfold nextN prevN
          split <;> split <;> omega]
    · rw [if_neg e] at m
      exact h2 z m
theorem TwOk.steps : ∀ {ds : Dl} {f : FR}, TwOk f → Twist ds → TwOk (stepsFR f ds)
  | [], _, h, _ => h
  | (w, g) :: ds, f, h, t => TwOk.steps (ds := ds) (h.step (t _ (.head _)).1 (by have := (t _ (.head _)).2; simp only at this; omega)) fun d m => t d (.tail _ m)
theorem twist_run : ∀ {ds : Dl}, Twist ds → runD ds 2 = some 2
  | [], _ => rfl
  | (w, g) :: ds, t => by
    have t1 := t _ (.head _)
    have hw : w = "over" ∨ w = "under" ∨ w = "turn" := t1.1.elim .inl fun z => .inr (.inl z)
    have b : behind w 2 = 2 := behind_cross hw
    show (if fitsG w 2 g = true ∧ ¬ behind w 2 > 24 then runD ds (behind w 2) else none) = some 2
    rw [b, if_pos ⟨fits_cross hw t1.2.1 t1.2.2, by decide⟩]
    exact twist_run fun d m => t d (.tail _ m)
theorem twist_ok {ds : Dl} (t : Twist ds) (hl : ds.length ≤ 100) : DsOk 2 (ds ++ ([("join", 1)] : Dl)) := by
  refine ⟨Typ.app (fun d m => ?_) (.one (by decide) (by decide) (by decide)), by rw [List.length_append]; show ds.length + 1 ≤ 4000; omega, by decide, by decide, by decide, ?_⟩
  · obtain ⟨h1, h2, h3⟩ := t d m
    exact ⟨by rcases h1 with e | e <;> (rw [e]; decide), h2, by omega⟩
  · rw [runD_app, twist_run t]
    decide +kernel
theorem twist_typ {ds : Dl} (t : Twist ds) : Typ 23 (ds ++ ([("join", 1)] : Dl)) := Typ.app (fun d m => by
    obtain ⟨h1, h2, h3⟩ := t d m
    exact ⟨by rcases h1 with e | e <;> (rw [e]; decide), h2, by omega⟩) (.one (by decide) (by decide) (by decide))
theorem twist_crs {ds : Dl} (t : Twist ds) : ∀ z ∈ crsF (floorFR 2 (ds ++ ([("join", 1)] : Dl))), ∃ a b c, z.2 = [a, b, a, c] := by
  have h := TwOk.steps (f := beginFR 2) (ds := ds) ⟨rfl, fun z m => nomatch m⟩ t
  intro z m
  unfold crsF at m
  obtain ⟨c, mc, rfl⟩ := List.mem_map.mp m
  have e : (floorFR 2 (ds ++ ([("join", 1)] : Dl))).crs = (stepsFR (beginFR 2) ds).crs := by
    show (stepsFR (beginFR 2) (ds ++ ([("join", 1)] : Dl))).crs = _
    rw [stepsFR_app]
    exact crs_noncr (by decide)
  rw [e] at mc
  obtain ⟨x, y, u, ec⟩ := h.2 c mc
  exact ⟨_, _, _, by rw [ec]; rfl⟩
/-- a Tangle made of deeds that fit -/
theorem mk_tangle {C CB CM CT q a : Addr} {H : Hp} {us : List V} {R : Addr → Hp → Prop} {E : XK} {m : Int} {ds : Dl} (ha : H a = some (.lst us)) (na : a ≠ q) (hd : DsV q H us ds) (ok : DsOk m ds) (gp : gapsOk ds = true)
    (k : ∀ H' x, Same H H' → TanAt C q H' x m ds → R x H') :
    ∀ x dx, H x = none → H dx = none → dx ≠ x → spTangle C CB CM CT [.ref x, .int m, .ref a] (upd (upd H dx (.own x)) x (.ins C dx [])) (fun v H2 => v = .non ∧ R x H2) E := by
  intro x dx hx hdx ne
  have s0 : Same H (upd (upd H dx (.own x)) x (.ins C dx [])) := fun b o e => by rw [upd_ne (ne_of_none e hx), upd_ne (ne_of_none e hdx)]; exact e
  refine ⟨q, x, dx, a, us, ds, m, rfl, upd_same, s0 _ _ ha, na, hd.but (same_but s0), ok.t, ok.l, ok.m0, ok.m16, ok.m2, fun H' _ z => ?_, fun H' _ _ z => ?_, fun H' _ _ z => ?_, fun H' p ts b _ _ h1 h2 h3 => ⟨rfl, ?_⟩⟩
  · rw [gp] at z; cases z
  · rw [demF_ok ok.r] at z; cases z
  · rw [demF_ok ok.r] at z; cases z
  · exact k H' x (fun b' o e => b b' o (ne_of_none e hx) (s0 b' o e)) ⟨dx, p, ts, h1, h2, h3⟩
/-- a def called where errors may come -/
theorem pe_goW {X : Cx} {k : Nat} {f : Addr} {fd : FuncData} {ps : List Str} {sp : Sp} {x : Str} {p pos : Pos} {e : Expr} {es : List Expr} {t : TA} {W : WX} (c : CalX X.prog X.w X.K X.mg X.base x k f fd ps sp) (r : Room k X.A) (tk : Takes X W) (hg : Gl X x) (ha : PA X (e :: es) t) (d1 : (x == ("__debug__" : Str)) = false := by decide)
    (d2 : starEach (e :: es) X.env = (false, eval e X.env) :: starEach es X.env := by rfl) (d3 : (backTo pos (starEach es X.env)).any (·.1) = false := by rfl) : PE X (.Call (.Name x p) (e :: es) [] pos) (tCallS sp (WE W) t) :=
  pe_callS (E := WE W) c.F r hg c.mgf c.kp c.b (fun σ => passAt tk σ) ha d1 d2 d3

/-! ### a def held by a name is called; an error in the suite -/
def tCallV (i : Nat) (l : List (Addr × Sp)) (E : L2.St → XK) (t : TA) : TE := fun σ H Q => ∃ p ∈ l, σ[i]? = some (some (.ref p.1)) ∧ t σ H fun vs H1 => p.2 vs H1 Q (E σ)
theorem r_callV {i : Nat} {l : List (Addr × Sp)} {E : L2.St → XK} {t : TA} {σ : L2.St} {H : Hp} {Q : VK} (h : ∃ p ∈ l, σ[i]? = some (some (.ref p.1)) ∧ t σ H fun vs H1 => p.2 vs H1 Q (E σ)) : tCallV i l E t σ H Q := h
theorem r_callW {f : Addr} {sp : Sp} {i : Nat} {l : List (Addr × Sp)} {E : L2.St → XK} {t : TA} {σ : L2.St} {H : Hp} {Q : VK} (m : (f, sp) ∈ l) (e : σ[i]? = some (some (.ref f))) (h : t σ H fun vs H1 => sp vs H1 Q (E σ)) : tCallV i l E t σ H Q := ⟨(f, sp), m, e, h⟩
theorem pe_callV {X : Cx} {i : Nat} {x : Str} {l : List (Addr × Sp)} {E : L2.St → XK} {t : TA} {p pos : Pos} {e : Expr} {es : List Expr} (hN : X.N[i]? = some x) (hv : Vis X.env.scope x)
    (fs : ∀ p ∈ l, ∃ k fd ps, FnOk X.prog X.w X.K X.mg X.base (L2.CX X.prog X.w) k p.1 fd ps p.2 ∧ Room k X.A ∧ PySem.W.keepIn X.K (.ref p.1) = true ∧ Binds X.K fd ps []) (hx : ∀ σ, PassesAt (L2.CX X.prog X.w) X σ (E σ)) (ha : PA X (e :: es) t)
    (hd : (x == ("__debug__" : Str)) = false := by decide) (hcd : (x == ("__classdict__" : Str)) = false := by decide)
    (he : starEach (e :: es) X.env = (false, eval e X.env) :: starEach es X.env := by rfl) (hpl : (backTo pos (starEach es X.env)).any (·.1) = false := by rfl) :
    PE X (.Call (.Name x p) (e :: es) [] pos) (tCallV i l E t) := by
  refine ⟨fun pins s σ H Q I h => ?_⟩
  obtain ⟨pr, mp, hi, h⟩ := h
  obtain ⟨k, fd, ps, F, hr, hk, hb⟩ := fs pr mp
  refine wpAny_Call_Name_kw ?_
  refine thn ((pe_var (X := X) (pos := p) hN hv hd hcd).run pins s σ H (fun v G => v = .ref pr.1 ∧ G = H) I ⟨.ref pr.1, hi, rfl, rfl⟩) ?_
  rintro u s1 ⟨v, G, I1, r, rfl, rfl⟩
  cases r
  refine PySem.W.callWith_K (h₀ := X.base) I1.ok.mod.kin hk (thn (ha.run pos pins s1 σ _ _ I1 h) fun us s2 ⟨vs, H1, I2, r, q⟩ => ⟨I2.kIn, ?_⟩) he hpl
  exact run_fnS F hr hb (hx σ) I2 r q
def tTryT (K : PySem.W.Frag) (c : Value) (i : Nat) (tb : WX → TS) (ts : Addr → Value → Option Addr → TS) (Wout : WX) : TS := fun D σ H => tb (wAsT K c i ts Wout D) D σ H
theorem r_tryT {K : PySem.W.Frag} {c : Value} {i : Nat} {tb : WX → TS} {ts : Addr → Value → Option Addr → TS} {Wout : WX} {D : Ends} {σ : L2.St} {H : Hp} (h : tb (wAsT K c i ts Wout D) D σ H) : tTryT K c i tb ts Wout D σ H := h
theorem ps_tryU {X : Cx} {x n : Str} {c : Value} {i : Nat} {body suite : List Stmt} {b₀ : Stmt} {np pos pos' : Pos} {tb : WX → TS} {ts : Addr → Value → Option Addr → TS} {Wout : WX} (st : X.stack = X.env :: X.outer) (fr : X.env.frame = some X.env.locals) (ex : X.ex = []) (nd : X.N.Nodup) (at_ : X.N[i]? = some n) (lc : X.env.kindOf n = some .local) (nm : Names X x c) (tk : Takes X Wout)
    (B : ∀ (W : WX) (pn : List (Addr × Obj)) (xe : Value → Shared → Prop), Takes (X.tr pn xe) W → PassesOwn (model X.prog X.w) X.A X.env xe → PSs (X.tr pn xe) body (tb W))
    (S : ∀ (a : Addr) (oe : Obj) (cls : Value) (d : Option Addr) (pn : List (Addr × Obj)), Zc cls d oe → (∃ vs, oe.data = .fields vs) → PSs (X.suite a ((a, oe) :: pn)) (b₀ :: suite) (ts a cls d)) :
    PS X (.Try body [.ExceptHandler (some (.Name x np)) (some n) (b₀ :: suite) pos'] [] [] pos) (tTryT X.K c i tb ts Wout) := ps_tryT st fr ex nd at_ lc nm tk B S
def rIsS (K : PySem.W.Frag) (a : Addr) (cls : Value) (d : Option Addr) : List V → Hp → VK → Prop := fun xs H Q => ∃ (D dx : Addr) (fs : List (Str × V)) (c : V) (cv : Value) (b : Bool), cls = .ref D ∧ d = some dx ∧ xs = [.ref a, c] ∧ ExcC K D ∧ H dx = some (.xd fs) ∧
  (∀ u, RelV c u → u = cv) ∧ PySem.W.kitOne K (.ref D) cv = some b ∧ Q (.bl b) H
theorem call_isS {X : Cx} {a : Addr} {cls : Value} {d : Option Addr} {oe : Obj} {pn : List (Addr × Obj)} (hz : Zc cls d oe) (hf : ∃ vs, oe.data = .fields vs) : CallR (X.suite a ((a, oe) :: pn)) (.builtin "isinstance") (rIsS X.K a cls d) := by
  intro pins s σ H xs us Q I r h
  obtain ⟨D, dx, fs, c, cv, b, rfl, rfl, rfl, C, hd, hcv, e, q⟩ := h
  cases r with
  | cons rx rr =>
    cases rr with
    | cons rt rr =>
      cases rr
      cases rx
      have ec := hcv _ rt
      subst ec
      obtain ⟨hget, _⟩ := I.pin (a, oe) (List.mem_append.mpr (.inl List.mem_cons_self))
      obtain ⟨vs, hv⟩ := hf
      obtain ⟨mA, hns, hr⟩ := I.hok dx _ hd
      obtain ⟨od, ho, _⟩ := lookIn_ns hns
      have J : PySem.W.InstAt s.heap a oe D (some od) := ⟨hget, hz.1, by unfold PySem.W.notCls; rw [hv] <;> rfl, by rw [hz.2]; exact ho⟩
      have hcl : (PySem.W.clsIn X.K D).isSome = true := by
        obtain ⟨cd, hc, _⟩ := PySem.W.any_some C.hd
        rw [hc]
        rfl
      exact PySem.W.kia_one (PySem.W.kitx_exc (od := some od) hcl C.hg C.hk C.hs C.ha C.hn C.ht C.hm) I.kIn J e (fun z => nomatch z) fun tk => ⟨.bl b, H, I.kept (t' := tk) fun _ _ z => z, rfl, q⟩
theorem ring_ok {m : Int} {ds : Dl} {b : Int} (h0 : 0 ≤ m) (h24 : m ≤ 24) (h2 : m % 2 = 0) (ht : Typ b ds) (hl : ds.length ≤ 800) (hr : runD ds m = some 0) : totF (floorFR m ds) < 1000 ∧ (ringsF (floorFR m ds)).length = ds.length + 1 ∧ ∀ r ∈ ringsF (floorFR m ds), r.length ≤ 24 ∧ ∀ x ∈ r, x < 1000 := by
  obtain ⟨n, _, I⟩ := finv_all h0 h24 h2 ht hr ds.length (Nat.le_refl _)
  rw [List.take_length] at I
  have hm := I.mny
  have hc : totF (floorFR m ds) ≤ (stepsFR (beginFR m.toNat) ds).many := cntR_le _ _
  refine ⟨by omega, ?_, fun r mr => ?_⟩
  · unfold ringsF
    rw [List.length_map]
    exact I.rk
  · unfold ringsF at mr
    obtain ⟨r0, m0, rfl⟩ := List.mem_map.mp mr
    obtain ⟨l24, lm⟩ := I.rs r0 m0
    refine ⟨by rw [List.length_map]; exact l24, fun x mx => ?_⟩
    obtain ⟨y, my, rfl⟩ := List.mem_map.mp mx
    have h1 := nameF_lt (lm y my)
    have h3 : nameF (floorFR m ds) y < (stepsFR (beginFR m.toNat) ds).many := h1
    omega
def rimD (r : List Nat) : PyData := .tuple (r.map fun x => .int ((x : Nat) : Int))
theorem fit_rim {r : List Nat} (h : r.length ≤ 24 ∧ ∀ x ∈ r, x < 1000) : Fit 1 400 (rimD r) :=
  ((fitA_map (n := 0) (c := 13) (fun x : Nat => PyData.int ((x : Nat) : Int)) r fun x m => fit_int (by have := h.2 x m; omega)).tuple).le (Nat.le_refl _) (by have := h.1; omega)
theorem rim_mem {f : FR} {n : Nat} (h : (ringsF f).length = n + 1) : (ringsF f).getD 0 [] ∈ ringsF f := by
  cases e : ringsF f with
  | nil => rw [e] at h; cases h
  | cons r l => exact List.mem_cons_self
theorem dd_rim {K : PySem.W.Frag} {H : Hp} {p : Addr} {r : List Nat} (e : H p = some (.tup (nv r))) : Dd K H (.ref p) (rimD r) := .tup (SqT.of e) (dd_nv _)
theorem rw_head {H : Hp} {as : List Addr} {L : List (List Nat)} {n : Nat} (h : TupRw H as (L.map nvI)) (ln : L.length = n + 1) : ∃ a0 rest, as = a0 :: rest ∧ H a0 = some (.tup (nv (L.getD 0 []))) := by
  obtain ⟨la, hr⟩ := h
  rw [List.length_map] at la
  cases as with
  | nil => rw [ln] at la; cases la
  | cons a0 rest =>
    cases L with
    | nil => cases ln
    | cons r0 L =>
      refine ⟨a0, rest, rfl, ?_⟩
      show H a0 = some (.tup (nv r0))
      rw [nv_ints]
      exact hr 0 a0 (nvI r0) rfl rfl
theorem fit_ask {t : Nat} {r : List Nat} (ht : t < 1000) (h : r.length ≤ 24 ∧ ∀ x ∈ r, x < 1000) : Fit 64 15000000 (.list [.int ((t : Nat) : Int), rimD r, .int ((t : Nat) : Int), rimD r]) :=
  ((FitA.cons (fit_int (by omega)) (FitA.cons (fit_rim h) (FitA.cons (fit_int (by omega)) (FitA.cons (e := 0) (fit_rim h) FitA.nil)))).list).le (by decide) (by decide)
theorem fit_ask1 {t : Nat} {r : List Nat} (ht : t < 1000) (h : r.length ≤ 24 ∧ ∀ x ∈ r, x < 1000) : Fit 64 15000000 (.list [.int ((t : Nat) : Int), rimD r]) :=
  ((FitA.cons (fit_int (by omega)) (FitA.cons (e := 0) (fit_rim h) FitA.nil)).list).le (by decide) (by decide)
theorem r_neS {x : Str} {H : Hp} {Q : VK} (h : Q (.bl false) H) : rNe (.str x) (.str x) H Q := ⟨rfl, by rw [decide_eq_true rfl]; exact h⟩
theorem r_neI {x : Int} {H : Hp} {Q : VK} (h : Q (.bl false) H) : rNe (.int x) (.int x) H Q := ⟨rfl, by rw [decide_eq_true rfl]; exact h⟩
theorem r_callS {sp : Sp} {E : L2.St → XK} {t : TA} {σ : L2.St} {H : Hp} {Q : VK} (h : t σ H fun vs H1 => sp vs H1 Q (E σ)) : tCallS sp E t σ H Q := h
end Rp
namespace Rp
open PySem PySem.Spec PyProof.Rows L2
/-! ### zip of three: lists and tuples in any order -/
def ItzC (K : PySem.W.Frag) (t u r : Bool) (a b c : Addr) : It :=
  ⟨fun i H => ∃ (xs ys zs : List V) (x y z : V), SqB t K H a xs ∧ SqB u K H b ys ∧ SqB r K H c zs ∧ xs[i]? = some x ∧ ys[i]? = some y ∧ zs[i]? = some z,
    fun i H v H' => ∃ T x y z, v = .ref T ∧ H T = none ∧ H' = upd H T (.tup [x, y, z]) ∧ (∀ xs, SqB t K H a xs → xs[i]? = some x) ∧ (∀ ys, SqB u K H b ys → ys[i]? = some y) ∧ ∀ zs, SqB r K H c zs → zs[i]? = some z,
    fun i H => ∃ xs ys zs : List V, SqB t K H a xs ∧ SqB u K H b ys ∧ SqB r K H c zs ∧ i = min (min xs.length ys.length) zs.length⟩
theorem turn_zipC {P : Program} {w : World} {K : PySem.W.Frag} {elts : List Expr} {kk : Nat} {tpos : Pos} {t u r : Bool} {a b c0 z TI TO i1 i2 i3 : Addr} (S : ZipSep3 z TI TO i1 i2 i3 [i1, a] [i2, b] [i3, c0]) (n1 : a ≠ i1) (n2 : b ≠ i2) (n3 : c0 ≠ i3) :
    Turn P w K (.Tuple elts kk tpos) (ItzC K t u r a b c0) [z, TI, TO, i1, i2, i3] z (fun i h => IsZip h z TI TO .none ∧ IsTupOf3 h TI (.ref i1) (.ref i2) (.ref i3) ∧ (∃ x y v, IsTupOf3 h TO x y v) ∧ ItB t h i1 a i ∧ ItB u h i2 b i ∧ ItB r h i3 c0 i) where
  mem := by simp
  obj := fun i h st c hc => by
    obtain ⟨hz, hTI, ⟨x, y, v, hTO⟩, h1, h2, h3⟩ := st
    have e' : c = z ∨ c = TI ∨ c = TO ∨ c = i1 ∨ c = i2 ∨ c = i3 := by simpa using hc
    rcases e' with q | q | q | q | q | q
    · rw [q]; exact ⟨_, hz, fun v q => nomatch q⟩
    · rw [q]; exact ⟨_, hTI, fun v q => nomatch q⟩
    · rw [q]; exact ⟨_, hTO, fun v q => nomatch q⟩
    · rw [q]; exact h1.obj
    · rw [q]; exact h2.obj
    · rw [q]; exact h3.obj
  keep := fun i h h' st k => by
    obtain ⟨hz, hTI, ⟨x, y, v, hTO⟩, h1, h2, h3⟩ := st
    exact ⟨k z (by simp) _ hz, k TI (by simp) _ hTI, ⟨x, y, v, k TO (by simp) _ hTO⟩, h1.at fun o q => k i1 (by simp) o q, h2.at fun o q => k i2 (by simp) o q, h3.at fun o q => k i3 (by simp) o q⟩
  item := by
    intro X hP hw hK hc i pins s σ H E I hf st hg
    subst hP hw hK
    obtain ⟨hz, hTI, ⟨x0, y0, v0, hTO⟩, h1, h2, h3⟩ := st
    obtain ⟨xs, ys, zs, x, y, v, hqx, hqy, hqz, hx, hy, hv⟩ := hg
    obtain ⟨its, rv, p⟩ := seq_b I hqx
    obtain ⟨its2, rv2, p2⟩ := seq_b I hqy
    obtain ⟨its3, rv3, p3⟩ := seq_b I hqz
    obtain ⟨v1, hu, ru⟩ := rv.get hx
    obtain ⟨v2, hu2, ru2⟩ := rv2.get hy
    obtain ⟨v3, hu3, ru3⟩ := rv3.get hv
    have hzl : z < s.heap.objs.size := Heap.lt_size hz
    have l1 : i < its.toArray.size := by have := (List.getElem?_eq_some_iff.mp hu).1; simpa using this
    have l2 : i < its2.toArray.size := by have := (List.getElem?_eq_some_iff.mp hu2).1; simpa using this
    have l3 : i < its3.toArray.size := by have := (List.getElem?_eq_some_iff.mp hu3).1; simpa using this
    have hh : X.A.in1.handled = none := I.ok.hd hc
    refine wpAny_pyNext_zipD3_item S (draws_b t hh i1 a n1 its.toArray) (draws_b u hh i2 b n2 its2.toArray) (draws_b r hh i3 c0 n3 its3.toArray) hz hTI hTO ⟨h1, p⟩ ⟨h2, p2⟩ ⟨h3, p3⟩ l1 l2 l3 fun x1 x2 x3 h' tk hx1 hx2 hx3 z' TO' st1 st2 st3 hT hsz hk => ?_
    have ex1 : x1 = v1 := Option.some.inj (hx1.symm.trans (by simpa using hu))
    have ex2 : x2 = v2 := Option.some.inj (hx2.symm.trans (by simpa using hu2))
    have ex3 : x3 = v3 := Option.some.inj (hx3.symm.trans (by simpa using hu3))
    subst ex1 ex2 ex3
    refine ⟨_, rfl, wpAny_letOwnedTupleGo_zip (s := { s with heap := h', toks := tk }) z' fun h'' z'' sb => ?_⟩
    have hT2 : h''.get? s.heap.objs.size = some { cls := .type "tuple", data := .seq #[x1, x2, x3] } := (sb.2 _ (Nat.ne_of_gt hzl)).trans hT
    have new : ObjOk X.prog X.w (upd H s.heap.objs.size (.tup [x, y, v])) h'' s.heap.objs.size (.tup [x, y, v]) :=
      ⟨by show 3 ≤ sizeLine; decide, [x1, x2, x3], .cons ru (.cons ru2 (.cons ru3 .nil)), ⟨_, hT2, rfl, _, rfl⟩⟩
    have zi1 : i1 ≠ z := fun q => S.zf1 (by rw [← q]; simp)
    have zi2 : i2 ≠ z := fun q => S.zf2 (by rw [← q]; simp)
    have zi3 : i3 ≠ z := fun q => S.zf3 (by rw [← q]; simp)
    have I1 : Inv X pins σ (upd H s.heap.objs.size (.tup [x, y, v])) { s with heap := h'', toks := tk } :=
      I.turnedNew (t' := tk) (ch := [z, TI, TO, i1, i2, i3]) (fun c o hb q => (sb.2 c (fun q' => hb (by simp [q']))).trans (hk c o (fun q' => hb (by simp [q'])) (fun q' => hb (by simp [q'])) (fun q' => hb (by simp [q'])) (fun q' => hb (by simp [q'])) (fun q' => hb (by simp [q'])) q)) hf (Nat.le_refl _) new
    refine ⟨.ref s.heap.objs.size, _, I1, rfl, ⟨_, x, y, v, rfl, I.hok.fresh (Nat.le_refl _), rfl, fun l hl => by rw [seq_b_inj I hl hqx]; exact hx, fun l hl => by rw [seq_b_inj I hl hqy]; exact hy, fun l hl => by rw [seq_b_inj I hl hqz]; exact hv⟩, ⟨z'', ?_, ⟨x1, x2, x3, ?_⟩, ?_, ?_, ?_⟩, fun c hcm => ?_⟩
    · exact (sb.2 _ S.TIz).trans (hk _ _ S.TIz S.TITO S.TIi1 S.TIi2 S.TIi3 hTI)
    · exact (sb.2 _ S.TOz).trans TO'
    · exact st1.1.at fun o q => (sb.2 _ zi1).trans q
    · exact st2.1.at fun o q => (sb.2 _ zi2).trans q
    · exact st3.1.at fun o q => (sb.2 _ zi3).trans q
    · have hlt : c < s.heap.objs.size := by
        have e' : c = z ∨ c = TI ∨ c = TO ∨ c = i1 ∨ c = i2 ∨ c = i3 := by simpa using hcm
        rcases e' with q | q | q | q | q | q
        · rw [q]; exact hzl
        · rw [q]; exact Heap.lt_size hTI
        · rw [q]; exact Heap.lt_size hTO
        · rw [q]; obtain ⟨_, e1, _⟩ := h1.obj; exact Heap.lt_size e1
        · rw [q]; obtain ⟨_, e2, _⟩ := h2.obj; exact Heap.lt_size e2
        · rw [q]; obtain ⟨_, e3, _⟩ := h3.obj; exact Heap.lt_size e3
      rw [upd_ne (Nat.ne_of_lt hlt)]
      exact (hf c hcm).1
  done := by
    intro X hP hw hK hc i pins s σ H E I hf st hg
    subst hP hw hK
    obtain ⟨hz, hTI, ⟨x0, y0, v0, hTO⟩, h1, h2, h3⟩ := st
    obtain ⟨xs, ys, zs, hqx, hqy, hqz, hend⟩ := hg
    obtain ⟨its, rv, p⟩ := seq_b I hqx
    obtain ⟨its2, rv2, p2⟩ := seq_b I hqy
    obtain ⟨its3, rv3, p3⟩ := seq_b I hqz
    have l1 := rv.length
    have l2 := rv2.length
    have l3 := rv3.length
    have hh : X.A.in1.handled = none := I.ok.hd hc
    refine wpAny_pyNext_zipD3_end S (draws_b t hh i1 a n1 its.toArray) (draws_b u hh i2 b n2 its2.toArray) (draws_b r hh i3 c0 n3 its3.toArray) hz hTI hTO ⟨h1, p⟩ ⟨h2, p2⟩ ⟨h3, p3⟩ (by simp; omega) (by simp; omega) (by simp; omega) (by simp; omega) fun h' tk hk => ?_
    exact ⟨rfl, I.turnedL (t' := tk) (ch := [z, TI, TO, i1, i2, i3]) (fun c o hb q => hk c o (fun q' => hb (by simp [q'])) (fun q' => hb (by simp [q'])) (fun q' => hb (by simp [q'])) (fun q' => hb (by simp [q'])) (fun q' => hb (by simp [q'])) q) hf⟩
  self := fun A i s Q E st h => wpAny_pyIter_zip st.1 h
def iZipC (K : PySem.W.Frag) (ta : TA) : TI := fun σ H R => ta σ H fun vs H1 => ∃ (t u r : Bool) (a b c : Addr) (xs ys zs : List V), vs = [.ref a, .ref b, .ref c] ∧ SqB t K H1 a xs ∧ SqB u K H1 b ys ∧ SqB r K H1 c zs ∧ R (ItzC K t u r a b c) H1
theorem r_izipC {K : PySem.W.Frag} {ta : TA} {σ : L2.St} {H : Hp} {R : It → Hp → Prop} (h : ta σ H fun vs H1 => ∃ (t u r : Bool) (a b c : Addr) (xs ys zs : List V), vs = [.ref a, .ref b, .ref c] ∧ SqB t K H1 a xs ∧ SqB u K H1 b ys ∧ SqB r K H1 c zs ∧ R (ItzC K t u r a b c) H1) : iZipC K ta σ H R := h
theorem pi_zipC {X : Cx} {e e2 e3 : Expr} {ta : TA} {p pos tpos : Pos} {elts : List Expr} {kk : Nat} (hg : Gl X "zip") (hm : X.mg "zip" = none) (ha : PA X [e, e2, e3] ta)
    (hs : starEach [e, e2, e3] X.env = (false, eval e X.env) :: starEach [e2, e3] X.env := by rfl) (hpl : (backTo pos (starEach [e2, e3] X.env)).any (·.1) = false := by rfl) :
    PI X (.Tuple elts kk tpos) (.Call (.Name "zip" p) [e, e2, e3] [] pos) (iZipC X.K ta) := by
  refine ⟨fun pins s σ H R I h => ?_⟩
  refine Call_ (ld_blt I hg hm PyProof.Rows.boot_zip (PyProof.Rows.callWith_type1 (thn (ha.run pos pins s σ H _ I h) fun us s1 ⟨vs, H1, I1, r1, q1⟩ => ?_) hs hpl))
  obtain ⟨t, u, r0, a, b, c0, xs, ys, zs, ex, hqx, hqy, hqz, q⟩ := q1
  subst ex
  cases r1 with
  | cons r rr =>
    cases rr with
    | cons r' rr =>
      cases rr with
      | cons r'' rr =>
        cases rr
        cases r
        cases r'
        cases r''
        obtain ⟨its, rv, p1⟩ := seq_b I1 hqx
        obtain ⟨its2, rv2, p2⟩ := seq_b I1 hqy
        obtain ⟨its3, rv3, p3⟩ := seq_b I1 hqz
        have la := p1.lt
        have lb := p2.lt
        have lc := p3.lt
        refine zip_begins3 (begins_b t a its.toArray) (begins_b u b its2.toArray) (begins_b r0 c0 its3.toArray) p1 p2 p3 fun h' hz hTI hTO h1 h2 h3 hsz hk => wpAny_pyIter_zip hz ?_
        have I2 : Inv X pins σ H1 { s1 with heap := h' } := I1.kept (t' := s1.toks) hk
        have sep : ZipSep3 (s1.heap.objs.size + 5) (s1.heap.objs.size + 3) (s1.heap.objs.size + 4) s1.heap.objs.size (s1.heap.objs.size + 1) (s1.heap.objs.size + 2) [s1.heap.objs.size, a] [s1.heap.objs.size + 1, b] [s1.heap.objs.size + 2, c0] :=
          zip_sep3 (fun c m => by rw [List.mem_singleton.mp m]; exact la) (fun c m => by rw [List.mem_singleton.mp m]; exact lb) (fun c m => by rw [List.mem_singleton.mp m]; exact lc)
        refine ⟨s1.heap.objs.size + 5, [s1.heap.objs.size + 5, s1.heap.objs.size + 3, s1.heap.objs.size + 4, s1.heap.objs.size, s1.heap.objs.size + 1, s1.heap.objs.size + 2], _, _, H1, rfl, I2, turn_zipC sep (Nat.ne_of_lt la) (Nat.ne_of_lt (Nat.lt_succ_of_lt lb)) (Nat.ne_of_lt (Nat.lt_succ_of_lt (Nat.lt_succ_of_lt lc))), ⟨hz, hTI, ⟨_, _, _, hTO⟩, itB_0 h1, itB_0 h2, itB_0 h3⟩, fun c hcm => ?_, q⟩
        have e' : c = s1.heap.objs.size + 5 ∨ c = s1.heap.objs.size + 3 ∨ c = s1.heap.objs.size + 4 ∨ c = s1.heap.objs.size ∨ c = s1.heap.objs.size + 1 ∨ c = s1.heap.objs.size + 2 := by simpa using hcm
        have hle : s1.heap.objs.size ≤ c := by
          rcases e' with z | z | z | z | z | z
          · rw [z]; exact Nat.le_add_right _ _
          · rw [z]; exact Nat.le_add_right _ _
          · rw [z]; exact Nat.le_add_right _ _
          · rw [z]; exact Nat.le_refl _
          · rw [z]; exact Nat.le_add_right _ _
          · rw [z]; exact Nat.le_add_right _ _
        exact I1.fpOk hle (I1.hok.fresh hle)
def YTri (f g h : Nat → Option V) : Nat → Hp → V → Hp → Prop := fun i H v H' => ∃ T x y z, v = .ref T ∧ H T = none ∧ H' = upd H T (.tup [x, y, z]) ∧ f i = some x ∧ g i = some y ∧ h i = some z
theorem walk_zipC {K : PySem.W.Frag} {t u r : Bool} {a b c : Addr} {xs ys zs : List V} {n : Nat} (hn : n = min (min xs.length ys.length) zs.length) : Walk (ItzC K t u r a b c) n (fun H => SqB t K H a xs ∧ SqB u K H b ys ∧ SqB r K H c zs) (YTri (fun i => xs[i]?) (fun i => ys[i]?) (fun i => zs[i]?)) := by
  subst hn
  constructor
  · intro i H hi ⟨h1, h2, h3⟩
    exact ⟨xs, ys, zs, xs[i]'(by omega), ys[i]'(by omega), zs[i]'(by omega), h1, h2, h3, List.getElem?_eq_getElem _, List.getElem?_eq_getElem _, List.getElem?_eq_getElem _⟩
  · intro H ⟨h1, h2, h3⟩
    exact ⟨xs, ys, zs, h1, h2, h3, rfl⟩
  · rintro i H v H' _ ⟨h1, h2, h3⟩ ⟨T, x, y, z, e1, e2, e3, e4, e5, e6⟩
    exact ⟨T, x, y, z, e1, e2, e3, e4 xs h1, e5 ys h2, e6 zs h3⟩
end Rp
namespace Rp
open PySem PySem.Spec PyProof.Rows L2 LamX RZ K25
/-! ### floors, step by step -/
theorem lab_pair {f : FR} {p : Nat × Nat} (m : p ∈ f.ps) : labF f p.1 = labF f p.2 := by
  obtain ⟨par, d, j⟩ := par_for f.ps
  show roundsF f.ps f.ps.length id p.1 = roundsF f.ps f.ps.length id p.2
  rw [rounds_root d j, rounds_root d j]
  exact (j p.1 p.2).mpr (.fwd m (.refl _))
theorem name_pair {f : FR} {p : Nat × Nat} (m : p ∈ f.ps) : nameF f p.1 = nameF f p.2 := by
  unfold nameF
  rw [lab_pair m]
theorem pre_crs : ∀ (ds : Dl) (f : FR), ∃ l, (stepsFR f ds).crs = f.crs ++ l
  | [], f => ⟨[], (List.append_nil _).symm⟩
  | (w, g) :: ds, f => by
    obtain ⟨l, e⟩ := pre_crs ds (stepFR f w g.toNat)
    by_cases h : isCr w = true
    · refine ⟨(w, fourOf f.ring g.toNat f.many) :: l, ?_⟩
      show (stepsFR (stepFR f w g.toNat) ds).crs = _
      rw [e, show (stepFR f w g.toNat).crs = f.crs ++ [(w, fourOf f.ring g.toNat f.many)] from if_pos h, List.append_assoc]
      rfl
    · refine ⟨l, ?_⟩
      show (stepsFR (stepFR f w g.toNat) ds).crs = _
      rw [e, crs_noncr h]
theorem pre_ps : ∀ (ds : Dl) (f : FR) {p : Nat × Nat}, p ∈ f.ps → p ∈ (stepsFR f ds).ps
  | [], _, _, m => m
  | (w, g) :: ds, f, p, m => pre_ps ds (stepFR f w g.toNat) (by
    unfold stepFR
    by_cases h : w = "join" ∧ 2 < f.ring.length
    · rw [if_pos h]
      exact List.mem_append_left _ m
    · rw [if_neg h]
      exact m)
theorem pre_rings : ∀ (ds : Dl) (f : FR), ∃ l, (stepsFR f ds).rings = f.rings ++ l
  | [], f => ⟨[], (List.append_nil _).symm⟩
  | (w, g) :: ds, f => by
    obtain ⟨l, e⟩ := pre_rings ds (stepFR f w g.toNat)
    refine ⟨ringOf w f.ring g.toNat f.many :: l, ?_⟩
    show (stepsFR (stepFR f w g.toNat) ds).rings = _
    rw [e]
    show (f.rings ++ [_]) ++ l = _
    rw [List.append_assoc]
    rfl
theorem last_ring : ∀ (ds : Dl) (f : FR) {l : List (List Nat)}, f.rings = l ++ [f.ring] → ∃ l', (stepsFR f ds).rings = l' ++ [(stepsFR f ds).ring]
  | [], _, l, e => ⟨l, e⟩
  | (w, g) :: ds, f, _, _ => last_ring ds (stepFR f w g.toNat) (l := f.rings) rfl
theorem ring_at {m : Int} {ds : Dl} {i : Nat} (h : i ≤ ds.length) : (floorFR m ds).rings[i]? = some (stepsFR (beginFR m.toNat) (ds.take i)).ring := by
  obtain ⟨l', e'⟩ := last_ring (ds.take i) (beginFR m.toNat) (l := []) rfl
  obtain ⟨l, e⟩ := pre_rings (ds.drop i) (stepsFR (beginFR m.toNat) (ds.take i))
  rw [← stepsFR_app, List.take_append_drop] at e
  have ln := rings_len (ds.take i) (beginFR m.toNat)
  rw [e', List.length_append, List.length_take] at ln
  have l1 : (beginFR m.toNat).rings.length = 1 := rfl
  rw [l1] at ln
  have hl : l'.length = i := by
    simp only [List.length_singleton] at ln
    omega
  show (stepsFR (beginFR m.toNat) ds).rings[i]? = _
  rw [e, e', List.append_assoc, List.getElem?_append_right (by omega), hl, Nat.sub_self]
  rfl
theorem cr_at {m : Int} {ds : Dl} {i : Nat} {w : Str} {g : Int} (ed : ds[i]? = some (w, g)) (h : isCr w = true) : (floorFR m ds).crs[(stepsFR (beginFR m.toNat) (ds.take i)).crs.length]? = some (w, fourOf (stepsFR (beginFR m.toNat) (ds.take i)).ring g.toNat (stepsFR (beginFR m.toNat) (ds.take i)).many) := by
  have hi := (List.getElem?_eq_some_iff.mp ed).1
  obtain ⟨l, e⟩ := pre_crs (ds.drop (i + 1)) (stepsFR (beginFR m.toNat) (ds.take (i + 1)))
  rw [← stepsFR_app, List.take_append_drop, stepsFR_take ed, show (stepFR (stepsFR (beginFR m.toNat) (ds.take i)) w g.toNat).crs = (stepsFR (beginFR m.toNat) (ds.take i)).crs ++ [(w, fourOf (stepsFR (beginFR m.toNat) (ds.take i)).ring g.toNat (stepsFR (beginFR m.toNat) (ds.take i)).many)] from if_pos h] at e
  show (stepsFR (beginFR m.toNat) ds).crs[_]? = _
  rw [e, List.append_assoc, List.getElem?_append_right (Nat.le_refl _), Nat.sub_self]
  rfl
theorem pair_at {m : Int} {ds : Dl} {i : Nat} {g : Int} (ed : ds[i]? = some (("join" : Str), g)) (h : 2 < (stepsFR (beginFR m.toNat) (ds.take i)).ring.length) : ((stepsFR (beginFR m.toNat) (ds.take i)).ring.getD (g.toNat - 1) 0, (stepsFR (beginFR m.toNat) (ds.take i)).ring.getD (g.toNat + 1) 0) ∈ (floorFR m ds).ps := by
  have e := pre_ps (ds.drop (i + 1)) (stepsFR (beginFR m.toNat) (ds.take (i + 1))) (p := ((stepsFR (beginFR m.toNat) (ds.take i)).ring.getD (g.toNat - 1) 0, (stepsFR (beginFR m.toNat) (ds.take i)).ring.getD (g.toNat + 1) 0)) (by
    rw [stepsFR_take ed]
    unfold stepFR
    rw [if_pos (c := ("join" : Str) = "join" ∧ _) ⟨rfl, h⟩]
    exact List.mem_append_right _ (List.mem_singleton.mpr rfl))
  rw [← stepsFR_app, List.take_append_drop] at e
  exact e
/-! ### tuples of numbers: slices, sums, comparison -/
theorem ne_nv {K : PySem.W.Frag} {H : Hp} {Q : VK} {a b : Addr} {xs ys : List Nat} (ha : H a = some (.tup (nv xs))) (hb : H b = some (.tup (nv ys))) (e : xs = ys) (h : Q (.bl false) H) : rNeD K (.ref a) (.ref b) H Q := by
  subst e
  rw [nv_ints] at ha hb
  refine ne_tupsX ha hb ?_
  rw [decide_eq_true rfl]
  exact h
theorem r_catX {K : PySem.W.Frag} {H : Hp} {a b : Addr} {xs ys : List Nat} {Q : VK} (ha : H a = some (.tup (nv xs))) (hb : H b = some (.tup (nv ys))) (hz : xs.length + ys.length ≤ 1000)
    (h : ∀ p G, Same H G → G p = some (.tup (nv (xs ++ ys))) → Q (.ref p) G) : rCatA K (.ref a) (.ref b) H Q := by
  refine ⟨a, b, nv xs, nv ys, rfl, rfl, SqT.of ha, SqT.of hb, by rw [nv_len, nv_len]; exact Nat.le_trans hz big1, fun e => ?_, fun _ e => ?_, fun _ _ p hp => ?_⟩
  · have : xs = [] := List.map_eq_nil_iff.mp e
    subst this
    exact h b H (Same.refl _) hb
  · have : ys = [] := List.map_eq_nil_iff.mp e
    subst this
    exact h a H (Same.refl _) (by rw [List.append_nil]; exact ha)
  · refine h p _ (same_neu (Same.refl _) hp) ?_
    rw [nv_app]
    exact upd_same
theorem r_slLo {K : PySem.W.Frag} {H : Hp} {Q : VK} {a : Addr} {xs : List Nat} {n : Nat} (hn : n ≤ xs.length) (ha : H a = some (.tup (nv xs))) (h : ∀ b H', Same H H' → H' b = some (.tup (nv (xs.take n))) → Q (.ref b) H') : rSlA K (.ref a) none (some (n : Int)) H Q :=
  r_slA ha fun b H' s e => h b H' s (by rw [e, cut_loN hn])
theorem r_slHi {K : PySem.W.Frag} {H : Hp} {Q : VK} {a : Addr} {xs : List Nat} {n : Nat} (ha : H a = some (.tup (nv xs))) (h : ∀ b H', Same H H' → H' b = some (.tup (nv (xs.drop n))) → Q (.ref b) H') : rSlA K (.ref a) (some (n : Int)) none H Q :=
  r_slA ha fun b H' s e => h b H' s (by rw [e, cut_over])
theorem ix_nv {xs : List Nat} {i : Nat} (h : i < xs.length) : atI (nv xs) (i : Int) = some (.int ((xs.getD i 0 : Nat) : Int)) := nv_at h
theorem getD_map {f : Nat → Nat} {r : List Nat} {i : Nat} (h : i < r.length) : (r.map f).getD i 0 = f (r.getD i 0) := by
  rw [List.getD_eq_getElem?_getD, List.getD_eq_getElem?_getD, List.getElem?_map, List.getElem?_eq_getElem h]
  rfl
end Rp
namespace K25
open PySem PySem.Spec PyProof.Rows L2 Rp LamX RZ

theorem open_take {nm : Nat → Nat} {r A B : List Nat} {g x : Nat} (h : g < r.length) : ((r.take (g + 1) ++ [x] ++ A ++ B).map nm).take (g + 1) = (r.map nm).take (g + 1) := by
  rw [List.append_assoc, List.append_assoc, List.map_append, List.take_append_of_le_length (by rw [List.length_map, List.length_take]; omega), List.map_take, List.take_take, Nat.min_self]
theorem open_drop {nm : Nat → Nat} {r A B : List Nat} {g x : Nat} (h : g < r.length) : ((r.take (g + 1) ++ [x] ++ A ++ B).map nm).drop (g + 2) = (A ++ B).map nm := by
  have hl : (r.take (g + 1) ++ [x]).length = g + 2 := by rw [List.length_append, List.length_take, List.length_singleton]; omega
  rw [List.append_assoc (r.take (g + 1) ++ [x]), List.map_append, List.drop_append_of_le_length (by rw [List.length_map, hl]; exact Nat.le_refl _), List.drop_of_length_le (by rw [List.length_map, hl]; exact Nat.le_refl _), List.nil_append]
def spSteps25 : Sp := fun vs H Q _ => ∃ (q a pr pc : Addr) (us : List V) (ds : Dl) (m : Int) (as cs : List Addr), vs = [.ref a, .ref pr, .ref pc] ∧ H a = some (.lst us) ∧ DsV q H us ds ∧ Typ 24 ds ∧ ds.length ≤ 800 ∧ 0 ≤ m ∧ m ≤ 24 ∧ m % 2 = 0 ∧ runD ds m = some 0 ∧
  H pr = some (.tup (as.map V.ref)) ∧ TupRw H as ((ringsF (floorFR m ds)).map nvI) ∧ H pc = some (.tup (cs.map V.ref)) ∧ CrT H cs (crsF (floorFR m ds)) ∧ ∀ H', Same H H' → Q (.bl true) H'

section
variable {P : Program} {w : World} {K : PySem.W.Frag} {mg : Str → Option Value} {base : Heap} {ad : Ad}
abbrev sLawStepsRight : Stmt := top 43
theorem scLawStepsRight : FnScope ["deeds", "rings", "crossings", "at", "word", "gap", "old", "new"] ["deeds", "rings", "crossings"] (defScope sLawStepsRight) := ⟨rfl, rfl, rfl, by decide +kernel, rfl, by decide +kernel, by decide +kernel⟩
theorem ok_LawStepsRight {f : Addr} {fd : FuncData} (F : Fun K "_law_steps_right" "_law_steps_right" sLawStepsRight f fd) (T : Txt K mg ad) (hM : HasMods base)   : FnG P w K mg base 1 f fd ["deeds", "rings", "crossings"] spSteps25 := by
  refine fng F scLawStepsRight (fun {vs H Q E} h => ?_) (fun {cdv A fr s H vs Q E} hg hr h => ?_)
  · obtain ⟨q, a, pr, pc, us, ds, m, as, cs, rfl, ha, hds, ht, hl8, h0, h24, h2, hr0, epr, hTR, epc, hCR, k⟩ := h
    rfl
  · obtain ⟨q, a, pr, pc, us, ds, m, as, cs, rfl, ha, hds, ht, hl8, h0, h24, h2, hr0, epr, hTR, epc, hCR, k⟩ := h
    refine ⟨_, (pss_cons (ps_set (i := 3) scLawStepsRight.nd rfl (Or.inl rfl) pe_int)
  (pss_cons (ps_for PassesOwn.never rfl (pi_zipC (by rfl) T.z_zip (pa_cons (pv 0) (pa_cons (pv 1) (pa_cons (pe_slice sl_tupA (pv 1) (po_some pe_int) po_none) pa_nil)))) (pg_tup rfl (pgs_cons (pg_tup rfl (pgs_cons (pg_name (i := 4) scLawStepsRight.nd rfl (Or.inl rfl)) (pgs_cons (pg_name (i := 5) scLawStepsRight.nd rfl (Or.inl rfl)) pgs_nil))) (pgs_cons (pg_name (i := 6) scLawStepsRight.nd rfl (Or.inl rfl)) (pgs_cons (pg_name (i := 7) scLawStepsRight.nd rfl (Or.inl rfl)) pgs_nil))))
  (pss_one (ps_if (pt_cmpR op_in_seq (pv 4) (pe_tup (pa_cons pe_str (pa_cons pe_str pa_nil))) rfl)
  (pss_cons (ps_if (PW.pt (pw_or (pt_cmpR (op_neD hr.units) (pv 7) (pe_op op_catA (pe_op op_catA (pe_slice sl_tupA (pv 6) po_none (po_some (pv 5))) (pe_tup (pa_cons (pe_ix ix_tup (pe_ix ix_tup (pv 2) (pv 3) (fun _ _ => rfl)) pe_int (fun _ _ => rfl)) pa_nil))) (pe_slice sl_tupA (pv 6) (po_some (pe_op op_add (pv 5) pe_int)) po_none)) (nomark _)) (pw_or1 (pt_cmpR op_ne (pe_ix ix_tup (pv 6) (pv 5) (fun _ _ => rfl)) (pe_ix ix_tup (pe_ix ix_tup (pv 2) (pv 3) (fun _ _ => rfl)) pe_int (fun _ _ => rfl)) (nomark _)))))
  (pss_one (ps_ret pe_bl))
  pss_nil)
  (pss_one (ps_set (i := 3) scLawStepsRight.nd rfl (Or.inl rfl) (pe_op op_add (pv 3) pe_int))))
  (pss_one (ps_if (pt_cmpR op_eq (pv 4) pe_str (nomark _))
  (pss_one (ps_if (PW.pt (pw_or (PW.pt (pw_and (pt_cmpR op_gt (pe_callB call_len_seq (by rfl) T.z_len PySem.boot_len (pa_cons (pv 6) pa_nil)) pe_int (nomark _)) (pw_and1 (pt_cmpR op_ne (pe_ix ix_tup (pv 6) (pe_op op_sub (pv 5) pe_int) (fun _ _ => rfl)) (pe_ix ix_tup (pv 6) (pe_op op_add (pv 5) pe_int) (fun _ _ => rfl)) (nomark _))))) (pw_or1 (pt_cmpR (op_neD hr.units) (pv 7) (pe_op op_catA (pe_slice sl_tupA (pv 6) po_none (po_some (pv 5))) (pe_slice sl_tupA (pv 6) (po_some (pe_op op_add (pv 5) pe_int)) po_none)) (nomark _)))))
  (pss_one (ps_ret pe_bl))
  pss_nil))
  (pss_one (ps_if (pt_cmpR op_eq (pv 4) pe_str (nomark _))
  (pss_one (ps_if (pt_cmpR (op_neD hr.units) (pv 7) (pe_op op_catA (pe_slice sl_tupA (pv 6) (po_some (pv 5)) po_none) (pe_slice sl_tupA (pv 6) po_none (po_some (pv 5)))) (nomark _))
  (pss_one (ps_ret pe_bl))
  pss_nil))
  (pss_one (ps_if (PW.pt (pw_or (pt_cmpR (op_neD hr.units) (pe_slice sl_tupA (pv 7) po_none (po_some (pe_op op_add (pv 5) pe_int))) (pe_slice sl_tupA (pv 6) po_none (po_some (pe_op op_add (pv 5) pe_int))) (nomark _)) (pw_or1 (pt_cmpR (op_neD hr.units) (pe_slice sl_tupA (pv 7) (po_some (pe_op op_add (pv 5) pe_int)) po_none) (pe_ifExp (pt_cmpR op_gt (pe_callB call_len_seq (by rfl) T.z_len PySem.boot_len (pa_cons (pv 6) pa_nil)) pe_int (nomark _)) (pe_slice sl_tupA (pv 6) (po_some (pv 5)) po_none) (pe_tup pa_nil)) (nomark _)))))
  (pss_one (ps_ret pe_bl))
  pss_nil)))))))))
  (pss_one (ps_ret (pe_and (pe_cmpR op_eq (pv 3) (pe_callB call_len_seq (by rfl) T.z_len PySem.boot_len (pa_cons (pv 2) pa_nil)) (nomark _)) (pe_one (pe_cmpR op_eq (pe_callB call_len_seq (by rfl) T.z_len PySem.boot_len (pa_cons (pe_ix ix_tup (pv 1) (pe_un un_neg pe_int) (fun _ _ => rfl)) pa_nil)) pe_int (nomark _)))))))), ?_⟩
    refine r_start (l := [some (.ref a), some (.ref pr), some (.ref pc), none, none, none, none, none]) rfl ?_
    walk_at "rds"
    have lds := hds.len
    have lr : (ringsF (floorFR m ds)).length = ds.length + 1 := (ring_ok h0 h24 h2 ht hl8 hr0).2.1
    have la : as.length = ds.length + 1 := by rw [hTR.1, List.length_map, lr]
    refine r_izipC ?_
    walk_at "rds"
    refine ⟨_, rfl, ?_⟩
    walk_at "rds"
    refine r_slA epr fun p1 G1 s1 ep1 => ?_
    rw [show (some (1 : Int)) = some ((1 : Nat) : Int) from rfl, cut_hi (by rw [List.length_map, la]; omega)] at ep1
    walk_at "rds"
    refine ⟨true, false, false, _, _, _, us, as.map V.ref, (as.map V.ref).drop 1, rfl, SqL.of (s1 _ _ ha), SqT.of (s1 _ _ epr), SqT.of ep1, ?_⟩
    refine for_it (walk_zipC (K := K) (t := true) (u := false) (r := false) (xs := us) (ys := as.map V.ref) (zs := (as.map V.ref).drop 1) (n := ds.length) (by rw [List.length_drop, List.length_map, la, lds]; omega)) (fun i σ G => ∃ (y4 y5 y6 y7 : Option V), σ = [some (.ref a), some (.ref pr), some (.ref pc), some (.int ((stepsFR (beginFR m.toNat) (ds.take i)).crs.length : Nat)), y4, y5, y6, y7] ∧ Same G1 G) ⟨_, _, _, _, rfl, Same.refl _⟩ (fun i σ G _ h => by
      obtain ⟨_, _, _, _, _, s⟩ := h
      exact ⟨SqL.of (s _ _ (s1 _ _ ha)), SqT.of (s _ _ (s1 _ _ epr)), SqT.of (s _ _ ep1)⟩) ?_ ?_
    · rintro i v σ G G' hi ⟨y4, y5, y6, y7, rfl, S0⟩ hY
      obtain ⟨T0, x, y, z, rfl, hT0, rfl, hx, hy, hz⟩ := hY
      obtain ⟨t, w, g, rfl, ntq, et, ed⟩ := hds.at hx
      obtain ⟨ao, hao, rfl⟩ := ref_at hy
      obtain ⟨an, han, rfl⟩ := ref_at (show (as.map V.ref)[1 + i]? = some z by rw [← List.getElem?_drop]; exact hz)
      obtain ⟨now, hrun, I⟩ := finv_all h0 h24 h2 ht hr0 i (by omega)
      obtain ⟨n2, hn2⟩ := runD_take (i + 1) hr0
      have etk : ds.take (i + 1) = ds.take i ++ [(w, g)] := by rw [List.take_succ, ed]; rfl
      rw [etk] at hn2
      obtain ⟨fit, rfl, b24⟩ := runD_snoc hrun hn2
      obtain ⟨hw, _, _⟩ := ht.at ed
      obtain ⟨hg, hj, g0⟩ := join_gap I hw fit
      obtain ⟨gn, rfl⟩ : ∃ gn : Nat, g = (gn : Int) := ⟨g.toNat, by omega⟩
      rw [Int.toNat_natCast] at hg hj
      have R0 := ring_at (m := m) (ds := ds) (i := i) (by omega)
      have R1 := ring_at (m := m) (ds := ds) (i := 1 + i) (by omega)
      have estep : stepsFR (beginFR m.toNat) (ds.take (i + 1)) = stepFR (stepsFR (beginFR m.toNat) (ds.take i)) w gn := by rw [stepsFR_take ed, Int.toNat_natCast]
      rw [show 1 + i = i + 1 from Nat.add_comm 1 i, estep] at R1
      have sH := s1.trans S0
      have eo := sH _ _ (hTR.2 i ao (nvI ((stepsFR (beginFR m.toNat) (ds.take i)).ring.map (nameF (floorFR m ds)))) hao (by rw [List.getElem?_map]; unfold ringsF; rw [List.getElem?_map, R0]; rfl))
      have en := sH _ _ (hTR.2 (1 + i) an (nvI ((stepFR (stepsFR (beginFR m.toNat) (ds.take i)) w gn).ring.map (nameF (floorFR m ds)))) han (by rw [List.getElem?_map]; unfold ringsF; rw [List.getElem?_map, show 1 + i = i + 1 from Nat.add_comm 1 i, R1]; rfl))
      rw [← nv_ints] at eo en
      have hpair : w = "join" → 2 < (stepsFR (beginFR m.toNat) (ds.take i)).ring.length → nameF (floorFR m ds) ((stepsFR (beginFR m.toNat) (ds.take i)).ring.getD (gn - 1) 0) = nameF (floorFR m ds) ((stepsFR (beginFR m.toNat) (ds.take i)).ring.getD (gn + 1) 0) := fun e l => by
        subst e
        have hp := name_pair (pair_at ed l)
        rw [Int.toNat_natCast] at hp
        exact hp
      have hcr : isCr w = true → (crsF (floorFR m ds))[(stepsFR (beginFR m.toNat) (ds.take i)).crs.length]? = some (w, (fourOf (stepsFR (beginFR m.toNat) (ds.take i)).ring gn (stepsFR (beginFR m.toNat) (ds.take i)).many).map (nameF (floorFR m ds))) := fun e => by
        have hc := cr_at (m := m) ed e
        rw [Int.toNat_natCast] at hc
        unfold crsF
        rw [List.getElem?_map, hc]
        rfl
      have l24 : (stepsFR (beginFR m.toNat) (ds.take i)).ring.length ≤ 24 := by
        have := I.len
        have := I.n24
        omega
      have epc2 := sH _ _ epc
      have hCR2 := hCR.same sH
      have et2 := sH _ _ et
      generalize hnm : nameF (floorFR m ds) = nm at *
      generalize hf : stepsFR (beginFR m.toNat) (ds.take i) = fi at *
      clear R0 R1
      have sT := same_neu (Same.refl G) hT0 (o := .tup [.ref t, .ref ao, .ref an])
      have eT : upd G T0 (.tup [.ref t, .ref ao, .ref an]) T0 = some (.tup [.ref t, .ref ao, .ref an]) := upd_same
      replace S0 := S0.trans sT
      replace eo := sT _ _ eo
      replace en := sT _ _ en
      replace epc2 := sT _ _ epc2
      replace hCR2 := hCR2.same sT
      replace et2 := sT _ _ et2
      generalize upd G T0 (.tup [.ref t, .ref ao, .ref an]) = G2 at *
      refine r_gtup ⟨_, _, rfl, SqT.of eT, rfl, ?_⟩
      refine ⟨_, _, rfl, ?_⟩
      refine r_gtup ⟨_, _, rfl, SqT.of et2, rfl, ?_⟩
      refine ⟨_, _, rfl, ?_⟩
      walk_at "rds"
      refine ⟨_, _, rfl, ?_⟩
      walk_at "rds"
      refine ⟨rfl, ?_⟩
      refine ⟨_, _, rfl, ?_⟩
      walk_at "rds"
      refine ⟨_, _, rfl, ?_⟩
      walk_at "rds"
      refine ⟨rfl, ?_⟩
      clear eT et2
      walk_at "rds"
      refine ⟨len_ok rfl, fun tw htw => ?_⟩
      have sW := same_neu (Same.refl G2) htw (o := .tup [.str "over", .str "under"])
      have etw : upd G2 tw (.tup [.str "over", .str "under"]) tw = some (.tup [.str "over", .str "under"]) := upd_same
      replace S0 := S0.trans sW
      replace eo := sW _ _ eo
      replace en := sW _ _ en
      replace epc2 := sW _ _ epc2
      replace hCR2 := hCR2.same sW
      generalize upd G2 tw _ = G3 at *
      refine r_in (.inr (SqT.of etw)) rfl (by decide) ?_
      rw [in_cross]
      clear etw htw hT0
      walk_at "rds"
      have lnm : ∀ r : List Nat, (r.map nm).length = r.length := fun r => List.length_map ..
      by_cases hc : isCr w = true
      · rw [hc]
        have ht1 : w ≠ "turn" := fun z => by rw [z] at hc; exact absurd hc (by decide)
        have ht2 : w ≠ "join" := fun z => by rw [z] at hc; exact absurd hc (by decide)
        have ht3 : w ≠ "open" := fun z => by rw [z] at hc; exact absurd hc (by decide)
        obtain ⟨tc, htc⟩ : ∃ tc, cs[fi.crs.length]? = some tc := ⟨_, List.getElem?_eq_getElem (by rw [hCR2.1]; exact (List.getElem?_eq_some_iff.mp (hcr hc)).1)⟩
        have etc := hCR2.2 _ tc _ htc (hcr hc)
        replace etc : G3 tc = some (.tup [.str w, .int (nm (fi.ring.getD (prevN fi.ring.length gn) 0) : Nat), .int (nm (fi.ring.getD gn 0) : Nat), .int (nm (fi.ring.getD (nextN fi.ring.length gn) 0) : Nat), .int (nm fi.many : Nat)]) := etc
        walk_at "rds"
        refine ⟨_, rfl, ?_⟩
        refine r_slLo (by rw [lnm]; omega) eo fun k1 Gk1 sk1 ek1 => ?_
        replace S0 := S0.trans sk1
        replace eo := sk1 _ _ eo
        replace en := sk1 _ _ en
        replace epc2 := sk1 _ _ epc2
        replace etc := sk1 _ _ etc
        walk_at "rds"
        refine r_ixT (SqT.of epc2) (v := .ref tc) (atI_nat (by rw [List.getElem?_map, htc]; rfl)) ?_
        walk_at "rds"
        refine r_ixT (SqT.of etc) (v := .int (nm fi.many : Nat)) rfl ?_
        walk_at "rds"
        refine ⟨len_ok rfl, fun k2 hk2 => ?_⟩
        have sk2 := same_neu (Same.refl Gk1) hk2 (o := .tup [.int (nm fi.many : Nat)])
        have ek2 : upd Gk1 k2 (.tup [.int (nm fi.many : Nat)]) k2 = some (.tup (nv [nm fi.many])) := upd_same
        generalize upd Gk1 k2 _ = Gk2 at *
        replace S0 := S0.trans sk2
        replace eo := sk2 _ _ eo
        replace en := sk2 _ _ en
        replace ek1 := sk2 _ _ ek1
        replace epc2 := sk2 _ _ epc2
        replace etc := sk2 _ _ etc
        refine r_catX ek1 ek2 (by simp only [List.length_take, List.length_drop, List.length_append, List.length_cons, List.length_nil, List.length_map]; omega) fun k3 Gk3 sk3 ek3 => ?_
        replace S0 := S0.trans sk3
        replace eo := sk3 _ _ eo
        replace en := sk3 _ _ en
        replace epc2 := sk3 _ _ epc2
        replace etc := sk3 _ _ etc
        walk_at "rds"
        refine ⟨_, rfl, ?_⟩
        walk_at "rds"
        rw [show (gn : Int) + 1 = ((gn + 1 : Nat) : Int) by omega]
        refine r_slHi eo fun k4 Gk4 sk4 ek4 => ?_
        replace S0 := S0.trans sk4
        replace eo := sk4 _ _ eo
        replace en := sk4 _ _ en
        replace epc2 := sk4 _ _ epc2
        replace etc := sk4 _ _ etc
        replace ek3 := sk4 _ _ ek3
        refine r_catX ek3 ek4 (by simp only [List.length_take, List.length_drop, List.length_append, List.length_cons, List.length_nil, List.length_map]; omega) fun k5 Gk5 sk5 ek5 => ?_
        replace S0 := S0.trans sk5
        replace eo := sk5 _ _ eo
        replace en := sk5 _ _ en
        replace epc2 := sk5 _ _ epc2
        replace etc := sk5 _ _ etc
        refine ne_nv en ek5 (by rw [show (stepFR fi w gn).ring = fi.ring.take gn ++ [fi.many] ++ fi.ring.drop (gn + 1) from by show ringOf w fi.ring gn fi.many = _; unfold ringOf; rw [if_neg ht1, if_neg ht2, if_neg ht3], List.map_append, List.map_append, List.map_take, List.map_drop]; rfl) ?_
        refine ⟨false, rfl, ?_⟩
        walk_at "rds"
        refine r_ixT (SqT.of eo) (v := .int (nm (fi.ring.getD gn 0) : Nat)) (by rw [ix_nv (by rw [lnm]; exact hg), getD_map hg]) ?_
        walk_at "rds"
        refine r_ixT (SqT.of epc2) (v := .ref tc) (atI_nat (by rw [List.getElem?_map, htc]; rfl)) ?_
        walk_at "rds"
        refine r_ixT (SqT.of etc) (v := .int (nm (fi.ring.getD gn 0) : Nat)) rfl ?_
        refine r_neI ?_
        refine ⟨false, rfl, ?_⟩
        walk_at "rds"
        refine ⟨some (.str w), some (.int (gn : Int)), some (.ref ao), some (.ref an), ?_, S0⟩
        rw [estep, show (stepFR fi w gn).crs = fi.crs ++ [(w, fourOf fi.ring gn fi.many)] from if_pos hc, List.length_append]
        rfl
      · have hcl : (stepFR fi w gn).crs = fi.crs := crs_noncr hc
        replace hc : isCr w = false := by simpa using hc
        rw [hc]
        walk_at "rds"
        by_cases hjn : w = "join"
        · rw [decide_eq_true (show (w : Str) = "join" from hjn)]
          obtain ⟨g1, gg⟩ := hj hjn
          have hr1 : (stepFR fi w gn).ring = fi.ring.take gn ++ fi.ring.drop (gn + 2) := by subst hjn; rfl
          walk_at "rds"
          refine ⟨_, _, rfl, .inr (SqT.of eo), ?_⟩
          rw [nv_len, lnm]
          walk_at "rds"
          by_cases big : 2 < fi.ring.length
          · rw [decide_eq_true (show ((2 : Int) < ((fi.ring.length : Nat) : Int)) by omega)]
            walk_at "rds"
            refine r_ixT (SqT.of eo) (v := .int (nm (fi.ring.getD (gn + 1) 0) : Nat)) (by rw [show (gn : Int) - 1 = ((gn - 1 : Nat) : Int) by omega, ix_nv (by rw [lnm]; omega), getD_map (by omega), hpair hjn big]) ?_
            walk_at "rds"
            refine r_ixT (SqT.of eo) (v := .int (nm (fi.ring.getD (gn + 1) 0) : Nat)) (by rw [show (gn : Int) + 1 = ((gn + 1 : Nat) : Int) by omega, ix_nv (by rw [lnm]; omega), getD_map (by omega)]) ?_
            refine r_neI ?_
            refine ⟨false, rfl, ?_⟩
            walk_at "rds"
            refine ⟨_, rfl, ?_⟩
            refine r_slLo (by rw [lnm]; omega) eo fun k1 Gk1 sk1 ek1 => ?_
            replace S0 := S0.trans sk1
            replace eo := sk1 _ _ eo
            replace en := sk1 _ _ en
            walk_at "rds"
            refine ⟨_, rfl, ?_⟩
            walk_at "rds"
            rw [show (gn : Int) + 2 = ((gn + 2 : Nat) : Int) by omega]
            refine r_slHi eo fun k2 Gk2 sk2 ek2 => ?_
            replace S0 := S0.trans sk2
            replace eo := sk2 _ _ eo
            replace en := sk2 _ _ en
            replace ek1 := sk2 _ _ ek1
            refine r_catX ek1 ek2 (by simp only [List.length_take, List.length_drop, List.length_append, List.length_cons, List.length_nil, List.length_map]; omega) fun k3 Gk3 sk3 ek3 => ?_
            replace S0 := S0.trans sk3
            replace eo := sk3 _ _ eo
            replace en := sk3 _ _ en
            refine ne_nv en ek3 (by rw [hr1, List.map_append, List.map_take, List.map_drop]) ?_
            refine ⟨false, rfl, ?_⟩
            walk_at "rds"
            exact ⟨_, _, _, _, by rw [estep, hcl]; rfl, S0⟩
          · rw [decide_eq_false (show ¬ ((2 : Int) < ((fi.ring.length : Nat) : Int)) by omega)]
            walk_at "rds"
            refine ⟨_, rfl, ?_⟩
            refine r_slLo (by rw [lnm]; omega) eo fun k1 Gk1 sk1 ek1 => ?_
            replace S0 := S0.trans sk1
            replace eo := sk1 _ _ eo
            replace en := sk1 _ _ en
            walk_at "rds"
            refine ⟨_, rfl, ?_⟩
            walk_at "rds"
            rw [show (gn : Int) + 2 = ((gn + 2 : Nat) : Int) by omega]
            refine r_slHi eo fun k2 Gk2 sk2 ek2 => ?_
            replace S0 := S0.trans sk2
            replace eo := sk2 _ _ eo
            replace en := sk2 _ _ en
            replace ek1 := sk2 _ _ ek1
            refine r_catX ek1 ek2 (by simp only [List.length_take, List.length_drop, List.length_append, List.length_cons, List.length_nil, List.length_map]; omega) fun k3 Gk3 sk3 ek3 => ?_
            replace S0 := S0.trans sk3
            replace eo := sk3 _ _ eo
            replace en := sk3 _ _ en
            refine ne_nv en ek3 (by rw [hr1, List.map_append, List.map_take, List.map_drop]) ?_
            refine ⟨false, rfl, ?_⟩
            walk_at "rds"
            exact ⟨_, _, _, _, by rw [estep, hcl]; rfl, S0⟩
        · rw [decide_eq_false (show ¬ (w : Str) = "join" from hjn)]
          walk_at "rds"
          by_cases htn : w = "turn"
          · rw [decide_eq_true (show (w : Str) = "turn" from htn)]
            walk_at "rds"
            refine ⟨_, rfl, ?_⟩
            walk_at "rds"
            refine r_slHi eo fun k1 Gk1 sk1 ek1 => ?_
            replace S0 := S0.trans sk1
            replace eo := sk1 _ _ eo
            replace en := sk1 _ _ en
            walk_at "rds"
            refine ⟨_, rfl, ?_⟩
            refine r_slLo (by rw [lnm]; omega) eo fun k2 Gk2 sk2 ek2 => ?_
            replace S0 := S0.trans sk2
            replace eo := sk2 _ _ eo
            replace en := sk2 _ _ en
            replace ek1 := sk2 _ _ ek1
            refine r_catX ek1 ek2 (by simp only [List.length_take, List.length_drop, List.length_append, List.length_cons, List.length_nil, List.length_map]; omega) fun k3 Gk3 sk3 ek3 => ?_
            replace S0 := S0.trans sk3
            replace eo := sk3 _ _ eo
            replace en := sk3 _ _ en
            refine ne_nv en ek3 (by rw [show (stepFR fi w gn).ring = fi.ring.drop gn ++ fi.ring.take gn from by subst htn; rfl, List.map_append, List.map_take, List.map_drop]) ?_
            refine ⟨false, rfl, ?_⟩
            walk_at "rds"
            exact ⟨_, _, _, _, by rw [estep, hcl]; rfl, S0⟩
          · rw [decide_eq_false (show ¬ (w : Str) = "turn" from htn)]
            have hon : w = "open" := by
              simp only [W5, List.mem_cons, List.not_mem_nil, or_false] at hw
              rcases hw with rfl | rfl | rfl | rfl | rfl
              · exact absurd hc (by decide)
              · exact absurd hc (by decide)
              · exact absurd rfl hjn
              · rfl
              · exact absurd rfl htn
            have hr1 : (stepFR fi w gn).ring = fi.ring.take (gn + 1) ++ [fi.many] ++ (if 1 < fi.ring.length then [fi.ring.getD gn 0] else []) ++ fi.ring.drop (gn + 1) := by subst hon; rfl
            walk_at "rds"
            refine ⟨_, rfl, ?_⟩
            walk_at "rds"
            rw [show (gn : Int) + 1 = ((gn + 1 : Nat) : Int) by omega]
            refine r_slLo (by rw [lnm, hr1]; simp only [List.length_append, List.length_take]; omega) en fun k1 Gk1 sk1 ek1 => ?_
            replace S0 := S0.trans sk1
            replace eo := sk1 _ _ eo
            replace en := sk1 _ _ en
            walk_at "rds"
            refine ⟨_, rfl, ?_⟩
            walk_at "rds"
            rw [show (gn : Int) + 1 = ((gn + 1 : Nat) : Int) by omega]
            refine r_slLo (by rw [lnm]; omega) eo fun k2 Gk2 sk2 ek2 => ?_
            replace S0 := S0.trans sk2
            replace eo := sk2 _ _ eo
            replace en := sk2 _ _ en
            replace ek1 := sk2 _ _ ek1
            refine ne_nv ek1 ek2 (by rw [hr1]; exact open_take hg) ?_
            refine ⟨false, rfl, ?_⟩
            walk_at "rds"
            refine ⟨_, rfl, ?_⟩
            walk_at "rds"
            rw [show (gn : Int) + 2 = ((gn + 2 : Nat) : Int) by omega]
            refine r_slHi en fun k3 Gk3 sk3 ek3 => ?_
            replace S0 := S0.trans sk3
            replace eo := sk3 _ _ eo
            replace en := sk3 _ _ en
            rw [hr1, open_drop hg] at ek3
            walk_at "rds"
            refine ⟨_, _, rfl, .inr (SqT.of eo), ?_⟩
            rw [nv_len, lnm]
            walk_at "rds"
            by_cases big : 1 < fi.ring.length
            · rw [decide_eq_true (show ((1 : Int) < ((fi.ring.length : Nat) : Int)) by omega)]
              walk_at "rds"
              refine ⟨_, rfl, ?_⟩
              walk_at "rds"
              refine r_slHi eo fun k4 Gk4 sk4 ek4 => ?_
              replace S0 := S0.trans sk4
              replace eo := sk4 _ _ eo
              replace en := sk4 _ _ en
              replace ek3 := sk4 _ _ ek3
              refine ne_nv ek3 ek4 (by rw [if_pos big, drop_one hg, List.map_drop]) ?_
              refine ⟨false, rfl, ?_⟩
              walk_at "rds"
              exact ⟨_, _, _, _, by rw [estep, hcl]; rfl, S0⟩
            · rw [decide_eq_false (show ¬ ((1 : Int) < ((fi.ring.length : Nat) : Int)) by omega)]
              walk_at "rds"
              refine ⟨len_ok rfl, fun k4 hk4 => ?_⟩
              have sk4 := same_neu (Same.refl Gk3) hk4 (o := .tup [])
              have ek4 : upd Gk3 k4 (.tup []) k4 = some (.tup (nv [])) := upd_same
              generalize upd Gk3 k4 _ = Gk4 at *
              replace S0 := S0.trans sk4
              replace eo := sk4 _ _ eo
              replace en := sk4 _ _ en
              replace ek3 := sk4 _ _ ek3
              refine ne_nv ek3 ek4 (by rw [if_neg big, List.drop_of_length_le (by omega)]; rfl) ?_
              refine ⟨false, rfl, ?_⟩
              walk_at "rds"
              exact ⟨_, _, _, _, by rw [estep, hcl]; rfl, S0⟩
    · rintro σ G ⟨y4, y5, y6, y7, rfl, S0⟩
      rw [List.take_length]
      have sH := s1.trans S0
      walk_at "rds"
      refine ⟨_, _, rfl, .inr (SqT.of (sH _ _ epc)), ?_⟩
      refine ⟨rfl, ?_⟩
      rw [show (List.map V.ref cs).length = (stepsFR (beginFR m.toNat) ds).crs.length by rw [List.length_map, hCR.1]; unfold crsF; rw [List.length_map]; rfl, decide_eq_true rfl]
      refine ⟨true, rfl, ?_⟩
      walk_at "rds"
      obtain ⟨al, hal⟩ : ∃ al, as[ds.length]? = some al := ⟨_, List.getElem?_eq_getElem (by omega)⟩
      obtain ⟨nowE, hrunE, IE⟩ := finv_all h0 h24 h2 ht hr0 ds.length (Nat.le_refl _)
      have RE := ring_at (m := m) (ds := ds) (i := ds.length) (Nat.le_refl _)
      rw [List.take_length] at hrunE IE RE
      rw [hr0] at hrunE
      cases hrunE
      have lE := IE.len
      have el := sH _ _ (hTR.2 ds.length al (nvI ((stepsFR (beginFR m.toNat) ds).ring.map (nameF (floorFR m ds)))) hal (by rw [List.getElem?_map]; unfold ringsF; rw [List.getElem?_map, RE]; rfl))
      refine r_ixT (SqT.of (sH _ _ epr)) (v := .ref al) (by
        unfold atI
        rw [List.length_map, la, ixN_last (by omega), Option.bind_some, List.getElem?_map, Nat.add_sub_cancel, hal]
        rfl) ?_
      walk_at "rds"
      refine ⟨_, _, rfl, .inr (SqT.of el), ?_⟩
      rw [← nv_ints, nv_len, List.length_map, lE]
      walk_at "rds"
      refine ⟨rfl, ?_⟩
      rw [decide_eq_true (by rfl)]
      exact k _ sH
end
end K25
namespace K25
open PySem PySem.Spec PyProof.Rows L2 Rp LamX RZ

theorem tupRw_dd {K : PySem.W.Frag} {H : Hp} : ∀ {as : List Addr} {L : List (List Nat)}, TupRw H as (L.map nvI) → DdAll K H (as.map V.ref) (L.map rimD)
  | [], [], _ => .nil
  | _ :: _, r :: L, h => .cons (dd_rim (by rw [nv_ints]; exact h.2 0 _ (nvI r) rfl rfl)) (tupRw_dd ⟨Nat.succ.inj h.1, fun i t e e1 e2 => h.2 (i + 1) t e e1 e2⟩)
  | [], _ :: _, h => nomatch h.1
  | _ :: _, [], h => nomatch h.1
def ringsD (L : List (List Nat)) : PyData := .tuple (L.map rimD)
theorem dd_rings {K : PySem.W.Frag} {H : Hp} {p : Addr} {as : List Addr} {L : List (List Nat)} (e : H p = some (.tup (as.map V.ref))) (h : TupRw H as (L.map nvI)) : Dd K H (.ref p) (ringsD L) := .tup (SqT.of e) (tupRw_dd h)
theorem fit_rings {L : List (List Nat)} (h : ∀ r ∈ L, r.length ≤ 24 ∧ ∀ x ∈ r, x < 1000) (hl : L.length ≤ 1000) : Fit 64 15000000 (.list [ringsD L, ringsD L]) := by
  have f : Fit 2 500000 (ringsD L) := ((fitA_map rimD L fun r m => fit_rim (h r m)).tuple).le (Nat.le_refl _) (by omega)
  exact ((FitA.cons f (FitA.cons (e := 0) f FitA.nil)).list).le (by decide) (by decide)
def spLaw25 (K : PySem.W.Frag) : Sp := fun vs H Q _ => ∃ (a : Addr) (ns : List Int), vs = [.ref a] ∧ SqL K H a (ns.map V.int) ∧ ∀ H', Q (.bl true) H'

section
variable {P : Program} {w : World} {K : PySem.W.Frag} {mg : Str → Option Value} {base : Heap} {ad : Ad}
abbrev sLaw : Stmt := top 44
theorem scLaw : FnScope ["script", "staircase", "turn", "ends", "deeds", "tangle", "due", "told", "odd", "caught", "error"] ["script"] (defScope sLaw) := ⟨rfl, rfl, rfl, by decide +kernel, rfl, by decide +kernel, by decide +kernel⟩
theorem ok_Law {f : Addr} {fd : FuncData} (F : Fun K "law" "law" sLaw f fd) (T : Txt K mg ad) (hM : HasMods base) (EK : ErrK K ad.c_BadTangle ad.c_RopeError "part") (kk : PySem.W.kitOne K (.ref ad.c_BadTangle) (.ref ad.c_BadTangle) = some true) {f0 : Addr} {fd0 : FuncData} (cLawStaircase : Cal P w K mg base "_law_staircase" 1 f0 fd0 ["script"] (spBox K)) {f1 : Addr} {fd1 : FuncData} (cLawPick : Cal P w K mg base "_law_pick" 2 f1 fd1 ["staircase", "some"] (spOf K)) {f2 : Addr} {fd2 : FuncData} (cLawDeeds : Cal P w K mg base "_law_deeds" 3 f2 fd2 ["staircase", "ends", "most"] spDeeds) {f3 : Addr} {fd3 : FuncData} (cRingsOf : CalX P w K mg base "rings_of" 6 f3 fd3 ["tangle"] (spRingsOf K ad.c_Tangle ad.c_BadTangle)) (kRingsOf_tangle : KBx K fd3 ["tangle"] 0 ["tangle"] [0]) {f4 : Addr} {fd4 : FuncData} (cTangle : MakX P w K mg base "Tangle" 5 ad.c_Tangle f4 fd4 ["self", "ends", "deeds"] (spTangle ad.c_Tangle ad.c_BadTangle ad.c_Misfit ad.c_TooMany)) {f5 : Addr} {fd5 : FuncData} (cLawFloor : Cal P w K mg base "_law_floor" 1 f5 fd5 ["ends", "deeds"] (spLawFloor K)) {f6 : Addr} {fd6 : FuncData} (cLawStepsRight : Cal P w K mg base "_law_steps_right" 1 f6 fd6 ["deeds", "rings", "crossings"] spSteps25) {f7 : Addr} {fd7 : FuncData} (cRimOf : CalX P w K mg base "rim_of" 7 f7 fd7 ["tangle"] (spRimOf ad.c_Tangle ad.c_BadTangle)) {f8 : Addr} {fd8 : FuncData} (cCrossingsOf : CalX P w K mg base "crossings_of" 6 f8 fd8 ["tangle"] (spCrossingsOf ad.c_Tangle ad.c_BadTangle)) : FnG P w K mg base 16 f fd ["script"] (spLaw25 K) := by
  refine fng F scLaw (fun {vs H Q E} h => ?_) (fun {cdv A fr s H vs Q E} hg hr h => ?_)
  · obtain ⟨a, nsc, rfl, hS, k⟩ := h
    rfl
  · obtain ⟨a, nsc, rfl, hS, k⟩ := h
    refine ⟨_, (pss_cons (ps_set (i := 1) scLaw.nd rfl (Or.inl rfl) (pe_go cLawStaircase hg (hr.mono (by decide)) (by rfl) (pa_cons (pv 0) pa_nil)))
  (pss_cons (ps_for PassesOwn.never rfl (pi_range1 (by rfl) T.z_range (pa_cons pe_int pa_nil)) (pg_name (i := 2) scLaw.nd rfl (Or.inl rfl))
  (pss_cons (ps_set (i := 3) scLaw.nd rfl (Or.inl rfl) (pe_go cLawPick hg (hr.mono (by decide)) (by rfl) (pa_cons (pv 1) (pa_cons (pe_lst (pa_cons pe_int (pa_cons pe_int (pa_cons pe_int (pa_cons pe_int (pa_cons pe_int (pa_cons pe_int pa_nil))))))) pa_nil))))
  (pss_cons (ps_set (i := 4) scLaw.nd rfl (Or.inl rfl) (pe_go cLawDeeds hg (hr.mono (by decide)) (by rfl) (pa_cons (pv 1) (pa_cons (pv 3) (pa_cons (pe_go cLawPick hg (hr.mono (by decide)) (by rfl) (pa_cons (pv 1) (pa_cons (pe_lst (pa_cons pe_int (pa_cons pe_int (pa_cons pe_int (pa_cons pe_int pa_nil))))) pa_nil))) pa_nil)))))
  (pss_cons (ps_par (i := 5) (j := 6) (by rfl) scLaw.nd rfl rfl (by decide) rfl rfl (pa_cons (pe_makeX cTangle (hr.mono (by decide)) (by rfl) (pa_cons (pv 3) (pa_cons (pv 4) pa_nil))) (pa_cons (pe_go cLawFloor hg (hr.mono (by decide)) (by rfl) (pa_cons (pv 3) (pa_cons (pv 4) pa_nil))) pa_nil)) (by rfl))
  (pss_cons (ps_set (i := 7) scLaw.nd rfl (Or.inl rfl) (pe_goX cRingsOf (hr.mono (by decide)) (by rfl) (pa_cons (pv 5) pa_nil)))
  (pss_cons (ps_if (PW.pt (pw_or (pt_cmpR op_ne (pe_callB (call_reprA hr hg hM) (by rfl) T.z_repr (by decide +kernel) (pa_cons (pe_lst (pa_cons (pv 7) (pa_cons (pe_kwX cRingsOf kRingsOf_tangle (hr.mono (by decide)) (by rfl) (pk_cons (pv 5) pk_nil)) pa_nil))) pa_nil)) (pe_callB (call_reprA hr hg hM) (by rfl) T.z_repr (by decide +kernel) (pa_cons (pe_op op_rep (pe_lst (pa_cons (pe_ix ix_tup (pv 6) pe_int (fun _ _ => rfl)) pa_nil)) pe_int) pa_nil)) (nomark _)) (pw_or1 (pt_cmpR (op_neD hr.units) (pe_ix ix_tup (pv 7) pe_int (fun _ _ => rfl)) (pe_goX cRimOf (hr.mono (by decide)) (by rfl) (pa_cons (pv 5) pa_nil)) (nomark _)))))
  (pss_one (ps_ret pe_bl))
  pss_nil)
  (pss_one (ps_if (pt_not (pt_val (pe_go cLawStepsRight hg (hr.mono (by decide)) (by rfl) (pa_cons (pv 4) (pa_cons (pv 7) (pa_cons (pe_goX cCrossingsOf (hr.mono (by decide)) (by rfl) (pa_cons (pv 5) pa_nil)) pa_nil))))))
  (pss_one (ps_ret pe_bl))
  pss_nil))))))))
  (pss_cons (ps_par (i := 8) (j := 9) (by rfl) scLaw.nd rfl rfl (by decide) rfl rfl (pa_cons (pe_go cLawPick hg (hr.mono (by decide)) (by rfl) (pa_cons (pv 1) (pa_cons (pe_lst (pa_cons pe_non (pa_cons pe_int (pa_cons pe_str (pa_cons (pe_tup (pa_cons pe_int (pa_cons (pe_tup pa_nil) pa_nil))) (pa_cons (pe_lst pa_nil) (pa_cons pe_bl pa_nil))))))) pa_nil))) (pa_cons pe_non pa_nil)) (by rfl))
  (pss_cons (ps_tryT (i := 10) (tb := fun W => tDrop (tCallS (spRingsOf K ad.c_Tangle ad.c_BadTangle) (WE W) (tCons (tVar 8) tNil))) (ts := fun _ _ _ => tAsg (tVar 10) (gName 9)) (Wout := fun _ _ _ _ => False) rfl rfl rfl scLaw.nd rfl rfl ⟨by rfl, by decide, Or.inl T.g_RopeError⟩ L2.takes0 (fun W pn xe tk _ => pss_one (ps_expr (pe_goW cRingsOf (hr.mono (by decide)) tk (by rfl) (pa_cons (pv 8) pa_nil)))) (fun a oe cls d pn _ _ => pss_one (ps_set (i := 9) scLaw.nd rfl (Or.inl rfl) (pv 10))))
  (pss_one (ps_ret (pe_and (pe_callB call_isO (by rfl) T.z_isinstance (by decide +kernel) (pa_cons (pv 9) (pa_cons (pe_glob (v := .ref ad.c_BadTangle) (by rfl) T.g_BadTangle rfl) pa_nil))) (pe_one (pe_cmpR op_eq (pe_xt (pv 9)) pe_str (nomark _)))))))))), ?_⟩
    refine r_start (l := [some (.ref a), none, none, none, none, none, none, none, none, none, none]) rfl ?_
    walk_at "rds"
    refine ⟨a, nsc, rfl, hS, fun G0 q c ns D0 s0 hq => ?_⟩
    walk_at "rds"
    refine ⟨5, rfl, by decide, by decide, ?_⟩
    refine for_range (lo := 0) (n := 5) (fun i σ G => ∃ (o2 o3 o4 o5 o6 o7 : Option V) (lp : Nat), σ = [some (.ref a), some (.ref q), o2, o3, o4, o5, o6, o7, none, none, none] ∧ lp ≤ 1000 * i ∧ Dr q c ns lp G) ⟨_, _, _, _, _, _, _, rfl, Nat.zero_le _, D0⟩ ?_ ?_
    · clear D0 s0
      rintro i σ G hi ⟨o2, o3, o4, o5, o6, o7, lap, rfl, hlp, D0⟩
      walk_at "rds"
      refine ⟨len_ok rfl, fun p1 hp1 => ?_⟩
      generalize hG1 : upd G p1 _ = K1
      obtain ⟨s1, ep1⟩ := neu2 hG1 hp1
      have np1 := dr_neq D0 hp1
      replace D0 := D0.same s1
      clear s1 hG1
      refine ⟨_, _, _, _, _, _, rfl, SqL.of ep1, Nat.zero_lt_succ _, lt_ok rfl, by omega, np1, D0, fun K2 l2 i2 vm hl2 E2 c2 e2 => ?_⟩
      have pvm := EachP.get (F := fun v => ∃ m : Int, v = .int m ∧ 0 ≤ m ∧ m ≤ 10 ∧ m % 2 = 0) (.cons ⟨_, rfl, by decide, by decide, by decide⟩ (.cons ⟨_, rfl, by decide, by decide, by decide⟩ (.cons ⟨_, rfl, by decide, by decide, by decide⟩ (.cons ⟨_, rfl, by decide, by decide, by decide⟩ (.cons ⟨_, rfl, by decide, by decide, by decide⟩ (.cons ⟨_, rfl, by decide, by decide, by decide⟩ .nil)))))) e2
      replace ep1 := c2 _ _ np1 ep1
      obtain ⟨m, rfl, m0, m10, m2⟩ := pvm
      clear ep1 np1
      walk_at "rds"
      refine ⟨len_ok rfl, fun p2 hp2 => ?_⟩
      generalize hG3 : upd K2 p2 _ = K3
      obtain ⟨s3, ep2⟩ := neu2 hG3 hp2
      have np2 := dr_neq E2 hp2
      replace E2 := E2.same s3
      clear s3 hG3
      refine ⟨_, _, _, _, _, _, rfl, SqL.of ep2, Nat.zero_lt_succ _, lt_ok rfl, by omega, np2, E2, fun K4 l4 i4 vk hl4 E4 c4 e4 => ?_⟩
      have pvk := EachP.get (F := fun v => ∃ k : Int, v = .int k ∧ 0 ≤ k ∧ k ≤ 20) (.cons ⟨_, rfl, by decide, by decide⟩ (.cons ⟨_, rfl, by decide, by decide⟩ (.cons ⟨_, rfl, by decide, by decide⟩ (.cons ⟨_, rfl, by decide, by decide⟩ .nil)))) e4
      replace ep2 := c4 _ _ np2 ep2
      obtain ⟨most, rfl, k0, k12⟩ := pvk
      clear ep2 np2
      walk_at "rds"
      refine ⟨q, c, ns, _, m, most, rfl, m0, by omega, m2, k0, by omega, by omega, E4, fun KA lA pA us ds hlA DA bA hpA npA eA dvA tyA lnA rnA => ?_⟩
      clear bA E4
      walk_at "rds"
      have OK : DsOk m ds := ⟨tyA.le (by decide), by omega, m0, by omega, m2, rnA⟩
      obtain ⟨tl, rl, rk⟩ := ring_ok (b := 23) (m := m) (ds := ds) (by omega) (by omega) (by omega) tyA (by omega) rnA
      refine mk_tangle (q := q) eA npA dvA OK (gapsOk_typ tyA) fun T1 x1 sx1 ta1 => ?_
      replace eA := sx1 _ _ eA
      replace dvA := dvA.but (same_but sx1)
      replace DA := DA.same sx1
      clear sx1
      walk_at "rds"
      refine ⟨q, pA, us, ds, m, 0, rfl, eA, dvA, tyA.le (by decide), by omega, by omega, by omega, by omega, rnA, fun KC pd ps pc as cs sC eP eS TR eC crt => ?_⟩
      clear crt eC
      replace eA := sC _ _ eA
      replace dvA := dvA.but (same_but sC)
      replace ta1 := ta1.same sC
      replace DA := DA.same sC
      clear sC
      refine ⟨_, _, rfl, ?_⟩
      walk_at "rds"
      show spRingsOf _ _ _ [.ref x1] _ _ _
      refine ⟨_, rfl, .inl ⟨q, _, m, ds, rfl, ta1, OK, fun U2 z2 sy2 R2 => ?_⟩⟩
      replace eA := sy2 _ _ eA
      replace eP := sy2 _ _ eP
      replace eS := sy2 _ _ eS
      replace dvA := dvA.but (same_but sy2)
      replace ta1 := ta1.same sy2
      replace TR := TR.same sy2
      replace DA := DA.same sy2
      obtain ⟨as2, er2, lr2, hr2⟩ := R2
      have TR2 : TupRw U2 as2 ((ringsF (floorFR m ds)).map nvI) := ⟨lr2, hr2⟩
      clear lr2 hr2 sy2
      walk_at "rds"
      refine ⟨rfl, rfl, ?_⟩
      show spRingsOf _ _ _ [.ref x1] _ _ _
      refine ⟨_, rfl, .inl ⟨q, _, m, ds, rfl, ta1, OK, fun U3 z3 sy3 R3 => ?_⟩⟩
      replace eA := sy3 _ _ eA
      replace eP := sy3 _ _ eP
      replace eS := sy3 _ _ eS
      replace er2 := sy3 _ _ er2
      replace dvA := dvA.but (same_but sy3)
      replace ta1 := ta1.same sy3
      replace TR := TR.same sy3
      replace TR2 := TR2.same sy3
      replace DA := DA.same sy3
      obtain ⟨as3, er3, lr3, hr3⟩ := R3
      have TR3 : TupRw U3 as3 ((ringsF (floorFR m ds)).map nvI) := ⟨lr3, hr3⟩
      clear lr3 hr3 sy3
      walk_at "rds"
      refine ⟨len_ok rfl, fun l1 hl1 => ?_⟩
      generalize hG5 : upd U3 l1 _ = K5
      obtain ⟨s5, el1⟩ := neu2 hG5 hl1
      have nl1 := dr_neq DA hl1
      replace eA := s5 _ _ eA
      replace eP := s5 _ _ eP
      replace eS := s5 _ _ eS
      replace er2 := s5 _ _ er2
      replace er3 := s5 _ _ er3
      replace dvA := dvA.but (same_but s5)
      replace ta1 := ta1.same s5
      replace TR := TR.same s5
      replace TR2 := TR2.same s5
      replace TR3 := TR3.same s5
      replace DA := DA.same s5
      clear s5 hG5
      walk_at "rds"
      refine r_reprA (.lst (SqL.of el1) (.cons (dd_rings er2 TR2) (.cons (dd_rings er3 TR3) .nil))) (fit_rings rk (by omega)) ?_
      walk_at "rds"
      refine r_ixT (SqT.of eP) (v := .ref ps) rfl ?_
      walk_at "rds"
      refine ⟨len_ok rfl, fun l2 hl2 => ?_⟩
      generalize hG6 : upd K5 l2 _ = K6
      obtain ⟨s6, el2⟩ := neu2 hG6 hl2
      have nl2 := dr_neq DA hl2
      replace eA := s6 _ _ eA
      replace eP := s6 _ _ eP
      replace eS := s6 _ _ eS
      replace er2 := s6 _ _ er2
      replace er3 := s6 _ _ er3
      replace el1 := s6 _ _ el1
      replace dvA := dvA.but (same_but s6)
      replace ta1 := ta1.same s6
      replace TR := TR.same s6
      replace TR2 := TR2.same s6
      replace TR3 := TR3.same s6
      replace DA := DA.same s6
      clear s6 hG6
      walk_at "rds"
      refine ⟨_, _, _, rfl, rfl, el2, by decide, by decide, le_ok rfl, fun l3 hl3 => ?_⟩
      generalize hG7 : upd K6 l3 _ = K7
      obtain ⟨s7, el3⟩ := neu2 hG7 hl3
      have nl3 := dr_neq DA hl3
      replace eA := s7 _ _ eA
      replace eP := s7 _ _ eP
      replace eS := s7 _ _ eS
      replace er2 := s7 _ _ er2
      replace er3 := s7 _ _ er3
      replace el1 := s7 _ _ el1
      replace el2 := s7 _ _ el2
      replace dvA := dvA.but (same_but s7)
      replace ta1 := ta1.same s7
      replace TR := TR.same s7
      replace TR2 := TR2.same s7
      replace TR3 := TR3.same s7
      replace DA := DA.same s7
      clear s7 hG7
      walk_at "rds"
      refine r_reprA (.lst (xs := [.ref ps, .ref ps]) (SqL.of el3) (.cons (dd_rings eS TR) (.cons (dd_rings eS TR) .nil))) (fit_rings rk (by omega)) ?_
      walk_at "rds"
      refine r_neS ?_
      refine ⟨false, rfl, ?_⟩
      walk_at "rds"
      obtain ⟨b0, rest2, e20, eb0⟩ := rw_head TR2 rl
      refine r_ixT (SqT.of er2) (v := .ref b0) (by rw [e20]; show atI _ ((0 : Nat) : Int) = _; exact atI_nat rfl) ?_
      walk_at "rds"
      show spRimOf _ _ [.ref x1] _ _ _
      refine ⟨_, rfl, .inl ⟨q, _, m, ds, rfl, ta1, OK, fun U5 z5 sy5 er5 => ?_⟩⟩
      replace eA := sy5 _ _ eA
      replace eP := sy5 _ _ eP
      replace eS := sy5 _ _ eS
      replace er2 := sy5 _ _ er2
      replace er3 := sy5 _ _ er3
      replace el1 := sy5 _ _ el1
      replace el2 := sy5 _ _ el2
      replace el3 := sy5 _ _ el3
      replace eb0 := sy5 _ _ eb0
      replace dvA := dvA.but (same_but sy5)
      replace ta1 := ta1.same sy5
      replace TR := TR.same sy5
      replace TR2 := TR2.same sy5
      replace TR3 := TR3.same sy5
      replace DA := DA.same sy5
      clear sy5
      refine ne_nv eb0 er5 rfl ?_
      refine ⟨false, rfl, ?_⟩
      walk_at "rds"
      show spCrossingsOf _ _ [.ref x1] _ _ _
      refine ⟨_, rfl, .inl ⟨q, _, m, ds, rfl, ta1, OK, fun U6 z6 cs6 sy6 ec6 ct6 => ?_⟩⟩
      replace eA := sy6 _ _ eA
      replace eP := sy6 _ _ eP
      replace eS := sy6 _ _ eS
      replace er2 := sy6 _ _ er2
      replace er3 := sy6 _ _ er3
      replace el1 := sy6 _ _ el1
      replace el2 := sy6 _ _ el2
      replace el3 := sy6 _ _ el3
      replace eb0 := sy6 _ _ eb0
      replace dvA := dvA.but (same_but sy6)
      replace ta1 := ta1.same sy6
      replace TR := TR.same sy6
      replace TR2 := TR2.same sy6
      replace TR3 := TR3.same sy6
      replace DA := DA.same sy6
      clear sy6
      walk_at "rds"
      refine ⟨q, pA, _, _, us, ds, m, as2, cs6, rfl, eA, dvA, tyA.le (by decide), by omega, by omega, by omega, by omega, rnA, er2, TR2, ec6, ct6, fun U7 sy7 => ?_⟩
      replace DA := DA.same sy7
      walk_at "rds"
      exact ⟨_, _, _, _, _, _, _, rfl, by omega, DA⟩
    · rintro σ G ⟨o2, o3, o4, o5, o6, o7, lap, rfl, hlp, D0⟩
      walk_at "rds"
      refine ⟨len_ok rfl, fun o1 ho1 => ?_⟩
      generalize hG1 : upd G o1 _ = K1
      obtain ⟨s1, eo1⟩ := neu2 hG1 ho1
      have no1 := dr_neq D0 ho1
      replace D0 := D0.same s1
      clear s1 hG1
      walk_at "rds"
      refine ⟨len_ok rfl, fun o2x ho2x => ?_⟩
      generalize hG2 : upd K1 o2x _ = K2
      obtain ⟨s2, eo2x⟩ := neu2 hG2 ho2x
      have no2x := dr_neq D0 ho2x
      replace eo1 := s2 _ _ eo1
      replace D0 := D0.same s2
      clear s2 hG2
      walk_at "rds"
      refine ⟨len_ok rfl, fun o3x ho3x => ?_⟩
      generalize hG3 : upd K2 o3x _ = K3
      obtain ⟨s3, eo3x⟩ := neu2 hG3 ho3x
      have no3x := dr_neq D0 ho3x
      replace eo1 := s3 _ _ eo1
      replace eo2x := s3 _ _ eo2x
      replace D0 := D0.same s3
      clear s3 hG3
      walk_at "rds"
      refine ⟨len_ok rfl, fun o4x ho4x => ?_⟩
      generalize hG4 : upd K3 o4x _ = K4
      obtain ⟨s4, eo4x⟩ := neu2 hG4 ho4x
      have no4x := dr_neq D0 ho4x
      replace eo1 := s4 _ _ eo1
      replace eo2x := s4 _ _ eo2x
      replace eo3x := s4 _ _ eo3x
      replace D0 := D0.same s4
      clear s4 hG4
      refine ⟨_, _, _, _, _, _, rfl, SqL.of eo4x, Nat.zero_lt_succ _, lt_ok rfl, by omega, no4x, D0, fun K5 l5 i5 odd hl5 E5 c5 e5 => ?_⟩
      have podd := EachP.get (F := Any q K4) (.cons .non (.cons (.num _) (.cons (.str _) (.cons (.tup no2x eo2x) (.cons (.lst no3x eo3x) (.cons (.bl _) .nil)))))) e5
      replace eo1 := c5 _ _ no1 eo1
      replace eo2x := c5 _ _ no2x eo2x
      replace eo3x := c5 _ _ no3x eo3x
      replace eo4x := c5 _ _ no4x eo4x
      replace podd := podd.but c5
      generalize odd = od at *
      clear eo1 eo2x eo3x eo4x
      walk_at "rds"
      refine ⟨_, _, rfl, ?_⟩
      walk_at "rds"
      refine r_callS ?_
      walk_at "rds"
      refine ⟨_, rfl, .inr ⟨q, podd, fun dd hdd => ?_⟩⟩
      have ed0 : upd K5 dd (.xd [("part", .str "tangle")]) dd = some (.xd [("part", .str "tangle")]) := upd_same
      generalize upd K5 dd _ = Ga at *
      refine ⟨true, EK.up, fun _ a2 na2 => ?_, fun z => by cases z⟩
      walk_at "rds"
      generalize hGe : upd Ga a2 _ = Ge
      have sGe : Same Ga Ge := by rw [← hGe]; exact same_neu (Same.refl _) na2
      have ea : Ge a2 = some (ErO a2 (.ref ad.c_BadTangle) (some dd)) := by rw [← hGe]; exact upd_same
      have ed := sGe _ _ ed0
      clear hGe
      walk_at "rds"
      refine r_isE EK ea ed kk ?_
      walk_at "rds"
      refine ⟨a2, _, dd, _, .str "tangle", rfl, EK.xf, EK.no, ea, ed, by simp [List.lookup], ?_⟩
      walk_at "rds"
      rw [decide_eq_true rfl]
      exact k _
end
end K25
namespace K25
open PySem PySem.Spec PyProof.Rows L2 Rp LamX RZ
abbrev sIniBadTangle : Stmt := (clsBody 7).getD 0 (.Pass ⟨0, 0, 0, 0⟩)
theorem scIniBadTangle : FnScope ["self", "part"] ["self", "part"] (defScope sIniBadTangle) := ⟨rfl, rfl, rfl, by decide +kernel, rfl, by decide +kernel, by decide +kernel⟩
theorem ok_IniBadTangle {P : Program} {w : World} {K : PySem.W.Frag} {mg : Str → Option Value} {base : Heap} {C f : Addr} {fd : FuncData} (F : Fun K "__init__" "BadTangle.__init__" sIniBadTangle f fd) (O : OexC K C) (no : PySem.W.findIn K (.ref C) "part" = some none) : FnOk P w K mg base CX0 1 f fd ["self", "part"] (spIni1 C "part") := by
  refine F.ok scIniBadTangle (fun vs H Q E h => ?_) fun cdv A outer s H vs Q E hr h => ?_
  · obtain ⟨a, v, rfl, _⟩ := h
    rfl
  · obtain ⟨a, v, rfl, ha, k⟩ := h
    refine ⟨_, pss_one (ps_ost (pv 0) (pv 1)), ?_⟩
    refine r_start (l := [some (.ref a), some v]) rfl ?_
    refine ⟨_, rfl, ?_⟩
    refine ⟨_, rfl, ?_⟩
    exact ⟨a, C, rfl, O, no, .inl ⟨ha, fun dx n ne => k dx n ne⟩⟩
abbrev sIniMisfit : Stmt := (clsBody 8).getD 0 (.Pass ⟨0, 0, 0, 0⟩)
theorem scIniMisfit : FnScope ["self", "part"] ["self", "part"] (defScope sIniMisfit) := ⟨rfl, rfl, rfl, by decide +kernel, rfl, by decide +kernel, by decide +kernel⟩
theorem ok_IniMisfit {P : Program} {w : World} {K : PySem.W.Frag} {mg : Str → Option Value} {base : Heap} {C f : Addr} {fd : FuncData} (F : Fun K "__init__" "Misfit.__init__" sIniMisfit f fd) (O : OexC K C) (no : PySem.W.findIn K (.ref C) "part" = some none) : FnOk P w K mg base CX0 1 f fd ["self", "part"] (spIni1 C "part") := by
  refine F.ok scIniMisfit (fun vs H Q E h => ?_) fun cdv A outer s H vs Q E hr h => ?_
  · obtain ⟨a, v, rfl, _⟩ := h
    rfl
  · obtain ⟨a, v, rfl, ha, k⟩ := h
    refine ⟨_, pss_one (ps_ost (pv 0) (pv 1)), ?_⟩
    refine r_start (l := [some (.ref a), some v]) rfl ?_
    refine ⟨_, rfl, ?_⟩
    refine ⟨_, rfl, ?_⟩
    exact ⟨a, C, rfl, O, no, .inl ⟨ha, fun dx n ne => k dx n ne⟩⟩
abbrev sIniTooMany : Stmt := (clsBody 9).getD 0 (.Pass ⟨0, 0, 0, 0⟩)
theorem scIniTooMany : FnScope ["self", "what", "most"] ["self", "what", "most"] (defScope sIniTooMany) := ⟨rfl, rfl, rfl, by decide +kernel, rfl, by decide +kernel, by decide +kernel⟩
theorem ok_IniTooMany {P : Program} {w : World} {K : PySem.W.Frag} {mg : Str → Option Value} {base : Heap} {C f : Addr} {fd : FuncData} (F : Fun K "__init__" "TooMany.__init__" sIniTooMany f fd) (O : OexC K C) (no : PySem.W.findIn K (.ref C) "what" = some none) (no2 : PySem.W.findIn K (.ref C) "most" = some none) : FnOk P w K mg base CX0 1 f fd ["self", "what", "most"] (spIni2 C "what" "most") := by
  refine F.ok scIniTooMany (fun vs H Q E h => ?_) fun cdv A outer s H vs Q E hr h => ?_
  · obtain ⟨a, v, u, rfl, _⟩ := h
    rfl
  · obtain ⟨a, v, u, rfl, ha, k⟩ := h
    refine ⟨_, pss_cons (ps_ost (pv 0) (pv 1)) (pss_one (ps_ost (pv 0) (pv 2))), ?_⟩
    refine r_start (l := [some (.ref a), some v, some u]) rfl ?_
    refine r_seq ?_
    refine ⟨_, rfl, ?_⟩
    refine ⟨_, rfl, ?_⟩
    refine ⟨a, C, rfl, O, no, .inl ⟨ha, fun dx n ne => ?_⟩⟩
    refine ⟨_, rfl, ?_⟩
    refine ⟨_, rfl, ?_⟩
    refine ⟨a, C, rfl, O, no2, .inr ⟨dx, [("what", v)], upd_same, by rw [upd_ne ne, upd_same], by show 1 ≤ 900; decide, k dx n ne⟩⟩
theorem all_mk {l : PySem.W.OpenLaw} {w : World} {K : PySem.W.Frag} {h : Heap} {mg : Str → Option Value} {fa : Addr} (X : K.In h) (G : h.Ns mainGlobals mg) (hfa : mg "law" = some (.ref fa))
    {A_BadTangle : Addr}
    {A_Misfit : Addr}
    {A_TooMany : Addr}
    {A_RopeError : Addr}
    {A_BadText : Addr}
    {A_Items : Addr}
    {A_Tangle : Addr}
    {A_Floor : Addr}
    {f0 : Addr} {od0 an0 : Option Addr} {sl0 : Array (Option Value)} {oc0 kV0 dc0 pm0 cd0 ct0 : Value}
    {f1 : Addr} {od1 an1 : Option Addr} {sl1 : Array (Option Value)} {oc1 kV1 dc1 pm1 cd1 ct1 : Value}
    {f2 : Addr} {od2 an2 : Option Addr} {sl2 : Array (Option Value)} {oc2 kV2 dc2 pm2 cd2 ct2 : Value}
    {f3 : Addr} {od3 an3 : Option Addr} {sl3 : Array (Option Value)} {oc3 kV3 dc3 pm3 cd3 ct3 : Value}
    {f4 : Addr} {od4 an4 : Option Addr} {sl4 : Array (Option Value)} {oc4 kV4 dc4 pm4 cd4 ct4 : Value}
    {f5 : Addr} {od5 an5 : Option Addr} {sl5 : Array (Option Value)} {oc5 kV5 dc5 pm5 cd5 ct5 : Value}
    {f6 : Addr} {od6 an6 : Option Addr} {sl6 : Array (Option Value)} {oc6 kV6 dc6 pm6 cd6 ct6 : Value}
    {f7 : Addr} {od7 an7 : Option Addr} {sl7 : Array (Option Value)} {oc7 kV7 dc7 pm7 cd7 ct7 : Value}
    {f8 : Addr} {od8 an8 : Option Addr} {sl8 : Array (Option Value)} {oc8 kV8 dc8 pm8 cd8 ct8 : Value}
    {f9 : Addr} {od9 an9 : Option Addr} {sl9 : Array (Option Value)} {oc9 kV9 dc9 pm9 cd9 ct9 : Value}
    {f10 : Addr} {od10 an10 : Option Addr} {sl10 : Array (Option Value)} {oc10 kV10 dc10 pm10 cd10 ct10 : Value}
    {f11 : Addr} {od11 an11 : Option Addr} {sl11 : Array (Option Value)} {oc11 kV11 dc11 pm11 cd11 ct11 : Value}
    {f12 : Addr} {od12 an12 : Option Addr} {sl12 : Array (Option Value)} {oc12 kV12 dc12 pm12 cd12 ct12 : Value}
    {f13 : Addr} {od13 an13 : Option Addr} {sl13 : Array (Option Value)} {oc13 kV13 dc13 pm13 cd13 ct13 : Value}
    {f14 : Addr} {od14 an14 : Option Addr} {sl14 : Array (Option Value)} {oc14 kV14 dc14 pm14 cd14 ct14 : Value}
    {f15 : Addr} {od15 an15 : Option Addr} {sl15 : Array (Option Value)} {oc15 kV15 dc15 pm15 cd15 ct15 : Value}
    {f16 : Addr} {od16 an16 : Option Addr} {sl16 : Array (Option Value)} {oc16 kV16 dc16 pm16 cd16 ct16 : Value}
    {f17 : Addr} {od17 an17 : Option Addr} {sl17 : Array (Option Value)} {oc17 kV17 dc17 pm17 cd17 ct17 : Value}
    {f18 : Addr} {od18 an18 : Option Addr} {sl18 : Array (Option Value)} {oc18 kV18 dc18 pm18 cd18 ct18 : Value}
    {f19 : Addr} {od19 an19 : Option Addr} {sl19 : Array (Option Value)} {oc19 kV19 dc19 pm19 cd19 ct19 : Value}
    {f20 : Addr} {od20 an20 : Option Addr} {sl20 : Array (Option Value)} {oc20 kV20 dc20 pm20 cd20 ct20 : Value}
    {f21 : Addr} {od21 an21 : Option Addr} {sl21 : Array (Option Value)} {oc21 kV21 dc21 pm21 cd21 ct21 : Value}
    {f22 : Addr} {od22 an22 : Option Addr} {sl22 : Array (Option Value)} {oc22 kV22 dc22 pm22 cd22 ct22 : Value}
    {f23 : Addr} {od23 an23 : Option Addr} {sl23 : Array (Option Value)} {oc23 kV23 dc23 pm23 cd23 ct23 : Value}
    {f24 : Addr} {od24 an24 : Option Addr} {sl24 : Array (Option Value)} {oc24 kV24 dc24 pm24 cd24 ct24 : Value}
    {k_MOST_DEEDS : Tok}
    {k_MOST_ENDS : Tok}
    {k_MOST_AT_RIM : Tok}
    {t_WORDS : Addr} {od_WORDS : Option Addr} {n_WORDS : Nat} {sl_WORDS : Array (Option Value)} {tk_WORDS_0 tk_WORDS_1 tk_WORDS_2 tk_WORDS_3 tk_WORDS_4 : Tok}
    {fi_BadTangle : Addr} {nm_BadTangle q_BadTangle : Str} {N_BadTangle : Addr} {bs_BadTangle bm_BadTangle : List Value} {sn_BadTangle : List Str} {sub_BadTangle : List Value} {ab_BadTangle : Bool} {col_BadTangle : Option Bool} {dd_BadTangle : Option Addr} {k0_BadTangle k1_BadTangle k2_BadTangle k3_BadTangle k5_BadTangle : Option Value} {od_BadTangle an_BadTangle : Option Addr} {sl_BadTangle : Array (Option Value)} {oc_BadTangle kV_BadTangle dc_BadTangle pm_BadTangle cd_BadTangle ct_BadTangle : Value}
    {fi_Misfit : Addr} {nm_Misfit q_Misfit : Str} {N_Misfit : Addr} {bs_Misfit bm_Misfit : List Value} {sn_Misfit : List Str} {sub_Misfit : List Value} {ab_Misfit : Bool} {col_Misfit : Option Bool} {dd_Misfit : Option Addr} {k0_Misfit k1_Misfit k2_Misfit k3_Misfit k5_Misfit : Option Value} {od_Misfit an_Misfit : Option Addr} {sl_Misfit : Array (Option Value)} {oc_Misfit kV_Misfit dc_Misfit pm_Misfit cd_Misfit ct_Misfit : Value}
    {fi_TooMany : Addr} {nm_TooMany q_TooMany : Str} {N_TooMany : Addr} {bs_TooMany bm_TooMany : List Value} {sn_TooMany : List Str} {sub_TooMany : List Value} {ab_TooMany : Bool} {col_TooMany : Option Bool} {dd_TooMany : Option Addr} {k0_TooMany k1_TooMany k2_TooMany k3_TooMany k5_TooMany : Option Value} {od_TooMany an_TooMany : Option Addr} {sl_TooMany : Array (Option Value)} {oc_TooMany kV_TooMany dc_TooMany pm_TooMany cd_TooMany ct_TooMany : Value}
    (g_BadTangle : PySem.W.nsIn K mainGlobals "BadTangle" = some (some (.ref A_BadTangle)))
    (g_Misfit : PySem.W.nsIn K mainGlobals "Misfit" = some (some (.ref A_Misfit)))
    (g_TooMany : PySem.W.nsIn K mainGlobals "TooMany" = some (some (.ref A_TooMany)))
    (g_RopeError : PySem.W.nsIn K mainGlobals "RopeError" = some (some (.ref A_RopeError)))
    (g_BadText : PySem.W.nsIn K mainGlobals "BadText" = some (some (.ref A_BadText)))
    (g_Items : PySem.W.nsIn K mainGlobals "Items" = some (some (.ref A_Items)))
    (g_Tangle : PySem.W.nsIn K mainGlobals "Tangle" = some (some (.ref A_Tangle)))
    (mk_Tangle : PySem.W.makesIn K A_Tangle = true)
    (kp_Tangle : PySem.W.keepIn K (.ref A_Tangle) = true)
    (pg_Tangle : PySem.W.plainGet K A_Tangle Str.empty = true)
    (hd_Tangle : PySem.W.hasDictIn K A_Tangle = true)
    (po_Tangle : PySem.W.plainOver K A_Tangle = true)
    (sa_Tangle : PySem.W.findIn K (.ref A_Tangle) "__setattr__" = some (some (.builtin "object.__setattr__")))
    (na_Tangle_ends : PySem.W.findIn K (.ref A_Tangle) "ends" = some none)
    (na_Tangle_deeds : PySem.W.findIn K (.ref A_Tangle) "deeds" = some none)
    (ha_Tangle : PySem.W.findIn K (.ref A_Tangle) "__class__" = some (some (.builtin "object.__class__")))
    (hm_Tangle : PySem.W.mroIn K A_Tangle (.type "object") = some true)
    (me_Tangle : PySem.W.kitOne K (.ref A_Tangle) (.ref A_Tangle) = some true)
    (nk_Tangle_NoneType : PySem.W.kitOne K (.type "NoneType") (.ref A_Tangle) = some false)
    (nk_Tangle_bool : PySem.W.kitOne K (.type "bool") (.ref A_Tangle) = some false)
    (nk_Tangle_int : PySem.W.kitOne K (.type "int") (.ref A_Tangle) = some false)
    (nk_Tangle_str : PySem.W.kitOne K (.type "str") (.ref A_Tangle) = some false)
    (nk_Tangle_list : PySem.W.kitOne K (.type "list") (.ref A_Tangle) = some false)
    (nk_Tangle_tuple : PySem.W.kitOne K (.type "tuple") (.ref A_Tangle) = some false)
    (nk_Tangle_dict : PySem.W.kitOne K (.type "dict") (.ref A_Tangle) = some false)
    (g_Floor : PySem.W.nsIn K mainGlobals "Floor" = some (some (.ref A_Floor)))
    (mk_Floor : PySem.W.makesIn K A_Floor = true)
    (kp_Floor : PySem.W.keepIn K (.ref A_Floor) = true)
    (pg_Floor : PySem.W.plainGet K A_Floor Str.empty = true)
    (hd_Floor : PySem.W.hasDictIn K A_Floor = true)
    (po_Floor : PySem.W.plainOver K A_Floor = true)
    (sa_Floor : PySem.W.findIn K (.ref A_Floor) "__setattr__" = some (some (.builtin "object.__setattr__")))
    (na_Floor_ring : PySem.W.findIn K (.ref A_Floor) "ring" = some none)
    (na_Floor_lesser : PySem.W.findIn K (.ref A_Floor) "lesser" = some none)
    (na_Floor_rings : PySem.W.findIn K (.ref A_Floor) "rings" = some none)
    (na_Floor_crossings : PySem.W.findIn K (.ref A_Floor) "crossings" = some none)
    (na_Floor_regions : PySem.W.findIn K (.ref A_Floor) "regions" = some none)
    (a0 : PySem.W.nsIn K mainGlobals "is_integer" = some (some (.ref f0)))
    (l0 : K.lookup f0 = some ⟨oc0, od0, .func (PySem.W.fnOf "is_integer" "is_integer" (defArgs sIsInteger) (defBody sIsInteger) (defScope sIsInteger) .none kV0 dc0 pm0 an0 cd0 ct0), sl0⟩)
    (c0 : PySem.W.codeIn K cd0 "is_integer" = true)
    (k0 : PySem.W.keepIn K (.ref f0) = true)
    (a1 : PySem.W.nsIn K mainGlobals "is_within" = some (some (.ref f1)))
    (l1 : K.lookup f1 = some ⟨oc1, od1, .func (PySem.W.fnOf "is_within" "is_within" (defArgs sIsWithin) (defBody sIsWithin) (defScope sIsWithin) .none kV1 dc1 pm1 an1 cd1 ct1), sl1⟩)
    (c1 : PySem.W.codeIn K cd1 "is_within" = true)
    (k1 : PySem.W.keepIn K (.ref f1) = true)
    (a2 : PySem.W.nsIn K mainGlobals "are_deeds" = some (some (.ref f2)))
    (l2 : K.lookup f2 = some ⟨oc2, od2, .func (PySem.W.fnOf "are_deeds" "are_deeds" (defArgs sAreDeeds) (defBody sAreDeeds) (defScope sAreDeeds) .none kV2 dc2 pm2 an2 cd2 ct2), sl2⟩)
    (c2 : PySem.W.codeIn K cd2 "are_deeds" = true)
    (k2 : PySem.W.keepIn K (.ref f2) = true)
    (a3 : PySem.W.nsIn K mainGlobals "_is_deed" = some (some (.ref f3)))
    (l3 : K.lookup f3 = some ⟨oc3, od3, .func (PySem.W.fnOf "_is_deed" "_is_deed" (defArgs sIsDeed) (defBody sIsDeed) (defScope sIsDeed) .none kV3 dc3 pm3 an3 cd3 ct3), sl3⟩)
    (c3 : PySem.W.codeIn K cd3 "_is_deed" = true)
    (k3 : PySem.W.keepIn K (.ref f3) = true)
    (a4 : PySem.W.nsIn K mainGlobals "_fitting_gaps" = some (some (.ref f4)))
    (l4 : K.lookup f4 = some ⟨oc4, od4, .func (PySem.W.fnOf "_fitting_gaps" "_fitting_gaps" (defArgs sFittingGaps) (defBody sFittingGaps) (defScope sFittingGaps) .none kV4 dc4 pm4 an4 cd4 ct4), sl4⟩)
    (c4 : PySem.W.codeIn K cd4 "_fitting_gaps" = true)
    (k4 : PySem.W.keepIn K (.ref f4) = true)
    (a5 : PySem.W.nsIn K mainGlobals "ends_behind" = some (some (.ref f5)))
    (l5 : K.lookup f5 = some ⟨oc5, od5, .func (PySem.W.fnOf "ends_behind" "ends_behind" (defArgs sEndsBehind) (defBody sEndsBehind) (defScope sEndsBehind) .none kV5 dc5 pm5 an5 cd5 ct5), sl5⟩)
    (c5 : PySem.W.codeIn K cd5 "ends_behind" = true)
    (k5 : PySem.W.keepIn K (.ref f5) = true)
    (a6 : PySem.W.nsIn K mainGlobals "demand_fitting" = some (some (.ref f6)))
    (l6 : K.lookup f6 = some ⟨oc6, od6, .func (PySem.W.fnOf "demand_fitting" "demand_fitting" (defArgs sDemandFitting) (defBody sDemandFitting) (defScope sDemandFitting) .none kV6 dc6 pm6 an6 cd6 ct6), sl6⟩)
    (c6 : PySem.W.codeIn K cd6 "demand_fitting" = true)
    (k6 : PySem.W.keepIn K (.ref f6) = true)
    (a7 : PySem.W.findIn K (.ref A_Tangle) "__init__" = some (some (.ref f7)))
    (l7 : K.lookup f7 = some ⟨oc7, od7, .func (PySem.W.fnOf "__init__" "Tangle.__init__" (defArgs sTangleInit) (defBody sTangleInit) (defScope sTangleInit) .none kV7 dc7 pm7 an7 cd7 ct7), sl7⟩)
    (c7 : PySem.W.codeIn K cd7 "Tangle.__init__" = true)
    (k7 : PySem.W.keepIn K (.ref f7) = true)
    (fn7 : PySem.W.isFn K (.ref f7) = true)
    (a8 : PySem.W.nsIn K mainGlobals "demand_tangle" = some (some (.ref f8)))
    (l8 : K.lookup f8 = some ⟨oc8, od8, .func (PySem.W.fnOf "demand_tangle" "demand_tangle" (defArgs sDemandTangle) (defBody sDemandTangle) (defScope sDemandTangle) .none kV8 dc8 pm8 an8 cd8 ct8), sl8⟩)
    (c8 : PySem.W.codeIn K cd8 "demand_tangle" = true)
    (k8 : PySem.W.keepIn K (.ref f8) = true)
    (a9 : PySem.W.nsIn K mainGlobals "rings_of" = some (some (.ref f9)))
    (l9 : K.lookup f9 = some ⟨oc9, od9, .func (PySem.W.fnOf "rings_of" "rings_of" (defArgs sRingsOf) (defBody sRingsOf) (defScope sRingsOf) .none kV9 dc9 pm9 an9 cd9 ct9), sl9⟩)
    (c9 : PySem.W.codeIn K cd9 "rings_of" = true)
    (k9 : PySem.W.keepIn K (.ref f9) = true)
    (a10 : PySem.W.nsIn K mainGlobals "rim_of" = some (some (.ref f10)))
    (l10 : K.lookup f10 = some ⟨oc10, od10, .func (PySem.W.fnOf "rim_of" "rim_of" (defArgs sRimOf) (defBody sRimOf) (defScope sRimOf) .none kV10 dc10 pm10 an10 cd10 ct10), sl10⟩)
    (c10 : PySem.W.codeIn K cd10 "rim_of" = true)
    (k10 : PySem.W.keepIn K (.ref f10) = true)
    (a11 : PySem.W.nsIn K mainGlobals "crossings_of" = some (some (.ref f11)))
    (l11 : K.lookup f11 = some ⟨oc11, od11, .func (PySem.W.fnOf "crossings_of" "crossings_of" (defArgs sCrossingsOf) (defBody sCrossingsOf) (defScope sCrossingsOf) .none kV11 dc11 pm11 an11 cd11 ct11), sl11⟩)
    (c11 : PySem.W.codeIn K cd11 "crossings_of" = true)
    (k11 : PySem.W.keepIn K (.ref f11) = true)
    (a12 : PySem.W.findIn K (.ref A_Floor) "_new_gap" = some (some (.ref f12)))
    (l12 : K.lookup f12 = some ⟨oc12, od12, .func (PySem.W.fnOf "_new_gap" "Floor._new_gap" (defArgs sFloorNewGap) (defBody sFloorNewGap) (defScope sFloorNewGap) .none kV12 dc12 pm12 an12 cd12 ct12), sl12⟩)
    (c12 : PySem.W.codeIn K cd12 "Floor._new_gap" = true)
    (k12 : PySem.W.keepIn K (.ref f12) = true)
    (fn12 : PySem.W.isFn K (.ref f12) = true)
    (a13 : PySem.W.findIn K (.ref A_Floor) "_least" = some (some (.ref f13)))
    (l13 : K.lookup f13 = some ⟨oc13, od13, .func (PySem.W.fnOf "_least" "Floor._least" (defArgs sFloorLeast) (defBody sFloorLeast) (defScope sFloorLeast) .none kV13 dc13 pm13 an13 cd13 ct13), sl13⟩)
    (c13 : PySem.W.codeIn K cd13 "Floor._least" = true)
    (k13 : PySem.W.keepIn K (.ref f13) = true)
    (fn13 : PySem.W.isFn K (.ref f13) = true)
    (a14 : PySem.W.findIn K (.ref A_Floor) "_make_one" = some (some (.ref f14)))
    (l14 : K.lookup f14 = some ⟨oc14, od14, .func (PySem.W.fnOf "_make_one" "Floor._make_one" (defArgs sFloorMakeOne) (defBody sFloorMakeOne) (defScope sFloorMakeOne) .none kV14 dc14 pm14 an14 cd14 ct14), sl14⟩)
    (c14 : PySem.W.codeIn K cd14 "Floor._make_one" = true)
    (k14 : PySem.W.keepIn K (.ref f14) = true)
    (fn14 : PySem.W.isFn K (.ref f14) = true)
    (a15 : PySem.W.findIn K (.ref A_Floor) "_ring_behind" = some (some (.ref f15)))
    (l15 : K.lookup f15 = some ⟨oc15, od15, .func (PySem.W.fnOf "_ring_behind" "Floor._ring_behind" (defArgs sFloorRingBehind) (defBody sFloorRingBehind) (defScope sFloorRingBehind) .none kV15 dc15 pm15 an15 cd15 ct15), sl15⟩)
    (c15 : PySem.W.codeIn K cd15 "Floor._ring_behind" = true)
    (k15 : PySem.W.keepIn K (.ref f15) = true)
    (fn15 : PySem.W.isFn K (.ref f15) = true)
    (a16 : PySem.W.findIn K (.ref A_Floor) "_close_up" = some (some (.ref f16)))
    (l16 : K.lookup f16 = some ⟨oc16, od16, .func (PySem.W.fnOf "_close_up" "Floor._close_up" (defArgs sFloorCloseUp) (defBody sFloorCloseUp) (defScope sFloorCloseUp) .none kV16 dc16 pm16 an16 cd16 ct16), sl16⟩)
    (c16 : PySem.W.codeIn K cd16 "Floor._close_up" = true)
    (k16 : PySem.W.keepIn K (.ref f16) = true)
    (fn16 : PySem.W.isFn K (.ref f16) = true)
    (a17 : PySem.W.findIn K (.ref A_Floor) "__init__" = some (some (.ref f17)))
    (l17 : K.lookup f17 = some ⟨oc17, od17, .func (PySem.W.fnOf "__init__" "Floor.__init__" (defArgs sFloorInit) (defBody sFloorInit) (defScope sFloorInit) .none kV17 dc17 pm17 an17 cd17 ct17), sl17⟩)
    (c17 : PySem.W.codeIn K cd17 "Floor.__init__" = true)
    (k17 : PySem.W.keepIn K (.ref f17) = true)
    (fn17 : PySem.W.isFn K (.ref f17) = true)
    (a18 : PySem.W.nsIn K mainGlobals "_law_staircase" = some (some (.ref f18)))
    (l18 : K.lookup f18 = some ⟨oc18, od18, .func (PySem.W.fnOf "_law_staircase" "_law_staircase" (defArgs sLawStaircase) (defBody sLawStaircase) (defScope sLawStaircase) .none kV18 dc18 pm18 an18 cd18 ct18), sl18⟩)
    (c18 : PySem.W.codeIn K cd18 "_law_staircase" = true)
    (k18 : PySem.W.keepIn K (.ref f18) = true)
    (a19 : PySem.W.nsIn K mainGlobals "_law_step" = some (some (.ref f19)))
    (l19 : K.lookup f19 = some ⟨oc19, od19, .func (PySem.W.fnOf "_law_step" "_law_step" (defArgs sLawStep) (defBody sLawStep) (defScope sLawStep) .none kV19 dc19 pm19 an19 cd19 ct19), sl19⟩)
    (c19 : PySem.W.codeIn K cd19 "_law_step" = true)
    (k19 : PySem.W.keepIn K (.ref f19) = true)
    (a20 : PySem.W.nsIn K mainGlobals "_law_pick" = some (some (.ref f20)))
    (l20 : K.lookup f20 = some ⟨oc20, od20, .func (PySem.W.fnOf "_law_pick" "_law_pick" (defArgs sLawPick) (defBody sLawPick) (defScope sLawPick) .none kV20 dc20 pm20 an20 cd20 ct20), sl20⟩)
    (c20 : PySem.W.codeIn K cd20 "_law_pick" = true)
    (k20 : PySem.W.keepIn K (.ref f20) = true)
    (a21 : PySem.W.nsIn K mainGlobals "_law_deeds" = some (some (.ref f21)))
    (l21 : K.lookup f21 = some ⟨oc21, od21, .func (PySem.W.fnOf "_law_deeds" "_law_deeds" (defArgs sLawDeeds) (defBody sLawDeeds) (defScope sLawDeeds) .none kV21 dc21 pm21 an21 cd21 ct21), sl21⟩)
    (c21 : PySem.W.codeIn K cd21 "_law_deeds" = true)
    (k21 : PySem.W.keepIn K (.ref f21) = true)
    (a22 : PySem.W.nsIn K mainGlobals "_law_floor" = some (some (.ref f22)))
    (l22 : K.lookup f22 = some ⟨oc22, od22, .func (PySem.W.fnOf "_law_floor" "_law_floor" (defArgs sLawFloor) (defBody sLawFloor) (defScope sLawFloor) .none kV22 dc22 pm22 an22 cd22 ct22), sl22⟩)
    (c22 : PySem.W.codeIn K cd22 "_law_floor" = true)
    (k22 : PySem.W.keepIn K (.ref f22) = true)
    (a23 : PySem.W.nsIn K mainGlobals "_law_steps_right" = some (some (.ref f23)))
    (l23 : K.lookup f23 = some ⟨oc23, od23, .func (PySem.W.fnOf "_law_steps_right" "_law_steps_right" (defArgs sLawStepsRight) (defBody sLawStepsRight) (defScope sLawStepsRight) .none kV23 dc23 pm23 an23 cd23 ct23), sl23⟩)
    (c23 : PySem.W.codeIn K cd23 "_law_steps_right" = true)
    (k23 : PySem.W.keepIn K (.ref f23) = true)
    (a24 : PySem.W.nsIn K mainGlobals "law" = some (some (.ref f24)))
    (l24 : K.lookup f24 = some ⟨oc24, od24, .func (PySem.W.fnOf "law" "law" (defArgs sLaw) (defBody sLaw) (defScope sLaw) .none kV24 dc24 pm24 an24 cd24 ct24), sl24⟩)
    (c24 : PySem.W.codeIn K cd24 "law" = true)
    (k24 : PySem.W.keepIn K (.ref f24) = true)
    (z_abs : PySem.W.nsIn K mainGlobals "abs" = some none)
    (z_all : PySem.W.nsIn K mainGlobals "all" = some none)
    (z_bool : PySem.W.nsIn K mainGlobals "bool" = some none)
    (z_enumerate : PySem.W.nsIn K mainGlobals "enumerate" = some none)
    (z_int : PySem.W.nsIn K mainGlobals "int" = some none)
    (z_isinstance : PySem.W.nsIn K mainGlobals "isinstance" = some none)
    (z_len : PySem.W.nsIn K mainGlobals "len" = some none)
    (z_list : PySem.W.nsIn K mainGlobals "list" = some none)
    (z_max : PySem.W.nsIn K mainGlobals "max" = some none)
    (z_min : PySem.W.nsIn K mainGlobals "min" = some none)
    (z_range : PySem.W.nsIn K mainGlobals "range" = some none)
    (z_repr : PySem.W.nsIn K mainGlobals "repr" = some none)
    (z_set : PySem.W.nsIn K mainGlobals "set" = some none)
    (z_sorted : PySem.W.nsIn K mainGlobals "sorted" = some none)
    (z_str : PySem.W.nsIn K mainGlobals "str" = some none)
    (z_tuple : PySem.W.nsIn K mainGlobals "tuple" = some none)
    (z_zip : PySem.W.nsIn K mainGlobals "zip" = some none)
    (q_MOST_DEEDS : PySem.W.nsIn K mainGlobals "MOST_DEEDS" = some (some (.int 4000 k_MOST_DEEDS)))
    (q_MOST_ENDS : PySem.W.nsIn K mainGlobals "MOST_ENDS" = some (some (.int 24 k_MOST_ENDS)))
    (q_MOST_AT_RIM : PySem.W.nsIn K mainGlobals "MOST_AT_RIM" = some (some (.int 16 k_MOST_AT_RIM)))
    (q_WORDS : PySem.W.nsIn K mainGlobals "WORDS" = some (some (.ref t_WORDS)))
    (lq_WORDS : K.lookup t_WORDS = some ⟨.type "tuple", od_WORDS, .seq #[.str "over" tk_WORDS_0, .str "under" tk_WORDS_1, .str "join" tk_WORDS_2, .str "open" tk_WORDS_3, .str "turn" tk_WORDS_4] n_WORDS, sl_WORDS⟩)
    (o_BadTangle : K.lookup A_BadTangle = some (excClassObj nm_BadTangle q_BadTangle A_BadTangle N_BadTangle bs_BadTangle bm_BadTangle true sn_BadTangle sub_BadTangle ab_BadTangle col_BadTangle dd_BadTangle k0_BadTangle k1_BadTangle k2_BadTangle k3_BadTangle k5_BadTangle "ValueError.__new__"))
    (r_BadTangle : PySem.HandSPX.refsVE bm_BadTangle = true)
    (sa_BadTangle : PySem.W.findIn K (.ref A_BadTangle) "__setattr__" = some (some (.builtin "object.__setattr__")))
    (ex_BadTangle : PySem.W.subIn K (.ref A_BadTangle) (.type "BaseException") = some true)
    (ty_BadTangle : PySem.W.typeIn K (.ref A_BadTangle) = some (.type "type"))
    (kc_BadTangle : PySem.W.keepIn K (.ref A_BadTangle) = true)
    (no_BadTangle_part : PySem.W.findIn K (.ref A_BadTangle) "part" = some none)
    (ga_BadTangle : PySem.W.findIn K (.ref A_BadTangle) "__getattribute__" = some (some (.builtin "BaseException.__getattribute__")))
    (gg_BadTangle : PySem.W.findIn K (.ref A_BadTangle) "__getattr__" = some none)
    (hd_BadTangle : PySem.W.hasDictIn K A_BadTangle = true)
    (ha_BadTangle : PySem.W.findIn K (.ref A_BadTangle) "__class__" = some (some (.builtin "object.__class__")))
    (hm_BadTangle : PySem.W.mroIn K A_BadTangle (.type "object") = some true)
    (in_BadTangle : PySem.W.findIn K (.ref A_BadTangle) "__init__" = some (some (.ref fi_BadTangle)))
    (it_BadTangle : PySem.W.typeIn K (.ref fi_BadTangle) = some (.type "function"))
    (il_BadTangle : K.lookup fi_BadTangle = some ⟨oc_BadTangle, od_BadTangle, .func (PySem.W.fnOf "__init__" "BadTangle.__init__" (defArgs sIniBadTangle) (defBody sIniBadTangle) (defScope sIniBadTangle) .none kV_BadTangle dc_BadTangle pm_BadTangle an_BadTangle cd_BadTangle ct_BadTangle), sl_BadTangle⟩)
    (ic_BadTangle : PySem.W.codeIn K cd_BadTangle "BadTangle.__init__" = true)
    (ik_BadTangle : PySem.W.keepIn K (.ref fi_BadTangle) = true)
    (up_BadTangle : PySem.W.exmOne K (.ref A_BadTangle) (.ref A_RopeError) = some true)
    (o_Misfit : K.lookup A_Misfit = some (excClassObj nm_Misfit q_Misfit A_Misfit N_Misfit bs_Misfit bm_Misfit true sn_Misfit sub_Misfit ab_Misfit col_Misfit dd_Misfit k0_Misfit k1_Misfit k2_Misfit k3_Misfit k5_Misfit "ValueError.__new__"))
    (r_Misfit : PySem.HandSPX.refsVE bm_Misfit = true)
    (sa_Misfit : PySem.W.findIn K (.ref A_Misfit) "__setattr__" = some (some (.builtin "object.__setattr__")))
    (ex_Misfit : PySem.W.subIn K (.ref A_Misfit) (.type "BaseException") = some true)
    (ty_Misfit : PySem.W.typeIn K (.ref A_Misfit) = some (.type "type"))
    (kc_Misfit : PySem.W.keepIn K (.ref A_Misfit) = true)
    (no_Misfit_part : PySem.W.findIn K (.ref A_Misfit) "part" = some none)
    (ga_Misfit : PySem.W.findIn K (.ref A_Misfit) "__getattribute__" = some (some (.builtin "BaseException.__getattribute__")))
    (gg_Misfit : PySem.W.findIn K (.ref A_Misfit) "__getattr__" = some none)
    (hd_Misfit : PySem.W.hasDictIn K A_Misfit = true)
    (ha_Misfit : PySem.W.findIn K (.ref A_Misfit) "__class__" = some (some (.builtin "object.__class__")))
    (hm_Misfit : PySem.W.mroIn K A_Misfit (.type "object") = some true)
    (in_Misfit : PySem.W.findIn K (.ref A_Misfit) "__init__" = some (some (.ref fi_Misfit)))
    (it_Misfit : PySem.W.typeIn K (.ref fi_Misfit) = some (.type "function"))
    (il_Misfit : K.lookup fi_Misfit = some ⟨oc_Misfit, od_Misfit, .func (PySem.W.fnOf "__init__" "Misfit.__init__" (defArgs sIniMisfit) (defBody sIniMisfit) (defScope sIniMisfit) .none kV_Misfit dc_Misfit pm_Misfit an_Misfit cd_Misfit ct_Misfit), sl_Misfit⟩)
    (ic_Misfit : PySem.W.codeIn K cd_Misfit "Misfit.__init__" = true)
    (ik_Misfit : PySem.W.keepIn K (.ref fi_Misfit) = true)
    (up_Misfit : PySem.W.exmOne K (.ref A_Misfit) (.ref A_RopeError) = some true)
    (o_TooMany : K.lookup A_TooMany = some (excClassObj nm_TooMany q_TooMany A_TooMany N_TooMany bs_TooMany bm_TooMany true sn_TooMany sub_TooMany ab_TooMany col_TooMany dd_TooMany k0_TooMany k1_TooMany k2_TooMany k3_TooMany k5_TooMany "ValueError.__new__"))
    (r_TooMany : PySem.HandSPX.refsVE bm_TooMany = true)
    (sa_TooMany : PySem.W.findIn K (.ref A_TooMany) "__setattr__" = some (some (.builtin "object.__setattr__")))
    (ex_TooMany : PySem.W.subIn K (.ref A_TooMany) (.type "BaseException") = some true)
    (ty_TooMany : PySem.W.typeIn K (.ref A_TooMany) = some (.type "type"))
    (kc_TooMany : PySem.W.keepIn K (.ref A_TooMany) = true)
    (no_TooMany_what : PySem.W.findIn K (.ref A_TooMany) "what" = some none)
    (no_TooMany_most : PySem.W.findIn K (.ref A_TooMany) "most" = some none)
    (ga_TooMany : PySem.W.findIn K (.ref A_TooMany) "__getattribute__" = some (some (.builtin "BaseException.__getattribute__")))
    (gg_TooMany : PySem.W.findIn K (.ref A_TooMany) "__getattr__" = some none)
    (hd_TooMany : PySem.W.hasDictIn K A_TooMany = true)
    (ha_TooMany : PySem.W.findIn K (.ref A_TooMany) "__class__" = some (some (.builtin "object.__class__")))
    (hm_TooMany : PySem.W.mroIn K A_TooMany (.type "object") = some true)
    (in_TooMany : PySem.W.findIn K (.ref A_TooMany) "__init__" = some (some (.ref fi_TooMany)))
    (it_TooMany : PySem.W.typeIn K (.ref fi_TooMany) = some (.type "function"))
    (il_TooMany : K.lookup fi_TooMany = some ⟨oc_TooMany, od_TooMany, .func (PySem.W.fnOf "__init__" "TooMany.__init__" (defArgs sIniTooMany) (defBody sIniTooMany) (defScope sIniTooMany) .none kV_TooMany dc_TooMany pm_TooMany an_TooMany cd_TooMany ct_TooMany), sl_TooMany⟩)
    (ic_TooMany : PySem.W.codeIn K cd_TooMany "TooMany.__init__" = true)
    (ik_TooMany : PySem.W.keepIn K (.ref fi_TooMany) = true)
    (up_TooMany : PySem.W.exmOne K (.ref A_TooMany) (.ref A_RopeError) = some true)
    (nn_BadTangle : PySem.W.kitOne K (.type "NoneType") (.ref A_BadTangle) = some false)
    (nn_Misfit : PySem.W.kitOne K (.type "NoneType") (.ref A_Misfit) = some false)
    (nn_TooMany : PySem.W.kitOne K (.type "NoneType") (.ref A_TooMany) = some false)
    (k_BadTangle_BadTangle : PySem.W.kitOne K (.ref A_BadTangle) (.ref A_BadTangle) = some true)
    (k_BadTangle_Misfit : PySem.W.kitOne K (.ref A_BadTangle) (.ref A_Misfit) = some false)
    (k_BadTangle_TooMany : PySem.W.kitOne K (.ref A_BadTangle) (.ref A_TooMany) = some false)
    (k_Misfit_BadTangle : PySem.W.kitOne K (.ref A_Misfit) (.ref A_BadTangle) = some false)
    (k_Misfit_Misfit : PySem.W.kitOne K (.ref A_Misfit) (.ref A_Misfit) = some true)
    (k_Misfit_TooMany : PySem.W.kitOne K (.ref A_Misfit) (.ref A_TooMany) = some false)
    (k_TooMany_BadTangle : PySem.W.kitOne K (.ref A_TooMany) (.ref A_BadTangle) = some false)
    (k_TooMany_Misfit : PySem.W.kitOne K (.ref A_TooMany) (.ref A_Misfit) = some false)
    (k_TooMany_TooMany : PySem.W.kitOne K (.ref A_TooMany) (.ref A_TooMany) = some true)
    (hn_ : PySem.W.specialIn K (.builtin "object.__class__") "__get__" = some (some (.builtin "getset_descriptor.__get__")))
    (ht_ : PySem.W.takesIn K (.builtin "object.__class__") = some true) :
    ∃ fd : FuncData, (∀ (t : Shared) (v : Value), BindsTo t fd ⟨[v], []⟩ [("script", v)]) ∧ ∀ base : Heap, K.In base → base.Ns mainGlobals mg → HasMods base → FnG l.prog w K mg base 16 fa fd ["script"] (spLaw25 K) := by
  have e := hfa.symm.trans (PySem.W.mg_of X G a24)
  cases e
  have CT_WORDS : ∀ {H : Hp}, SqT K H t_WORDS [.str "over", .str "under", .str "join", .str "open", .str "turn"] := .inr ⟨_, _, _, lq_WORDS, rfl, rfl, len_ok rfl, (.cons ⟨_, rfl⟩ (.cons ⟨_, rfl⟩ (.cons ⟨_, rfl⟩ (.cons ⟨_, rfl⟩ (.cons ⟨_, rfl⟩ .nil)))))⟩
  have T : Txt K mg (Ad.mk k_MOST_DEEDS k_MOST_ENDS k_MOST_AT_RIM t_WORDS A_RopeError A_BadTangle A_Misfit A_TooMany A_BadText A_Floor A_Items A_Tangle) := ⟨PySem.W.mg_of X G q_MOST_DEEDS, PySem.W.mg_of X G q_MOST_ENDS, PySem.W.mg_of X G q_MOST_AT_RIM, PySem.W.mg_of X G q_WORDS, CT_WORDS, PySem.W.mg_of X G g_RopeError, PySem.W.mg_of X G g_BadTangle, PySem.W.mg_of X G g_Misfit, PySem.W.mg_of X G g_TooMany, PySem.W.mg_of X G g_BadText, PySem.W.mg_of X G g_Floor, PySem.W.mg_of X G g_Items, PySem.W.mg_of X G g_Tangle, PySem.W.mg_none_of X G z_abs, PySem.W.mg_none_of X G z_all, PySem.W.mg_none_of X G z_bool, PySem.W.mg_none_of X G z_enumerate, PySem.W.mg_none_of X G z_int, PySem.W.mg_none_of X G z_isinstance, PySem.W.mg_none_of X G z_len, PySem.W.mg_none_of X G z_list, PySem.W.mg_none_of X G z_max, PySem.W.mg_none_of X G z_min, PySem.W.mg_none_of X G z_range, PySem.W.mg_none_of X G z_repr, PySem.W.mg_none_of X G z_set, PySem.W.mg_none_of X G z_sorted, PySem.W.mg_none_of X G z_str, PySem.W.mg_none_of X G z_tuple, PySem.W.mg_none_of X G z_zip⟩
  have O_BadTangle : OexC K A_BadTangle := ⟨⟨_, _, _, _, _, _, _, _, _, _, _, _, _, _, _, o_BadTangle, r_BadTangle⟩, sa_BadTangle, ex_BadTangle, ty_BadTangle, kc_BadTangle⟩
  have xf_BadTangle : XfC K A_BadTangle := ⟨ga_BadTangle, gg_BadTangle, ex_BadTangle, hd_BadTangle⟩
  have ec_BadTangle : ExcC K A_BadTangle := ⟨ga_BadTangle, gg_BadTangle, ex_BadTangle, hd_BadTangle, ha_BadTangle, hn_, ht_, hm_BadTangle⟩
  have FI_BadTangle := fun_mk (st := sIniBadTangle) il_BadTangle ic_BadTangle ik_BadTangle
  have bI_BadTangle := FI_BadTangle.binds (ps := ["self", "part"]) fun _ _ _ _ _ _ us hl => match us, hl with | [_, _], _ => rfl
  have ek_BadTangle : ErrK K A_BadTangle A_RopeError "part" := ⟨ec_BadTangle, xf_BadTangle, no_BadTangle_part, up_BadTangle, nn_BadTangle⟩
  have O_Misfit : OexC K A_Misfit := ⟨⟨_, _, _, _, _, _, _, _, _, _, _, _, _, _, _, o_Misfit, r_Misfit⟩, sa_Misfit, ex_Misfit, ty_Misfit, kc_Misfit⟩
  have xf_Misfit : XfC K A_Misfit := ⟨ga_Misfit, gg_Misfit, ex_Misfit, hd_Misfit⟩
  have ec_Misfit : ExcC K A_Misfit := ⟨ga_Misfit, gg_Misfit, ex_Misfit, hd_Misfit, ha_Misfit, hn_, ht_, hm_Misfit⟩
  have FI_Misfit := fun_mk (st := sIniMisfit) il_Misfit ic_Misfit ik_Misfit
  have bI_Misfit := FI_Misfit.binds (ps := ["self", "part"]) fun _ _ _ _ _ _ us hl => match us, hl with | [_, _], _ => rfl
  have ek_Misfit : ErrK K A_Misfit A_RopeError "part" := ⟨ec_Misfit, xf_Misfit, no_Misfit_part, up_Misfit, nn_Misfit⟩
  have O_TooMany : OexC K A_TooMany := ⟨⟨_, _, _, _, _, _, _, _, _, _, _, _, _, _, _, o_TooMany, r_TooMany⟩, sa_TooMany, ex_TooMany, ty_TooMany, kc_TooMany⟩
  have xf_TooMany : XfC K A_TooMany := ⟨ga_TooMany, gg_TooMany, ex_TooMany, hd_TooMany⟩
  have ec_TooMany : ExcC K A_TooMany := ⟨ga_TooMany, gg_TooMany, ex_TooMany, hd_TooMany, ha_TooMany, hn_, ht_, hm_TooMany⟩
  have FI_TooMany := fun_mk (st := sIniTooMany) il_TooMany ic_TooMany ik_TooMany
  have bI_TooMany := FI_TooMany.binds (ps := ["self", "what", "most"]) fun _ _ _ _ _ _ us hl => match us, hl with | [_, _, _], _ => rfl
  have ek_TooMany : ErrK K A_TooMany A_RopeError "what" := ⟨ec_TooMany, xf_TooMany, no_TooMany_what, up_TooMany, nn_TooMany⟩
  have F0 : Fun K "is_integer" "is_integer" sIsInteger f0 _ := fun_mk (st := sIsInteger) l0 c0 k0
  have b0 := F0.binds (ps := ["value"]) fun _ _ _ _ _ _ us hl => match us, hl with | [_], _ => rfl
  have F1 : Fun K "is_within" "is_within" sIsWithin f1 _ := fun_mk (st := sIsWithin) l1 c1 k1
  have b1 := F1.binds (ps := ["value", "least", "most"]) fun _ _ _ _ _ _ us hl => match us, hl with | [_, _, _], _ => rfl
  have F2 : Fun K "are_deeds" "are_deeds" sAreDeeds f2 _ := fun_mk (st := sAreDeeds) l2 c2 k2
  have b2 := F2.binds (ps := ["value"]) fun _ _ _ _ _ _ us hl => match us, hl with | [_], _ => rfl
  have F3 : Fun K "_is_deed" "_is_deed" sIsDeed f3 _ := fun_mk (st := sIsDeed) l3 c3 k3
  have b3 := F3.binds (ps := ["value"]) fun _ _ _ _ _ _ us hl => match us, hl with | [_], _ => rfl
  have F4 : Fun K "_fitting_gaps" "_fitting_gaps" sFittingGaps f4 _ := fun_mk (st := sFittingGaps) l4 c4 k4
  have b4 := F4.binds (ps := ["word", "many"]) fun _ _ _ _ _ _ us hl => match us, hl with | [_, _], _ => rfl
  have F5 : Fun K "ends_behind" "ends_behind" sEndsBehind f5 _ := fun_mk (st := sEndsBehind) l5 c5 k5
  have b5 := F5.binds (ps := ["word", "many"]) fun _ _ _ _ _ _ us hl => match us, hl with | [_, _], _ => rfl
  have F6 : Fun K "demand_fitting" "demand_fitting" sDemandFitting f6 _ := fun_mk (st := sDemandFitting) l6 c6 k6
  have b6 := F6.binds (ps := ["deeds", "ends", "inner"]) fun _ _ _ _ _ _ us hl => match us, hl with | [_, _, _], _ => rfl
  have F7 : Fun K "__init__" "Tangle.__init__" sTangleInit f7 _ := fun_mk (st := sTangleInit) l7 c7 k7
  have b7 := F7.binds (ps := ["self", "ends", "deeds"]) fun _ _ _ _ _ _ us hl => match us, hl with | [_, _, _], _ => rfl
  have F8 : Fun K "demand_tangle" "demand_tangle" sDemandTangle f8 _ := fun_mk (st := sDemandTangle) l8 c8 k8
  have b8 := F8.binds (ps := ["value", "part"]) fun _ _ _ _ _ _ us hl => match us, hl with | [_, _], _ => rfl
  have F9 : Fun K "rings_of" "rings_of" sRingsOf f9 _ := fun_mk (st := sRingsOf) l9 c9 k9
  have b9 := F9.binds (ps := ["tangle"]) fun _ _ _ _ _ _ us hl => match us, hl with | [_], _ => rfl
  have F10 : Fun K "rim_of" "rim_of" sRimOf f10 _ := fun_mk (st := sRimOf) l10 c10 k10
  have b10 := F10.binds (ps := ["tangle"]) fun _ _ _ _ _ _ us hl => match us, hl with | [_], _ => rfl
  have F11 : Fun K "crossings_of" "crossings_of" sCrossingsOf f11 _ := fun_mk (st := sCrossingsOf) l11 c11 k11
  have b11 := F11.binds (ps := ["tangle"]) fun _ _ _ _ _ _ us hl => match us, hl with | [_], _ => rfl
  have F12 : Fun K "_new_gap" "Floor._new_gap" sFloorNewGap f12 _ := fun_mk (st := sFloorNewGap) l12 c12 k12
  have b12 := F12.binds (ps := ["self"]) fun _ _ _ _ _ _ us hl => match us, hl with | [_], _ => rfl
  have F13 : Fun K "_least" "Floor._least" sFloorLeast f13 _ := fun_mk (st := sFloorLeast) l13 c13 k13
  have b13 := F13.binds (ps := ["self", "number"]) fun _ _ _ _ _ _ us hl => match us, hl with | [_, _], _ => rfl
  have F14 : Fun K "_make_one" "Floor._make_one" sFloorMakeOne f14 _ := fun_mk (st := sFloorMakeOne) l14 c14 k14
  have b14 := F14.binds (ps := ["self", "one", "other"]) fun _ _ _ _ _ _ us hl => match us, hl with | [_, _, _], _ => rfl
  have F15 : Fun K "_ring_behind" "Floor._ring_behind" sFloorRingBehind f15 _ := fun_mk (st := sFloorRingBehind) l15 c15 k15
  have b15 := F15.binds (ps := ["self", "word", "gap"]) fun _ _ _ _ _ _ us hl => match us, hl with | [_, _, _], _ => rfl
  have F16 : Fun K "_close_up" "Floor._close_up" sFloorCloseUp f16 _ := fun_mk (st := sFloorCloseUp) l16 c16 k16
  have b16 := F16.binds (ps := ["self"]) fun _ _ _ _ _ _ us hl => match us, hl with | [_], _ => rfl
  have F17 : Fun K "__init__" "Floor.__init__" sFloorInit f17 _ := fun_mk (st := sFloorInit) l17 c17 k17
  have b17 := F17.binds (ps := ["self", "ends", "deeds"]) fun _ _ _ _ _ _ us hl => match us, hl with | [_, _, _], _ => rfl
  have F18 : Fun K "_law_staircase" "_law_staircase" sLawStaircase f18 _ := fun_mk (st := sLawStaircase) l18 c18 k18
  have b18 := F18.binds (ps := ["script"]) fun _ _ _ _ _ _ us hl => match us, hl with | [_], _ => rfl
  have F19 : Fun K "_law_step" "_law_step" sLawStep f19 _ := fun_mk (st := sLawStep) l19 c19 k19
  have b19 := F19.binds (ps := ["staircase", "many"]) fun _ _ _ _ _ _ us hl => match us, hl with | [_, _], _ => rfl
  have F20 : Fun K "_law_pick" "_law_pick" sLawPick f20 _ := fun_mk (st := sLawPick) l20 c20 k20
  have b20 := F20.binds (ps := ["staircase", "some"]) fun _ _ _ _ _ _ us hl => match us, hl with | [_, _], _ => rfl
  have F21 : Fun K "_law_deeds" "_law_deeds" sLawDeeds f21 _ := fun_mk (st := sLawDeeds) l21 c21 k21
  have b21 := F21.binds (ps := ["staircase", "ends", "most"]) fun _ _ _ _ _ _ us hl => match us, hl with | [_, _, _], _ => rfl
  have F22 : Fun K "_law_floor" "_law_floor" sLawFloor f22 _ := fun_mk (st := sLawFloor) l22 c22 k22
  have b22 := F22.binds (ps := ["ends", "deeds"]) fun _ _ _ _ _ _ us hl => match us, hl with | [_, _], _ => rfl
  have F23 : Fun K "_law_steps_right" "_law_steps_right" sLawStepsRight f23 _ := fun_mk (st := sLawStepsRight) l23 c23 k23
  have b23 := F23.binds (ps := ["deeds", "rings", "crossings"]) fun _ _ _ _ _ _ us hl => match us, hl with | [_, _, _], _ => rfl
  have F24 : Fun K "law" "law" sLaw _ _ := fun_mk (st := sLaw) l24 c24 k24
  have b24 := F24.binds (ps := ["script"]) fun _ _ _ _ _ _ us hl => match us, hl with | [_], _ => rfl
  have kRingsOf_tangle : KBx K _ ["tangle"] 0 ["tangle"] [0] := kb_of F9 fun _ _ _ _ _ _ us ws h1 h2 => match us, ws, h1, h2 with | [], [_], _, _ => rfl
  refine ⟨PySem.W.fnOf "law" "law" (defArgs sLaw) (defBody sLaw) (defScope sLaw) .none kV24 dc24 pm24 an24 cd24 ct24, fun t v => .of_eq rfl, fun base kin gl hM => ?_⟩
  have eBadTangle : Err1 l.prog w K mg base "BadTangle" A_BadTangle "part" := ⟨PySem.W.mg_of X G g_BadTangle, O_BadTangle, no_BadTangle_part, xf_BadTangle, ⟨_, _, _, in_BadTangle, it_BadTangle, bI_BadTangle, ok_IniBadTangle FI_BadTangle O_BadTangle no_BadTangle_part⟩⟩
  have eMisfit : Err1 l.prog w K mg base "Misfit" A_Misfit "part" := ⟨PySem.W.mg_of X G g_Misfit, O_Misfit, no_Misfit_part, xf_Misfit, ⟨_, _, _, in_Misfit, it_Misfit, bI_Misfit, ok_IniMisfit FI_Misfit O_Misfit no_Misfit_part⟩⟩
  have eTooMany : Err2 l.prog w K mg base "TooMany" A_TooMany "what" "most" := ⟨PySem.W.mg_of X G g_TooMany, O_TooMany, no_TooMany_what, no_TooMany_most, xf_TooMany, ⟨_, _, _, in_TooMany, it_TooMany, bI_TooMany, ok_IniTooMany FI_TooMany O_TooMany no_TooMany_what no_TooMany_most⟩⟩
  have TC_Tangle : Cls K A_Tangle := ⟨pg_Tangle, hd_Tangle, po_Tangle, sa_Tangle⟩
  have IK_Tangle : IsK K A_Tangle := ⟨TC_Tangle, ha_Tangle, hn_, ht_, hm_Tangle, me_Tangle⟩
  have NK_Tangle : NotK K A_Tangle := ⟨nk_Tangle_NoneType, nk_Tangle_bool, nk_Tangle_int, nk_Tangle_str, nk_Tangle_list, nk_Tangle_tuple, nk_Tangle_dict⟩
  have cIsInteger : CalX l.prog w K mg base "is_integer" 1 f0 _ ["value"] spIsInt := ⟨ok_IsInteger F0 T   , PySem.W.mg_of X G a0, k0, b0⟩
  have cFittingGaps : CalX l.prog w K mg base "_fitting_gaps" 1 f4 _ ["word", "many"] spFitting := ⟨ok_FittingGaps F4 T   , PySem.W.mg_of X G a4, k4, b4⟩
  have cEndsBehind : CalX l.prog w K mg base "ends_behind" 1 f5 _ ["word", "many"] spBehind := ⟨ok_EndsBehind F5 T   , PySem.W.mg_of X G a5, k5, b5⟩
  have TC_Floor : Cls K A_Floor := ⟨pg_Floor, hd_Floor, po_Floor, sa_Floor⟩
  have mNewGap : MetX l.prog w K mg base "_new_gap" 1 A_Floor f12 _ ["self"] (spNewGap A_Floor) := ⟨TC_Floor, ⟨a12, fn12, k12⟩, ok_FloorNewGap F12 T TC_Floor na_Floor_lesser  , b12⟩
  have mLeast : MetX l.prog w K mg base "_least" 1 A_Floor f13 _ ["self", "number"] (spLeastN A_Floor) := ⟨TC_Floor, ⟨a13, fn13, k13⟩, ok_FloorLeast F13 T TC_Floor na_Floor_lesser  , b13⟩
  have mCloseUp : MetX l.prog w K mg base "_close_up" 1 A_Floor f16 _ ["self"] (spCloseUp A_Floor) := ⟨TC_Floor, ⟨a16, fn16, k16⟩, ok_FloorCloseUp F16 T TC_Floor na_Floor_lesser na_Floor_regions na_Floor_rings na_Floor_crossings  , b16⟩
  have cLawStaircase : Cal l.prog w K mg base "_law_staircase" 1 f18 _ ["script"] (spBox K) := ⟨ok_LawStaircase F18 T hM  , PySem.W.mg_of X G a18, k18, b18⟩
  have cLawStep : Cal l.prog w K mg base "_law_step" 1 f19 _ ["staircase", "many"] spDraw := ⟨ok_LawStep F19 T hM  , PySem.W.mg_of X G a19, k19, b19⟩
  have cLawFloor : Cal l.prog w K mg base "_law_floor" 1 f22 _ ["ends", "deeds"] (spLawFloor K) := ⟨ok_LawFloor F22 T hM  , PySem.W.mg_of X G a22, k22, b22⟩
  have cLawStepsRight : Cal l.prog w K mg base "_law_steps_right" 1 f23 _ ["deeds", "rings", "crossings"] spSteps25 := ⟨ok_LawStepsRight F23 T hM  , PySem.W.mg_of X G a23, k23, b23⟩
  have cIsWithin : CalX l.prog w K mg base "is_within" 2 f1 _ ["value", "least", "most"] spWithin := ⟨ok_IsWithin F1 T   cIsInteger, PySem.W.mg_of X G a1, k1, b1⟩
  have mMakeOne : MetX l.prog w K mg base "_make_one" 2 A_Floor f14 _ ["self", "one", "other"] (spMakeOne A_Floor) := ⟨TC_Floor, ⟨a14, fn14, k14⟩, ok_FloorMakeOne F14 T TC_Floor na_Floor_lesser mLeast , b14⟩
  have cLawPick : Cal l.prog w K mg base "_law_pick" 2 f20 _ ["staircase", "some"] (spOf K) := ⟨ok_LawPick F20 T hM  cLawStep, PySem.W.mg_of X G a20, k20, b20⟩
  have cIsDeed : CalX l.prog w K mg base "_is_deed" 3 f3 _ ["value"] spIsDeed := ⟨ok_IsDeed F3 T   cIsWithin, PySem.W.mg_of X G a3, k3, b3⟩
  have cDemandFitting : CalX l.prog w K mg base "demand_fitting" 3 f6 _ ["deeds", "ends", "inner"] (spDemFit A_Misfit A_TooMany) := ⟨ok_DemandFitting F6 T   cEndsBehind cFittingGaps eMisfit eTooMany, PySem.W.mg_of X G a6, k6, b6⟩
  have cDemandTangle : CalX l.prog w K mg base "demand_tangle" 3 f8 _ ["value", "part"] (spDemTangle A_Tangle A_BadTangle) := ⟨ok_DemandTangle F8 T  IK_Tangle NK_Tangle eBadTangle, PySem.W.mg_of X G a8, k8, b8⟩
  have mRingBehind : MetX l.prog w K mg base "_ring_behind" 3 A_Floor f15 _ ["self", "word", "gap"] (spRingBehind A_Floor) := ⟨TC_Floor, ⟨a15, fn15, k15⟩, ok_FloorRingBehind F15 T TC_Floor na_Floor_ring na_Floor_crossings mMakeOne mNewGap , b15⟩
  have cLawDeeds : Cal l.prog w K mg base "_law_deeds" 3 f21 _ ["staircase", "ends", "most"] spDeeds := ⟨ok_LawDeeds F21 T hM  cLawStep cLawPick, PySem.W.mg_of X G a21, k21, b21⟩
  have cAreDeeds : CalX l.prog w K mg base "are_deeds" 4 f2 _ ["value"] spAreDeeds := ⟨ok_AreDeeds F2 T   cIsDeed, PySem.W.mg_of X G a2, k2, b2⟩
  have cFloor : MakX l.prog w K mg base "Floor" 4 A_Floor f17 _ ["self", "ends", "deeds"] (spFloor A_Floor) := ⟨⟨mk_Floor, a17, fn17, kp_Floor⟩, ok_FloorInit F17 T TC_Floor na_Floor_ring na_Floor_lesser na_Floor_rings na_Floor_crossings na_Floor_regions mRingBehind mCloseUp , PySem.W.mg_of X G g_Floor, b17⟩
  have cTangle : MakX l.prog w K mg base "Tangle" 5 A_Tangle f7 _ ["self", "ends", "deeds"] (spTangle A_Tangle A_BadTangle A_Misfit A_TooMany) := ⟨⟨mk_Tangle, a7, fn7, kp_Tangle⟩, ok_TangleInit F7 T TC_Tangle na_Tangle_ends na_Tangle_deeds cDemandFitting cAreDeeds cIsWithin eBadTangle, PySem.W.mg_of X G g_Tangle, b7⟩
  have cRingsOf : CalX l.prog w K mg base "rings_of" 6 f9 _ ["tangle"] (spRingsOf K A_Tangle A_BadTangle) := ⟨ok_RingsOf F9 T  TC_Tangle TC_Floor na_Tangle_ends na_Tangle_deeds na_Floor_rings cDemandTangle cFloor, PySem.W.mg_of X G a9, k9, b9⟩
  have cCrossingsOf : CalX l.prog w K mg base "crossings_of" 6 f11 _ ["tangle"] (spCrossingsOf A_Tangle A_BadTangle) := ⟨ok_CrossingsOf F11 T  TC_Tangle TC_Floor na_Tangle_ends na_Tangle_deeds na_Floor_crossings cDemandTangle cFloor, PySem.W.mg_of X G a11, k11, b11⟩
  have cRimOf : CalX l.prog w K mg base "rim_of" 7 f10 _ ["tangle"] (spRimOf A_Tangle A_BadTangle) := ⟨ok_RimOf F10 T   cRingsOf, PySem.W.mg_of X G a10, k10, b10⟩
  exact ok_Law F24 T  hM ek_BadTangle k_BadTangle_BadTangle cLawStaircase cLawPick cLawDeeds cRingsOf kRingsOf_tangle cTangle cLawFloor cLawStepsRight cRimOf cCrossingsOf
theorem walk {l : PySem.W.OpenLaw} {q : Program} {loose : List Str} {XP : (Str → Option Value) → Heap → Prop} {YP : World → Heap → Prop} {d : DefRec} {K : Params → PySem.W.Frag} (none : importsNone q = true) (hn : l.most = some 63) (hdf : d.params.defaults = [])
    (hY : ∀ (w : World) (h : Heap), YP w h → (K w.params).In h)
    (F : ∀ (w : World) (mg : Str → Option Value) (fa : Addr) (h : Heap), (K w.params).In h → h.Ns mainGlobals mg → mg d.name = some (.ref fa) →
      ∃ fd : FuncData, (∀ (t : Shared) (u : Value), BindsTo t fd ⟨[u], []⟩ [("script", u)]) ∧ ∀ base : Heap, (K w.params).In base → base.Ns mainGlobals mg → HasMods base → FnG l.prog w (K w.params) mg base 16 fa fd ["script"] (spLaw25 (K w.params))) :
    PySem.W.WalkO q loose XP YP l.row.toRowW d [] (fun f vs => PySem.call f vs) :=
  Rp.walk_G (n := 63) (k := 16) (x := "script") (sp := spLaw25) none hn (by decide) hdf ⟨rfl, by decide, by decide⟩ hY F (fun _ _ a ns _ hS => ⟨a, ns, rfl, hS, fun _ => rfl⟩)
end K25
open PySem PySem.W PyProof.Rows in
set_option maxRecDepth 100000 in
set_option maxHeartbeats 0 in
theorem PySem.Challenge.cw_ropesays_k25_rings_deed_by_deed_holds : PySem.Challenge.rw_ropesays_k25_rings_deed_by_deed.Holds := by
  w_on; o_law; k_head; (case hw => w_witness2)
  k_fill
  refine' K25.walk (l := PySem.Challenge.rw_ropesays_k25_rings_deed_by_deed) (by decide +kernel) rfl rfl (fun w h Y => by first | exact PySem.W.km_in_of Y | exact PySem.W.kIn_of Y) ?F
  case F =>
    intro w mg fa h KX G hmg
    refine' K25.all_mk KX G hmg ?g_BadTangle ?g_Misfit ?g_TooMany ?g_RopeError ?g_BadText ?g_Items ?g_Tangle ?mk_Tangle ?kp_Tangle ?pg_Tangle ?hd_Tangle ?po_Tangle ?sa_Tangle ?na_Tangle_ends ?na_Tangle_deeds ?ha_Tangle ?hm_Tangle ?me_Tangle ?nk_Tangle_NoneType ?nk_Tangle_bool ?nk_Tangle_int ?nk_Tangle_str ?nk_Tangle_list ?nk_Tangle_tuple ?nk_Tangle_dict ?g_Floor ?mk_Floor ?kp_Floor ?pg_Floor ?hd_Floor ?po_Floor ?sa_Floor ?na_Floor_ring ?na_Floor_lesser ?na_Floor_rings ?na_Floor_crossings ?na_Floor_regions ?a0 ?l0 ?c0 ?k0 ?a1 ?l1 ?c1 ?k1 ?a2 ?l2 ?c2 ?k2 ?a3 ?l3 ?c3 ?k3 ?a4 ?l4 ?c4 ?k4 ?a5 ?l5 ?c5 ?k5 ?a6 ?l6 ?c6 ?k6 ?a7 ?l7 ?c7 ?k7 ?fn7 ?a8 ?l8 ?c8 ?k8 ?a9 ?l9 ?c9 ?k9 ?a10 ?l10 ?c10 ?k10 ?a11 ?l11 ?c11 ?k11 ?a12 ?l12 ?c12 ?k12 ?fn12 ?a13 ?l13 ?c13 ?k13 ?fn13 ?a14 ?l14 ?c14 ?k14 ?fn14 ?a15 ?l15 ?c15 ?k15 ?fn15 ?a16 ?l16 ?c16 ?k16 ?fn16 ?a17 ?l17 ?c17 ?k17 ?fn17 ?a18 ?l18 ?c18 ?k18 ?a19 ?l19 ?c19 ?k19 ?a20 ?l20 ?c20 ?k20 ?a21 ?l21 ?c21 ?k21 ?a22 ?l22 ?c22 ?k22 ?a23 ?l23 ?c23 ?k23 ?a24 ?l24 ?c24 ?k24 ?z_abs ?z_all ?z_bool ?z_enumerate ?z_int ?z_isinstance ?z_len ?z_list ?z_max ?z_min ?z_range ?z_repr ?z_set ?z_sorted ?z_str ?z_tuple ?z_zip ?q_MOST_DEEDS ?q_MOST_ENDS ?q_MOST_AT_RIM ?q_WORDS ?lq_WORDS ?o_BadTangle ?r_BadTangle ?sa_BadTangle ?ex_BadTangle ?ty_BadTangle ?kc_BadTangle ?no_BadTangle_part ?ga_BadTangle ?gg_BadTangle ?hd_BadTangle ?ha_BadTangle ?hm_BadTangle ?in_BadTangle ?it_BadTangle ?il_BadTangle ?ic_BadTangle ?ik_BadTangle ?up_BadTangle ?o_Misfit ?r_Misfit ?sa_Misfit ?ex_Misfit ?ty_Misfit ?kc_Misfit ?no_Misfit_part ?ga_Misfit ?gg_Misfit ?hd_Misfit ?ha_Misfit ?hm_Misfit ?in_Misfit ?it_Misfit ?il_Misfit ?ic_Misfit ?ik_Misfit ?up_Misfit ?o_TooMany ?r_TooMany ?sa_TooMany ?ex_TooMany ?ty_TooMany ?kc_TooMany ?no_TooMany_what ?no_TooMany_most ?ga_TooMany ?gg_TooMany ?hd_TooMany ?ha_TooMany ?hm_TooMany ?in_TooMany ?it_TooMany ?il_TooMany ?ic_TooMany ?ik_TooMany ?up_TooMany ?nn_BadTangle ?nn_Misfit ?nn_TooMany ?k_BadTangle_BadTangle ?k_BadTangle_Misfit ?k_BadTangle_TooMany ?k_Misfit_BadTangle ?k_Misfit_Misfit ?k_Misfit_TooMany ?k_TooMany_BadTangle ?k_TooMany_Misfit ?k_TooMany_TooMany ?hn_ ?ht_
    (case g_BadTangle => k_is)
    (case g_Misfit => k_is)
    (case g_TooMany => k_is)
    (case g_RopeError => k_is)
    (case g_BadText => k_is)
    (case g_Items => k_is)
    (case g_Tangle => k_is)
    (case mk_Tangle => first | k_is | kernel_rfl)
    (case kp_Tangle => first | k_is | kernel_rfl)
    (case pg_Tangle => first | k_is | kernel_rfl)
    (case hd_Tangle => first | k_is | kernel_rfl)
    (case po_Tangle => first | k_is | kernel_rfl)
    (case sa_Tangle => first | k_is | kernel_rfl)
    (case na_Tangle_ends => first | k_is | kernel_rfl)
    (case na_Tangle_deeds => first | k_is | kernel_rfl)
    (case ha_Tangle => first | k_is | kernel_rfl)
    (case hm_Tangle => first | k_is | kernel_rfl)
    (case me_Tangle => kernel_rfl)
    (case nk_Tangle_NoneType => kernel_rfl)
    (case nk_Tangle_bool => kernel_rfl)
    (case nk_Tangle_int => kernel_rfl)
    (case nk_Tangle_str => kernel_rfl)
    (case nk_Tangle_list => kernel_rfl)
    (case nk_Tangle_tuple => kernel_rfl)
    (case nk_Tangle_dict => kernel_rfl)
    (case g_Floor => k_is)
    (case mk_Floor => first | k_is | kernel_rfl)
    (case kp_Floor => first | k_is | kernel_rfl)
    (case pg_Floor => first | k_is | kernel_rfl)
    (case hd_Floor => first | k_is | kernel_rfl)
    (case po_Floor => first | k_is | kernel_rfl)
    (case sa_Floor => first | k_is | kernel_rfl)
    (case na_Floor_ring => first | k_is | kernel_rfl)
    (case na_Floor_lesser => first | k_is | kernel_rfl)
    (case na_Floor_rings => first | k_is | kernel_rfl)
    (case na_Floor_crossings => first | k_is | kernel_rfl)
    (case na_Floor_regions => first | k_is | kernel_rfl)
    (case a0 => k_is)
    (case l0 => k_is)
    (case c0 => k_is)
    (case k0 => k_is)
    (case a1 => k_is)
    (case l1 => k_is)
    (case c1 => k_is)
    (case k1 => k_is)
    (case a2 => k_is)
    (case l2 => k_is)
    (case c2 => k_is)
    (case k2 => k_is)
    (case a3 => k_is)
    (case l3 => k_is)
    (case c3 => k_is)
    (case k3 => k_is)
    (case a4 => k_is)
    (case l4 => k_is)
    (case c4 => k_is)
    (case k4 => k_is)
    (case a5 => k_is)
    (case l5 => k_is)
    (case c5 => k_is)
    (case k5 => k_is)
    (case a6 => k_is)
    (case l6 => k_is)
    (case c6 => k_is)
    (case k6 => k_is)
    (case a7 => k_is)
    (case l7 => k_is)
    (case c7 => k_is)
    (case k7 => k_is)
    (case fn7 => first | k_is | kernel_rfl)
    (case a8 => k_is)
    (case l8 => k_is)
    (case c8 => k_is)
    (case k8 => k_is)
    (case a9 => k_is)
    (case l9 => k_is)
    (case c9 => k_is)
    (case k9 => k_is)
    (case a10 => k_is)
    (case l10 => k_is)
    (case c10 => k_is)
    (case k10 => k_is)
    (case a11 => k_is)
    (case l11 => k_is)
    (case c11 => k_is)
    (case k11 => k_is)
    (case a12 => k_is)
    (case l12 => k_is)
    (case c12 => k_is)
    (case k12 => k_is)
    (case fn12 => first | k_is | kernel_rfl)
    (case a13 => k_is)
    (case l13 => k_is)
    (case c13 => k_is)
    (case k13 => k_is)
    (case fn13 => first | k_is | kernel_rfl)
    (case a14 => k_is)
    (case l14 => k_is)
    (case c14 => k_is)
    (case k14 => k_is)
    (case fn14 => first | k_is | kernel_rfl)
    (case a15 => k_is)
    (case l15 => k_is)
    (case c15 => k_is)
    (case k15 => k_is)
    (case fn15 => first | k_is | kernel_rfl)
    (case a16 => k_is)
    (case l16 => k_is)
    (case c16 => k_is)
    (case k16 => k_is)
    (case fn16 => first | k_is | kernel_rfl)
    (case a17 => k_is)
    (case l17 => k_is)
    (case c17 => k_is)
    (case k17 => k_is)
    (case fn17 => first | k_is | kernel_rfl)
    (case a18 => k_is)
    (case l18 => k_is)
    (case c18 => k_is)
    (case k18 => k_is)
    (case a19 => k_is)
    (case l19 => k_is)
    (case c19 => k_is)
    (case k19 => k_is)
    (case a20 => k_is)
    (case l20 => k_is)
    (case c20 => k_is)
    (case k20 => k_is)
    (case a21 => k_is)
    (case l21 => k_is)
    (case c21 => k_is)
    (case k21 => k_is)
    (case a22 => k_is)
    (case l22 => k_is)
    (case c22 => k_is)
    (case k22 => k_is)
    (case a23 => k_is)
    (case l23 => k_is)
    (case c23 => k_is)
    (case k23 => k_is)
    (case a24 => k_is)
    (case l24 => k_is)
    (case c24 => k_is)
    (case k24 => k_is)
    (case z_abs => k_is)
    (case z_all => k_is)
    (case z_bool => k_is)
    (case z_enumerate => k_is)
    (case z_int => k_is)
    (case z_isinstance => k_is)
    (case z_len => k_is)
    (case z_list => k_is)
    (case z_max => k_is)
    (case z_min => k_is)
    (case z_range => k_is)
    (case z_repr => k_is)
    (case z_set => k_is)
    (case z_sorted => k_is)
    (case z_str => k_is)
    (case z_tuple => k_is)
    (case z_zip => k_is)
    (case q_MOST_DEEDS => k_is)
    (case q_MOST_ENDS => k_is)
    (case q_MOST_AT_RIM => k_is)
    (case q_WORDS => k_is)
    (case lq_WORDS => k_is)
    (case o_BadTangle => k_is)
    (case r_BadTangle => kernel_rfl)
    (case sa_BadTangle => k_is)
    (case ex_BadTangle => k_is)
    (case ty_BadTangle => k_is)
    (case kc_BadTangle => k_is)
    (case no_BadTangle_part => k_is)
    (case ga_BadTangle => k_is)
    (case gg_BadTangle => k_is)
    (case hd_BadTangle => k_is)
    (case ha_BadTangle => k_is)
    (case hm_BadTangle => k_is)
    (case in_BadTangle => k_is)
    (case it_BadTangle => k_is)
    (case il_BadTangle => k_is)
    (case ic_BadTangle => k_is)
    (case ik_BadTangle => k_is)
    (case up_BadTangle => kernel_rfl)
    (case o_Misfit => k_is)
    (case r_Misfit => kernel_rfl)
    (case sa_Misfit => k_is)
    (case ex_Misfit => k_is)
    (case ty_Misfit => k_is)
    (case kc_Misfit => k_is)
    (case no_Misfit_part => k_is)
    (case ga_Misfit => k_is)
    (case gg_Misfit => k_is)
    (case hd_Misfit => k_is)
    (case ha_Misfit => k_is)
    (case hm_Misfit => k_is)
    (case in_Misfit => k_is)
    (case it_Misfit => k_is)
    (case il_Misfit => k_is)
    (case ic_Misfit => k_is)
    (case ik_Misfit => k_is)
    (case up_Misfit => kernel_rfl)
    (case o_TooMany => k_is)
    (case r_TooMany => kernel_rfl)
    (case sa_TooMany => k_is)
    (case ex_TooMany => k_is)
    (case ty_TooMany => k_is)
    (case kc_TooMany => k_is)
    (case no_TooMany_what => k_is)
    (case no_TooMany_most => k_is)
    (case ga_TooMany => k_is)
    (case gg_TooMany => k_is)
    (case hd_TooMany => k_is)
    (case ha_TooMany => k_is)
    (case hm_TooMany => k_is)
    (case in_TooMany => k_is)
    (case it_TooMany => k_is)
    (case il_TooMany => k_is)
    (case ic_TooMany => k_is)
    (case ik_TooMany => k_is)
    (case up_TooMany => kernel_rfl)
    (case nn_BadTangle => kernel_rfl)
    (case nn_Misfit => kernel_rfl)
    (case nn_TooMany => kernel_rfl)
    (case k_BadTangle_BadTangle => kernel_rfl)
    (case k_BadTangle_Misfit => kernel_rfl)
    (case k_BadTangle_TooMany => kernel_rfl)
    (case k_Misfit_BadTangle => kernel_rfl)
    (case k_Misfit_Misfit => kernel_rfl)
    (case k_Misfit_TooMany => kernel_rfl)
    (case k_TooMany_BadTangle => kernel_rfl)
    (case k_TooMany_Misfit => kernel_rfl)
    (case k_TooMany_TooMany => kernel_rfl)
    (case hn_ => k_is)
    (case ht_ => k_is)
