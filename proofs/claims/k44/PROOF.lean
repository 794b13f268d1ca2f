import PyProof.Rows.All
import Wide.All
import OpenK.AllK
import Wide.FinOn
import HandS.Base
import HandS.Call
import HandS.List
import HandS.Comp
import HandS.Ends
import HandS.Dict
import HandS.Iter
import HandS.Text
import HandS.Words
import HandS.IsInst
import HandS.TupAny
import HandS.Exc
import HandS.ExcIs
import HandS.ExcInit
import HandS.ExcField
import HandS.ExcOwn
import HandS.ExcValue
import HandS.WordsExc
import KE.KExcIs
import KE.KDflt
import HandS.Lambda
import HandS.EndTab
import HandS.EndOwn
import KE.KNestM
import HandS.Zip
import HandS.Walk
import HandS.Conv
import HandS.Small
import HandS.Iter
import KE.GoesMore
import HandS.Sort
import HandS.SortKw
import HandS.More
import HandS.RevTup
import HandS.Rev
import HandS.WideBits
import HandS.Wide
import HandS.Style
import PyProof.StrOps2
import HandS.MakeKwOnly
import HandS.MakeKw
import KE.GoesZip
import KE.GoesEnum
import HandS.OwnEq
import PyProof.InstNe
import HandS.TupMul
import PySem.Challenge.RW_ropesays_k44_numbers_set_on_rings
set_option Elab.async false
set_option linter.all false
set_option maxRecDepth 100000
set_option maxHeartbeats 4000000
namespace Rp
open PySem PySem.Spec PyProof.Rows L2

/-! ### readings, a step each -/
section
variable {t u : TS} {D : Ends} {σ : L2.St} {H : Hp} {Q : VK} {v x y : V} {ta tb te : TE} {r : R2} {i j : Int} {g : Int → Int → V} {tt tt' : TT} {tl tr : TA}
theorem r_start {N : List Str} {vs : List V} {l : L2.St} (e : L2.start N vs = l) (h : t D l H) : t D (L2.start N vs) H := e ▸ h
theorem r_seq (h : t { D with nx := u D } σ H) : tSeq t u D σ H := h
/-- the ways meet: M -/
theorem r_cut (M : L2.St → Hp → Prop) (hu : ∀ σ H, M σ H → u D σ H) (h : (∀ σ H, M σ H → u D σ H) → t { D with nx := u D } σ H) : tSeq t u D σ H := h hu
theorem r_next (h : D.nx σ H) : tNext D σ H := h
theorem r_drop (h : te σ H fun _ H1 => D.nx σ H1) : tDrop te D σ H := h
theorem r_var {k : Nat} (h : σ[k]? = some (some v)) (q : Q v H) : tVar k σ H Q := ⟨v, h, q⟩
theorem r_varE {k : Nat} (h : ∃ v, σ[k]? = some (some v) ∧ Q v H) : tVar k σ H Q := h
theorem r_c (q : Q v H) : tC v σ H Q := q
theorem r_op (h : ta σ H fun x H1 => tb σ H1 fun y H2 => r x y H2 Q) : tOp r ta tb σ H Q := h
theorem r_I0 (q : Q (g i j) H) : rI0 g (.int i) (.int j) H Q := ⟨i, j, rfl, rfl, q⟩
theorem r_I {C : Int → Int → Prop} (c : C i j) (q : Q (g i j) H) : rI C g (.int i) (.int j) H Q := ⟨i, j, rfl, rfl, c, q⟩
theorem r_test {Q : Bool → Hp → Prop} (h : te σ H fun x H' => ∃ k, x = .bl k ∧ Q k H') : tTest te σ H Q := h
theorem r_tb {Q : Bool → Hp → Prop} (h : te σ H fun x H' => ∃ k, x = .bl k ∧ Q k H') : tB te σ H Q := h
theorem r_bl {k : Bool} {P : Bool → Prop} (q : P k) : ∃ k', V.bl k = .bl k' ∧ P k' := ⟨k, rfl, q⟩
theorem r_if (h : tt σ H fun b H1 => if b = true then t D σ H1 else u D σ H1) : tIfS tt t u D σ H := h
theorem r_not {Q : Bool → Hp → Prop} (h : tt σ H fun c H1 => Q (!c) H1) : tNot tt σ H Q := h
theorem r_and {Q : Bool → Hp → Prop} (h : tt σ H fun c H1 => if c = true then tt' σ H1 Q else Q false H1) : tAnd tt tt' σ H Q := h
theorem r_or {Q : Bool → Hp → Prop} (h : tt σ H fun c H1 => if c = true then Q true H1 else tt' σ H1 Q) : tOr tt tt' σ H Q := h
theorem r_andV (h : ta σ H fun x H1 => ∃ c, x = .bl c ∧ if c = true then tb σ H1 Q else Q (.bl false) H1) : tAndV ta tb σ H Q := h
theorem r_orV (h : ta σ H fun x H1 => ∃ c, x = .bl c ∧ if c = true then Q (.bl true) H1 else tb σ H1 Q) : tOrV ta tb σ H Q := h
theorem r_notV (h : ta σ H fun x H1 => ∃ c, x = .bl c ∧ Q (.bl (!c)) H1) : tNotV ta σ H Q := h
theorem r_ifx (h : tt σ H fun c H1 => if c = true then ta σ H1 Q else tb σ H1 Q) : tIf tt ta tb σ H Q := h
theorem r_asg {g : TG} (h : te σ H fun x H1 => g x σ H1 D.nx) : tAsg te g D σ H := h
theorem r_gname {k : Nat} {Q : L2.St → Hp → Prop} (h : Q (List.set σ k (some v)) H) : gName k v σ H Q := h
theorem r_gsub {to ti : TE} {ts : TSet} {Q : L2.St → Hp → Prop} (h : to σ H fun o H1 => ti σ H1 fun i H2 => ts o i v H2 fun H3 => Q σ H3) : gSub to ti ts v σ H Q := h
theorem r_ret (h : te σ H D.rt) : tRet te D σ H := h
theorem r_cb {r : List V → Hp → VK → Prop} (h : tl σ H fun vs H1 => r vs H1 Q) : tCB r tl σ H Q := h
theorem r_cons {Q : List V → Hp → Prop} (h : ta σ H fun x H1 => tr σ H1 fun xs H2 => Q (x :: xs) H2) : tCons ta tr σ H Q := h
theorem r_nil {Q : List V → Hp → Prop} (h : Q [] H) : tNil σ H Q := h
theorem r_ixL {K : PySem.W.Frag} {p : Addr} {xs : List V} (hs : SqL K H p xs) (ha : atI xs i = some v) (q : Q v H) : rIxL K (.ref p) (.int i) H Q := ⟨p, xs, i, v, rfl, rfl, hs, ha, q⟩
theorem r_setL {p : Addr} {xs : List V} {k : Nat} {Q : Hp → Prop} (hs : H p = some (.lst xs)) (hi : ixN xs.length i = some k) (q : Q (upd H p (.lst (xs.set k v)))) : rSetL (.ref p) (.int i) v H Q := ⟨p, xs, i, k, rfl, rfl, hs, hi, q⟩
theorem r_sl {r : V → Option Int → Option Int → Hp → VK → Prop} {tlo thi : TO} (h : te σ H fun x H1 => tlo σ H1 fun l H2 => thi σ H2 fun u H3 => r x l u H3 Q) : tSl r te tlo thi σ H Q := h
theorem r_pnone {Q : Option Int → Hp → Prop} (h : Q none H) : tNoPart σ H Q := h
theorem r_pint {Q : Option Int → Hp → Prop} (h : te σ H fun x H1 => ∃ i, x = .int i ∧ Q (some i) H1) : tPart te σ H Q := h
theorem r_un {ru : V → Hp → VK → Prop} (h : ta σ H fun x H1 => ru x H1 Q) : tUn ru ta σ H Q := h
theorem r_lst (h : tl σ H fun xs H1 => xs.length ≤ sizeLine ∧ ∀ p, H1 p = none → Q (.ref p) (upd H1 p (.lst xs))) : tLst tl σ H Q := h
theorem r_tup (h : tl σ H fun xs H1 => xs.length ≤ sizeLine ∧ ∀ p, H1 p = none → Q (.ref p) (upd H1 p (.tup xs))) : tTup tl σ H Q := h
theorem len_ok {n : Nat} (h : Nat.ble n sizeLine = true) : n ≤ sizeLine := Nat.le_of_ble_eq_true h
theorem r_lc {wi : TI} {g : TG} {vs : List Nat} (h : wi σ H fun J G => ∀ L, G L = none → ∃ M : Nat → Nat → Hp → Prop, (∃ n, M 0 n (upd G L (.lst []))) ∧ ∀ k n G, M k n G →
    (J.stop k G ∧ Q (.ref L) G) ∨ (J.go k G ∧ ∃ Z : Hp → Prop, (∀ G', Z G' → ∃ n', n' < n ∧ M (k + 1) n' G') ∧
      ∀ e G', J.yld k G e G' → g e (wipe σ vs) G' fun τ G2 => wipe τ vs = wipe σ vs ∧ tt τ G2 fun b G3 =>
        if b = true then te τ G3 fun y G4 => ∃ ac, G4 L = some (.lst ac) ∧ ac.length < sizeLine ∧ Z (upd G4 L (.lst (ac ++ [y]))) else Z G3)) : tLc wi g tt te vs σ H Q := h
theorem r_ilist {K : PySem.W.Frag} {R : It → Hp → Prop} (h : te σ H fun x G => ∃ a, x = .ref a ∧ (∃ xs, SqL K G a xs) ∧ R (Itl K a) G) : iList K te σ H R := h
theorem r_itup {K : PySem.W.Frag} {R : It → Hp → Prop} (h : te σ H fun x G => ∃ a, x = .ref a ∧ (∃ xs, SqT K G a xs) ∧ R (Itt K a) G) : iTup K te σ H R := h
theorem r_irng1 {R : It → Hp → Prop} (h : tl σ H fun vs G => ∃ j : Int, vs = [.int j] ∧ -(2 ^ 62) ≤ j ∧ j < 2 ^ 62 ∧ R (Itr 0 j.toNat) G) : iRng1 tl σ H R := h
theorem r_irng2 {R : It → Hp → Prop} (h : tl σ H fun vs G => ∃ i j : Int, vs = [.int i, .int j] ∧ (-(2 ^ 62) ≤ i ∧ i < 2 ^ 62 ∧ -(2 ^ 62) ≤ j ∧ j < 2 ^ 62) ∧ R (Itr i (j - i).toNat) G) : iRng2 tl σ H R := h
theorem r_for {wi : TI} {g : TG} {tb : TS} (h : wi σ H fun J G => ∃ M : Nat → Nat → L2.St → Hp → Prop, (∃ n, M 0 n σ G) ∧ ∀ k n τ G, M k n τ G →
    (J.stop k G ∧ D.nx τ G) ∨ (J.go k G ∧ ∃ Z : L2.St → Hp → Prop, (∀ τ' G', Z τ' G' → ∃ n', n' < n ∧ M (k + 1) n' τ' G') ∧
      ∀ e G', J.yld k G e G' → g e τ G' fun τ2 G2 => tb { D with nx := Z, ct := Z, bk := D.nx } τ2 G2)) : tFor wi g tb D σ H := h
theorem r_par {m n : Nat} (h : tl σ H fun vs G => ∃ v w, vs = [v, w] ∧ D.nx ((σ.set m (some v)).set n (some w)) G) : tPar m n tl D σ H := h
theorem r_isN (q : Q (.bl (decide (x = .non))) H) : (fun (x y : V) (H : Hp) (Q : VK) => y = .non ∧ Q (.bl (decide (x = .non))) H) x .non H Q := ⟨rfl, q⟩
theorem r_notN (q : Q (.bl (!decide (x = .non))) H) : (fun (x y : V) (H : Hp) (Q : VK) => y = .non ∧ Q (.bl (!decide (x = .non))) H) x .non H Q := ⟨rfl, q⟩
theorem r_call {sp : Sp} {dvs : List V} {E : XK} (h : tl σ H fun vs H1 => sp (vs ++ dvs) H1 Q E) : tCall sp dvs E tl σ H Q := h
theorem r_yes {Q : Bool → Hp → Prop} (h : Q true H) : tYes σ H Q := h
theorem r_true {A B : Prop} (h : A) : if true = true then A else B := iteT h
theorem r_false {A B : Prop} (h : B) : if false = true then A else B := iteF h
theorem r_truen {A B : Prop} (h : B) : if (!true) = true then A else B := iteF h
theorem r_falsen {A B : Prop} (h : A) : if (!false) = true then A else B := iteT h
/-- int(x) -/
theorem r_int (q : Q (.int i) H) : (fun (xs : List V) (H : Hp) (Q : VK) => (∃ i, xs = [.int i] ∧ Q (.int i) H) ∨ ∃ k, xs = [.bl k] ∧ Q (.int (if k then 1 else 0)) H) [.int i] H Q := .inl ⟨i, rfl, q⟩
end
end Rp
namespace Rp
open PySem PySem.Spec PyProof.Rows L2
/-! ### what draws: a box [cells, laps, rest] at q, its cells at c -/
/-- all but what stands at q stays -/
def But (q : Addr) (H H' : Hp) : Prop := ∀ b o, b ≠ q → H b = some o → H' b = some o
theorem But.refl (q : Addr) (H : Hp) : But q H H := fun _ _ _ h => h
theorem But.trans {q : Addr} {H H1 H2 : Hp} (a : But q H H1) (b : But q H1 H2) : But q H H2 := fun c o n h => b c o n (a c o n h)
theorem But.upd {q : Addr} {H : Hp} (o : HO) : But q H (upd H q o) := fun b u n h => by rw [upd_ne n]; exact h
theorem But.upd2 {q : Addr} {H H' : Hp} (e : But q H H') (o : HO) : But q H (L2.upd H' q o) := fun b u n h => by rw [upd_ne n]; exact e b u n h
theorem But.neu {q : Addr} {H H' : Hp} (e : But q H H') {p : Addr} {o : HO} (h : H' p = none) (hq : H p = none ∨ True := .inr True.intro) : But q H (L2.upd H' p o) := fun b u n k => by
  have k' := e b u n k
  rw [upd_ne (ne_of_none k' h)]
  exact k'
structure Dr (q c : Addr) (ns : List Int) (lap : Nat) (H : Hp) : Prop where
  ne : c ≠ q
  box : ∃ rest : Int, H q = some (.lst [.ref c, .int (lap : Int), .int rest])
  cells : H c = some (.lst (ns.map V.int))
  len : ns.length ≤ 60
theorem Dr.neu {q c : Addr} {ns : List Int} {lap : Nat} {H : Hp} (d : Dr q c ns lap H) {p : Addr} {o : HO} (h : H p = none) : Dr q c ns lap (upd H p o) := by
  obtain ⟨ne, ⟨rest, b⟩, cl, ln⟩ := d
  exact ⟨ne, ⟨rest, by rw [upd_ne (ne_of_none b h)]; exact b⟩, by rw [upd_ne (ne_of_none cl h)]; exact cl, ln⟩
/-- a number is drawn -/
def spDraw : Sp := fun vs H Q _ => ∃ (q c : Addr) (ns : List Int) (lap : Nat) (many : Int), vs = [.ref q, .int many] ∧ 0 < many ∧ many < 1073741824 ∧ lap < 2 ^ 20 ∧ Dr q c ns lap H ∧
  ∀ (H' : Hp) (lap' : Nat) (r : Int), lap' ≤ lap + 1 → Dr q c ns lap' H' → But q H H' → 0 ≤ r → r < many → Q (.int r) H'
theorem at0 {a b c : V} : atI [a, b, c] 0 = some a := rfl
theorem at1 {a b c : V} : atI [a, b, c] 1 = some b := rfl
theorem at2 {a b c : V} : atI [a, b, c] 2 = some c := rfl
theorem box_at {q c : Addr} {ns : List Int} {lap : Nat} {H : Hp} {rest : Int} (ne : c ≠ q) (b : H q = some (.lst [.ref c, .int (lap : Int), .int rest])) (cl : H c = some (.lst (ns.map V.int))) (ln : ns.length ≤ 60) : Dr q c ns lap H := ⟨ne, ⟨rest, b⟩, cl, ln⟩
theorem fmod_in {i j : Int} (h : 0 < j) : 0 ≤ i.fmod j ∧ i.fmod j < j := by
  rw [Int.fmod_eq_emod_of_nonneg i (by omega)]
  exact ⟨Int.emod_nonneg _ (by omega), Int.emod_lt_of_pos _ h⟩
theorem fits3 {m a b c : Int} {lap : Nat} (h0 : 0 ≤ m) (h1 : m < 2147483648) (hl : lap < 2 ^ 20) (ha : 0 ≤ a) (ha' : a < 131072) (hb : 0 ≤ b) (hb' : b < 131072) (hc : 0 ≤ c) (hc' : c < 131072) :
    (m * (2 * (lap : Int) + a) + b * (lap : Int) * (lap : Int) + c).natAbs < 2 ^ 64 := by
  have l0 : (0 : Int) ≤ (lap : Int) := by omega
  have l1 : (lap : Int) ≤ 1048576 := by omega
  have e1 : 0 ≤ m * (2 * (lap : Int) + a) := Int.mul_nonneg h0 (by omega)
  have e2 : m * (2 * (lap : Int) + a) ≤ 2147483648 * 2228224 := Int.mul_le_mul (by omega) (by omega) (by omega) (by omega)
  have e3 : 0 ≤ b * (lap : Int) := Int.mul_nonneg hb l0
  have e4 : b * (lap : Int) ≤ 131072 * 1048576 := Int.mul_le_mul (by omega) l1 l0 (by omega)
  have e5 : 0 ≤ b * (lap : Int) * (lap : Int) := Int.mul_nonneg e3 l0
  have e6 : b * (lap : Int) * (lap : Int) ≤ (131072 * 1048576) * 1048576 := Int.mul_le_mul e4 l1 l0 (by omega)
  omega
theorem fits1 {m b : Int} {lap : Nat} (hb : 0 ≤ b) (hb' : b < 131072) (hl : lap < 2 ^ 20) : -(2 ^ 64) < b * (lap : Int) ∧ b * (lap : Int) < 2 ^ 64 := by
  have e3 : 0 ≤ b * (lap : Int) := Int.mul_nonneg hb (by omega)
  have e4 : b * (lap : Int) ≤ 131072 * 1048576 := Int.mul_le_mul (by omega) (by omega) (by omega) (by omega)
  omega
theorem dp_ints {K : PySem.W.Frag} {H : Hp} : ∀ (ns : List Int), DpAll K H (ns.map V.int) (ns.map PyData.int)
  | [] => .nil
  | n :: r => .cons (.int n) (dp_ints r)
theorem canLay_ints : ∀ (ns : List Int), PyData.canLayAll0 (ns.map PyData.int) = true
  | [] => by simp [PyData.canLayAll0]
  | n :: r => by simp [PyData.canLayAll0, PyData.canLay0, canLay_ints r]
theorem depth_ints : ∀ (ns : List Int), PyData.depthAll (ns.map PyData.int) = 0
  | [] => by simp [PyData.depthAll]
  | n :: r => by simp [PyData.depthAll, PyData.depth, depth_ints r]
theorem shaped_ints (ns : List Int) : SeqAt.shaped (.list (ns.map PyData.int)) = true := by
  simp [SeqAt.shaped, PyData.canLay0, PyData.depth, canLay_ints, depth_ints]
theorem eqv_nil_ints (ns : List Int) : PyData.eqv (.list (ns.map PyData.int)) (.list []) = ns.isEmpty := by
  cases ns <;> simp [PyData.eqv, PyData.eqvAll]
/-- an int list, compared with a new [] -/
theorem ne_nil {K : PySem.W.Frag} {H : Hp} {c p : Addr} {ns : List Int} {Q : VK} (hc : H c = some (.lst (ns.map V.int))) (hp : H p = some (.lst [])) (q : Q (.bl (!ns.isEmpty)) H) : rNeD K (.ref c) (.ref p) H Q :=
  ⟨_, _, .lst (SqL.of hc) (dp_ints ns), .lst (SqL.of hp) .nil, shaped_ints ns, (shaped_ints []), by rw [eqv_nil_ints]; exact q⟩
theorem map_len {ns : List Int} : (ns.map V.int).length = ns.length := List.length_map ..
theorem at_ints {ns : List Int} {k : Int} (h0 : 0 ≤ k) (h1 : k < (ns.length : Int)) : ∃ n, atI (ns.map V.int) k = some (.int n) := by
  obtain ⟨j, rfl⟩ : ∃ j : Nat, k = (j : Int) := ⟨k.toNat, by omega⟩
  have hk : j < ns.length := by omega
  refine ⟨ns[j], atI_nat ?_⟩
  rw [List.getElem?_map, List.getElem?_eq_getElem hk]
  rfl
/-- the box of cells is made -/
def spBox (K : PySem.W.Frag) : Sp := fun vs H Q _ => ∃ (a : Addr) (ns : List Int), vs = [.ref a] ∧ SqL K H a (ns.map V.int) ∧ ∀ (H' : Hp) (q c : Addr) (ns' : List Int), Dr q c ns' 0 H' → Same H H' → H q = none → Q (.ref q) H'
/-- one of some things -/
def spOf (K : PySem.W.Frag) : Sp := fun vs H Q _ => ∃ (q c a : Addr) (ns : List Int) (lap : Nat) (xs : List V), vs = [.ref q, .ref a] ∧ SqL K H a xs ∧ 0 < xs.length ∧ xs.length < 1000000 ∧ lap < 2 ^ 20 ∧ a ≠ q ∧ Dr q c ns lap H ∧
  ∀ (H' : Hp) (lap' : Nat) (i : Nat) (v : V), lap' ≤ lap + 1 → Dr q c ns lap' H' → But q H H' → xs[i]? = some v → Q v H'
theorem cut60 (ns : List Int) : ∃ ns' : List Int, cutV (ns.map V.int) none (some 60) = ns'.map V.int ∧ ns'.length ≤ 60 := by
  refine ⟨((ns.drop (HT.sIx (ns.map V.int).length 0 none)).take (HT.sIx (ns.map V.int).length (ns.map V.int).length (some 60) - HT.sIx (ns.map V.int).length 0 none)), ?_, ?_⟩
  · unfold cutV
    rw [List.map_take, List.map_drop]
  · refine Nat.le_trans (List.length_take_le _ _) ?_
    have e : (60 : Int) = ((60 : Nat) : Int) := rfl
    rw [e, HT.sIx_nat]
    omega
theorem same_neu {H H' : Hp} (e : Same H H') {p : Addr} {o : HO} (h : H' p = none) : Same H (upd H' p o) := fun b u k => by
  have k' := e b u k
  rw [upd_ne (ne_of_none k' h)]
  exact k'
theorem But.seq {K : PySem.W.Frag} {q : Addr} {H H' : Hp} {a : Addr} {xs : List V} (e : But q H H') (n : a ≠ q) (h : SqL K H a xs) : SqL K H' a xs := by
  rcases h with (h | ⟨o, h⟩) | h
  · exact .inl (.inl (e _ _ n h))
  · exact .inl (.inr ⟨o, e _ _ n h⟩)
  · exact .inr h
theorem at_some {xs : List V} {k : Int} (h0 : 0 ≤ k) (h1 : k < (xs.length : Int)) : ∃ (i : Nat) (v : V), atI xs k = some v ∧ xs[i]? = some v := by
  obtain ⟨j, rfl⟩ : ∃ j : Nat, k = (j : Int) := ⟨k.toNat, by omega⟩
  have hk : j < xs.length := by omega
  exact ⟨j, xs[j], atI_nat (List.getElem?_eq_getElem hk), List.getElem?_eq_getElem hk⟩
end Rp
namespace Rp
open PySem PySem.Spec PyProof.Rows L2
/-! ### defs that are called while no builtin of containers runs: what repr asks -/
/-- the def at f keeps the promise sp, called where nothing is being shown -/
structure FnG (P : Program) (w : World) (K : PySem.W.Frag) (mg : Str → Option Value) (base : Heap) (k : Nat) (f : Addr) (fd : FuncData) (ps : List Str) (sp : Sp) : Prop where
  arity : ∀ {vs H Q E}, sp vs H Q E → vs.length = ps.length
  go : ∀ {A : Around} {fr : List Env} {s : Shared} {H : Hp} {args : Args} {us : List Value} {vs : List V} {Q : VK} {E : XK}, A.guards = some [] → Room k A → Env0 P w K mg base A fr s H →
    BindsTo s fd args (ps.zip us) → Vals vs us → sp vs H Q E → codeAny (model P w) A (.call (.ref f) args) (CR CX0 fr P w H s Q E) s
section
variable {P : Program} {w : World} {K : PySem.W.Frag} {mg : Str → Option Value} {base : Heap} {k j : Nat} {f : Addr} {fd : FuncData} {ps : List Str} {sp : Sp}
theorem FnG.of (F : FnOk P w K mg base CX0 k f fd ps sp) : FnG P w K mg base k f fd ps sp := ⟨F.len _ _ _ _, fun _ r e b v q => F.run _ _ _ _ _ _ _ _ _ r e b v q⟩
theorem FnG.up (F : FnG P w K mg base j f fd ps sp) (h : j ≤ k) : FnG P w K mg base k f fd ps sp := ⟨F.arity, fun g r => F.go g (r.mono h)⟩
/-- the rule for a def -/
theorem fng {x qual : Str} {st : Stmt} {N : List Str} (F : Fun K x qual st f fd) (S : FnScope N ps (defScope st)) (ar : ∀ {vs H Q E}, sp vs H Q E → vs.length = ps.length)
    (body : ∀ {cdv : Value} {A : Around} {fr : List Env} {s : Shared} {H : Hp} {vs : List V} {Q : VK} {E : XK}, A.guards = some [] → Room k (A.deeper (envOfC qual (defScope st) s.heap.objs.size f cdv)) → sp vs H Q E →
      ∃ t, PSs (cxOf CX0 P w K mg base N qual (defScope st) f cdv A fr s H E).nox (defBody st) t ∧ t ⟨fun _ G => Q .non G, Q, fun _ _ => False, fun _ _ => False⟩ (L2.start N vs) H) : FnG P w K mg base (k + 1) f fd ps sp := by
  obtain ⟨oc, od, kV, dc, pm, an, cdv, ct, sl, e, look, code⟩ := F.ex
  subst e
  constructor
  · exact ar
  intro A fr s H args us vs Q E hg room env bind rel q
  have size := ar q
  have kin := env.mod.kin.keeps fun b o z => (env.bs b o z).1
  have nolim := env.mod.nolimit.keeps fun b o z => (env.bs b o z).1
  have knd : ∀ p ∈ ps.zip us, (defScope st).names.lookup p.1 = some .local ∨ ((defScope st).names.lookup p.1 = some .cell ∧ ((cellsFrom (s.heap.objs.size + 1) (defScope st).names []).lookup p.1).isSome = true) := by
    rintro ⟨n, v⟩ hp
    exact (S.par n (List.of_mem_zip hp).1).imp id fun z => ⟨z, PySem.W.cellsFrom_some _ _ _ (.inl z)⟩
  apply codeAny_call_function room.depth (kin _ _ look) rfl S.co S.gen rfl (PySem.W.codeRec_of kin code)
  apply bind
  apply wpAny_newFunctionEnv_cells S.kind knd
  intro en he s1 ic
  subst he
  refine ⟨nolim.keeps ic.toInCall.keep, codeAny_func ?_⟩
  obtain ⟨t, pt, rd⟩ := body (cdv := cdv) (fr := fr) (E := E) hg (room.deeper _) q
  have inv : Inv (cxOf CX0 P w K mg base N qual (defScope st) f cdv A fr s H E) [] (L2.start N vs) H s1 := inv_start S room.hd env size rel ic
  apply wpAny_mono (pt.nox.run [] s1 (L2.start N vs) H _ inv rd)
  · intro fl s2 hs
    cases fl with
    | ret u => obtain ⟨v, τ, G, J, r, z⟩ := hs; exact ⟨v, G, J.os, J.bare, J.base, J.hok, r, z⟩
    | next => obtain ⟨τ, G, J, z⟩ := hs; exact ⟨.non, G, J.os, J.bare, J.base, J.hok, rfl, z⟩
    | brk => obtain ⟨_, _, _, z⟩ := hs; exact z.elim
    | cont => obtain ⟨_, _, _, z⟩ := hs; exact z.elim
  · intro er s2 hs
    exact hs
end
section
variable {X : Cx} {k : Nat} {f : Addr} {fd : FuncData} {ps ks : List Str} {sp : Sp} {E : XK} {x : Str} {p pos : Pos} {e : Expr} {es : List Expr} {t tk : TA} {kws : List Keyword}
/-- what the callee does, from the caller's state -/
theorem goes {pins : List (Addr × Obj)} {σ : L2.St} {H : Hp} {s : Shared} {Q : VK} {args : Args} {us : List Value} {vs : List V} (F : FnG X.prog X.w X.K X.mg X.base k f fd ps sp) (g : X.A.guards = some []) (r : Room k X.A)
    (I : Inv X pins σ H s) (b : BindsTo s fd args (ps.zip us)) (rel : Vals vs us) (q : sp vs H Q E) : codeAny (model X.prog X.w) X.A (.call (.ref f) args) (fun a s2 => ∃ u, a = .ok (.ret u) ∧ EP X pins σ Q u s2) s := by
  apply codeAny_mono (F.go g r I.env0 b rel q)
  intro a s2 h
  rcases a with er | fl
  · exact h.elim
  · cases fl with
    | ret u => exact ⟨u, rfl, I.after h⟩
    | next => exact h.elim
    | brk => exact h.elim
    | cont => exact h.elim
theorem pe_callG (F : FnG X.prog X.w X.K X.mg X.base k f fd ps sp) (g : X.A.guards = some []) (r : Room k X.A) (hg : Gl X x) (hm : X.mg x = some (.ref f)) (hk : PySem.W.keepIn X.K (.ref f) = true) (hb : Binds X.K fd ps [])
    (ha : PA X (e :: es) t) (d1 : (x == ("__debug__" : Str)) = false := by decide) (d2 : starEach (e :: es) X.env = (false, eval e X.env) :: starEach es X.env := by rfl) (d3 : (backTo pos (starEach es X.env)).any (·.1) = false := by rfl) :
    PE X (.Call (.Name x p) (e :: es) [] pos) (fun σ H Q => t σ H fun vs G => sp vs G Q E) := by
  constructor
  intro pins s σ H Q I h
  apply wpAny_Call_Name_kw (ld_glob I hg hm ?_ d1)
  apply PySem.W.callWith_K (h₀ := X.base) I.ok.mod.kin hk ?_ d2 d3
  apply thn (ha.run pos pins s σ H _ I h)
  rintro us s1 ⟨vs, H1, I1, rel, q⟩
  refine ⟨I1.kIn, wpAny_call ?_⟩
  have n : (us ++ ([] : List Value)).length = ps.length := by
    rw [List.append_nil, ← rel.length]
    exact F.arity q
  have bb := hb s1 us I1.kIn n
  rw [List.append_nil] at bb
  apply codeAny_mono (goes F g r I1 bb rel q)
  rintro a s2 ⟨u, rfl, z⟩
  exact z
/-- how written keywords ks, behind n arguments by place, come to the parameters: parameter i is value number ix[i] -/
structure KBx (K : PySem.W.Frag) (fd : FuncData) (ps : List Str) (n : Nat) (ks : List Str) (ix : List Nat) : Prop where
  to : ∀ (s : Shared) (us ws : List Value), us.length = n → ws.length = ks.length → BindsTo s fd ⟨us, ks.zip ws⟩ (ps.zip (ix.map fun i => (us ++ ws).getD i .none))
theorem vals_ix {vs : List V} {us : List Value} (r : Vals vs us) : ∀ ix : List Nat, Vals (ix.map fun i => vs.getD i .non) (ix.map fun i => us.getD i .none)
  | [] => .nil
  | i :: l => by
    refine .cons ?_ (vals_ix r l)
    show L2.RelV (vs.getD i .non) (us.getD i .none)
    rw [List.getD_eq_getElem?_getD, List.getD_eq_getElem?_getD]
    cases h : vs[i]? with
    | none => rw [r.none_of h]; rfl
    | some v =>
      obtain ⟨u, hu, z⟩ := r.get h
      rw [hu]
      exact z
def tKw (sp : Sp) (n m : Nat) (ix : List Nat) (E : XK) (t tk : TA) : TE := fun σ H Q => t σ H fun vs G => tk σ G fun zs G2 => vs.length = n ∧ zs.length = m ∧ sp (ix.map fun i => (vs ++ zs).getD i .non) G2 Q E
theorem pe_callGK0 {ix : List Nat} (F : FnG X.prog X.w X.K X.mg X.base k f fd ps sp) (g : X.A.guards = some []) (r : Room k X.A) (hg : Gl X x) (hm : X.mg x = some (.ref f)) (hk : PySem.W.keepIn X.K (.ref f) = true) (hb : KBx X.K fd ps 0 ks ix)
    (hkw : PK X kws tk) (d4 : (backToKw pos (keywordEach kws X.env)).all (·.1.isSome) = true := by rfl) (d5 : (backToKw pos (keywordEach kws X.env)).filterMap (·.1) = ks := by rfl) (d1 : (x == ("__debug__" : Str)) = false := by decide)
    (d3 : (backToKw pos (keywordEach kws X.env)).any (·.1.isNone) = false := by rfl) :
    PE X (.Call (.Name x p) [] kws pos) (tKw sp 0 ks.length ix E L2.tNil tk) := by
  constructor
  intro pins s σ H Q I h
  apply wpAny_Call_Name_kw (ld_glob I hg hm ?_ d1)
  apply PySem.W.callWith_KW0 (h₀ := X.base) I.ok.mod.kin hk d4 ?_ d3
  apply thn (hkw.run pos pins s σ H _ I h)
  rintro ws s2 ⟨zs, H2, I2, rz, _, lz, q⟩
  refine ⟨I2.kIn, ?_⟩
  rw [d5]
  apply wpAny_call
  have lw : ws.length = ks.length := by rw [← rz.length]; exact lz
  apply codeAny_mono (goes F g r I2 (hb.to s2 [] ws rfl lw) (vals_ix (.append .nil rz) ix) q)
  rintro a s3 ⟨u, rfl, z⟩
  exact z
end
/-- sys.modules stands in the base -/
def HasMods (base : Heap) : Prop := ∃ mm, base.Ns sysModules mm
/-! ### the law's call, from its promise -/
theorem law_go {P : Program} {w : World} {K : PySem.W.Frag} {mg mb : Str → Option Value} {k : Nat} {fa a : Addr} {fd : FuncData} {x : Str} {sp : Sp} {s : Shared} {us : List Value} {ns : List Int}
    (kin : K.In s.heap) (gl : s.heap.Ns mainGlobals mg) (bl : s.heap.Ns builtinsNs mb) (boot : ∀ y : Str, y ≠ "__name__" → mb y = bootBuiltins y) (nolim : s.heap.NoLimit) (mods : HasMods s.heap) (gen : s.gens = #[])
    (ob : s.heap.get? a = some { cls := .type "list", data := .seq us.toArray }) (nums : IntsAre us ns) (size : ns.length ≤ sizeLine) (room : Room k callerA)
    (F : ∀ base : Heap, K.In base → base.Ns mainGlobals mg → HasMods base → FnG P w K mg base k fa fd [x] sp) (bind : ∀ (t : Shared) (u : Value), BindsTo t fd ⟨[u], []⟩ [(x, u)])
    (prom : ∀ H : Hp, SqL K H a (ns.map V.int) → sp [.ref a] H (fun v _ => v = .bl true) fun _ _ _ => False) :
    codeAny (model P w) callerA (.call (.ref fa) ⟨[.ref a], []⟩) (fun r t => r = .ok (.ret (.bool true)) ∧ OldK s.heap t.heap ∧ t.os = s.os ∧ AllBare t.gens) s := by
  have rel := vals_ints nums
  -- H tracks nothing, or the script alone, as the object that it is
  suffices main : ∀ H : Hp, SqL K H a (ns.map V.int) → HOk P w H s.heap → (∀ b u, H b = some u → b = a ∧ K.lookup a = none ∧ ∃ o y, u = .frz o y ∧ s.heap.get? b = some o) →
      codeAny (model P w) callerA (.call (.ref fa) ⟨[.ref a], []⟩) (fun r t => r = .ok (.ret (.bool true)) ∧ OldK s.heap t.heap ∧ t.os = s.os ∧ AllBare t.gens) s by
    by_cases hk : K.lookup a = none
    · let o : Obj := { cls := .type "list", data := .seq us.toArray }
      refine main (fun b => if b = a then some (.frz o (.lst (ns.map V.int))) else none) (.inl (.inr ⟨o, if_pos rfl⟩)) ?_ ?_
      · intro b u z
        by_cases h : b = a
        · subst h
          cases (if_pos rfl).symm.trans z
          exact ⟨ob, by rw [List.length_map]; exact size, us, _, rel, ob⟩
        · cases (if_neg h).symm.trans z
      · intro b u z
        by_cases h : b = a
        · subst h
          cases (if_pos rfl).symm.trans z
          exact ⟨rfl, hk, o, _, rfl, ob⟩
        · cases (if_neg h).symm.trans z
    · obtain ⟨o, ho⟩ := Option.ne_none_iff_exists'.mp hk
      have e := kin a o ho
      rw [ob] at e
      cases e
      exact main (fun _ => none) (.inr ⟨_, us.toArray, _, ho, rfl, rfl, rfl, by rw [List.size_toArray, nums.length]; exact size, by simpa using rel⟩) (fun b u z => nomatch z) fun b u z => nomatch z
  intro H seq hok only
  have hid : ∀ {b o}, s.heap.get? b = some o → H b = none → (hidT s.heap H).get? b = some o := fun e n => hidT_get e n
  have free : ∀ {b o} {es : Array DictEntry} {n : Nat}, s.heap.get? b = some o → o.data = .dict es n → H b = none := by
    intro b o es n e d
    cases z : H b with
    | none => rfl
    | some u =>
      obtain ⟨rfl, _⟩ := only b u z
      rw [ob] at e
      cases e
      cases d
  have names : ∀ {b} {m : Str → Option Value}, s.heap.Ns b m → (hidT s.heap H).Ns b m := by
    rintro b m ⟨o, es, n, e, d, z⟩
    exact ⟨o, es, n, hid e (free e d), d, z⟩
  have kin' : K.In (hidT s.heap H) := by
    intro b o e
    refine hid (kin b o e) ?_
    cases z : H b with
    | none => rfl
    | some u =>
      obtain ⟨rfl, n, _⟩ := only b u z
      rw [n] at e
      cases e
  obtain ⟨mc, l1, l2⟩ := nolim
  have mod : Mod K mg (hidT s.heap H) := ⟨kin', names gl, ⟨mb, names bl, boot⟩, ⟨mc, names l1, l2⟩⟩
  have env : Env0 P w K mg (hidT s.heap H) callerA [] s H := ⟨rfl, mod, fun b o e => of_hidT e, Nat.le_of_eq (hidT_size _ _), trivial, fun b h => absurd (show b ∈ ([] : List Addr) from h) (by simp), hok, .of_eq gen⟩
  apply codeAny_mono ((F _ kin' (names gl) (mods.imp fun _ z => names z)).go (us := [.ref a]) (vs := [.ref a]) rfl room env (bind s (.ref a)) (.cons rfl .nil) (prom H seq))
  intro r t h
  rcases r with er | fl
  · exact h.elim
  cases fl with
  | next => exact h.elim
  | brk => exact h.elim
  | cont => exact h.elim
  | ret u =>
    obtain ⟨v, G, os, bare, un, hok', rl, q⟩ := h
    cases (show v = .bl true from q)
    obtain rfl : u = Value.bool true := rl
    refine ⟨rfl, OldK.of_keep fun b o e => ?_, os, bare⟩
    cases z : H b with
    | none => exact un.keep b o e z (by intro m; exact absurd (show b ∈ ([] : List Addr) from m) (by simp)) (by simp)
    | some u =>
      obtain ⟨_, _, o', y, rfl, e'⟩ := only b u z
      rw [e] at e'
      cases e'
      exact (hok' b _ (un.frzs b o y z)).1
/-- what k_head leaves, from the law's promise -/
theorem walk_G {l : PySem.W.OpenLaw} {n k : Nat} {q : Program} {loose : List Str} {XP : (Str → Option Value) → Heap → Prop} {YP : World → Heap → Prop} {d : DefRec} {K : Params → PySem.W.Frag} {sp : PySem.W.Frag → Sp} {x : Str}
    (none : importsNone q = true) (hn : l.most = some n) (hn2 : n ≤ sizeLine) (hdf : d.params.defaults = []) (room : Room k callerA) (hY : ∀ (w : World) (h : Heap), YP w h → (K w.params).In h)
    (F : ∀ (w : World) (mg : Str → Option Value) (fa : Addr) (h : Heap), (K w.params).In h → h.Ns mainGlobals mg → mg d.name = some (.ref fa) →
      ∃ fd : FuncData, (∀ (t : Shared) (u : Value), BindsTo t fd ⟨[u], []⟩ [(x, u)]) ∧ ∀ base : Heap, (K w.params).In base → base.Ns mainGlobals mg → HasMods base → FnG l.prog w (K w.params) mg base k fa fd [x] (sp (K w.params)))
    (prom : ∀ (K : PySem.W.Frag) (H : Hp) (a : Addr) (ns : List Int), ns.length ≤ n → SqL K H a (ns.map V.int) → sp K [.ref a] H (fun v _ => v = .bl true) fun _ _ _ => False) :
    PySem.W.WalkO q loose XP YP l.row.toRowW d [] (fun f vs => PySem.call f vs) := by
  apply Att.attach_call hn hdf
  intro w s0 s1 mg mb fa o pm cd dc a us ns G Y _ _ _ hmg hobj nums hlen hg
  have md : HasMods s1.heap := let ⟨mm, z, _⟩ := (G.T.seer none).mods; ⟨mm, z⟩
  obtain ⟨fd, hb, hF⟩ := F w mg fa _ (hY w _ Y) G.T.g hmg
  exact law_go (hY w _ Y) G.T.g G.T.b G.T.builtins G.T.nolimit md hg hobj nums (Nat.le_trans hlen hn2) room hF hb fun H hS => prom _ H a ns hlen hS
/-- a def as its callers know it -/
structure Cal (P : Program) (w : World) (K : PySem.W.Frag) (mg : Str → Option Value) (base : Heap) (x : Str) (k : Nat) (f : Addr) (fd : FuncData) (ps : List Str) (sp : Sp) : Prop where
  G : FnG P w K mg base k f fd ps sp
  mgf : mg x = some (.ref f)
  kp : PySem.W.keepIn K (.ref f) = true
  b : Binds K fd ps []
/-- keywords come to the parameters -/
theorem kb_of {K : PySem.W.Frag} {x qual : Str} {st : Stmt} {f : Addr} {fd : FuncData} {ps ks : List Str} {n : Nat} {ix : List Nat} (F : Fun K x qual st f fd)
    (h : ∀ (kV dc pm : Value) (an : Option Addr) (cd ct : Value) (us ws : List Value), us.length = n → ws.length = ks.length → bindArgs (PySem.W.fnOf x qual (defArgs st) (defBody st) (defScope st) .none kV dc pm an cd ct) ⟨us, ks.zip ws⟩ = pure (ps.zip (ix.map fun i => (us ++ ws).getD i .none))) : KBx K fd ps n ks ix := by
  obtain ⟨oc, od, kV, dc, pm, an, cd, ct, sl, e, _, _⟩ := F.ex
  subst e
  exact ⟨fun s us ws l1 l2 => .of_eq (h kV dc pm an cd ct us ws l1 l2)⟩
def tGo (sp : Sp) (t : TA) : TE := fun σ H Q => t σ H fun vs G => sp vs G Q E0
theorem r_go {sp : Sp} {t : TA} {σ : L2.St} {H : Hp} {Q : VK} (h : t σ H fun vs G => sp vs G Q E0) : tGo sp t σ H Q := h
theorem r_kw {sp : Sp} {n m : Nat} {ix : List Nat} {E : XK} {t tk : TA} {σ : L2.St} {H : Hp} {Q : VK} (h : t σ H fun vs G => tk σ G fun zs G2 => vs.length = n ∧ zs.length = m ∧ sp (ix.map fun i => (vs ++ zs).getD i .non) G2 Q E) : tKw sp n m ix E t tk σ H Q := h
section
variable {X : Cx} {k : Nat} {f : Addr} {fd : FuncData} {ps ks : List Str} {sp : Sp} {x : Str} {p pos : Pos} {e : Expr} {es : List Expr} {t tk : TA} {kws : List Keyword}
theorem pe_go (c : Cal X.prog X.w X.K X.mg X.base x k f fd ps sp) (g : X.A.guards = some []) (r : Room k X.A) (hg : Gl X x) (ha : PA X (e :: es) t) (d1 : (x == ("__debug__" : Str)) = false := by decide)
    (d2 : starEach (e :: es) X.env = (false, eval e X.env) :: starEach es X.env := by rfl) (d3 : (backTo pos (starEach es X.env)).any (·.1) = false := by rfl) : PE X (.Call (.Name x p) (e :: es) [] pos) (tGo sp t) :=
  pe_callG (E := E0) c.G g r hg c.mgf c.kp c.b ha d1 d2 d3
theorem pe_kw0 {ix : List Nat} (c : Cal X.prog X.w X.K X.mg X.base x k f fd ps sp) (hb : KBx X.K fd ps 0 ks ix) (g : X.A.guards = some []) (r : Room k X.A) (hg : Gl X x) (hkw : PK X kws tk)
    (d4 : (backToKw pos (keywordEach kws X.env)).all (·.1.isSome) = true := by rfl) (d5 : (backToKw pos (keywordEach kws X.env)).filterMap (·.1) = ks := by rfl) (d1 : (x == ("__debug__" : Str)) = false := by decide)
    (d3 : (backToKw pos (keywordEach kws X.env)).any (·.1.isNone) = false := by rfl) : PE X (.Call (.Name x p) [] kws pos) (tKw sp 0 ks.length ix E0 L2.tNil tk) :=
  pe_callGK0 c.G g r hg c.mgf c.kp hb hkw d4 d5 d1 d3
end
end Rp
namespace Rp
open PySem PySem.Spec PyProof.Rows L2
/-! ### data on the heap, dicts in it too; what repr shows of them -/
def kD : Key → PyData
  | .inl i => .int i
  | .inr x => .str x
mutual
inductive Dd (K : PySem.W.Frag) (H : Hp) : V → PyData → Prop
  | non : Dd K H .non .none
  | bl (b : Bool) : Dd K H (.bl b) (.bool b)
  | num (i : Int) : Dd K H (.int i) (.int i)
  | str (x : Str) : Dd K H (.str x) (.str x)
  | lst {a : Addr} {xs : List V} {ds : List PyData} (e : SqL K H a xs) (h : DdAll K H xs ds) : Dd K H (.ref a) (.list ds)
  | tup {a : Addr} {xs : List V} {ds : List PyData} (e : SqT K H a xs) (h : DdAll K H xs ds) : Dd K H (.ref a) (.tuple ds)
  | dic {a : Addr} {kvs : List (Key × V)} {ds : List (PyData × PyData)} (e : H a = some (.dK kvs)) (h : DdKv K H kvs ds) : Dd K H (.ref a) (.dict ds)
inductive DdAll (K : PySem.W.Frag) (H : Hp) : List V → List PyData → Prop
  | nil : DdAll K H [] []
  | cons {v : V} {vs : List V} {d : PyData} {ds : List PyData} (h : Dd K H v d) (t : DdAll K H vs ds) : DdAll K H (v :: vs) (d :: ds)
inductive DdKv (K : PySem.W.Frag) (H : Hp) : List (Key × V) → List (PyData × PyData) → Prop
  | nil : DdKv K H [] []
  | cons {k : Key} {v : V} {r : List (Key × V)} {d : PyData} {ds : List (PyData × PyData)} (h : Dd K H v d) (t : DdKv K H r ds) : DdKv K H ((k, v) :: r) ((kD k, d) :: ds)
end
section
variable {X : Cx} {pins : List (Addr × Obj)} {σ : L2.St} {H : Hp} {s : Shared}
theorem mods_ne (I : Inv X pins σ H s) (M : HasMods X.base) {a : Addr} {o : Obj} {vs : Array Value} {n : Nat} (e : s.heap.get? a = some o) (d : o.data = .seq vs n) : sysModules ≠ a := by
  intro z
  obtain ⟨mm, ob, es, ep, h1, h2, _⟩ := M
  have h3 := (I.bs _ _ h1).1
  rw [z, e] at h3
  cases h3
  rw [d] at h2
  cases h2
theorem key_reads {h : Heap} {k : Key} {v : Value} (e : keyIs k v = true) : Reads h v (kD k) [] := by
  rcases keyIs_shape e with ⟨i, t, rfl, rfl⟩ | ⟨x, t, rfl, rfl⟩
  · exact .int i t
  · exact .str x t
mutual
theorem dd_reads (I : Inv X pins σ H s) (M : HasMods X.base) : ∀ {v : V} {d : PyData}, Dd X.K H v d → ∀ u, RelV v u → ∃ as, Reads s.heap u d as ∧ sysModules ∉ as
  | _, _, .non, u, r => by cases r; exact ⟨[], .none, by simp⟩
  | _, _, .bl b, u, r => by cases r; exact ⟨[], .bool b, by simp⟩
  | _, _, .num i, u, r => by obtain ⟨t, rfl⟩ := r; exact ⟨[], .int i t, by simp⟩
  | _, _, .str x, u, r => by obtain ⟨t, rfl⟩ := r; exact ⟨[], .str x t, by simp⟩
  | _, _, .lst e h, u, r => by
    cases r
    obtain ⟨its, rv, ⟨o, n, h1, h2, _, h4⟩, _⟩ := I.list e
    obtain ⟨as, ra, na⟩ := dd_readsAll I M h its rv
    refine ⟨_, .list h1 h2 h4 (by simpa using ra), ?_⟩
    intro m
    rcases List.mem_cons.mp m with z | z
    · exact mods_ne I M h1 h4 z
    · exact na z
  | _, _, .tup e h, u, r => by
    cases r
    obtain ⟨its, rv, ⟨o, h1, h2, n, h4⟩, _⟩ := I.tuple e
    obtain ⟨as, ra, na⟩ := dd_readsAll I M h its rv
    exact ⟨_, .tuple h1 h2 h4 (by simpa using ra), na⟩
  | _, _, .dic e h, u, r => by
    cases r
    obtain ⟨_, ns, vs, kv, o, es, ep, h1, h2, h3, _, pr, _⟩ := I.hok _ _ e
    obtain ⟨bs, rk, rvs, nb⟩ := dd_readsKv I M h vs es.toList kv pr
    refine ⟨_, .dict h1 h2.1 h3 rk rvs, ?_⟩
    intro m
    rcases List.mem_cons.mp (by simpa using m) with z | z
    · rw [z] at ns
      simp at ns
    · exact nb (by simpa using z)
theorem dd_readsAll (I : Inv X pins σ H s) (M : HasMods X.base) : ∀ {vs : List V} {ds : List PyData}, DdAll X.K H vs ds → ∀ us, Vals vs us → ∃ as, ReadsAll s.heap us ds as ∧ sysModules ∉ as
  | _, _, .nil, us, r => by cases r; exact ⟨[], .nil, by simp⟩
  | _, _, .cons h t, us, r => by
    cases r with
    | cons r1 r2 =>
      obtain ⟨as, q1, n1⟩ := dd_reads I M h _ r1
      obtain ⟨bs, q2, n2⟩ := dd_readsAll I M t _ r2
      exact ⟨as ++ bs, .cons q1 q2, by rw [List.mem_append]; exact fun z => z.elim n1 n2⟩
theorem dd_readsKv (I : Inv X pins σ H s) (M : HasMods X.base) : ∀ {kvs : List (Key × V)} {ds : List (PyData × PyData)}, DdKv X.K H kvs ds → ∀ (vs : List (Key × Value)) (es : List DictEntry), KV kvs vs → Pairs (mixKind X.prog X.w) es vs →
    ∃ bs, ReadsAll s.heap (es.map (·.key)) (ds.map (·.1)) [] ∧ ReadsAll s.heap (es.map (·.val)) (ds.map (·.2)) bs ∧ sysModules ∉ bs
  | _, _, .nil, vs, es, kv, pr => by
    cases kv
    cases pr
    exact ⟨[], .nil, .nil, by simp⟩
  | _, _, .cons h t, vs, es, kv, pr => by
    cases kv with
    | cons k1 k2 =>
      cases pr with
      | cons p1 p2 p3 =>
        obtain ⟨e1, e2⟩ := k1
        rw [← p2] at e2
        rw [← e1] at p1
        obtain ⟨as, q1, n1⟩ := dd_reads I M h _ e2
        obtain ⟨bs, q2, q3, n2⟩ := dd_readsKv I M t _ _ k2 p3
        refine ⟨as ++ bs, ?_, .cons q1 q3, by rw [List.mem_append]; exact fun z => z.elim n1 n2⟩
        exact ReadsAll.cons (as := []) (key_reads p1) q2
end
/-- repr of a list, a tuple, a dict: of data -/
def rRepr (K : PySem.W.Frag) : List V → Hp → VK → Prop := fun xs H Q => ∃ (a : Addr) (d : PyData), xs = [.ref a] ∧ Dd K H (.ref a) d ∧ d.showable = true ∧ d.depth ≤ 64 ∧ d.shown.length ≤ sizeLine ∧ Q (.str d.shown) H
theorem call_reprD {k : Nat} (hr : Room k X.A) (g : X.A.guards = some []) (M : HasMods X.base) : CallR X (.builtin "repr") (rRepr X.K) := by
  intro pins s σ H xs us Q I r h
  obtain ⟨a, d, rfl, dd, hs, hdp, hsz, q⟩ := h
  obtain ⟨u, rfl, r1⟩ := vals1 r
  cases (show u = Value.ref a from r1)
  obtain ⟨as, rd, na⟩ := dd_reads I M dd _ rfl
  have un := hr.un
  exact repr_of_reads' rd hs (fun _ => na) g (by omega) (fun _ _ e => e) (fun h' t tk hk => ⟨.str d.shown, H, I.kept hk, ⟨_, rfl⟩, q⟩) hsz
end
end Rp
namespace Rp
open PySem PySem.Spec PyProof.Rows L2
/-! ### values of any kind, off the box -/
inductive Any (q : Addr) (H : Hp) : V → Prop
  | non : Any q H .non
  | bl (b : Bool) : Any q H (.bl b)
  | num (i : Int) : Any q H (.int i)
  | str (x : Str) : Any q H (.str x)
  | lst {a : Addr} {xs : List V} (n : a ≠ q) (e : H a = some (.lst xs)) : Any q H (.ref a)
  | tup {a : Addr} {xs : List V} (n : a ≠ q) (e : H a = some (.tup xs)) : Any q H (.ref a)
  | dic {a : Addr} {kvs : List (Key × V)} (n : a ≠ q) (e : H a = some (.dK kvs)) : Any q H (.ref a)
/-- a value that is a list or tuple of some values, or none -/
inductive RowV (q : Addr) (H : Hp) : V → Option (List V) → Prop
  | non : RowV q H .non none
  | bl (b : Bool) : RowV q H (.bl b) none
  | num (i : Int) : RowV q H (.int i) none
  | str (x : Str) : RowV q H (.str x) none
  | lst {a : Addr} {xs : List V} (n : a ≠ q) (e : H a = some (.lst xs)) (h : ∀ x ∈ xs, Any q H x) : RowV q H (.ref a) (some xs)
  | tup {a : Addr} {xs : List V} (n : a ≠ q) (e : H a = some (.tup xs)) (h : ∀ x ∈ xs, Any q H x) : RowV q H (.ref a) (some xs)
  | dic {a : Addr} {kvs : List (Key × V)} (n : a ≠ q) (e : H a = some (.dK kvs)) : RowV q H (.ref a) none
section
variable {q : Addr} {H H' : Hp} {v : V} {o : Option (List V)} {K : PySem.W.Frag}
theorem Any.but (h : Any q H v) (b : But q H H') : Any q H' v := by
  cases h with
  | non => exact .non
  | bl b => exact .bl b
  | num i => exact .num i
  | str x => exact .str x
  | lst n e => exact .lst n (b _ _ n e)
  | tup n e => exact .tup n (b _ _ n e)
  | dic n e => exact .dic n (b _ _ n e)
theorem RowV.but (h : RowV q H v o) (b : But q H H') : RowV q H' v o := by
  cases h with
  | non => exact .non
  | bl b => exact .bl b
  | num i => exact .num i
  | str x => exact .str x
  | lst n e it => exact .lst n (b _ _ n e) fun x m => (it x m).but b
  | tup n e it => exact .tup n (b _ _ n e) fun x m => (it x m).but b
  | dic n e => exact .dic n (b _ _ n e)
def isI : V → Bool
  | .int _ => true
  | _ => false
def isIB : V → Bool
  | .int _ => true
  | .bl _ => true
  | _ => false
def isB : V → Bool
  | .bl _ => true
  | _ => false
theorem isI_eq (v : V) : (isIB v && !isB v) = isI v := by cases v <;> rfl
theorem any_int (h : Any q H v) : ∃ t : Value, TyX K H v t ∧ PySem.W.kitOne K t (.type "int") = some (isIB v) := by
  cases h with
  | non => exact ⟨_, .base .non, kit_ty (r := false) (by decide +kernel)⟩
  | bl b => exact ⟨_, .base (.bl b), kit_ty (r := true) (by decide +kernel)⟩
  | num i => exact ⟨_, .base (.int i), kit_ty (r := true) (by decide +kernel)⟩
  | str x => exact ⟨_, .base (.str x), kit_ty (r := false) (by decide +kernel)⟩
  | lst n e => exact ⟨_, .base (.lst e), kit_ty (r := false) (by decide +kernel)⟩
  | tup n e => exact ⟨_, .base (.tup e), kit_ty (r := false) (by decide +kernel)⟩
  | dic n e => exact ⟨_, .base (.dK e), kit_ty (r := false) (by decide +kernel)⟩
theorem any_bool (h : Any q H v) : ∃ t : Value, TyX K H v t ∧ PySem.W.kitOne K t (.type "bool") = some (isB v) := by
  cases h with
  | non => exact ⟨_, .base .non, kit_ty (r := false) (by decide +kernel)⟩
  | bl b => exact ⟨_, .base (.bl b), kit_ty (r := true) (by decide +kernel)⟩
  | num i => exact ⟨_, .base (.int i), kit_ty (r := false) (by decide +kernel)⟩
  | str x => exact ⟨_, .base (.str x), kit_ty (r := false) (by decide +kernel)⟩
  | lst n e => exact ⟨_, .base (.lst e), kit_ty (r := false) (by decide +kernel)⟩
  | tup n e => exact ⟨_, .base (.tup e), kit_ty (r := false) (by decide +kernel)⟩
  | dic n e => exact ⟨_, .base (.dK e), kit_ty (r := false) (by decide +kernel)⟩
theorem kit2 {t a b : String} {x y : Bool} (h1 : kitB t a = some x) (h2 : kitB t b = some y) : PySem.W.kitAny K (.type t) [.type a, .type b] = some (x || y) := by
  refine kitAny_cons (kit_ty h1) (fun e => ?_) (fun e => by rw [e]; rfl)
  rw [e]
  refine kitAny_cons (kit_ty h2) (fun e => ?_) (fun e => by rw [e]; rfl)
  rw [e]
  exact kitAny_nil
theorem row_seq (h : RowV q H v o) : ∃ t : Value, TyX K H v t ∧ PySem.W.kitAny K t [.type "list", .type "tuple"] = some o.isSome := by
  cases h with
  | non => exact ⟨_, .base .non, kit2 (x := false) (y := false) (by decide +kernel) (by decide +kernel)⟩
  | bl b => exact ⟨_, .base (.bl b), kit2 (x := false) (y := false) (by decide +kernel) (by decide +kernel)⟩
  | num i => exact ⟨_, .base (.int i), kit2 (x := false) (y := false) (by decide +kernel) (by decide +kernel)⟩
  | str x => exact ⟨_, .base (.str x), kit2 (x := false) (y := false) (by decide +kernel) (by decide +kernel)⟩
  | lst n e => exact ⟨_, .base (.lst e), kit2 (x := true) (y := false) (by decide +kernel) (by decide +kernel)⟩
  | tup n e => exact ⟨_, .base (.tup e), kit2 (x := false) (y := true) (by decide +kernel) (by decide +kernel)⟩
  | dic n e => exact ⟨_, .base (.dK e), kit2 (x := false) (y := false) (by decide +kernel) (by decide +kernel)⟩
end
/-- any value is, is not a truth -/
def rIsAny (neg : Bool) : R2 := fun x y H Q => ∃ b, y = .bl b ∧ Q (.bl (if neg then !decide (x = .bl b) else decide (x = .bl b))) H
section
variable {X : Cx}
theorem bl_ne {x : V} {v : Value} {b : Bool} (rx : RelV x v) (ne : x ≠ .bl b) : v ≠ Value.bool b := by
  intro e
  subst e
  cases x with
  | bl c => exact ne (by rw [Value.bool.inj (show Value.bool b = Value.bool c from rx)])
  | non => cases (show Value.bool b = Value.none from rx)
  | int i => obtain ⟨t, z⟩ := rx; cases z
  | str y => obtain ⟨t, z⟩ := rx; cases z
  | byt y => obtain ⟨t, z⟩ := rx; cases z
  | flt y => obtain ⟨t, z⟩ := rx; cases z
  | ref a => cases (show Value.bool b = Value.ref a from rx)
  | ty n => cases (show Value.bool b = Value.type n from rx)
theorem plain_bl {x : V} {v : Value} {b : Bool} (rx : RelV x v) : plainIs v (.bool b) = true := by
  cases x with
  | bl c => cases rx; rfl
  | non => cases rx; rfl
  | int i => obtain ⟨t, rfl⟩ := rx; rfl
  | str y => obtain ⟨t, rfl⟩ := rx; rfl
  | byt y => obtain ⟨t, rfl⟩ := rx; rfl
  | flt y => obtain ⟨t, rfl⟩ := rx; rfl
  | ref a => cases rx; rfl
  | ty n => cases rx; rfl
theorem op_is_any : OpR X (compareOp .Is) (rIsAny false) := by
  intro pins s σ H x y v u Q I rx ry h
  obtain ⟨b, rfl, q⟩ := h
  cases (show u = Value.bool b from ry)
  by_cases e : x = .bl b
  · subst e
    cases (show v = Value.bool b from rx)
    exact wpAny_is_self rfl ⟨.bl true, H, I, rfl, by simpa using q⟩
  · exact wpAny_is_other (plain_bl rx) (bl_ne rx e) ⟨.bl false, H, I, rfl, by simpa [e] using q⟩
theorem op_isnot_any : OpR X (compareOp .IsNot) (rIsAny true) := by
  intro pins s σ H x y v u Q I rx ry h
  obtain ⟨b, rfl, q⟩ := h
  cases (show u = Value.bool b from ry)
  by_cases e : x = .bl b
  · subst e
    cases (show v = Value.bool b from rx)
    exact wpAny_isNot_self rfl ⟨.bl false, H, I, rfl, by simpa using q⟩
  · exact wpAny_isNot_other (plain_bl rx) (bl_ne rx e) ⟨.bl true, H, I, rfl, by simpa [e] using q⟩
end
end Rp
namespace Rp
open PySem PySem.Spec PyProof.Rows L2
section
variable {K : PySem.W.Frag} {H : Hp} {Q : VK} {x v : V} {t : Value} {b : Bool} {q : Addr}
theorem r_isi {n : String} (ty : TyX K H x t) (k : PySem.W.kitOne K t (.type n) = some b) (h : Q (.bl b) H) : rIsi K [x, .ty n] H Q := ⟨x, _, t, _, b, rfl, .ty n, ty, k, h⟩
theorem r_isiT {p : Addr} {n m : String} (e : H p = some (.tup [.ty n, .ty m])) (ty : TyX K H x t) (k : PySem.W.kitAny K t [.type n, .type m] = some b) (h : Q (.bl b) H) : rIsiT K [x, .ref p] H Q :=
  ⟨x, p, _, t, _, b, rfl, e, .cons (.ty n) (.cons (.ty m) .nil), ty, k, h⟩
theorem r_isAny {neg : Bool} {c : Bool} (h : Q (.bl (if neg then !decide (x = .bl c) else decide (x = .bl c))) H) : rIsAny neg x (.bl c) H Q := ⟨c, rfl, h⟩
@[reducible] def oV : Option Int → V
  | none => .non
  | some i => .int i
/-- an integer from lo to hi -/
def inB (v : V) (lo hi : Option Int) : Bool :=
  match v with
  | .int i => (match lo with | none => true | some l => decide (l ≤ i)) && (match hi with | none => true | some u => decide (i ≤ u))
  | _ => false
def clocks : List Int := [3, 5, 7, 11, 13, 17, 19, 23, 29, 31]
def clk (v : V) : Bool :=
  match v with
  | .int i => clocks.contains i
  | _ => false
def rowB (o : Option (List V)) (clock size : Int) : Bool :=
  match o with
  | none => false
  | some xs => decide ((xs.length : Int) = size) && xs.all fun x => inB x (some 0) (some (clock - 1))
def spIsInt : Sp := fun vs H Q _ => ∃ q v, vs = [v] ∧ Any q H v ∧ Q (.bl (isI v)) H
def spWithin : Sp := fun vs H Q _ => ∃ q v lo hi, vs = [v, oV lo, oV hi] ∧ Any q H v ∧ Q (.bl (inB v lo hi)) H
def spClock : Sp := fun vs H Q _ => ∃ q v, vs = [v] ∧ Any q H v ∧ Q (.bl (clk v)) H
def spRow : Sp := fun vs H Q _ => ∃ q v o clock size, vs = [v, .int clock, .int size] ∧ RowV q H v o ∧ clk (.int clock) = true ∧ (∀ xs, o = some xs → xs.length < sizeLine) ∧ ∀ H', Same H H' → Q (.bl (rowB o clock size)) H'
end
end Rp
namespace Rp
open PySem PySem.Spec PyProof.Rows L2
/-! ### steps at the box -/
section
variable {K : PySem.W.Frag} {q c p : Addr} {ns : List Int} {lap : Nat} {H0 H G : Hp} {o : HO} {Q : VK} {σ : L2.St} {x y v : V} {te tk tv : TE} {b : Bool}
theorem alloc (hG : upd H p o = G) (D : Dr q c ns lap H) (B : But q H0 H) (hp : H p = none) : Dr q c ns lap G ∧ But q H0 G ∧ But q H G ∧ p ≠ q ∧ G p = some o := by
  subst hG
  refine ⟨D.neu hp, B.neu hp, (But.refl q H).neu hp, ?_, upd_same⟩
  intro e
  obtain ⟨_, ⟨_, h⟩, _⟩ := D
  rw [e, h] at hp
  cases hp
/-- what stood at p is exchanged -/
theorem stored {u : HO} (hG : upd H p o = G) (D : Dr q c ns lap H) (np : p ≠ q) (ep : H p = some u) (d : ∀ xs, u ≠ .lst xs) : Dr q c ns lap G ∧ G p = some o := by
  subst hG
  obtain ⟨ne, ⟨rest, h⟩, hc, hl⟩ := D
  exact ⟨⟨ne, ⟨rest, by rw [upd_ne np.symm]; exact h⟩, by rw [upd_ne (ne_of hc ep (d _).symm)]; exact hc, hl⟩, upd_same⟩
theorem but_put {H1 : Hp} (hG : upd H p o = G) (B : But q H1 H) (hp : H1 p = none) : But q H1 G := by
  subst hG
  intro b u n e
  rw [upd_ne (ne_of_none e hp)]
  exact B b u n e
/-- a fact of each item -/
inductive EachP (F : V → Prop) : List V → Prop
  | nil : EachP F []
  | cons {x : V} {r : List V} (h : F x) (t : EachP F r) : EachP F (x :: r)
theorem EachP.get {F : V → Prop} {v : V} : ∀ {xs : List V} {i : Nat}, EachP F xs → xs[i]? = some v → F v
  | _, i, .nil, h => by simp at h
  | _, 0, .cons h _, e => by
    have e' := Option.some.inj e
    rw [← e']
    exact h
  | _, i + 1, .cons _ t, e => EachP.get (i := i) t (by simpa using e)
theorem EachP.mem {F : V → Prop} {xs : List V} (h : EachP F xs) : ∀ x ∈ xs, F x := fun x m => by
  obtain ⟨i, hi⟩ := List.mem_iff_getElem?.mp m
  exact h.get hi
theorem EachP.imp {F F' : V → Prop} (f : ∀ v, F v → F' v) : ∀ {xs : List V}, EachP F xs → EachP F' xs
  | _, .nil => .nil
  | _, .cons h t => .cons (f _ h) (EachP.imp f t)
theorem lt_ok {n m : Nat} (h : Nat.ble (n + 1) m = true) : n < m := Nat.le_of_ble_eq_true h
theorem le_ok {n m : Nat} (h : Nat.ble n m = true) : n ≤ m := Nat.le_of_ble_eq_true h
/-- an int within bounds -/
def IntIn (lo hi : Int) (v : V) : Prop := ∃ i, v = .int i ∧ lo ≤ i ∧ i ≤ hi
theorem log_ok {i : Int} (h : i.natAbs < 2 ^ 80) : i.natAbs.log2 < 1920 := by
  by_cases e : i.natAbs = 0
  · rw [e]
    decide
  · exact Nat.lt_of_lt_of_le ((Nat.log2_lt e).mpr h) (by decide)
theorem r_disp {trs : List (TE × TE)} (h : ∀ p, H p = none → tPairs trs σ (upd H p (.dK [])) fun ps G => G p = some (.dK []) ∧ ∃ kvs : List (Key × V), ps = kvs.map (fun kv => (kV kv.1, kv.2)) ∧ kvs.length ≤ 15 ∧ Q (.ref p) (upd G p (.dK (mergeK [] kvs)))) : tDisp trs σ H Q := h
theorem r_pair {r : List (TE × TE)} {R : List (V × V) → Hp → Prop} (h : tk σ H fun x G => tv σ G fun y G2 => tPairs r σ G2 fun ps G3 => R ((x, y) :: ps) G3) : tPairs ((tk, tv) :: r) σ H R := h
theorem r_pair0 {R : List (V × V) → Hp → Prop} (h : R [] H) : tPairs [] σ H R := h
theorem r_chain {r r' : R2} {ta tb tc : TE} (h : ta σ H fun x G => tb σ G fun y G2 => r x y G2 fun z G3 => ∃ k, z = .bl k ∧ (if k = true then tc σ G3 fun w G4 => r' y w G4 Q else Q (.bl false) G3)) : tChain r r' ta tb tc σ H Q := h
theorem r_U {g : Int → V} {i : Int} (h : Q (g i) H) : rU g (.int i) H Q := ⟨i, rfl, h⟩
theorem r_gtup {n : Nat} {t : TGs} {R : L2.St → Hp → Prop} (h : ∃ a xs, v = .ref a ∧ SqT K H a xs ∧ xs.length = n ∧ t xs σ H R) : gTup K n t v σ H R := h
end
end Rp
namespace Rp
open PySem PySem.Spec PyProof.Rows L2
section
variable {K : PySem.W.Frag} {q c p : Addr} {ns : List Int} {lap : Nat} {H0 H G : Hp} {o : HO} {Q : VK} {σ : L2.St} {x y v : V} {b : Bool} {F : V → Prop}
theorem eq_nil {nums : List Int} (hc : H c = some (.lst (nums.map V.int))) (hp : H p = some (.lst [])) (h : Q (.bl nums.isEmpty) H) : rEqD K (.ref c) (.ref p) H Q :=
  ⟨_, _, .lst (SqL.of hc) (dp_ints nums), .lst (SqL.of hp) .nil, shaped_ints nums, shaped_ints [], by rw [eqv_nil_ints]; exact h⟩
theorem bools_len (a b : Bool) : (PyData.list [.bool a, .bool b]).shown.length ≤ sizeLine := by
  cases a <;> cases b <;> exact Nat.le_trans (m := 100) (by decide +kernel) (by decide)
/-- repr of two truths -/
theorem r_bools {a b : Bool} (e : H p = some (.lst [.bl a, .bl b])) (h : Q (.str (PyData.list [.bool a, .bool b]).shown) H) : rRepr K [.ref p] H Q :=
  ⟨p, _, rfl, .lst (SqL.of e) (.cons (.bl a) (.cons (.bl b) .nil)), by simp [PyData.showable, PyData.showableAll], by simp [PyData.depth, PyData.depthAll], bools_len a b, h⟩
theorem r_ne_same {s : Str} (h : Q (.bl false) H) : rNe (.str s) (.str s) H Q := ⟨rfl, by rw [decide_eq_true rfl]; exact h⟩
theorem r_eq_same {s : Str} (h : Q (.bl true) H) : rEq (.str s) (.str s) H Q := ⟨rfl, by rw [decide_eq_true rfl]; exact h⟩
theorem inB_no {lo hi : Option Int} (h : isI v = false) : inB v lo hi = false := by cases v <;> first | rfl | cases h
theorem clk_no (h : isI v = false) : clk v = false := by cases v <;> first | rfl | cases h
/-- prime, as the law reckons it -/
def prB (n : Int) : Bool := (((List.range (n - 2).toNat).filter fun j : Nat => decide (n.fmod (2 + (j : Int)) = 0)).map fun j : Nat => 2 + (j : Int)).isEmpty
theorem clk_pr {n : Int} (h0 : 3 ≤ n) (h1 : n ≤ 31) : clk (.int n) = prB n := by
  have key : ∀ k : _root_.Fin 29, clk (.int (3 + (k.val : Int))) = prB (3 + (k.val : Int)) := by decide +kernel
  have e : n = 3 + (((n - 3).toNat : Nat) : Int) := by omega
  have z := key ⟨(n - 3).toNat, by omega⟩
  rw [e]
  exact z
theorem clk_out {n : Int} (h : n < 3 ∨ 31 < n) : clk (.int n) = false := by
  simp only [clk, clocks, List.contains_cons, List.contains_nil, Bool.or_false, Bool.or_eq_false_iff, beq_eq_false_iff_ne]
  omega
theorem EachP.append {xs ys : List V} (h : EachP F xs) (k : EachP F ys) : EachP F (xs ++ ys) := by
  induction h with
  | nil => exact k
  | cons a _ ih => exact .cons a ih
theorem EachP.of {xs : List V} (h : ∀ x ∈ xs, F x) : EachP F xs := by
  induction xs with
  | nil => exact .nil
  | cons a r ih => exact .cons (h a (List.mem_cons_self ..)) (ih fun x m => h x (List.mem_cons_of_mem _ m))
theorem EachP.sub {xs ys : List V} (h : EachP F ys) (s : ∀ x ∈ xs, x ∈ ys) : EachP F xs := .of fun x m => h.mem x (s x m)
theorem cut_lo {xs : List V} {n : Nat} (h : n ≤ xs.length) : cutV xs none (some (n : Int)) = xs.take n := by
  unfold cutV
  rw [HT.sIx_nat, HT.sIx_none, Nat.sub_zero, Nat.min_eq_left h, List.drop_zero]
theorem cut_hi {xs : List V} {n : Nat} (h : n ≤ xs.length) : cutV xs (some (n : Int)) none = xs.drop n := by
  unfold cutV
  rw [HT.sIx_nat, HT.sIx_none, Nat.min_eq_left h]
  exact List.take_of_length_le (by rw [List.length_drop]; omega)
theorem row_yes {xs : List V} {clock : Int} (h : EachP (IntIn 0 (clock - 1)) xs) : rowB (some xs) clock (xs.length : Int) = true := by
  simp only [rowB, decide_true, Bool.true_and, List.all_eq_true]
  intro x m
  obtain ⟨i, rfl, h0, h1⟩ := h.mem x m
  simp [inB, h0, h1]
theorem row_no {xs : List V} {clock size : Int} (m : x ∈ xs) (h : inB x (some 0) (some (clock - 1)) = false) : rowB (some xs) clock size = false := by
  simp only [rowB, Bool.and_eq_false_iff, List.all_eq_false]
  exact .inr ⟨x, m, by rw [h]; exact Bool.false_ne_true⟩
theorem row_size {xs : List V} {clock size : Int} (h : (xs.length : Int) ≠ size) : rowB (some xs) clock size = false := by simp [rowB, h]
theorem Dr.same (d : Dr q c ns lap H) (s : Same H G) : Dr q c ns lap G := by
  obtain ⟨ne, ⟨rest, h⟩, hc, hl⟩ := d
  exact ⟨ne, ⟨rest, s _ _ h⟩, s _ _ hc, hl⟩
theorem same_but (s : Same H G) : But q H G := fun b u _ e => s b u e
theorem IntIn.any {lo hi : Int} (h : IntIn lo hi v) : Any q H v := by
  obtain ⟨i, rfl, _⟩ := h
  exact .num i
end
end Rp
namespace Rp
open PySem PySem.Spec PyProof.Rows L2
/-- (value, many, due) with due what is_row tells of value -/
def RowItem (q : Addr) (clock : Int) (H : Hp) (v : V) : Prop := ∃ (t a : Addr) (m : Int) (d : Bool) (xs : List V), v = .ref t ∧ t ≠ q ∧ H t = some (.tup [.ref a, .int m, .bl d]) ∧ RowV q H (.ref a) (some xs) ∧ xs.length < 1000 ∧ rowB (some xs) clock m = d
section
variable {q : Addr} {clock : Int} {H H' : Hp} {v : V}
theorem RowItem.but (h : RowItem q clock H v) (b : But q H H') : RowItem q clock H' v := by
  obtain ⟨t, a, m, d, xs, e, n, ht, hr, hl, hd⟩ := h
  exact ⟨t, a, m, d, xs, e, n, b _ _ n ht, hr.but b, hl, hd⟩
theorem any_all {xs : List V} (h : EachP (Any q H) xs) : ∀ x ∈ xs, Any q H x := h.mem
theorem rep_one {n : Nat} {x : V} : (List.replicate n [x]).flatten = List.replicate n x := by
  induction n with
  | zero => rfl
  | succ n ih => rw [List.replicate_succ, List.flatten_cons, ih, List.replicate_succ]; rfl
theorem all_rep {F : V → Prop} {n : Nat} {x : V} (h : F x) : EachP F (List.replicate n x) := .of fun y m => by
  rw [(List.mem_replicate.mp m).2]
  exact h
theorem r_catA {K : PySem.W.Frag} {a b : Addr} {xs ys : List V} {Q : VK} (ha : SqT K H a xs) (hb : H b = some (.tup ys)) (hz : xs.length + ys.length ≤ sizeLine) (ny : ys ≠ [])
    (h : ∀ p G, G p = some (.tup (xs ++ ys)) → (G = H ∧ p = b ∨ H p = none ∧ G = upd H p (.tup (xs ++ ys))) → Q (.ref p) G) : rCatA K (.ref a) (.ref b) H Q := by
  refine ⟨a, b, xs, ys, rfl, rfl, ha, SqT.of hb, hz, fun e => ?_, fun _ e => absurd e ny, fun _ _ p hp => h p _ upd_same (.inr ⟨hp, rfl⟩)⟩
  subst e
  exact h b H hb (.inl ⟨rfl, rfl⟩)
theorem alloc_or {c p b : Addr} {ns : List Int} {lap : Nat} {H0 G : Hp} {o : HO} (z : G = H ∧ p = b ∨ H p = none ∧ G = upd H p o) (D : Dr q c ns lap H) (B : But q H0 H) (nb : b ≠ q) : Dr q c ns lap G ∧ But q H0 G ∧ But q H G ∧ p ≠ q := by
  rcases z with ⟨rfl, rfl⟩ | ⟨hp, rfl⟩
  · exact ⟨D, B, But.refl _ _, nb⟩
  · obtain ⟨a1, a2, a3, a4, _⟩ := alloc rfl D B hp
    exact ⟨a1, a2, a3, a4⟩
end
end Rp
namespace Rp
open PySem PySem.Spec PyProof.Rows L2
section
variable {K : PySem.W.Frag} {c p : Addr} {H : Hp} {Q : VK}
/-- two int lists that are the same -/
theorem eq_nums {nums : List Int} (hc : H c = some (.lst (nums.map V.int))) (hp : H p = some (.lst (nums.map V.int))) (h : Q (.bl true) H) : rEqD K (.ref c) (.ref p) H Q :=
  ⟨_, _, .lst (SqL.of hc) (dp_ints nums), .lst (SqL.of hp) (dp_ints nums), shaped_ints nums, shaped_ints nums, by
    rw [SeqAt.eqv_refl _ (by rw [PyData.canLay0]; exact canLay_ints nums)]
    exact h⟩
end
/-- the law: True, whatever the script -/
def spLaw (K : PySem.W.Frag) : Sp := fun vs H Q _ => ∃ (a : Addr) (ns : List Int), vs = [.ref a] ∧ SqL K H a (ns.map V.int) ∧ ∀ H', Q (.bl true) H'
end Rp
namespace Rp
open PySem PySem.Spec PyProof.Rows L2
/-! ### data off some places -/
/-- the heap without what stands at S -/
def hid (S : List Addr) (H : Hp) : Hp := fun b => if b ∈ S then none else H b
/-- all but what stands at S is as it was -/
def Keep (S : List Addr) (H H' : Hp) : Prop := ∀ b o, b ∉ S → H b = some o → H' b = some o
section
variable {K : PySem.W.Frag} {S S' : List Addr} {H H' H2 : Hp} {q p b : Addr} {o : HO} {v : V} {d : PyData}
theorem hid_in (h : b ∈ S) : hid S H b = none := by unfold hid; rw [if_pos h]
theorem hid_out (h : b ∉ S) : hid S H b = H b := by unfold hid; rw [if_neg h]
theorem hid_some (h : hid S H b = some o) : b ∉ S ∧ H b = some o := by
  by_cases m : b ∈ S
  · rw [hid_in m] at h
    cases h
  · rw [hid_out m] at h
    exact ⟨m, h⟩
theorem Keep.refl (S : List Addr) (H : Hp) : Keep S H H := fun _ _ _ h => h
theorem Keep.trans (a : Keep S H H') (c : Keep S H' H2) : Keep S H H2 := fun b o n h => c b o n (a b o n h)
theorem Keep.of (s : Same H H') : Keep S H H' := fun b o _ h => s b o h
theorem Keep.but (B : But q H H') : Keep [q] H H' := fun b o n h => B b o (fun e => n (by simp [e])) h
theorem Keep.toBut (k : Keep [q] H H') : But q H H' := fun b o n h => k b o (by simp [n]) h
theorem Keep.sub (k : Keep S H H') (s : ∀ b ∈ S, b ∈ S') : Keep S' H H' := fun b o n h => k b o (fun m => n (s b m)) h
theorem Keep.neu (k : Keep S H H') (h : H' p = none) : Keep S H (upd H' p o) := fun b u n e => by
  have e' := k b u n e
  rw [upd_ne (ne_of_none e' h)]
  exact e'
theorem Keep.put (k : Keep S H H') (h : H p = none) : Keep S H (upd H' p o) := fun b u n e => by
  rw [upd_ne (ne_of_none e h)]
  exact k b u n e
theorem Keep.hid (k : Keep S H H') : Same (hid S H) (hid S H') := fun b u e => by
  obtain ⟨n, e'⟩ := hid_some e
  rw [hid_out n]
  exact k b u n e'
theorem hid_up : Same (hid S H) H := fun b u e => (hid_some e).2
theorem hid_less (s : ∀ b ∈ S, b ∈ S') : Same (hid S' H) (hid S H) := fun b u e => by
  obtain ⟨n, e'⟩ := hid_some e
  rw [hid_out fun m => n (s b m)]
  exact e'
theorem hid_nil : hid [] H = H := by
  funext b
  exact hid_out (by simp)
theorem hid_upd (h : p ∈ S) : hid S (upd H p o) = hid S H := by
  funext b
  by_cases m : b ∈ S
  · rw [hid_in m, hid_in m]
  · rw [hid_out m, hid_out m, upd_ne fun e => m (by rw [e]; exact h)]
theorem Same.tupS {xs : List V} (s : Same H H') (h : SqT K H p xs) : SqT K H' p xs := by
  rcases h with (h | ⟨o, h⟩) | h
  · exact .inl (.inl (s _ _ h))
  · exact .inl (.inr ⟨o, s _ _ h⟩)
  · exact .inr h
mutual
theorem dd_same (s : Same H H') : ∀ {v : V} {d : PyData}, Dd K H v d → Dd K H' v d
  | _, _, .non => .non
  | _, _, .bl b => .bl b
  | _, _, .num i => .num i
  | _, _, .str x => .str x
  | _, _, .lst e h => .lst (s.seq e) (dd_sameAll s h)
  | _, _, .tup e h => .tup (Same.tupS s e) (dd_sameAll s h)
  | _, _, .dic e h => .dic (s _ _ e) (dd_sameKv s h)
theorem dd_sameAll (s : Same H H') : ∀ {vs : List V} {ds : List PyData}, DdAll K H vs ds → DdAll K H' vs ds
  | _, _, .nil => .nil
  | _, _, .cons h t => .cons (dd_same s h) (dd_sameAll s t)
theorem dd_sameKv (s : Same H H') : ∀ {kvs : List (Key × V)} {ds : List (PyData × PyData)}, DdKv K H kvs ds → DdKv K H' kvs ds
  | _, _, .nil => .nil
  | _, _, .cons h t => .cons (dd_same s h) (dd_sameKv s t)
end
theorem DdAll.append {xs ys : List V} {ds es : List PyData} (h : DdAll K H xs ds) (k : DdAll K H ys es) : DdAll K H (xs ++ ys) (ds ++ es) := by
  match xs, ds, h with
  | [], [], .nil => exact k
  | _ :: _, _ :: _, .cons a t => exact .cons a (DdAll.append t k)
theorem DdAll.len : ∀ {xs : List V} {ds : List PyData}, DdAll K H xs ds → xs.length = ds.length
  | _, _, .nil => rfl
  | _, _, .cons _ t => congrArg Nat.succ (DdAll.len t)
theorem DdAll.at : ∀ {xs : List V} {ds : List PyData} {i : Nat} {x : V}, DdAll K H xs ds → xs[i]? = some x → ∃ d, ds[i]? = some d ∧ Dd K H x d
  | _, _, i, _, .nil, e => by simp at e
  | _, _, 0, x, .cons (d := d) h _, e => by
    have e' := Option.some.inj e
    rw [← e']
    exact ⟨d, rfl, h⟩
  | _, _, i + 1, x, .cons _ t, e => DdAll.at (i := i) t (by simpa using e)
end
/-! ### a tuple for each list, all the way in -/
mutual
def fixD : PyData → PyData
  | .list xs => .tuple (fixAll xs)
  | .tuple xs => .tuple (fixAll xs)
  | d => d
def fixAll : List PyData → List PyData
  | [] => []
  | x :: r => fixD x :: fixAll r
end
theorem fixAll_map : ∀ xs : List PyData, fixAll xs = xs.map fixD
  | [] => by simp [fixAll]
  | x :: r => by simp [fixAll, fixAll_map r]
mutual
theorem fix_fix : ∀ d : PyData, fixD (fixD d) = fixD d
  | .list xs => by simp only [fixD]; rw [fix_fixAll xs]
  | .tuple xs => by simp only [fixD]; rw [fix_fixAll xs]
  | .none => by simp only [fixD]
  | .bool _ => by simp only [fixD]
  | .int _ => by simp only [fixD]
  | .str _ => by simp only [fixD]
  | .dict _ => by simp only [fixD]
theorem fix_fixAll : ∀ xs : List PyData, fixAll (fixAll xs) = fixAll xs
  | [] => by simp only [fixAll]
  | x :: r => by simp only [fixAll]; rw [fix_fix x, fix_fixAll r]
end
/-! ### how long it is shown -/
mutual
def cost : PyData → Nat
  | .list xs => 3 + costAll xs
  | .tuple xs => 3 + costAll xs
  | d => d.shown.length
def costAll : List PyData → Nat
  | [] => 0
  | x :: r => cost x + 2 + costAll r
end
mutual
theorem cost_fix : ∀ d : PyData, cost (fixD d) = cost d
  | .list xs => by simp only [fixD, cost]; rw [cost_fixAll xs]
  | .tuple xs => by simp only [fixD, cost]; rw [cost_fixAll xs]
  | .none => by simp only [fixD]
  | .bool _ => by simp only [fixD]
  | .int _ => by simp only [fixD]
  | .str _ => by simp only [fixD]
  | .dict _ => by simp only [fixD]
theorem cost_fixAll : ∀ xs : List PyData, costAll (fixAll xs) = costAll xs
  | [] => by simp only [fixAll]
  | x :: r => by simp only [fixAll, costAll]; rw [cost_fix x, cost_fixAll r]
end
mutual
theorem shown_cost : ∀ d : PyData, d.shown.length ≤ cost d
  | .list xs => by
    simp only [PyData.shown, cost]
    have h1 := listText_len_le (PyData.shownAll xs)
    have h2 := shown_costAll xs
    rw [PyData.shownAll_length] at h1
    omega
  | .tuple xs => by
    simp only [PyData.shown, cost]
    have h1 := tupleText_len_le (PyData.shownAll xs)
    have h2 := shown_costAll xs
    rw [PyData.shownAll_length] at h1
    omega
  | .none => by simp only [cost]; exact Nat.le_refl _
  | .bool _ => by simp only [cost]; exact Nat.le_refl _
  | .int _ => by simp only [cost]; exact Nat.le_refl _
  | .str _ => by simp only [cost]; exact Nat.le_refl _
  | .dict _ => by simp only [cost]; exact Nat.le_refl _
theorem shown_costAll : ∀ xs : List PyData, ((PyData.shownAll xs).map (·.length)).sum + 2 * xs.length ≤ costAll xs
  | [] => by simp [PyData.shownAll, costAll]
  | x :: r => by
    have h1 := shown_cost x
    have h2 := shown_costAll r
    simp only [PyData.shownAll, costAll, List.map_cons, List.sum_cons, List.length_cons]
    omega
end
mutual
theorem fix_showable : ∀ d : PyData, (fixD d).showable = d.showable
  | .list xs => by simp only [fixD, PyData.showable]; rw [fix_showableAll xs]
  | .tuple xs => by simp only [fixD, PyData.showable]; rw [fix_showableAll xs]
  | .none => by simp only [fixD]
  | .bool _ => by simp only [fixD]
  | .int _ => by simp only [fixD]
  | .str _ => by simp only [fixD]
  | .dict _ => by simp only [fixD]
theorem fix_showableAll : ∀ xs : List PyData, PyData.showableAll (fixAll xs) = PyData.showableAll xs
  | [] => by simp only [fixAll]
  | x :: r => by simp only [fixAll, PyData.showableAll]; rw [fix_showable x, fix_showableAll r]
end
mutual
theorem fix_depth : ∀ d : PyData, (fixD d).depth = d.depth
  | .list xs => by simp only [fixD, PyData.depth]; rw [fix_depthAll xs]
  | .tuple xs => by simp only [fixD, PyData.depth]; rw [fix_depthAll xs]
  | .none => by simp only [fixD]
  | .bool _ => by simp only [fixD]
  | .int _ => by simp only [fixD]
  | .str _ => by simp only [fixD]
  | .dict _ => by simp only [fixD]
theorem fix_depthAll : ∀ xs : List PyData, PyData.depthAll (fixAll xs) = PyData.depthAll xs
  | [] => by simp only [fixAll]
  | x :: r => by simp only [fixAll, PyData.depthAll]; rw [fix_depth x, fix_depthAll r]
end
/-- fit to be shown: not deep, not long -/
structure Fit (n c : Nat) (d : PyData) : Prop where
  sh : d.showable = true
  dp : d.depth ≤ n
  co : cost d ≤ c
theorem Fit.fix {n c : Nat} {d : PyData} (f : Fit n c d) : Fit n c (fixD d) := ⟨by rw [fix_showable]; exact f.sh, by rw [fix_depth]; exact f.dp, by rw [cost_fix]; exact f.co⟩
theorem Fit.le {n c m e : Nat} {d : PyData} (f : Fit n c d) (h : n ≤ m) (k : c ≤ e) : Fit m e d := ⟨f.sh, Nat.le_trans f.dp h, Nat.le_trans f.co k⟩
inductive FitAll (n : Nat) : Nat → List PyData → Prop
  | nil : FitAll n 0 []
  | cons {c e : Nat} {d : PyData} {ds : List PyData} (h : Fit n c d) (t : FitAll n e ds) : FitAll n (c + 2 + e) (d :: ds)
theorem FitAll.facts {n c : Nat} {ds : List PyData} (h : FitAll n c ds) : PyData.showableAll ds = true ∧ PyData.depthAll ds ≤ n ∧ costAll ds ≤ c := by
  induction h with
  | nil => exact ⟨by simp only [PyData.showableAll], by simp only [PyData.depthAll]; exact Nat.zero_le _, by simp only [costAll]; exact Nat.le_refl _⟩
  | cons h t ih =>
    obtain ⟨a, b, e⟩ := ih
    refine ⟨by simp only [PyData.showableAll, h.sh, a]; rfl, ?_, ?_⟩
    · simp only [PyData.depthAll]
      exact Nat.max_le.mpr ⟨h.dp, b⟩
    · simp only [costAll]
      have := h.co
      omega
theorem FitAll.list {n c : Nat} {ds : List PyData} (h : FitAll n c ds) : Fit (n + 1) (3 + c) (.list ds) := by
  obtain ⟨a, b, e⟩ := h.facts
  exact ⟨by simp only [PyData.showable]; exact a, by simp only [PyData.depth]; omega, by simp only [cost]; omega⟩
theorem FitAll.tuple {n c : Nat} {ds : List PyData} (h : FitAll n c ds) : Fit (n + 1) (3 + c) (.tuple ds) := by
  obtain ⟨a, b, e⟩ := h.facts
  exact ⟨by simp only [PyData.showable]; exact a, by simp only [PyData.depth]; omega, by simp only [cost]; omega⟩
theorem costAll_len : ∀ xs : List PyData, 2 * xs.length ≤ costAll xs
  | [] => by simp [costAll]
  | x :: r => by
    have := costAll_len r
    simp only [costAll, List.length_cons]
    omega
theorem costAll_mem : ∀ {xs : List PyData} {d : PyData}, d ∈ xs → cost d ≤ costAll xs
  | [], d, m => by cases m
  | x :: r, d, m => by
    simp only [costAll]
    rcases List.mem_cons.mp m with e | m
    · rw [e]
      omega
    · have := costAll_mem m
      omega
theorem depthAll_mem : ∀ {xs : List PyData} {d : PyData}, d ∈ xs → d.depth ≤ PyData.depthAll xs
  | [], d, m => by cases m
  | x :: r, d, m => by
    simp only [PyData.depthAll]
    rcases List.mem_cons.mp m with e | m
    · rw [e]
      exact Nat.le_max_left _ _
    · exact Nat.le_trans (depthAll_mem m) (Nat.le_max_right _ _)
theorem showableAll_mem : ∀ {xs : List PyData} {d : PyData}, PyData.showableAll xs = true → d ∈ xs → d.showable = true
  | [], d, _, m => by cases m
  | x :: r, d, h, m => by
    simp only [PyData.showableAll, Bool.and_eq_true] at h
    rcases List.mem_cons.mp m with e | m
    · rw [e]
      exact h.1
    · exact showableAll_mem h.2 m
/-- a list's or a tuple's item -/
theorem Fit.item {n c : Nat} {xs : List PyData} {d : PyData} (f : Fit (n + 1) c (.list xs) ∨ Fit (n + 1) c (.tuple xs)) (m : d ∈ xs) : Fit n c d := by
  rcases f with f | f
  · obtain ⟨a, b, e⟩ := f
    simp only [PyData.showable, PyData.depth, cost] at a b e
    have h1 := depthAll_mem m
    have h2 := costAll_mem m
    exact ⟨showableAll_mem a m, by omega, by omega⟩
  · obtain ⟨a, b, e⟩ := f
    simp only [PyData.showable, PyData.depth, cost] at a b e
    have h1 := depthAll_mem m
    have h2 := costAll_mem m
    exact ⟨showableAll_mem a m, by omega, by omega⟩
/-! ### repr of any data -/
/-- repr of a value that is data: its text -/
def rReprA (K : PySem.W.Frag) : List V → Hp → VK → Prop := fun xs H Q => ∃ (v : V) (d : PyData), xs = [v] ∧ Dd K H v d ∧ Fit 64 15000000 d ∧ Q (.str d.shown) H
section
variable {X : Cx}
theorem call_reprA {k : Nat} (hr : Room k X.A) (g : X.A.guards = some []) (M : HasMods X.base) : CallR X (.builtin "repr") (rReprA X.K) := by
  intro pins s σ H xs us Q I r h
  obtain ⟨v, d, rfl, dd, ⟨hs, hdp, hco⟩, q⟩ := h
  have hsz : d.shown.length ≤ sizeLine := Nat.le_trans (shown_cost d) (Nat.le_trans hco (by decide))
  cases dd with
  | non =>
    obtain ⟨u, rfl, r1⟩ := vals1 r
    cases (show u = Value.none from r1)
    exact PySem.P.repr_of_none ⟨.str _, H, I.tok _, ⟨_, rfl⟩, by rw [PyData.shown_none] at q; exact q⟩
  | bl b =>
    obtain ⟨u, rfl, r1⟩ := vals1 r
    cases (show u = Value.bool b from r1)
    refine PySem.P.repr_of_bool ⟨.str _, H, I.tok _, ⟨_, rfl⟩, ?_⟩
    rw [PyData.shown_bool] at q
    cases b <;> exact q
  | num i =>
    obtain ⟨u, rfl, t, rfl⟩ := vals1 r
    refine PySem.P.repr_of_int (by simpa [PyData.showable] using hs) ⟨.str _, H, I.tok _, ⟨_, rfl⟩, ?_⟩
    rw [PyData.shown_int] at q
    exact q
  | str x =>
    obtain ⟨u, rfl, t, rfl⟩ := vals1 r
    rw [PyData.shown_str] at hsz q
    exact PySem.P.repr_of_str ⟨.str _, H, I.tok _, ⟨_, rfl⟩, q⟩ hsz
  | lst e h => exact call_reprD hr g M pins s σ H _ us Q I r ⟨_, _, rfl, .lst e h, hs, hdp, hsz, q⟩
  | tup e h => exact call_reprD hr g M pins s σ H _ us Q I r ⟨_, _, rfl, .tup e h, hs, hdp, hsz, q⟩
  | dic e h => exact call_reprD hr g M pins s σ H _ us Q I r ⟨_, _, rfl, .dic e h, hs, hdp, hsz, q⟩
end
theorem r_reprA {K : PySem.W.Frag} {H : Hp} {Q : VK} {v : V} {d : PyData} (e : Dd K H v d) (f : Fit 64 15000000 d) (h : Q (.str d.shown) H) : rReprA K [v] H Q := ⟨v, d, rfl, e, f, h⟩
/-- what isinstance tells of data -/
def seqD : PyData → Bool
  | .list _ => true
  | .tuple _ => true
  | _ => false
theorem dd_seq {K : PySem.W.Frag} {H : Hp} {v : V} {d : PyData} (h : Dd K H v d) : ∃ t : Value, TyX K H v t ∧ PySem.W.kitAny K t [.type "list", .type "tuple"] = some (seqD d) := by
  cases h with
  | non => exact ⟨_, .base .non, kit2 (x := false) (y := false) (by decide +kernel) (by decide +kernel)⟩
  | bl b => exact ⟨_, .base (.bl b), kit2 (x := false) (y := false) (by decide +kernel) (by decide +kernel)⟩
  | num i => exact ⟨_, .base (.int i), kit2 (x := false) (y := false) (by decide +kernel) (by decide +kernel)⟩
  | str x => exact ⟨_, .base (.str x), kit2 (x := false) (y := false) (by decide +kernel) (by decide +kernel)⟩
  | lst e _ =>
    have k := kit2 (K := K) (t := "list") (a := "list") (b := "tuple") (x := true) (y := false) (by decide +kernel) (by decide +kernel)
    rcases e with (e | ⟨o, e⟩) | ⟨o, _, _, e, c, _⟩
    · exact ⟨_, .base (.lst e), k⟩
    · exact ⟨_, .base (.frz e), k⟩
    · exact ⟨_, .kList e c, k⟩
  | tup e _ =>
    have k := kit2 (K := K) (t := "tuple") (a := "list") (b := "tuple") (x := false) (y := true) (by decide +kernel) (by decide +kernel)
    rcases e with (e | ⟨o, e⟩) | ⟨o, _, _, e, c, _⟩
    · exact ⟨_, .base (.tup e), k⟩
    · exact ⟨_, .fTuple e, k⟩
    · exact ⟨_, .kTuple e c, k⟩
  | dic e _ => exact ⟨_, .base (.dK e), kit2 (x := false) (y := false) (by decide +kernel) (by decide +kernel)⟩
def isLst : PyData → Bool
  | .list _ => true
  | _ => false
def isTup : PyData → Bool
  | .tuple _ => true
  | _ => false
theorem dd_list {K : PySem.W.Frag} {H : Hp} {v : V} {d : PyData} (h : Dd K H v d) : ∃ t : Value, TyX K H v t ∧ PySem.W.kitOne K t (.type "list") = some (isLst d) ∧ PySem.W.kitOne K t (.type "tuple") = some (isTup d) := by
  cases h with
  | non => exact ⟨_, .base .non, kit_ty (r := false) (by decide +kernel), kit_ty (r := false) (by decide +kernel)⟩
  | bl b => exact ⟨_, .base (.bl b), kit_ty (r := false) (by decide +kernel), kit_ty (r := false) (by decide +kernel)⟩
  | num i => exact ⟨_, .base (.int i), kit_ty (r := false) (by decide +kernel), kit_ty (r := false) (by decide +kernel)⟩
  | str x => exact ⟨_, .base (.str x), kit_ty (r := false) (by decide +kernel), kit_ty (r := false) (by decide +kernel)⟩
  | lst e _ =>
    have k1 := kit_ty (K := K) (a := "list") (b := "list") (r := true) (by decide +kernel)
    have k2 := kit_ty (K := K) (a := "list") (b := "tuple") (r := false) (by decide +kernel)
    rcases e with (e | ⟨o, e⟩) | ⟨o, _, _, e, c, _⟩
    · exact ⟨_, .base (.lst e), k1, k2⟩
    · exact ⟨_, .base (.frz e), k1, k2⟩
    · exact ⟨_, .kList e c, k1, k2⟩
  | tup e _ =>
    have k1 := kit_ty (K := K) (a := "tuple") (b := "list") (r := false) (by decide +kernel)
    have k2 := kit_ty (K := K) (a := "tuple") (b := "tuple") (r := true) (by decide +kernel)
    rcases e with (e | ⟨o, e⟩) | ⟨o, _, _, e, c, _⟩
    · exact ⟨_, .base (.tup e), k1, k2⟩
    · exact ⟨_, .fTuple e, k1, k2⟩
    · exact ⟨_, .kTuple e c, k1, k2⟩
  | dic e _ => exact ⟨_, .base (.dK e), kit_ty (r := false) (by decide +kernel), kit_ty (r := false) (by decide +kernel)⟩
end Rp
namespace Rp
open PySem PySem.Spec PyProof.Rows L2
/-- data, with tuples for lists; S: what may change meanwhile -/
def spFix (K : PySem.W.Frag) (n : Nat) : Sp := fun vs H Q _ => ∃ (S : List Addr) (v : V) (d : PyData), vs = [v] ∧ (∀ b ∈ S, H b ≠ none) ∧ Dd K (hid S H) v d ∧ d.depth < n ∧ cost d ≤ 15000000 ∧
  ∀ (H' : Hp) (v' : V), Same H H' → Dd K (hid S H') v' (fixD d) → Q v' H'
section
variable {S : List Addr} {H H1 G : Hp} {D p b : Addr} {o : HO}
theorem Keep.own : Keep [D] H (upd H D o) := fun b u n e => by
  rw [upd_ne fun z => n (by simp [z])]
  exact e
theorem Keep.own2 (k : Keep [D] H G) : Keep [D] H (upd G D o) := fun b u n e => by
  rw [upd_ne fun z => n (by simp [z])]
  exact k b u n e
theorem hid_new (hD : H1 D = none) (k : Keep [D] H1 G) : Same (hid S H1) (hid (D :: S) G) := fun b u e => by
  obtain ⟨n, e'⟩ := hid_some e
  have nb : b ≠ D := ne_of_none e' hD
  rw [hid_out (by simp [nb, n])]
  exact k b u (by simp [nb]) e'
theorem live_new {o : HO} (hS : ∀ b ∈ S, H1 b ≠ none) (hD : H1 D = none) (k : Keep [D] H1 G) (e : G D = some o) : ∀ b ∈ D :: S, G b ≠ none := fun b m => by
  rcases List.mem_cons.mp m with z | m
  · rw [z, e]
    exact fun q => nomatch q
  · intro q
    cases z : H1 b with
    | none => exact hS b m z
    | some u =>
      have nb : b ≠ D := ne_of_none z hD
      rw [k b u (by simp [nb]) z] at q
      cases q
theorem live_same (hS : ∀ b ∈ S, H b ≠ none) (s : Same H G) : ∀ b ∈ S, G b ≠ none := fun b m q => by
  cases z : H b with
  | none => exact hS b m z
  | some u =>
    rw [s b u z] at q
    cases q
theorem live_not (hS : ∀ b ∈ S, H b ≠ none) (h : H p = none) : p ∉ S := fun m => hS p m h
theorem fixAll_take {ds : List PyData} {i : Nat} {d : PyData} (h : ds[i]? = some d) : fixAll (ds.take (i + 1)) = fixAll (ds.take i) ++ [fixD d] := by
  rw [fixAll_map, fixAll_map, List.take_succ, h, Option.toList_some, List.map_append]
  rfl
theorem len_cost {ds : List PyData} {c : Nat} (h : costAll ds ≤ c) (hc : c ≤ 15000000) : ds.length < sizeLine := by
  have := costAll_len ds
  exact Nat.lt_of_lt_of_le (m := 8000000) (by omega) (len_ok rfl)
end
end Rp
namespace Rp
open PySem PySem.Spec PyProof.Rows L2
section
variable {K : PySem.W.Frag} {S : List Addr} {H H1 G : Hp} {q p b l : Addr} {o u : HO} {v : V} {d : PyData} {n c : Nat}
theorem notin (hS : ∀ b ∈ S, H b ≠ none) (B : But q H G) (np : p ≠ q) (hp : G p = none) : p ∉ S := fun m => by
  cases z : H p with
  | none => exact hS p m z
  | some o =>
    rw [B p o np z] at hp
    cases hp
theorem dd_but (hq : q ∈ S) (B : But q H G) (h : Dd K (hid S H) v d) : Dd K (hid S G) v d := dd_same ((Keep.but B).sub fun b m => by rw [List.mem_singleton.mp m]; exact hq).hid h
theorem live_but {c0 : Addr} {nums : List Int} {lap : Nat} (hS : ∀ b ∈ S, H b ≠ none) (B : But q H G) (D : Dr q c0 nums lap G) : ∀ b ∈ S, G b ≠ none := fun b m z => by
  by_cases e : b = q
  · obtain ⟨_, ⟨_, h⟩, _⟩ := D
    rw [e, h] at z
    cases z
  · cases y : H b with
    | none => exact hS b m y
    | some o =>
      rw [B b o e y] at z
      cases z
theorem at_put (hG : upd H p o = G) (n : l ≠ p) : G l = H l := by rw [← hG, upd_ne n]
/-- data in a row, fit to be shown -/
def FitA (n c : Nat) (ds : List PyData) : Prop := PyData.showableAll ds = true ∧ PyData.depthAll ds ≤ n ∧ costAll ds ≤ c
theorem FitA.nil : FitA n c [] := ⟨by simp only [PyData.showableAll], by simp only [PyData.depthAll]; exact Nat.zero_le _, by simp only [costAll]; exact Nat.zero_le _⟩
theorem FitA.cons {e : Nat} {ds : List PyData} (h : Fit n c d) (t : FitA n e ds) : FitA n (c + 2 + e) (d :: ds) := by
  obtain ⟨a, b, f⟩ := t
  refine ⟨by simp only [PyData.showableAll, h.sh, a]; rfl, ?_, ?_⟩
  · simp only [PyData.depthAll]
    exact Nat.max_le.mpr ⟨h.dp, b⟩
  · simp only [costAll]
    have := h.co
    omega
theorem FitA.app {e : Nat} : ∀ {ds : List PyData} {m : Nat}, FitA n m ds → Fit n e d → FitA n (m + (e + 2)) (ds ++ [d])
  | [], m, _, f => by
    obtain ⟨a, b, g⟩ := FitA.cons (e := 0) f FitA.nil
    exact ⟨a, b, by show costAll [d] ≤ _; omega⟩
  | x :: r, m, ⟨a, b, g⟩, f => by
    simp only [PyData.showableAll, Bool.and_eq_true] at a
    simp only [PyData.depthAll] at b
    simp only [costAll] at g
    obtain ⟨a', b', g'⟩ := FitA.app (ds := r) (m := m - (cost x + 2)) ⟨a.2, by omega, by omega⟩ f
    refine ⟨?_, ?_, ?_⟩
    · show PyData.showableAll (x :: (r ++ [d])) = true
      simp only [PyData.showableAll, a.1, a']
      rfl
    · show PyData.depthAll (x :: (r ++ [d])) ≤ n
      simp only [PyData.depthAll]
      omega
    · show costAll (x :: (r ++ [d])) ≤ _
      simp only [costAll]
      omega
theorem FitA.le {m e : Nat} {ds : List PyData} (f : FitA n c ds) (h : n ≤ m) (k : c ≤ e) : FitA m e ds := ⟨f.1, Nat.le_trans f.2.1 h, Nat.le_trans f.2.2 k⟩
theorem FitA.list {ds : List PyData} (f : FitA n c ds) : Fit (n + 1) (3 + c) (.list ds) := by
  obtain ⟨a, b, e⟩ := f
  exact ⟨by simp only [PyData.showable]; exact a, by simp only [PyData.depth]; omega, by simp only [cost]; omega⟩
theorem FitA.tuple {ds : List PyData} (f : FitA n c ds) : Fit (n + 1) (3 + c) (.tuple ds) := by
  obtain ⟨a, b, e⟩ := f
  exact ⟨by simp only [PyData.showable]; exact a, by simp only [PyData.depth]; omega, by simp only [cost]; omega⟩
theorem fit_int {i : Int} (h : i.natAbs < 10 ^ 12) : Fit n 13 (.int i) :=
  ⟨by simp only [PyData.showable, decide_eq_true_eq]; exact log_ok (Nat.lt_of_lt_of_le h (by decide)), by simp only [PyData.depth]; exact Nat.zero_le _, by simp only [cost]; exact PyData.shown_int_le h⟩
end
end Rp
namespace Rp
open PySem
theorem leaf_fit {n c : Nat} {d : PyData} (a : d.showable = true) (b : d.depth ≤ n) (e : cost d ≤ c) : Fit n c d := ⟨a, b, e⟩
end Rp
namespace Rp
open PySem PySem.Spec PyProof.Rows L2
section
variable {K : PySem.W.Frag} {H : Hp} {q c p : Addr} {ns : List Int} {lap : Nat} {Q : VK} {xs : List V} {i : Int} {v : V}
theorem live_q (D : Dr q c ns lap H) : ∀ b ∈ [q], H b ≠ none := fun b m z => by
  obtain ⟨_, ⟨_, h⟩, _⟩ := D
  rw [List.mem_singleton.mp m, h] at z
  cases z
theorem r_ixT (hs : SqT K H p xs) (ha : atI xs i = some v) (h : Q v H) : rIxT K (.ref p) (.int i) H Q := ⟨p, xs, i, v, rfl, rfl, hs, ha, h⟩
end
end Rp
namespace Rp
open PySem PySem.Spec PyProof.Rows L2
/-! ### a caught error that outlives its suite -/
/-- the error at a: its class, its own dict -/
def ErO (a : Addr) (cls : Value) (d : Option Addr) : HO := .ext fun h => ∃ (oe : Obj) (vs : Array Value), h.get? a = some oe ∧ Zc cls d oe ∧ oe.data = .fields vs
theorem erO_ok {P : Program} {w : World} {H : Hp} {h : Heap} {a : Addr} {cls : Value} {d : Option Addr} {oe : Obj} {vs : Array Value} (e : h.get? a = some oe) (z : Zc cls d oe) (f : oe.data = .fields vs) : ObjOk P w H h a (ErO a cls d) :=
  ⟨⟨oe, vs, e, z, f⟩, ⟨oe, e⟩, fun _ _ ⟨o, us, e1, z1, f1⟩ st => ⟨o, us, st _ e1, z1, f1⟩⟩
theorem inv_track {X : Cx} {pins : List (Addr × Obj)} {σ : L2.St} {H : Hp} {s : Shared} {a : Addr} {o : HO} (I : Inv X pins σ H s) (n : H a = none) (new : ObjOk X.prog X.w (upd H a o) s.heap a o) (fresh : X.s_0.heap.get? a = none)
    (nL : a ≠ X.env.locals) (nC : ∀ x c, X.env.cells.lookup x = some c → c ≠ a) (np : ∀ p ∈ X.pn ++ pins, p.1 ≠ a) : Inv X pins σ (upd H a o) s := by
  have some_ : ∀ {b u}, H b = some u → b ≠ a := fun e => ne_of_none e n
  have keep_ : ∀ {b u}, H b = some u → upd H a o b = some u := fun e => by rw [upd_ne (some_ e)]; exact e
  refine ⟨I.ok, I.os, I.bare, ⟨I.base.keep, I.base.slot, fun b ob e n0 hx => ?_, I.base.there, fun b xs e => keep_ (I.base.tups b xs e), fun b ob u e => keep_ (I.base.frzs b ob u e), fun b ps e => ?_⟩, I.loc, I.cell, ?_, fun y c e => ?_, fun p hp => ?_, fun b u e => ?_, I.len⟩
  · rw [upd_ne (fun z => by rw [z, fresh] at e; cases e)]
    exact I.base.free b ob e n0 hx
  · obtain ⟨more, z⟩ := I.base.tbls b ps e
    exact ⟨more, keep_ z⟩
  · rw [upd_ne (Ne.symm nL)]
    exact I.free
  · rw [upd_ne (nC y c e)]
    exact I.freeC y c e
  · obtain ⟨h1, h2, h3⟩ := I.pin p hp
    exact ⟨h1, by rw [upd_ne (np p hp)]; exact h2, h3⟩
  · by_cases hb : b = a
    · subst hb
      rw [upd_same] at e
      cases e
      exact new
    · rw [upd_ne hb] at e
      exact (I.hok b u e).stay (fun _ _ _ q => q) (fun _ q => keep_ q) fun _ _ q => keep_ q
/-- what 'except x as n' wishes where the error is held on: as wAs, and behind the suite the error is tracked -/
def wAsT (K : PySem.W.Frag) (c : Value) (i : Nat) (ts : Addr → Value → Option Addr → TS) (Wout : WX) (D : Ends) : WX := fun cls d σ H =>
  ∃ b, PySem.W.exmOne K cls c = some b ∧ (b = true → ∀ a, H a = none → ts a cls d { nx := fun σ' H' => D.nx (σ'.set i none) (upd H' a (ErO a cls d)), rt := D.rt, bk := fun σ' H' => D.bk (σ'.set i none) H', ct := fun σ' H' => D.ct (σ'.set i none) H' } (σ.set i (some (.ref a))) H) ∧
    (b = false → Wout cls d σ H)
/-- a place that nothing of the state before knows -/
structure Unseen (X : Cx) (pins : List (Addr × Obj)) (a : Addr) : Prop where
  old : X.s_0.heap.get? a = none
  loc : a ≠ X.env.locals
  fs : a ∉ X.fs
  cel : ∀ x c, X.env.cells.lookup x = some c → c ≠ a
  pin : ∀ p ∈ X.pn ++ pins, p.1 ≠ a
/-- an error in flight stands where nothing stood -/
theorem unseen {X : Cx} {pins : List (Addr × Obj)} {σ : L2.St} {H : Hp} {s : Shared} {B h : Heap} {a : Addr} {o : Obj} {vs : Array Value} (I : Inv X pins σ H s) (st : X.stack = X.env :: X.outer) (fr : X.env.frame = some X.env.locals) (ex : X.ex = [])
    (sub : ∀ b u, s.heap.get? b = some u → b ∉ frs X.stack → B.get? b = some u) (new : B.get? a = none) (ff : h.FunFrames B (X.env :: X.outer)) (at_ : h.get? a = some o) (dt : o.data = .fields vs) : Unseen X pins a := by
  have off : a ∉ frs (X.env :: X.outer) := by
    intro m
    obtain ⟨_, u, eu, no⟩ := ff.mem m
    cases at_.symm.trans eu
    exact no vs dt
  have none_ : ∀ u, s.heap.get? a = some u → False := by
    intro u e
    have z := sub a u e (st ▸ off)
    cases new.symm.trans z
  constructor
  · cases e : X.s_0.heap.get? a with
    | none => rfl
    | some u =>
      obtain ⟨u', e'⟩ := I.base.there a u e (by rw [ex]; simp)
      exact (none_ u' e').elim
  · rintro rfl
    exact off (List.mem_filterMap.mpr ⟨X.env, .head _, fr⟩)
  · intro m
    obtain ⟨e, me, q⟩ := List.mem_filterMap.mp m
    exact off (List.mem_filterMap.mpr ⟨e, .tail _ me, q⟩)
  · rintro y c e rfl
    obtain ⟨_, u, eu, _⟩ := I.cell y c e
    exact none_ u eu
  · rintro p m rfl
    exact none_ _ (I.pin p m).1
section
variable {X : Cx} {x n : Str} {c : Value} {i : Nat} {body suite : List Stmt} {b₀ : Stmt} {np pos pos' : Pos} {tb : WX → TS} {ts : Addr → Value → Option Addr → TS} {Wout : WX}
/-- the clause's name goes, and the error is tracked from then on -/
theorem hold_on {pins : List (Addr × Obj)} {σ : L2.St} {H : Hp} {s : Shared} {a : Addr} {oe : Obj} {vs : Array Value} {cls : Value} {d : Option Addr} {Q : Unit → Shared → Prop} {Z : Value → Shared → Prop} (ok : X.Ok) (u : Unseen X pins a) (nd : X.N.Nodup) (at_ : X.N[i]? = some n) (lc : X.env.kindOf n = some .local)
    (z : Zc cls d oe) (dt : oe.data = .fields vs) (S : Inv (X.suite a ((a, oe) :: (X.pn ++ pins))) [] σ H s) (k : ∀ t, Inv X pins (σ.set i none) (upd H a (ErO a cls d)) t → Q () t) :
    wpAny (model X.prog X.w) X.A (do bindName X.env n .none; unbindBehindTheSuite X.env n pos) Q Z s := by
  apply gone_ok (X := X.suite a ((a, oe) :: (X.pn ++ pins))) S nd at_ lc
  intro t S'
  have pa := S'.pin (a, oe) (List.mem_append_left _ (.head _))
  exact k t (inv_track (S'.unsuite ok) pa.2.1 (erO_ok pa.1 z dt) u.old u.loc u.cel u.pin)
theorem ps_tryT (st : X.stack = X.env :: X.outer) (fr : X.env.frame = some X.env.locals) (ex : X.ex = []) (nd : X.N.Nodup) (at_ : X.N[i]? = some n) (lc : X.env.kindOf n = some .local) (nm : Names X x c) (tk : Takes X Wout)
    (B : ∀ (W : WX) (pn : List (Addr × Obj)) (xe : Value → Shared → Prop), Takes (X.tr pn xe) W → PassesOwn (model X.prog X.w) X.A X.env xe → PSs (X.tr pn xe) body (tb W))
    (S : ∀ (a : Addr) (oe : Obj) (cls : Value) (d : Option Addr) (pn : List (Addr × Obj)), Zc cls d oe → (∃ vs, oe.data = .fields vs) → PSs (X.suite a ((a, oe) :: pn)) (b₀ :: suite) (ts a cls d)) :
    PS X (.Try body [.ExceptHandler (some (.Name x np)) (some n) (b₀ :: suite) pos'] [] [] pos) (fun D σ H => tb (wAsT X.K c i ts Wout D) D σ H) := by
  constructor
  intro pins s σ H D I q
  have ok := I.ok
  have top : X.A.frames = some (X.env :: X.outer) := ok.frames.trans (congrArg some st)
  have own := B (wAsT X.K c i ts Wout D) (X.pn ++ pins) (fun e s1 => wpAny (model X.prog X.w) X.A (noteFrame e X.env) (fun _ s2 => wpAny (model X.prog X.w) X.A (setFlight e none) (fun _ s3 =>
    wpAny (model X.prog X.w) X.A (handleBy e X.env [.ExceptHandler (some (.Name x np)) (some n) (b₀ :: suite) pos']) (SP X pins D) X.xe s3) X.xe s2) X.xe s1) ?_ PassesOwn.looking
  · apply wpAny_Try_except
    apply wpAny_mono (own.run [] s σ H D (I.toTry _) q)
    · intro fl t z
      rcases fl with _ | _ | _ | v
      · obtain ⟨σ', G, J, r⟩ := z
        exact wpAny_execs_nil ⟨σ', G, J.ofTry ok, r⟩
      · obtain ⟨σ', G, J, r⟩ := z
        exact ⟨σ', G, J.ofTry ok, r⟩
      · obtain ⟨σ', G, J, r⟩ := z
        exact ⟨σ', G, J.ofTry ok, r⟩
      · obtain ⟨v', σ', G, J, r⟩ := z
        exact ⟨v', σ', G, J.ofTry ok, r⟩
    · intro e t z
      exact z
  -- an error comes out of the body
  rintro u t ⟨a, B0, sI, pI, σI, G, cls, d, rfl, JI, sub, up, sky, nG, os, bare, b, eb, yes, no⟩
  have J := JI.ofTry (pins := pins) ok
  rw [st] at sky
  show wpAny (model X.prog X.w) X.A (noteFrame (.ref a) X.env) _ _ _
  apply Sky.land Zc.steady top fr sky
  intro h1 fly1 up1
  obtain ⟨o1, v1, e1, z1, d1⟩ := fly1.there
  have un := unseen J st fr ex sub fly1.2.1 fly1.2.2.1 e1 d1
  have J1 : Inv X pins σI G { t with heap := h1 } := J.landed sub fly1.1 (up.trans up1) os bare
  have T1 := J1.suite e1 d1 nG un.loc un.fs
  refine wpAny_handleBy_cons (codeAny_handlers_test ?_) (fun z => nomatch z)
  -- the clause's class
  have ty : PySem.W.Looks (model X.prog X.w) h1 (typeOf (.ref a)) cls := fun _ _ _ _ k z => wpAny_typeOf_ref (k _ _ e1) (z1.1.symm ▸ z)
  have is_ := PySem.W.exm_one (M := model X.prog X.w) J1.kIn ty eb
  have named : ∀ {Q E : Value → Shared → Prop}, Q c { t with heap := h1 } → wpAny (model X.prog X.w) (X.A.mark (some (.ref a))) (eval (.Name x np) X.env) Q E { t with heap := h1 } := by
    intro Q E z
    rcases nm with ⟨g, db, m | ⟨m, v, nn⟩⟩
    · exact ld_glob (X := X.suite a ((a, o1) :: (X.pn ++ pins))) T1 g m z db
    · exact ld_blt (X := X.suite a ((a, o1) :: (X.pn ++ pins))) T1 g m v z nn db
  refine named (is_.here ?_)
  cases b with
  | false =>
    show wpAny _ X.A (handleBy (.ref a) X.env []) _ _ _
    apply wpAny_handleBy_nil
    obtain ⟨_, _, _, o2, v2, T, _, _, e2, _, d2, w2, _⟩ := id fly1
    have away : wpAny (model X.prog X.w) X.A (setFlight (.ref a) X.env.frame) (fun _ s4 => wpAny (model X.prog X.w) X.A (throw (.ref a) : Sem Flow) (SP X pins D) X.xe s4) X.xe { t with heap := h1 } := by
      rw [fr]
      apply HandSPX.setFlight_upZ fly1
      intro h2 sky2 up2
      apply wpAny_throw
      apply tk
      exact ⟨a, B0, sI, pins, σI, G, cls, d, rfl, J, sub, (up.trans up1).trans up2, .inr (.inr (st.symm ▸ sky2)), nG, os, bare, no rfl⟩
    unfold PySem.passOn
    apply wpAny_bind
    apply wpAny_field e2 d2 w2
    have ne : ¬ ((Value.ref T == Value.none) = true) := by simp
    rw [if_neg ne]
    first
      | exact wpAny_bind (wpAny_pure (wpAny_bind away))
      | exact wpAny_bind away
  | true =>
    apply codeAny_handlers_suite_as
    apply HandSPX.lands_againZ fly1
    intro h2 fly2 up2
    obtain ⟨o2, v2, e2, z2, d2⟩ := fly2.there
    have J2 : Inv X pins σI G { t with heap := h2 } := J.landed sub fly2.1 ((up.trans up1).trans up2) os bare
    have T2 := J2.suite e2 d2 nG un.loc un.fs
    refine store_ok (X := X.suite a ((a, o2) :: (X.pn ++ pins))) (v := .ref a) T2 nd at_ (.inl lc) rfl (fun t5 T5 => ?_) (.inr lc)
    apply wpAny_mono ((S a o2 cls d (X.pn ++ pins) z2 ⟨_, d2⟩).run [] t5 _ G _ T5 (yes rfl a nG))
    · intro fl t6 z
      rcases fl with _ | _ | _ | v
      · obtain ⟨σ6, G6, T6, r⟩ := z
        exact hold_on ok un nd at_ lc z2 d2 T6 fun t7 J7 => ⟨_, _, J7, r⟩
      · obtain ⟨σ6, G6, T6, r⟩ := z
        exact gone_ok (T6.unsuite ok) nd at_ lc fun t7 J7 => ⟨_, _, J7, r⟩
      · obtain ⟨σ6, G6, T6, r⟩ := z
        exact gone_ok (T6.unsuite ok) nd at_ lc fun t7 J7 => ⟨_, _, J7, r⟩
      · obtain ⟨w6, σ6, G6, T6, r6, r⟩ := z
        exact gone_ok (T6.unsuite ok) nd at_ lc fun t7 J7 => ⟨_, _, _, J7, r6, r⟩
    · intro e t6 z
      exact z.elim
end
/-! ### what is asked of a tracked error -/
/-- isinstance(e, c), e a tracked error -/
def rIsT (K : PySem.W.Frag) : List V → Hp → VK → Prop := fun xs H Q => ∃ (a D dx : Addr) (fs : List (Str × V)) (c : V) (cv : Value) (b : Bool), xs = [.ref a, c] ∧ ExcC K D ∧ H a = some (ErO a (.ref D) (some dx)) ∧ H dx = some (.xd fs) ∧
  (∀ u, RelV c u → u = cv) ∧ PySem.W.kitOne K (.ref D) cv = some b ∧ Q (.bl b) H
theorem erO_at {X : Cx} {pins : List (Addr × Obj)} {σ : L2.St} {H : Hp} {s : Shared} {a D dx : Addr} {fs : List (Str × V)} (I : Inv X pins σ H s) (h : H a = some (ErO a (.ref D) (some dx))) (hx : H dx = some (.xd fs)) :
    ∃ oe od, PySem.W.InstAt s.heap a oe D (some od) ∧ s.heap.get? dx = some od := by
  obtain ⟨⟨oe, vs, e, z, f⟩, _, _⟩ := I.hok a _ h
  obtain ⟨mA, hns, hr⟩ := I.hok dx _ hx
  obtain ⟨od, ho, _⟩ := lookIn_ns hns
  exact ⟨oe, od, ⟨e, z.1, by unfold PySem.W.notCls; rw [f] <;> rfl, by rw [z.2]; exact ho⟩, ho⟩
theorem call_isT {X : Cx} : CallR X (.builtin "isinstance") (rIsT X.K) := by
  intro pins s σ H xs us Q I r h
  obtain ⟨a, D, dx, fs, c, cv, b, rfl, C, ha, hd, hcv, e, q⟩ := h
  cases r with
  | cons rx rr =>
    cases rr with
    | cons rt rr =>
      cases rr
      cases rx
      have ec := hcv _ rt
      subst ec
      obtain ⟨oe, od, J, _⟩ := erO_at I ha hd
      have hcl : (PySem.W.clsIn X.K D).isSome = true := by
        obtain ⟨cd, hc, _⟩ := PySem.W.any_some C.hd
        rw [hc]
        rfl
      exact PySem.W.kia_one (PySem.W.kitx_exc (od := some od) hcl C.hg C.hk C.hs C.ha C.hn C.ht C.hm) I.kIn J e (fun z => nomatch z) fun tk => ⟨.bl b, H, I.kept (t' := tk) fun _ _ z => z, rfl, q⟩
/-- e.n, e a tracked error -/
def tXt (K : PySem.W.Frag) (f : Str) (te : TE) : TE := fun σ H Q => te σ H fun x H1 => ∃ (a C dd : Addr) (fs : List (Str × V)) (v : V), x = .ref a ∧ XfC K C ∧ PySem.W.findIn K (.ref C) f = some none ∧ H1 a = some (ErO a (.ref C) (some dd)) ∧ H1 dd = some (.xd fs) ∧ fs.lookup f = some v ∧ Q v H1
theorem pe_xt {X : Cx} {e : Expr} {te : TE} {pos : Pos} {n : Str} (he : PE X e te) (hb : attributeBase e n X.env (eval e X.env) = eval e X.env := by rfl) : PE X (.Attribute e n pos) (tXt X.K n te) := by
  refine ⟨fun pins s σ H Q I h => ?_⟩
  refine attr_of hb (thn (he.run pins s σ H _ I h) fun u s1 hh => ?_)
  obtain ⟨x, H1, I1, rx, a, C, dd, fs, v, ex, T, hno, ha, hd, l, q⟩ := hh
  subst ex
  obtain rfl : u = Value.ref a := rx
  obtain ⟨oe, od, J, ho⟩ := erO_at I1 ha hd
  obtain ⟨mA, hns, hr⟩ := I1.hok dd _ hd
  obtain ⟨od', ho', hl⟩ := lookIn_ns hns
  rw [ho] at ho'
  cases ho'
  obtain ⟨w', hu, ru⟩ := RelO.some_of (v := v) (o := mA n) (by rw [← l]; exact hr n)
  exact HandSPX.exc_get I1.kIn J T.ga T.gg T.exC (PySem.W.findObj_own T.hdC hno rfl (by rw [hl, hu])) (handed_of ru) ⟨v, H1, I1.tok _, ru, q⟩
end Rp
namespace Rp
open PySem PySem.Spec PyProof.Rows L2 LamX
/-! ### lambdas with given values, handed to a def -/
/-- where a lambda's given values stand -/
def DvOk (dV : Value) (us : List Value) (H : Hp) (stk : List Env) (h : Heap) : Prop := (us = [] ∧ dV = .none) ∨ (us ≠ [] ∧ ∃ t, dV = .ref t ∧ h.get? t = some (PySem.W.kdv_tup us) ∧ H t = none ∧ t ∉ frs stk)
abbrev lamObj (X : Cx) (params : Arguments) (body : Expr) (scope : Scope) (dV doc pm : Value) (c' : Addr) (ctv : Value) : Obj := PySem.W.kdv_obj "<lambda>" (X.env.qual ++ "<lambda>") params (.expr body) scope (cloFrom X.env.cells scope.names []) dV doc pm c' ctv
section
variable {X : Cx} {pins : List (Addr × Obj)} {σ : L2.St} {H : Hp} {s : Shared}
/-- a place that is not there yet is no frame's -/
theorem unframed (I : Inv X pins σ H s) {f : Addr} (h : s.heap.objs.size ≤ f) : f ∉ frs X.stack := by
  intro m
  cases I.stkSub _ m with
  | head => exact absurd I.lt (Nat.not_lt.mpr h)
  | tail _ z => exact I.nofs h z
theorem lam_tail {T : List (Addr × Str)} {c P : Addr} {params : Arguments} {body : Expr} {scope : Scope} {pos : Pos} {line : Nat} {dV : Value} {us : List Value} {Z : Value → Shared → Prop} {Q : Value → Shared → Prop} (I : Inv X pins σ H s) (TB : TabB X.base X.mg c P) (cd : X.env.code = .ref c)
    (mem : (P, X.env.qual ++ "<lambda>") ∈ T) (one : ∀ p ∈ T, p.1 = P → p.2 = X.env.qual ++ "<lambda>") (tabs : Tabs T H) (cap : ∀ y ∈ scope.names, y.2 = .free → ∃ c, X.env.cells.lookup y.1 = some c) (dv : DvOk dV us H X.stack s.heap)
    (k : ∀ (f c' : Addr) (doc pm ctv : Value) (G : Hp) (t : Shared), Inv X pins σ G t → ExtN H G → Tabs T G → t.heap.get? f = some (lamObj X params body scope dV doc pm c' ctv) → G f = none → f ∉ frs X.stack → DvOk dV us G X.stack t.heap → G c' = some (CodeO c' (X.env.qual ++ "<lambda>")) → Q (.ref f) t) :
    wpAny (model X.prog X.w) X.A (makeTail "<lambda>" (X.env.qual ++ "<lambda>") params (.expr body) scope X.env dV .none none pos line) Q Z s := by
  obtain ⟨ps, isP, trip, told⟩ := tabs _ mem
  have atP : s.heap.get? P = some { cls := .none, data := .fields ps } := I.hok P _ isP
  have clo := closure_ok cap
  have names := I.mod.glob.keeps I.bk
  have code := TB.code.keeps I.bk
  have blt : s.heap.BuiltinsAt X.mg P := TB.bm.keeps I.bk
  rcases found : codeAmong pos ps.toList with _ | cv
  · -- a code object is made, and noted in the table
    apply PySem.W.kdv_makeTail clo I.ok.glob names cd code atP trip found TB.gP blt
    rintro c' ctv doc h tk other fresh lt ⟨c2, oc, vs, t, rfl', hoc, dat, nm⟩ tab
    cases rfl'
    have nc : H c' = none := I.hok.fresh fresh
    have le : s.heap.objs.size ≤ h.objs.size := Nat.le_trans fresh (Nat.le_of_lt lt)
    have cP : P ≠ c' := ne_of_none isP nc
    have J := inv_table (q := X.env.qual ++ "<lambda>") (t' := tk) (h' := h.push (lamObj X params body scope dV doc ((X.mg "__name__").getD .none) c' ctv)) I isP (fun b o n e => Heap.get?_push_of_some _ (other b o n e)) (Heap.get?_push_of_some _ tab) fresh ⟨oc, vs, t, Heap.get?_push_of_some _ hoc, dat, nm⟩
    generalize hG : upd (upd H P _) c' _ = G at J
    have Gc : G c' = some (CodeO c' (X.env.qual ++ "<lambda>")) := by rw [← hG, upd_same]
    have GP : G P = some (.tbl (ps ++ #[rawInt pos.line, rawInt pos.col, .ref c'])) := by rw [← hG, upd_ne cP, upd_same]
    have Go : ∀ b, b ≠ P → b ≠ c' → G b = H b := fun b n1 n2 => by rw [← hG, upd_ne n2, upd_ne n1]
    have grow : ExtN H G := by
      intro b o e n
      rw [Go b (by rintro rfl; exact n ps (Option.some.inj (e.symm.trans isP))) (ne_of_none e nc)]
      exact e
    have snoc : (ps ++ #[rawInt pos.line, rawInt pos.col, Value.ref c']).toList = ps.toList ++ [rawInt pos.line, rawInt pos.col, .ref c'] := by simp
    refine k h.objs.size c' doc _ ctv G _ J grow ?_ (Heap.get?_push_size _ rfl) ?_ (unframed I le) ?_ Gc
    · intro p mp
      by_cases eP : p.1 = P
      · rw [one p mp eP, eP]
        refine ⟨_, GP, snoc ▸ PySem.TriplesOk_snoc _ _ _ _ trip, ?_⟩
        intro at_ cv z
        rw [snoc] at z
        rcases among_app _ trip z with z | rfl
        · obtain ⟨c0, rfl, z0⟩ := told at_ cv z
          exact ⟨c0, rfl, grow _ _ z0 codeO_ne⟩
        · exact ⟨c', rfl, Gc⟩
      · obtain ⟨ps2, t1, t2, t3⟩ := tabs p mp
        refine ⟨ps2, (Go _ eP (ne_of_none t1 nc)).trans t1, t2, ?_⟩
        intro at_ cv z
        obtain ⟨c0, rfl, z0⟩ := t3 at_ cv z
        exact ⟨c0, rfl, grow _ _ z0 codeO_ne⟩
    · rw [Go _ (Nat.ne_of_gt (Nat.lt_of_lt_of_le (Heap.lt_size atP) le)) (Nat.ne_of_gt lt)]
      exact I.hok.fresh le
    · rcases dv with z | ⟨nz, t, rfl, et, nt, ft⟩
      · exact .inl z
      · have tP : t ≠ P := by
          rintro rfl
          cases nt.symm.trans isP
        exact .inr ⟨nz, t, rfl, Heap.get?_push_of_some _ (other _ _ tP et), (Go t tP (Nat.ne_of_lt (Nat.lt_of_lt_of_le (Heap.lt_size et) fresh))).trans nt, ft⟩
  · -- it is there already
    obtain ⟨c', rfl, isC⟩ := told pos cv found
    apply PySem.W.kdv_makeTailHit clo I.ok.glob names cd code atP trip found blt
    intro ctv doc h tk all le
    refine k h.objs.size c' doc _ ctv H _ (I.kept fun b o e => Heap.get?_push_of_some _ (all b o e)) (ExtN.refl H) tabs (Heap.get?_push_size _ rfl) (I.hok.fresh le) (unframed I le) ?_ isC
    exact dv.imp id fun ⟨nz, t, e1, e2, e3⟩ => ⟨nz, t, e1, Heap.get?_push_of_some _ (all _ _ e2), e3⟩
/-- what comes of a lambda's expression -/
def LamMade (X : Cx) (pins : List (Addr × Obj)) (σ : L2.St) (H : Hp) (T : List (Addr × Str)) (params : Arguments) (body : Expr) (scope : Scope) (dvs : List V) (f : Addr) (s' : Shared) : Prop := ∃ (c' : Addr) (dV doc pm ctv : Value) (us : List Value) (H1 : Hp), Inv X pins σ H1 s' ∧ ExtN H H1 ∧ Tabs T H1 ∧
  s'.heap.get? f = some (lamObj X params body scope dV doc pm c' ctv) ∧ H1 f = none ∧ f ∉ frs X.stack ∧ DvOk dV us H1 X.stack s'.heap ∧ Vals dvs us ∧ H1 c' = some (CodeO c' (X.env.qual ++ "<lambda>"))
theorem lam_make0 {T : List (Addr × Str)} {c P : Addr} {params : Arguments} {body : Expr} {scope : Scope} {pos : Pos} {E : Value → Shared → Prop} {Q : Value → Shared → Prop} (I : Inv X pins σ H s) (TB : TabB X.base X.mg c P) (hcode : X.env.code = .ref c)
    (hm : (P, X.env.qual ++ "<lambda>") ∈ T) (hu : ∀ p ∈ T, p.1 = P → p.2 = X.env.qual ++ "<lambda>") (hT : Tabs T H) (hdef : defaultsOf params X.env = ([], [])) (hfree : ∀ y ∈ scope.names, y.2 = .free → ∃ c, X.env.cells.lookup y.1 = some c)
    (h : ∀ (f : Addr) (s' : Shared), LamMade X pins σ H T params body scope [] f s' → Q (.ref f) s') :
    wpAny (model X.prog X.w) X.A (eval (.Lambda params body scope pos) X.env) Q E s := by
  refine PySem.W.kla_eval hdef ?_
  rw [makeFunction_eq]
  simp only [List.zip_nil_right, List.filterMap_nil, List.isEmpty_nil, if_true, pure_bind]
  exact lam_tail I TB hcode hm hu hT hfree (.inl ⟨rfl, rfl⟩) fun f c' doc pm ctv H1 s' I1 e T1 h1 h2 h3 h4 h5 => h f s' ⟨c', _, doc, pm, ctv, [], H1, I1, e, T1, h1, h2, h3, h4, .nil, h5⟩
theorem lam_make1 {T : List (Addr × Str)} {c P : Addr} {params : Arguments} {body : Expr} {scope : Scope} {pos : Pos} {i : Int} {j : Nat} {dp : Pos} {E : Value → Shared → Prop} {Q : Value → Shared → Prop} (I : Inv X pins σ H s) (TB : TabB X.base X.mg c P) (hcode : X.env.code = .ref c)
    (hm : (P, X.env.qual ++ "<lambda>") ∈ T) (hu : ∀ p ∈ T, p.1 = P → p.2 = X.env.qual ++ "<lambda>") (hT : Tabs T H) (hdef : params.defaults = [.Constant (.int i) j dp]) (hkd : params.kw_defaults = []) (hfree : ∀ y ∈ scope.names, y.2 = .free → ∃ c, X.env.cells.lookup y.1 = some c)
    (h : ∀ (f : Addr) (s' : Shared), LamMade X pins σ H T params body scope [.int i] f s' → Q (.ref f) s') :
    wpAny (model X.prog X.w) X.A (eval (.Lambda params body scope pos) X.env) Q E s := by
  refine PySem.W.kdv_lam (by rw [hdef]; rfl) hkd ?_
  rw [hdef]
  refine PySem.W.kdv_all1 (wpAny_Constant_int ?_)
  refine PySem.W.kdv_all0 ?_
  generalize hv : (Value.int i _) = v
  have rv : L2.RelV (.int i) v := by rw [← hv]; exact ⟨_, rfl⟩
  rw [makeFunction_eq]
  simp only [List.zip_nil_right, List.filterMap_nil, List.isEmpty_nil, if_true, pure_bind, List.isEmpty_cons, Bool.false_eq_true, if_false]
  refine wpAny_bind (wpAny_newTextTuple ?_)
  have I1 := (I.tok (s.toks + 1)).kept (t' := s.toks + 1) (h' := s.heap.push (PySem.W.kdv_tup [v])) fun b u e => Heap.get?_push_of_some _ e
  exact lam_tail I1 TB hcode hm hu hT hfree (.inr ⟨by simp, _, rfl, Heap.get?_push_size _ rfl, I.hok.fresh (Nat.le_refl _), unframed I (Nat.le_refl _)⟩) fun f c' doc pm ctv H1 s' I1 e T1 h1 h2 h3 h4 h5 => h f s' ⟨c', _, doc, pm, ctv, [v], H1, I1, e, T1, h1, h2, h3, h4, .cons rv .nil, h5⟩
end
/-- a lambda's names: its parameters (no slot is called so), captured ones and globals -/
structure LamT (N : List Str) (sc scope : Scope) : Prop where
  kind : scope.kind = .function
  co : scope.isCoroutine = false
  gen : scope.isGenerator = false
  each : ∀ y ∈ scope.names, y.2 ≠ .cell ∧ (y.2 = .local → y.1 ∉ N) ∧ (y.2 = .free → sc.names.lookup y.1 = some .cell ∨ sc.names.lookup y.1 = some .free)
def lamTB (N : List Str) (sc scope : Scope) : Bool :=
  (scope.kind == .function) && (!scope.isCoroutine && (!scope.isGenerator && scope.names.all fun y => decide (y.2 ≠ .cell ∧ (y.2 = .local → y.1 ∉ N) ∧ (y.2 = .free → sc.names.lookup y.1 = some .cell ∨ sc.names.lookup y.1 = some .free))))
theorem lamT_by {N : List Str} {sc scope : Scope} (h : lamTB N sc scope = true) : LamT N sc scope := by
  obtain ⟨h1, h⟩ := Bool.and_eq_true_iff.mp h
  obtain ⟨h2, h⟩ := Bool.and_eq_true_iff.mp h
  obtain ⟨h3, h4⟩ := Bool.and_eq_true_iff.mp h
  exact ⟨by simpa using h1, by simpa using h2, by simpa using h3, fun y m => of_decide_eq_true (List.all_eq_true.mp h4 y m)⟩
theorem LamT.has {X : Cx} {scope : Scope} (L : LamT X.N X.env.scope scope) (ok : X.Ok) : ∀ y ∈ scope.names, y.2 = .free → ∃ c, X.env.cells.lookup y.1 = some c :=
  fun y m e => ok.has _ ((L.each y m).2.2 e)
section
variable {X : Cx} {pins : List (Addr × Obj)} {σ : L2.St} {H HZ : Hp} {s s1 : Shared}
/-- what a lambda captures, it captures of its maker's cells -/
theorem clo_of {scope : Scope} (cap : ∀ y ∈ scope.names, y.2 = .free → ∃ c, X.env.cells.lookup y.1 = some c) {y : Str} {c : Addr} (e : (cloFrom X.env.cells scope.names []).lookup y = some c) : X.env.cells.lookup y = some c := by
  rcases cloFrom_mem (PySem.mem_of_lookup e) with m | ⟨m, q⟩
  · cases m
  · obtain ⟨c', e'⟩ := cap _ m rfl
    have e2 : X.env.cells.lookup y = some c' := e'
    rw [e2] at q
    rw [e2, q] <;> rfl
theorem to_clo {scope : Scope} {y : Str} (m : scope.names.lookup y = some .free) : ∃ c, (cloFrom X.env.cells scope.names []).lookup y = some c :=
  mem_lookup (cloFrom_has (cells := X.env.cells) (acc := []) (PySem.mem_of_lookup m))
/-- the state as the lambda's body finds it -/
theorem lam_start3 {A : Around} {outer : List Env} {E : XK} {scope : Scope} {f c' : Addr} {h₁ : Heap} {tk : Nat} {m : Str → Option Value} (I : Inv X pins σ H s) (L : LamT X.N X.env.scope scope) (e0 : Env0 X.prog X.w X.K X.mg X.base A outer s1 HZ) (calm : A.handled = none)
    (un : Un (frs X.stack) [] H HZ s.heap s1.heap) (ns : h₁.Ns s1.heap.objs.size m) (kp : ∀ b o, s1.heap.get? b = some o → h₁.get? b = some o) :
    Inv (lamCx X A outer s1 HZ E scope f c') [] σ HZ { s1 with heap := h₁, toks := tk } := by
  have cap := L.has I.ok
  have cells : ∀ {y c}, (cloFrom X.env.cells scope.names []).lookup y = some c → X.env.cells.lookup y = some c := fun e => clo_of cap e
  have noCell : ∀ {y}, scope.names.lookup y = some .cell → False := fun e => (L.each _ (PySem.mem_of_lookup e)).1 rfl
  have cell_ : ∀ {c : Addr} {v : Option Value}, H c = none → s.heap.IsCell c v → h₁.IsCell c v := by
    rintro c v n ⟨o, e, d⟩
    obtain ⟨sl, e'⟩ := un.any e n (by simp)
    exact ⟨_, kp _ _ e', d⟩
  have nil_ : ∀ b : Addr, b ∉ ([] : List Addr) := by simp
  constructor
  case ok =>
    refine ⟨e0.mod, L.kind, rfl, rfl, Nat.le_refl _, fun y z c a b => I.ok.inj y z c (cells a) (cells b), ?_, ?_, fun _ => calm, Around.frames_deeper e0.frames, .inr ⟨rfl, rfl⟩, fun b z => (nil_ b z).elim, e0.bs, e0.bsz, fun b _ _ => nil_ b, fun b z => (nil_ b z).elim, e0.funs, e0.frf⟩
    · rintro y (z | z)
      · exact (noCell z).elim
      · exact to_clo z
    · intro y c z
      cases (show false = true from z)
  case os => rfl
  case bare => exact e0.bare
  case base => exact Un.kept kp
  case loc =>
    refine ⟨_, ns, ?_⟩
    rintro i y v at_ val (z | z | z)
    · exact ((L.each _ (PySem.mem_of_lookup z)).2.1 rfl (List.mem_of_getElem? at_)).elim
    · exact (noCell z).elim
    · obtain ⟨m', _, look⟩ := I.loc
      have seen := (L.each _ (PySem.mem_of_lookup z)).2.2 rfl
      obtain ⟨u, r, l⟩ := look i y v at_ val (.inr seen)
      obtain ⟨c, ec⟩ := to_clo (X := X) z
      refine ⟨u, r, .inr ⟨.inr z, c, ec, ?_⟩⟩
      rcases l with ⟨l, _⟩ | ⟨_, c2, e2, isc⟩
      · have l' : X.env.scope.names.lookup y = some .local := l
        rcases seen with k | k <;> cases l'.symm.trans k
      · cases (cells ec).symm.trans e2
        exact cell_ (I.freeC y _ e2) isc
  case cell =>
    intro y c e
    obtain ⟨v, z⟩ := I.cell y c (cells e)
    exact ⟨v, cell_ (I.freeC y c (cells e)) z⟩
  case free => exact e0.hok.fresh (Nat.le_refl _)
  case freeC =>
    intro y c e
    obtain ⟨v, o, at_, _⟩ := I.cell y c (cells e)
    exact un.free c o at_ (I.freeC y c (cells e)) (by simp)
  case pin =>
    intro p m
    exact absurd (show p ∈ ([] : List (Addr × Obj)) from m) (by simp)
  case hok => exact e0.hok.kept kp
  case len => exact I.len
/-- the parameters are bound by the given values -/
def LamBinds (params : Arguments) (body : Expr) (scope : Scope) (ps : List Str) (dvs : List V) : Prop := ∀ (q : Str) (cl : List (Str × Addr)) (dV doc pm cv ctv : Value) (us : List Value) (H : Hp) (stk : List Env) (s : Shared), Vals dvs us → DvOk dV us H stk s.heap →
  BindsTo s (PySem.W.kdv_fn "<lambda>" q params (.expr body) scope cl dV doc pm cv ctv) ⟨[], []⟩ (ps.zip us)
/-- the lambda called, from where its taker stands -/
theorem lam_runs {A : Around} {outer : List Env} {ps : List Str} {dvs : List V} {f c' : Addr} {dV doc pm ctv : Value} {us : List Value} {params : Arguments} {body : Expr} {scope : Scope} {k : Nat} {Q : VK} {E : XK} {tb : TE} (I : Inv X pins σ H s) (L : LamT X.N X.env.scope scope)
    (isF : s1.heap.get? f = some (lamObj X params body scope dV doc pm c' ctv)) (isC : HZ c' = some (CodeO c' (X.env.qual ++ "<lambda>"))) (dv : DvOk dV us H X.stack s1.heap) (rv : Vals dvs us) (bind : LamBinds params body scope ps dvs) (par : ∀ p ∈ ps, scope.names.lookup p = some .local)
    (e0 : Env0 X.prog X.w X.K X.mg X.base A outer s1 HZ) (lim : s1.heap.NoLimit) (un : Un (frs X.stack) [] H HZ s.heap s1.heap) (room : Room (k + 1) A)
    (B : ∀ (A : Around) (outer : List Env) (s : Shared) (H : Hp), Room k (A.deeper (lamEnv X scope s.heap.objs.size f c')) → PE (lamCx X A outer s H E scope f c') body tb) (q : tb σ HZ Q) :
    codeAny (model X.prog X.w) A (.call (.ref f) ⟨[], []⟩) (CR (L2.CX X.prog X.w) outer X.prog X.w HZ s1 Q E) s1 := by
  obtain ⟨⟨oc, vs, t, eo, ed, en⟩, _, _⟩ := e0.hok c' _ isC
  apply PySem.W.kla_callFunE room.depth isF rfl L.co L.gen rfl ⟨c', oc, vs, t, rfl, eo, ed, en⟩
  apply bind _ _ _ _ _ _ _ _ _ _ _ rv dv
  apply wpAny_newFunctionEnv (fun y m => (L.each y m).1) (fun p m => par p.1 (List.of_mem_zip (a := p.1) (b := p.2) m).1) ?_ L.kind
  intro h₁ ns but
  refine ⟨lim.fresh _ but, ?_⟩
  have kp : ∀ b o, s1.heap.get? b = some o → h₁.get? b = some o := fun b o e => but.extBut b o (Nat.ne_of_lt (Heap.lt_size e)) (Heap.get?_push_of_some _ e)
  apply PySem.W.kla_codeExpr
  apply wpAny_mono ((B A outer s1 HZ (room.deeper _)).run [] _ _ HZ Q (lam_start3 (f := f) (c' := c') I L e0 room.hd un ns kp) q)
  · rintro v t ⟨w', G, J, r, z⟩
    exact ⟨w', G, J.os, J.bare, J.base, J.hok, r, z⟩
  · intro e t z
    exact z
/-- x(), in the def that got the lambda -/
theorem pe_act3 {Eg : XK} {Ng ps : List Str} {dvs : List V} {qg : Str} {sg : Scope} {g f c' : Addr} {cdg dV doc pm ctv : Value} {us : List Value} {params : Arguments} {body : Expr} {scope : Scope} {k i : Nat} {a : Str} {pn : List (Addr × Obj)} {xe : Value → Shared → Prop} {W : WX} {E : XK} {tb : TE} {p1 p2 : Pos}
    (I : Inv X pins σ H s) (L : LamT X.N X.env.scope scope) (isF : s.heap.get? f = some (lamObj X params body scope dV doc pm c' ctv)) (nF : H f = none) (oF : f ∉ frs X.stack) (dv : DvOk dV us H X.stack s.heap) (rv : Vals dvs us)
    (bind : LamBinds params body scope ps dvs) (par : ∀ p ∈ ps, scope.names.lookup p = some .local)
    (tk : Takes ((cxOf CX0 X.prog X.w X.K X.mg X.base Ng qg sg g cdg X.A X.stack s H Eg).tr pn xe) W) (sub : ∀ cls d σ' H', E cls d H' → W cls d σ' H') (room : Room (k + 1) (X.A.deeper (envOfC qg sg s.heap.objs.size g cdg)))
    (B : ∀ (A : Around) (outer : List Env) (s : Shared) (H : Hp), Room k (A.deeper (lamEnv X scope s.heap.objs.size f c')) → PE (lamCx X A outer s H E scope f c') body tb)
    (at_ : Ng[i]? = some a) (vis : Vis sg a) (d1 : (a == ("__debug__" : Str)) = false := by decide) (d2 : (a == ("__classdict__" : Str)) = false := by decide) :
    PE ((cxOf CX0 X.prog X.w X.K X.mg X.base Ng qg sg g cdg X.A X.stack s H Eg).tr pn xe) (.Call (.Name a p1) [] [] p2)
      (fun σZ HZ Q => σZ[i]? = some (some (.ref f)) ∧ HZ c' = some (CodeO c' (X.env.qual ++ "<lambda>")) ∧ tb σ HZ Q) := by
  constructor
  rintro pinsZ sZ σZ HZ Q IZ ⟨slot, isC, q⟩
  apply wpAny_Call_Name_kw
  apply thn ((pe_var (pos := p1) (i := i) at_ vis d1 d2).run pinsZ sZ σZ HZ (fun v G => v = .ref f ∧ G = HZ) IZ ⟨.ref f, slot, rfl, rfl⟩)
  rintro u t ⟨_, _, J, r, rfl, rfl⟩
  cases (show u = Value.ref f from r)
  have old : ∀ {b o}, s.heap.get? b = some o → H b = none → b ∉ frs X.stack → t.heap.get? b = some o := fun e n nf => J.base.keep _ _ e n nf (by simp [cxOf])
  have isF1 := old isF nF oF
  have dv1 : DvOk dV us H X.stack t.heap := dv.imp id fun ⟨nz, b, e1, e2, e3, e4⟩ => ⟨nz, b, e1, old e2 e3 e4, e3, e4⟩
  apply PySem.W.callWith_F0 ⟨_, _, _, _, isF1⟩
  apply wpAny_call
  apply codeAny_mono (lam_runs I L isF1 isC dv1 rv bind par J.env0 J.nolimit J.base room B q)
  rintro (e | fl) t2 z
  · exact passes_call tk sub pinsZ σZ _ t e t2 J z
  · cases fl with
    | ret u => exact J.after z
    | next => exact z.elim
    | brk => exact z.elim
    | cont => exact z.elim
end
/-- lambda: .. -/
theorem lamBinds0 {body : Expr} {scope : Scope} : LamBinds { posonlyargs := [], args := [], vararg := none, kwonlyargs := [], kw_defaults := [], kwarg := none, defaults := [] } body scope [] [] := by
  intro q cl dV doc pm cv ctv us H stk s r d
  cases r
  rcases d with ⟨_, rfl⟩ | ⟨z, _⟩
  · exact .of_eq rfl
  · exact (z rfl).elim
/-! lambda a1=i: .. (and so on: the name must be written) -/
theorem lamBinds_a0 {i : Int} {j : Nat} {ap dp : Pos} {body : Expr} {scope : Scope} : LamBinds { posonlyargs := [], args := [{ arg := "a0", annotation := none, pos := ap }], vararg := none, kwonlyargs := [], kw_defaults := [], kwarg := none, defaults := [.Constant (.int i) j dp] } body scope ["a0"] [.int i] := by
  intro q cl dV doc pm cv ctv us H stk s r d
  cases r with
  | cons rx rr =>
    cases rr
    rcases d with ⟨z, _⟩ | ⟨_, t, rfl, e, _⟩
    · cases z
    · refine BindsTo.of_defaults (k := ?k) rfl e rfl ?h1 ?h2
      case h1 => exact rfl
      case h2 => exact rfl
theorem lamBinds_a1 {i : Int} {j : Nat} {ap dp : Pos} {body : Expr} {scope : Scope} : LamBinds { posonlyargs := [], args := [{ arg := "a1", annotation := none, pos := ap }], vararg := none, kwonlyargs := [], kw_defaults := [], kwarg := none, defaults := [.Constant (.int i) j dp] } body scope ["a1"] [.int i] := by
  intro q cl dV doc pm cv ctv us H stk s r d
  cases r with
  | cons rx rr =>
    cases rr
    rcases d with ⟨z, _⟩ | ⟨_, t, rfl, e, _⟩
    · cases z
    · refine BindsTo.of_defaults (k := ?k) rfl e rfl ?h1 ?h2
      case h1 => exact rfl
      case h2 => exact rfl
theorem lamBinds_a2 {i : Int} {j : Nat} {ap dp : Pos} {body : Expr} {scope : Scope} : LamBinds { posonlyargs := [], args := [{ arg := "a2", annotation := none, pos := ap }], vararg := none, kwonlyargs := [], kw_defaults := [], kwarg := none, defaults := [.Constant (.int i) j dp] } body scope ["a2"] [.int i] := by
  intro q cl dV doc pm cv ctv us H stk s r d
  cases r with
  | cons rx rr =>
    cases rr
    rcases d with ⟨z, _⟩ | ⟨_, t, rfl, e, _⟩
    · cases z
    · refine BindsTo.of_defaults (k := ?k) rfl e rfl ?h1 ?h2
      case h1 => exact rfl
      case h2 => exact rfl
theorem lamBinds_a3 {i : Int} {j : Nat} {ap dp : Pos} {body : Expr} {scope : Scope} : LamBinds { posonlyargs := [], args := [{ arg := "a3", annotation := none, pos := ap }], vararg := none, kwonlyargs := [], kw_defaults := [], kwarg := none, defaults := [.Constant (.int i) j dp] } body scope ["a3"] [.int i] := by
  intro q cl dV doc pm cv ctv us H stk s r d
  cases r with
  | cons rx rr =>
    cases rr
    rcases d with ⟨z, _⟩ | ⟨_, t, rfl, e, _⟩
    · cases z
    · refine BindsTo.of_defaults (k := ?k) rfl e rfl ?h1 ?h2
      case h1 => exact rfl
      case h2 => exact rfl
theorem lamBinds_a4 {i : Int} {j : Nat} {ap dp : Pos} {body : Expr} {scope : Scope} : LamBinds { posonlyargs := [], args := [{ arg := "a4", annotation := none, pos := ap }], vararg := none, kwonlyargs := [], kw_defaults := [], kwarg := none, defaults := [.Constant (.int i) j dp] } body scope ["a4"] [.int i] := by
  intro q cl dV doc pm cv ctv us H stk s r d
  cases r with
  | cons rx rr =>
    cases rr
    rcases d with ⟨z, _⟩ | ⟨_, t, rfl, e, _⟩
    · cases z
    · refine BindsTo.of_defaults (k := ?k) rfl e rfl ?h1 ?h2
      case h1 => exact rfl
      case h2 => exact rfl
theorem lamBinds_a5 {i : Int} {j : Nat} {ap dp : Pos} {body : Expr} {scope : Scope} : LamBinds { posonlyargs := [], args := [{ arg := "a5", annotation := none, pos := ap }], vararg := none, kwonlyargs := [], kw_defaults := [], kwarg := none, defaults := [.Constant (.int i) j dp] } body scope ["a5"] [.int i] := by
  intro q cl dV doc pm cv ctv us H stk s r d
  cases r with
  | cons rx rr =>
    cases rr
    rcases d with ⟨z, _⟩ | ⟨_, t, rfl, e, _⟩
    · cases z
    · refine BindsTo.of_defaults (k := ?k) rfl e rfl ?h1 ?h2
      case h1 => exact rfl
      case h2 => exact rfl
theorem lamBinds_a6 {i : Int} {j : Nat} {ap dp : Pos} {body : Expr} {scope : Scope} : LamBinds { posonlyargs := [], args := [{ arg := "a6", annotation := none, pos := ap }], vararg := none, kwonlyargs := [], kw_defaults := [], kwarg := none, defaults := [.Constant (.int i) j dp] } body scope ["a6"] [.int i] := by
  intro q cl dV doc pm cv ctv us H stk s r d
  cases r with
  | cons rx rr =>
    cases rr
    rcases d with ⟨z, _⟩ | ⟨_, t, rfl, e, _⟩
    · cases z
    · refine BindsTo.of_defaults (k := ?k) rfl e rfl ?h1 ?h2
      case h1 => exact rfl
      case h2 => exact rfl
theorem lamBinds_a7 {i : Int} {j : Nat} {ap dp : Pos} {body : Expr} {scope : Scope} : LamBinds { posonlyargs := [], args := [{ arg := "a7", annotation := none, pos := ap }], vararg := none, kwonlyargs := [], kw_defaults := [], kwarg := none, defaults := [.Constant (.int i) j dp] } body scope ["a7"] [.int i] := by
  intro q cl dV doc pm cv ctv us H stk s r d
  cases r with
  | cons rx rr =>
    cases rr
    rcases d with ⟨z, _⟩ | ⟨_, t, rfl, e, _⟩
    · cases z
    · refine BindsTo.of_defaults (k := ?k) rfl e rfl ?h1 ?h2
      case h1 => exact rfl
      case h2 => exact rfl
theorem lamBinds_a8 {i : Int} {j : Nat} {ap dp : Pos} {body : Expr} {scope : Scope} : LamBinds { posonlyargs := [], args := [{ arg := "a8", annotation := none, pos := ap }], vararg := none, kwonlyargs := [], kw_defaults := [], kwarg := none, defaults := [.Constant (.int i) j dp] } body scope ["a8"] [.int i] := by
  intro q cl dV doc pm cv ctv us H stk s r d
  cases r with
  | cons rx rr =>
    cases rr
    rcases d with ⟨z, _⟩ | ⟨_, t, rfl, e, _⟩
    · cases z
    · refine BindsTo.of_defaults (k := ?k) rfl e rfl ?h1 ?h2
      case h1 => exact rfl
      case h2 => exact rfl
theorem lamBinds_a9 {i : Int} {j : Nat} {ap dp : Pos} {body : Expr} {scope : Scope} : LamBinds { posonlyargs := [], args := [{ arg := "a9", annotation := none, pos := ap }], vararg := none, kwonlyargs := [], kw_defaults := [], kwarg := none, defaults := [.Constant (.int i) j dp] } body scope ["a9"] [.int i] := by
  intro q cl dV doc pm cv ctv us H stk s r d
  cases r with
  | cons rx rr =>
    cases rr
    rcases d with ⟨z, _⟩ | ⟨_, t, rfl, e, _⟩
    · cases z
    · refine BindsTo.of_defaults (k := ?k) rfl e rfl ?h1 ?h2
      case h1 => exact rfl
      case h2 => exact rfl
theorem lamBinds_a10 {i : Int} {j : Nat} {ap dp : Pos} {body : Expr} {scope : Scope} : LamBinds { posonlyargs := [], args := [{ arg := "a10", annotation := none, pos := ap }], vararg := none, kwonlyargs := [], kw_defaults := [], kwarg := none, defaults := [.Constant (.int i) j dp] } body scope ["a10"] [.int i] := by
  intro q cl dV doc pm cv ctv us H stk s r d
  cases r with
  | cons rx rr =>
    cases rr
    rcases d with ⟨z, _⟩ | ⟨_, t, rfl, e, _⟩
    · cases z
    · refine BindsTo.of_defaults (k := ?k) rfl e rfl ?h1 ?h2
      case h1 => exact rfl
      case h2 => exact rfl
theorem lamBinds_a11 {i : Int} {j : Nat} {ap dp : Pos} {body : Expr} {scope : Scope} : LamBinds { posonlyargs := [], args := [{ arg := "a11", annotation := none, pos := ap }], vararg := none, kwonlyargs := [], kw_defaults := [], kwarg := none, defaults := [.Constant (.int i) j dp] } body scope ["a11"] [.int i] := by
  intro q cl dV doc pm cv ctv us H stk s r d
  cases r with
  | cons rx rr =>
    cases rr
    rcases d with ⟨z, _⟩ | ⟨_, t, rfl, e, _⟩
    · cases z
    · refine BindsTo.of_defaults (k := ?k) rfl e rfl ?h1 ?h2
      case h1 => exact rfl
      case h2 => exact rfl
theorem lamBinds_a12 {i : Int} {j : Nat} {ap dp : Pos} {body : Expr} {scope : Scope} : LamBinds { posonlyargs := [], args := [{ arg := "a12", annotation := none, pos := ap }], vararg := none, kwonlyargs := [], kw_defaults := [], kwarg := none, defaults := [.Constant (.int i) j dp] } body scope ["a12"] [.int i] := by
  intro q cl dV doc pm cv ctv us H stk s r d
  cases r with
  | cons rx rr =>
    cases rr
    rcases d with ⟨z, _⟩ | ⟨_, t, rfl, e, _⟩
    · cases z
    · refine BindsTo.of_defaults (k := ?k) rfl e rfl ?h1 ?h2
      case h1 => exact rfl
      case h2 => exact rfl
/-! ### the def that a lambda is handed to -/
/-- the taker's context: the def x at g, entered at s with H -/
abbrev takerCx (X : Cx) (Ng : List Str) (x : Str) (sg : Scope) (g : Addr) (cdg : Value) (s : Shared) (H : Hp) : Cx := cxOf CX0 X.prog X.w X.K X.mg X.base Ng x sg g cdg X.A X.stack s H E0
/-- the taker keeps TT: what it makes of the lambda's reading; a is the name by which it calls what it got -/
def GivesG (X : Cx) (Ng : List Str) (x : Str) (sg : Scope) (g : Addr) (cdg : Value) (bg : List Stmt) (a : Str) (q : Str) (TT : (XK → Hp → VK → Prop) → Hp → VK → Prop) : Prop :=
  ∀ (f c' : Addr) (s : Shared) (H : Hp) (Q : VK) (tl : XK → Hp → VK → Prop),
    (∀ (W : WX) (pn : List (Addr × Obj)) (xe : Value → Shared → Prop) (E : XK) (p1 p2 : Pos), Takes ((takerCx X Ng x sg g cdg s H).tr pn xe) W → (∀ cls d σ' H', E cls d H' → W cls d σ' H') →
      PE ((takerCx X Ng x sg g cdg s H).tr pn xe) (.Call (.Name a p1) [] [] p2) (fun σZ HZ Q => σZ[0]? = some (some (.ref f)) ∧ HZ c' = some (CodeO c' q) ∧ tl E HZ Q)) →
    H c' = some (CodeO c' q) → TT tl H Q → ∃ t, PSs (takerCx X Ng x sg g cdg s H).nox bg t ∧ t ⟨fun _ G => Q .non G, Q, fun _ _ => False, fun _ _ => False⟩ (L2.start Ng [.ref f]) H
section
variable {X : Cx}
/-- a lambda's call, as the def that got it knows it -/
structure LamGo (X : Cx) (T : List (Addr × Str)) (c P : Addr) (params : Arguments) (body : Expr) (scope : Scope) (ps : List Str) (dvs : List V) : Prop where
  TB : TabB X.base X.mg c P
  code : X.env.code = .ref c
  mem : (P, X.env.qual ++ "<lambda>") ∈ T
  one : ∀ p ∈ T, p.1 = P → p.2 = X.env.qual ++ "<lambda>"
  L : LamT X.N X.env.scope scope
  binds : LamBinds params body scope ps dvs
  pl : ∀ p ∈ ps, scope.names.lookup p = some .local
/-- the given values: none, or one integer -/
def DefsOk (X : Cx) (params : Arguments) (dvs : List V) : Prop := (dvs = [] ∧ defaultsOf params X.env = ([], [])) ∨ (∃ i j dp, dvs = [.int i] ∧ params.defaults = [.Constant (.int i) j dp] ∧ params.kw_defaults = [])
theorem lam_make {pins : List (Addr × Obj)} {σ : L2.St} {H : Hp} {s : Shared} {T : List (Addr × Str)} {c P : Addr} {params : Arguments} {body : Expr} {scope : Scope} {ps : List Str} {dvs : List V} {pos : Pos} {E : Value → Shared → Prop} {Q : Value → Shared → Prop} (I : Inv X pins σ H s) (G : LamGo X T c P params body scope ps dvs) (D : DefsOk X params dvs) (hT : Tabs T H)
    (h : ∀ (f : Addr) (s' : Shared), LamMade X pins σ H T params body scope dvs f s' → Q (.ref f) s') : wpAny (model X.prog X.w) X.A (eval (.Lambda params body scope pos) X.env) Q E s := by
  rcases D with ⟨rfl, d⟩ | ⟨i, j, dp, rfl, d, kd⟩
  · exact lam_make0 I G.TB G.code G.mem G.one hT d (G.L.has I.ok) h
  · exact lam_make1 I G.TB G.code G.mem G.one hT d kd (G.L.has I.ok) h
/-- a def whose object is known: its call, where its body's reading is told of the very state -/
theorem taken {P : Program} {w : World} {K : PySem.W.Frag} {mg : Str → Option Value} {base : Heap} {k : Nat} {f : Addr} {x qual : Str} {pg : Arguments} {bg : List Stmt} {sg : Scope} {dV kV dc pm cdv ct oc : Value} {an od : Option Addr} {sl : Array (Option Value)} {N : List Str} {a : Str} (look : K.lookup f = some ⟨oc, od, .func (PySem.W.fnOf x qual pg bg sg dV kV dc pm an cdv ct), sl⟩)
    (code : PySem.W.codeIn K cdv qual = true) (S : FnScope N [a] sg) {A : Around} {fr : List Env} {s : Shared} {H : Hp} {args : Args} {u : Value} {v : V} {Q : VK} (room : Room (k + 1) A) (env : Env0 P w K mg base A fr s H) (bind : BindsTo s (PySem.W.fnOf x qual pg bg sg dV kV dc pm an cdv ct) args [(a, u)]) (rel : L2.RelV v u)
    (body : Room k (A.deeper (envOfC qual sg s.heap.objs.size f cdv)) → ∃ t, PSs (cxOf CX0 P w K mg base N qual sg f cdv A fr s H E0).nox bg t ∧ t ⟨fun _ G => Q .non G, Q, fun _ _ => False, fun _ _ => False⟩ (L2.start N [v]) H) :
    codeAny (model P w) A (.call (.ref f) args) (CR CX0 fr P w H s Q E0) s :=
  run_ofS (CX := CX0) (ps := [a]) (us := [u]) (vs := [v]) look code S room env bind (.cons rel .nil) rfl fun r => (body r).imp fun _ z => ⟨z.1.nox, z.2⟩
/-- x(lambda ..: body) -/
theorem pe_lamX {T : List (Addr × Str)} {TT : (XK → Hp → VK → Prop) → Hp → VK → Prop} {x a : Str} {g c P : Addr} {k : Nat} {pg : Arguments} {bg : List Stmt} {sg : Scope} {dV kV dc pm cdv ct oc : Value} {an od : Option Addr} {sl : Array (Option Value)} {Ng ps : List Str} {dvs : List V} {params : Arguments} {body : Expr} {scope : Scope} {t : XK → TE} {p lp pos : Pos}
    (glob : Gl X x) (mgx : X.mg x = some (.ref g)) (kp : PySem.W.keepIn X.K (.ref g) = true) (look : X.K.lookup g = some ⟨oc, od, .func (PySem.W.fnOf x x pg bg sg dV kV dc pm an cdv ct), sl⟩) (code : PySem.W.codeIn X.K cdv x = true)
    (b : L2.Binds X.K (PySem.W.fnOf x x pg bg sg dV kV dc pm an cdv ct) [a] []) (S : FnScope Ng [a] sg) (first : Ng[0]? = some a) (vis : Vis sg a) (give : GivesG X Ng x sg g cdv bg a (X.env.qual ++ "<lambda>") TT) (room : Room (k + 2) X.A) (G : LamGo X T c P params body scope ps dvs) (D : DefsOk X params dvs)
    (B : ∀ (A : Around) (outer : List Env) (s : Shared) (H : Hp) (E : XK) (f c' : Addr), Room k (A.deeper (lamEnv X scope s.heap.objs.size f c')) → PE (lamCx X A outer s H E scope f c') body (t E))
    (d0 : (x == ("__debug__" : Str)) = false := by decide) (d1 : (a == ("__debug__" : Str)) = false := by decide) (d2 : (a == ("__classdict__" : Str)) = false := by decide) :
    PE X (.Call (.Name x p) [.Lambda params body scope lp] [] pos) (tLam T TT t) := by
  constructor
  rintro pins s σ H Q I ⟨tabs, q⟩
  apply wpAny_Call_Name_kw (ld_glob I glob mgx ?_ d0)
  refine PySem.W.callWith_K (h₀ := X.base) I.ok.mod.kin kp ?_ (by rfl) (by rfl)
  refine Calls.spliced_cons (lam_make I G D tabs ?_)
  rintro f t1 ⟨c', dV', dc', pm', ctv, us, H1, J, grow, T1, isF, nF, oF, dv, rv, isC⟩
  refine Calls.spliced_nil ⟨J.kIn, wpAny_call ?_⟩
  have go := taken (Q := Q) look code S room J.env0 (b t1 [.ref f] J.kIn rfl) (show L2.RelV (.ref f) (.ref f) from rfl) fun r =>
    give f c' t1 H1 Q (fun E G Q' => t E σ G Q') (fun W pn xe E p1 p2 tk sub => pe_act3 (i := 0) J G.L isF nF oF dv rv G.binds G.pl tk sub r (fun A outer s H r2 => B A outer s H E f c' r2) first vis d1 d2) isC (q H1 grow T1)
  apply codeAny_mono go
  rintro (e | fl) t2 z
  · exact (show False from z).elim
  · cases fl with
    | ret u => exact J.after z
    | next => exact z.elim
    | brk => exact z.elim
    | cont => exact z.elim
end
end Rp
namespace Rp
open PySem PySem.Spec PyProof.Rows L2 LamX
/-! ### defs that errors may leave -/
theorem pass0X {X : Cx} {σ : L2.St} : PassesAt (L2.CX X.prog X.w) X σ E0 := fun _ _ _ _ _ _ c => by
  obtain ⟨_, _, _, _, _, _, _, _, _, _, _, _, z⟩ := c
  exact z.elim
/-- a def that errors may leave, as its callers know it -/
structure CalX (P : Program) (w : World) (K : PySem.W.Frag) (mg : Str → Option Value) (base : Heap) (x : Str) (k : Nat) (f : Addr) (fd : FuncData) (ps : List Str) (sp : Sp) : Prop where
  F : FnOk P w K mg base (L2.CX P w) k f fd ps sp
  mgf : mg x = some (.ref f)
  kp : PySem.W.keepIn K (.ref f) = true
  b : Binds K fd ps []
def tGoE (sp : Sp) (E : XK) (t : TA) : TE := fun σ H Q => t σ H fun vs G => sp vs G Q E
theorem r_goE {sp : Sp} {E : XK} {t : TA} {σ : L2.St} {H : Hp} {Q : VK} (h : t σ H fun vs G => sp vs G Q E) : tGoE sp E t σ H Q := h
section
variable {X : Cx} {k : Nat} {f : Addr} {fd : FuncData} {ps ks : List Str} {sp : Sp} {x : Str} {p pos : Pos} {e : Expr} {es : List Expr} {t tk : TA} {kws : List Keyword} {E : XK}
/-- called where no error may come -/
theorem pe_goX (c : CalX X.prog X.w X.K X.mg X.base x k f fd ps sp) (r : Room k X.A) (hg : Gl X x) (ha : PA X (e :: es) t) (d1 : (x == ("__debug__" : Str)) = false := by decide)
    (d2 : starEach (e :: es) X.env = (false, eval e X.env) :: starEach es X.env := by rfl) (d3 : (backTo pos (starEach es X.env)).any (·.1) = false := by rfl) : PE X (.Call (.Name x p) (e :: es) [] pos) (tGo sp t) :=
  pe_callS (E := fun _ => E0) c.F r hg c.mgf c.kp c.b (fun _ => pass0X) ha d1 d2 d3
/-- called where an error is E's -/
theorem pe_goE (c : CalX X.prog X.w X.K X.mg X.base x k f fd ps sp) (r : Room k X.A) (tk : Takes X (fun cls d _ H => E cls d H)) (hg : Gl X x) (ha : PA X (e :: es) t) (d1 : (x == ("__debug__" : Str)) = false := by decide)
    (d2 : starEach (e :: es) X.env = (false, eval e X.env) :: starEach es X.env := by rfl) (d3 : (backTo pos (starEach es X.env)).any (·.1) = false := by rfl) : PE X (.Call (.Name x p) (e :: es) [] pos) (tGoE sp E t) :=
  pe_callS (E := WE fun cls d _ H => E cls d H) c.F r hg c.mgf c.kp c.b (fun σ => passAt tk σ) ha d1 d2 d3
/-- what the callee does, from the caller's state -/
theorem goesX {pins : List (Addr × Obj)} {σ : L2.St} {H : Hp} {s : Shared} {Q : VK} {args : Args} {us : List Value} {vs : List V} (F : FnOk X.prog X.w X.K X.mg X.base (L2.CX X.prog X.w) k f fd ps sp) (r : Room k X.A)
    (I : Inv X pins σ H s) (b : BindsTo s fd args (ps.zip us)) (rel : Vals vs us) (q : sp vs H Q E0) : codeAny (model X.prog X.w) X.A (.call (.ref f) args) (fun a s2 => ∃ u, a = .ok (.ret u) ∧ EP X pins σ Q u s2) s := by
  apply codeAny_mono (F.run X.A X.stack s H args us vs Q E0 r I.env0 b rel q)
  intro a s2 h
  rcases a with er | fl
  · obtain ⟨_, _, _, _, _, _, _, _, _, _, _, _, z⟩ := h
    exact z.elim
  · cases fl with
    | ret u => exact ⟨u, rfl, I.after h⟩
    | next => exact h.elim
    | brk => exact h.elim
    | cont => exact h.elim
theorem pe_kwX {ix : List Nat} (c : CalX X.prog X.w X.K X.mg X.base x k f fd ps sp) (hb : KBx X.K fd ps 0 ks ix) (r : Room k X.A) (hg : Gl X x) (hkw : PK X kws tk)
    (d4 : (backToKw pos (keywordEach kws X.env)).all (·.1.isSome) = true := by rfl) (d5 : (backToKw pos (keywordEach kws X.env)).filterMap (·.1) = ks := by rfl) (d1 : (x == ("__debug__" : Str)) = false := by decide)
    (d3 : (backToKw pos (keywordEach kws X.env)).any (·.1.isNone) = false := by rfl) : PE X (.Call (.Name x p) [] kws pos) (tKw sp 0 ks.length ix E0 L2.tNil tk) := by
  constructor
  intro pins s σ H Q I h
  apply wpAny_Call_Name_kw (ld_glob I hg c.mgf ?_ d1)
  apply PySem.W.callWith_KW0 (h₀ := X.base) I.ok.mod.kin c.kp d4 ?_ d3
  apply thn (hkw.run pos pins s σ H _ I h)
  rintro ws s2 ⟨zs, H2, I2, rz, _, lz, q⟩
  refine ⟨I2.kIn, ?_⟩
  rw [d5]
  apply wpAny_call
  have lw : ws.length = ks.length := by rw [← rz.length]; exact lz
  apply codeAny_mono (goesX c.F r I2 (hb.to s2 [] ws rfl lw) (vals_ix (.append .nil rz) ix) q)
  rintro a s3 ⟨u, rfl, z⟩
  exact z
end
/-! ### own errors with one field -/
def spIni1 (C : Addr) (f : Str) : Sp := fun vs H Q _ => ∃ a v, vs = [.ref a, v] ∧ H a = some (exo a C none) ∧ ∀ dx, H dx = none → dx ≠ a → Q .non (upd (upd H dx (exd dx [(f, v)])) a (exo a C (some dx)))
/-- what the written part says of an error's class x at C, whose __init__ at fI keeps its one argument as f -/
structure Err1 (P : Program) (w : World) (K : PySem.W.Frag) (mg : Str → Option Value) (base : Heap) (x : Str) (C : Addr) (f : Str) : Prop where
  g : mg x = some (.ref C)
  oex : OexC K C
  no : PySem.W.findIn K (.ref C) f = some none
  xf : XfC K C
  ini : ∃ (fI : Addr) (fd : FuncData) (ps : List Str), PySem.W.findIn K (.ref C) "__init__" = some (some (.ref fI)) ∧ PySem.W.typeIn K (.ref fI) = some (.type "function") ∧ Binds K fd ps [] ∧
    FnOk P w K mg base CX0 1 fI fd ps (spIni1 C f)
/-- x(e), raised: the error's own dict is new -/
def tErr (C : Addr) (f : Str) (te : TE) : L2.St → Hp → XK → Prop := fun σ H Q => te σ H fun v H1 => ∀ d, H1 d = none → Q (.ref C) (some d) (upd H1 d (.xd [(f, v)]))
theorem del_put {H : Hp} {a d : Addr} {o u o2 : HO} {fs : List (Str × V)} (na : H a = none) (ne : d ≠ a) : upd (del (upd (upd (upd H a o) d u) a o2) a) d (.xd fs) = upd H d (.xd fs) := by
  funext b
  by_cases hd : b = d
  · rw [hd, upd_same, upd_same]
  · rw [upd_ne hd, upd_ne hd]
    by_cases ha : b = a
    · rw [ha, del_same, na]
    · rw [del_ne ha, upd_ne ha, upd_ne hd, upd_ne ha]
/-- a reading with room: weaker ends follow -/
def tMono (te : TE) : TE := fun σ H R => ∃ R0 : VK, te σ H R0 ∧ ∀ v G, R0 v G → R v G
theorem pe_mono {X : Cx} {e : Expr} {te : TE} (he : PE X e te) : PE X e (tMono te) :=
  ⟨fun pins s σ H Q I ⟨R0, h, m⟩ => wpAny_mono (he.run pins s σ H R0 I h) (fun u s1 ⟨v, G, J, r, q⟩ => ⟨v, G, J, r, m v G q⟩) fun _ _ z => z⟩
theorem pmk_err1 {X : Cx} {x f : Str} {C : Addr} {e : Expr} {te : TE} {p pos : Pos} (T : Err1 X.prog X.w X.K X.mg X.base x C f) (hr : Room 2 X.A) (hg : Gl X x) (he : PE X e te) (d1 : (x == ("__debug__" : Str)) = false := by decide)
    (d2 : starEach (e :: []) X.env = (false, eval e X.env) :: starEach [] X.env := by rfl) (d3 : (backTo pos (starEach [] X.env)).any (·.1) = false := by rfl) : PMk X (.Call (.Name x p) [e] [] pos) (tErr C f te) := by
  obtain ⟨fI, fd, ps, h1, h2, h3, h4⟩ := T.ini
  intro pins s σ H Q I h
  refine pmk_oex T.oex h1 h2 h4 hr h3 .nil (fun _ _ _ _ _ _ _ z => z.elim) hg T.g (pa_cons (pe_mono he) pa_nil d2) d1 d2 d3 pins s σ H Q I ?_
  refine ⟨_, h, fun v H1 k => ⟨by show 1 ≤ 1000; decide, fun a na => ⟨a, v, rfl, upd_same, fun dx nd ne => ⟨rfl, dx, [(f, v)], upd_same, ?_, ?_, ?_⟩⟩⟩⟩
  · rw [upd_ne ne, upd_same]
  · rw [upd_ne ne] at nd
    exact nd
  · rw [upd_ne ne] at nd
    rw [del_put na ne]
    exact k dx nd
/-! ### a def whose code object is known -/
structure FunC (K : PySem.W.Frag) (x qual : Str) (st : Stmt) (f : Addr) (fd : FuncData) (c : Addr) : Prop where
  ex : ∃ (oc : Value) (od : Option Addr) (kV doc pm : Value) (an : Option Addr) (ct : Value) (osl : Array (Option Value)),
    fd = PySem.W.fnOf x qual (defArgs st) (defBody st) (defScope st) .none kV doc pm an (.ref c) ct ∧ K.lookup f = some ⟨oc, od, .func fd, osl⟩ ∧ PySem.W.codeIn K (.ref c) qual = true
section
variable {P : Program} {w : World} {K : PySem.W.Frag} {mg : Str → Option Value} {base : Heap} {k : Nat} {f : Addr} {fd : FuncData} {ps : List Str} {sp : Sp}
theorem fngC {x qual : Str} {st : Stmt} {N : List Str} {c : Addr} (F : FunC K x qual st f fd c) (S : FnScope N ps (defScope st)) (ar : ∀ {vs H Q E}, sp vs H Q E → vs.length = ps.length)
    (body : ∀ {A : Around} {fr : List Env} {s : Shared} {H : Hp} {vs : List V} {Q : VK} {E : XK}, A.guards = some [] → Room k (A.deeper (envOfC qual (defScope st) s.heap.objs.size f (.ref c))) → sp vs H Q E →
      ∃ t, PSs (cxOf CX0 P w K mg base N qual (defScope st) f (.ref c) A fr s H E).nox (defBody st) t ∧ t ⟨fun _ G => Q .non G, Q, fun _ _ => False, fun _ _ => False⟩ (L2.start N vs) H) : FnG P w K mg base (k + 1) f fd ps sp := by
  generalize hcd : Value.ref c = cdv at body
  obtain ⟨oc, od, kV, dc, pm, an, ct, sl, e, look, code⟩ := F.ex
  rw [hcd] at e code
  subst e
  constructor
  · exact ar
  intro A fr s H args us vs Q E hg room env bind rel q
  have size := ar q
  have kin := env.mod.kin.keeps fun b o z => (env.bs b o z).1
  have nolim := env.mod.nolimit.keeps fun b o z => (env.bs b o z).1
  have knd : ∀ p ∈ ps.zip us, (defScope st).names.lookup p.1 = some .local ∨ ((defScope st).names.lookup p.1 = some .cell ∧ ((cellsFrom (s.heap.objs.size + 1) (defScope st).names []).lookup p.1).isSome = true) := by
    rintro ⟨n, v⟩ hp
    exact (S.par n (List.of_mem_zip hp).1).imp id fun z => ⟨z, PySem.W.cellsFrom_some _ _ _ (.inl z)⟩
  apply codeAny_call_function room.depth (kin _ _ look) rfl S.co S.gen rfl (PySem.W.codeRec_of kin code)
  apply bind
  apply wpAny_newFunctionEnv_cells S.kind knd
  intro en he s1 ic
  subst he
  refine ⟨nolim.keeps ic.toInCall.keep, codeAny_func ?_⟩
  obtain ⟨t, pt, rd⟩ := body (fr := fr) (E := E) hg (room.deeper _) q
  have inv : Inv (cxOf CX0 P w K mg base N qual (defScope st) f cdv A fr s H E) [] (L2.start N vs) H s1 := inv_start S room.hd env size rel ic
  apply wpAny_mono (pt.nox.run [] s1 (L2.start N vs) H _ inv rd)
  · intro fl s2 hs
    cases fl with
    | ret u => obtain ⟨v, τ, G, J, r, z⟩ := hs; exact ⟨v, G, J.os, J.bare, J.base, J.hok, r, z⟩
    | next => obtain ⟨τ, G, J, z⟩ := hs; exact ⟨.non, G, J.os, J.bare, J.base, J.hok, rfl, z⟩
    | brk => obtain ⟨_, _, _, z⟩ := hs; exact z.elim
    | cont => obtain ⟨_, _, _, z⟩ := hs; exact z.elim
  · intro er s2 hs
    exact hs
end
/-! ### the law's call, with tables of code objects -/

/-- what is tracked as the law begins: the tables, empty, and the script, if it is not written -/
def begun (cs : List (Addr × Addr)) (own : Option (Addr × HO)) : Hp := fun b => match own with
  | some (a, o) => if b = a then some o else if b ∈ cs.map (·.2) then some (.tbl #[]) else none
  | none => if b ∈ cs.map (·.2) then some (.tbl #[]) else none
theorem law_goTs {P : Program} {w : World} {K : PySem.W.Frag} {mg mb : Str → Option Value} {k : Nat} {fa a : Addr} {cs : List (Addr × Addr)} {fd : FuncData} {x : Str} {sp : Sp} {s : Shared} {us : List Value} {ns : List Int}
    (kin : K.In s.heap) (gl : s.heap.Ns mainGlobals mg) (bl : s.heap.Ns builtinsNs mb) (boot : ∀ y : Str, y ≠ "__name__" → mb y = bootBuiltins y) (nolim : s.heap.NoLimit) (mods : HasMods s.heap) (gen : s.gens = #[])
    (tab : ∀ p ∈ cs, s.heap.get? p.2 = some { cls := .none, data := .fields #[] }) (unw : ∀ p ∈ cs, K.lookup p.2 = none) (code : ∀ p ∈ cs, PySem.W.CodeHd s.heap p.1 p.2)
    (bmod : ∃ (bm : Addr) (ob : Obj), mg "__builtins__" = some (.ref bm) ∧ bm ≠ builtinsNs ∧ s.heap.get? bm = some ob ∧ ob.cls = .type "module" ∧ ob.dict = some builtinsNs ∧ ob.data = .plain)
    (ob : s.heap.get? a = some { cls := .type "list", data := .seq us.toArray }) (nums : IntsAre us ns) (size : ns.length ≤ sizeLine) (room : Room k callerA)
    (F : ∀ base : Heap, K.In base → base.Ns mainGlobals mg → HasMods base → (∀ p ∈ cs, TabB base mg p.1 p.2) → FnG P w K mg base k fa fd [x] sp) (bind : ∀ (t : Shared) (u : Value), BindsTo t fd ⟨[u], []⟩ [(x, u)])
    (prom : ∀ H : Hp, (∀ p ∈ cs, H p.2 = some (.tbl #[])) → SqL K H a (ns.map V.int) → sp [.ref a] H (fun v _ => v = .bl true) fun _ _ _ => False) :
    codeAny (model P w) callerA (.call (.ref fa) ⟨[.ref a], []⟩) (fun r t => r = .ok (.ret (.bool true)) ∧ OldK s.heap t.heap ∧ t.os = s.os ∧ AllBare t.gens) s := by
  have rel := vals_ints nums
  have seen : ∀ p ∈ cs, p.2 ∈ cs.map (·.2) := fun p m => List.mem_map_of_mem m
  have isTab : ∀ b ∈ cs.map (·.2), s.heap.get? b = some { cls := .none, data := .fields #[] } := by
    intro b m
    obtain ⟨p, mp, rfl⟩ := List.mem_map.mp m
    exact tab p mp
  have notA : a ∉ cs.map (·.2) := fun m => by
    have z := congrArg (Option.map Obj.data) (ob.symm.trans (isTab a m))
    cases z
  -- H tracks the tables, and the script, or not the script
  suffices main : ∀ own : Option (Addr × HO), (∀ b o, own = some (b, o) → b = a ∧ K.lookup a = none ∧ o = .frz { cls := .type "list", data := .seq us.toArray } (.lst (ns.map V.int))) → SqL K (begun cs own) a (ns.map V.int) →
      codeAny (model P w) callerA (.call (.ref fa) ⟨[.ref a], []⟩) (fun r t => r = .ok (.ret (.bool true)) ∧ OldK s.heap t.heap ∧ t.os = s.os ∧ AllBare t.gens) s by
    cases written : K.lookup a with
    | none => exact main (some (a, .frz { cls := .type "list", data := .seq us.toArray } (.lst (ns.map V.int)))) (fun b o z => by cases z; exact ⟨rfl, written, rfl⟩) (.inl (.inr ⟨_, if_pos rfl⟩))
    | some o =>
      cases ob.symm.trans (kin a o written)
      exact main none (fun b o z => nomatch z) (.inr ⟨_, us.toArray, _, written, rfl, rfl, rfl, by rw [List.size_toArray, nums.length]; exact size, by simpa using rel⟩)
  intro own isOwn seq
  generalize hH : begun cs own = H at seq
  -- what H tracks
  have kinds : ∀ b u, H b = some u → (b = a ∧ K.lookup a = none ∧ u = .frz { cls := .type "list", data := .seq us.toArray } (.lst (ns.map V.int))) ∨ (b ∈ cs.map (·.2) ∧ u = .tbl #[]) := by
    intro b u e
    rw [← hH] at e
    rcases own with _ | ⟨a', o⟩
    · have e' : (if b ∈ cs.map (·.2) then some (HO.tbl #[]) else none) = some u := e
      split at e'
      · exact .inr ⟨‹_›, (Option.some.inj e').symm⟩
      · cases e'
    · obtain ⟨rfl, n, rfl⟩ := isOwn a' o rfl
      have e' : (if b = a' then some _ else if b ∈ cs.map (·.2) then some (HO.tbl #[]) else none) = some u := e
      split at e'
      · exact .inl ⟨‹_›, n, (Option.some.inj e').symm⟩
      · split at e'
        · exact .inr ⟨‹_›, (Option.some.inj e').symm⟩
        · cases e'
  have tabs : ∀ b ∈ cs.map (·.2), H b = some (.tbl #[]) := by
    intro b m
    rw [← hH]
    rcases own with _ | ⟨a', o⟩
    · exact if_pos m
    · obtain ⟨rfl, _⟩ := isOwn a' o rfl
      exact (if_neg (by rintro rfl; exact notA m)).trans (if_pos m)
  have hok : HOk P w H s.heap := by
    intro b u e
    rcases kinds b u e with ⟨rfl, _, rfl⟩ | ⟨m, rfl⟩
    · exact ⟨ob, by rw [List.length_map]; exact size, us, _, rel, ob⟩
    · exact isTab b m
  have clear_ : ∀ {b o}, s.heap.get? b = some o → (∀ us n, o.data ≠ .seq us n) → o.data ≠ .fields #[] → H b = none := by
    intro b o e n1 n2
    cases z : H b with
    | none => rfl
    | some u =>
      rcases kinds b u z with ⟨rfl, _⟩ | ⟨m, _⟩
      · cases ob.symm.trans e
        exact (n1 _ _ rfl).elim
      · cases (isTab b m).symm.trans e
        exact (n2 rfl).elim
  have names : ∀ {b} {m : Str → Option Value}, s.heap.Ns b m → (hidT s.heap H).Ns b m := by
    rintro b m ⟨o, es, n, e, d, z⟩
    exact ⟨o, es, n, hidT_get e (clear_ e (by rw [d]; intro _ _ q; cases q) (by rw [d]; intro q; cases q)), d, z⟩
  have kin' : K.In (hidT s.heap H) := by
    intro b o e
    refine hidT_get (kin b o e) ?_
    cases z : H b with
    | none => rfl
    | some u =>
      rcases kinds b u z with ⟨rfl, n, _⟩ | ⟨m, _⟩
      · cases n.symm.trans e
      · obtain ⟨p, mp, rfl⟩ := List.mem_map.mp m
        cases (unw p mp).symm.trans e
  obtain ⟨mc, l1, l2⟩ := nolim
  have mod : L2.Mod K mg (hidT s.heap H) := ⟨kin', names gl, ⟨mb, names bl, boot⟩, ⟨mc, names l1, l2⟩⟩
  have TB : ∀ p ∈ cs, TabB (hidT s.heap H) mg p.1 p.2 := by
    intro p mp
    constructor
    · obtain ⟨o, vs, f1, t1, f2, t2, b3, i4, t4, e, kc, dt, tb, more⟩ := code p mp
      refine ⟨o, vs, f1, t1, f2, t2, b3, i4, t4, hidT_get e (clear_ e (by rw [dt]; intro _ _ q; cases q) ?_), kc, dt, tb, more⟩
      rw [dt]
      intro q
      cases q
      cases (show (none : Option Value) = some _ from tb)
    · obtain ⟨bm, o, g1, g2, g3, g4, g5, g6⟩ := bmod
      have apart : ∀ {b u}, s.heap.get? b = some u → u.data ≠ .plain → bm ≠ b := by
        rintro b u e n rfl
        cases g3.symm.trans e
        exact n g6
      refine ⟨bm, o, g1, g2, ?_, ?_, hidT_get g3 (clear_ g3 (by rw [g6]; intro _ _ q; cases q) (by rw [g6]; intro q; cases q)), g4, g5, g6⟩
      · obtain ⟨u, _, _, e, d, _⟩ := gl
        exact apart e (by rw [d]; intro q; cases q)
      · exact apart (tab p mp) (by intro q; cases q)
    · obtain ⟨u, _, _, e, d, _⟩ := gl
      intro q
      rw [q] at e
      cases (tab p mp).symm.trans e
      cases d
  have env : Env0 P w K mg (hidT s.heap H) callerA [] s H := ⟨rfl, mod, fun b o e => of_hidT e, Nat.le_of_eq (hidT_size _ _), trivial, fun b h => absurd (show b ∈ ([] : List Addr) from h) (by simp), hok, .of_eq gen⟩
  apply codeAny_mono ((F _ kin' (names gl) (mods.imp fun _ z => names z) TB).go (us := [.ref a]) (vs := [.ref a]) rfl room env (bind s (.ref a)) (.cons rfl .nil) (prom H (fun p mp => tabs _ (seen p mp)) seq))
  rintro (e | fl) t z
  · exact z.elim
  cases fl with
  | next => exact z.elim
  | brk => exact z.elim
  | cont => exact z.elim
  | ret u =>
    obtain ⟨v, G, os, bare, un, hok', rl, q⟩ := z
    cases (show v = .bl true from q)
    cases (show u = Value.bool true from rl)
    refine ⟨rfl, ?_, os, bare⟩
    have stay : ∀ b o, b ∉ cs.map (·.2) → s.heap.get? b = some o → t.heap.get? b = some o := by
      intro b o n e
      cases z : H b with
      | none => exact un.keep b o e z (by simp [frs]) (by simp)
      | some u =>
        rcases kinds b u z with ⟨rfl, _, rfl⟩ | ⟨m, _⟩
        · cases ob.symm.trans e
          exact (hok' b _ (un.frzs b _ _ z)).1
        · exact (n m).elim
    have grown : ∀ p ∈ cs, ∃ more : Array Value, t.heap.get? p.2 = some { cls := .none, data := .fields more } := by
      intro p mp
      obtain ⟨more, z⟩ := un.tbls p.2 #[] (tabs _ (seen p mp))
      exact ⟨_, hok' p.2 _ z⟩
    constructor
    · intro b o e
      by_cases m : b ∈ cs.map (·.2)
      · obtain ⟨p, mp, rfl⟩ := List.mem_map.mp m
        obtain ⟨more, z⟩ := grown p mp
        cases (tab p mp).symm.trans e
        exact .inr (.inl ⟨((code p mp).tab (tab p mp)).isCodeTable, rfl, #[], more, rfl, by rw [Array.empty_append]; exact z⟩)
      · exact .inl (stay b o m e)
    · intro b o e
      by_cases m : b ∈ cs.map (·.2)
      · obtain ⟨p, mp, rfl⟩ := List.mem_map.mp m
        obtain ⟨more, z⟩ := grown p mp
        exact ⟨_, z⟩
      · exact ⟨o, stay b o m e⟩
/-- what k_head leaves, from the law's promise, with tables -/
theorem walk_GT {l : PySem.W.OpenLaw} {n k : Nat} {q : Program} {loose : List Str} {XP : (Str → Option Value) → Heap → Prop} {YP : World → Heap → Prop} {d : DefRec} {K : Params → PySem.W.Frag} {cs : List (Addr × Addr)} {sp : PySem.W.Frag → Sp} {x : Str}
    (none : importsNone q = true) (hn : l.most = some n) (hn2 : n ≤ sizeLine) (hdf : d.params.defaults = []) (room : Room k callerA) (hY : ∀ (w : World) (h : Heap), YP w h → (K w.params).In h)
    (hT : ∀ (w : World) (h : Heap), YP w h → ∀ p ∈ cs, h.get? p.2 = some { cls := .none, data := .fields #[] }) (hC : ∀ (w : World) (h : Heap), YP w h → ∀ p ∈ cs, PySem.W.CodeHd h p.1 p.2) (nT : ∀ w : World, ∀ p ∈ cs, (K w.params).lookup p.2 = .none)
    (F : ∀ (w : World) (mg : Str → Option Value) (fa : Addr) (h : Heap), (K w.params).In h → h.Ns mainGlobals mg → mg d.name = some (.ref fa) →
      ∃ fd : FuncData, (∀ (t : Shared) (u : Value), BindsTo t fd ⟨[u], []⟩ [(x, u)]) ∧ ∀ base : Heap, (K w.params).In base → base.Ns mainGlobals mg → HasMods base → (∀ p ∈ cs, TabB base mg p.1 p.2) → FnG l.prog w (K w.params) mg base k fa fd [x] (sp (K w.params)))
    (prom : ∀ (K : PySem.W.Frag) (H : Hp) (a : Addr) (ns : List Int), ns.length ≤ n → (∀ p ∈ cs, H p.2 = some (.tbl #[])) → SqL K H a (ns.map V.int) → sp K [.ref a] H (fun v _ => v = .bl true) fun _ _ _ => False) :
    PySem.W.WalkO q loose XP YP l.row.toRowW d [] (fun f vs => PySem.call f vs) := by
  apply Att.attach_call hn hdf
  intro w s0 s1 mg mb fa o pm cd dc a us ns G Y _ _ _ hmg hobj nums hlen hg
  have md : HasMods s1.heap := let ⟨mm, z, _⟩ := (G.T.seer none).mods; ⟨mm, z⟩
  obtain ⟨fd, hb, hF⟩ := F w mg fa _ (hY w _ Y) G.T.g hmg
  exact law_goTs (hY w _ Y) G.T.g G.T.b G.T.builtins G.T.nolimit md hg (hT w _ Y) (nT w) (hC w _ Y) G.T.bmain hobj nums (Nat.le_trans hlen hn2) room hF hb fun H hH hS => prom _ H a ns hlen hH hS
end Rp
namespace Rp
open PySem PySem.Spec PyProof.Rows L2
/-- the rule for a def that errors may leave -/
theorem fnx {P : Program} {w : World} {K : PySem.W.Frag} {mg : Str → Option Value} {base : Heap} {k : Nat} {f : Addr} {fd : FuncData} {ps : List Str} {sp : Sp} {x qual : Str} {st : Stmt} {N : List Str} (F : Fun K x qual st f fd) (S : FnScope N ps (defScope st)) (ar : ∀ {vs H Q E}, sp vs H Q E → vs.length = ps.length)
    (body : ∀ {cdv : Value} {A : Around} {fr : List Env} {s : Shared} {H : Hp} {vs : List V} {Q : VK} {E : XK}, Room k (A.deeper (envOfC qual (defScope st) s.heap.objs.size f cdv)) → sp vs H Q E →
      ∃ t, PSs (cxOf (L2.CX P w) P w K mg base N qual (defScope st) f cdv A fr s H E) (defBody st) t ∧ t ⟨fun _ G => Q .non G, Q, fun _ _ => False, fun _ _ => False⟩ (L2.start N vs) H) : FnOk P w K mg base (L2.CX P w) (k + 1) f fd ps sp :=
  F.okX S (fun _ _ _ _ h => ar h) fun _ _ _ _ _ _ _ _ r h => body r h
/-- an error of one field is E's -/
def errAt (E : XK) (C : Addr) (f : Str) (v : V) (H : Hp) : Prop := ∀ d, H d = none → E (.ref C) (some d) (upd H d (.xd [(f, v)]))
def spDemClock (C : Addr) : Sp := fun vs H Q E => ∃ q v, vs = [v] ∧ Any q H v ∧ (clk v = true → Q .non H) ∧ (clk v = false → errAt E C "part" (.str "clock") H)
def spDemWithin (C : Addr) : Sp := fun vs H Q E => ∃ q v lo hi part, vs = [v, oV lo, oV hi, .str part] ∧ Any q H v ∧ (inB v lo hi = true → Q .non H) ∧ (inB v lo hi = false → errAt E C "part" (.str part) H)
/-- a row of the clock, of lo to hi numbers -/
def rowOk (o : Option (List V)) (clock lo hi : Int) : Bool :=
  match o with
  | none => false
  | some xs => (decide (lo ≤ (xs.length : Int)) && decide ((xs.length : Int) ≤ hi)) && xs.all fun x => inB x (some 0) (some (clock - 1))
def spDemRow (C : Addr) : Sp := fun vs H Q E => ∃ q v o clock lo hi part, vs = [v, .int clock, .int lo, .int hi, .str part] ∧ RowV q H v o ∧ clk (.int clock) = true ∧ (∀ xs, o = some xs → xs.length < sizeLine) ∧
  ∀ H', Same H H' → (rowOk o clock lo hi = true → Q .non H') ∧ (rowOk o clock lo hi = false → errAt E C "part" (.str part) H')
section
variable {K : PySem.W.Frag} {σ : L2.St} {H : Hp} {Q : XK} {W : WX} {D : Ends} {te : TE} {C : Addr} {f : Str} {sp : Sp} {t : TA} {E : XK} {Q' : VK} {tm : L2.St → Hp → XK → Prop}
theorem r_izipA {K : PySem.W.Frag} {ta : TA} {σ : L2.St} {H : Hp} {R : It → Hp → Prop} (h : ta σ H fun vs H1 => ∃ a b xs ys, vs = [.ref a, .ref b] ∧ ((SqL K H1 a xs ∧ SqL K H1 b ys ∧ R (Itz K a b) H1) ∨ (SqT K H1 a xs ∧ SqT K H1 b ys ∧ R (RZ.ItzT K a b) H1))) : RZ.iZipA K ta σ H R := h
theorem r_izip {K : PySem.W.Frag} {ta : TA} {σ : L2.St} {H : Hp} {R : It → Hp → Prop} (h : ta σ H fun vs H1 => ∃ a b xs ys, vs = [.ref a, .ref b] ∧ SqL K H1 a xs ∧ SqL K H1 b ys ∧ R (Itz K a b) H1) : iZip K ta σ H R := h
theorem r_err (h : te σ H fun v H1 => ∀ d, H1 d = none → Q (.ref C) (some d) (upd H1 d (.xd [(f, v)]))) : tErr C f te σ H Q := h
theorem r_raise (h : tm σ H fun cls d H' => E cls d H') : (fun (_ : Ends) σ H => tm σ H fun cls d H' => (fun cls d (_ : L2.St) H => E cls d H) cls d σ H') D σ H := h
end
end Rp
namespace Rp
open PySem PySem.Spec PyProof.Rows L2
/-! ### what a caught error is asked -/
/-- isinstance(e, C): e a tracked error, or any value of a kind that is known -/
def rIsO (K : PySem.W.Frag) : List V → Hp → VK → Prop := fun xs H Q => rIsT K xs H Q ∨ rIsi K xs H Q
theorem call_isO {X : Cx} : CallR X (.builtin "isinstance") (rIsO X.K) := by
  intro pins s σ H xs us Q I r h
  rcases h with h | h
  · exact call_isT pins s σ H xs us Q I r h
  · exact call_isi pins s σ H xs us Q I r h
/-- an error's class, as a clause and isinstance see it -/
structure ErrK (K : PySem.W.Frag) (C top : Addr) (f : Str) : Prop where
  ex : ExcC K C
  xf : XfC K C
  no : PySem.W.findIn K (.ref C) f = some none
  up : PySem.W.exmOne K (.ref C) (.ref top) = some true
  nn : PySem.W.kitOne K (.type "NoneType") (.ref C) = some false
section
variable {K : PySem.W.Frag} {H : Hp} {Q : VK} {a C D top dx : Addr} {fs : List (Str × V)} {f : Str} {b : Bool} {σ : L2.St} {te : TE}
theorem r_isE (T : ErrK K C top f) (ha : H a = some (ErO a (.ref C) (some dx))) (hd : H dx = some (.xd fs)) (k : PySem.W.kitOne K (.ref C) (.ref D) = some b) (h : Q (.bl b) H) : rIsO K [.ref a, .ref D] H Q :=
  .inl ⟨a, C, dx, fs, .ref D, .ref D, b, rfl, T.ex, ha, hd, fun _ r => r, k, h⟩
theorem r_isNo (T : ErrK K D top f) (h : Q (.bl false) H) : rIsO K [.non, .ref D] H Q := .inr ⟨.non, .ref D, _, .ref D, false, rfl, .own D, .base .non, T.nn, h⟩
theorem r_xt {n : Str} (h : te σ H fun x H1 => ∃ (a C dd : Addr) (fs : List (Str × V)) (v : V), x = .ref a ∧ XfC K C ∧ PySem.W.findIn K (.ref C) n = some none ∧ H1 a = some (ErO a (.ref C) (some dd)) ∧ H1 dd = some (.xd fs) ∧ fs.lookup n = some v ∧ Q v H1) : tXt K n te σ H Q := h
end
/-- the slots are as many as the names -/
theorem takes_len {X : Cx} {W : WX} (h : Takes X W) : Takes X (fun cls d σ H => σ.length = X.N.length → W cls d σ H) := by
  rintro u s' ⟨a, B, sI, pins, σ, H, cls, d, e1, I, e2, e3, e4, e5, e6, e7, w⟩
  exact h u s' ⟨a, B, sI, pins, σ, H, cls, d, e1, I, e2, e3, e4, e5, e6, e7, w I.len⟩
/-- the try's body, where what was got is called -/
def tTake (f c' : Addr) (q : Str) (n : Nat) (tl : XK → Hp → VK → Prop) (W : WX) : TS := fun D σ H => ∃ (Ech : XK) (R0 : VK), (∀ cls d σ' H', Ech cls d H' → σ'.length = n → W cls d σ' H') ∧ σ[0]? = some (some (.ref f)) ∧ H c' = some (LamX.CodeO c' q) ∧ tl Ech H R0 ∧ ∀ v G, R0 v G → D.nx σ G
theorem pss_take {X : Cx} {f c' : Addr} {q a : Str} {n : Nat} {tl : XK → Hp → VK → Prop} {W : WX} {p1 p2 p3 : Pos} (ln : X.N.length = n) (tk : Takes X W)
    (act : ∀ E : XK, Takes X (fun cls d σ H => σ.length = X.N.length → W cls d σ H) → (∀ cls d σ' H', E cls d H' → σ'.length = X.N.length → W cls d σ' H') → PE X (.Call (.Name a p1) [] [] p2) (fun σZ HZ Q => σZ[0]? = some (some (.ref f)) ∧ HZ c' = some (LamX.CodeO c' q) ∧ tl E HZ Q))
    (sw : swapsWith (.Call (.Name a p1) [] [] p2) none p3.line X.env = pure false := by rfl) : PSs X [.Expr (.Call (.Name a p1) [] [] p2) p3] (tTake f c' q n tl W) := by
  constructor
  rintro pins s σ H D I ⟨Ech, R0, h1, h2, h3, h4, h5⟩
  have hp := act Ech (takes_len tk) fun cls d σ' H' e l => h1 cls d σ' H' e (l.trans ln)
  exact (pss_one (ps_expr (pe_mono hp) sw)).run pins s σ H D I ⟨R0, ⟨h2, h3, h4⟩, h5⟩
end Rp
namespace Rp
open PySem PySem.Spec PyProof.Rows L2 LamX
section
variable {K : PySem.W.Frag} {σ : L2.St} {H : Hp} {Q : VK} {T : List (Addr × Str)} {TT : (XK → Hp → VK → Prop) → Hp → VK → Prop} {t : XK → TE}
theorem r_lam (h : Tabs T H ∧ ∀ H1, ExtN H H1 → Tabs T H1 → TT (fun E H' Q' => t E σ H' Q') H1 Q) : tLam T TT t σ H Q := h
end
theorem any_ext {q : Addr} {H H' : Hp} {v : V} (h : Any q H v) (x : ExtN H H') : Any q H' v := by
  cases h with
  | non => exact .non
  | bl b => exact .bl b
  | num i => exact .num i
  | str z => exact .str z
  | lst n e => exact .lst n (x _ _ e fun _ z => by cases z)
  | tup n e => exact .tup n (x _ _ e fun _ z => by cases z)
  | dic n e => exact .dic n (x _ _ e fun _ z => by cases z)
theorem row_ext {q : Addr} {H H' : Hp} {v : V} {o : Option (List V)} (h : RowV q H v o) (x : ExtN H H') : RowV q H' v o := by
  cases h with
  | non => exact .non
  | bl b => exact .bl b
  | num i => exact .num i
  | str z => exact .str z
  | lst n e it => exact .lst n (x _ _ e fun _ z => by cases z) fun v m => any_ext (it v m) x
  | tup n e it => exact .tup n (x _ _ e fun _ z => by cases z) fun v m => any_ext (it v m) x
  | dic n e => exact .dic n (x _ _ e fun _ z => by cases z)
theorem ext_same {H H1 H2 : Hp} (x : ExtN H H1) (s : Same H1 H2) : ExtN H H2 := x.trans (ExtN.of s)
theorem ext_neu {H H1 : Hp} {p : Addr} {o : HO} (x : ExtN H H1) (hp : H1 p = none) : ExtN H (upd H1 p o) := ext_same x (same_neu (Same.refl _) hp)
theorem tabs_same {T : List (Addr × Str)} {H H' : Hp} (t : Tabs T H) (s : Same H H') : Tabs T H' := t.ext s
end Rp
namespace Rp
open PySem PySem.Spec PyProof.Rows L2 LamX
/-! ### deeds: pairs of a word and a gap -/
theorem at20 {a b : V} : atI [a, b] 0 = some a := rfl
theorem at21 {a b : V} : atI [a, b] 1 = some b := rfl
abbrev Dl := List (Str × Int)
def W5 : List Str := ["over", "under", "join", "open", "turn"]
inductive DsV (q : Addr) (H : Hp) : List V → Dl → Prop
  | nil : DsV q H [] []
  | cons {t : Addr} {w : Str} {g : Int} {vs : List V} {ds : Dl} (n : t ≠ q) (e : H t = some (.tup [.str w, .int g])) (r : DsV q H vs ds) : DsV q H (.ref t :: vs) ((w, g) :: ds)
section
variable {q p : Addr} {H H' : Hp} {vs us : List V} {ds es : Dl} {v : V} {o : HO} {i : Nat}
theorem DsV.but (b : But q H H') : ∀ {vs : List V} {ds : Dl}, DsV q H vs ds → DsV q H' vs ds
  | _, _, .nil => .nil
  | _, _, .cons n e r => .cons n (b _ _ n e) (r.but b)
theorem DsV.ext (x : ExtN H H') : ∀ {vs : List V} {ds : Dl}, DsV q H vs ds → DsV q H' vs ds
  | _, _, .nil => .nil
  | _, _, .cons n e r => .cons n (x _ _ e fun _ z => by cases z) (r.ext x)
theorem DsV.keep (f : ∀ t xs, H t = some (.tup xs) → H' t = some (.tup xs)) : ∀ {vs : List V} {ds : Dl}, DsV q H vs ds → DsV q H' vs ds
  | _, _, .nil => .nil
  | _, _, .cons n e r => .cons n (f _ _ e) (r.keep f)
theorem DsV.len : ∀ {vs : List V} {ds : Dl}, DsV q H vs ds → vs.length = ds.length
  | _, _, .nil => rfl
  | _, _, .cons _ _ r => by rw [List.length_cons, List.length_cons, r.len]
theorem DsV.at : ∀ {vs : List V} {ds : Dl} {i : Nat}, DsV q H vs ds → vs[i]? = some v → ∃ t w g, v = .ref t ∧ t ≠ q ∧ H t = some (.tup [.str w, .int g]) ∧ ds[i]? = some (w, g)
  | _, _, i, .nil, h => by simp at h
  | _, _, 0, .cons n e _, h => by
    have h' := Option.some.inj h
    exact ⟨_, _, _, h'.symm, n, e, rfl⟩
  | _, _, i + 1, .cons _ _ r, h => r.at (i := i) (by simpa using h)
theorem DsV.app (k : DsV q H vs ds) (h : DsV q H us es) : DsV q H (vs ++ us) (ds ++ es) := by
  induction k with
  | nil => exact h
  | cons n e r ih => exact .cons n e ih
theorem DsV.one {t : Addr} {w : Str} {g : Int} (n : t ≠ q) (e : H t = some (.tup [.str w, .int g])) : DsV q H [.ref t] [(w, g)] := .cons n e .nil
theorem DsV.take : ∀ {vs : List V} {ds : Dl} (k : Nat), DsV q H vs ds → DsV q H (vs.take k) (ds.take k)
  | _, _, 0, _ => by rw [List.take_zero, List.take_zero]; exact .nil
  | _, _, k + 1, .nil => by rw [List.take_nil, List.take_nil]; exact .nil
  | _, _, k + 1, .cons n e r => by rw [List.take_succ_cons, List.take_succ_cons]; exact .cons n e (r.take k)
theorem DsV.drop : ∀ {vs : List V} {ds : Dl} (k : Nat), DsV q H vs ds → DsV q H (vs.drop k) (ds.drop k)
  | _, _, 0, h => by rw [List.drop_zero, List.drop_zero]; exact h
  | _, _, k + 1, .nil => by rw [List.drop_nil, List.drop_nil]; exact .nil
  | _, _, k + 1, .cons n e r => by rw [List.drop_succ_cons, List.drop_succ_cons]; exact r.drop k
theorem DsV.set {t : Addr} {w : Str} {g : Int} (n : t ≠ q) (e : H t = some (.tup [.str w, .int g])) : ∀ {vs : List V} {ds : Dl} (k : Nat), DsV q H vs ds → DsV q H (vs.set k (.ref t)) (ds.set k (w, g))
  | _, _, k, .nil => by rw [List.set_nil, List.set_nil]; exact .nil
  | _, _, 0, .cons _ _ r => .cons n e r
  | _, _, k + 1, .cons n2 e2 r => .cons n2 e2 (r.set n e k)
theorem DsV.rep {t : Addr} {w : Str} {g : Int} (n : t ≠ q) (e : H t = some (.tup [.str w, .int g])) : ∀ k : Nat, DsV q H (List.replicate k (.ref t)) (List.replicate k (w, g))
  | 0 => .nil
  | k + 1 => .cons n e (DsV.rep n e k)
end
/-- the words are words, the gaps gaps of some ring -/
def Typ (b : Int) (ds : Dl) : Prop := ∀ d ∈ ds, d.1 ∈ W5 ∧ 0 ≤ d.2 ∧ d.2 ≤ b
theorem Typ.nil {b : Int} : Typ b [] := fun _ m => nomatch m
theorem Typ.app {b : Int} {ds es : Dl} (h : Typ b ds) (k : Typ b es) : Typ b (ds ++ es) := fun d m => (List.mem_append.mp m).elim (h d) (k d)
theorem Typ.one {b : Int} {w : Str} {g : Int} (hw : w ∈ W5) (h0 : 0 ≤ g) (h1 : g ≤ b) : Typ b [(w, g)] := fun d m => by rw [List.mem_singleton.mp m]; exact ⟨hw, h0, h1⟩
theorem Typ.take {b : Int} {ds : Dl} (h : Typ b ds) (k : Nat) : Typ b (ds.take k) := fun d m => h d (List.mem_of_mem_take m)
theorem Typ.drop {b : Int} {ds : Dl} (h : Typ b ds) (k : Nat) : Typ b (ds.drop k) := fun d m => h d (List.mem_of_mem_drop m)
theorem Typ.set {b : Int} {ds : Dl} {w : Str} {g : Int} (h : Typ b ds) (hw : w ∈ W5) (h0 : 0 ≤ g) (h1 : g ≤ b) (k : Nat) : Typ b (ds.set k (w, g)) := fun d m => by
  rcases List.mem_or_eq_of_mem_set m with z | z
  · exact h d z
  · rw [z]; exact ⟨hw, h0, h1⟩
theorem Typ.at {b : Int} {ds : Dl} {i : Nat} {w : Str} {g : Int} (h : Typ b ds) (e : ds[i]? = some (w, g)) : w ∈ W5 ∧ 0 ≤ g ∧ g ≤ b := h _ (List.mem_of_getElem? e)
theorem Typ.rep {b : Int} {w : Str} {g : Int} (hw : w ∈ W5) (h0 : 0 ≤ g) (h1 : g ≤ b) (k : Nat) : Typ b (List.replicate k (w, g)) := fun d m => by rw [List.eq_of_mem_replicate m]; exact ⟨hw, h0, h1⟩
theorem Typ.le {b c : Int} {ds : Dl} (h : Typ b ds) (l : b ≤ c) : Typ c ds := fun d m => ⟨(h d m).1, (h d m).2.1, Int.le_trans (h d m).2.2 l⟩
/-- the gaps at which a deed fits: from gLo to gHi - 1 -/
def gLo (w : Str) (m : Int) : Int := if w = "open" then 0 else if w = "join" then (if 0 < m then 1 else 0) else 0
def gHi (w : Str) (m : Int) : Int := if w = "open" then (if 1 > m then 1 else m) else if w = "join" then (if 0 < m then (if 2 > m - 1 then 2 else m - 1) else m) else m
def fitsG (w : Str) (m g : Int) : Bool := decide (gLo w m ≤ g) && decide (g < gHi w m)
def behind (w : Str) (m : Int) : Int := if w = "join" then m - 2 else if w = "open" then m + 2 else m
/-- what comes of deeds: none, a misfit, too many ends -/
def demF : Dl → Int → Option Bool
  | [], m => if m = 0 then none else some false
  | (w, g) :: r, m => if fitsG w m g then (if behind w m > 24 then some true else demF r (behind w m)) else some false
/-- how many ends deeds leave that fit -/
def runD : Dl → Int → Option Int
  | [], m => some m
  | (w, g) :: r, m => if fitsG w m g ∧ ¬ behind w m > 24 then runD r (behind w m) else none
theorem runD_app : ∀ {ds es : Dl} {m : Int}, runD (ds ++ es) m = (runD ds m).bind (runD es)
  | [], _, _ => rfl
  | (w, g) :: r, es, m => by
    show (if _ then runD (r ++ es) _ else none) = (if _ then runD r _ else none).bind _
    split
    · exact runD_app
    · rfl
theorem demF_run : ∀ {ds es : Dl} {m n : Int}, runD ds m = some n → demF (ds ++ es) m = demF es n
  | [], _, _, _, h => by cases h; rfl
  | (w, g) :: r, es, m, n, h => by
    unfold runD at h
    split at h
    · rename_i c
      show (if fitsG w m g then (if behind w m > 24 then some true else demF (r ++ es) (behind w m)) else some false) = _
      rw [if_pos c.1, if_neg c.2]
      exact demF_run h
    · cases h
theorem demF_ok {ds : Dl} {m : Int} (h : runD ds m = some 0) : demF ds m = none := by
  have z := demF_run (es := []) h
  rw [List.append_nil] at z
  rw [z]
  rfl
/-- by the law's own fitting -/
def lawFits (m : Int) (w : Str) (g : Int) : Bool := if w = "join" then (if m = 2 then decide (g = 1) else (decide (1 ≤ g) && decide (g ≤ m - 2))) else (decide (0 ≤ g) && decide (g < (if w = "open" then (if m > 1 then m else 1) else m)))
theorem lawFits_eq {w : Str} {m g : Int} (h0 : 0 ≤ m) (h2 : m % 2 = 0) : lawFits m w g = fitsG w m g := by
  unfold lawFits fitsG gLo gHi
  by_cases h : w = "join"
  · have n : w ≠ "open" := by rw [h]; decide
    rw [if_pos h, if_neg n, if_neg n, if_pos h, if_pos h]
    by_cases hm : m = 2
    · subst hm
      rw [if_pos rfl, if_pos (by decide), if_pos (by decide), if_pos (by decide)]
      by_cases e : g = 1
      · subst e; rfl
      · rw [decide_eq_false e]
        by_cases e1 : 1 ≤ g
        · rw [decide_eq_false (p := g < 2) (by omega), Bool.and_false]
        · rw [decide_eq_false (p := 1 ≤ g) e1, Bool.false_and]
    · rw [if_neg hm]
      by_cases hp : 0 < m
      · rw [if_pos hp, if_pos hp, if_neg (by omega)]
        by_cases e1 : 1 ≤ g
        · rw [show decide (g ≤ m - 2) = decide (g < m - 1) from decide_eq_decide.mpr (by omega)]
        · rw [decide_eq_false (p := 1 ≤ g) e1, Bool.false_and, Bool.false_and]
      · rw [if_neg hp, if_neg hp]
        by_cases e1 : 1 ≤ g
        · rw [decide_eq_false (p := g ≤ m - 2) (by omega), decide_eq_false (p := g < m) (by omega), Bool.and_false, Bool.and_false]
        · rw [decide_eq_false (p := 1 ≤ g) e1, Bool.false_and]
          by_cases e2 : 0 ≤ g
          · rw [decide_eq_false (p := g < m) (by omega), Bool.and_false]
          · rw [decide_eq_false (p := 0 ≤ g) e2, Bool.false_and]
  · rw [if_neg h]
    by_cases ho : w = "open"
    · rw [if_pos ho, if_pos ho, if_pos ho]
      congr 2
      by_cases hm : m > 1
      · rw [if_pos hm, if_neg (by omega)]
      · rw [if_neg hm]
        split <;> (apply propext; omega)
    · rw [if_neg ho, if_neg ho, if_neg ho, if_neg h, if_neg h]
theorem fits_open {m g : Int} (h0 : 0 ≤ g) (h1 : g < m ∨ g = 0) : fitsG "open" m g = true := by
  unfold fitsG gLo gHi
  rw [if_pos rfl, if_pos rfl, decide_eq_true h0, decide_eq_true]
  · rfl
  · split <;> omega
theorem fits_cross {w : Str} {m g : Int} (hw : w = "over" ∨ w = "under" ∨ w = "turn") (h0 : 0 ≤ g) (h1 : g < m) : fitsG w m g = true := by
  have a : w ≠ "open" ∧ w ≠ "join" := by rcases hw with h | h | h <;> (rw [h]; decide)
  unfold fitsG gLo gHi
  rw [if_neg a.1, if_neg a.1, if_neg a.2, if_neg a.2, decide_eq_true h0, decide_eq_true h1]
  rfl
theorem fits_join {m g : Int} (hm : 2 ≤ m) (h0 : 1 ≤ g) (h1 : g < m - 1 ∨ g = 1) : fitsG "join" m g = true := by
  have n : ("join" : Str) ≠ "open" := by decide
  unfold fitsG gLo gHi
  rw [if_neg n, if_neg n, if_pos rfl, if_pos rfl, if_pos (by omega), if_pos (by omega), decide_eq_true h0, decide_eq_true]
  · rfl
  · split <;> omega
theorem behind_cross {w : Str} {m : Int} (hw : w = "over" ∨ w = "under" ∨ w = "turn") : behind w m = m := by
  have a : w ≠ "open" ∧ w ≠ "join" := by rcases hw with h | h | h <;> (rw [h]; decide)
  unfold behind
  rw [if_neg a.2, if_neg a.1]
theorem behind_join {m : Int} : behind "join" m = m - 2 := rfl
theorem behind_open {m : Int} : behind "open" m = m + 2 := rfl
/-- one deed more -/
theorem runD_one {ds : Dl} {w : Str} {g m n : Int} (h : runD ds m = some n) (f : fitsG w n g = true) (b : ¬ behind w n > 24) : runD (ds ++ [(w, g)]) m = some (behind w n) := by
  rw [runD_app, h]
  show (if fitsG w n g ∧ ¬ behind w n > 24 then some (behind w n) else none) = _
  rw [if_pos ⟨f, b⟩]
theorem even_behind {w : Str} {m : Int} (h : m % 2 = 0) : behind w m % 2 = 0 := by
  unfold behind
  split
  · omega
  · split <;> omega
theorem fits_ends {w : Str} {m g : Int} (h0 : 0 ≤ m) (h2 : m % 2 = 0) (f : fitsG w m g = true) : 0 ≤ behind w m := by
  unfold behind
  split
  · rename_i hj
    subst hj
    have n : ("join" : Str) ≠ "open" := by decide
    unfold fitsG gLo gHi at f
    rw [if_neg n, if_neg n, if_pos rfl, if_pos rfl] at f
    by_cases hp : 0 < m
    · omega
    · rw [if_neg hp, if_neg hp] at f
      have := (Bool.and_eq_true_iff.mp f)
      have a := of_decide_eq_true this.1
      have b := of_decide_eq_true this.2
      omega
  · split <;> omega
theorem inV_rg {g a b : Int} : inV (.int g) (rgV a b) = (decide (a ≤ g) && decide (g < b)) := by
  unfold inV rgV
  by_cases h : a ≤ g ∧ g < b
  · rw [decide_eq_true h.1, decide_eq_true h.2]
    refine List.any_eq_true.mpr ⟨.int g, List.mem_map.mpr ⟨(g - a).toNat, List.mem_range.mpr (by omega), by congr 1; omega⟩, ?_⟩
    show (g == g) = true
    exact beq_self_eq_true g
  · have e : (decide (a ≤ g) && decide (g < b)) = false := by
      by_cases h1 : a ≤ g
      · rw [decide_eq_false (p := g < b) (fun z => h ⟨h1, z⟩), Bool.and_false]
      · rw [decide_eq_false h1, Bool.false_and]
    rw [e]
    refine List.any_eq_false.mpr fun x m => ?_
    obtain ⟨k, mk, rfl⟩ := List.mem_map.mp m
    have := List.mem_range.mp mk
    show ¬ (a + (k : Int) == g) = true
    intro z
    have z' := eq_of_beq z
    exact h ⟨by omega, by omega⟩
theorem flat_rg {a b : Int} : (rgV a b).all flatV = true := by
  unfold rgV
  rw [List.all_map]
  exact List.all_eq_true.mpr fun _ _ => rfl
/-- all gaps are gaps of some ring -/
def gapsOk (ds : Dl) : Bool := ds.all fun d => inB (.int d.2) (some 0) (some 23)
theorem gapsOk_typ {ds : Dl} (h : Typ 23 ds) : gapsOk ds = true := List.all_eq_true.mpr fun d m => by
  obtain ⟨_, a, b⟩ := h d m
  show (decide ((0 : Int) ≤ d.2) && decide (d.2 ≤ (23 : Int))) = true
  rw [decide_eq_true a, decide_eq_true b]
  rfl
theorem r_eqS {x y : Str} {H : Hp} {Q : VK} (h : Q (.bl (decide (x = y))) H) : rEq (.str x) (.str y) H Q := ⟨rfl, by
  rw [show decide (V.str x = V.str y) = decide (x = y) from decide_eq_decide.mpr ⟨V.str.inj, congrArg V.str⟩]
  exact h⟩
theorem r_in {K : PySem.W.Frag} {p : Addr} {x : V} {xs : List V} {H : Hp} {Q : VK} (hs : SqL K H p xs ∨ SqT K H p xs) (f : flatV x = true) (fs : xs.all flatV = true) (h : Q (.bl (inV x xs)) H) : rIn K false x (.ref p) H Q := ⟨p, xs, rfl, hs, f, fs, h⟩
theorem r_notIn {K : PySem.W.Frag} {p : Addr} {x : V} {xs : List V} {H : Hp} {Q : VK} (hs : SqL K H p xs ∨ SqT K H p xs) (f : flatV x = true) (fs : xs.all flatV = true) (h : Q (.bl (!inV x xs)) H) : rIn K true x (.ref p) H Q := ⟨p, xs, rfl, hs, f, fs, h⟩
theorem in_W5 {w : Str} (h : w ∈ W5) : inV (.str w) [.str "over", .str "under", .str "join", .str "open", .str "turn"] = true := by
  unfold W5 at h
  simp only [List.mem_cons, List.not_mem_nil, or_false] at h
  rcases h with h | h | h | h | h <;> (rw [h]; decide +kernel)
end Rp
namespace Rp
open PySem PySem.Spec PyProof.Rows L2 LamX
/-! ### own errors with two fields; objects of own classes that may not come about -/
/-- tuple(x), x a list or a tuple -/
def rTupOf (K : PySem.W.Frag) : List V → Hp → VK → Prop := fun xs H Q => ∃ p ys, xs = [.ref p] ∧ ((SqL K H p ys ∧ ∀ l, H l = none → Q (.ref l) (upd H l (.tup ys))) ∨ (SqT K H p ys ∧ Q (.ref p) H))
theorem call_tupK {X : Cx} : CallR X (.type "tuple") (rTupOf X.K) := call_tuple_of
def spIni2 (C : Addr) (f g : Str) : Sp := fun vs H Q _ => ∃ a v u, vs = [.ref a, v, u] ∧ H a = some (exo a C none) ∧ ∀ dx, H dx = none → dx ≠ a → Q .non (upd (upd (upd H dx (exd dx [(f, v)])) a (exo a C (some dx))) dx (exd dx [(g, u), (f, v)]))
structure Err2 (P : Program) (w : World) (K : PySem.W.Frag) (mg : Str → Option Value) (base : Heap) (x : Str) (C : Addr) (f g : Str) : Prop where
  gm : mg x = some (.ref C)
  oex : OexC K C
  no : PySem.W.findIn K (.ref C) f = some none
  no2 : PySem.W.findIn K (.ref C) g = some none
  xf : XfC K C
  ini : ∃ (fI : Addr) (fd : FuncData) (ps : List Str), PySem.W.findIn K (.ref C) "__init__" = some (some (.ref fI)) ∧ PySem.W.typeIn K (.ref fI) = some (.type "function") ∧ Binds K fd ps [] ∧
    FnOk P w K mg base CX0 1 fI fd ps (spIni2 C f g)
/-- x(e, e'), raised: the error's own dict is new -/
def tErr2 (C : Addr) (f g : Str) (te tu : TE) : L2.St → Hp → XK → Prop := fun σ H Q => te σ H fun v H1 => tu σ H1 fun u H2 => ∀ d, H2 d = none → Q (.ref C) (some d) (upd H2 d (.xd [(g, u), (f, v)]))
theorem del_put2 {H : Hp} {a d : Addr} {o u o2 u2 : HO} {fs : List (Str × V)} (na : H a = none) (ne : d ≠ a) : upd (del (upd (upd (upd (upd H a o) d u) a o2) d u2) a) d (.xd fs) = upd H d (.xd fs) := by
  funext b
  by_cases hd : b = d
  · rw [hd, upd_same, upd_same]
  · rw [upd_ne hd, upd_ne hd]
    by_cases ha : b = a
    · rw [ha, del_same, na]
    · rw [del_ne ha, upd_ne hd, upd_ne ha, upd_ne hd, upd_ne ha]
theorem pmk_err2 {X : Cx} {x f g : Str} {C : Addr} {e e2 : Expr} {te tu : TE} {p pos : Pos} (T : Err2 X.prog X.w X.K X.mg X.base x C f g) (hr : Room 2 X.A) (hg : Gl X x) (he : PE X e te) (he2 : PE X e2 tu) (d1 : (x == ("__debug__" : Str)) = false := by decide)
    (d2 : starEach [e, e2] X.env = (false, eval e X.env) :: starEach [e2] X.env := by rfl) (d4 : starEach [e2] X.env = (false, eval e2 X.env) :: starEach [] X.env := by rfl) (d3 : (backTo pos (starEach [e2] X.env)).any (·.1) = false := by rfl) : PMk X (.Call (.Name x p) [e, e2] [] pos) (tErr2 C f g te tu) := by
  obtain ⟨fI, fd, ps, h1, h2, h3, h4⟩ := T.ini
  intro pins s σ H Q I h
  refine pmk_oex T.oex h1 h2 h4 hr h3 .nil (fun _ _ _ _ _ _ _ z => z.elim) hg T.gm (pa_cons (pe_mono he) (pa_cons (pe_mono he2) pa_nil d4) d2) d1 d2 d3 pins s σ H Q I ?_
  refine ⟨_, h, fun v H1 k => ⟨_, k, fun u H2 k2 => ⟨by show 2 ≤ 1000; decide, fun a na => ⟨a, v, u, rfl, upd_same, fun dx nd ne => ⟨rfl, dx, [(g, u), (f, v)], ?_, upd_same, ?_, ?_⟩⟩⟩⟩⟩
  · rw [upd_ne ne.symm, upd_same]
  · rw [upd_ne ne] at nd
    exact nd
  · rw [upd_ne ne] at nd
    rw [del_put2 na ne]
    exact k2 dx nd
/-- an error of two fields is E's -/
def err2At (E : XK) (C : Addr) (f g : Str) (v u : V) (H : Hp) : Prop := ∀ d, H d = none → E (.ref C) (some d) (upd H d (.xd [(g, u), (f, v)]))
structure MakX (P : Program) (w : World) (K : PySem.W.Frag) (mg : Str → Option Value) (base : Heap) (x : Str) (k : Nat) (C f : Addr) (fd : FuncData) (ps : List Str) (sp : Sp) : Prop where
  M : Mk K C f
  F : FnOk P w K mg base (L2.CX P w) k f fd ps sp
  mgf : mg x = some (.ref C)
  b : Binds K fd ps []
section
variable {X : Cx} {k : Nat} {f C : Addr} {fd : FuncData} {ps ks : List Str} {sp : Sp} {x : Str} {p pos : Pos} {e : Expr} {es : List Expr} {t tk : TA} {kws : List Keyword} {E : XK}
theorem pe_makeE (c : MakX X.prog X.w X.K X.mg X.base x k C f fd ps sp) (r : Room (k + 1) X.A) (tk : Takes X (fun cls d _ H => E cls d H)) (hg : Gl X x) (ha : PA X (e :: es) t) (d1 : (x == ("__debug__" : Str)) = false := by decide)
    (d2 : starEach (e :: es) X.env = (false, eval e X.env) :: starEach es X.env := by rfl) (d3 : (backTo pos (starEach es X.env)).any (·.1) = false := by rfl) : PE X (.Call (.Name x p) (e :: es) [] pos) (tMake C sp [] E t) :=
  pe_make c.M c.F r hg c.mgf c.b .nil (fun pins σ H s e s' I z => passAt tk σ pins H s e s' I z) ha d1 d2 d3
theorem pe_makeX (c : MakX X.prog X.w X.K X.mg X.base x k C f fd ps sp) (r : Room (k + 1) X.A) (hg : Gl X x) (ha : PA X (e :: es) t) (d1 : (x == ("__debug__" : Str)) = false := by decide)
    (d2 : starEach (e :: es) X.env = (false, eval e X.env) :: starEach es X.env := by rfl) (d3 : (backTo pos (starEach es X.env)).any (·.1) = false := by rfl) : PE X (.Call (.Name x p) (e :: es) [] pos) (tMake C sp [] E0 t) :=
  pe_make c.M c.F r hg c.mgf c.b .nil (fun pins σ H s e s' I z => pass0X pins H s e s' I z (σ := σ)) ha d1 d2 d3
end
section
variable {K : PySem.W.Frag} {σ : L2.St} {H : Hp} {Q : VK} {QX : XK} {D : Ends} {te tu ta tv : TE} {C : Addr} {f g : Str} {sp : Sp} {t : TA} {E : XK} {dvs : List V} {tc : TT} {tb : TS}
theorem r_err2 (h : te σ H fun v H1 => tu σ H1 fun u H2 => ∀ d, H2 d = none → QX (.ref C) (some d) (upd H2 d (.xd [(g, u), (f, v)]))) : tErr2 C f g te tu σ H QX := h
theorem r_make (h : t σ H fun vs H1 => ∀ x dx, H1 x = none → H1 dx = none → dx ≠ x → sp (.ref x :: (vs ++ dvs)) (upd (upd H1 dx (.own x)) x (.ins C dx [])) (fun v H2 => v = .non ∧ Q (.ref x) H2) E) : tMake C sp dvs E t σ H Q := h
theorem r_fld (h : ta σ H fun x H1 => ∃ a C dx fs v, x = .ref a ∧ H1 a = some (.ins C dx fs) ∧ Cls K C ∧ NoAttr K C f ∧ fs.lookup f = some v ∧ Q v H1) : tFld K ta f σ H Q := h
theorem r_sfld (h : tv σ H fun y H1 => ta σ H1 fun x H2 => ∃ a C dx fs, x = .ref a ∧ H2 a = some (.ins C dx fs) ∧ Cls K C ∧ NoAttr K C f ∧ fs.length < 1000 ∧ D.nx σ (upd H2 a (.ins C dx (putF f y fs)))) : sFld K ta tv f D σ H := h
theorem r_lrg {tr : L2.St → Hp → (Int → Int → Hp → Prop) → Prop} (h : tr σ H fun a b H1 => RgOk a b ∧ ∀ q, H1 q = none → Q (.ref q) (upd H1 q (.lst (rgV a b)))) : tLstRg tr σ H Q := h
theorem r_rg1 {R : Int → Int → Hp → Prop} (h : ta σ H fun x H1 => ∃ n, x = .int n ∧ R 0 n H1) : tRg1 ta σ H R := h
theorem r_rg2 {R : Int → Int → Hp → Prop} (h : ta σ H fun x H1 => tv σ H1 fun y H2 => ∃ i j, x = .int i ∧ y = .int j ∧ R i j H2) : tRg2 ta tv σ H R := h
theorem r_bm {T : String} {r : V → List V → Hp → VK → Prop} {to : TE} {t : TA} (h : to σ H fun x H1 => tyV K T x H1 ∧ t σ H1 fun xs H2 => r x xs H2 Q) : tBM K T r to t σ H Q := h
theorem ty_lst {p : Addr} {xs : List V} (e : H p = some (.lst xs)) : tyV K "list" (.ref p) H := .inl ⟨rfl, xs, SqL.of e⟩
theorem r_append {p : Addr} {xs : List V} {y : V} (e : H p = some (.lst xs)) (l : xs.length < sizeLine) (h : Q .non (upd H p (.lst (xs ++ [y])))) : rAppend (.ref p) [y] H Q := ⟨p, xs, y, rfl, rfl, e, l, h⟩
theorem r_cat {l b p : Addr} {xs zs : List V} (e : H l = some (.lst xs)) (e2 : H b = some (.lst zs)) (z : xs.length + zs.length ≤ sizeLine) (h : ∀ p, H p = none → Q (.ref p) (upd H p (.lst (xs ++ zs)))) : rCat (.ref l) (.ref b) H Q := ⟨l, b, xs, zs, rfl, rfl, e, e2, z, h⟩
theorem r_while (h : ∃ W : Nat → L2.St → Hp → Prop, (∃ m, W m σ H) ∧ ∀ m σ H, W m σ H → tc σ H fun b H1 => if b = true then ∃ N : L2.St → Hp → Prop, (∀ σ' H', N σ' H' → ∃ m', m' < m ∧ W m' σ' H') ∧ tb { D with nx := N, ct := N, bk := D.nx } σ H1 else D.nx σ H1) : tWhile tc tb D σ H := h
end
end Rp
namespace Rp
open PySem PySem.Spec PyProof.Rows L2
/-! ### rows packed into one integer -/
def pk : List Int → Int
  | [] => 0
  | x :: r => x + 16777216 * pk r
def Dig (B : Int) (xs : List Int) : Prop := ∀ x ∈ xs, 0 ≤ x ∧ x < B
theorem Dig.nil {B : Int} : Dig B [] := fun _ m => nomatch m
theorem Dig.cons {B x : Int} {r : List Int} (h : 0 ≤ x ∧ x < B) (t : Dig B r) : Dig B (x :: r) := fun y m => by
  rcases List.mem_cons.mp m with e | m
  · rw [e]; exact h
  · exact t y m
theorem Dig.head {B x : Int} {r : List Int} (h : Dig B (x :: r)) : 0 ≤ x ∧ x < B := h x (List.mem_cons_self ..)
theorem Dig.tail {B x : Int} {r : List Int} (h : Dig B (x :: r)) : Dig B r := fun y m => h y (List.mem_cons_of_mem _ m)
theorem Dig.le {B C : Int} {r : List Int} (h : Dig B r) (l : B ≤ C) : Dig C r := fun y m => ⟨(h y m).1, Int.lt_of_lt_of_le (h y m).2 l⟩
theorem Dig.at {B : Int} {r : List Int} {k : Nat} {x : Int} (h : Dig B r) (e : r[k]? = some x) : 0 ≤ x ∧ x < B := h x (List.mem_of_getElem? e)
theorem pk_pos {B : Int} : ∀ {xs : List Int}, Dig B xs → 0 ≤ pk xs
  | [], _ => Int.le_refl 0
  | x :: r, h => by
    have a := pk_pos h.tail
    have b := h.head.1
    show 0 ≤ x + 16777216 * pk r
    omega
theorem pk_lt : ∀ {xs : List Int}, Dig 16777216 xs → pk xs < 2 ^ (24 * xs.length)
  | [], _ => by show (0 : Int) < 1; decide
  | x :: r, h => by
    have a := pk_lt h.tail
    have b := h.head
    have e : (2 : Int) ^ (24 * (x :: r).length) = 16777216 * 2 ^ (24 * r.length) := by
      rw [List.length_cons, show 24 * (r.length + 1) = 24 * r.length + 24 by omega, Int.pow_add, Int.mul_comm]
      rfl
    rw [e]
    show x + 16777216 * pk r < _
    omega
theorem pk_at : ∀ {xs : List Int} {k : Nat} {x : Int}, Dig 16777216 xs → xs[k]? = some x → (pk xs / 2 ^ (24 * k)) % 2 ^ 24 = x
  | [], _, _, _, e => by cases e
  | y :: r, 0, x, h, e => by
    cases e
    have b := h.head
    show ((y + 16777216 * pk r) / 1) % 16777216 = y
    omega
  | y :: r, k + 1, x, h, e => by
    have a := pk_at (k := k) h.tail (show r[k]? = some x from e)
    have b := h.head
    have e2 : (2 : Int) ^ (24 * (k + 1)) = 16777216 * 2 ^ (24 * k) := by
      rw [show 24 * (k + 1) = 24 * k + 24 by omega, Int.pow_add, Int.mul_comm]
      rfl
    rw [e2]
    show ((y + 16777216 * pk r) / (16777216 * 2 ^ (24 * k))) % 2 ^ 24 = x
    rw [← Int.ediv_ediv_of_nonneg (by decide)]
    rw [show (y + 16777216 * pk r) / 16777216 = pk r by omega]
    exact a
def addT (t : Int) (xs ys : List Int) : List Int := List.zipWith (fun x y => x + t * y) xs ys
theorem pk_add (t : Int) : ∀ {xs ys : List Int}, xs.length = ys.length → pk (addT t xs ys) = pk xs + t * pk ys
  | [], [], _ => by show (0 : Int) = 0 + t * 0; rw [Int.mul_zero]; rfl
  | x :: r, y :: u, h => by
    have a := pk_add t (xs := r) (ys := u) (by simpa using h)
    show (x + t * y) + 16777216 * pk (addT t r u) = (x + 16777216 * pk r) + t * (y + 16777216 * pk u)
    rw [a, Int.mul_add, Int.mul_add, Int.mul_left_comm]
    omega
  | [], _ :: _, h => by cases h
  | _ :: _, [], h => by cases h
theorem addT_len {t : Int} {xs ys : List Int} (h : xs.length = ys.length) : (addT t xs ys).length = xs.length := by
  unfold addT
  rw [List.length_zipWith, h]
  exact Nat.min_self _
theorem addT_dig {t B : Int} (t0 : 0 ≤ t) (t1 : t ≤ 31) : ∀ {xs ys : List Int}, Dig B xs → Dig 31 ys → Dig (B + 961) (addT t xs ys)
  | [], _, _, _ => by cases ‹List Int› <;> exact Dig.nil
  | _ :: _, [], _, _ => Dig.nil
  | x :: r, y :: u, h, k => by
    refine Dig.cons ?_ (addT_dig t0 t1 h.tail k.tail)
    show 0 ≤ x + t * y ∧ x + t * y < B + 961
    have a := h.head
    have b := k.head
    have c0 := Int.mul_nonneg t0 b.1
    have c1 : t * y ≤ 31 * 31 := Int.mul_le_mul t1 (by omega) b.1 (by decide)
    omega
/-- rows added so that there is 0 where they lead -/
def clr (cl : Int) : List (Nat × List Int) → List Int → List Int
  | [], xs => xs
  | (a, r) :: ls, xs => clr cl ls (if xs.getD a 0 % cl ≠ 0 then addT (cl - xs.getD a 0 % cl) xs r else xs)
/-- what leading rows must be -/
def LdOk (cl : Int) (n : Nat) (ls : List (Nat × List Int)) : Prop := ∀ l ∈ ls, l.1 < n ∧ l.2.length = n ∧ Dig cl l.2
theorem LdOk.head {cl : Int} {n : Nat} {l : Nat × List Int} {ls : List (Nat × List Int)} (h : LdOk cl n (l :: ls)) : l.1 < n ∧ l.2.length = n ∧ Dig cl l.2 := h l (List.mem_cons_self ..)
theorem LdOk.tail {cl : Int} {n : Nat} {l : Nat × List Int} {ls : List (Nat × List Int)} (h : LdOk cl n (l :: ls)) : LdOk cl n ls := fun y m => h y (List.mem_cons_of_mem _ m)
theorem clr_ok {cl : Int} {n : Nat} (h3 : 3 ≤ cl) (h31 : cl ≤ 31) : ∀ {ls : List (Nat × List Int)} {xs : List Int} {B : Int}, LdOk cl n ls → Dig B xs → xs.length = n → Dig (B + 961 * ls.length) (clr cl ls xs) ∧ (clr cl ls xs).length = n
  | [], xs, B, _, d, l => ⟨d.le (by rw [List.length_nil]; omega), l⟩
  | (a, r) :: ls, xs, B, o, d, l => by
    have q := o.head
    have e : (((a, r) :: ls).length : Int) = (ls.length : Int) + 1 := by rw [List.length_cons]; omega
    unfold clr
    by_cases h : xs.getD a 0 % cl ≠ 0
    · rw [if_pos h]
      have m1 := Int.emod_nonneg (xs.getD a 0) (by omega : cl ≠ 0)
      have m2 := Int.emod_lt_of_pos (xs.getD a 0) (by omega : 0 < cl)
      obtain ⟨z1, z2⟩ := clr_ok h3 h31 (n := n) o.tail (addT_dig (t := cl - xs.getD a 0 % cl) (by omega) (by omega) d (q.2.2.le h31)) (by rw [addT_len (by rw [l, q.2.1])]; exact l)
      exact ⟨z1.le (by omega), z2⟩
    · rw [if_neg h]
      obtain ⟨z1, z2⟩ := clr_ok h3 h31 (n := n) o.tail d l
      exact ⟨z1.le (by omega), z2⟩
theorem clr_snoc (cl : Int) (a : Nat) (r : List Int) : ∀ (ls : List (Nat × List Int)) (xs : List Int), clr cl (ls ++ [(a, r)]) xs = (if (clr cl ls xs).getD a 0 % cl ≠ 0 then addT (cl - (clr cl ls xs).getD a 0 % cl) (clr cl ls xs) r else clr cl ls xs)
  | [], xs => rfl
  | (b, u) :: ls, xs => by
    show clr cl (ls ++ [(a, r)]) _ = _
    rw [clr_snoc cl a r ls]
    rfl
theorem clr_take {cl : Int} {a i : Nat} {r xs : List Int} {ls : List (Nat × List Int)} (e : ls[i]? = some (a, r)) : clr cl (ls.take (i + 1)) xs = (if (clr cl (ls.take i) xs).getD a 0 % cl ≠ 0 then addT (cl - (clr cl (ls.take i) xs).getD a 0 % cl) (clr cl (ls.take i) xs) r else clr cl (ls.take i) xs) := by
  rw [List.take_succ, e]
  exact clr_snoc cl a r _ _
theorem LdOk.take {cl : Int} {n : Nat} {ls : List (Nat × List Int)} (h : LdOk cl n ls) (i : Nat) : LdOk cl n (ls.take i) := fun l m => h l (List.mem_of_mem_take m)
def modRow (cl : Int) (xs : List Int) : List Int := xs.map fun x => x % cl
theorem modRow_dig {cl : Int} (h : 0 < cl) (xs : List Int) : Dig cl (modRow cl xs) := fun y m => by
  obtain ⟨x, _, rfl⟩ := List.mem_map.mp m
  exact ⟨Int.emod_nonneg _ (by omega), Int.emod_lt_of_pos _ h⟩
theorem modRow_len {cl : Int} {xs : List Int} : (modRow cl xs).length = xs.length := List.length_map ..
/-- the place of the first number that is not 0 -/
def leadOf : List Int → Nat
  | [] => 0
  | x :: r => if x = 0 then leadOf r + 1 else 0
theorem leadOf_le : ∀ xs : List Int, leadOf xs ≤ xs.length
  | [] => Nat.le_refl 0
  | x :: r => by
    have := leadOf_le r
    unfold leadOf
    rw [List.length_cons]
    split <;> omega
theorem leadOf_zero : ∀ {xs : List Int} {k : Nat} {x : Int}, k < leadOf xs → xs[k]? = some x → x = 0
  | [], _, _, _, e => by cases e
  | y :: r, 0, x, h, e => by
    cases e
    unfold leadOf at h
    split at h
    · assumption
    · omega
  | y :: r, k + 1, x, h, e => by
    unfold leadOf at h
    split at h
    · exact leadOf_zero (xs := r) (k := k) (by omega) e
    · omega
theorem leadOf_at : ∀ {xs : List Int} {k : Nat} {x : Int}, xs[k]? = some x → x ≠ 0 → (∀ j y, j < k → xs[j]? = some y → y = 0) → leadOf xs = k
  | [], _, _, e, _, _ => by cases e
  | y :: r, 0, x, e, n, _ => by
    cases e
    unfold leadOf
    rw [if_neg n]
  | y :: r, k + 1, x, e, n, h => by
    have h0 := h 0 y (by omega) rfl
    unfold leadOf
    rw [if_pos h0]
    have := leadOf_at (xs := r) (k := k) e n fun j z hj ez => h (j + 1) z (by omega) ez
    omega
theorem leadOf_all : ∀ {xs : List Int}, (∀ (j : Nat) (y : Int), xs[j]? = some y → y = 0) → leadOf xs = xs.length
  | [], _ => rfl
  | y :: r, h => by
    unfold leadOf
    rw [if_pos (h 0 y rfl), leadOf_all (xs := r) fun j z e => h (j + 1) z e]
    rfl
theorem leadOf_step : ∀ {xs : List Int} {k : Nat}, xs[k]? = some 0 → k ≤ leadOf xs → k + 1 ≤ leadOf xs
  | [], _, e, _ => by cases e
  | y :: r, 0, e, _ => by
    cases e
    unfold leadOf
    rw [if_pos rfl]
    omega
  | y :: r, k + 1, e, h => by
    unfold leadOf at h ⊢
    split at h
    · rename_i q
      rw [if_pos q]
      have := leadOf_step (xs := r) (k := k) e (by omega)
      omega
    · omega
theorem leadOf_is {xs : List Int} {k : Nat} {x : Int} (e : xs[k]? = some x) (n : x ≠ 0) (h : k ≤ leadOf xs) : leadOf xs = k := by
  refine leadOf_at e n fun j y hj ej => leadOf_zero (by omega) ej
def putL (ls : List (Nat × List Int)) (a : Nat) (r : List Int) : List (Nat × List Int) :=
  if ls.any (fun l => decide (l.1 = a)) then ls.map (fun l => if l.1 = a then (l.1, r) else l) else ls ++ [(a, r)]
/-- the power by clock - 2, round the clock -/
def powF (cl n : Int) : Nat → Int
  | 0 => 1
  | k + 1 => (powF cl n k * n).fmod cl
/-- one row more among the leading ones -/
def ldOne (cl : Int) (n : Nat) (ls : List (Nat × List Int)) (row : List Int) : List (Nat × List Int) :=
  let left := modRow cl (clr cl ls row)
  if leadOf left < n then putL ls (leadOf left) (left.map fun x => (powF cl (left.getD (leadOf left) 0) (cl - 2).toNat * x) % cl) else ls
def leading (cl : Int) (n : Nat) (rows : List (List Int)) : List (Nat × List Int) := rows.foldl (ldOne cl n) []
def findL (ls : List (Nat × List Int)) (a : Nat) : List Int := ((ls.find? fun l => decide (l.1 = a)).map (·.2)).getD []
/-- the leads, from the greatest one on -/
def insD (a : Nat) : List Nat → List Nat
  | [] => [a]
  | b :: r => if b ≤ a then a :: b :: r else b :: insD a r
def descend : List Nat → List Nat
  | [] => []
  | a :: r => insD a (descend r)
theorem insD_perm (a : Nat) : ∀ ls : List Nat, (insD a ls).Perm (a :: ls)
  | [] => .refl _
  | b :: r => by
    unfold insD
    split
    · exact .refl _
    · exact ((insD_perm a r).cons b).trans (.swap a b r)
theorem descend_perm : ∀ ls : List Nat, (descend ls).Perm ls
  | [] => .refl _
  | a :: r => (insD_perm a _).trans ((descend_perm r).cons a)
theorem insD_desc (a : Nat) : ∀ {ls : List Nat}, ls.Pairwise (· ≥ ·) → (insD a ls).Pairwise (· ≥ ·)
  | [], _ => by unfold insD; exact List.pairwise_singleton _ _
  | b :: r, h => by
    obtain ⟨h1, h2⟩ := List.pairwise_cons.mp h
    unfold insD
    split
    · rename_i q
      refine List.pairwise_cons.mpr ⟨fun c m => ?_, h⟩
      rcases List.mem_cons.mp m with e | m
      · rw [e]; exact q
      · exact Nat.le_trans (h1 c m) q
    · rename_i q
      refine List.pairwise_cons.mpr ⟨fun c m => ?_, insD_desc a h2⟩
      rcases List.mem_cons.mp ((insD_perm a r).mem_iff.mp m) with e | m
      · rw [e]; show a ≤ b; omega
      · exact h1 c m
theorem descend_desc : ∀ ls : List Nat, (descend ls).Pairwise (· ≥ ·)
  | [] => .nil
  | a :: r => insD_desc a (descend_desc r)
theorem desc_one : ∀ {a b : List Nat}, a.Perm b → a.Pairwise (· ≥ ·) → b.Pairwise (· ≥ ·) → a = b
  | [], b, p, _, _ => (List.nil_perm.mp p).symm
  | x :: r, [], p, _, _ => (List.perm_nil.mp p)
  | x :: r, y :: u, p, h, k => by
    obtain ⟨h1, h2⟩ := List.pairwise_cons.mp h
    obtain ⟨k1, k2⟩ := List.pairwise_cons.mp k
    have e : x = y := by
      have m1 : x ∈ y :: u := p.mem_iff.mp (List.mem_cons_self ..)
      have m2 : y ∈ x :: r := p.mem_iff.mpr (List.mem_cons_self ..)
      rcases List.mem_cons.mp m1 with e | m1
      · exact e
      rcases List.mem_cons.mp m2 with e | m2
      · exact e.symm
      have a := k1 x m1
      have b := h1 y m2
      omega
    subst e
    rw [desc_one (List.Perm.cons_inv p) h2 k2]
def backOne (cl : Int) (ls : List (Nat × List Int)) (st : List (Nat × List Int) × List (List Int)) (a : Nat) : List (Nat × List Int) × List (List Int) :=
  let row := modRow cl (clr cl st.1 (findL ls a))
  (putL st.1 a row, st.2 ++ [row])
def leastForm (cl : Int) (n : Nat) (rows : List (List Int)) : List (List Int) :=
  let ls := leading cl n rows
  ((descend (ls.map (·.1))).foldl (backOne cl ls) ([], [])).2.reverse
theorem putL_ok {cl : Int} {n a : Nat} {r : List Int} {ls : List (Nat × List Int)} (h : LdOk cl n ls) (ha : a < n) (hr : r.length = n) (hd : Dig cl r) : LdOk cl n (putL ls a r) := fun l m => by
  unfold putL at m
  split at m
  · obtain ⟨k, mk, e⟩ := List.mem_map.mp m
    split at e
    · rw [← e]
      exact ⟨(h k mk).1, hr, hd⟩
    · rw [← e]
      exact h k mk
  · rcases List.mem_append.mp m with m | m
    · exact h l m
    · rw [List.mem_singleton.mp m]
      exact ⟨ha, hr, hd⟩
end Rp
namespace PySem
open Sem (wp)
open AutoSeq1 (wpAny_loadPart')
theorem meets_enumerate_newT (l : Addr) (items : Array Value) (n : Nat) (dct : Option Addr) (sl : Array (Option Value)) :
    Meets (Builtin.«enumerate.__new__» ⟨[.type "enumerate", .ref l], []⟩) (fun _ R s => s.heap.get? l = some { cls := .type "tuple", dict := dct, data := .seq items n, slots := sl } ∧
      R (.ok (.ret (.ref (s.heap.push { cls := .type "tuple_iterator", data := .fields #[.ref l, .int 0 0] }).objs.size)))
        { s with heap := (s.heap.push { cls := .type "tuple_iterator", data := .fields #[.ref l, .int 0 0] }).push { cls := .type "enumerate", data := .fields #[.none, .bool false, .ref s.heap.objs.size, rawInt 0, .none, .none] } }) :=
  .of_wp fun prog w A R s h => by
    obtain ⟨hp, g, d, tk, os⟩ := s; obtain ⟨hl, h⟩ := h
    have hsub := sub_enumerate
    have hL : Heap.IsTuple (Shared.heap ⟨hp, g, d, tk, os⟩) l items := ⟨_, hl, rfl, n, rfl⟩
    wp_walk using wpAny_loadPart' hl
    refine wpAny_stack_any fun st => wpAny_pure ?_
    split
    · rename_i c _ _ _ _ _
      cases (c == Value.type "enumerate")
      · wp_walk using wpAny_loadPart' hl, wpAny_pyIter_tuple hL
        exact ⟨_, rfl, h⟩
      · wp_walk using wpAny_loadPart' hl, wpAny_pyIter_tuple hL
        exact ⟨_, rfl, h⟩
    · wp_walk using wpAny_loadPart' hl, wpAny_pyIter_tuple hL
      exact ⟨_, rfl, h⟩
theorem call_enumerate_tuple {prog : Program} {w : World} {A : Around} {E : Value → Shared → Prop} {s : Shared} {l : Addr} {items : Array Value} {Q : Value → Shared → Prop} (hL : s.heap.IsTuple l items)
    (h : ∀ h', IsEnum h' (s.heap.objs.size + 1) s.heap.objs.size 0 .none → h'.IsTupleIter s.heap.objs.size l 0 → h'.objs.size = s.heap.objs.size + 2 →
      (∀ b o, s.heap.get? b = some o → h'.get? b = some o) → Q (.ref (s.heap.objs.size + 1)) { s with heap := h' }) :
    wpAny (model prog w) A (call (.type "enumerate") [.ref l]) Q E s := by
  obtain ⟨⟨c, dct, dt, sl⟩, hl, hc, n, hd⟩ := hL
  replace hc : c = .type "tuple" := hc
  replace hd : dt = .seq items n := hd
  subst hc hd
  refine callType_new F.called_enumerate (by decide) (F.typeCall_enumerate_1 _) (F.newCall_enumerate_1 _) (fun obj => F.args_object_init_2 obj _) F.entry_enumerate_new
    (meets_enumerate_newT l items n dct sl) ⟨hl, ?_⟩
  have hz : (s.heap.push { cls := .type "tuple_iterator", data := .fields #[.ref l, .int 0 0] }).objs.size = s.heap.objs.size + 1 := Heap.size_push ..
  show _ ∧ _
  rw [hz]
  have he : IsEnum ((s.heap.push { cls := .type "tuple_iterator", data := .fields #[.ref l, .int 0 0] }).push
      { cls := .type "enumerate", data := .fields #[.none, .bool false, .ref s.heap.objs.size, rawInt 0, .none, .none] }) (s.heap.objs.size + 1) s.heap.objs.size 0 .none := by
    have := Heap.get?_push_size (s.heap.push { cls := .type "tuple_iterator", data := .fields #[.ref l, .int 0 0] })
      (o := { cls := .type "enumerate", data := .fields #[.none, .bool false, .ref s.heap.objs.size, rawInt 0, .none, .none] }) rfl
    rw [hz] at this; exact this
  refine ⟨⟨_, he, rfl⟩, h _ he ⟨_, Heap.get?_push_of_some _ (Heap.get?_push_size _ rfl), rfl, rfl⟩ (by rw [Heap.size_push, hz]) fun b o x => Heap.get?_push_of_some _ (Heap.get?_push_of_some _ x)⟩
end PySem
namespace Rp
open PySem PySem.Spec PyProof.Rows L2
/-! ### enumerate(tuple) -/
def IteT (K : PySem.W.Frag) (a : Addr) : It :=
  ⟨fun i H => ∃ (xs : List V) (x : V), SqT K H a xs ∧ xs[i]? = some x, fun i H v H' => ∃ T x, v = .ref T ∧ H T = none ∧ H' = upd H T (.tup [.int (i : Nat), x]) ∧ ∀ xs, SqT K H a xs → xs[i]? = some x, fun i H => ∃ xs : List V, SqT K H a xs ∧ xs.length ≤ i⟩
theorem turn_enumT {P : Program} {w : World} {K : PySem.W.Frag} {elts : List Expr} {kk : Nat} {tpos : Pos} (a e it : Addr) (na : a ≠ it) (nea : e ≠ a) :
    Turn P w K (.Tuple elts kk tpos) (IteT K a) [e, it] e (fun i h => (∃ old, IsEnum h e it ((i : Nat) : Int) old) ∧ h.IsTupleIter it a i ∧ e ≠ it) where
  mem := by simp
  obj := fun i h st b hb => by
    obtain ⟨⟨old, he⟩, ⟨o, ho, hc, hd⟩, _⟩ := st
    have e' : b = e ∨ b = it := by simpa using hb
    rcases e' with z | z
    · rw [z]; exact ⟨_, he, fun v q => nomatch q⟩
    · rw [z]; exact ⟨o, ho, fun v q => by rw [hd] at q; cases q⟩
  keep := fun i h h' st k => let ⟨⟨old, he⟩, hi, hne⟩ := st; ⟨⟨old, k e (by simp) _ he⟩, hi.at fun o q => k it (by simp) o q, hne⟩
  item := by
    intro X hP hw hK hc i pins s σ H E I hf st hg
    subst hP hw hK
    obtain ⟨⟨old, he⟩, hit, hne⟩ := st
    obtain ⟨xs, x, hq, hx⟩ := hg
    obtain ⟨its, rv, p, hz⟩ := I.tuple hq
    obtain ⟨u, hu, ru⟩ := rv.get hx
    have hel : e < s.heap.objs.size := Heap.lt_size he
    have hil : it < s.heap.objs.size := by obtain ⟨_, q, _⟩ := hit; exact Heap.lt_size q
    have hlt : i < its.toArray.size := by
      have := (List.getElem?_eq_some_iff.mp hu).1
      simpa using this
    refine PySem.wpAny_pyNext_enum_itemD (Draws.tuple (A := X.A.in1) (show X.A.in1.handled = none from I.ok.hd hc) it a na its.toArray) he ⟨hit, p⟩ hlt hne (by simp [hne, nea]) fun x' h' tk hx' ho st' hT hsz hk => ?_
    have hit' := st'.1
    have exu : x' = u := by
      have q : its.toArray[i]? = some u := by simpa using hu
      exact Option.some.inj (hx'.symm.trans q)
    subst exu
    refine ⟨_, rfl, wpAny_letOwnedTupleGo_enum (s := { s with heap := h', toks := tk + 1 }) ho fun h'' he' sb => ?_⟩
    have hT2 : h''.get? s.heap.objs.size = some { cls := .type "tuple", data := .seq #[.int i tk, x'] } := (sb.2 _ (Nat.ne_of_gt hel)).trans hT
    have new : ObjOk X.prog X.w (upd H s.heap.objs.size (.tup [.int (i : Nat), x])) h'' s.heap.objs.size (.tup [.int (i : Nat), x]) :=
      ⟨by show 2 ≤ sizeLine; decide, [.int i tk, x'], .cons ⟨_, rfl⟩ (.cons ru .nil), ⟨_, hT2, rfl, _, rfl⟩⟩
    have I1 : Inv X pins σ (upd H s.heap.objs.size (.tup [.int (i : Nat), x])) { s with heap := h'', toks := tk + 1 } :=
      I.turnedNew (ch := [e, it]) (fun b ob hb q => (sb.2 b (fun z => hb (by simp [z]))).trans (hk b ob (fun z => hb (by simp [z])) (fun z => hb (by simp [z])) q)) hf (Nat.le_refl _) new
    refine ⟨.ref s.heap.objs.size, _, I1, rfl, ⟨_, x, rfl, I.hok.fresh (Nat.le_refl _), rfl, fun ys hy => by rw [I.tuple_inj hy hq]; exact hx⟩, ⟨⟨x', ?_⟩, hit'.at fun o q => (sb.2 it (Ne.symm hne)).trans q, hne⟩, fun b hb => ?_⟩
    · have e1 : ((i + 1 : Nat) : Int) = (i : Int) + 1 := by omega
      rw [e1]; exact he'
    · have hb' : b < s.heap.objs.size := by
        have e' : b = e ∨ b = it := by simpa using hb
        rcases e' with z | z
        · rw [z]; exact hel
        · rw [z]; exact hil
      rw [upd_ne (Nat.ne_of_lt hb')]
      exact (hf b hb).1
  done := by
    intro X hP hw hK hc i pins s σ H E I hf st hg
    subst hP hw hK
    obtain ⟨⟨old, he⟩, hit, hne⟩ := st
    obtain ⟨xs, hq, hx⟩ := hg
    obtain ⟨its, rv, p, hz⟩ := I.tuple hq
    obtain ⟨f0, f1, f2, f3, f4, f5⟩ := hf it (by simp)
    have hl := rv.length
    have hT : s.TypeIs (.ref e) "enumerate" := ⟨_, he, rfl⟩
    unfold pyNext
    refine wpAny_bind (wpAny_attempt (wpAny_callSpecial?_slot (name := Str.ofString "__next__") hT PySem.F.slot_enumerate_next
      (wpAny_call_entry PySem.F.slot_enumerate_next hT PySem.F.entry_enumerate_next ?_ (PySem.F.args_enumerate_next_1 _))))
    show wpAny _ _ (field (.ref e) 2 >>= _) _ _ _
    refine wpAny_bind (wpAny_field he rfl (x := .ref it) rfl ?_)
    refine wpAny_bind (wpAny_nextOf_tuple_end (I.ok.hd hc) hit p (by simp; omega) fun h' x he' hx' => ?_)
    obtain ⟨o, ho, hc'⟩ := hx'
    refine wpAny_bind (wpAny_isInstance (T := "StopIteration") (b := true) ⟨o, ho, hc'⟩ isSubtype_stop ?_)
    exact wpAny_pure ⟨rfl, I.turned (t' := s.toks) (fun b o hb q => he' b o hb q) f0 f1 f3 f4 f5⟩
  self := fun A i s Q E st h => let ⟨⟨_, he⟩, _⟩ := st; wpAny_pyIter_enum he h
def iEnumT (K : PySem.W.Frag) (ta : TA) : TI := fun σ H R => ta σ H fun vs H1 => ∃ a xs, vs = [.ref a] ∧ SqT K H1 a xs ∧ R (IteT K a) H1
theorem pi_enumT {X : Cx} {e : Expr} {ta : TA} {p pos tpos : Pos} {elts : List Expr} {kk : Nat} (hg : Gl X "enumerate") (hm : X.mg "enumerate" = none) (ha : PA X [e] ta) (hs : starEach [e] X.env = [(false, eval e X.env)] := by rfl) :
    PI X (.Tuple elts kk tpos) (.Call (.Name "enumerate" p) [e] [] pos) (iEnumT X.K ta) := by
  refine ⟨fun pins s σ H R I h => ?_⟩
  refine Call_ (ld_blt I hg hm boot_enumerate (PyProof.Rows.callWith_type1 (thn (ha.run pos pins s σ H _ I h) fun us s1 ⟨vs, H1, I1, r1, q1⟩ => ?_) hs rfl))
  obtain ⟨a, xs, ex, hq, q⟩ := q1
  subst ex
  cases r1 with
  | cons r rr =>
    cases rr
    cases r
    obtain ⟨its, rv, p', hz⟩ := I1.tuple hq
    have hal : a < s1.heap.objs.size := by obtain ⟨_, ho, _⟩ := p'; exact Heap.lt_size ho
    refine call_enumerate_tuple p' fun h' he hit hsz hk => wpAny_pyIter_enum he ?_
    have I2 : Inv X pins σ H1 { s1 with heap := h' } := I1.kept (t' := s1.toks) hk
    refine ⟨s1.heap.objs.size + 1, [s1.heap.objs.size + 1, s1.heap.objs.size], _, _, H1, rfl, I2, turn_enumT a (s1.heap.objs.size + 1) s1.heap.objs.size (Nat.ne_of_lt hal) (Nat.ne_of_lt (Nat.lt_succ_of_lt hal)).symm, ⟨⟨.none, he⟩, hit, Nat.succ_ne_self _⟩, fun b hb => ?_, q⟩
    have e' : b = s1.heap.objs.size + 1 ∨ b = s1.heap.objs.size := by simpa using hb
    have hle : s1.heap.objs.size ≤ b := by
      rcases e' with z | z
      · rw [z]; exact Nat.le_add_right _ _
      · rw [z]; exact Nat.le_refl _
    exact I1.fpOk hle (I1.hok.fresh hle)
theorem walk_enumT {K : PySem.W.Frag} {a : Addr} {xs : List V} : Walk (IteT K a) xs.length (fun H => SqT K H a xs) (YPair (fun i => some (.int (i : Nat))) (fun i => xs[i]?)) := by
  constructor
  · intro i H hi q
    exact ⟨xs, xs[i], q, by simp [hi]⟩
  · intro H q
    exact ⟨xs, q, Nat.le_refl _⟩
  · rintro i H v H' _ q ⟨T, x, h1, h2, h3, h4⟩
    exact ⟨T, .int (i : Nat), x, h1, h2, h3, rfl, h4 xs q⟩
end Rp
namespace Rp
open PySem PySem.Spec PyProof.Rows L2
/-- sorted(d, reverse=b): the keys of a dict, all ints -/
def rSortedDR (b : Bool) : List V → List V → Hp → VK → Prop := fun xs zs H Q => ∃ (a : Addr) (kvs : List (Key × V)) (ks : List Int), xs = [.ref a] ∧ zs = [.bl b] ∧ H a = some (.dK kvs) ∧ kvs.map (·.1) = ks.map Sum.inl ∧ ks.length ≤ 1000 ∧
    ∀ (ys : List Int) (p : Addr), ys.Perm ks → OrdB b ys → H p = none → Q (.ref p) (upd H p (.lst (ys.map V.int)))
theorem cr_sortedDRev {X : Cx} {b : Bool} (hcalm : X.calm = true) : CallRK X (.builtin "sorted") [Str.ofString "reverse"] (rSortedDR b) := by
  intro pins s σ H xs zs us ws Q I r rz q
  obtain ⟨a, kvs, ks, ex, ez, hd, hks, h64, q⟩ := q
  subst ex
  subst ez
  obtain ⟨u, eu, rx⟩ := vals1 r
  subst eu
  cases rx
  obtain ⟨w1, rfl, e1⟩ := vals1 rz
  obtain rfl : w1 = Value.bool b := e1
  obtain ⟨z, lo, vs, rel, dd⟩ := dk_rd I.hok (.inl hd)
  obtain ⟨ep, hat⟩ := dd.dictAt
  have hkeys : vs.map (·.1) = ks.map Sum.inl := rel.keys.symm.trans hks
  have hl : vs.length = ks.length := by
    have e := congrArg List.length hkeys
    rw [List.length_map, List.length_map] at e
    exact e
  have h16 : vs.length ≤ sizeLine := by rw [hl, sizeLine_eq]; omega
  refine call_function_entry_kw PyProof.Rows.kind_sorted PyProof.Rows.plain_sorted PyProof.Rows.entry_sorted (PyProof.Rows.args_sorted_rev _ _) ?_
  unfold Builtin.«sorted»
  refine wpAny_bind (m := checkCount "sorted" 1 1 _) (wpAny_pure ?_)
  refine wpAny_bind (PySem.W.kdu_collect (A := X.A.in1) (PySem.W.kdl_dict (knd := mixKind X.prog X.w) (kvs := vs) (ep := ep) lo) (I.ok.hd hcalm) hat h16 fun h' tk acc hk hacc => ?_)
  have hal : acc.toList.length = ks.length := by rw [Array.length_toList, hacc.1, hl]
  have hS : IntsAre acc.toList ks := ints_each hal fun j v e => by
    obtain ⟨k, x, e1, e2⟩ := hacc.2 j v (by rw [← Array.getElem?_toList]; exact e)
    have e3 : (vs.map (·.1))[j]? = some k := by rw [List.getElem?_map, e1]; rfl
    rw [hkeys, List.getElem?_map] at e3
    cases e4 : ks[j]? with
    | none => rw [e4] at e3; cases e3
    | some y =>
      rw [e4] at e3
      have e5 : Sum.inl y = k := Option.some.inj e3
      subst e5
      rcases keyIs_shape (show keyIs (Sum.inl y) v = true from e2) with ⟨i, t, ek, ev⟩ | ⟨z, t, ek, ev⟩
      · cases ek
        exact ⟨y, t, rfl, ev⟩
      · cases ek
  have I1 : Inv X pins σ H { s with heap := h', toks := tk } := I.kept hk
  have hz : acc.toList.length ≤ sizeLine := by rw [hal, sizeLine_eq]; omega
  refine wpAny_bind (wpAny_newList ?_ (by rw [hal, sizeLine_eq]; omega))
  have hoL : (h'.push (seqObj "list" acc.toList.toArray 0)).get? h'.objs.size = some (seqObj "list" acc.toList.toArray 0) := Heap.get?_push_size _ rfl
  show wpAny _ _ _ _ _ { s with heap := h'.push (seqObj "list" acc.toList.toArray 0), toks := tk }
  refine wpAny_bind (wpAny_holding (wpAny_call_entry_kw PyProof.Rows.slot_list_sort ⟨_, hoL, rfl⟩ PyProof.Rows.entry_list_sort ?_ (PyProof.Rows.args_list_sort_rev _ _)))
  refine SrtR.list_sort_ordR (s := { s with heap := h'.push (seqObj "list" acc.toList.toArray 0), toks := tk }) SrtO.swo_int hoL hz (fun h2 => SrtO.ints_sortable hS h2) fun out g0 g3 => ⟨_, rfl, ?_⟩
  obtain ⟨ys, g1, g2, g3⟩ := SrtR.ints_outR hS g0 g3
  obtain ⟨e', he'⟩ := PyProof.Rows.sortedHeap_at (vs := acc.toList) (out := (if b = true then out.toArray.reverse else out.toArray)) hoL
  have hlen : (ys.map V.int).length ≤ sizeLine := by
    rw [List.length_map, g2.length_eq]
    rw [sizeLine_eq]; omega
  have e0 : ((if b = true then out.toArray.reverse else out.toArray).toList).toArray = (if b = true then out.toArray.reverse else out.toArray) := by rw [Array.toArray_toList]
  skip
  refine wpAny_pure ⟨_, rfl, .ref h'.objs.size, upd H h'.objs.size (.lst (ys.map V.int)), I1.laid (t' := tk) (fun b u e => ?_) (Nat.le_refl _)
    (show ObjOk X.prog X.w _ _ _ (.lst (ys.map V.int)) from ⟨hlen, _, e', vals_of_ints g1, by rw [e0]; exact he'⟩), rfl, q ys _ g2 g3 (I1.hok.fresh (Nat.le_refl _))⟩
  have hb : b < h'.objs.size := Heap.lt_size e
  rw [PyProof.Rows.sortedHeap_old (Nat.ne_of_lt hb) (by rw [size_push']; exact Nat.lt_succ_of_lt hb)]
  exact Heap.get?_push_of_some _ e
theorem r_callBK {r : List V → List V → Hp → VK → Prop} {t tk : TA} {σ : L2.St} {H : Hp} {Q : VK} (h : t σ H fun vs H1 => tk σ H1 fun zs H2 => r vs zs H2 Q) : tCKw r t tk σ H Q := h
end Rp
namespace Rp
open PySem PySem.Spec PyProof.Rows L2 LamX RZ
/-- what is a clock -/
theorem clk_int {v : V} (h : clk v = true) : ∃ cl : Int, v = .int cl ∧ 3 ≤ cl ∧ cl ≤ 31 := by
  cases v with
  | int i =>
    refine ⟨i, rfl, ?_⟩
    have m := List.contains_iff_mem.mp (show clocks.contains i = true from h)
    revert m
    simp only [clocks, List.mem_cons, List.not_mem_nil, or_false]
    omega
  | _ => cases h
theorem inB_int {v : V} {lo hi : Option Int} (h : inB v lo hi = true) : ∃ i : Int, v = .int i := by
  cases v with
  | int i => exact ⟨i, rfl⟩
  | _ => cases h
theorem inB_of {i : Int} {l u : Int} (h : inB (.int i) (some l) (some u) = true) : l ≤ i ∧ i ≤ u := by
  have z := Bool.and_eq_true_iff.mp (show (decide (l ≤ i) && decide (i ≤ u)) = true from h)
  exact ⟨of_decide_eq_true z.1, of_decide_eq_true z.2⟩
theorem powF_in {cl n : Int} (h : 2 ≤ cl) : ∀ k, 0 ≤ powF cl n k ∧ powF cl n k < cl
  | 0 => ⟨by show (0 : Int) ≤ 1; decide, by show (1 : Int) < cl; omega⟩
  | k + 1 => ⟨(fmod_in (by omega)).1, (fmod_in (by omega)).2⟩
theorem rowOk_some {o : Option (List V)} {c l h : Int} (e : rowOk o c l h = true) : ∃ xs, o = some xs ∧ xs.length ≤ h.toNat ∧ ∀ x ∈ xs, ∃ i : Int, x = .int i ∧ 0 ≤ i ∧ i ≤ c - 1 := by
  cases o with
  | none => cases e
  | some xs =>
    obtain ⟨e1, e2⟩ := Bool.and_eq_true_iff.mp (show ((decide (l ≤ (xs.length : Int)) && decide ((xs.length : Int) ≤ h)) && xs.all fun x => inB x (some 0) (some (c - 1))) = true from e)
    have e3 := of_decide_eq_true (Bool.and_eq_true_iff.mp e1).2
    refine ⟨xs, rfl, by omega, fun x m => ?_⟩
    have z := List.all_eq_true.mp e2 x m
    obtain ⟨i, rfl⟩ := inB_int z
    exact ⟨i, rfl, inB_of z⟩
theorem row_ref {K : PySem.W.Frag} {q : Addr} {H : Hp} {v : V} {xs : List V} (h : RowV q H v (some xs)) : ∃ p, v = .ref p ∧ (SqL K H p xs ∨ SqT K H p xs) := by
  cases h with
  | lst n e _ => exact ⟨_, rfl, .inl (SqL.of e)⟩
  | tup n e _ => exact ⟨_, rfl, .inr (SqT.of e)⟩
theorem row_same {q : Addr} {H H' : Hp} {v : V} {o : Option (List V)} (h : RowV q H v o) (s : Same H H') : RowV q H' v o := h.but fun b o _ e => s b o e
theorem any_same {q : Addr} {H H' : Hp} {v : V} (h : Any q H v) (s : Same H H') : Any q H' v := h.but fun b o _ e => s b o e
/-- zip of two tuples -/
theorem walk_zipT {K : PySem.W.Frag} {a b : Addr} {xs ys : List V} {n : Nat} (hn : n = min xs.length ys.length) : Walk (ItzT K a b) n (fun H => SqT K H a xs ∧ SqT K H b ys) (YPair (fun i => xs[i]?) (fun i => ys[i]?)) := by
  subst hn
  constructor
  · intro i H hi q
    have h1 : i < xs.length := by omega
    have h2 : i < ys.length := by omega
    exact ⟨xs, ys, xs[i], ys[i], q.1, q.2, by simp [h1], by simp [h2]⟩
  · intro H q
    exact ⟨xs, ys, q.1, q.2, by omega⟩
  · rintro i H v H' _ q ⟨T, x, z, h1, h2, h3, h4, h5⟩
    exact ⟨T, x, z, h1, h2, h3, h4 xs q.1, h5 ys q.2⟩
theorem zip_at {α β γ : Type} {xs : List α} {ys : List β} {f : α × β → γ} {i : Nat} {x : α} {y : β} (hx : xs[i]? = some x) (hy : ys[i]? = some y) : ((xs.zip ys).take (i + 1)).map f = ((xs.zip ys).take i).map f ++ [f (x, y)] := by
  have z : (xs.zip ys)[i]? = some (x, y) := by
    rw [List.getElem?_zip_eq_some]
    exact ⟨hx, hy⟩
  rw [List.take_succ, z, List.map_append]
  rfl
theorem dr_put {q c D : Addr} {ns : List Int} {lap : Nat} {H : Hp} {o : HO} (d : Dr q c ns lap H) (n1 : D ≠ q) (n2 : D ≠ c) : Dr q c ns lap (upd H D o) := by
  obtain ⟨ne, ⟨rest, hb⟩, hc, hl⟩ := d
  exact ⟨ne, ⟨rest, by rw [upd_ne n1.symm]; exact hb⟩, by rw [upd_ne n2.symm]; exact hc, hl⟩
theorem dr_off {q c D : Addr} {ns : List Int} {lap : Nat} {H : Hp} (d : Dr q c ns lap H) (h : H D = none) : D ≠ q ∧ D ≠ c := by
  obtain ⟨ne, ⟨rest, hb⟩, hc, hl⟩ := d
  exact ⟨(ne_of_none hb h).symm, (ne_of_none hc h).symm⟩
theorem inB_out {i l u : Int} (h : i < l ∨ u < i) : inB (.int i) (some l) (some u) = false := by
  show (decide (l ≤ i) && decide (i ≤ u)) = false
  rcases h with h | h
  · rw [decide_eq_false (by omega), Bool.false_and]
  · rw [decide_eq_false (p := i ≤ u) (by omega), Bool.and_false]
theorem rowOk_bad {xs : List V} {x : V} {cl : Int} (m : x ∈ xs) (h : inB x (some 0) (some (cl - 1)) = false) : rowOk (some xs) cl 1 400 = false := by
  have e : (xs.all fun x => inB x (some 0) (some (cl - 1))) = false := by
    rw [List.all_eq_false]
    exact ⟨x, m, by rw [h]; decide⟩
  show (_ && (xs.all fun x => inB x (some 0) (some (cl - 1)))) = false
  rw [e, Bool.and_false]
theorem rowOk_long {xs : List V} {cl : Int} (h : 400 < xs.length) : rowOk (some xs) cl 1 400 = false := by
  show ((_ && decide ((xs.length : Int) ≤ 400)) && _) = false
  rw [decide_eq_false (p := (xs.length : Int) ≤ 400) (by omega), Bool.and_false, Bool.false_and]
theorem inB_yes {i l u : Int} (a : l ≤ i) (b : i ≤ u) : inB (.int i) (some l) (some u) = true := by
  show (decide (l ≤ i) && decide (i ≤ u)) = true
  rw [decide_eq_true a, decide_eq_true b]
  rfl
theorem tabs_but {q : Addr} {T : List (Addr × Str)} {H H' : Hp} {xs : List V} (B : But q H H') (hq : H q = some (.lst xs)) (t : Tabs T H) : Tabs T H' := by
  intro p m
  obtain ⟨ps, h1, h2, h3⟩ := t p m
  have off : ∀ {b o}, H b = some o → (∀ xs, o ≠ .lst xs) → b ≠ q := by
    rintro b o e n rfl
    exact n xs (Option.some.inj (e.symm.trans hq))
  refine ⟨ps, B _ _ (off h1 fun _ z => by cases z) h1, h2, fun pos cv hc => ?_⟩
  obtain ⟨c, e1, e2⟩ := h3 pos cv hc
  exact ⟨c, e1, B _ _ (off e2 fun _ z => by unfold CodeO at z; cases z) e2⟩
theorem dr_ext {q c : Addr} {ns : List Int} {lap : Nat} {H H' : Hp} (d : Dr q c ns lap H) (x : ExtN H H') : Dr q c ns lap H' := by
  obtain ⟨ne, ⟨rest, hb⟩, hc, hl⟩ := d
  exact ⟨ne, ⟨rest, x _ _ hb (fun _ z => by cases z)⟩, x _ _ hc (fun _ z => by cases z), hl⟩
theorem fit_ints {xs : List Int} {lo hi : Int} (h : ∀ x ∈ xs, lo ≤ x ∧ x ≤ hi) (l0 : -(10 ^ 6) ≤ lo) (h0 : hi ≤ 10 ^ 6) : FitA 0 (15 * xs.length) (xs.map PyData.int) := by
  induction xs with
  | nil => exact FitA.nil
  | cons x r ih =>
    have z := h x (List.mem_cons_self ..)
    have f := FitA.cons (n := 0) (c := 13) (d := .int x) (fit_int (by omega)) (ih fun y m => h y (List.mem_cons_of_mem _ m))
    refine f.le (Nat.le_refl _) ?_
    rw [List.length_cons]
    omega
theorem dd_ints {K : PySem.W.Frag} {H : Hp} : ∀ (ns : List Int), DdAll K H (ns.map V.int) (ns.map PyData.int)
  | [] => .nil
  | n :: r => .cons (.num n) (dd_ints r)
theorem vint_of {xs : List Int} {cl : Int} (h : ∀ x ∈ xs, 0 ≤ x ∧ x ≤ cl - 1) : EachP (IntIn 0 (cl - 1)) (xs.map V.int) := .of fun v m => by
  obtain ⟨i, mi, rfl⟩ := List.mem_map.mp m
  exact ⟨i, rfl, (h i mi).1, (h i mi).2⟩
theorem rowOk_ints {xs : List Int} {cl : Int} (h : ∀ x ∈ xs, 0 ≤ x ∧ x ≤ cl - 1) (l1 : 1 ≤ xs.length) (l2 : xs.length ≤ 400) : rowOk (some (xs.map V.int)) cl 1 400 = true := by
  have r := row_yes (vint_of h)
  show (decide ((1 : Int) ≤ ((xs.map V.int).length : Int)) && decide (((xs.map V.int).length : Int) ≤ 400) && _) = true
  have e : (xs.map V.int).all (fun x => inB x (some 0) (some (cl - 1))) = true := (Bool.and_eq_true_iff.mp r).2
  rw [e, List.length_map, decide_eq_true (show (1 : Int) ≤ (xs.length : Int) by omega), decide_eq_true (show (xs.length : Int) ≤ 400 by omega)]
  rfl
theorem neu {H G : Hp} {p : Addr} {o : HO} (hG : upd H p o = G) (hp : H p = none) : Same H G ∧ G p = some o := by
  subst hG
  exact ⟨same_neu (Same.refl H) hp, upd_same⟩
theorem ints_fit : ∀ {xs : List Int}, (∀ x ∈ xs, 0 ≤ x ∧ x ≤ 31) → xs.length ≤ 400 → Fit 64 15000000 (.list (xs.map PyData.int)) := fun h l => (fit_ints h (by decide) (by decide)).list.le (by decide) (by omega)
def spInv (cC cN cM : Addr) : Sp := fun vs H Q E => ∃ q c v, vs = [c, v] ∧ Any q H c ∧ Any q H v ∧ (clk c = false → errAt E cC "part" (.str "clock") H) ∧
  ∀ cl, c = .int cl → clk c = true → (inB v (some 0) (some (cl - 1)) = false → errAt E cN "part" (.str "number") H) ∧ (v = .int 0 → errAt E cM "part" (.str "number") H) ∧
    ∀ i, v = .int i → 0 < i → i < cl → Q (.int (powF cl i (cl - 2).toNat)) H
/-! ### rows on the heap -/
def RowAt (K : PySem.W.Frag) (H : Hp) (a : Addr) (xs : List Int) : Prop := SqL K H a (xs.map V.int) ∨ SqT K H a (xs.map V.int)
theorem RowAt.same {K : PySem.W.Frag} {H H' : Hp} {a : Addr} {xs : List Int} (h : RowAt K H a xs) (s : Same H H') : RowAt K H' a xs := h.imp (fun z => s.seq z) (fun z => Same.tupS s z)
inductive RowsOf (K : PySem.W.Frag) (H : Hp) : List V → List (List Int) → Prop
  | nil : RowsOf K H [] []
  | cons {a : Addr} {xs : List Int} {vs : List V} {rs : List (List Int)} (h : RowAt K H a xs) (t : RowsOf K H vs rs) : RowsOf K H (.ref a :: vs) (xs :: rs)
theorem RowsOf.same {K : PySem.W.Frag} {H H' : Hp} (s : Same H H') : ∀ {vs : List V} {rs : List (List Int)}, RowsOf K H vs rs → RowsOf K H' vs rs
  | _, _, .nil => .nil
  | _, _, .cons h t => .cons (h.same s) (t.same s)
theorem RowsOf.len {K : PySem.W.Frag} {H : Hp} : ∀ {vs : List V} {rs : List (List Int)}, RowsOf K H vs rs → vs.length = rs.length
  | _, _, .nil => rfl
  | _, _, .cons _ t => by rw [List.length_cons, List.length_cons, t.len]
theorem RowsOf.at {K : PySem.W.Frag} {H : Hp} : ∀ {vs : List V} {rs : List (List Int)} {i : Nat} {v : V}, RowsOf K H vs rs → vs[i]? = some v → ∃ a xs, v = .ref a ∧ rs[i]? = some xs ∧ RowAt K H a xs
  | _, _, _, _, .nil, e => by cases e
  | _, _, 0, _, .cons h _, e => by cases e; exact ⟨_, _, rfl, rfl, h⟩
  | _, _, i + 1, _, .cons _ t, e => t.at (i := i) e
theorem RowsOf.snoc {K : PySem.W.Frag} {H : Hp} {a : Addr} {xs : List Int} : ∀ {vs : List V} {rs : List (List Int)}, RowsOf K H vs rs → RowAt K H a xs → RowsOf K H (vs ++ [.ref a]) (rs ++ [xs])
  | _, _, .nil, h => .cons h .nil
  | _, _, .cons h t, k => .cons h (t.snoc k)
theorem RowsOf.rev {K : PySem.W.Frag} {H : Hp} : ∀ {vs : List V} {rs : List (List Int)}, RowsOf K H vs rs → RowsOf K H vs.reverse rs.reverse
  | _, _, .nil => .nil
  | _, _, .cons h t => by rw [List.reverse_cons, List.reverse_cons]; exact t.rev.snoc h
/-- rows, each a tuple, in a tuple -/
def TupRows (K : PySem.W.Frag) (H : Hp) (p : Addr) (rs : List (List Int)) : Prop := ∃ ps : List Addr, H p = some (.tup (ps.map V.ref)) ∧ ps.length = rs.length ∧ ∀ (i : Nat) (b : Addr) (xs : List Int), ps[i]? = some b → rs[i]? = some xs → H b = some (.tup (xs.map V.int))
theorem TupRows.same {K : PySem.W.Frag} {H H' : Hp} {p : Addr} {rs : List (List Int)} (h : TupRows K H p rs) (s : Same H H') : TupRows K H' p rs := by
  obtain ⟨ps, h1, h2, h3⟩ := h
  exact ⟨ps, s _ _ h1, h2, fun i b xs e1 e2 => s _ _ (h3 i b xs e1 e2)⟩
def rowD (xs : List Int) : PyData := .tuple (xs.map PyData.int)
theorem dd_rows {K : PySem.W.Frag} {H : Hp} : ∀ {ps : List Addr} {rs : List (List Int)}, ps.length = rs.length → (∀ (i : Nat) (b : Addr) (xs : List Int), ps[i]? = some b → rs[i]? = some xs → H b = some (.tup (xs.map V.int))) → DdAll K H (ps.map V.ref) (rs.map rowD)
  | [], [], _, _ => .nil
  | b :: ps, xs :: rs, l, h => .cons (.tup (SqT.of (h 0 b xs rfl rfl)) (dd_ints xs)) (dd_rows (by simpa using l) fun i b xs e1 e2 => h (i + 1) b xs e1 e2)
  | [], _ :: _, l, _ => by cases l
  | _ :: _, [], l, _ => by cases l
theorem TupRows.dd {K : PySem.W.Frag} {H : Hp} {p : Addr} {rs : List (List Int)} (h : TupRows K H p rs) : Dd K H (.ref p) (.tuple (rs.map rowD)) := by
  obtain ⟨ps, h1, h2, h3⟩ := h
  exact .tup (SqT.of h1) (dd_rows h2 h3)
/-- any values for rows -/
inductive RowVs (q : Addr) (H : Hp) : List V → List (Option (List V)) → Prop
  | nil : RowVs q H [] []
  | cons {v : V} {o : Option (List V)} {vs : List V} {os : List (Option (List V))} (h : RowV q H v o) (t : RowVs q H vs os) : RowVs q H (v :: vs) (o :: os)
theorem RowVs.but {q : Addr} {H H' : Hp} (s : But q H H') : ∀ {vs : List V} {os : List (Option (List V))}, RowVs q H vs os → RowVs q H' vs os
  | _, _, .nil => .nil
  | _, _, .cons h t => .cons (h.but s) (t.but s)
theorem RowVs.same {q : Addr} {H H' : Hp} (s : Same H H') {vs : List V} {os : List (Option (List V))} (h : RowVs q H vs os) : RowVs q H' vs os := h.but (same_but s)
theorem RowVs.len {q : Addr} {H : Hp} : ∀ {vs : List V} {os : List (Option (List V))}, RowVs q H vs os → vs.length = os.length
  | _, _, .nil => rfl
  | _, _, .cons _ t => by rw [List.length_cons, List.length_cons, t.len]
theorem RowVs.at {q : Addr} {H : Hp} : ∀ {vs : List V} {os : List (Option (List V))} {i : Nat} {v : V}, RowVs q H vs os → vs[i]? = some v → ∃ o, os[i]? = some o ∧ RowV q H v o
  | _, _, _, _, .nil, e => by cases e
  | _, _, 0, _, .cons h _, e => by cases e; exact ⟨_, rfl, h⟩
  | _, _, i + 1, _, .cons _ t, e => t.at (i := i) e
inductive RowsV (q : Addr) (H : Hp) : V → Option (List (Option (List V))) → Prop
  | non : RowsV q H .non none
  | bl (b : Bool) : RowsV q H (.bl b) none
  | num (i : Int) : RowsV q H (.int i) none
  | str (x : Str) : RowsV q H (.str x) none
  | dic {a : Addr} {kvs : List (Key × V)} (n : a ≠ q) (e : H a = some (.dK kvs)) : RowsV q H (.ref a) none
  | lst {a : Addr} {xs : List V} {os : List (Option (List V))} (n : a ≠ q) (e : H a = some (.lst xs)) (it : RowVs q H xs os) : RowsV q H (.ref a) (some os)
  | tup {a : Addr} {xs : List V} {os : List (Option (List V))} (n : a ≠ q) (e : H a = some (.tup xs)) (it : RowVs q H xs os) : RowsV q H (.ref a) (some os)
theorem RowsV.but {q : Addr} {H H' : Hp} {v : V} {os : Option (List (Option (List V)))} (h : RowsV q H v os) (b : But q H H') : RowsV q H' v os := by
  cases h with
  | non => exact .non
  | bl b => exact .bl b
  | num i => exact .num i
  | str x => exact .str x
  | dic n e => exact .dic n (b _ _ n e)
  | lst n e it => exact .lst n (b _ _ n e) (it.but b)
  | tup n e it => exact .tup n (b _ _ n e) (it.but b)
theorem RowsV.same {q : Addr} {H H' : Hp} {v : V} {os : Option (List (Option (List V)))} (h : RowsV q H v os) (s : Same H H') : RowsV q H' v os := h.but (same_but s)
theorem rowsv_seq {K : PySem.W.Frag} {q : Addr} {H : Hp} {v : V} {os : Option (List (Option (List V)))} (h : RowsV q H v os) : ∃ t : Value, TyX K H v t ∧ PySem.W.kitAny K t [.type "list", .type "tuple"] = some os.isSome := by
  cases h with
  | non => exact row_seq (K := K) (RowV.non (q := q) (H := H))
  | bl b => exact row_seq (K := K) (RowV.bl (q := q) (H := H) b)
  | num i => exact row_seq (K := K) (RowV.num (q := q) (H := H) i)
  | str x => exact row_seq (K := K) (RowV.str (q := q) (H := H) x)
  | dic n e => exact row_seq (K := K) (RowV.dic n e)
  | lst n e it => exact ⟨_, .base (.lst e), kit2 (x := true) (y := false) (by decide +kernel) (by decide +kernel)⟩
  | tup n e it => exact ⟨_, .base (.tup e), kit2 (x := false) (y := true) (by decide +kernel) (by decide +kernel)⟩
/-- rows of the clock, not too many -/
def areB (os : Option (List (Option (List V)))) (cl size : Int) : Bool :=
  match os with
  | none => false
  | some l => decide ((l.length : Int) ≤ 400) && l.all fun o => rowB o cl size
/-- the numbers of a row -/
def numOf : V → Int
  | .int i => i
  | _ => 0
def rowsI (os : List (Option (List V))) : List (List Int) := os.map fun o => (o.getD []).map numOf
/-- the lengths that a value's lists may have -/
def LenOk (os : Option (List (Option (List V)))) : Prop := ∀ l, os = some l → l.length < sizeLine ∧ ∀ o ∈ l, ∀ xs, o = some xs → xs.length < sizeLine
/-- a row that is told to be one -/
theorem rowB_ints {o : Option (List V)} {cl n : Int} (h : rowB o cl n = true) : ∃ xs : List Int, o = some (xs.map V.int) ∧ ((o.getD []).map numOf) = xs ∧ (xs.length : Int) = n ∧ ∀ x ∈ xs, 0 ≤ x ∧ x ≤ cl - 1 := by
  cases o with
  | none => cases h
  | some vs =>
    obtain ⟨h1, h2⟩ := Bool.and_eq_true_iff.mp (show (decide ((vs.length : Int) = n) && vs.all fun x => inB x (some 0) (some (cl - 1))) = true from h)
    have l := of_decide_eq_true h1
    have key : ∀ ws : List V, (∀ w ∈ ws, inB w (some 0) (some (cl - 1)) = true) → ws = (ws.map numOf).map V.int ∧ ∀ x ∈ ws.map numOf, 0 ≤ x ∧ x ≤ cl - 1 := by
      intro ws
      induction ws with
      | nil => exact fun _ => ⟨rfl, fun x m => nomatch m⟩
      | cons w r ih =>
        intro q
        obtain ⟨i, rfl⟩ := inB_int (q w (List.mem_cons_self ..))
        have b := inB_of (q _ (List.mem_cons_self ..))
        obtain ⟨a1, a2⟩ := ih fun y m => q y (List.mem_cons_of_mem _ m)
        refine ⟨?_, fun x m => ?_⟩
        · show V.int i :: r = V.int i :: (r.map numOf).map V.int
          rw [← a1]
        · rcases List.mem_cons.mp (show x ∈ i :: r.map numOf from m) with e | m
          · rw [e]; exact b
          · exact a2 x m
    obtain ⟨k1, k2⟩ := key vs (List.all_eq_true.mp h2)
    refine ⟨vs.map numOf, ?_, rfl, ?_, k2⟩
    · rw [← k1]
    · rw [List.length_map]; exact l
theorem rowV_at {K : PySem.W.Frag} {q : Addr} {H : Hp} {v : V} {xs : List Int} (h : RowV q H v (some (xs.map V.int))) : ∃ a, v = .ref a ∧ RowAt K H a xs := by
  cases h with
  | lst n e _ => exact ⟨_, rfl, .inl (SqL.of e)⟩
  | tup n e _ => exact ⟨_, rfl, .inr (SqT.of e)⟩
/-- rows that are told to be rows -/
theorem rows_ints {K : PySem.W.Frag} {q : Addr} {H : Hp} {cl n : Int} : ∀ {vs : List V} {os : List (Option (List V))}, RowVs q H vs os → (os.all fun o => rowB o cl n) = true → RowsOf K H vs (rowsI os) ∧ ∀ xs ∈ rowsI os, (xs.length : Int) = n ∧ ∀ x ∈ xs, 0 ≤ x ∧ x ≤ cl - 1
  | _, _, .nil, _ => ⟨.nil, fun _ m => nomatch m⟩
  | _ :: vs, o :: os, .cons h t, e => by
    obtain ⟨e1, e2⟩ := Bool.and_eq_true_iff.mp (show (rowB o cl n && _) = true from e)
    obtain ⟨xs, r1, r2, r3, r4⟩ := rowB_ints e1
    obtain ⟨t1, t2⟩ := rows_ints (K := K) t e2
    have r5 : rowsI (o :: os) = xs :: rowsI os := congrArg (· :: rowsI os) r2
    rw [r1] at h
    obtain ⟨a, rfl, ha⟩ := rowV_at (K := K) h
    rw [r5]
    refine ⟨.cons ha t1, fun ys m => ?_⟩
    rcases List.mem_cons.mp m with z | m
    · rw [z]; exact ⟨r3, r4⟩
    · exact t2 ys m
end Rp
namespace Rp
open PySem PySem.Spec PyProof.Rows L2 RT RZ
theorem walk_revT {K : PySem.W.Frag} {a : Addr} {xs : List V} : Walk (ItvT K a xs.length) xs.length (fun H => SqT K H a xs) (fun i H x H' => H' = H ∧ xs[xs.length - 1 - i]? = some x) := by
  constructor
  · intro i H hi q
    exact ⟨hi, xs, xs[xs.length - 1 - i]'(by omega), q, List.getElem?_eq_getElem _⟩
  · intro H q
    exact Nat.le_refl _
  · rintro i H v H' _ q ⟨h1, h2⟩
    exact ⟨h1, h2 xs q⟩
section
variable {K : PySem.W.Frag} {ta te td ty tv : TE} {tl tk : TA} {σ : L2.St} {H : Hp} {Q : VK} {R : It → Hp → Prop} {f : Str} {D : Ends}
theorem r_ienumT (h : tl σ H fun vs H1 => ∃ a xs, vs = [.ref a] ∧ SqT K H1 a xs ∧ R (IteT K a) H1) : iEnumT K tl σ H R := h
theorem r_ienum (h : tl σ H fun vs H1 => ∃ a xs, vs = [.ref a] ∧ SqL K H1 a xs ∧ R (Ite K a) H1) : iEnum K tl σ H R := h
theorem r_irevA (h : te σ H fun v H1 => ∃ (a : Addr) (xs : List V), v = .ref a ∧ ((SqL K H1 a xs ∧ R (Itv K a xs.length) H1) ∨ (SqT K H1 a xs ∧ R (ItvT K a xs.length) H1))) : iRevA K te σ H R := h
theorem r_iitems (h : td σ H fun x H1 => ∃ d o kvs, x = .ref d ∧ H1 d = some (.frz o (.dK kvs)) ∧ R (Iti d o kvs) H1) : iItems td σ H R := h
theorem r_dget (h : td σ H fun x H1 => ty σ H1 fun y H2 => ∃ a v, x = .ref a ∧ DGet H2 a y (some v) ∧ Q v H2) : tDGet td ty σ H Q := h
theorem r_revL (h : te σ H fun x H1 => ∃ a xs, x = .ref a ∧ SqL K H1 a xs ∧ ∀ p, H1 p = none → Q (.ref p) (upd H1 p (.lst xs.reverse))) : tRevL K te σ H Q := h
theorem r_dnew (h : ∀ p, H p = none → Q (.ref p) (upd H p (.dK []))) : tDNewK σ H Q := h
end
theorem r_lock {t : TS} {D : Ends} {σ : L2.St} {H : Hp} {d : Addr} {u : HO} (hd : H d = some u) (m : Mut (some u)) (h : ∀ od, t ⟨fun σ' H' => H' d = some (.frz od u) ∧ D.nx σ' (upd H' d u), fun v H' => H' d = some (.frz od u) ∧ D.rt v (upd H' d u), fun σ' H' => H' d = some (.frz od u) ∧ D.bk σ' (upd H' d u), fun σ' H' => H' d = some (.frz od u) ∧ D.ct σ' (upd H' d u)⟩ σ (upd H d (.frz od u))) : tLock t D σ H := ⟨d, u, hd, m, h⟩
/-- leading rows, packed, by their leads -/
def dkl (ls : List (Nat × List Int)) : List (Key × V) := ls.map fun l => (Sum.inl (l.1 : Int), V.int (pk l.2))
theorem dkl_put (ls : List (Nat × List Int)) (a : Nat) (r : List Int) : putK (dkl ls) (Sum.inl (a : Int)) (.int (pk r)) = dkl (putL ls a r) := by
  have e : ((dkl ls).any fun kv => decide (kv.1 = Sum.inl (a : Int))) = ls.any fun l => decide (l.1 = a) := by
    unfold dkl
    rw [List.any_map]
    congr 1
    funext l
    show decide ((Sum.inl (l.1 : Int) : Key) = Sum.inl (a : Int)) = decide (l.1 = a)
    by_cases h : l.1 = a
    · rw [h, decide_eq_true rfl, decide_eq_true rfl]
    · rw [decide_eq_false h, decide_eq_false (fun z => h (by have := Sum.inl.inj z; omega))]
  unfold putK putL
  rw [e]
  split
  · unfold dkl
    rw [List.map_map, List.map_map]
    refine List.map_congr_left fun l _ => ?_
    show (if (Sum.inl (l.1 : Int) : Key) = Sum.inl (a : Int) then (Sum.inl (l.1 : Int), V.int (pk r)) else (Sum.inl (l.1 : Int), V.int (pk l.2))) = _
    by_cases h : l.1 = a
    · rw [if_pos (by rw [h])]
      simp [h]
    · rw [if_neg (fun z => h (by have := Sum.inl.inj z; omega))]
      simp [h]
  · unfold dkl
    rw [List.map_append]
    rfl
theorem dkl_val : ∀ {ls : List (Nat × List Int)} {a : Nat}, a ∈ ls.map (·.1) → valV (dkl ls) (Sum.inl (a : Int)) = some (.int (pk (findL ls a)))
  | [], _, m => nomatch m
  | l :: ls, a, m => by
    unfold dkl
    rw [List.map_cons]
    by_cases h : l.1 = a
    · rw [valV_pos (by rw [h])]
      unfold findL
      rw [List.find?_cons_of_pos (by simp [h])]
      rfl
    · rw [valV_neg (fun z => h (by have := Sum.inl.inj z; omega))]
      have m2 : a ∈ ls.map (·.1) := by
        rcases List.mem_cons.mp m with z | z
        · exact absurd z.symm h
        · exact z
      have q := dkl_val m2
      unfold dkl at q
      rw [q]
      unfold findL
      rw [List.find?_cons_of_neg (by simp [h])]
def spLeadOf (K : PySem.W.Frag) : Sp := fun vs H Q _ => ∃ (a : Addr) (xs : List Int), vs = [.ref a] ∧ SqT K H a (xs.map V.int) ∧ xs.length ≤ 400 ∧ ∀ H', Same H H' → Q (.int (leadOf xs : Nat)) H'
def spPacked (K : PySem.W.Frag) : Sp := fun vs H Q _ => ∃ (a : Addr) (xs : List Int), vs = [.ref a] ∧ RowAt K H a xs ∧ Dig 16777216 xs ∧ xs.length ≤ 400 ∧ Q (.int (pk xs)) H
def spNumAt : Sp := fun vs H Q _ => ∃ (cl x : Int) (xs : List Int) (k : Nat), vs = [.int cl, .int (pk xs), .int (k : Int)] ∧ 3 ≤ cl ∧ cl ≤ 31 ∧ Dig 16777216 xs ∧ xs[k]? = some x ∧ k ≤ 400 ∧ Q (.int (x % cl)) H
def spUnpacked : Sp := fun vs H Q _ => ∃ (cl : Int) (xs : List Int), vs = [.int cl, .int (xs.length : Int), .int (pk xs)] ∧ 3 ≤ cl ∧ cl ≤ 31 ∧ Dig 16777216 xs ∧ xs.length ≤ 400 ∧ ∀ H' p, Same H H' → H p = none → H' p = some (.tup ((modRow cl xs).map V.int)) → Q (.ref p) H'
def spCleared : Sp := fun vs H Q _ => ∃ (cl : Int) (xs : List Int) (d : Addr) (ls : List (Nat × List Int)), vs = [.int cl, .int (pk xs), .ref d] ∧ 3 ≤ cl ∧ cl ≤ 31 ∧ H d = some (.dK (dkl ls)) ∧ LdOk cl xs.length ls ∧ Dig 31 xs ∧ xs.length ≤ 400 ∧ ls.length ≤ 400 ∧ ∀ H', Same H H' → Q (.int (pk (clr cl ls xs))) H'
/-- the rows that a value has: numbers of the clock, so many in each -/
def RowsOk (cl : Int) (n : Nat) (rs : List (List Int)) : Prop := ∀ xs ∈ rs, xs.length = n ∧ Dig cl xs
def spLeading (K : PySem.W.Frag) : Sp := fun vs H Q _ => ∃ (cl : Int) (n : Nat) (r : Addr) (us : List V) (rs : List (List Int)), vs = [.int cl, .int (n : Int), .ref r] ∧ clk (.int cl) = true ∧ 1 ≤ n ∧ n ≤ 400 ∧ (SqL K H r us ∨ SqT K H r us) ∧ RowsOf K H us rs ∧ RowsOk cl n rs ∧ rs.length ≤ 400 ∧
  ∀ H' d, Same H H' → H d = none → H' d = some (.dK (dkl (leading cl n rs))) → Q (.ref d) H'
def spLeast (K : PySem.W.Frag) : Sp := fun vs H Q _ => ∃ (cl : Int) (n : Nat) (r : Addr) (us : List V) (rs : List (List Int)), vs = [.int cl, .int (n : Int), .ref r] ∧ clk (.int cl) = true ∧ 1 ≤ n ∧ n ≤ 400 ∧ (SqL K H r us ∨ SqT K H r us) ∧ RowsOf K H us rs ∧ RowsOk cl n rs ∧ rs.length ≤ 400 ∧
  ∀ H' p, Same H H' → H p = none → TupRows K H' p (leastForm cl n rs) → Q (.ref p) H'
theorem pk_drop {xs : List Int} {k : Nat} {x : Int} (h : xs[k]? = some x) : pk (xs.drop k) = x + 16777216 * pk (xs.drop (k + 1)) := by
  obtain ⟨hk, e⟩ := List.getElem?_eq_some_iff.mp h
  rw [List.drop_eq_getElem_cons hk, e]
  rfl
theorem pk_natAbs {xs : List Int} (h : Dig 16777216 xs) (l : xs.length ≤ 400) : (pk xs).natAbs < 2 ^ 9600 := by
  have a := pk_pos h
  have b := pk_lt h
  have c : (2 : Int) ^ (24 * xs.length) ≤ 2 ^ 9600 := by
    have z : (2 : Nat) ^ (24 * xs.length) ≤ 2 ^ 9600 := Nat.pow_le_pow_right (by decide) (by omega)
    have z2 : (((2 : Nat) ^ (24 * xs.length) : Nat) : Int) ≤ (((2 : Nat) ^ 9600 : Nat) : Int) := Int.ofNat_le.mpr z
    rw [Int.natCast_pow, Int.natCast_pow] at z2
    exact z2
  have d : ((pk xs).natAbs : Int) < ((2 ^ 9600 : Nat) : Int) := by
    rw [Int.natAbs_of_nonneg a, Int.natCast_pow]
    exact Int.lt_of_lt_of_le b c
  exact Int.ofNat_lt.mp d
theorem shl_ok {xs : List Int} (h : Dig 16777216 xs) (l : xs.length ≤ 400) : CShl (pk xs) 24 := by
  refine ⟨by decide, ?_⟩
  have a := pk_natAbs h l
  have b : Builtin.Int.intBits (pk xs) ≤ 9601 := by
    unfold Builtin.Int.intBits
    split
    · omega
    · rename_i z
      have nz : (pk xs).natAbs ≠ 0 := fun q => z (by rw [Int.natAbs_eq_zero.mp q]; rfl)
      have := (Nat.log2_lt nz).mpr a
      omega
  omega
theorem Dig.drop {B : Int} {xs : List Int} (h : Dig B xs) (k : Nat) : Dig B (xs.drop k) := fun y m => h y (List.mem_of_mem_drop m)
theorem map_at {xs : List Int} {i : Nat} {v : V} (h : (xs.map V.int)[i]? = some v) : ∃ x, xs[i]? = some x ∧ v = .int x := by
  rw [List.getElem?_map] at h
  cases e : xs[i]? with
  | none => rw [e] at h; cases h
  | some x => rw [e] at h; exact ⟨x, rfl, (Option.some.inj h).symm⟩
theorem powF_dig {cl n x : Int} (h : 2 ≤ cl) (k : Nat) : 0 ≤ powF cl n k * x % cl ∧ powF cl n k * x % cl < cl := ⟨Int.emod_nonneg _ (by omega), Int.emod_lt_of_pos _ (by omega)⟩
theorem putL_len (ls : List (Nat × List Int)) (a : Nat) (r : List Int) : (putL ls a r).length ≤ ls.length + 1 := by
  unfold putL
  split
  · rw [List.length_map]; omega
  · rw [List.length_append]; exact Nat.le_refl _
/-- what is left of a row -/
def leftOf (cl : Int) (ls : List (Nat × List Int)) (row : List Int) : List Int := modRow cl (clr cl ls row)
def timesRow (cl : Int) (left : List Int) : List Int := left.map fun x => (powF cl (left.getD (leadOf left) 0) (cl - 2).toNat * x) % cl
theorem ldOne_eq {cl : Int} {n : Nat} {ls : List (Nat × List Int)} {row : List Int} : ldOne cl n ls row = if leadOf (leftOf cl ls row) < n then putL ls (leadOf (leftOf cl ls row)) (timesRow cl (leftOf cl ls row)) else ls := rfl
theorem left_ok {cl : Int} {n : Nat} {ls : List (Nat × List Int)} {row : List Int} (h3 : 3 ≤ cl) (h31 : cl ≤ 31) (h : LdOk cl n ls) (r : row.length = n ∧ Dig cl row) : (leftOf cl ls row).length = n ∧ Dig cl (leftOf cl ls row) := by
  obtain ⟨_, b⟩ := clr_ok h3 h31 h (r.2.le h31) r.1
  exact ⟨by unfold leftOf; rw [modRow_len, b], modRow_dig (by omega) _⟩
theorem times_ok {cl : Int} {left : List Int} (h3 : 3 ≤ cl) : (timesRow cl left).length = left.length ∧ Dig cl (timesRow cl left) := by
  refine ⟨List.length_map .., fun y m => ?_⟩
  obtain ⟨x, _, rfl⟩ := List.mem_map.mp m
  exact powF_dig (by omega) _
theorem ldOne_ok {cl : Int} {n : Nat} {ls : List (Nat × List Int)} {row : List Int} (h3 : 3 ≤ cl) (h31 : cl ≤ 31) (h : LdOk cl n ls) (r : row.length = n ∧ Dig cl row) : LdOk cl n (ldOne cl n ls row) ∧ (ldOne cl n ls row).length ≤ ls.length + 1 := by
  obtain ⟨l1, l2⟩ := left_ok h3 h31 h r
  obtain ⟨t1, t2⟩ := times_ok (left := leftOf cl ls row) h3
  rw [ldOne_eq]
  split
  · rename_i q
    exact ⟨putL_ok h q (by rw [t1, l1]) t2, putL_len _ _ _⟩
  · exact ⟨h, by omega⟩
theorem fold_ok {cl : Int} {n : Nat} (h3 : 3 ≤ cl) (h31 : cl ≤ 31) : ∀ {rs : List (List Int)} {ls : List (Nat × List Int)}, RowsOk cl n rs → LdOk cl n ls → LdOk cl n (rs.foldl (ldOne cl n) ls) ∧ (rs.foldl (ldOne cl n) ls).length ≤ ls.length + rs.length
  | [], ls, _, h => ⟨h, Nat.le_refl _⟩
  | r :: rs, ls, o, h => by
    obtain ⟨a, b⟩ := ldOne_ok h3 h31 h (o r (List.mem_cons_self ..))
    obtain ⟨c, d⟩ := fold_ok h3 h31 (rs := rs) (fun x m => o x (List.mem_cons_of_mem _ m)) a
    refine ⟨c, ?_⟩
    rw [List.length_cons]
    show (rs.foldl (ldOne cl n) (ldOne cl n ls r)).length ≤ _
    omega
theorem leading_ok {cl : Int} {n : Nat} {rs : List (List Int)} (h3 : 3 ≤ cl) (h31 : cl ≤ 31) (o : RowsOk cl n rs) : LdOk cl n (leading cl n rs) ∧ (leading cl n rs).length ≤ rs.length := by
  obtain ⟨a, b⟩ := fold_ok h3 h31 o (fun _ m => nomatch m : LdOk cl n [])
  refine ⟨a, ?_⟩
  rw [List.length_nil, Nat.zero_add] at b
  exact b
theorem RowsOk.take {cl : Int} {n : Nat} {rs : List (List Int)} (o : RowsOk cl n rs) (i : Nat) : RowsOk cl n (rs.take i) := fun x m => o x (List.mem_of_mem_take m)
theorem leading_take {cl : Int} {n i : Nat} {rs : List (List Int)} {row : List Int} (e : rs[i]? = some row) : leading cl n (rs.take (i + 1)) = ldOne cl n (leading cl n (rs.take i)) row := by
  unfold leading
  rw [List.take_succ, e, List.foldl_append]
  rfl
theorem leadOf_ne : ∀ {xs : List Int} {x : Int}, xs[leadOf xs]? = some x → x ≠ 0
  | [], _, e => by cases e
  | y :: r, x, e => by
    unfold leadOf at e
    split at e
    · exact leadOf_ne (xs := r) e
    · cases e
      assumption
/-- the fold over the leads -/
def backFold (cl : Int) (ls : List (Nat × List Int)) (as : List Nat) : List (Nat × List Int) × List (List Int) := as.foldl (backOne cl ls) ([], [])
theorem findL_ok {cl : Int} {n a : Nat} {ls : List (Nat × List Int)} (h : LdOk cl n ls) (m : a ∈ ls.map (·.1)) : (findL ls a).length = n ∧ Dig cl (findL ls a) := by
  unfold findL
  cases e : ls.find? (fun l => decide (l.1 = a)) with
  | none =>
    exfalso
    obtain ⟨l, ml, el⟩ := List.mem_map.mp m
    have z := List.find?_eq_none.mp e l ml
    simp [el] at z
  | some l => exact (h l (List.mem_of_find?_eq_some e)).2
theorem back_ok {cl : Int} {n : Nat} {ls : List (Nat × List Int)} (h3 : 3 ≤ cl) (h31 : cl ≤ 31) (h : LdOk cl n ls) : ∀ {as : List Nat} {st : List (Nat × List Int) × List (List Int)}, (∀ a ∈ as, a ∈ ls.map (·.1)) → LdOk cl n st.1 → LdOk cl n (as.foldl (backOne cl ls) st).1 ∧ (as.foldl (backOne cl ls) st).1.length ≤ st.1.length + as.length
  | [], st, _, k => ⟨k, Nat.le_refl _⟩
  | a :: as, st, m, k => by
    have ma := m a (List.mem_cons_self ..)
    obtain ⟨f1, f2⟩ := findL_ok h ma
    have lt : a < n := by
      obtain ⟨l, ml, el⟩ := List.mem_map.mp ma
      rw [← el]
      exact (h l ml).1
    obtain ⟨l1, l2⟩ := left_ok (row := findL ls a) h3 h31 k ⟨f1, f2⟩
    have k2 : LdOk cl n (backOne cl ls st a).1 := putL_ok k lt l1 l2
    have k3 : (backOne cl ls st a).1.length ≤ st.1.length + 1 := putL_len _ _ _
    obtain ⟨c, d⟩ := back_ok h3 h31 h (as := as) (st := backOne cl ls st a) (fun b mb => m b (List.mem_cons_of_mem _ mb)) k2
    refine ⟨c, ?_⟩
    rw [List.length_cons]
    show (as.foldl (backOne cl ls) (backOne cl ls st a)).1.length ≤ _
    omega
theorem back_take {cl : Int} {i a : Nat} {ls : List (Nat × List Int)} {as : List Nat} (e : as[i]? = some a) : backFold cl ls (as.take (i + 1)) = backOne cl ls (backFold cl ls (as.take i)) a := by
  unfold backFold
  rw [List.take_succ, e, List.foldl_append]
  rfl
theorem backOne_row {cl : Int} {ls : List (Nat × List Int)} {st : List (Nat × List Int) × List (List Int)} {a : Nat} : backOne cl ls st a = (putL st.1 a (leftOf cl st.1 (findL ls a)), st.2 ++ [leftOf cl st.1 (findL ls a)]) := rfl
/-- ints that are the leads, in descending order -/
theorem leads_of {ls : List (Nat × List Int)} {ks ys : List Int} (hk : (dkl ls).map (·.1) = ks.map Sum.inl) (p : ys.Perm ks) (o : OrdB true ys) : ys = (descend (ls.map (·.1))).map Int.ofNat := by
  have e : ks = (ls.map (·.1)).map Int.ofNat := by
    have z : (dkl ls).map (·.1) = ((ls.map (·.1)).map Int.ofNat).map Sum.inl := by
      unfold dkl
      rw [List.map_map, List.map_map, List.map_map]
      rfl
    rw [z] at hk
    exact (List.map_inj_right (f := (Sum.inl : Int → Key)) (fun _ _ h => Sum.inl.inj h)).mp hk.symm
  rw [e] at p
  have pos : ∀ y ∈ ys, 0 ≤ y := fun y m => by
    obtain ⟨k, _, rfl⟩ := List.mem_map.mp (p.mem_iff.mp m)
    exact Int.natCast_nonneg k
  have back : ys = (ys.map Int.toNat).map Int.ofNat := by
    rw [List.map_map]
    refine ((List.map_congr_left fun y m => ?_).trans (List.map_id ys)).symm
    show Int.ofNat y.toNat = id y
    exact Int.toNat_of_nonneg (pos y m)
  have p2 : (ys.map Int.toNat).Perm (ls.map (·.1)) := by
    have q := p.map Int.toNat
    rw [List.map_map] at q
    have e2 : (ls.map (·.1)).map (Int.toNat ∘ Int.ofNat) = ls.map (·.1) := (List.map_congr_left fun y _ => rfl).trans (List.map_id _)
    rw [e2] at q
    exact q
  have o2 : (ys.map Int.toNat).Pairwise (· ≥ ·) := by
    have o' : ys.Pairwise (· ≥ ·) := o
    refine List.pairwise_map.mpr (o'.imp_of_mem fun {a b} ma mb h => ?_)
    have := pos b mb
    have h' : b ≤ a := h
    show b.toNat ≤ a.toNat
    omega
  rw [back, desc_one (p2.trans (descend_perm _).symm) o2 (descend_desc _)]
end Rp
namespace Rp
open PySem PySem.Spec PyProof.Rows L2 LamX
/-! ### a string some times -/
def rStrMul : R2 := fun x y H Q => ∃ (z : Str) (k : Int), x = .str z ∧ y = .int k ∧ 1 ≤ k ∧ k ≤ 1000 ∧ z.length = 1 ∧ ∀ r : Str, Q (.str r) H
theorem rep_size {α : Type} (c : Array α) : ∀ (n : Nat) (acc : Array α), ((List.replicate n c).foldl (· ++ ·) acc).size = acc.size + n * c.size
  | 0, acc => by show acc.size = _; omega
  | n + 1, acc => by
    rw [List.replicate_succ, List.foldl_cons, rep_size c n, Array.size_append, Nat.succ_mul]
    omega
theorem op_strMul {X : Cx} : OpR X (binaryOp .Mult) rStrMul := by
  intro pins s σ H x y v u Q I rx ry h
  obtain ⟨z, k, rfl, rfl, h1, h2, hz, q⟩ := h
  obtain ⟨t, rfl⟩ := rx
  obtain ⟨t', rfl⟩ := ry
  refine P.mul_str (by rw [decide_eq_false (by omega), decide_eq_false (by omega)]; rfl) (fun _ _ => ?_) (fun _ _ => ?_) ?_
  · rw [hz]
    have : (1 : Int) ≤ (2 ^ 63 - 1) / k := Int.le_ediv_of_mul_le (by omega) (by omega)
    omega
  · rw [hz, Nat.one_mul]
    have s1 : 1000 ≤ sizeLine := le_ok rfl
    unfold Builtin.Str.tooLong
    exact decide_eq_false (by omega)
  · rw [if_neg (by omega)]
    split
    · exact ⟨.str z, H, I, ⟨_, rfl⟩, q z⟩
    · refine ⟨?_, ⟨.str _, H, I.tok _, ⟨_, rfl⟩, q _⟩⟩
      have e : z.cps.size = 1 := hz
      show ((List.replicate k.toNat z.cps).foldl (· ++ ·) #[]).size ≤ sizeLine
      rw [rep_size, e]
      have s1 : 1000 ≤ sizeLine := le_ok rfl
      show 0 + _ ≤ _
      omega
theorem kbn_of {K : PySem.W.Frag} {fd : FuncData} {ps ks : List Str} {n : Nat} {ix : List Nat} (h : KBx K fd ps n ks ix) : KBn K fd ps n ks (fun us ws => ix.map fun i => (us ++ ws).getD i .none) (fun vs zs => ix.map fun i => (vs ++ zs).getD i .non) :=
  ⟨fun s us ws _ l1 l2 => h.to s us ws l1 l2, fun r1 r2 => vals_ix (.append r1 r2) ix⟩
section
variable {X : Cx} {k : Nat} {f C : Addr} {fd : FuncData} {ps ks : List Str} {sp : Sp} {x : Str} {p pos : Pos} {tk : TA} {kws : List Keyword} {E : XK} {ix : List Nat}
theorem pe_makeKE (c : MakX X.prog X.w X.K X.mg X.base x k C f fd ps sp) (hb : KBx X.K fd ps 1 ks ix) (r : Room (k + 1) X.A) (t : Takes X (fun cls d _ H => E cls d H)) (hg : Gl X x) (hkw : PK X kws tk)
    (hall : (backToKw pos (keywordEach kws X.env)).all (·.1.isSome) = true := by rfl) (hks : (backToKw pos (keywordEach kws X.env)).filterMap (·.1) = ks := by rfl) (hdb : (x == ("__debug__" : Str)) = false := by decide)
    (hpl : ((backTo pos (starEach [] X.env)).any (·.1) || (backToKw pos (keywordEach kws X.env)).any (·.1.isNone)) = false := by rfl) : PE X (.Call (.Name x p) [] kws pos) (tMakeK C 0 ks.length sp (fun vs zs => ix.map fun i => (vs ++ zs).getD i .non) E tNil tk) := by
  have hx : Passes (L2.CX X.prog X.w) X E := fun pins σ H s e s' I z => passAt t σ pins H s e s' I z
  exact pe_makeK0 c.M c.F r hg c.mgf (kbn_of hb) hx hkw hall hks hdb hpl
end
theorem r_makeK {C : Addr} {n m : Nat} {sp : Sp} {gV : List V → List V → List V} {E : XK} {t tk : TA} {σ : L2.St} {H : Hp} {Q : VK} (h : t σ H fun vs H1 => tk σ H1 fun zs H2 => vs.length = n ∧ zs.length = m ∧ ∀ x dx, H2 x = none → H2 dx = none → dx ≠ x → sp (gV (.ref x :: vs) zs) (upd (upd H2 dx (.own x)) x (.ins C dx [])) (fun v H3 => v = .non ∧ Q (.ref x) H3) E) : tMakeK C n m sp gV E t tk σ H Q := h
end Rp
namespace Rp
open PySem PySem.Spec PyProof.Rows L2
/-! ### zip of a list and a tuple, in any order -/
def SqB (t : Bool) (K : PySem.W.Frag) (H : Hp) (a : Addr) (xs : List V) : Prop := if t then SqL K H a xs else SqT K H a xs
def SeqB (t : Bool) (h : Heap) (a : Addr) (its : Array Value) : Prop := if t then h.IsList a its else h.IsTuple a its
def ItB (t : Bool) (h : Heap) (it a : Addr) (i : Nat) : Prop := if t then h.IsListIter it a i else h.IsTupleIter it a i
theorem draws_b {prog : Program} {w : World} {A : Around} (t : Bool) (hh : A.handled = none) (it a : Addr) (hne : a ≠ it) (items : Array Value) :
    Draws prog w A it [it, a] items.size (fun i v => items[i]? = some v) (fun i h => ItB t h it a i ∧ SeqB t h a items) := by
  cases t
  · exact Draws.tuple hh it a hne items
  · exact Draws.list hh it a hne items
theorem ItB.at {t : Bool} {h h' : Heap} {it a : Addr} {i : Nat} (x : ItB t h it a i) (k : ∀ o, h.get? it = some o → h'.get? it = some o) : ItB t h' it a i := by
  cases t
  · exact Heap.IsTupleIter.at x k
  · exact Heap.IsListIter.at x k
theorem ItB.obj {t : Bool} {h : Heap} {it a : Addr} {i : Nat} (x : ItB t h it a i) : ∃ o, h.get? it = some o ∧ ∀ v, o.data ≠ .cell v := by
  cases t
  · obtain ⟨o, e, _, d⟩ := x
    exact ⟨o, e, fun v q => by rw [d] at q; cases q⟩
  · obtain ⟨o, e, _, d⟩ := x
    exact ⟨o, e, fun v q => by rw [d] at q; cases q⟩
theorem seq_b {X : Cx} {pins : List (Addr × Obj)} {σ : L2.St} {H : Hp} {s : Shared} {t : Bool} {a : Addr} {xs : List V} (I : Inv X pins σ H s) (h : SqB t X.K H a xs) : ∃ its : List Value, Vals xs its ∧ SeqB t s.heap a its.toArray := by
  cases t
  · obtain ⟨its, rv, p, _⟩ := I.tuple h
    exact ⟨its, rv, p⟩
  · obtain ⟨its, rv, p, _⟩ := I.list h
    exact ⟨its, rv, p.isList⟩
theorem seq_b_inj {X : Cx} {pins : List (Addr × Obj)} {σ : L2.St} {H : Hp} {s : Shared} {t : Bool} {a : Addr} {xs ys : List V} (I : Inv X pins σ H s) (h : SqB t X.K H a xs) (k : SqB t X.K H a ys) : xs = ys := by
  cases t
  · exact I.tuple_inj h k
  · exact I.list_inj h k
theorem SeqB.lt {t : Bool} {h : Heap} {a : Addr} {its : Array Value} (x : SeqB t h a its) : a < h.objs.size := by
  cases t
  · obtain ⟨o, e, _⟩ := x
    exact Heap.lt_size e
  · obtain ⟨o, e, _⟩ := x
    exact Heap.lt_size e
/-- the sequences at a and b as they stand at each turn, the items in new pairs -/
def ItzB (K : PySem.W.Frag) (t u : Bool) (a b : Addr) : It :=
  ⟨fun i H => ∃ (xs ys : List V) (x y : V), SqB t K H a xs ∧ SqB u K H b ys ∧ xs[i]? = some x ∧ ys[i]? = some y,
    fun i H v H' => ∃ T x y, v = .ref T ∧ H T = none ∧ H' = upd H T (.tup [x, y]) ∧ (∀ xs, SqB t K H a xs → xs[i]? = some x) ∧ ∀ ys, SqB u K H b ys → ys[i]? = some y,
    fun i H => ∃ xs ys : List V, SqB t K H a xs ∧ SqB u K H b ys ∧ i = min xs.length ys.length⟩
theorem turn_zipB {P : Program} {w : World} {K : PySem.W.Frag} {elts : List Expr} {kk : Nat} {tpos : Pos} {t u : Bool} {a b z TI TO i1 i2 : Addr} (S : ZipSep2 z TI TO i1 i2 [i1, a] [i2, b]) (n1 : a ≠ i1) (n2 : b ≠ i2) :
    Turn P w K (.Tuple elts kk tpos) (ItzB K t u a b) [z, TI, TO, i1, i2] z (fun i h => IsZip h z TI TO .none ∧ IsTupOf2 h TI (.ref i1) (.ref i2) ∧ (∃ x y, IsTupOf2 h TO x y) ∧ ItB t h i1 a i ∧ ItB u h i2 b i) where
  mem := by simp
  obj := fun i h st c hc => by
    obtain ⟨hz, hTI, ⟨x, y, hTO⟩, h1, h2⟩ := st
    have e' : c = z ∨ c = TI ∨ c = TO ∨ c = i1 ∨ c = i2 := by simpa using hc
    rcases e' with q | q | q | q | q
    · rw [q]; exact ⟨_, hz, fun v q => nomatch q⟩
    · rw [q]; exact ⟨_, hTI, fun v q => nomatch q⟩
    · rw [q]; exact ⟨_, hTO, fun v q => nomatch q⟩
    · rw [q]; exact h1.obj
    · rw [q]; exact h2.obj
  keep := fun i h h' st k => by
    obtain ⟨hz, hTI, ⟨x, y, hTO⟩, h1, h2⟩ := st
    exact ⟨k z (by simp) _ hz, k TI (by simp) _ hTI, ⟨x, y, k TO (by simp) _ hTO⟩, h1.at fun o q => k i1 (by simp) o q, h2.at fun o q => k i2 (by simp) o q⟩
  item := by
    intro X hP hw hK hc i pins s σ H E I hf st hg
    subst hP hw hK
    obtain ⟨hz, hTI, ⟨x0, y0, hTO⟩, h1, h2⟩ := st
    obtain ⟨xs, ys, x, y, hqx, hqy, hx, hy⟩ := hg
    obtain ⟨its, rv, p⟩ := seq_b I hqx
    obtain ⟨its2, rv2, p2⟩ := seq_b I hqy
    obtain ⟨v1, hu, ru⟩ := rv.get hx
    obtain ⟨v2, hu2, ru2⟩ := rv2.get hy
    have hzl : z < s.heap.objs.size := Heap.lt_size hz
    have l1 : i < its.toArray.size := by have := (List.getElem?_eq_some_iff.mp hu).1; simpa using this
    have l2 : i < its2.toArray.size := by have := (List.getElem?_eq_some_iff.mp hu2).1; simpa using this
    have hh : X.A.in1.handled = none := I.ok.hd hc
    refine wpAny_pyNext_zipD2_item S (draws_b t hh i1 a n1 its.toArray) (draws_b u hh i2 b n2 its2.toArray) hz hTI hTO ⟨h1, p⟩ ⟨h2, p2⟩ l1 l2 fun x1 x2 h' tk hx1 hx2 z' TO' st1 st2 hT hsz hk => ?_
    have ex1 : x1 = v1 := Option.some.inj (hx1.symm.trans (by simpa using hu))
    have ex2 : x2 = v2 := Option.some.inj (hx2.symm.trans (by simpa using hu2))
    subst ex1 ex2
    refine ⟨_, rfl, wpAny_letOwnedTupleGo_zip (s := { s with heap := h', toks := tk }) z' fun h'' z'' sb => ?_⟩
    have hT2 : h''.get? s.heap.objs.size = some { cls := .type "tuple", data := .seq #[x1, x2] } := (sb.2 _ (Nat.ne_of_gt hzl)).trans hT
    have new : ObjOk X.prog X.w (upd H s.heap.objs.size (.tup [x, y])) h'' s.heap.objs.size (.tup [x, y]) :=
      ⟨by show 2 ≤ sizeLine; decide, [x1, x2], .cons ru (.cons ru2 .nil), ⟨_, hT2, rfl, _, rfl⟩⟩
    have zi1 : i1 ≠ z := fun q => S.zf1 (by rw [← q]; simp)
    have zi2 : i2 ≠ z := fun q => S.zf2 (by rw [← q]; simp)
    have I1 : Inv X pins σ (upd H s.heap.objs.size (.tup [x, y])) { s with heap := h'', toks := tk } :=
      I.turnedNew (t' := tk) (ch := [z, TI, TO, i1, i2]) (fun c o hb q => (sb.2 c (fun q' => hb (by simp [q']))).trans (hk c o (fun q' => hb (by simp [q'])) (fun q' => hb (by simp [q'])) (fun q' => hb (by simp [q'])) (fun q' => hb (by simp [q'])) q)) hf (Nat.le_refl _) new
    refine ⟨.ref s.heap.objs.size, _, I1, rfl, ⟨_, x, y, rfl, I.hok.fresh (Nat.le_refl _), rfl, fun l hl => by rw [seq_b_inj I hl hqx]; exact hx, fun l hl => by rw [seq_b_inj I hl hqy]; exact hy⟩, ⟨z'', ?_, ⟨x1, x2, ?_⟩, ?_, ?_⟩, fun c hcm => ?_⟩
    · exact (sb.2 _ S.TIz).trans (hk _ _ S.TIz S.TITO S.TIi1 S.TIi2 hTI)
    · exact (sb.2 _ S.TOz).trans TO'
    · exact st1.1.at fun o q => (sb.2 _ zi1).trans q
    · exact st2.1.at fun o q => (sb.2 _ zi2).trans q
    · have hlt : c < s.heap.objs.size := by
        have e' : c = z ∨ c = TI ∨ c = TO ∨ c = i1 ∨ c = i2 := by simpa using hcm
        rcases e' with q | q | q | q | q
        · rw [q]; exact hzl
        · rw [q]; exact Heap.lt_size hTI
        · rw [q]; exact Heap.lt_size hTO
        · rw [q]; obtain ⟨_, e1, _⟩ := h1.obj; exact Heap.lt_size e1
        · rw [q]; obtain ⟨_, e2, _⟩ := h2.obj; exact Heap.lt_size e2
      rw [upd_ne (Nat.ne_of_lt hlt)]
      exact (hf c hcm).1
  done := by
    intro X hP hw hK hc i pins s σ H E I hf st hg
    subst hP hw hK
    obtain ⟨hz, hTI, ⟨x0, y0, hTO⟩, h1, h2⟩ := st
    obtain ⟨xs, ys, hqx, hqy, hend⟩ := hg
    obtain ⟨its, rv, p⟩ := seq_b I hqx
    obtain ⟨its2, rv2, p2⟩ := seq_b I hqy
    have l1 := rv.length
    have l2 := rv2.length
    have hh : X.A.in1.handled = none := I.ok.hd hc
    refine wpAny_pyNext_zipD2_end S (draws_b t hh i1 a n1 its.toArray) (draws_b u hh i2 b n2 its2.toArray) hz hTI hTO ⟨h1, p⟩ ⟨h2, p2⟩ (by simp; omega) (by simp; omega) (by simp; omega) fun h' tk hk => ?_
    exact ⟨rfl, I.turnedL (t' := tk) (ch := [z, TI, TO, i1, i2]) (fun c o hb q => hk c o (fun q' => hb (by simp [q'])) (fun q' => hb (by simp [q'])) (fun q' => hb (by simp [q'])) (fun q' => hb (by simp [q'])) q) hf⟩
  self := fun A i s Q E st h => wpAny_pyIter_zip st.1 h
def itO (t : Bool) (a : Addr) : Obj := if t then { cls := .type "list_iterator", data := .fields #[.ref a, .int 0 0] } else { cls := .type "tuple_iterator", data := .fields #[.ref a, .int 0 0] }
theorem begins_b (t : Bool) (a : Addr) (its : Array Value) : Begins (.ref a) (itO t a) fun h => SeqB t h a its := by
  cases t
  · exact begins_tuple a its
  · exact begins_list a its
theorem itB_0 {t : Bool} {h : Heap} {it a : Addr} (e : h.get? it = some (itO t a)) : ItB t h it a 0 := by
  cases t
  · exact ⟨_, e, rfl, rfl⟩
  · exact ⟨_, e, rfl, rfl⟩
def iZipB (K : PySem.W.Frag) (ta : TA) : TI := fun σ H R => ta σ H fun vs H1 => ∃ (t u : Bool) (a b : Addr) (xs ys : List V), vs = [.ref a, .ref b] ∧ SqB t K H1 a xs ∧ SqB u K H1 b ys ∧ R (ItzB K t u a b) H1
theorem pi_zipB {X : Cx} {e e2 : Expr} {ta : TA} {p pos tpos : Pos} {elts : List Expr} {kk : Nat} (hg : Gl X "zip") (hm : X.mg "zip" = none) (ha : PA X [e, e2] ta)
    (hs : starEach [e, e2] X.env = (false, eval e X.env) :: starEach [e2] X.env := by rfl) (hpl : (backTo pos (starEach [e2] X.env)).any (·.1) = false := by rfl) :
    PI X (.Tuple elts kk tpos) (.Call (.Name "zip" p) [e, e2] [] pos) (iZipB X.K ta) := by
  refine ⟨fun pins s σ H R I h => ?_⟩
  refine Call_ (ld_blt I hg hm PyProof.Rows.boot_zip (PyProof.Rows.callWith_type1 (thn (ha.run pos pins s σ H _ I h) fun us s1 ⟨vs, H1, I1, r1, q1⟩ => ?_) hs hpl))
  obtain ⟨t, u, a, b, xs, ys, ex, hqx, hqy, q⟩ := q1
  subst ex
  cases r1 with
  | cons r rr =>
    cases rr with
    | cons r' rr =>
      cases rr
      cases r
      cases r'
      obtain ⟨its, rv, p1⟩ := seq_b I1 hqx
      obtain ⟨its2, rv2, p2⟩ := seq_b I1 hqy
      have la := p1.lt
      have lb := p2.lt
      refine zip_begins2 (begins_b t a its.toArray) (begins_b u b its2.toArray) p1 p2 fun h' hz hTI hTO h1 h2 hsz hk => wpAny_pyIter_zip hz ?_
      have I2 : Inv X pins σ H1 { s1 with heap := h' } := I1.kept (t' := s1.toks) hk
      have sep : ZipSep2 (s1.heap.objs.size + 4) (s1.heap.objs.size + 2) (s1.heap.objs.size + 3) s1.heap.objs.size (s1.heap.objs.size + 1) [s1.heap.objs.size, a] [s1.heap.objs.size + 1, b] :=
        zip_sep2 (fun c m => by rw [List.mem_singleton.mp m]; exact la) (fun c m => by rw [List.mem_singleton.mp m]; exact lb)
      refine ⟨s1.heap.objs.size + 4, [s1.heap.objs.size + 4, s1.heap.objs.size + 2, s1.heap.objs.size + 3, s1.heap.objs.size, s1.heap.objs.size + 1], _, _, H1, rfl, I2, turn_zipB sep (Nat.ne_of_lt la) (Nat.ne_of_lt (Nat.lt_succ_of_lt lb)), ⟨hz, hTI, ⟨_, _, hTO⟩, itB_0 h1, itB_0 h2⟩, fun c hcm => ?_, q⟩
      have e' : c = s1.heap.objs.size + 4 ∨ c = s1.heap.objs.size + 2 ∨ c = s1.heap.objs.size + 3 ∨ c = s1.heap.objs.size ∨ c = s1.heap.objs.size + 1 := by simpa using hcm
      have hle : s1.heap.objs.size ≤ c := by
        rcases e' with z | z | z | z | z
        · rw [z]; exact Nat.le_add_right _ _
        · rw [z]; exact Nat.le_add_right _ _
        · rw [z]; exact Nat.le_add_right _ _
        · rw [z]; exact Nat.le_refl _
        · rw [z]; exact Nat.le_add_right _ _
      exact I1.fpOk hle (I1.hok.fresh hle)
theorem walk_zipB {K : PySem.W.Frag} {t u : Bool} {a b : Addr} {xs ys : List V} {n : Nat} (hn : n = min xs.length ys.length) : Walk (ItzB K t u a b) n (fun H => SqB t K H a xs ∧ SqB u K H b ys) (YPair (fun i => xs[i]?) (fun i => ys[i]?)) := by
  subst hn
  constructor
  · intro i H hi ⟨h1, h2⟩
    exact ⟨xs, ys, xs[i]'(by omega), ys[i]'(by omega), h1, h2, List.getElem?_eq_getElem _, List.getElem?_eq_getElem _⟩
  · intro H ⟨h1, h2⟩
    exact ⟨xs, ys, h1, h2, rfl⟩
  · rintro i H v H' _ ⟨h1, h2⟩ ⟨T, x, y, e1, e2, e3, e4, e5⟩
    exact ⟨T, x, y, e1, e2, e3, e4 xs h1, e5 ys h2⟩
theorem r_izipB {K : PySem.W.Frag} {ta : TA} {σ : L2.St} {H : Hp} {R : It → Hp → Prop} (h : ta σ H fun vs H1 => ∃ (t u : Bool) (a b : Addr) (xs ys : List V), vs = [.ref a, .ref b] ∧ SqB t K H1 a xs ∧ SqB u K H1 b ys ∧ R (ItzB K t u a b) H1) : iZipB K ta σ H R := h
theorem row_b {K : PySem.W.Frag} {H : Hp} {a : Addr} {xs : List Int} (h : RowAt K H a xs) : ∃ t, SqB t K H a (xs.map V.int) := by
  rcases h with h | h
  · exact ⟨true, h⟩
  · exact ⟨false, h⟩
theorem SqB.same {K : PySem.W.Frag} {H H' : Hp} {t : Bool} {a : Addr} {xs : List V} (h : SqB t K H a xs) (s : Same H H') : SqB t K H' a xs := by
  cases t
  · exact Same.tupS s h
  · exact s.seq h
end Rp
namespace Rp
open PySem PySem.Spec PyProof.Rows L2
/-! ### == and != of instances whose class has an own __eq__ and no own __ne__ -/
section
variable {prog : Program} {w : World} {A : Around} {E : Value → Shared → Prop} {s : Shared} {K : PySem.W.Frag} {x C L f : Addr} {h₀ : Heap} {m : Str → Option Value} {ox : Obj} {od : Option Obj} {b tb : Value}
theorem ne_bind (self : Value) : bindSpecial (.builtin "object.__ne__") self = pure (.builtin "object.__ne__", [self]) := by kernel_rfl
theorem ne_plain : plainId "object.__ne__" = true := by decide +kernel
theorem ne_bound {M : Model} {args : List Value} {Q : Option Value → Shared → Prop} (X : K.In s.heap) (I : PySem.W.InstAt s.heap x ox C od) (hs : PySem.W.findIn K (.ref C) "__ne__" = some (some (.builtin "object.__ne__")))
    (h : wpAny M A (call (.builtin "object.__ne__") (.ref x :: args)) (fun v => Q (some v)) E s) : wpAny M A (callSpecialIfBound? (.ref x) "__ne__" args) Q E s := by
  simp only [callSpecialIfBound?, bindSpecialIfBound?]
  refine wpAny_holding (wpAny_bind (wpAny_bind (wpAny_bind (I.type.here ((PySem.W.looks_findIn X hs).here ?_)))))
  simp only [ne_bind]
  refine wpAny_bind (wpAny_askSetting (wpAny_ite ?_))
  have fin : wpAny M A (call (.builtin "object.__ne__") ([.ref x] ++ args) >>= fun v => pure (some v)) Q E s := wpAny_bind (wpAny_mono h (fun v s' h' => wpAny_pure h') fun _ _ h' => h')
  split
  · exact wpAny_bind (wpAny_pure (wpAny_pure fin))
  · exact wpAny_tryCatch (wpAny_bind (wpAny_pure (wpAny_pure fin)))
theorem ne_entry {Q : Fin → Shared → Prop} (hu : A.units < cLine) (X : K.In s.heap) (I : PySem.W.InstAt s.heap x ox C od) (hs : PySem.W.findIn K (.ref C) "__eq__" = some (some (.ref f))) (hf : PySem.W.isFn K (.ref f) = true)
    (h : wpAny (model prog w) A (call (.ref f) [.ref x, b]) (fun v s' => ∃ c, v = .bool c ∧ Q (.done (.ret (.bool (!c)))) s') E s) :
    wpAny (model prog w) A (Builtin.«object.__ne__» ⟨[.ref x, b], []⟩) Q E s := by
  obtain ⟨hp, g, d, t, os⟩ := s
  unfold Builtin.«object.__ne__»
  repeat (first
    | with_reducible refine wpAny_cRoomFor hu ?_
    | (refine wpAny_bind (m := callSpecialIfBound? (.ref x) (Str.ofString "__eq__") [b])
        (PySem.W.ifBound_K X I hs hf (wpAny_mono h (fun r s' hr => by
          obtain ⟨c, rfl, hq⟩ := hr
          repeat (first | exact hq | exact wpAny_pure hq | exact wpAny_truthy_bool hq | (refine wpAny_bind (m := truthy (.bool _)) (wpAny_truthy_bool ?_)) | wp_step)) fun _ _ e => e)))
    | wp_step)
theorem ne_try {Q : Option Value → Shared → Prop} (hu : A.units + 1 < cLine) (X : K.In s.heap) (I : PySem.W.InstAt s.heap x ox C od) (hm : PySem.W.mroIn K C (.type "object") = some true)
    (hn : PySem.W.findIn K (.ref C) "__ne__" = some (some (.builtin "object.__ne__"))) (hs : PySem.W.findIn K (.ref C) "__eq__" = some (some (.ref f))) (hf : PySem.W.isFn K (.ref f) = true)
    (h : wpAny (model prog w) A.in1 (call (.ref f) [.ref x, b]) (fun v s' => ∃ c, v = .bool c ∧ Q (some (.bool (!c))) s') E s) : wpAny (model prog w) A (tryCompare (.ref x) "__ne__" b) Q E s := by
  unfold tryCompare
  have sub : PySem.W.Looks (model prog w) s.heap (isInstance (.ref x) (.type "object")) true := I.type.andThen (PySem.W.looks_mroIn X hm)
  refine wpAny_bind (ne_bound X I hn (wpAny_call (codeAny_call_builtin ne_plain F.cmpEntry_ne (@PySem.W.check_slot (model prog w) _ _ s "object.__ne__" "object" "__ne__" (.ref x) [b] [] _ F.cmpKind_ne F.cmpSplit_ne sub (F.cmpArgs_ne _ _) ?_))))
  refine ne_entry (A := A.in1) hu X I hs hf (wpAny_mono h (fun v s' hv => ?_) fun _ _ e => e)
  obtain ⟨c, rfl, hq⟩ := hv
  first | exact ⟨c, rfl, wpAny_pure hq⟩ | exact ⟨c, rfl, wpAny_pure (wpAny_pure hq)⟩ | exact ⟨c, rfl, hq⟩
theorem ne_K {Q : Value → Shared → Prop} (hu : A.units + 1 < cLine) (X : K.In s.heap) (I : PySem.W.InstAt s.heap x ox C od) (hb : PySem.W.Looks (model prog w) s.heap (typeOf b) (.ref C)) (hm : PySem.W.mroIn K C (.type "object") = some true)
    (hn : PySem.W.findIn K (.ref C) "__ne__" = some (some (.builtin "object.__ne__"))) (hs : PySem.W.findIn K (.ref C) "__eq__" = some (some (.ref f))) (hf : PySem.W.isFn K (.ref f) = true)
    (h : wpAny (model prog w) A.in1 (call (.ref f) [.ref x, b]) (fun v s' => ∃ c, v = .bool c ∧ Q (.bool (!c)) s') E s) : wpAny (model prog w) A (richCompare .NotEq (.ref x) b) Q E s := by
  unfold richCompare
  simp only [oneThing_ref]
  refine wpAny_holding (wpAny_bind (wpAny_cRoomFor (Nat.lt_of_succ_lt hu) ?_))
  rw [cmpInfo_NotEq]
  dsimp only
  refine wpAny_bind (I.type.here (wpAny_bind (hb.here ?_)))
  rw [show (Value.ref C != Value.ref C) = false from by simp]
  simp only [Bool.false_eq_true, if_false]
  refine wpAny_bind (wpAny_pure ?_)
  simp only [Bool.false_eq_true, if_false]
  refine wpAny_bind (ne_try hu X I hm hn hs hf (wpAny_mono h (fun v s' hv => ?_) fun _ _ e => e))
  obtain ⟨c, rfl, hq⟩ := hv
  exact ⟨c, rfl, wpAny_pure hq⟩
end
section
variable {X : Cx} {CX : CXT} {pins : List (Addr × Obj)} {σ : L2.St} {H : Hp} {s : Shared} {C f : Addr} {n : Nat} {sp : Sp} {E : XK} {fd : FuncData} {ps : List Str}
/-- both are of the class at C; its own __eq__ promises sp; neg: asked by != -/
def rOwnI (C : Addr) (sp : Sp) (E : XK) (neg : Bool) : R2 := fun x y H Q => ∃ a b dx dy fs gs, x = .ref a ∧ y = .ref b ∧ H a = some (.ins C dx fs) ∧ H b = some (.ins C dy gs) ∧ sp [.ref a, .ref b] H (fun z H' => ∃ c, z = .bl c ∧ Q (.bl (if neg then !c else c)) H') E
theorem r_ownI {neg : Bool} {a b dx dy : Addr} {fs gs : List (Str × V)} {Q : VK} (h1 : H a = some (.ins C dx fs)) (h2 : H b = some (.ins C dy gs)) (q : sp [.ref a, .ref b] H (fun z H' => ∃ c, z = .bl c ∧ Q (.bl (if neg then !c else c)) H') E) :
    rOwnI C sp E neg (.ref a) (.ref b) H Q := ⟨a, b, dx, dy, fs, gs, rfl, rfl, h1, h2, q⟩
theorem run_eq {A : Around} {a b : Addr} {Q : VK} (F : FnOk X.prog X.w X.K X.mg X.base CX n f fd ps sp) (hb : Binds X.K fd ps []) (hx : Passes CX X E) (hr : Room n A) (fr : A.frames = X.A.frames) (I : Inv X pins σ H s) (q : sp [.ref a, .ref b] H Q E) :
    wpAny (model X.prog X.w) A (call (.ref f) [.ref a, .ref b]) (EP X pins σ Q) X.xe s := by
  have e0 : Env0 X.prog X.w X.K X.mg X.base A X.stack s H := by
    have e := I.env0
    exact ⟨by rw [fr]; exact e.frames, e.mod, e.bs, e.bsz, e.funs, e.frf, e.hok, e.bare⟩
  have hl := F.len _ _ _ _ q
  have r2 : Vals [V.ref a, V.ref b] [Value.ref a, Value.ref b] := .cons rfl (.cons rfl .nil)
  refine wpAny_call (codeAny_mono (F.run A X.stack s H ⟨[.ref a, .ref b], []⟩ [.ref a, .ref b] [.ref a, .ref b] _ E hr e0 (by
    have := hb s [.ref a, .ref b] I.kIn (by simpa using hl)
    simpa using this) r2 q) fun r s' hq => ?_)
  cases r with
  | error e => exact hx pins σ H s e s' I hq
  | ok fl =>
    cases fl with
    | ret w => exact I.after hq
    | next => exact False.elim hq
    | brk => exact False.elim hq
    | cont => exact False.elim hq
theorem op_eqI (F : FnOk X.prog X.w X.K X.mg X.base CX n f fd ps sp) (hb : Binds X.K fd ps []) (hx : Passes CX X E) (hr : Room n X.A)
    (hs : PySem.W.findIn X.K (.ref C) "__eq__" = some (some (.ref f))) (hf : PySem.W.isFn X.K (.ref f) = true) : OpR X (compareOp .Eq) (rOwnI C sp E false) := by
  intro pins s σ H x y v u Q I rx ry h
  obtain ⟨a, b, dx, dy, fs, gs, rfl, rfl, ha, hb', q⟩ := h
  cases (show v = Value.ref a from rx)
  cases (show u = Value.ref b from ry)
  obtain ⟨mA, J, _⟩ := ins_get I.hok ha
  obtain ⟨mB, J', _⟩ := ins_get I.hok hb'
  obtain ⟨od, J, _⟩ := J.look
  obtain ⟨od', J', _⟩ := J'.look
  obtain ⟨m, hF⟩ := I.fr
  refine PySem.W.cmp_K (op := .Eq) (tb := .ref C) hr.units0 hF I.ok.mod.kin J J'.type (by simp [PySem.W.notFirst]) hs hf ?_
  refine wpAny_mono (run_eq F hb hx hr rfl I q) (fun w s' z => ?_) fun _ _ x => x
  obtain ⟨z', H', I', rz, c, ec, qz⟩ := z
  subst ec
  cases (show w = Value.bool c from rz)
  exact ⟨.bl c, H', I', rfl, qz⟩
theorem op_neI (F : FnOk X.prog X.w X.K X.mg X.base CX n f fd ps sp) (hb : Binds X.K fd ps []) (hx : Passes CX X E) (hr : Room (n + 1) X.A)
    (hs : PySem.W.findIn X.K (.ref C) "__eq__" = some (some (.ref f))) (hf : PySem.W.isFn X.K (.ref f) = true) (hn : PySem.W.findIn X.K (.ref C) "__ne__" = some (some (.builtin "object.__ne__")))
    (hm : PySem.W.mroIn X.K C (.type "object") = some true) : OpR X (compareOp .NotEq) (rOwnI C sp E true) := by
  intro pins s σ H x y v u Q I rx ry h
  obtain ⟨a, b, dx, dy, fs, gs, rfl, rfl, ha, hb', q⟩ := h
  cases (show v = Value.ref a from rx)
  cases (show u = Value.ref b from ry)
  obtain ⟨mA, J, _⟩ := ins_get I.hok ha
  obtain ⟨mB, J', _⟩ := ins_get I.hok hb'
  obtain ⟨od, J, _⟩ := J.look
  obtain ⟨od', J', _⟩ := J'.look
  have hr1 : Room n X.A.in1 := Room.in1 hr
  refine ne_K (by exact hr1.units0) I.kIn J J'.type hm hn hs hf ?_
  refine wpAny_mono (run_eq F hb hx hr1 rfl I q) (fun w s' z => ?_) fun _ _ x => x
  obtain ⟨z', H', I', rz, c, ec, qz⟩ := z
  subst ec
  cases (show w = Value.bool c from rz)
  exact ⟨c, rfl, .bl !c, H', I', rfl, qz⟩
end
end Rp
namespace Rp
open PySem PySem.Spec PyProof.Rows L2
/-! ### a tuple once, and some times -/
theorem tuple_mul1 (l : Addr) (items : Array Value) (n : Nat) (dd : Option Addr) (sl : Array (Option Value)) (u : Tok) :
    Meets (Builtin.«tuple.__mul__» ⟨[.ref l, .int 1 u], []⟩) (fun _ R s => s.heap.get? l = some { cls := .type "tuple", dict := dd, data := .seq items n, slots := sl } ∧ R (.ok (.ret (Value.ref l))) s) :=
  .of_wp fun prog w A R s h => by
    obtain ⟨hp, g, d, tk, os⟩ := s
    obtain ⟨hl, h⟩ := h
    have f1 := AutoSeq1.idx_int
    have c1 : (items.isEmpty || (1 : Int) == 1) = true := by rw [Bool.or_eq_true]; exact .inr rfl
    wp_walk using wpAny_loadPart' hl
    repeat (first
      | (refine wpAny_ite_true (decide_eq_true c1) ?_; wp_walk using wpAny_loadPart' hl)
      | (refine wpAny_ite_false (decide_eq_false (by decide)) ?_; wp_walk using wpAny_loadPart' hl))
    exact ⟨_, rfl, h⟩
def rRep1 (K : PySem.W.Frag) : R2 := fun x y H Q => ∃ l xs, x = .ref l ∧ y = .int 1 ∧ SqT K H l xs ∧ Q (.ref l) H
theorem op_rep1 {X : Cx} : OpR X (binaryOp .Mult) (rRep1 X.K) := by
  intro pins s σ H x y v u Q I rx ry h
  obtain ⟨l, xs, rfl, rfl, hT, q⟩ := h
  cases rx
  obtain ⟨t, rfl⟩ := ry
  obtain ⟨its, r, ⟨⟨cls, dd, data, sl⟩, ho, hc, n, hd⟩, hs⟩ := I.tuple hT
  simp only at hc hd
  subst hc hd
  refine wpAny_binaryOp_repeat_ref (T := "tuple") (U := "int") (by decide) ⟨_, ho, rfl⟩ (fun s' => typeIs_int s' 1 t) noFill_tuple_mul F.fills_int_mul F.slot_int_rmul repeat_tuple F.slot_int_index.lookup
    (call_meets F.slot_int_rmul (typeIs_int s 1 t) F.entry_int_rmul (F.args_int_rmul_2 _ _) (int_rmul_tuple 1 t l its.toArray n dd sl)
      ⟨ho, rfl, ⟨_, ho, rfl⟩, call_meets F.slot_tuple_mul ⟨_, ho, rfl⟩ F.entry_tuple_mul (F.args_tuple_mul_2 _ _) (tuple_mul1 l its.toArray n dd sl t) ⟨ho, ?_⟩⟩)
  exact ⟨.ref l, H, I, rfl, q⟩
/-- xs * k, k from 1 -/
def rRepA (K : PySem.W.Frag) : R2 := fun x y H Q => ∃ l k xs, x = .ref l ∧ y = .int k ∧ SqT K H l xs ∧ xs ≠ [] ∧ 1 ≤ k ∧ k ≤ 1000 ∧ xs.length ≤ 1000 ∧ ∀ p H', Same H H' → SqT K H' p (List.replicate k.toNat xs).flatten → Q (.ref p) H'
theorem op_repA {X : Cx} : OpR X (binaryOp .Mult) (rRepA X.K) := by
  intro pins s σ H x y v u Q I rx ry h
  obtain ⟨l, k, xs, rfl, rfl, hT, hne, h1, h2, hz, q⟩ := h
  by_cases e : k = 1
  · subst e
    exact op_rep1 pins s σ H _ _ v u Q I rx ry ⟨l, xs, rfl, rfl, hT, q l H (Same.refl H) (by simpa using hT)⟩
  · exact op_repT pins s σ H _ _ v u Q I rx ry ⟨l, k, xs, rfl, rfl, hT, hne, by omega, h2, hz, fun p hp => q p _ (same_neu (Same.refl H) hp) (SqT.of upd_same)⟩
/-- the same, the tuple laid by the program: the answer is it, or new -/
def rRepN (K : PySem.W.Frag) : R2 := fun x y H Q => ∃ l k xs, x = .ref l ∧ y = .int k ∧ H l = some (.tup xs) ∧ xs ≠ [] ∧ 1 ≤ k ∧ k ≤ 1000 ∧ xs.length ≤ 1000 ∧ ∀ p H', Same H H' → (p = l ∨ H p = none) → H' p = some (.tup (List.replicate k.toNat xs).flatten) → Q (.ref p) H'
theorem op_repN {X : Cx} : OpR X (binaryOp .Mult) (rRepN X.K) := by
  intro pins s σ H x y v u Q I rx ry h
  obtain ⟨l, k, xs, rfl, rfl, hT, hne, h1, h2, hz, q⟩ := h
  by_cases e : k = 1
  · subst e
    exact op_rep1 pins s σ H _ _ v u Q I rx ry ⟨l, xs, rfl, rfl, SqT.of hT, q l H (Same.refl H) (.inl rfl) (by simpa using hT)⟩
  · exact op_repT pins s σ H _ _ v u Q I rx ry ⟨l, k, xs, rfl, rfl, SqT.of hT, hne, by omega, h2, hz, fun p hp => q p _ (same_neu (Same.refl H) hp) (.inr hp) upd_same⟩
/-- a list or a tuple at an index -/
theorem r_ixB {K : PySem.W.Frag} {H : Hp} {t : Bool} {p : Addr} {xs : List V} {i : Int} {v : V} {Q : VK} (h : SqB t K H p xs) (ha : atI xs i = some v) (q : Q v H) : rIx K (.ref p) (.int i) H Q := by
  cases t
  · exact .inr (.inl (r_ixT h ha q))
  · exact .inl (r_ixL h ha q)
theorem SqB.row {K : PySem.W.Frag} {H : Hp} {t : Bool} {a : Addr} {xs : List Int} (h : SqB t K H a (xs.map V.int)) : RowAt K H a xs := by
  cases t
  · exact .inr h
  · exact .inl h
end Rp
namespace Rp
open PySem PySem.Spec PyProof.Rows L2
/-! ### rims: steps, swings, chess rows -/
def stepAt (xs : List Int) (i : Nat) : Int := xs.getD (if i = 0 then xs.length - 1 else i - 1) 0 - xs.getD (if i + 1 = xs.length then 0 else i + 1) 0
def stepsF (xs : List Int) : List Int := (List.range xs.length).map (stepAt xs)
def swingF (cl : Int) (xs ys : List Int) : Int := ((ys.zip (stepsF xs)).map fun p => p.1 * p.2).sum % cl
def chessF (xs : List Int) : List Bool := (List.range xs.length).map fun i => decide (xs.getD i 0 = xs.getD (i % 2) 0)
theorem stepsF_len {xs : List Int} : (stepsF xs).length = xs.length := by unfold stepsF; rw [List.length_map, List.length_range]
theorem stepsF_at {xs : List Int} {i : Nat} (h : i < xs.length) : (stepsF xs)[i]? = some (stepAt xs i) := by
  unfold stepsF
  rw [List.getElem?_map, List.getElem?_range h]
  rfl
theorem chessF_len {xs : List Int} : (chessF xs).length = xs.length := by unfold chessF; rw [List.length_map, List.length_range]
theorem chessF_at {xs : List Int} {i : Nat} (h : i < xs.length) : (chessF xs)[i]? = some (decide (xs.getD i 0 = xs.getD (i % 2) 0)) := by
  unfold chessF
  rw [List.getElem?_map, List.getElem?_range h]
  rfl
theorem getD_at {xs : List Int} {i : Nat} (h : i < xs.length) : xs[i]? = some (xs.getD i 0) := by
  rw [List.getD_eq_getElem?_getD, List.getElem?_eq_getElem h]
  rfl
theorem SqB.or {K : PySem.W.Frag} {H : Hp} {t : Bool} {a : Addr} {xs : List V} (h : SqB t K H a xs) : SqL K H a xs ∨ SqT K H a xs := by
  cases t
  · exact .inr h
  · exact .inl h
theorem row_B {K : PySem.W.Frag} {q : Addr} {H : Hp} {v : V} {xs : List V} (h : RowV q H v (some xs)) : ∃ p t, v = .ref p ∧ SqB t K H p xs := by
  cases h with
  | lst n e _ => exact ⟨_, true, rfl, SqL.of e⟩
  | tup n e _ => exact ⟨_, false, rfl, SqT.of e⟩
theorem rowV_same {q : Addr} {H H' : Hp} {v : V} {o : Option (List V)} (h : RowV q H v o) (s : Same H H') : RowV q H' v o := h.but fun b o _ e => s b o e
theorem ints_of : ∀ {xs : List V}, (∀ x ∈ xs, ∃ i : Int, x = .int i) → ∃ ns : List Int, xs = ns.map V.int
  | [], _ => ⟨[], rfl⟩
  | x :: r, h => by
    obtain ⟨i, rfl⟩ := h x (List.mem_cons_self ..)
    obtain ⟨ns, rfl⟩ := ints_of fun y m => h y (List.mem_cons_of_mem _ m)
    exact ⟨i :: ns, rfl⟩
/-- a row of the gaps of a rim with ends -/
def rimOk (o : Option (List V)) (cl : Int) : Bool := rowOk o cl 2 16 && match o with | some xs => xs.length % 2 == 0 | none => false
theorem rimOk_some {o : Option (List V)} {cl : Int} (h : rimOk o cl = true) : ∃ ns : List Int, o = some (ns.map V.int) ∧ 2 ≤ ns.length ∧ ns.length ≤ 16 ∧ ns.length % 2 = 0 ∧ ∀ x ∈ ns, 0 ≤ x ∧ x ≤ cl - 1 := by
  obtain ⟨h1, h2⟩ := Bool.and_eq_true_iff.mp h
  obtain ⟨xs, rfl, l, m⟩ := rowOk_some h1
  obtain ⟨ns, rfl⟩ := ints_of fun x mx => (m x mx).imp fun i z => z.1
  have e1 := (Bool.and_eq_true_iff.mp (show ((decide ((2 : Int) ≤ ((ns.map V.int).length : Int)) && decide (((ns.map V.int).length : Int) ≤ 16)) && (ns.map V.int).all fun x => inB x (some 0) (some (cl - 1))) = true from h1)).1
  have e2 := of_decide_eq_true (Bool.and_eq_true_iff.mp e1).1
  rw [List.length_map] at e2 l
  have e3 : (ns.map V.int).length % 2 = 0 := beq_iff_eq.mp h2
  rw [List.length_map] at e3
  refine ⟨ns, rfl, by omega, by simpa using l, e3, fun x mx => ?_⟩
  obtain ⟨i, e, a, b⟩ := m (.int x) (List.mem_map.mpr ⟨x, mx, rfl⟩)
  cases e
  exact ⟨a, b⟩
theorem rimOk_ints {xs : List Int} {cl : Int} (h : ∀ x ∈ xs, 0 ≤ x ∧ x ≤ cl - 1) (l1 : 2 ≤ xs.length) (l2 : xs.length ≤ 16) (ev : xs.length % 2 = 0) : rimOk (some (xs.map V.int)) cl = true := by
  have a := rowOk_ints h (by omega) (by omega)
  have a2 := (Bool.and_eq_true_iff.mp (show ((decide ((1 : Int) ≤ ((xs.map V.int).length : Int)) && decide (((xs.map V.int).length : Int) ≤ 400)) && (xs.map V.int).all fun x => inB x (some 0) (some (cl - 1))) = true from a)).2
  refine Bool.and_eq_true_iff.mpr ⟨?_, ?_⟩
  · show ((decide ((2 : Int) ≤ ((xs.map V.int).length : Int)) && decide (((xs.map V.int).length : Int) ≤ 16)) && (xs.map V.int).all fun x => inB x (some 0) (some (cl - 1))) = true
    rw [a2, List.length_map, decide_eq_true (by omega), decide_eq_true (by omega)]
    rfl
  · show ((xs.map V.int).length % 2 == 0) = true
    rw [List.length_map, ev]
    rfl
def spDemRim (C : Addr) : Sp := fun vs H Q E => ∃ q v o clock part, vs = [.int clock, v, .str part] ∧ RowV q H v o ∧ clk (.int clock) = true ∧ (∀ xs, o = some xs → xs.length < sizeLine) ∧
  ∀ H', Same H H' → (rimOk o clock = true → Q .non H') ∧ (rimOk o clock = false → errAt E C "part" (.str part) H')
def spSteps (K : PySem.W.Frag) : Sp := fun vs H Q _ => ∃ t a xs, vs = [.ref a] ∧ SqB t K H a (xs.map V.int) ∧ 2 ≤ xs.length ∧ xs.length ≤ 400 ∧ ∀ D H', Same H H' → H' D = some (.lst ((stepsF xs).map V.int)) → Q (.ref D) H'
def spSwing (cC cR cM : Addr) : Sp := fun vs H Q E => ∃ q c a b oa ob, vs = [c, a, b] ∧ Any q H c ∧ RowV q H a oa ∧ RowV q H b ob ∧ (∀ xs, oa = some xs → xs.length < sizeLine) ∧ (∀ xs, ob = some xs → xs.length < sizeLine) ∧
  (clk c = false → errAt E cC "part" (.str "clock") H) ∧ ∀ cl, c = .int cl → clk c = true → ∀ H', Same H H' → (rimOk oa cl = false → errAt E cR "part" (.str "one") H') ∧ (rimOk oa cl = true → (rimOk ob cl = false → errAt E cR "part" (.str "other") H') ∧
    (rimOk ob cl = true → ∀ xs ys : List Int, oa = some (xs.map V.int) → ob = some (ys.map V.int) → (xs.length ≠ ys.length → errAt E cM "part" (.str "other") H') ∧ (xs.length = ys.length → Q (.int (swingF cl xs ys)) H')))
def spIsChess (cC cR : Addr) : Sp := fun vs H Q E => ∃ q c a oa, vs = [c, a] ∧ Any q H c ∧ RowV q H a oa ∧ (∀ xs, oa = some xs → xs.length < sizeLine) ∧
  (clk c = false → errAt E cC "part" (.str "clock") H) ∧ ∀ cl, c = .int cl → clk c = true → ∀ H', Same H H' → (rimOk oa cl = false → errAt E cR "part" (.str "row") H') ∧ (rimOk oa cl = true → ∀ xs : List Int, oa = some (xs.map V.int) → Q (.bl ((chessF xs).all id)) H')
def evenIn (v : V) (lo hi : Int) : Bool := inB v (some lo) (some hi) && match v with | .int i => i % 2 == 0 | _ => false
def spDemEven (C : Addr) : Sp := fun vs H Q E => ∃ q v lo hi part, vs = [v, .int lo, .int hi, .str part] ∧ Any q H v ∧ (evenIn v lo hi = true → Q .non H) ∧ (evenIn v lo hi = false → errAt E C "part" (.str part) H)
/-- len and an index, within a comprehension too -/
def rLenK (K : PySem.W.Frag) : List V → Hp → VK → Prop := fun xs H Q => ∃ p ys, xs = [V.ref p] ∧ (SqL K H p ys ∨ SqT K H p ys) ∧ Q (V.int ys.length) H
theorem cl_len {X : Cx} {K : PySem.W.Frag} (h : X.K = K) : CallR X (.builtin "len") (rLenK K) := by
  subst h
  exact call_len_seq
theorem ix_seqK {X : Cx} {K : PySem.W.Frag} (h : X.K = K) : IxR X (rIx K) := by
  subst h
  exact ix_seq
theorem ixN_last {n : Nat} (h : 0 < n) : ixN n (-1) = some (n - 1) := by
  unfold ixN
  rw [if_neg (by omega), if_pos (by omega)]
  congr 1
  omega
theorem atI_at {xs : List Int} {j : Nat} (h : j < xs.length) : atI (xs.map V.int) (j : Int) = some (.int (xs.getD j 0)) := atI_nat (by rw [List.getElem?_map, getD_at h]; rfl)
theorem atI_prev {xs : List Int} {i : Nat} (h : i < xs.length) : atI (xs.map V.int) (0 + (i : Int) - 1) = some (.int (xs.getD (if i = 0 then xs.length - 1 else i - 1) 0)) := by
  by_cases e : i = 0
  · subst e
    rw [if_pos rfl]
    show atI (xs.map V.int) (-1) = _
    unfold atI
    rw [List.length_map, ixN_last h, Option.bind_some, List.getElem?_map, getD_at (by omega : xs.length - 1 < xs.length)]
    rfl
  · rw [if_neg e, show 0 + (i : Int) - 1 = ((i - 1 : Nat) : Int) by omega]
    exact atI_at (by omega)
theorem mod_next {n i : Nat} (h : i < n) : (0 + (i : Int) + 1).fmod (n : Int) = ((if i + 1 = n then 0 else i + 1 : Nat) : Int) := by
  rw [Int.fmod_eq_emod_of_nonneg _ (by omega)]
  by_cases e : i + 1 = n
  · rw [if_pos e, show 0 + (i : Int) + 1 = (n : Int) by omega, Int.emod_self]
    rfl
  · rw [if_neg e, Int.emod_eq_of_lt (by omega) (by omega)]
    omega
theorem atI_next {xs : List Int} {i : Nat} (h : i < xs.length) : atI (xs.map V.int) ((0 + (i : Int) + 1).fmod (xs.length : Int)) = some (.int (xs.getD (if i + 1 = xs.length then 0 else i + 1) 0)) := by
  rw [mod_next h]
  refine atI_at ?_
  split <;> omega
theorem stepsF_take {xs : List Int} {i : Nat} (h : i < xs.length) : ((stepsF xs).take (i + 1)).map V.int = ((stepsF xs).take i).map V.int ++ [.int (stepAt xs i)] := by
  rw [List.take_succ, stepsF_at h, Option.toList_some, List.map_append]
  rfl
theorem zip_take {xs ys : List Int} {i : Nat} {x y : Int} (hx : xs[i]? = some x) (hy : ys[i]? = some y) : (((xs.zip ys).take (i + 1)).map fun p => p.1 * p.2).map V.int = (((xs.zip ys).take i).map fun p => p.1 * p.2).map V.int ++ [.int (x * y)] := by
  have z : (xs.zip ys)[i]? = some (x, y) := by
    rw [List.getElem?_zip_eq_some]
    exact ⟨hx, hy⟩
  rw [List.take_succ, z, List.map_append, List.map_append]
  rfl
theorem getD_in {cl : Int} {xs : List Int} (h : ∀ x ∈ xs, 0 ≤ x ∧ x ≤ cl - 1) {j : Nat} (hj : j < xs.length) : 0 ≤ xs.getD j 0 ∧ xs.getD j 0 ≤ cl - 1 := h _ (List.mem_of_getElem? (getD_at hj))
theorem stepAt_in {cl : Int} {xs : List Int} (h : ∀ x ∈ xs, 0 ≤ x ∧ x ≤ cl - 1) {i : Nat} (hi : i < xs.length) : -cl ≤ stepAt xs i ∧ stepAt xs i ≤ cl := by
  have a : 0 ≤ xs.getD (if i = 0 then xs.length - 1 else i - 1) 0 ∧ xs.getD (if i = 0 then xs.length - 1 else i - 1) 0 ≤ cl - 1 := getD_in h (by split <;> omega)
  have b : 0 ≤ xs.getD (if i + 1 = xs.length then 0 else i + 1) 0 ∧ xs.getD (if i + 1 = xs.length then 0 else i + 1) 0 ≤ cl - 1 := getD_in h (by split <;> omega)
  unfold stepAt
  omega
end Rp
namespace Rp
open PySem PySem.Spec PyProof.Rows L2 LamX
/-! ### what walks of laws carry along -/
theorem none_back {q c p : Addr} {ns : List Int} {lap : Nat} {H G : Hp} (D : Dr q c ns lap G) (B : But q H G) (h : G p = none) : H p = none := by
  cases z : H p with
  | none => rfl
  | some o =>
    by_cases e : p = q
    · subst e
      obtain ⟨ne, ⟨rest, hb⟩, hc, hl⟩ := D
      rw [hb] at h
      cases h
    · rw [B _ _ e z] at h
      cases h
theorem dr_neq {q c p : Addr} {ns : List Int} {lap : Nat} {H : Hp} (D : Dr q c ns lap H) (h : H p = none) : p ≠ q := by
  obtain ⟨ne, ⟨rest, hb⟩, hc, hl⟩ := D
  exact (ne_of_none hb h).symm
/-- None, or a pair -/
def TwoV (H : Hp) (v : V) : Option (V × V) → Prop
  | none => v = .non
  | some (x, y) => ∃ p, v = .ref p ∧ H p = some (.tup [x, y])
def vD : V → PyData
  | .str x => .str x
  | .int i => .int i
  | _ => .none
def twoD : Option (V × V) → PyData
  | none => .none
  | some (x, y) => .tuple [vD x, vD y]
/-- strings and numbers in it alone -/
def flatO : Option (V × V) → Prop
  | none => True
  | some (x, y) => (∃ s, x = .str s) ∧ ((∃ s, y = .str s) ∨ ∃ i, y = .int i)
theorem two_dp {K : PySem.W.Frag} {H : Hp} {v : V} {o : Option (V × V)} (h : TwoV H v o) (f : flatO o) : Dp K H v (twoD o) := by
  match o, h, f with
  | none, h, _ => cases h; exact .non
  | some (x, y), ⟨p, e, ep⟩, ⟨⟨s, ex⟩, f⟩ =>
    subst e ex
    rcases f with ⟨t, rfl⟩ | ⟨i, rfl⟩
    · exact .tup (SqT.of ep) (.cons (.str _) (.cons (.str _) .nil))
    · exact .tup (SqT.of ep) (.cons (.str _) (.cons (.int _) .nil))
theorem TwoV.ext {H H' : Hp} {v : V} {o : Option (V × V)} (h : TwoV H v o) (x : ExtN H H') : TwoV H' v o := by
  match o, h with
  | none, h => exact h
  | some (a, b), ⟨p, e, ep⟩ => exact ⟨p, e, x _ _ ep fun _ z => by cases z⟩
theorem neu2 {H G : Hp} {p : Addr} {o : HO} (hG : upd H p o = G) (hp : H p = none) : Same H G ∧ G p = some o := by
  subst hG
  exact ⟨same_neu (Same.refl H) hp, upd_same⟩
theorem tabs_dr {q c : Addr} {ns : List Int} {lap : Nat} {T : List (Addr × Str)} {H H' : Hp} (B : But q H H') (D : Dr q c ns lap H) (t : Tabs T H) : Tabs T H' := by
  obtain ⟨_, ⟨_, hq⟩, _, _⟩ := D
  exact tabs_but B hq t
theorem TwoV.same {H H' : Hp} {v : V} {o : Option (V × V)} (h : TwoV H v o) (s : Same H H') : TwoV H' v o := h.ext (ExtN.of s)
theorem Any.ext {q : Addr} {H H' : Hp} {v : V} (h : Any q H v) (x : ExtN H H') : Any q H' v := any_ext h x
theorem RowV.ext {q : Addr} {H H' : Hp} {v : V} {o : Option (List V)} (h : RowV q H v o) (x : ExtN H H') : RowV q H' v o := row_ext h x
theorem neD_ok {K : PySem.W.Frag} {H : Hp} {Q : VK} {x y : V} {d e : PyData} (h1 : Dp K H x d) (h2 : Dp K H y e) (s1 : SeqAt.shaped d = true) (s2 : SeqAt.shaped e = true) (q : PyData.eqv d e = true) (h : Q (.bl false) H) : rNeD K x y H Q :=
  ⟨d, e, h1, h2, s1, s2, by rw [q]; exact h⟩
theorem eqD_ok {K : PySem.W.Frag} {H : Hp} {Q : VK} {x y : V} {d e : PyData} (h1 : Dp K H x d) (h2 : Dp K H y e) (s1 : SeqAt.shaped d = true) (s2 : SeqAt.shaped e = true) (q : PyData.eqv d e = true) (h : Q (.bl true) H) : rEqD K x y H Q :=
  ⟨d, e, h1, h2, s1, s2, by rw [q]; exact h⟩
theorem big1 : 1000 ≤ sizeLine := le_ok rfl
end Rp
namespace Rp
/-! ### rows round the clock: sums of multiples, and their least form -/
theorem em_r {m a b : Int} (t : Int) : (a + t * (b % m)) % m = (a + t * b) % m := by
  rw [Int.add_emod, Int.mul_emod, Int.emod_emod, ← Int.mul_emod, ← Int.add_emod]
theorem em_l {m a b : Int} : (a % m + b) % m = (a + b) % m := by
  rw [Int.add_emod, Int.emod_emod, ← Int.add_emod]
theorem em_of {m x : Int} (h : 0 ≤ x ∧ x < m) : x % m = x := Int.emod_eq_of_lt h.1 h.2
/-- a row, and t times another one, round the clock -/
def adM (cl t : Int) (xs ys : List Int) : List Int := List.zipWith (fun x y => (x + t * y) % cl) xs ys
def zeroR (n : Nat) : List Int := List.replicate n 0
def RowOk (cl : Int) (n : Nat) (xs : List Int) : Prop := xs.length = n ∧ Dig cl xs
section
variable {cl t u : Int} {n : Nat} {xs ys zs : List Int} {rs ls ms : List (List Int)}
theorem gd_lt {k : Nat} (h : k < xs.length) : xs[k]? = some (xs.getD k 0) := by
  rw [List.getD_eq_getElem?_getD, List.getElem?_eq_getElem h]
  rfl
theorem gd_ge {k : Nat} (h : xs.length ≤ k) : xs.getD k 0 = 0 := by
  rw [List.getD_eq_getElem?_getD, List.getElem?_eq_none h]
  rfl
theorem row_ext' (l : xs.length = ys.length) (h : ∀ k, k < xs.length → xs.getD k 0 = ys.getD k 0) : xs = ys := by
  refine List.ext_getElem? fun k => ?_
  by_cases hk : k < xs.length
  · rw [gd_lt hk, gd_lt (by omega), h k hk]
  · rw [List.getElem?_eq_none (by omega), List.getElem?_eq_none (by omega)]
theorem dig_gd (d : Dig cl xs) (h : 0 < cl) (k : Nat) : 0 ≤ xs.getD k 0 ∧ xs.getD k 0 < cl := by
  by_cases hk : k < xs.length
  · exact d _ (List.mem_of_getElem? (gd_lt hk))
  · rw [gd_ge (by omega)]
    omega
theorem adM_len (l : xs.length = ys.length) : (adM cl t xs ys).length = xs.length := by
  unfold adM
  rw [List.length_zipWith, l]
  exact Nat.min_self _
theorem adM_at (l : xs.length = ys.length) (k : Nat) : (adM cl t xs ys).getD k 0 = (xs.getD k 0 + t * ys.getD k 0) % cl := by
  by_cases hk : k < xs.length
  · have e1 := gd_lt hk
    have e2 := gd_lt (xs := ys) (k := k) (by omega)
    rw [List.getD_eq_getElem?_getD]
    unfold adM
    rw [List.getElem?_zipWith, e1, e2]
    rfl
  · rw [gd_ge (by rw [adM_len l]; omega), gd_ge (xs := xs) (by omega), gd_ge (xs := ys) (by omega)]
    simp
theorem adM_dig (h : 0 < cl) : Dig cl (adM cl t xs ys) := by
  intro z m
  unfold adM at m
  obtain ⟨k, hk⟩ := List.mem_iff_getElem?.mp m
  rw [List.getElem?_zipWith] at hk
  cases e1 : xs[k]? with
  | none => rw [e1] at hk; cases hk
  | some x =>
    cases e2 : ys[k]? with
    | none => rw [e1, e2] at hk; cases hk
    | some y =>
      rw [e1, e2] at hk
      have e := Option.some.inj hk
      rw [← e]
      exact ⟨Int.emod_nonneg _ (by omega), Int.emod_lt_of_pos _ h⟩
theorem adM_ok (h : 0 < cl) (a : RowOk cl n xs) (b : RowOk cl n ys) : RowOk cl n (adM cl t xs ys) := ⟨by rw [adM_len (by rw [a.1, b.1]), a.1], adM_dig h⟩
theorem zeroR_ok (h : 0 < cl) : RowOk cl n (zeroR n) := ⟨List.length_replicate .., fun x m => by rw [List.eq_of_mem_replicate m]; omega⟩
theorem zeroR_at (k : Nat) : (zeroR n).getD k 0 = 0 := by
  unfold zeroR
  rw [List.getD_eq_getElem?_getD, List.getElem?_replicate]
  split <;> rfl
theorem adM_zero (h : 0 < cl) (a : RowOk cl n xs) : adM cl t xs (zeroR n) = xs := by
  have z := zeroR_ok (n := n) h
  refine row_ext' (adM_len (by rw [a.1, z.1])) fun k _ => ?_
  rw [adM_at (by rw [a.1, z.1]), zeroR_at, Int.mul_zero, Int.add_zero]
  exact em_of (dig_gd a.2 h k)
theorem zero_adM (h : 0 < cl) (a : RowOk cl n xs) : adM cl 1 (zeroR n) xs = xs := by
  have z := zeroR_ok (n := n) h
  refine row_ext' (by rw [adM_len (by rw [a.1, z.1]), a.1, z.1]) fun k _ => ?_
  rw [adM_at (by rw [a.1, z.1]), zeroR_at, Int.one_mul, Int.zero_add]
  exact em_of (dig_gd a.2 h k)
theorem adM_adM (h : 0 < cl) (a : RowOk cl n xs) (b : RowOk cl n ys) (c : RowOk cl n zs) : adM cl t xs (adM cl u ys zs) = adM cl (t * u) (adM cl t xs ys) zs := by
  have o1 := adM_ok (t := u) h b c
  have o2 := adM_ok (t := t) h a b
  refine row_ext' (by rw [adM_len (by rw [a.1, o1.1]), adM_len (by rw [o2.1, c.1]), a.1, o2.1]) fun k _ => ?_
  rw [adM_at (by rw [a.1, o1.1]), adM_at (by rw [b.1, c.1]), adM_at (by rw [o2.1, c.1]), adM_at (by rw [a.1, b.1]), em_r, em_l, Int.mul_add, Int.mul_assoc]
  congr 1
  omega
theorem adM_back (h : 0 < cl) (a : RowOk cl n xs) (b : RowOk cl n ys) : adM cl (-t) (adM cl t xs ys) ys = xs := by
  have o2 := adM_ok (t := t) h a b
  refine row_ext' (by rw [adM_len (by rw [o2.1, b.1]), a.1, o2.1]) fun k _ => ?_
  rw [adM_at (by rw [o2.1, b.1]), adM_at (by rw [a.1, b.1]), em_l, Int.neg_mul]
  rw [show xs.getD k 0 + t * ys.getD k 0 + -(t * ys.getD k 0) = xs.getD k 0 by omega]
  exact em_of (dig_gd a.2 h k)
end
/-- the sums of multiples of some rows -/
inductive Spn (cl : Int) (n : Nat) (rs : List (List Int)) : List Int → Prop
  | zero : Spn cl n rs (zeroR n)
  | add {x r : List Int} (t : Int) (h : Spn cl n rs x) (m : r ∈ rs) : Spn cl n rs (adM cl t x r)
section
variable {cl t u : Int} {n : Nat} {x y r : List Int} {rs ss ls ms : List (List Int)}
theorem Spn.ok (h : 0 < cl) (o : RowsOk cl n rs) (s : Spn cl n rs x) : RowOk cl n x := by
  induction s with
  | zero => exact zeroR_ok h
  | add t _ m ih => exact adM_ok h ih (o _ m)
theorem Spn.of (h : 0 < cl) (o : RowsOk cl n rs) (m : r ∈ rs) : Spn cl n rs r := by
  have z := Spn.add 1 (Spn.zero (cl := cl) (n := n)) m
  rwa [zero_adM h (o _ m)] at z
theorem Spn.comb (h : 0 < cl) (o : RowsOk cl n rs) (a : Spn cl n rs x) (b : Spn cl n rs y) (t : Int) : Spn cl n rs (adM cl t x y) := by
  induction b generalizing t with
  | zero => rw [adM_zero h (a.ok h o)]; exact a
  | add u b m ih =>
    rw [adM_adM h (a.ok h o) (b.ok h o) (o _ m)]
    exact .add _ (ih t) m
theorem Spn.mono (h : 0 < cl) (o : RowsOk cl n rs) (os : RowsOk cl n ss) (f : ∀ r ∈ rs, Spn cl n ss r) (a : Spn cl n rs x) : Spn cl n ss x := by
  induction a with
  | zero => exact .zero
  | add t _ m ih => exact ih.comb h os (f _ m) t
theorem Spn.sub (f : ∀ r ∈ rs, r ∈ ss) (a : Spn cl n rs x) : Spn cl n ss x := by
  induction a with
  | zero => exact .zero
  | add t _ m ih => exact .add t ih (f _ m)
/-- a multiple -/
def mulM (cl t : Int) (xs : List Int) : List Int := xs.map fun x => (t * x) % cl
theorem mulM_eq (h : 0 < cl) (a : RowOk cl n x) : mulM cl t x = adM cl t (zeroR n) x := by
  have z := zeroR_ok (n := n) h
  refine row_ext' (by rw [adM_len (by rw [a.1, z.1]), z.1]; unfold mulM; rw [List.length_map, a.1]) fun k hk => ?_
  have hk' : k < x.length := by unfold mulM at hk; rw [List.length_map] at hk; exact hk
  rw [adM_at (by rw [a.1, z.1]), zeroR_at, Int.zero_add]
  unfold mulM
  rw [List.getD_eq_getElem?_getD, List.getElem?_map, gd_lt hk']
  rfl
theorem Spn.mul (h : 0 < cl) (o : RowsOk cl n rs) (a : Spn cl n rs x) (t : Int) : Spn cl n rs (mulM cl t x) := by
  rw [mulM_eq h (a.ok h o)]
  exact Spn.zero.comb h o a t
/-- what is left if multiples are taken off, round the clock -/
def clrM (cl : Int) (ls : List (Nat × List Int)) (xs : List Int) : List Int := ls.foldl (fun x l => adM cl (cl - x.getD l.1 0) x l.2) xs
end
end Rp
namespace Rp
/-- the least form -/
structure LF (cl : Int) (n : Nat) (ls : List (List Int)) : Prop where
  ok : RowsOk cl n ls
  lead : ∀ r ∈ ls, leadOf r < n ∧ r.getD (leadOf r) 0 = 1
  asc : ls.Pairwise (fun r s => leadOf r < leadOf s)
  clr : ∀ r ∈ ls, ∀ s ∈ ls, r ≠ s → s.getD (leadOf r) 0 = 0
section
variable {cl t u : Int} {n : Nat} {x y r s : List Int} {rs ss ls ms : List (List Int)}
theorem before_lead {xs : List Int} {k : Nat} (h : k < leadOf xs) : xs.getD k 0 = 0 := by
  have := leadOf_le xs
  exact leadOf_zero h (gd_lt (by omega))
theorem lead_ne {xs : List Int} (h : leadOf xs < xs.length) : xs.getD (leadOf xs) 0 ≠ 0 := leadOf_ne (gd_lt h)
theorem lead_eq {xs : List Int} {k : Nat} (n0 : xs.getD k 0 ≠ 0) (h : ∀ j, j < k → xs.getD j 0 = 0) : leadOf xs = k := by
  have hk : k < xs.length := by
    by_cases z : k < xs.length
    · exact z
    · exact absurd (gd_ge (by omega)) n0
  refine leadOf_at (gd_lt hk) n0 fun j y hj e => ?_
  have := h j hj
  rw [List.getD_eq_getElem?_getD, e] at this
  exact this
theorem lead_full {xs : List Int} (h : ∀ j, j < xs.length → xs.getD j 0 = 0) : leadOf xs = xs.length := by
  refine leadOf_all fun j y e => ?_
  have hj := (List.getElem?_eq_some_iff.mp e).1
  have := h j hj
  rw [List.getD_eq_getElem?_getD, e] at this
  exact this
theorem full_zero {xs : List Int} (h : leadOf xs = xs.length) : xs = zeroR xs.length := by
  refine row_ext' (List.length_replicate ..).symm fun k hk => ?_
  rw [zeroR_at]
  exact before_lead (by omega)
theorem LF.nodup (h : LF cl n ls) : ls.Nodup := h.asc.imp fun a e => by rw [e] at a; omega
/-- sums of all rows, a column -/
def colS (ls : List (List Int)) (f : List Int → Int) : Int := (ls.map f).sum
theorem colS_lin (f g e : List Int → Int) (t : Int) (m : Int) : ∀ ls : List (List Int), (∀ r ∈ ls, f r % m = (g r + t * e r) % m) → colS ls f % m = (colS ls g + t * colS ls e) % m
  | [], _ => by simp [colS]
  | r :: ls, h => by
    have a := h r (List.mem_cons_self ..)
    have b := colS_lin f g e t m ls fun s q => h s (List.mem_cons_of_mem _ q)
    show (f r + colS ls f) % m = ((g r + colS ls g) + t * (e r + colS ls e)) % m
    rw [Int.add_emod, a, b, ← Int.add_emod, Int.mul_add]
    congr 1
    omega
theorem colS_zero (f : List Int → Int) : ∀ ls : List (List Int), (∀ r ∈ ls, f r = 0) → colS ls f = 0
  | [], _ => rfl
  | r :: ls, h => by
    show f r + colS ls f = 0
    rw [h r (List.mem_cons_self ..), colS_zero f ls fun s q => h s (List.mem_cons_of_mem _ q)]
    rfl
theorem colS_one {f : List Int → Int} {r : List Int} : ∀ {ls : List (List Int)}, ls.Nodup → r ∈ ls → (∀ s ∈ ls, s ≠ r → f s = 0) → colS ls f = f r
  | [], _, m, _ => nomatch m
  | s :: ls, nd, m, h => by
    obtain ⟨n1, n2⟩ := List.nodup_cons.mp nd
    show f s + colS ls f = f r
    rcases List.mem_cons.mp m with e | m'
    · subst e
      rw [colS_zero f ls fun s q => h s (List.mem_cons_of_mem _ q) fun e => n1 (by rw [← e]; exact q)]
      omega
    · rw [h s (List.mem_cons_self ..) fun e => n1 (by rw [e]; exact m'), colS_one n2 m' fun s q => h s (List.mem_cons_of_mem _ q)]
      omega
/-- a sum of multiples is told by its numbers where the rows lead -/
theorem LF.told (h0 : 0 < cl) (h : LF cl n ls) (a : Spn cl n ls x) (k : Nat) : x.getD k 0 = (colS ls fun r => x.getD (leadOf r) 0 * r.getD k 0) % cl := by
  induction a with
  | zero =>
    rw [zeroR_at, colS_zero _ ls fun r _ => by rw [zeroR_at, Int.zero_mul]]
    simp
  | @add x r t a m ih =>
    have ox := a.ok h0 h.ok
    have orr := h.ok r m
    rw [adM_at (by rw [ox.1, orr.1])]
    have e1 : (colS ls fun s => r.getD (leadOf s) 0 * s.getD k 0) = r.getD k 0 := by
      rw [colS_one h.nodup m fun s ms ne => by rw [h.clr s ms r m ne, Int.zero_mul], (h.lead r m).2, Int.one_mul]
    have e2 := colS_lin (fun s => (adM cl t x r).getD (leadOf s) 0 * s.getD k 0) (fun s => x.getD (leadOf s) 0 * s.getD k 0) (fun s => r.getD (leadOf s) 0 * s.getD k 0) t cl ls fun s ms => by
      show ((adM cl t x r).getD (leadOf s) 0 * s.getD k 0) % cl = _
      rw [adM_at (by rw [ox.1, orr.1]), Int.mul_emod, Int.emod_emod, ← Int.mul_emod, Int.add_mul, Int.mul_assoc]
    rw [e2, e1, ih, em_l]
theorem LF.lead_in (h0 : 0 < cl) (h : LF cl n ls) (a : Spn cl n ls x) (nz : leadOf x < n) : ∃ r ∈ ls, leadOf r = leadOf x := by
  have ox := a.ok h0 h.ok
  have t := h.told h0 a (leadOf x)
  apply Classical.byContradiction
  intro no
  refine lead_ne (by rw [ox.1]; exact nz) (t.trans ?_)
  rw [colS_zero _ ls fun r m => ?_]
  · simp
  · by_cases c : leadOf r < leadOf x
    · rw [before_lead c, Int.zero_mul]
    · have c2 : leadOf x < leadOf r := by
        have : leadOf r ≠ leadOf x := fun e => no ⟨r, m, e⟩
        omega
      rw [before_lead c2, Int.mul_zero]
theorem asc_eq : ∀ {ls ms : List (List Int)}, ls.Pairwise (fun r s => leadOf r < leadOf s) → ms.Pairwise (fun r s => leadOf r < leadOf s) → (∀ r ∈ ls, r ∈ ms) → (∀ r ∈ ms, r ∈ ls) → ls = ms
  | [], [], _, _, _, _ => rfl
  | [], m :: ms, _, _, _, g => nomatch g m (List.mem_cons_self ..)
  | l :: ls, [], _, _, f, _ => nomatch f l (List.mem_cons_self ..)
  | l :: ls, m :: ms, a, b, f, g => by
    obtain ⟨a1, a2⟩ := List.pairwise_cons.mp a
    obtain ⟨b1, b2⟩ := List.pairwise_cons.mp b
    have e : l = m := by
      rcases List.mem_cons.mp (f l (List.mem_cons_self ..)) with e | m1
      · exact e
      rcases List.mem_cons.mp (g m (List.mem_cons_self ..)) with e | m2
      · exact e.symm
      have := b1 l m1
      have := a1 m m2
      omega
    subst e
    rw [asc_eq a2 b2 (fun r mr => ?_) fun r mr => ?_]
    · rcases List.mem_cons.mp (f r (List.mem_cons_of_mem _ mr)) with e | m
      · have := a1 r mr
        rw [e] at this
        omega
      · exact m
    · rcases List.mem_cons.mp (g r (List.mem_cons_of_mem _ mr)) with e | m
      · have := b1 r mr
        rw [e] at this
        omega
      · exact m
theorem LF.inj (h : LF cl n ls) (mr : r ∈ ls) (ms : s ∈ ls) (e : leadOf r = leadOf s) : r = s := by
  apply Classical.byContradiction
  intro ne
  have a := h.clr r mr s ms ne
  rw [e, (h.lead s ms).2] at a
  cases a
theorem LF.half (h0 : 0 < cl) (h : LF cl n ls) (g : LF cl n ms) (f1 : ∀ r ∈ ls, Spn cl n ms r) (f2 : ∀ r ∈ ms, Spn cl n ls r) (m : r ∈ ls) : r ∈ ms := by
  obtain ⟨s, mst, es⟩ := g.lead_in h0 (f1 r m) (h.lead r m).1
  suffices e : r = s by rw [e]; exact mst
  refine row_ext' (by rw [(h.ok r m).1, (g.ok s mst).1]) fun k _ => ?_
  rw [g.told h0 (f1 r m) k, colS_one g.nodup mst fun q mq nq => ?_]
  · rw [es, (h.lead r m).2, Int.one_mul]
    exact em_of (dig_gd (g.ok s mst).2 h0 k)
  · obtain ⟨p, mp, ep⟩ := h.lead_in h0 (f2 q mq) (g.lead q mq).1
    have np : p ≠ r := fun e => nq (g.inj mq mst (by rw [es, ← ep, e]))
    rw [← ep, h.clr p mp r m np, Int.zero_mul]
/-- each space has just one least form -/
theorem LF.one (h0 : 0 < cl) (h : LF cl n ls) (g : LF cl n ms) (f1 : ∀ r ∈ ls, Spn cl n ms r) (f2 : ∀ r ∈ ms, Spn cl n ls r) : ls = ms :=
  asc_eq h.asc g.asc (fun _ m => h.half h0 g f1 f2 m) fun _ m => g.half h0 h f2 f1 m
/-! ### rows cleared -/
theorem modRow_at (xs : List Int) (k : Nat) : (modRow cl xs).getD k 0 = xs.getD k 0 % cl := by
  unfold modRow
  by_cases hk : k < xs.length
  · rw [List.getD_eq_getElem?_getD, List.getElem?_map, gd_lt hk]
    rfl
  · rw [gd_ge (xs := xs) (by omega), gd_ge (by rw [List.length_map]; omega)]
    simp
theorem modRow_self (h : 0 < cl) (d : Dig cl x) : modRow cl x = x := by
  refine row_ext' modRow_len fun k _ => ?_
  rw [modRow_at]
  exact em_of (dig_gd d h k)
theorem addT_at {xs ys : List Int} (l : xs.length = ys.length) (k : Nat) : (addT t xs ys).getD k 0 = xs.getD k 0 + t * ys.getD k 0 := by
  by_cases hk : k < xs.length
  · rw [List.getD_eq_getElem?_getD]
    unfold addT
    rw [List.getElem?_zipWith, gd_lt hk, gd_lt (xs := ys) (k := k) (by omega)]
    rfl
  · rw [gd_ge (by rw [addT_len l]; omega), gd_ge (xs := xs) (by omega), gd_ge (xs := ys) (by omega)]
    omega
theorem mod_addT {xs ys : List Int} (l : xs.length = ys.length) : modRow cl (addT t xs ys) = adM cl t (modRow cl xs) ys := by
  refine row_ext' (by rw [modRow_len, addT_len l, adM_len (by rw [modRow_len, l]), modRow_len]) fun k _ => ?_
  rw [modRow_at, addT_at l, adM_at (by rw [modRow_len, l]), modRow_at, em_l]
theorem adM_none (h : 0 < cl) (a : RowOk cl n x) (b : RowOk cl n y) : adM cl cl x y = x := by
  refine row_ext' (adM_len (by rw [a.1, b.1])) fun k _ => ?_
  rw [adM_at (by rw [a.1, b.1]), Int.add_mul_emod_self_left]
  exact em_of (dig_gd a.2 h k)
theorem clr_M (h : 0 < cl) : ∀ {ls : List (Nat × List Int)} {xs : List Int}, LdOk cl n ls → xs.length = n → modRow cl (clr cl ls xs) = clrM cl ls (modRow cl xs)
  | [], xs, _, _ => rfl
  | (a, r) :: ls, xs, o, l => by
    have q := o.head
    show modRow cl (clr cl ls (if xs.getD a 0 % cl ≠ 0 then addT (cl - xs.getD a 0 % cl) xs r else xs)) = clrM cl ls (adM cl (cl - (modRow cl xs).getD a 0) (modRow cl xs) r)
    rw [modRow_at]
    by_cases z : xs.getD a 0 % cl = 0
    · rw [if_neg (fun n => n z), z, Int.sub_zero, adM_none (n := n) h ⟨by rw [modRow_len, l], modRow_dig h _⟩ ⟨q.2.1, q.2.2⟩]
      exact clr_M h o.tail l
    · rw [if_pos z, clr_M h o.tail (by rw [addT_len (by rw [l, q.2.1]), l]), mod_addT (by rw [l, q.2.1])]
theorem left_M (h : 0 < cl) {ls : List (Nat × List Int)} (o : LdOk cl n ls) (a : RowOk cl n x) : leftOf cl ls x = clrM cl ls x := by
  unfold leftOf
  rw [clr_M h o a.1, modRow_self h a.2]
theorem clrM_ok (h : 0 < cl) : ∀ {ls : List (Nat × List Int)} {x : List Int}, LdOk cl n ls → RowOk cl n x → RowOk cl n (clrM cl ls x)
  | [], _, _, a => a
  | (b, r) :: ls, x, o, a => clrM_ok h (ls := ls) o.tail (adM_ok h a o.head.2)
theorem clrM_in (h : 0 < cl) (os : RowsOk cl n ss) : ∀ {ls : List (Nat × List Int)} {x : List Int}, (∀ l ∈ ls, Spn cl n ss l.2) → Spn cl n ss x → Spn cl n ss (clrM cl ls x)
  | [], _, _, a => a
  | l :: ls, x, f, a => clrM_in h os (ls := ls) (fun k m => f k (List.mem_cons_of_mem _ m)) (a.comb h os (f l (List.mem_cons_self ..)) _)
theorem clrM_back (h : 0 < cl) (os : RowsOk cl n ss) : ∀ {ls : List (Nat × List Int)} {x : List Int}, LdOk cl n ls → RowOk cl n x → (∀ l ∈ ls, Spn cl n ss l.2) → Spn cl n ss (clrM cl ls x) → Spn cl n ss x
  | [], _, _, _, _, a => a
  | l :: ls, x, o, ox, f, a => by
    have z := clrM_back h os (ls := ls) (x := adM cl (cl - x.getD l.1 0) x l.2) o.tail (adM_ok h ox o.head.2) (fun k m => f k (List.mem_cons_of_mem _ m)) a
    have w := z.comb h os (f l (List.mem_cons_self ..)) (-(cl - x.getD l.1 0))
    rwa [adM_back h ox o.head.2] at w
/-- rows that lead, each with 1, the later ones 0 where the earlier lead -/
structure LdI (cl : Int) (n : Nat) (ls : List (Nat × List Int)) : Prop where
  ok : LdOk cl n ls
  one : ∀ l ∈ ls, leadOf l.2 = l.1 ∧ l.2.getD l.1 0 = 1
  clr : ls.Pairwise (fun a b => b.2.getD a.1 0 = 0)
theorem clrM_keep (h : 0 < cl) {a : Nat} : ∀ {ls : List (Nat × List Int)} {x : List Int}, LdOk cl n ls → RowOk cl n x → (∀ l ∈ ls, l.2.getD a 0 = 0) → (clrM cl ls x).getD a 0 = x.getD a 0
  | [], _, _, _, _ => rfl
  | l :: ls, x, o, ox, f => by
    show (clrM cl ls (adM cl (cl - x.getD l.1 0) x l.2)).getD a 0 = _
    rw [clrM_keep h o.tail (adM_ok h ox o.head.2) fun k m => f k (List.mem_cons_of_mem _ m), adM_at (by rw [ox.1, o.head.2.1]), f l (List.mem_cons_self ..), Int.mul_zero, Int.add_zero]
    exact em_of (dig_gd ox.2 h a)
theorem LdI.tail {l : Nat × List Int} {ls : List (Nat × List Int)} (i : LdI cl n (l :: ls)) : LdI cl n ls :=
  ⟨i.ok.tail, fun k m => i.one k (List.mem_cons_of_mem _ m), (List.pairwise_cons.mp i.clr).2⟩
theorem LdI.zero (h : 0 < cl) : ∀ {ls : List (Nat × List Int)} {x : List Int}, LdI cl n ls → RowOk cl n x → ∀ l ∈ ls, (clrM cl ls x).getD l.1 0 = 0
  | [], _, _, _, _, m => nomatch m
  | k :: ls, x, i, ox, l, m => by
    obtain ⟨c1, c2⟩ := List.pairwise_cons.mp i.clr
    have oy := adM_ok (t := cl - x.getD k.1 0) h ox i.ok.head.2
    rcases List.mem_cons.mp m with e | m
    · rw [e]
      show (clrM cl ls (adM cl (cl - x.getD k.1 0) x k.2)).getD k.1 0 = 0
      rw [clrM_keep h i.ok.tail oy c1, adM_at (by rw [ox.1, i.ok.head.2.1]), (i.one k (List.mem_cons_self ..)).2, Int.mul_one, show x.getD k.1 0 + (cl - x.getD k.1 0) = cl by omega, Int.emod_self]
    · exact LdI.zero h i.tail oy l m
end
theorem pow_inv : ∀ cl ∈ clocks, ∀ k ∈ List.range (cl - 1).toNat, powF cl (1 + (k : Int)) (cl - 2).toNat * (1 + (k : Int)) % cl = 1 := by decide +kernel
theorem inv_one {cl v : Int} (h : cl ∈ clocks) (h0 : 0 < v) (h1 : v < cl) : powF cl v (cl - 2).toNat * v % cl = 1 := by
  have z := pow_inv cl h (v - 1).toNat (List.mem_range.mpr (by omega))
  rw [show (1 : Int) + ((v - 1).toNat : Int) = v by omega] at z
  exact z
end Rp
namespace Rp
section
variable {cl t u : Int} {n : Nat} {x y r s : List Int} {rs ss : List (List Int)} {ls : List (Nat × List Int)}
/-- the rows alone -/
def rowsL (ls : List (Nat × List Int)) : List (List Int) := ls.map (·.2)
theorem rowsL_ok (o : LdOk cl n ls) : RowsOk cl n (rowsL ls) := fun x m => by
  obtain ⟨l, ml, rfl⟩ := List.mem_map.mp m
  exact (o l ml).2
theorem rowsL_mem {l : Nat × List Int} (m : l ∈ ls) : l.2 ∈ rowsL ls := List.mem_map.mpr ⟨l, m, rfl⟩
theorem clocks_3 {cl : Int} (h : cl ∈ clocks) : 3 ≤ cl ∧ cl ≤ 31 := by
  revert h
  simp only [clocks, List.mem_cons, List.not_mem_nil, or_false]
  omega
theorem timesRow_at (left : List Int) (k : Nat) : (timesRow cl left).getD k 0 = (powF cl (left.getD (leadOf left) 0) (cl - 2).toNat * left.getD k 0) % cl := by
  unfold timesRow
  by_cases hk : k < left.length
  · rw [List.getD_eq_getElem?_getD, List.getElem?_map, gd_lt hk]
    rfl
  · rw [gd_ge (xs := left) (k := k) (by omega), gd_ge (by rw [List.length_map]; omega)]
    simp
theorem timesRow_M (left : List Int) : timesRow cl left = mulM cl (powF cl (left.getD (leadOf left) 0) (cl - 2).toNat) left := rfl
/-- a row that leads, made to have 1 there -/
theorem times_lead (hc : cl ∈ clocks) (o : RowOk cl n x) (h : leadOf x < n) : leadOf (timesRow cl x) = leadOf x ∧ (timesRow cl x).getD (leadOf x) 0 = 1 := by
  have c3 := clocks_3 hc
  have ne := lead_ne (xs := x) (by rw [o.1]; exact h)
  have b := dig_gd o.2 (by omega) (leadOf x)
  have e : (timesRow cl x).getD (leadOf x) 0 = 1 := by
    rw [timesRow_at]
    exact inv_one hc (by omega) b.2
  refine ⟨lead_eq (by rw [e]; decide) fun j hj => ?_, e⟩
  rw [timesRow_at, before_lead hj, Int.mul_zero]
  simp
theorem times_back (hc : cl ∈ clocks) (o : RowOk cl n x) (h : leadOf x < n) : mulM cl (x.getD (leadOf x) 0) (timesRow cl x) = x := by
  have c3 := clocks_3 hc
  have ne := lead_ne (xs := x) (by rw [o.1]; exact h)
  have b := dig_gd o.2 (by omega) (leadOf x)
  have e := inv_one hc (v := x.getD (leadOf x) 0) (by omega) b.2
  refine row_ext' (by unfold mulM; rw [List.length_map]; unfold timesRow; rw [List.length_map]) fun k hk => ?_
  have hk2 : k < (timesRow cl x).length := by unfold mulM at hk; rw [List.length_map] at hk; exact hk
  unfold mulM
  rw [List.getD_eq_getElem?_getD, List.getElem?_map, gd_lt hk2]
  show (x.getD (leadOf x) 0 * (timesRow cl x).getD k 0) % cl = x.getD k 0
  rw [timesRow_at, Int.mul_emod, Int.emod_emod, ← Int.mul_emod, ← Int.mul_assoc, Int.mul_comm (x.getD (leadOf x) 0), Int.mul_emod, e, Int.one_mul, Int.emod_emod]
  exact em_of (dig_gd o.2 (by omega) k)
/-- what leading rows are of given ones -/
structure LdS (cl : Int) (n : Nat) (ls : List (Nat × List Int)) (rs : List (List Int)) : Prop where
  I : LdI cl n ls
  to : ∀ l ∈ ls, Spn cl n rs l.2
  from_ : ∀ r ∈ rs, Spn cl n (rowsL ls) r
theorem putL_new {a : Nat} (h : ∀ l ∈ ls, l.1 ≠ a) : putL ls a r = ls ++ [(a, r)] := by
  unfold putL
  rw [if_neg]
  intro e
  obtain ⟨l, m, q⟩ := List.any_eq_true.mp e
  exact h l m (of_decide_eq_true q)
theorem ld_step (hc : cl ∈ clocks) (S : LdS cl n ls rs) (os : RowsOk cl n rs) (ox : RowOk cl n x) : LdS cl n (ldOne cl n ls x) (rs ++ [x]) := by
  have c3 := clocks_3 hc
  have h0 : 0 < cl := by omega
  have oss : RowsOk cl n (rs ++ [x]) := fun y m => by
    rcases List.mem_append.mp m with m | m
    · exact os y m
    · rw [List.mem_singleton.mp m]; exact ox
  have up : ∀ l ∈ ls, Spn cl n (rs ++ [x]) l.2 := fun l m => (S.to l m).sub fun r mr => List.mem_append_left _ mr
  have xin : Spn cl n (rs ++ [x]) x := .of h0 oss (List.mem_append_right _ (List.mem_singleton.mpr rfl))
  have oL := left_M h0 S.I.ok ox
  have okL : RowOk cl n (leftOf cl ls x) := by rw [oL]; exact clrM_ok h0 S.I.ok ox
  have z : ∀ l ∈ ls, (leftOf cl ls x).getD l.1 0 = 0 := by rw [oL]; exact S.I.zero h0 ox
  have inn : Spn cl n (rs ++ [x]) (leftOf cl ls x) := by rw [oL]; exact clrM_in h0 oss up xin
  rw [ldOne_eq]
  by_cases hl : leadOf (leftOf cl ls x) < n
  · rw [if_pos hl]
    have new : ∀ l ∈ ls, l.1 ≠ leadOf (leftOf cl ls x) := fun l m e => by
      have w := z l m
      rw [e] at w
      exact lead_ne (by rw [okL.1]; exact hl) w
    obtain ⟨t1, t2⟩ := times_lead hc okL hl
    have tok : RowOk cl n (timesRow cl (leftOf cl ls x)) := by
      obtain ⟨a, b⟩ := times_ok (cl := cl) (left := leftOf cl ls x) c3.1
      exact ⟨by rw [a, okL.1], b⟩
    have okn : LdOk cl n (ls ++ [(leadOf (leftOf cl ls x), timesRow cl (leftOf cl ls x))]) := fun l m => by
      rcases List.mem_append.mp m with m | m
      · exact S.I.ok l m
      · rw [List.mem_singleton.mp m]; exact ⟨hl, tok⟩
    rw [putL_new new]
    refine ⟨⟨okn, fun l m => ?_, ?_⟩, fun l m => ?_, fun r m => ?_⟩
    · rcases List.mem_append.mp m with m | m
      · exact S.I.one l m
      · rw [List.mem_singleton.mp m]; exact ⟨t1, t2⟩
    · refine List.pairwise_append.mpr ⟨S.I.clr, List.pairwise_singleton _ _, fun l m k mk => ?_⟩
      rw [List.mem_singleton.mp mk]
      show (timesRow cl (leftOf cl ls x)).getD l.1 0 = 0
      rw [timesRow_at, z l m, Int.mul_zero]
      simp
    · rcases List.mem_append.mp m with m | m
      · exact up l m
      · rw [List.mem_singleton.mp m]
        show Spn cl n (rs ++ [x]) (timesRow cl (leftOf cl ls x))
        rw [timesRow_M]
        exact inn.mul h0 oss _
    · have oN := rowsL_ok okn
      have ol : ∀ l ∈ ls, Spn cl n (rowsL (ls ++ [(leadOf (leftOf cl ls x), timesRow cl (leftOf cl ls x))])) l.2 := fun l m => .of h0 oN (rowsL_mem (List.mem_append_left _ m))
      rcases List.mem_append.mp m with m | m
      · exact (S.from_ r m).sub fun y my => by
          unfold rowsL at my ⊢
          rw [List.map_append]
          exact List.mem_append_left _ my
      · rw [List.mem_singleton.mp m]
        refine clrM_back h0 oN S.I.ok ox ol ?_
        rw [← oL]
        have w := Spn.mul h0 oN (.of h0 oN (rowsL_mem (List.mem_append_right ls (List.mem_singleton.mpr rfl)))) ((leftOf cl ls x).getD (leadOf (leftOf cl ls x)) 0)
        rw [times_back hc okL hl] at w
        exact w
  · rw [if_neg hl]
    have oN := rowsL_ok S.I.ok
    refine ⟨S.I, up, fun r m => ?_⟩
    rcases List.mem_append.mp m with m | m
    · exact S.from_ r m
    · rw [List.mem_singleton.mp m]
      refine clrM_back h0 oN S.I.ok ox (fun l ml => .of h0 oN (rowsL_mem ml)) ?_
      rw [← oL]
      have e : leadOf (leftOf cl ls x) = (leftOf cl ls x).length := by
        have := leadOf_le (leftOf cl ls x)
        rw [okL.1] at this ⊢
        omega
      rw [full_zero e, okL.1]
      exact .zero
theorem ld_fold (hc : cl ∈ clocks) : ∀ {us rs : List (List Int)} {ls : List (Nat × List Int)}, LdS cl n ls rs → RowsOk cl n rs → RowsOk cl n us → LdS cl n (us.foldl (ldOne cl n) ls) (rs ++ us)
  | [], rs, ls, S, _, _ => by rw [List.append_nil]; exact S
  | u :: us, rs, ls, S, o, ou => by
    have w := ld_fold hc (us := us) (ld_step hc S o (ou u (List.mem_cons_self ..))) (fun y m => by
      rcases List.mem_append.mp m with m | m
      · exact o y m
      · rw [List.mem_singleton.mp m]; exact ou u (List.mem_cons_self ..)) fun y m => ou y (List.mem_cons_of_mem _ m)
    rw [List.append_assoc] at w
    exact w
theorem leading_S (hc : cl ∈ clocks) (o : RowsOk cl n rs) : LdS cl n (leading cl n rs) rs := by
  have w := ld_fold hc (us := rs) (rs := []) (ls := []) (cl := cl) (n := n) ⟨⟨(fun _ m => nomatch m), (fun _ m => nomatch m), .nil⟩, (fun _ m => nomatch m), (fun _ m => nomatch m)⟩ (fun _ m => nomatch m) o
  rw [List.nil_append] at w
  exact w
theorem LdI.nodup (i : LdI cl n ls) : (ls.map (·.1)).Nodup := by
  refine List.pairwise_map.mpr (i.clr.imp_of_mem fun {a b} _ mb e e2 => ?_)
  have := (i.one b mb).2
  rw [← e2, e] at this
  cases this
theorem findL_mem {a : Nat} : ∀ {ls : List (Nat × List Int)}, a ∈ ls.map (·.1) → (a, findL ls a) ∈ ls
  | [], m => nomatch m
  | l :: ls, m => by
    by_cases h : l.1 = a
    · have e : findL (l :: ls) a = l.2 := by
        unfold findL
        rw [List.find?_cons_of_pos (by simp [h])]
        rfl
      rw [e, ← h]
      exact List.mem_cons_self ..
    · have m2 : a ∈ ls.map (·.1) := by
        rcases List.mem_cons.mp m with z | z
        · exact absurd z.symm h
        · exact z
      have e : findL (l :: ls) a = findL ls a := by
        unfold findL
        rw [List.find?_cons_of_neg (by simp [h])]
      rw [e]
      exact List.mem_cons_of_mem _ (findL_mem m2)
theorem findL_of {l : Nat × List Int} : ∀ {ls : List (Nat × List Int)}, (ls.map (·.1)).Nodup → l ∈ ls → findL ls l.1 = l.2
  | [], _, m => nomatch m
  | k :: ls, nd, m => by
    obtain ⟨n1, n2⟩ := List.nodup_cons.mp (show (k.1 :: ls.map (·.1)).Nodup from nd)
    rcases List.mem_cons.mp m with e | m
    · subst e
      unfold findL
      rw [List.find?_cons_of_pos (by simp)]
      rfl
    · have ne : k.1 ≠ l.1 := fun e => n1 (by rw [e]; exact List.mem_map.mpr ⟨l, m, rfl⟩)
      have e : findL (k :: ls) l.1 = findL ls l.1 := by
        unfold findL
        rw [List.find?_cons_of_neg (by simp [ne])]
      rw [e]
      exact findL_of n2 m
/-- rows cleared so far: leads descending, each row 0 where the others lead -/
structure BkI (cl : Int) (n : Nat) (ls : List (Nat × List Int)) (cs : List (Nat × List Int)) : Prop where
  I : LdI cl n cs
  to : ∀ l ∈ cs, Spn cl n (rowsL ls) l.2
  from_ : ∀ l ∈ ls, l.1 ∈ cs.map (·.1) → Spn cl n (rowsL cs) l.2
  desc : cs.Pairwise (fun a b => b.1 < a.1)
theorem bk_step {a : Nat} {cs : List (Nat × List Int)} (hc : cl ∈ clocks) (L : LdI cl n ls) (B : BkI cl n ls cs) (ma : a ∈ ls.map (·.1)) (lt : ∀ l ∈ cs, a < l.1) :
    BkI cl n ls (cs ++ [(a, leftOf cl cs (findL ls a))]) ∧ putL cs a (leftOf cl cs (findL ls a)) = cs ++ [(a, leftOf cl cs (findL ls a))] := by
  have c3 := clocks_3 hc
  have h0 : 0 < cl := by omega
  have fm := findL_mem ma
  have ox : RowOk cl n (findL ls a) := (L.ok _ fm).2
  have an : a < n := (L.ok _ fm).1
  have oL := left_M h0 B.I.ok ox
  have okL : RowOk cl n (leftOf cl cs (findL ls a)) := by rw [oL]; exact clrM_ok h0 B.I.ok ox
  have z : ∀ l ∈ cs, (leftOf cl cs (findL ls a)).getD l.1 0 = 0 := by rw [oL]; exact B.I.zero h0 ox
  have low : ∀ k, k ≤ a → ∀ l ∈ cs, l.2.getD k 0 = 0 := fun k hk l m => before_lead (by rw [(B.I.one l m).1]; have := lt l m; omega)
  have keep : ∀ k, k ≤ a → (leftOf cl cs (findL ls a)).getD k 0 = (findL ls a).getD k 0 := fun k hk => by rw [oL]; exact clrM_keep h0 B.I.ok ox (low k hk)
  have one := L.one _ fm
  have e1 : (leftOf cl cs (findL ls a)).getD a 0 = 1 := by rw [keep a (Nat.le_refl _)]; exact one.2
  have e2 : leadOf (leftOf cl cs (findL ls a)) = a := lead_eq (by rw [e1]; decide) fun j hj => by
    rw [keep j (by omega)]
    exact before_lead (by rw [one.1]; exact hj)
  have okn : LdOk cl n (cs ++ [(a, leftOf cl cs (findL ls a))]) := fun l m => by
    rcases List.mem_append.mp m with m | m
    · exact B.I.ok l m
    · rw [List.mem_singleton.mp m]; exact ⟨an, okL⟩
  refine ⟨⟨⟨okn, fun l m => ?_, ?_⟩, fun l m => ?_, fun l m mm => ?_, ?_⟩, putL_new fun l m e => by have := lt l m; omega⟩
  · rcases List.mem_append.mp m with m | m
    · exact B.I.one l m
    · rw [List.mem_singleton.mp m]; exact ⟨e2, e1⟩
  · refine List.pairwise_append.mpr ⟨B.I.clr, List.pairwise_singleton _ _, fun l m k mk => ?_⟩
    rw [List.mem_singleton.mp mk]
    exact z l m
  · rcases List.mem_append.mp m with m | m
    · exact B.to l m
    · rw [List.mem_singleton.mp m]
      show Spn cl n (rowsL ls) (leftOf cl cs (findL ls a))
      rw [oL]
      exact clrM_in h0 (rowsL_ok L.ok) B.to (.of h0 (rowsL_ok L.ok) (rowsL_mem fm))
  · have oN := rowsL_ok okn
    by_cases e : l.1 = a
    · have el : l.2 = findL ls a := by rw [← e]; exact (findL_of L.nodup m).symm
      rw [el]
      refine clrM_back h0 oN B.I.ok ox (fun k mk => .of h0 oN (rowsL_mem (List.mem_append_left _ mk))) ?_
      rw [← oL]
      exact .of h0 oN (rowsL_mem (List.mem_append_right _ (List.mem_singleton.mpr rfl)))
    · have m2 : l.1 ∈ cs.map (·.1) := by
        rw [List.map_append] at mm
        rcases List.mem_append.mp mm with q | q
        · exact q
        · exact absurd (List.mem_singleton.mp q) e
      exact (B.from_ l m m2).sub fun y my => by
        unfold rowsL at my ⊢
        rw [List.map_append]
        exact List.mem_append_left _ my
  · refine List.pairwise_append.mpr ⟨B.desc, List.pairwise_singleton _ _, fun l m k mk => ?_⟩
    rw [List.mem_singleton.mp mk]
    exact lt l m
theorem bk_fold (hc : cl ∈ clocks) (L : LdI cl n ls) : ∀ {as : List Nat} {cs : List (Nat × List Int)}, BkI cl n ls cs → (∀ a ∈ as, a ∈ ls.map (·.1)) → as.Pairwise (fun a b => b < a) → (∀ a ∈ as, ∀ l ∈ cs, a < l.1) →
    ∃ cs', as.foldl (backOne cl ls) (cs, rowsL cs) = (cs', rowsL cs') ∧ BkI cl n ls cs' ∧ cs'.map (·.1) = cs.map (·.1) ++ as
  | [], cs, B, _, _, _ => ⟨cs, rfl, B, by rw [List.append_nil]⟩
  | a :: as, cs, B, m, d, lt => by
    obtain ⟨d1, d2⟩ := List.pairwise_cons.mp d
    obtain ⟨B2, e2⟩ := bk_step hc L B (m a (List.mem_cons_self ..)) (lt a (List.mem_cons_self ..))
    obtain ⟨cs', h1, h2, h3⟩ := bk_fold hc L (as := as) B2 (fun b mb => m b (List.mem_cons_of_mem _ mb)) d2 fun b mb l ml => by
      rcases List.mem_append.mp ml with ml | ml
      · exact lt b (List.mem_cons_of_mem _ mb) l ml
      · rw [List.mem_singleton.mp ml]; exact d1 b mb
    refine ⟨cs', ?_, h2, ?_⟩
    · rw [List.foldl_cons, backOne_row, e2]
      have e : rowsL cs ++ [leftOf cl cs (findL ls a)] = rowsL (cs ++ [(a, leftOf cl cs (findL ls a))]) := by unfold rowsL; rw [List.map_append]; rfl
      show as.foldl (backOne cl ls) (_, rowsL cs ++ [leftOf cl cs (findL ls a)]) = _
      rw [e]
      exact h1
    · rw [h3, List.map_append, List.append_assoc]
      rfl
theorem desc_strict {as : List Nat} (h : as.Pairwise (· ≥ ·)) (nd : as.Nodup) : as.Pairwise (fun a b => b < a) :=
  (h.and nd).imp fun {a b} w => by
    have h1 : b ≤ a := w.1
    have h2 : a ≠ b := w.2
    omega
/-- the program's least form is one, of the same space -/
theorem least_ok (hc : cl ∈ clocks) (o : RowsOk cl n rs) : LF cl n (leastForm cl n rs) ∧ (∀ r ∈ leastForm cl n rs, Spn cl n rs r) ∧ ∀ r ∈ rs, Spn cl n (leastForm cl n rs) r := by
  have c3 := clocks_3 hc
  have h0 : 0 < cl := by omega
  have S := leading_S hc o
  have pm := descend_perm ((leading cl n rs).map (·.1))
  have nd : (descend ((leading cl n rs).map (·.1))).Nodup := pm.nodup_iff.mpr S.I.nodup
  obtain ⟨cs, h1, B, h3⟩ := bk_fold hc S.I (as := descend ((leading cl n rs).map (·.1))) (cs := []) ⟨⟨(fun _ m => nomatch m), (fun _ m => nomatch m), .nil⟩, (fun _ m => nomatch m), (fun _ _ m => nomatch m), .nil⟩
    (fun a m => pm.mem_iff.mp m) (desc_strict (descend_desc _) nd) fun _ _ _ m => nomatch m
  have e : leastForm cl n rs = (rowsL cs).reverse := by
    unfold leastForm
    show ((descend ((leading cl n rs).map (·.1))).foldl (backOne cl (leading cl n rs)) ([], rowsL [])).2.reverse = _
    rw [h1]
  have oC := rowsL_ok B.I.ok
  have key : ∀ l ∈ cs, ∀ k ∈ cs, l.1 ≠ k.1 → k.2.getD l.1 0 = 0 := by
    have aux : ∀ {qs : List (Nat × List Int)}, (∀ l ∈ qs, leadOf l.2 = l.1) → qs.Pairwise (fun a b => b.2.getD a.1 0 = 0) → qs.Pairwise (fun a b => b.1 < a.1) → ∀ l ∈ qs, ∀ k ∈ qs, l.1 ≠ k.1 → k.2.getD l.1 0 = 0 := by
      intro qs
      induction qs with
      | nil => intro _ _ _ l m; cases m
      | cons q qs ih =>
        intro f c d l ml k mk ne
        obtain ⟨c1, c2⟩ := List.pairwise_cons.mp c
        obtain ⟨d1, d2⟩ := List.pairwise_cons.mp d
        rcases List.mem_cons.mp ml with el | ml' <;> rcases List.mem_cons.mp mk with ek | mk'
        · rw [el, ek] at ne; exact absurd rfl ne
        · rw [el]; exact c1 k mk'
        · rw [ek]
          refine before_lead ?_
          rw [f q (List.mem_cons_self ..)]
          exact d1 l ml'
        · exact ih (fun l m => f l (List.mem_cons_of_mem _ m)) c2 d2 l ml' k mk' ne
    exact aux (fun l m => (B.I.one l m).1) B.I.clr B.desc
  have mem : ∀ r, r ∈ leastForm cl n rs ↔ r ∈ rowsL cs := fun r => by rw [e]; exact List.mem_reverse
  refine ⟨⟨fun r m => oC r ((mem r).mp m), fun r m => ?_, ?_, fun r m s ms ne => ?_⟩, fun r m => ?_, fun r m => ?_⟩
  · obtain ⟨l, ml, rfl⟩ := List.mem_map.mp ((mem r).mp m)
    obtain ⟨o1, o2⟩ := B.I.one l ml
    rw [o1]
    exact ⟨(B.I.ok l ml).1, o2⟩
  · rw [e]
    refine List.pairwise_reverse.mpr (List.pairwise_map.mpr (B.desc.imp_of_mem fun {a b} ma mb h => ?_))
    rw [(B.I.one a ma).1, (B.I.one b mb).1]
    exact h
  · obtain ⟨l, ml, rfl⟩ := List.mem_map.mp ((mem r).mp m)
    obtain ⟨k, mk, rfl⟩ := List.mem_map.mp ((mem s).mp ms)
    rw [(B.I.one l ml).1]
    refine key l ml k mk fun eq => ne ?_
    have a := findL_of B.I.nodup ml
    have b := findL_of B.I.nodup mk
    rw [← a, ← b, eq]
  · obtain ⟨l, ml, rfl⟩ := List.mem_map.mp ((mem r).mp m)
    exact (B.to l ml).mono h0 (rowsL_ok S.I.ok) o fun s ms => by
      obtain ⟨k, mk, rfl⟩ := List.mem_map.mp ms
      exact S.to k mk
  · have oF : RowsOk cl n (leastForm cl n rs) := fun r m => oC r ((mem r).mp m)
    refine (S.from_ r m).mono h0 (rowsL_ok S.I.ok) oF fun s ms => ?_
    obtain ⟨k, mk, rfl⟩ := List.mem_map.mp ms
    refine (B.from_ k mk ?_).sub fun y my => (mem y).mpr my
    rw [h3]
    exact List.mem_append_right _ (pm.mem_iff.mpr (List.mem_map.mpr ⟨k, mk, rfl⟩))
/-- any least form of the same space is the program's -/
theorem least_is {ms : List (List Int)} (hc : cl ∈ clocks) (o : RowsOk cl n rs) (g : LF cl n ms) (f1 : ∀ r ∈ ms, Spn cl n rs r) (f2 : ∀ r ∈ rs, Spn cl n ms r) : leastForm cl n rs = ms := by
  have c3 := clocks_3 hc
  have h0 : 0 < cl := by omega
  obtain ⟨h, a, b⟩ := least_ok hc o
  exact h.one h0 g (fun r m => (a r m).mono h0 o g.ok f2) fun r m => (f1 r m).mono h0 o h.ok b
/-- two lists of rows give one space -/
theorem least_same (hc : cl ∈ clocks) (o : RowsOk cl n rs) (o2 : RowsOk cl n ss) (f1 : ∀ r ∈ rs, Spn cl n ss r) (f2 : ∀ r ∈ ss, Spn cl n rs r) : leastForm cl n rs = leastForm cl n ss := by
  have c3 := clocks_3 hc
  have h0 : 0 < cl := by omega
  obtain ⟨h, a, b⟩ := least_ok hc o2
  exact least_is hc o h (fun r m => (a r m).mono h0 o2 o f2) fun r m => (f1 r m).mono h0 o2 h.ok b
end
end Rp
namespace Rp
/-! ### a law's own clearing, column by column -/
section
variable {cl t u b : Int} {n c s : Nat} {x y r first : List Int} {rs ss left found : List (List Int)}
def lessR (cl : Int) (c : Nat) (lead row : List Int) : List Int := adM cl (-(row.getD c 0)) row lead
structure OwI (cl : Int) (n c : Nat) (rs left found : List (List Int)) : Prop where
  okL : RowsOk cl n left
  zl : ∀ r ∈ left, ∀ k, k < c → r.getD k 0 = 0
  lf : LF cl n found
  lt : ∀ r ∈ found, leadOf r < c
  to : ∀ r ∈ left ++ found, Spn cl n rs r
  from_ : ∀ r ∈ rs, Spn cl n (left ++ found) r
theorem LF.nil : LF cl n [] := ⟨(fun _ m => nomatch m), (fun _ m => nomatch m), .nil, (fun _ m => nomatch m)⟩
theorem own_start (h : 0 < cl) (o : RowsOk cl n rs) : OwI cl n 0 rs rs [] :=
  ⟨o, (fun _ _ k hk => by omega), .nil, (fun _ m => nomatch m), (fun r m => by rw [List.append_nil] at m; exact .of h o m), fun r m => by rw [List.append_nil]; exact .of h o m⟩
theorem own_none (I : OwI cl n c rs left found) (z : ∀ r ∈ left, r.getD c 0 = 0) : OwI cl n (c + 1) rs left found :=
  ⟨I.okL, (fun r m k hk => by
    by_cases e : k = c
    · rw [e]; exact z r m
    · exact I.zl r m k (by omega)), I.lf, (fun r m => by have := I.lt r m; omega), I.to, I.from_⟩
theorem mem_erase {α : Type} {x : α} : ∀ {l : List α} {s : Nat} {y : α}, l[s]? = some x → y ∈ l → y = x ∨ y ∈ l.eraseIdx s
  | [], _, _, e, _ => by cases e
  | a :: l, 0, y, e, m => by
    cases e
    rcases List.mem_cons.mp m with e | m
    · exact .inl e
    · exact .inr m
  | a :: l, s + 1, y, e, m => by
    rcases List.mem_cons.mp m with e2 | m
    · exact .inr (by rw [e2]; exact List.mem_cons_self ..)
    · rcases mem_erase (s := s) e m with z | z
      · exact .inl z
      · exact .inr (List.mem_cons_of_mem _ z)
theorem erase_mem {α : Type} {y : α} {l : List α} {s : Nat} (m : y ∈ l.eraseIdx s) : y ∈ l := List.mem_of_mem_eraseIdx m
theorem mulM_at (k : Nat) : (mulM cl t x).getD k 0 = (t * x.getD k 0) % cl := by
  unfold mulM
  by_cases hk : k < x.length
  · rw [List.getD_eq_getElem?_getD, List.getElem?_map, gd_lt hk]
    rfl
  · rw [gd_ge (xs := x) (by omega), gd_ge (by rw [List.length_map]; omega)]
    simp
theorem mulM_len : (mulM cl t x).length = x.length := List.length_map ..
theorem mulM_ok (h : 0 < cl) (o : RowOk cl n x) : RowOk cl n (mulM cl t x) := ⟨by rw [mulM_len, o.1], fun y m => by
  unfold mulM at m
  obtain ⟨z, _, rfl⟩ := List.mem_map.mp m
  exact ⟨Int.emod_nonneg _ (by omega), Int.emod_lt_of_pos _ h⟩⟩
theorem mul_back (h : 0 < cl) (o : RowOk cl n x) (e : (b * u) % cl = 1) : mulM cl u (mulM cl b x) = x := by
  refine row_ext' (by rw [mulM_len, mulM_len]) fun k _ => ?_
  rw [mulM_at, mulM_at, Int.mul_emod, Int.emod_emod, ← Int.mul_emod, ← Int.mul_assoc, Int.mul_comm u, Int.mul_emod, e, Int.one_mul, Int.emod_emod]
  exact em_of (dig_gd o.2 h k)
theorem own_step (h1 : 1 < cl) (I : OwI cl n c rs left found) (os : RowsOk cl n rs) (cn : c < n) (e : left[s]? = some first) (e1 : (b * first.getD c 0) % cl = 1) :
    OwI cl n (c + 1) rs ((left.eraseIdx s).map (lessR cl c (mulM cl b first))) (found.map (lessR cl c (mulM cl b first)) ++ [mulM cl b first]) := by
  have h0 : 0 < cl := by omega
  have mf : first ∈ left := List.mem_of_getElem? e
  have of_ := I.okL first mf
  obtain ⟨lead, el⟩ : ∃ l, l = mulM cl b first := ⟨_, rfl⟩
  have ol : RowOk cl n lead := by rw [el]; exact mulM_ok h0 of_
  have lz : ∀ k, k < c → lead.getD k 0 = 0 := fun k hk => by rw [el, mulM_at, I.zl first mf k hk, Int.mul_zero]; simp
  have l1 : lead.getD c 0 = 1 := by rw [el, mulM_at]; exact e1
  have ll : leadOf lead = c := lead_eq (by rw [l1]; decide) lz
  rw [← el]
  have at_ : ∀ {y : List Int}, RowOk cl n y → ∀ k, (lessR cl c lead y).getD k 0 = (y.getD k 0 + -(y.getD c 0) * lead.getD k 0) % cl := fun {y} oy k => adM_at (by rw [oy.1, ol.1]) k
  have low : ∀ {y : List Int}, RowOk cl n y → ∀ k, k < c → (lessR cl c lead y).getD k 0 = y.getD k 0 := fun {y} oy k hk => by
    rw [at_ oy, lz k hk, Int.mul_zero, Int.add_zero]
    exact em_of (dig_gd oy.2 h0 k)
  have atc : ∀ {y : List Int}, RowOk cl n y → (lessR cl c lead y).getD c 0 = 0 := fun {y} oy => by
    rw [at_ oy, l1, Int.mul_one, show y.getD c 0 + -(y.getD c 0) = 0 by omega]
    simp
  have okr : ∀ {y : List Int}, RowOk cl n y → RowOk cl n (lessR cl c lead y) := fun {y} oy => adM_ok h0 oy ol
  have fl : ∀ f ∈ found, leadOf (lessR cl c lead f) = leadOf f := fun f m => by
    have lt := I.lt f m
    refine lead_eq (by rw [low (I.lf.ok f m) _ lt, (I.lf.lead f m).2]; decide) fun j hj => ?_
    rw [low (I.lf.ok f m) j (by omega)]
    exact before_lead hj
  have inn : Spn cl n rs lead := by
    rw [el]
    exact (I.to first (List.mem_append_left _ mf)).mul h0 os b
  have oN : RowsOk cl n ((left.eraseIdx s).map (lessR cl c lead) ++ (found.map (lessR cl c lead) ++ [lead])) := fun z m => by
    rcases List.mem_append.mp m with m | m
    · obtain ⟨y, my, rfl⟩ := List.mem_map.mp m
      exact okr (I.okL y (erase_mem my))
    · rcases List.mem_append.mp m with m | m
      · obtain ⟨y, my, rfl⟩ := List.mem_map.mp m
        exact okr (I.lf.ok y my)
      · rw [List.mem_singleton.mp m]; exact ol
  have lin : Spn cl n ((left.eraseIdx s).map (lessR cl c lead) ++ (found.map (lessR cl c lead) ++ [lead])) lead := .of h0 oN (List.mem_append_right _ (List.mem_append_right _ (List.mem_singleton.mpr rfl)))
  have bk : ∀ {y : List Int}, RowOk cl n y → Spn cl n ((left.eraseIdx s).map (lessR cl c lead) ++ (found.map (lessR cl c lead) ++ [lead])) (lessR cl c lead y) → Spn cl n ((left.eraseIdx s).map (lessR cl c lead) ++ (found.map (lessR cl c lead) ++ [lead])) y := fun {y} oy a => by
    have w := a.comb h0 oN lin (-(-(y.getD c 0)))
    rwa [show adM cl (-(-(y.getD c 0))) (lessR cl c lead y) lead = y from adM_back h0 oy ol] at w
  refine ⟨fun z m => oN z (List.mem_append_left _ m), fun z m k hk => ?_, ⟨fun z m => oN z (List.mem_append_right _ m), fun z m => ?_, ?_, fun z m w mw ne => ?_⟩, fun z m => ?_, fun z m => ?_, fun z m => ?_⟩
  · obtain ⟨y, my, rfl⟩ := List.mem_map.mp m
    have oy := I.okL y (erase_mem my)
    by_cases ek : k = c
    · rw [ek]; exact atc oy
    · rw [low oy k (by omega)]
      exact I.zl y (erase_mem my) k (by omega)
  · rcases List.mem_append.mp m with m | m
    · obtain ⟨f, mf2, rfl⟩ := List.mem_map.mp m
      have lt := I.lt f mf2
      rw [fl f mf2]
      exact ⟨by omega, by rw [low (I.lf.ok f mf2) _ lt]; exact (I.lf.lead f mf2).2⟩
    · rw [List.mem_singleton.mp m, ll]
      exact ⟨cn, l1⟩
  · refine List.pairwise_append.mpr ⟨List.pairwise_map.mpr (I.lf.asc.imp_of_mem fun {p q} mp mq h => by rw [fl p mp, fl q mq]; exact h), List.pairwise_singleton _ _, fun z m w mw => ?_⟩
    obtain ⟨f, mf2, rfl⟩ := List.mem_map.mp m
    rw [List.mem_singleton.mp mw, ll, fl f mf2]
    exact I.lt f mf2
  · rcases List.mem_append.mp m with m | m
    · obtain ⟨f, mf2, rfl⟩ := List.mem_map.mp m
      have lt := I.lt f mf2
      rw [fl f mf2]
      rcases List.mem_append.mp mw with mw | mw
      · obtain ⟨g, mg, rfl⟩ := List.mem_map.mp mw
        rw [low (I.lf.ok g mg) _ lt]
        exact I.lf.clr f mf2 g mg fun eq => ne (by rw [eq])
      · rw [List.mem_singleton.mp mw]
        exact lz _ lt
    · have ez := List.mem_singleton.mp m
      rw [ez, ll]
      rcases List.mem_append.mp mw with mw | mw
      · obtain ⟨g, mg, rfl⟩ := List.mem_map.mp mw
        exact atc (I.lf.ok g mg)
      · exact absurd (ez.trans (List.mem_singleton.mp mw).symm) ne
  · rcases List.mem_append.mp m with m | m
    · obtain ⟨f, mf2, rfl⟩ := List.mem_map.mp m
      have := I.lt f mf2
      rw [fl f mf2]
      omega
    · rw [List.mem_singleton.mp m, ll]
      omega
  · have cases_ : (∃ y, RowOk cl n y ∧ Spn cl n rs y ∧ z = lessR cl c lead y) ∨ z = lead := by
      rcases List.mem_append.mp m with m | m
      · obtain ⟨y, my, rfl⟩ := List.mem_map.mp m
        exact .inl ⟨y, I.okL y (erase_mem my), I.to y (List.mem_append_left _ (erase_mem my)), rfl⟩
      · rcases List.mem_append.mp m with m | m
        · obtain ⟨y, my, rfl⟩ := List.mem_map.mp m
          exact .inl ⟨y, I.lf.ok y my, I.to y (List.mem_append_right _ my), rfl⟩
        · exact .inr (List.mem_singleton.mp m)
    rcases cases_ with ⟨y, oy, sy, rfl⟩ | rfl
    · exact sy.comb h0 os inn _
    · exact inn
  · refine (I.from_ z m).mono h0 (fun w mw => ?_) oN fun w mw => ?_
    · rcases List.mem_append.mp mw with mw | mw
      · exact I.okL w mw
      · exact I.lf.ok w mw
    · rcases List.mem_append.mp mw with mw | mw
      · rcases mem_erase e mw with eq | me
        · rw [eq, ← mul_back h0 of_ e1, ← el]
          exact lin.mul h0 oN _
        · exact bk (I.okL w mw) (.of h0 oN (List.mem_append_left _ (List.mem_map.mpr ⟨w, me, rfl⟩)))
      · exact bk (I.lf.ok w mw) (.of h0 oN (List.mem_append_right _ (List.mem_append_left _ (List.mem_map.mpr ⟨w, mw, rfl⟩))))
theorem own_end (hc : cl ∈ clocks) (I : OwI cl n n rs left found) (os : RowsOk cl n rs) : leastForm cl n rs = found := by
  have c3 := clocks_3 hc
  have h0 : 0 < cl := by omega
  refine least_is hc os I.lf (fun r m => I.to r (List.mem_append_right _ m)) fun r m => ?_
  refine (I.from_ r m).mono h0 (fun w mw => ?_) I.lf.ok fun w mw => ?_
  · rcases List.mem_append.mp mw with mw | mw
    · exact I.okL w mw
    · exact I.lf.ok w mw
  · rcases List.mem_append.mp mw with mw | mw
    · have ow := I.okL w mw
      have e : w = zeroR n := row_ext' (by rw [ow.1]; exact (List.length_replicate ..).symm) fun k hk => by
        rw [zeroR_at]
        exact I.zl w mw k (by rw [← ow.1]; exact hk)
      rw [e]
      exact .zero
    · exact .of h0 I.lf.ok mw
/-- no rows, no row in the least form -/
theorem least_nil (hc : cl ∈ clocks) : leastForm cl n [] = [] := least_is hc (fun _ m => nomatch m) .nil (fun _ m => nomatch m) fun _ m => nomatch m
end
end Rp
namespace Rp
open PySem PySem.Spec PyProof.Rows L2 LamX RZ
/-! ### comprehensions: each item gives a value of which R tells -/
section
variable {J : It} {n : Nat} {G : Hp → Prop} {Y : Nat → Hp → V → Hp → Prop} {g : TG} {te : TE} {vs : List Nat} {σ : L2.St} {H1 : Hp} {D : Addr} {Qd : Hp → Prop}
/-- what is put behind the list at D -/
theorem put_but {H : Hp} {o : HO} : ∀ b u, b ≠ D → H b = some u → upd H D o b = some u := fun b u nb e => by rw [upd_ne nb]; exact e
/-- nothing but new objects -/
theorem lc_new (W : Walk J n G Y) (R : Nat → V → Hp → Prop) (stab : ∀ i y H H', (∀ b o, b ≠ D → H b = some o → H' b = some o) → R i y H → R i y H') (hG : ∀ H, Same H1 H → G H) (hD : H1 D = none) (hn : n < sizeLine)
    (step : ∀ i x H H', i < n → Same H1 H → (∃ xs, H D = some (.lst xs)) → Y i H x H' → ∀ Qn : VK, (∀ y H4, Same H H4 → R i y H4 → Qn y H4) → g x (wipe σ vs) H' fun σ2 H2 => wipe σ2 vs = wipe σ vs ∧ te σ2 H2 Qn)
    (done : ∀ H ys, Same H1 H → H D = some (.lst ys) → ys.length = n → (∀ i y, ys[i]? = some y → R i y H) → Qd H) :
    ∃ W : Nat → Nat → Hp → Prop, (∃ m, W 0 m (upd H1 D (.lst []))) ∧ ∀ (i m : Nat) (H : Hp), W i m H → J.stop i H ∧ Qd H ∨ J.go i H ∧ ∃ Nx : Hp → Prop, (∀ H', Nx H' → ∃ m', m' < m ∧ W (i + 1) m' H') ∧
      ∀ (x : V) (H' : Hp), J.yld i H x H' → g x (wipe σ vs) H' fun σ2 H2 => wipe σ2 vs = wipe σ vs ∧ tYes σ2 H2 fun b H3 => if b = true then te σ2 H3 fun y H4 => ∃ acc, H4 D = some (.lst acc) ∧ acc.length < sizeLine ∧ Nx (upd H4 D (.lst (acc ++ [y]))) else Nx H3 := by
  refine lc_it W (tt := tYes) (fun i H => Same H1 H ∧ ∃ ys, H D = some (.lst ys) ∧ ys.length = i ∧ ∀ j y, ys[j]? = some y → R j y H) ⟨same_neu (Same.refl _) hD, [], upd_same, rfl, fun j y e => by simp at e⟩ (fun i H _ h => hG H h.1) ?_ ?_
  · rintro i x H H' hi ⟨s, ys, eD, ly, hy⟩ hY
    refine step i x H H' hi s ⟨_, eD⟩ hY _ fun y H4 s4 ry => ?_
    have e4 := s4 _ _ eD
    refine ⟨ys, e4, by omega, fun b o e => ?_, ys ++ [y], upd_same, by rw [List.length_append, ly]; rfl, fun j z ej => ?_⟩
    · rw [upd_ne (ne_of_none e hD)]
      exact s4 b o (s b o e)
    · by_cases hj : j < ys.length
      · rw [List.getElem?_append_left hj] at ej
        exact stab _ _ _ _ put_but (stab _ _ H H4 (fun b o _ e => s4 b o e) (hy j z ej))
      · rw [List.getElem?_append_right (by omega)] at ej
        have : j = i := by
          have := (List.getElem?_eq_some_iff.mp ej).1
          simp at this
          omega
        subst this
        rw [show j - ys.length = 0 by omega] at ej
        have e := Option.some.inj ej
        rw [← e]
        exact stab _ _ _ _ put_but ry
  · rintro H ⟨s, ys, eD, ly, hy⟩
    exact done H ys s eD ly hy
/-- items that draw, m times at most each -/
theorem lc_drw {q c : Addr} {ns : List Int} {lap m : Nat} (W : Walk J n G Y) (R : Nat → V → Hp → Prop) (stab : ∀ i y H H', (∀ b o, b ≠ q → b ≠ D → H b = some o → H' b = some o) → R i y H → R i y H') (hG : ∀ H, But q H1 H → G H) (hD : H1 D = none) (hn : n < sizeLine)
    (Dr1 : Dr q c ns lap H1)
    (step : ∀ i x H H' l, i < n → But q H1 H → D ≠ q → (∃ xs, H D = some (.lst xs)) → l ≤ lap + m * i → Dr q c ns l H → Y i H x H' → ∀ Qn : VK, (∀ y H4 l', l' ≤ l + m → Dr q c ns l' H4 → But q H H4 → R i y H4 → Qn y H4) → g x (wipe σ vs) H' fun σ2 H2 => wipe σ2 vs = wipe σ vs ∧ te σ2 H2 Qn)
    (done : ∀ H ys l, l ≤ lap + m * n → Dr q c ns l H → But q H1 H → D ≠ q → H D = some (.lst ys) → ys.length = n → (∀ i y, ys[i]? = some y → R i y H) → Qd H) :
    ∃ W : Nat → Nat → Hp → Prop, (∃ m, W 0 m (upd H1 D (.lst []))) ∧ ∀ (i m : Nat) (H : Hp), W i m H → J.stop i H ∧ Qd H ∨ J.go i H ∧ ∃ Nx : Hp → Prop, (∀ H', Nx H' → ∃ m', m' < m ∧ W (i + 1) m' H') ∧
      ∀ (x : V) (H' : Hp), J.yld i H x H' → g x (wipe σ vs) H' fun σ2 H2 => wipe σ2 vs = wipe σ vs ∧ tYes σ2 H2 fun b H3 => if b = true then te σ2 H3 fun y H4 => ∃ acc, H4 D = some (.lst acc) ∧ acc.length < sizeLine ∧ Nx (upd H4 D (.lst (acc ++ [y]))) else Nx H3 := by
  have nDq : D ≠ q := dr_neq Dr1 hD
  have nDc : D ≠ c := (ne_of_none Dr1.cells hD).symm
  refine lc_it W (tt := tYes) (fun i H => But q H1 H ∧ ∃ ys l, l ≤ lap + m * i ∧ Dr q c ns l H ∧ H D = some (.lst ys) ∧ ys.length = i ∧ ∀ j y, ys[j]? = some y → R j y H) ⟨(But.refl q H1).neu hD, [], lap, Nat.le_refl _, Dr1.neu hD, upd_same, rfl, fun j y e => by simp at e⟩ (fun i H _ h => hG H h.1) ?_ ?_
  · rintro i x H H' hi ⟨s, ys, l, hl, dr, eD, ly, hy⟩ hY
    refine step i x H H' l hi s nDq ⟨_, eD⟩ hl dr hY _ fun y H4 l' hl' dr' b4 ry => ?_
    have e4 := b4 _ _ nDq eD
    have sk : ∀ {H5 H6 : Hp}, (∀ b o, b ≠ D → H5 b = some o → H6 b = some o) → ∀ b o, b ≠ q → b ≠ D → H5 b = some o → H6 b = some o := fun f b o _ nd e => f b o nd e
    refine ⟨ys, e4, by omega, fun b o nb e => ?_, ys ++ [y], l', by rw [Nat.mul_succ]; omega, ?_, upd_same, by rw [List.length_append, ly]; rfl, fun j z ej => ?_⟩
    · rw [upd_ne (ne_of_none e hD)]
      exact b4 b o nb (s b o nb e)
    · obtain ⟨ne, ⟨rest, hb⟩, hc, hlen⟩ := dr'
      exact ⟨ne, ⟨rest, by rw [upd_ne nDq.symm]; exact hb⟩, by rw [upd_ne nDc.symm]; exact hc, hlen⟩
    · by_cases hj : j < ys.length
      · rw [List.getElem?_append_left hj] at ej
        exact stab _ _ _ _ (sk put_but) (stab _ _ H H4 (fun b o nq _ e => b4 b o nq e) (hy j z ej))
      · rw [List.getElem?_append_right (by omega)] at ej
        have : j = i := by
          have := (List.getElem?_eq_some_iff.mp ej).1
          simp at this
          omega
        subst this
        rw [show j - ys.length = 0 by omega] at ej
        have e := Option.some.inj ej
        rw [← e]
        exact stab _ _ _ _ (sk put_but) ry
  · rintro H ⟨s, ys, l, hl, dr, eD, ly, hy⟩
    exact done H ys l hl dr s nDq eD ly hy
end
/-- values that are ints -/
theorem ints_vals {P : Nat → Int → Prop} : ∀ {ys : List V}, (∀ i y, ys[i]? = some y → ∃ v : Int, y = .int v ∧ P i v) → ∃ xs : List Int, ys = xs.map V.int ∧ ∀ i v, xs[i]? = some v → P i v
  | [], _ => ⟨[], rfl, fun i v e => by simp at e⟩
  | y :: ys, h => by
    obtain ⟨v, rfl, pv⟩ := h 0 y rfl
    obtain ⟨xs, rfl, hx⟩ := ints_vals (P := fun i => P (i + 1)) fun i y e => h (i + 1) y e
    exact ⟨v :: xs, rfl, fun i w e => by
      cases i with
      | zero => cases e; exact pv
      | succ i => exact hx i w e⟩
/-- values that are rows -/
theorem rows_vals {P : Nat → Addr → List Int → Prop} : ∀ {ys : List V}, (∀ i y, ys[i]? = some y → ∃ a xs, y = .ref a ∧ P i a xs) → ∃ (as : List Addr) (rs : List (List Int)), ys = as.map V.ref ∧ as.length = rs.length ∧ ∀ (i : Nat) a xs, as[i]? = some a → rs[i]? = some xs → P i a xs
  | [], _ => ⟨[], [], rfl, rfl, fun i v _ e => by simp at e⟩
  | y :: ys, h => by
    obtain ⟨a, xs, rfl, pv⟩ := h 0 y rfl
    obtain ⟨as, rs, rfl, l, hx⟩ := rows_vals (P := fun i => P (i + 1)) fun i y e => h (i + 1) y e
    exact ⟨a :: as, xs :: rs, rfl, by rw [List.length_cons, List.length_cons, l], fun i b zs e1 e2 => by
      cases i with
      | zero => cases e1; cases e2; exact pv
      | succ i => exact hx i b zs e1 e2⟩
/-- rows, each a list, off q -/
def LstRw (q : Addr) (H : Hp) (as : List Addr) (rs : List (List Int)) : Prop := as.length = rs.length ∧ ∀ (i : Nat) (a : Addr) (xs : List Int), as[i]? = some a → rs[i]? = some xs → a ≠ q ∧ H a = some (.lst (xs.map V.int))
def TupRw (H : Hp) (as : List Addr) (rs : List (List Int)) : Prop := as.length = rs.length ∧ ∀ (i : Nat) (a : Addr) (xs : List Int), as[i]? = some a → rs[i]? = some xs → H a = some (.tup (xs.map V.int))
section
variable {K : PySem.W.Frag} {q D : Addr} {H H' : Hp} {as : List Addr} {rs : List (List Int)}
theorem LstRw.but (h : LstRw q H as rs) (b : ∀ b o, b ≠ q → H b = some o → H' b = some o) : LstRw q H' as rs := ⟨h.1, fun i a xs e1 e2 => ⟨(h.2 i a xs e1 e2).1, b _ _ (h.2 i a xs e1 e2).1 (h.2 i a xs e1 e2).2⟩⟩
theorem LstRw.same (h : LstRw q H as rs) (s : Same H H') : LstRw q H' as rs := h.but fun b o _ e => s b o e
theorem TupRw.same (h : TupRw H as rs) (s : Same H H') : TupRw H' as rs := ⟨h.1, fun i a xs e1 e2 => s _ _ (h.2 i a xs e1 e2)⟩
theorem TupRw.at (h : TupRw H as rs) {i : Nat} {a : Addr} (e : as[i]? = some a) : ∃ xs, rs[i]? = some xs ∧ H a = some (.tup (xs.map V.int)) := by
  have hi : i < rs.length := by rw [← h.1]; exact (List.getElem?_eq_some_iff.mp e).1
  exact ⟨rs[i], List.getElem?_eq_getElem hi, h.2 i a _ e (List.getElem?_eq_getElem hi)⟩
theorem LstRw.at (h : LstRw q H as rs) {i : Nat} {a : Addr} (e : as[i]? = some a) : ∃ xs, rs[i]? = some xs ∧ a ≠ q ∧ H a = some (.lst (xs.map V.int)) := by
  have hi : i < rs.length := by rw [← h.1]; exact (List.getElem?_eq_some_iff.mp e).1
  exact ⟨rs[i], List.getElem?_eq_getElem hi, h.2 i a _ e (List.getElem?_eq_getElem hi)⟩
theorem TupRw.keep (h : TupRw H as rs) (k : ∀ b xs, H b = some (.tup xs) → H' b = some (.tup xs)) : TupRw H' as rs := ⟨h.1, fun i a xs e1 e2 => k _ _ (h.2 i a xs e1 e2)⟩
theorem LstRw.rows (h : LstRw q H as rs) : RowsOf K H (as.map V.ref) rs := by
  induction as generalizing rs with
  | nil =>
    cases rs with
    | nil => exact .nil
    | cons _ _ => cases h.1
  | cons a as ih =>
    cases rs with
    | nil => cases h.1
    | cons xs rs => exact .cons (.inl (SqL.of (h.2 0 a xs rfl rfl).2)) (ih ⟨by simpa using h.1, fun i b ys e1 e2 => h.2 (i + 1) b ys e1 e2⟩)
theorem TupRw.rows (h : TupRw H as rs) : RowsOf K H (as.map V.ref) rs := by
  induction as generalizing rs with
  | nil =>
    cases rs with
    | nil => exact .nil
    | cons _ _ => cases h.1
  | cons a as ih =>
    cases rs with
    | nil => cases h.1
    | cons xs rs => exact .cons (.inr (SqT.of (h.2 0 a xs rfl rfl))) (ih ⟨by simpa using h.1, fun i b ys e1 e2 => h.2 (i + 1) b ys e1 e2⟩)
theorem TupRw.tup {p : Addr} (h : TupRw H as rs) (e : H p = some (.tup (as.map V.ref))) : TupRows K H p rs := ⟨as, e, h.1, h.2⟩
theorem TupRw.vs (h : TupRw H as rs) (q : Addr) (hq : ∀ xs, H q ≠ some (.tup xs)) : RowVs q H (as.map V.ref) (rs.map fun r => some (r.map V.int)) := by
  induction as generalizing rs with
  | nil =>
    cases rs with
    | nil => exact .nil
    | cons _ _ => cases h.1
  | cons a as ih =>
    cases rs with
    | nil => cases h.1
    | cons xs rs =>
      have e := h.2 0 a xs rfl rfl
      refine .cons (.tup (fun z => hq _ (by rw [← z]; exact e)) e fun x m => ?_) (ih ⟨by simpa using h.1, fun i b ys e1 e2 => h.2 (i + 1) b ys e1 e2⟩)
      obtain ⟨i, _, rfl⟩ := List.mem_map.mp m
      exact .num i
theorem LstRw.vs (h : LstRw q H as rs) : RowVs q H (as.map V.ref) (rs.map fun r => some (r.map V.int)) := by
  induction as generalizing rs with
  | nil =>
    cases rs with
    | nil => exact .nil
    | cons _ _ => cases h.1
  | cons a as ih =>
    cases rs with
    | nil => cases h.1
    | cons xs rs =>
      obtain ⟨na, e⟩ := h.2 0 a xs rfl rfl
      refine .cons (.lst na e fun x m => ?_) (ih ⟨by simpa using h.1, fun i b ys e1 e2 => h.2 (i + 1) b ys e1 e2⟩)
      obtain ⟨i, _, rfl⟩ := List.mem_map.mp m
      exact .num i
theorem rowsI_of (rs : List (List Int)) : rowsI (rs.map fun r => some (r.map V.int)) = rs := by
  unfold rowsI
  rw [List.map_map]
  refine (List.map_congr_left fun r _ => ?_).trans (List.map_id rs)
  show (r.map V.int).map numOf = r
  rw [List.map_map]
  exact (List.map_congr_left fun _ _ => rfl).trans (List.map_id r)
theorem areB_of {cl : Int} {n : Nat} (h : RowsOk cl n rs) (l : rs.length ≤ 400) : areB (some (rs.map fun r => some (r.map V.int))) cl n = true := by
  show (decide (((rs.map fun r => some (r.map V.int)).length : Int) ≤ 400) && (rs.map fun r => some (r.map V.int)).all fun o => rowB o cl n) = true
  rw [List.length_map, decide_eq_true (by omega), Bool.true_and, List.all_eq_true]
  intro o m
  obtain ⟨r, mr, rfl⟩ := List.mem_map.mp m
  have o := h r mr
  have z := row_yes (vint_of (fun x mx => by have := o.2 x mx; omega : ∀ x ∈ r, 0 ≤ x ∧ x ≤ cl - 1))
  rw [List.length_map] at z
  rw [o.1] at z
  exact z
end

section
variable {J : It} {n : Nat} {G : Hp → Prop} {Y : Nat → Hp → V → Hp → Prop} {g : TG} {te : TE} {tt : TT} {vs : List Nat} {σ : L2.St} {H1 : Hp} {D : Addr} {Qd : Hp → Prop}
theorem list_eq {α : Type} {xs zs : List α} (l : xs.length = zs.length) (h : ∀ (i : Nat) (v : α), xs[i]? = some v → zs[i]? = some v) : xs = zs := by
  refine List.ext_getElem? fun i => ?_
  by_cases hi : i < xs.length
  · rw [List.getElem?_eq_getElem hi, h i _ (List.getElem?_eq_getElem hi)]
  · rw [List.getElem?_eq_none (by omega), List.getElem?_eq_none (by omega)]
/-- the values are known -/
theorem lc_val (W : Walk J n G Y) (zs : List V) (lz : zs.length = n) (hG : ∀ H, Same H1 H → G H) (hD : H1 D = none) (hn : n < sizeLine)
    (step : ∀ i x H H', i < n → Same H1 H → (∃ xs, H D = some (.lst xs)) → Y i H x H' → ∀ Qn : VK, (∀ y H4, zs[i]? = some y → Same H H4 → Qn y H4) → g x (wipe σ vs) H' fun σ2 H2 => wipe σ2 vs = wipe σ vs ∧ te σ2 H2 Qn)
    (done : ∀ H, Same H1 H → H D = some (.lst zs) → Qd H) :
    ∃ W : Nat → Nat → Hp → Prop, (∃ m, W 0 m (upd H1 D (.lst []))) ∧ ∀ (i m : Nat) (H : Hp), W i m H → J.stop i H ∧ Qd H ∨ J.go i H ∧ ∃ Nx : Hp → Prop, (∀ H', Nx H' → ∃ m', m' < m ∧ W (i + 1) m' H') ∧
      ∀ (x : V) (H' : Hp), J.yld i H x H' → g x (wipe σ vs) H' fun σ2 H2 => wipe σ2 vs = wipe σ vs ∧ tYes σ2 H2 fun b H3 => if b = true then te σ2 H3 fun y H4 => ∃ acc, H4 D = some (.lst acc) ∧ acc.length < sizeLine ∧ Nx (upd H4 D (.lst (acc ++ [y]))) else Nx H3 :=
  lc_new W (fun i y _ => zs[i]? = some y) (fun _ _ _ _ _ e => e) hG hD hn (fun i x H H' hi s e y Qn k => step i x H H' hi s e y Qn fun y H4 e s4 => k y H4 s4 e) fun H ys s e l h => done H s (by rw [e, list_eq (by rw [l, lz]) h])
/-- the rows are known, each a new list -/
theorem lc_rows (W : Walk J n G Y) (zs : List (List Int)) (lz : zs.length = n) (hG : ∀ H, Same H1 H → G H) (hD : H1 D = none) (hn : n < sizeLine)
    (step : ∀ i x H H' z, i < n → zs[i]? = some z → Same H1 H → (∃ xs, H D = some (.lst xs)) → Y i H x H' → ∀ Qn : VK, (∀ a H4, Same H H4 → a ≠ D → H4 a = some (.lst (z.map V.int)) → Qn (.ref a) H4) → g x (wipe σ vs) H' fun σ2 H2 => wipe σ2 vs = wipe σ vs ∧ te σ2 H2 Qn)
    (done : ∀ H as, Same H1 H → H D = some (.lst (as.map V.ref)) → LstRw D H as zs → Qd H) :
    ∃ W : Nat → Nat → Hp → Prop, (∃ m, W 0 m (upd H1 D (.lst []))) ∧ ∀ (i m : Nat) (H : Hp), W i m H → J.stop i H ∧ Qd H ∨ J.go i H ∧ ∃ Nx : Hp → Prop, (∀ H', Nx H' → ∃ m', m' < m ∧ W (i + 1) m' H') ∧
      ∀ (x : V) (H' : Hp), J.yld i H x H' → g x (wipe σ vs) H' fun σ2 H2 => wipe σ2 vs = wipe σ vs ∧ tYes σ2 H2 fun b H3 => if b = true then te σ2 H3 fun y H4 => ∃ acc, H4 D = some (.lst acc) ∧ acc.length < sizeLine ∧ Nx (upd H4 D (.lst (acc ++ [y]))) else Nx H3 := by
  refine lc_new W (fun i y H => ∃ a xs, y = .ref a ∧ zs[i]? = some xs ∧ a ≠ D ∧ H a = some (.lst (xs.map V.int))) ?_ hG hD hn ?_ ?_
  · rintro i y H H' f ⟨a, xs, e1, e2, e3, e4⟩
    exact ⟨a, xs, e1, e2, e3, f _ _ e3 e4⟩
  · intro i x H H' hi s e y Qn k
    exact step i x H H' zs[i] hi (List.getElem?_eq_getElem (by omega)) s e y Qn fun a H4 s4 na ea => k _ H4 s4 ⟨a, _, rfl, List.getElem?_eq_getElem (by omega), na, ea⟩
  · intro H ys s e l h
    obtain ⟨as, rs, rfl, las, hr⟩ := rows_vals (P := fun i a xs => zs[i]? = some xs ∧ a ≠ D ∧ H a = some (.lst (xs.map V.int))) fun i y e => let ⟨a, xs, e1, e2⟩ := h i y e; ⟨a, xs, e1, e2⟩
    have lr : rs.length = zs.length := by rw [← las, lz, ← l, List.length_map]
    have er : rs = zs := list_eq lr fun i v e => by
      have hi := (List.getElem?_eq_some_iff.mp e).1
      exact (hr i as[i] v (List.getElem?_eq_getElem (by omega)) e).1
    subst er
    exact done H as s e ⟨las, fun i a xs e1 e2 => (hr i a xs e1 e2).2⟩
/-- the rows are known, each a tuple -/
theorem lc_tups (W : Walk J n G Y) (zs : List (List Int)) (lz : zs.length = n) (hG : ∀ H, Same H1 H → G H) (hD : H1 D = none) (hn : n < sizeLine)
    (step : ∀ i x H H' z, i < n → zs[i]? = some z → Same H1 H → (∃ xs, H D = some (.lst xs)) → Y i H x H' → ∀ Qn : VK, (∀ a H4, Same H H4 → H4 a = some (.tup (z.map V.int)) → Qn (.ref a) H4) → g x (wipe σ vs) H' fun σ2 H2 => wipe σ2 vs = wipe σ vs ∧ te σ2 H2 Qn)
    (done : ∀ H as, Same H1 H → H D = some (.lst (as.map V.ref)) → TupRw H as zs → Qd H) :
    ∃ W : Nat → Nat → Hp → Prop, (∃ m, W 0 m (upd H1 D (.lst []))) ∧ ∀ (i m : Nat) (H : Hp), W i m H → J.stop i H ∧ Qd H ∨ J.go i H ∧ ∃ Nx : Hp → Prop, (∀ H', Nx H' → ∃ m', m' < m ∧ W (i + 1) m' H') ∧
      ∀ (x : V) (H' : Hp), J.yld i H x H' → g x (wipe σ vs) H' fun σ2 H2 => wipe σ2 vs = wipe σ vs ∧ tYes σ2 H2 fun b H3 => if b = true then te σ2 H3 fun y H4 => ∃ acc, H4 D = some (.lst acc) ∧ acc.length < sizeLine ∧ Nx (upd H4 D (.lst (acc ++ [y]))) else Nx H3 := by
  refine lc_new W (fun i y H => ∃ a xs, y = .ref a ∧ zs[i]? = some xs ∧ a ≠ D ∧ H a = some (.tup (xs.map V.int))) ?_ hG hD hn ?_ ?_
  · rintro i y H H' f ⟨a, xs, e1, e2, e3, e4⟩
    exact ⟨a, xs, e1, e2, e3, f _ _ e3 e4⟩
  · rintro i x H H' hi s ⟨us, eD⟩ y Qn k
    exact step i x H H' zs[i] hi (List.getElem?_eq_getElem (by omega)) s ⟨us, eD⟩ y Qn fun a H4 s4 ea => k _ H4 s4 ⟨a, _, rfl, List.getElem?_eq_getElem (by omega), ne_of ea (s4 _ _ eD) (fun z => by cases z), ea⟩
  · intro H ys s e l h
    obtain ⟨as, rs, rfl, las, hr⟩ := rows_vals (P := fun i a xs => zs[i]? = some xs ∧ a ≠ D ∧ H a = some (.tup (xs.map V.int))) fun i y e => let ⟨a, xs, e1, e2⟩ := h i y e; ⟨a, xs, e1, e2⟩
    have lr : rs.length = zs.length := by rw [← las, lz, ← l, List.length_map]
    have er : rs = zs := list_eq lr fun i v e => by
      have hi := (List.getElem?_eq_some_iff.mp e).1
      exact (hr i as[i] v (List.getElem?_eq_getElem (by omega)) e).1
    subst er
    exact done H as s e ⟨las, fun i a xs e1 e2 => (hr i a xs e1 e2).2.2⟩
/-- those of which a test holds -/
theorem lc_flt (W : Walk J n G Y) (p : Nat → Bool) (f : Nat → V) (hG : ∀ H, Same H1 H → G H) (hD : H1 D = none) (hn : n < sizeLine)
    (step : ∀ i x H H', i < n → Same H1 H → (∃ xs, H D = some (.lst xs)) → Y i H x H' → ∀ (T : VK) (F : Hp → Prop), (p i = true → ∀ H4, Same H H4 → T (f i) H4) → (p i = false → ∀ H4, Same H H4 → F H4) →
      g x (wipe σ vs) H' fun σ2 H2 => wipe σ2 vs = wipe σ vs ∧ tt σ2 H2 fun b H3 => if b = true then te σ2 H3 T else F H3)
    (done : ∀ H, Same H1 H → H D = some (.lst (((List.range n).filter p).map f)) → Qd H) :
    ∃ W : Nat → Nat → Hp → Prop, (∃ m, W 0 m (upd H1 D (.lst []))) ∧ ∀ (i m : Nat) (H : Hp), W i m H → J.stop i H ∧ Qd H ∨ J.go i H ∧ ∃ Nx : Hp → Prop, (∀ H', Nx H' → ∃ m', m' < m ∧ W (i + 1) m' H') ∧
      ∀ (x : V) (H' : Hp), J.yld i H x H' → g x (wipe σ vs) H' fun σ2 H2 => wipe σ2 vs = wipe σ vs ∧ tt σ2 H2 fun b H3 => if b = true then te σ2 H3 fun y H4 => ∃ acc, H4 D = some (.lst acc) ∧ acc.length < sizeLine ∧ Nx (upd H4 D (.lst (acc ++ [y]))) else Nx H3 := by
  refine lc_it W (tt := tt) (fun i H => Same H1 H ∧ H D = some (.lst (((List.range i).filter p).map f))) ⟨same_neu (Same.refl _) hD, upd_same⟩ (fun i H _ h => hG H h.1) ?_ ?_
  · rintro i x H H' hi ⟨s, eD⟩ hY
    refine step i x H H' hi s ⟨_, eD⟩ hY _ _ (fun pt H4 s4 => ?_) fun pf H4 s4 => ?_
    · refine ⟨_, s4 _ _ eD, ?_, fun b o e => ?_, ?_⟩
      · rw [List.length_map]
        refine Nat.lt_of_le_of_lt (List.length_filter_le _ _) ?_
        rw [List.length_range]
        omega
      · rw [upd_ne (ne_of_none e hD)]
        exact s4 b o (s b o e)
      · rw [upd_same, List.range_succ, List.filter_append, List.map_append, List.filter_cons_of_pos pt]
        rfl
    · refine ⟨fun b o e => s4 b o (s b o e), ?_⟩
      rw [List.range_succ, List.filter_append, List.map_append, List.filter_cons_of_neg (by rw [pf]; decide)]
      show H4 D = some (.lst (_ ++ []))
      rw [List.append_nil]
      exact s4 _ _ eD
  · rintro H ⟨s, eD⟩
    exact done H s eD
end
end Rp
namespace Rp
open PySem PySem.Spec PyProof.Rows L2 LamX RZ
/-- the ways of an expression meet: M -/
theorem r_cutE {te : TE} {σ : L2.St} {H : Hp} {Q : VK} (M : V → Hp → Prop) (hu : ∀ v G, M v G → Q v G) (h : (∀ v G, M v G → Q v G) → te σ H Q) : te σ H Q := h hu
/-- the ways of a test meet -/
theorem r_cutT {tt : TT} {σ : L2.St} {H : Hp} {Q : Bool → Hp → Prop} (M : Bool → Hp → Prop) (hu : ∀ v G, M v G → Q v G) (h : (∀ v G, M v G → Q v G) → tt σ H Q) : tt σ H Q := h hu
section
variable {K : PySem.W.Frag} {H : Hp} {Q : VK} {q L p : Addr} {as : List Addr} {rs : List (List Int)}
def rowL (xs : List Int) : PyData := .list (xs.map PyData.int)
theorem LstRw.dp (h : LstRw q H as rs) : DpAll K H (as.map V.ref) (rs.map rowL) := by
  induction as generalizing rs with
  | nil =>
    cases rs with
    | nil => exact .nil
    | cons _ _ => cases h.1
  | cons a as ih =>
    cases rs with
    | nil => cases h.1
    | cons xs rs => exact .cons (.lst (SqL.of (h.2 0 a xs rfl rfl).2) (dp_ints xs)) (ih ⟨by simpa using h.1, fun i b ys e1 e2 => h.2 (i + 1) b ys e1 e2⟩)
theorem lay_rowL : ∀ rs : List (List Int), PyData.canLayAll0 (rs.map rowL) = true
  | [] => by simp [PyData.canLayAll0]
  | r :: rs => by simp [PyData.canLayAll0, lay_rowL rs, rowL, PyData.canLay0, canLay_ints]
theorem deep_rowL : ∀ rs : List (List Int), PyData.depthAll (rs.map rowL) ≤ 1
  | [] => by simp [PyData.depthAll]
  | r :: rs => by
    have := deep_rowL rs
    simp only [List.map_cons, PyData.depthAll, rowL, PyData.depth, depth_ints]
    omega
theorem shaped_rowL (rs : List (List Int)) : SeqAt.shaped (.list (rs.map rowL)) = true := by
  have h := deep_rowL rs
  have e : (PyData.list (rs.map rowL)).depth ≤ 64 := by simp only [PyData.depth]; omega
  simp only [SeqAt.shaped, PyData.canLay0, lay_rowL, Bool.true_and, decide_eq_true e]
/-- a list of rows, compared with a new [] -/
theorem ne_nilR (e : H L = some (.lst (as.map V.ref))) (R : LstRw q H as rs) (ep : H p = some (.lst [])) (h : Q (.bl (!rs.isEmpty)) H) : rNeD K (.ref L) (.ref p) H Q :=
  ⟨_, _, .lst (SqL.of e) R.dp, .lst (SqL.of ep) .nil, shaped_rowL rs, shaped_ints [], by
    have z : PyData.eqv (.list (rs.map rowL)) (.list []) = rs.isEmpty := by cases rs <;> simp [PyData.eqv, PyData.eqvAll]
    rw [z]
    exact h⟩
end
theorem ref_at {as : List Addr} {i : Nat} {v : V} (h : (as.map V.ref)[i]? = some v) : ∃ a, as[i]? = some a ∧ v = .ref a := by
  rw [List.getElem?_map] at h
  cases e : as[i]? with
  | none => rw [e] at h; cases h
  | some b => rw [e] at h; exact ⟨b, rfl, (Option.some.inj h).symm⟩
theorem ref_erase {as : List Addr} {k : Nat} : (as.map V.ref).eraseIdx k = (as.eraseIdx k).map V.ref := by
  induction as generalizing k with
  | nil => rfl
  | cons a as ih =>
    cases k with
    | zero => rfl
    | succ k => show V.ref a :: (as.map V.ref).eraseIdx k = _; rw [ih]; rfl
theorem LstRw.erase {q : Addr} {H : Hp} : ∀ {as : List Addr} {rs : List (List Int)} {k : Nat}, LstRw q H as rs → LstRw q H (as.eraseIdx k) (rs.eraseIdx k)
  | [], [], _, h => h
  | [], _ :: _, _, h => by cases h.1
  | _ :: _, [], _, h => by cases h.1
  | a :: as, r :: rs, 0, h => ⟨by simpa using h.1, fun i b ys e1 e2 => h.2 (i + 1) b ys e1 e2⟩
  | a :: as, r :: rs, k + 1, h => by
    have t : LstRw q H as rs := ⟨by simpa using h.1, fun i b ys e1 e2 => h.2 (i + 1) b ys e1 e2⟩
    have w := LstRw.erase (k := k) t
    refine ⟨by show (as.eraseIdx k).length + 1 = (rs.eraseIdx k).length + 1; rw [w.1], fun i b ys e1 e2 => ?_⟩
    cases i with
    | zero => cases e1; cases e2; exact h.2 0 a r rfl rfl
    | succ i => exact w.2 i b ys e1 e2
theorem LstRw.snoc {q a : Addr} {H : Hp} {xs : List Int} {as : List Addr} {rs : List (List Int)} (h : LstRw q H as rs) (n : a ≠ q) (e : H a = some (.lst (xs.map V.int))) : LstRw q H (as ++ [a]) (rs ++ [xs]) := by
  refine ⟨by rw [List.length_append, List.length_append, h.1]; rfl, fun i b ys e1 e2 => ?_⟩
  by_cases hi : i < as.length
  · rw [List.getElem?_append_left hi] at e1
    rw [List.getElem?_append_left (by rw [← h.1]; exact hi)] at e2
    exact h.2 i b ys e1 e2
  · rw [List.getElem?_append_right (by omega)] at e1
    rw [List.getElem?_append_right (by rw [← h.1]; omega), ← h.1] at e2
    have z : i - as.length = 0 := by
      have := (List.getElem?_eq_some_iff.mp e1).1
      simp at this
      omega
    rw [z] at e1 e2
    cases e1
    cases e2
    exact ⟨n, e⟩
/-- off another place -/
theorem LstRw.off {q D : Addr} {H : Hp} {as : List Addr} {rs : List (List Int)} (h : LstRw q H as rs) (n : ∀ b o, H b = some o → b ≠ D) : LstRw D H as rs := ⟨h.1, fun i a xs e1 e2 => ⟨n _ _ (h.2 i a xs e1 e2).2, (h.2 i a xs e1 e2).2⟩⟩
/-- a filter's first item -/
theorem filt_head {p : Nat → Bool} {n k : Nat} {l : List Nat} (h : (List.range n).filter p = k :: l) : k < n ∧ p k = true := by
  have m : k ∈ (List.range n).filter p := by rw [h]; exact List.mem_cons_self ..
  obtain ⟨m1, m2⟩ := List.mem_filter.mp m
  exact ⟨List.mem_range.mp m1, m2⟩
theorem filt_none {p : Nat → Bool} {n : Nat} (h : (List.range n).filter p = []) : ∀ k, k < n → p k = false := fun k hk => by
  cases e : p k with
  | false => rfl
  | true =>
    have m : k ∈ (List.range n).filter p := List.mem_filter.mpr ⟨List.mem_range.mpr hk, e⟩
    rw [h] at m
    cases m
theorem LstRw.offL {q D : Addr} {H : Hp} {as bs : List Addr} {rs : List (List Int)} (h : LstRw q H as rs) (e : H D = some (.lst (bs.map V.ref))) (n : ∀ r ∈ rs, r ≠ []) : LstRw D H as rs := ⟨h.1, fun i a xs e1 e2 => by
  have f := (h.2 i a xs e1 e2).2
  refine ⟨?_, f⟩
  rintro rfl
  have z := f.symm.trans e
  cases xs with
  | nil => exact n _ (List.mem_of_getElem? e2) rfl
  | cons x xs =>
    cases bs with
    | nil => cases z
    | cons b bs => cases z⟩
end Rp
namespace Rp
open PySem PySem.Spec PyProof.Rows L2 LamX RZ
/-! ### tuples cut and put behind one another; rows compared and shown -/
section
variable {K : PySem.W.Frag} {a b p : Addr} {H : Hp} {Q : VK} {xs ys : List V}
theorem cut_full {lo hi : Option Int} (h1 : HT.sIx xs.length 0 lo = 0) (h2 : HT.sIx xs.length xs.length hi = xs.length) : cutV xs lo hi = xs := by
  unfold cutV
  rw [h1, h2, List.drop_zero, Nat.sub_zero, List.take_length]
theorem r_slA {lo hi : Option Int} (ha : H a = some (.tup xs)) (h : ∀ b H', Same H H' → H' b = some (.tup (cutV xs lo hi)) → Q (.ref b) H') : rSlA K (.ref a) lo hi H Q := by
  refine ⟨a, xs, rfl, SqT.of ha, fun ⟨h1, h2⟩ => h a H (Same.refl H) (by rw [cut_full h1 h2]; exact ha), fun _ p hp => h p _ (same_neu (Same.refl H) hp) upd_same⟩
theorem r_catS (ha : H a = some (.tup xs)) (hb : H b = some (.tup ys)) (hz : xs.length + ys.length ≤ sizeLine) (h : ∀ p H', Same H H' → H' p = some (.tup (xs ++ ys)) → Q (.ref p) H') : rCatA K (.ref a) (.ref b) H Q :=
  ⟨a, b, xs, ys, rfl, rfl, SqT.of ha, SqT.of hb, hz, fun e => h b H (Same.refl H) (by rw [e]; exact hb), fun _ e => h a H (Same.refl H) (by rw [e, List.append_nil]; exact ha), fun _ _ p hp => h p _ (same_neu (Same.refl H) hp) upd_same⟩
/-- tuple(x) of a list or a tuple -/
theorem r_tupL (ha : H a = some (.lst xs)) (h : ∀ p H', Same H H' → H p = none → H' p = some (.tup xs) → Q (.ref p) H') : rTupOf K [.ref a] H Q :=
  ⟨a, xs, rfl, .inl ⟨SqL.of ha, fun p hp => h p _ (same_neu (Same.refl H) hp) hp upd_same⟩⟩
end
theorem eqvAll_ints : ∀ (xs ys : List Int), PyData.eqvAll (xs.map PyData.int) (ys.map PyData.int) = decide (xs = ys)
  | [], [] => by simp [PyData.eqvAll]
  | [], y :: ys => by simp [PyData.eqvAll]
  | x :: xs, [] => by simp [PyData.eqvAll]
  | x :: xs, y :: ys => by
    have := eqvAll_ints xs ys
    simp only [List.map_cons, PyData.eqvAll, PyData.eqv, this, List.cons.injEq]
    by_cases h : x = y
    · subst h; simp
    · simp [h]
theorem eqv_row (xs ys : List Int) : PyData.eqv (rowD xs) (rowD ys) = decide (xs = ys) := by
  unfold rowD
  simp only [PyData.eqv]
  exact eqvAll_ints xs ys
theorem eqvAll_rows : ∀ (rs ss : List (List Int)), PyData.eqvAll (rs.map rowD) (ss.map rowD) = decide (rs = ss)
  | [], [] => by simp [PyData.eqvAll]
  | [], y :: ys => by simp [PyData.eqvAll]
  | x :: xs, [] => by simp [PyData.eqvAll]
  | x :: xs, y :: ys => by
    have := eqvAll_rows xs ys
    simp only [List.map_cons, PyData.eqvAll, eqv_row, this, List.cons.injEq]
    by_cases h : x = y
    · subst h; simp
    · simp [h]
theorem eqv_rows (rs ss : List (List Int)) : PyData.eqv (.tuple (rs.map rowD)) (.tuple (ss.map rowD)) = decide (rs = ss) := by
  simp only [PyData.eqv]
  exact eqvAll_rows rs ss
theorem lay_rows : ∀ rs : List (List Int), PyData.canLayAll0 (rs.map rowD) = true
  | [] => by simp [PyData.canLayAll0]
  | r :: rs => by simp [PyData.canLayAll0, lay_rows rs, rowD, PyData.canLay0, canLay_ints]
theorem deep_rows : ∀ rs : List (List Int), PyData.depthAll (rs.map rowD) ≤ 1
  | [] => by simp [PyData.depthAll]
  | r :: rs => by
    have := deep_rows rs
    simp only [List.map_cons, PyData.depthAll, rowD, PyData.depth, depth_ints]
    omega
theorem shaped_rows (rs : List (List Int)) : SeqAt.shaped (.tuple (rs.map rowD)) = true := by
  have h := deep_rows rs
  have e : (PyData.tuple (rs.map rowD)).depth ≤ 64 := by simp only [PyData.depth]; omega
  simp only [SeqAt.shaped, PyData.canLay0, lay_rows, Bool.true_and, decide_eq_true e]
theorem dp_rowsA {K : PySem.W.Frag} {H : Hp} : ∀ {ps : List Addr} {rs : List (List Int)}, ps.length = rs.length → (∀ (i : Nat) (b : Addr) (xs : List Int), ps[i]? = some b → rs[i]? = some xs → H b = some (.tup (xs.map V.int))) → DpAll K H (ps.map V.ref) (rs.map rowD)
  | [], [], _, _ => .nil
  | b :: ps, xs :: rs, l, h => .cons (.tup (SqT.of (h 0 b xs rfl rfl)) (dp_ints xs)) (dp_rowsA (by simpa using l) fun i b xs e1 e2 => h (i + 1) b xs e1 e2)
  | [], _ :: _, l, _ => by cases l
  | _ :: _, [], l, _ => by cases l
theorem TupRows.dp {K : PySem.W.Frag} {H : Hp} {p : Addr} {rs : List (List Int)} (h : TupRows K H p rs) : Dp K H (.ref p) (.tuple (rs.map rowD)) := by
  obtain ⟨ps, h1, h2, h3⟩ := h
  exact .tup (SqT.of h1) (dp_rowsA h2 h3)
theorem r_eqRows {K : PySem.W.Frag} {H : Hp} {Q : VK} {p r : Addr} {rs ss : List (List Int)} (h1 : TupRows K H p rs) (h2 : TupRows K H r ss) (h : Q (.bl (decide (rs = ss))) H) : rEqD K (.ref p) (.ref r) H Q :=
  ⟨_, _, h1.dp, h2.dp, shaped_rows rs, shaped_rows ss, by rw [eqv_rows]; exact h⟩
theorem r_neRows {K : PySem.W.Frag} {H : Hp} {Q : VK} {p r : Addr} {rs ss : List (List Int)} (h1 : TupRows K H p rs) (h2 : TupRows K H r ss) (h : Q (.bl (!decide (rs = ss))) H) : rNeD K (.ref p) (.ref r) H Q :=
  ⟨_, _, h1.dp, h2.dp, shaped_rows rs, shaped_rows ss, by rw [eqv_rows]; exact h⟩
/-- rows are fit to be shown -/
theorem fit_rows {cl : Int} {n m : Nat} (h31 : cl ≤ 31) (hn : n ≤ m) : ∀ {rs : List (List Int)}, RowsOk cl n rs → FitA 1 ((15 * m + 10) * rs.length) (rs.map rowD)
  | [], _ => FitA.nil
  | r :: rs, o => by
    have ok := o r (List.mem_cons_self ..)
    have f1 : FitA 0 (15 * m) (r.map PyData.int) := (fit_ints (xs := r) (lo := 0) (hi := 31) (fun x mx => by have := ok.2 x mx; omega) (by decide) (by decide)).le (Nat.le_refl _) (by rw [ok.1]; omega)
    have f2 := fit_rows h31 hn (rs := rs) fun y my => o y (List.mem_cons_of_mem _ my)
    refine (FitA.cons f1.tuple f2).le (Nat.le_refl _) ?_
    rw [List.length_cons, Nat.mul_succ]
    omega
/-- turned to a gap -/
def rotR (g : Nat) (xs : List Int) : List Int := xs.drop g ++ xs.take g
theorem rotR_len {g : Nat} {xs : List Int} : (rotR g xs).length = xs.length := by
  unfold rotR
  rw [List.length_append, List.length_drop, List.length_take]
  omega
theorem rotR_ok {cl : Int} {n g : Nat} {xs : List Int} (h : xs.length = n ∧ Dig cl xs) : (rotR g xs).length = n ∧ Dig cl (rotR g xs) := ⟨by rw [rotR_len, h.1], fun x m => by
  unfold rotR at m
  rcases List.mem_append.mp m with m | m
  · exact h.2 x (List.mem_of_mem_drop m)
  · exact h.2 x (List.mem_of_mem_take m)⟩
theorem cut_loI {xs : List Int} {n : Nat} (h : n ≤ xs.length) : cutV (xs.map V.int) none (some (n : Int)) = (xs.take n).map V.int := by
  rw [cut_lo (by rw [List.length_map]; exact h), List.map_take]
theorem cut_hiI {xs : List Int} {n : Nat} (h : n ≤ xs.length) : cutV (xs.map V.int) (some (n : Int)) none = (xs.drop n).map V.int := by
  rw [cut_hi (by rw [List.length_map]; exact h), List.map_drop]
/-- of another class than the values of no own one -/
structure NotK (K : PySem.W.Frag) (C : Addr) : Prop where
  non : PySem.W.kitOne K (.type "NoneType") (.ref C) = some false
  bl : PySem.W.kitOne K (.type "bool") (.ref C) = some false
  int : PySem.W.kitOne K (.type "int") (.ref C) = some false
  str : PySem.W.kitOne K (.type "str") (.ref C) = some false
  lst : PySem.W.kitOne K (.type "list") (.ref C) = some false
  tup : PySem.W.kitOne K (.type "tuple") (.ref C) = some false
  dic : PySem.W.kitOne K (.type "dict") (.ref C) = some false
/-- what isinstance asks of an own class -/
structure IsK (K : PySem.W.Frag) (C : Addr) : Prop where
  cl : Cls K C
  ha : PySem.W.findIn K (.ref C) "__class__" = some (some (.builtin "object.__class__"))
  hn : PySem.W.specialIn K (.builtin "object.__class__") "__get__" = some (some (.builtin "getset_descriptor.__get__"))
  ht : PySem.W.takesIn K (.builtin "object.__class__") = some true
  hm : PySem.W.mroIn K C (.type "object") = some true
  me : PySem.W.kitOne K (.ref C) (.ref C) = some true
theorem r_isOwn {K : PySem.W.Frag} {H : Hp} {Q : VK} {x C dx : Addr} {fs : List (Str × V)} (I : IsK K C) (e : H x = some (.ins C dx fs)) (h : Q (.bl true) H) : rIsi K [.ref x, .ref C] H Q :=
  ⟨.ref x, .ref C, _, .ref C, true, rfl, .own C, .base (.ins e I.cl I.ha I.hn I.ht I.hm), I.me, h⟩
theorem r_isNot {K : PySem.W.Frag} {q : Addr} {H : Hp} {Q : VK} {v : V} {C : Addr} (I : NotK K C) (a : Any q H v) (h : Q (.bl false) H) : rIsi K [v, .ref C] H Q := by
  cases a with
  | non => exact ⟨_, .ref C, _, .ref C, false, rfl, .own C, .base .non, I.non, h⟩
  | bl b => exact ⟨_, .ref C, _, .ref C, false, rfl, .own C, .base (.bl b), I.bl, h⟩
  | num i => exact ⟨_, .ref C, _, .ref C, false, rfl, .own C, .base (.int i), I.int, h⟩
  | str z => exact ⟨_, .ref C, _, .ref C, false, rfl, .own C, .base (.str z), I.str, h⟩
  | lst n e => exact ⟨_, .ref C, _, .ref C, false, rfl, .own C, .base (.lst e), I.lst, h⟩
  | tup n e => exact ⟨_, .ref C, _, .ref C, false, rfl, .own C, .base (.tup e), I.tup, h⟩
  | dic n e => exact ⟨_, .ref C, _, .ref C, false, rfl, .own C, .base (.dK e), I.dic, h⟩
/-- list(x) of a list or a tuple -/
def rListOf (K : PySem.W.Frag) : List V → Hp → VK → Prop := fun xs H Q => ∃ p ys, xs = [.ref p] ∧ (SqL K H p ys ∨ SqT K H p ys) ∧ ∀ l, H l = none → Q (.ref l) (upd H l (.lst ys))
theorem call_listK {X : Cx} : CallR X (.type "list") (rListOf X.K) := call_list_of
theorem seqIx_nat {k n : Nat} (h : k < n) : PySem.seqIndex? (k : Int) n = some k := by
  unfold PySem.seqIndex?
  have h1 : ¬ ((k : Int) < 0) := by omega
  have h2 : (k : Int) < (n : Int) := by omega
  simp [h1, h2, h]
end Rp
namespace Rp
/-! ### least forms of turned rows -/
section
variable {cl t : Int} {n g h : Nat} {x y : List Int} {rs ss ls : List (List Int)}
theorem LF.len (f : LF cl n ls) : ls.length ≤ n := by
  have aux : ∀ {qs : List (List Int)} {m : Nat}, qs.Pairwise (fun r s => leadOf r < leadOf s) → (∀ r ∈ qs, m ≤ leadOf r ∧ leadOf r < n) → m + qs.length ≤ n ∨ qs = [] := by
    intro qs
    induction qs with
    | nil => exact fun _ _ => .inr rfl
    | cons q qs ih =>
      intro m p b
      obtain ⟨p1, p2⟩ := List.pairwise_cons.mp p
      have bq := b q (List.mem_cons_self ..)
      left
      rcases ih (m := m + 1) p2 fun r mr => ⟨by have := p1 r mr; omega, (b r (List.mem_cons_of_mem _ mr)).2⟩ with e | e
      · rw [List.length_cons]; omega
      · subst e
        show m + 1 ≤ n
        omega
  rcases aux (m := 0) f.asc fun r m => ⟨Nat.zero_le _, (f.lead r m).1⟩ with e | e
  · omega
  · rw [e]; exact Nat.zero_le _
theorem least_rows (hc : cl ∈ clocks) (o : RowsOk cl n rs) : RowsOk cl n (leastForm cl n rs) ∧ (leastForm cl n rs).length ≤ n := ⟨(least_ok hc o).1.ok, (least_ok hc o).1.len⟩
theorem least_idem (hc : cl ∈ clocks) (o : RowsOk cl n rs) : leastForm cl n (leastForm cl n rs) = leastForm cl n rs := by
  obtain ⟨f, a, b⟩ := least_ok hc o
  have c3 := clocks_3 hc
  exact least_is hc f.ok f (fun r m => .of (by omega) f.ok m) fun r m => .of (by omega) f.ok m
theorem adM_append {xs ys us vs : List Int} (l : xs.length = us.length) : adM cl t (xs ++ ys) (us ++ vs) = adM cl t xs us ++ adM cl t ys vs := by
  unfold adM
  rw [List.zipWith_append l]
theorem adM_drop {xs ys : List Int} : (adM cl t xs ys).drop g = adM cl t (xs.drop g) (ys.drop g) := by
  unfold adM
  rw [List.drop_zipWith]
theorem adM_take {xs ys : List Int} : (adM cl t xs ys).take g = adM cl t (xs.take g) (ys.take g) := by
  unfold adM
  rw [List.take_zipWith]
theorem rot_adM (l : x.length = y.length) : rotR g (adM cl t x y) = adM cl t (rotR g x) (rotR g y) := by
  unfold rotR
  rw [adM_append (by rw [List.length_drop, List.length_drop, l]), adM_drop, adM_take]
theorem rot_zero : rotR g (zeroR n) = zeroR n := by
  unfold rotR zeroR
  rw [List.drop_replicate, List.take_replicate, List.replicate_append_replicate]
  congr 1
  omega
theorem Spn.rot (h0 : 0 < cl) (o : RowsOk cl n rs) (a : Spn cl n rs x) : Spn cl n (rs.map (rotR g)) (rotR g x) := by
  induction a with
  | zero => rw [rot_zero]; exact .zero
  | @add x r t a m ih =>
    rw [rot_adM (by rw [(a.ok h0 o).1, (o r m).1])]
    exact .add t ih (List.mem_map.mpr ⟨r, m, rfl⟩)
theorem rots_ok (o : RowsOk cl n rs) : RowsOk cl n (rs.map (rotR g)) := fun y m => by
  obtain ⟨xs, mx, rfl⟩ := List.mem_map.mp m
  exact rotR_ok (o xs mx)
theorem least_rot (hc : cl ∈ clocks) (o : RowsOk cl n rs) : leastForm cl n ((leastForm cl n rs).map (rotR g)) = leastForm cl n (rs.map (rotR g)) := by
  obtain ⟨f, a, b⟩ := least_ok hc o
  have c3 := clocks_3 hc
  refine least_same hc (rots_ok f.ok) (rots_ok o) (fun r m => ?_) fun r m => ?_
  · obtain ⟨x, mx, rfl⟩ := List.mem_map.mp m
    exact (a x mx).rot (by omega) o
  · obtain ⟨x, mx, rfl⟩ := List.mem_map.mp m
    exact (b x mx).rot (by omega) f.ok
theorem rot_none (x : List Int) : rotR 0 x = x := by
  unfold rotR
  rw [List.drop_zero, List.take_zero, List.append_nil]
theorem rots_none : rs.map (rotR 0) = rs := (List.map_congr_left fun x _ => rot_none x).trans (List.map_id rs)
theorem rot_at {k : Nat} (hg : g < x.length) (hk : k < x.length) : (rotR g x)[k]? = x[(k + g) % x.length]? := by
  unfold rotR
  by_cases c : k < x.length - g
  · rw [List.getElem?_append_left (by rw [List.length_drop]; exact c), List.getElem?_drop, Nat.mod_eq_of_lt (by omega), Nat.add_comm]
  · rw [List.getElem?_append_right (by rw [List.length_drop]; omega), List.length_drop, List.getElem?_take, if_pos (by omega)]
    rw [show k + g = (k + g - x.length) + x.length by omega, Nat.add_mod_right, Nat.mod_eq_of_lt (by omega)]
    congr 1
    omega
theorem rot_rot (hg : g < x.length) (hh : h < x.length) : rotR h (rotR g x) = rotR ((g + h) % x.length) x := by
  refine List.ext_getElem? fun k => ?_
  by_cases hk : k < x.length
  · rw [rot_at (by rw [rotR_len]; exact hh) (by rw [rotR_len]; exact hk), rotR_len, rot_at hg (Nat.mod_lt _ (by omega)), rot_at (Nat.mod_lt _ (by omega)) hk]
    congr 1
    rw [Nat.mod_add_mod, Nat.add_mod_mod]
    congr 1
    omega
  · rw [List.getElem?_eq_none (by rw [rotR_len, rotR_len]; omega), List.getElem?_eq_none (by rw [rotR_len]; omega)]
theorem rots_rots (o : RowsOk cl n rs) (hg : g < n) (hh : h < n) : (rs.map (rotR g)).map (rotR h) = rs.map (rotR ((g + h) % n)) := by
  rw [List.map_map]
  refine List.map_congr_left fun x m => ?_
  have l := (o x m).1
  have e := rot_rot (x := x) (g := g) (h := h) (by omega) (by omega)
  rw [l] at e
  exact e
/-- turned twice -/
theorem least_twice (hc : cl ∈ clocks) (o : RowsOk cl n rs) (hg : g < n) (hh : h < n) : leastForm cl n ((leastForm cl n ((leastForm cl n rs).map (rotR g))).map (rotR h)) = leastForm cl n ((leastForm cl n rs).map (rotR ((g + h) % n))) := by
  rw [least_rot hc (rots_ok (least_rows hc o).1), rots_rots (least_rows hc o).1 hg hh]
theorem least_round (hc : cl ∈ clocks) (o : RowsOk cl n rs) (hg : g < n) : leastForm cl n ((leastForm cl n ((leastForm cl n rs).map (rotR g))).map (rotR ((n - g) % n))) = leastForm cl n rs := by
  have hn : (n - g) % n < n := Nat.mod_lt _ (by omega)
  rw [least_twice hc o hg hn]
  have e : (g + (n - g) % n) % n = 0 := by
    rw [Nat.add_mod_mod, show g + (n - g) = n by omega, Nat.mod_self]
  rw [e, rots_none, least_idem hc o]
end
end Rp
namespace Rp
open PySem PySem.Spec PyProof.Rows L2 LamX RZ
section
variable {K : PySem.W.Frag} {q c p : Addr} {ns : List Int} {l : Nat} {H H' : Hp} {as : List Addr} {rs : List (List Int)}
theorem TupRw.drw (h : TupRw H as rs) (D : Dr q c ns l H) (b : But q H H') : TupRw H' as rs := by
  obtain ⟨_, ⟨_, hq⟩, _, _⟩ := D
  exact h.keep fun a xs e => b _ _ (ne_of e hq (fun z => by cases z)) e
theorem TupRows.drw (h : TupRows K H p rs) (D : Dr q c ns l H) (b : But q H H') : TupRows K H' p rs := by
  obtain ⟨_, ⟨_, hq⟩, _, _⟩ := D
  obtain ⟨ps, t1, t2, t3⟩ := h
  exact ⟨ps, b _ _ (ne_of t1 hq (fun z => by cases z)) t1, t2, fun i a xs e1 e2 => b _ _ (ne_of (t3 i a xs e1 e2) hq (fun z => by cases z)) (t3 i a xs e1 e2)⟩
end
/-- an own class's __eq__, as == and != ask for it -/
structure EqX (P : Program) (w : World) (K : PySem.W.Frag) (mg : Str → Option Value) (base : Heap) (k : Nat) (C f : Addr) (fd : FuncData) (sp : Sp) : Prop where
  F : FnOk P w K mg base (L2.CX P w) k f fd ["self", "other"] sp
  b : Binds K fd ["self", "other"] []
  hs : PySem.W.findIn K (.ref C) "__eq__" = some (some (.ref f))
  hf : PySem.W.isFn K (.ref f) = true
  hn : PySem.W.findIn K (.ref C) "__ne__" = some (some (.builtin "object.__ne__"))
  hm : PySem.W.mroIn K C (.type "object") = some true
section
variable {X : Cx} {k : Nat} {C f : Addr} {fd : FuncData} {sp : Sp}
theorem op_neS (o : EqX X.prog X.w X.K X.mg X.base k C f fd sp) (hr : Room (k + 1) X.A) : OpR X (compareOp .NotEq) (rOwnI C sp E0 true) :=
  op_neI o.F o.b (fun pins σ H s e s' I z => pass0X pins H s e s' I z (σ := σ)) hr o.hs o.hf o.hn o.hm
theorem op_eqS (o : EqX X.prog X.w X.K X.mg X.base k C f fd sp) (hr : Room k X.A) : OpR X (compareOp .Eq) (rOwnI C sp E0 false) :=
  op_eqI o.F o.b (fun pins σ H s e s' I z => pass0X pins H s e s' I z (σ := σ)) hr o.hs o.hf
end
end Rp
namespace Rp
/-! ### what agrees with a space: free rows, steps -/
section
/-- sums over the gaps -/
def gS (n : Nat) (f : Nat → Int) : Int := ((List.range n).map f).sum
theorem gS_succ (n : Nat) (f : Nat → Int) : gS (n + 1) f = gS n f + f n := by
  unfold gS
  rw [List.range_succ, List.map_append, List.sum_append]
  simp
theorem gS_zero (f : Nat → Int) : gS 0 f = 0 := rfl
theorem gS_head : ∀ (n : Nat) (f : Nat → Int), gS (n + 1) f = f 0 + gS n (fun k => f (k + 1))
  | 0, f => by rw [gS_succ, gS_zero, gS_zero]; omega
  | n + 1, f => by rw [gS_succ, gS_head n f, gS_succ n]; omega
theorem gS_congr {n : Nat} {f g : Nat → Int} (h : ∀ k, k < n → f k = g k) : gS n f = gS n g := by
  unfold gS
  rw [List.map_congr_left fun k m => h k (List.mem_range.mp m)]
theorem gS_sub : ∀ (n : Nat) (f g : Nat → Int), gS n (fun k => f k - g k) = gS n f - gS n g
  | 0, _, _ => rfl
  | n + 1, f, g => by rw [gS_succ, gS_succ, gS_succ, gS_sub n f g]; omega
theorem gS_lin (m t : Int) : ∀ (n : Nat) (f g e : Nat → Int), (∀ k, k < n → f k % m = (g k + t * e k) % m) → gS n f % m = (gS n g + t * gS n e) % m
  | 0, _, _, _, _ => by rw [gS_zero, gS_zero, gS_zero, Int.mul_zero]; rfl
  | n + 1, f, g, e, h => by
    rw [gS_succ, gS_succ, gS_succ, Int.add_emod, gS_lin m t n f g e fun k hk => h k (by omega), h n (by omega), ← Int.add_emod, Int.mul_add]
    congr 1
    omega
theorem gS_next (f : Nat → Int) : ∀ n : Nat, gS n (fun k => f (if k + 1 = n then 0 else k + 1)) = gS n f
  | 0 => rfl
  | n + 1 => by
    rw [gS_succ, gS_head, if_pos rfl, gS_congr (g := fun k => f (k + 1)) fun k hk => by rw [if_neg (by omega)]]
    omega
def nextG (n k : Nat) : Nat := if k + 1 = n then 0 else k + 1
def swL (xs ys : List Int) : Int := gS xs.length fun k => xs.getD k 0 * ys.getD (nextG xs.length k) 0 - xs.getD (nextG xs.length k) 0 * ys.getD k 0
theorem zip_sum : ∀ (ys zs : List Int), ys.length = zs.length → ((ys.zip zs).map fun p => p.1 * p.2).sum = gS ys.length fun k => ys.getD k 0 * zs.getD k 0
  | [], [], _ => rfl
  | y :: ys, z :: zs, h => by
    have := zip_sum ys zs (by simpa using h)
    rw [List.zip_cons_cons, List.map_cons, List.sum_cons, this, List.length_cons, gS_head]
    rfl
  | [], _ :: _, h => by cases h
  | _ :: _, [], h => by cases h
/-- the program's swing is the own sum -/
theorem swing_eq {cl : Int} {xs ys : List Int} (l : xs.length = ys.length) : swingF cl xs ys = swL xs ys % cl := by
  unfold swingF
  congr 1
  rw [zip_sum ys (stepsF xs) (by rw [stepsF_len, l])]
  have e : swL xs ys = gS xs.length (fun j => xs.getD (if j = 0 then xs.length - 1 else j - 1) 0 * ys.getD j 0) - gS xs.length (fun k => xs.getD (nextG xs.length k) 0 * ys.getD k 0) := by
    rw [← gS_next (fun j => xs.getD (if j = 0 then xs.length - 1 else j - 1) 0 * ys.getD j 0) xs.length, ← gS_sub]
    refine gS_congr fun k hk => ?_
    show xs.getD k 0 * ys.getD (nextG xs.length k) 0 - _ = _
    unfold nextG
    by_cases h : k + 1 = xs.length
    · rw [if_pos h]
      show _ = xs.getD (if (0 : Nat) = 0 then xs.length - 1 else 0 - 1) 0 * ys.getD 0 0 - _
      rw [if_pos rfl, show xs.length - 1 = k by omega]
    · rw [if_neg h]
      show _ = xs.getD (if k + 1 = 0 then xs.length - 1 else k + 1 - 1) 0 * ys.getD (k + 1) 0 - _
      rw [if_neg (by omega), Nat.add_sub_cancel]
  rw [e, ← gS_sub, ← l]
  refine gS_congr fun k hk => ?_
  have es : (stepsF xs).getD k 0 = stepAt xs k := by rw [List.getD_eq_getElem?_getD, stepsF_at hk]; rfl
  rw [es]
  unfold stepAt nextG
  rw [Int.mul_sub, Int.mul_comm (ys.getD k 0), Int.mul_comm (ys.getD k 0)]
theorem swL_anti {xs ys : List Int} (l : xs.length = ys.length) : swL ys xs = -swL xs ys := by
  have e : swL ys xs = gS xs.length (fun k => 0 - (xs.getD k 0 * ys.getD (nextG xs.length k) 0 - xs.getD (nextG xs.length k) 0 * ys.getD k 0)) := by
    unfold swL
    rw [← l]
    refine gS_congr fun k _ => ?_
    rw [Int.mul_comm (ys.getD k 0), Int.mul_comm (ys.getD (nextG xs.length k) 0)]
    omega
  rw [e, gS_sub]
  have z : gS xs.length (fun _ => 0) = 0 := by
    have : ∀ n : Nat, gS n (fun _ => 0) = 0 := fun n => by
      induction n with
      | zero => rfl
      | succ n ih => rw [gS_succ, ih]; rfl
    exact this _
  rw [z]
  unfold swL
  omega
theorem swL_self {xs : List Int} : swL xs xs = 0 := by
  have := swL_anti (xs := xs) (ys := xs) rfl
  omega
def addTwo (cl : Int) (xs zs : List Int) : List Int := List.zipWith (fun x z => (x + 2 * z) % cl) xs zs
theorem addTwo_eq {cl : Int} {xs zs : List Int} : addTwo cl xs zs = adM cl 2 xs zs := rfl
theorem swL_lin {cl : Int} {xs ys zs : List Int} (l : xs.length = zs.length) : swL (addTwo cl xs zs) ys % cl = (swL xs ys + 2 * swL zs ys) % cl := by
  unfold swL
  rw [addTwo_eq, adM_len l, ← l]
  refine gS_lin cl 2 _ _ _ _ fun k _ => ?_
  rw [adM_at l, adM_at l, Int.sub_emod, Int.mul_emod, Int.emod_emod, ← Int.mul_emod, Int.mul_emod ((xs.getD (nextG xs.length k) 0 + 2 * zs.getD (nextG xs.length k) 0) % cl), Int.emod_emod, ← Int.mul_emod, ← Int.sub_emod]
  congr 1
  rw [Int.add_mul, Int.add_mul, Int.mul_sub, Int.mul_assoc, Int.mul_assoc]
  omega
end
section
variable {cl t m : Int} {n p : Nat} {f g : Nat → Int} {x y q r : List Int} {rs ss ls : List (List Int)}
theorem gS_mod : ∀ {n : Nat} {f g : Nat → Int}, (∀ k, k < n → f k % m = g k % m) → gS n f % m = gS n g % m
  | 0, _, _, _ => rfl
  | n + 1, f, g, h => by rw [gS_succ, gS_succ, Int.add_emod, gS_mod (f := f) (g := g) fun k hk => h k (by omega), h n (by omega), ← Int.add_emod]
theorem gS_none : ∀ {n : Nat} {f : Nat → Int}, (∀ k, k < n → f k = 0) → gS n f = 0
  | 0, _, _ => rfl
  | n + 1, f, h => by rw [gS_succ, gS_none fun k hk => h k (by omega), h n (by omega)]; rfl
theorem gS_point {c : Int} : ∀ {n p : Nat}, p < n → gS n (fun k => if k = p then c else 0) = c
  | 0, _, h => by omega
  | n + 1, p, h => by
    rw [gS_succ]
    by_cases e : n = p
    · rw [if_pos e, gS_none fun k hk => if_neg (by omega)]; omega
    · rw [if_neg e, gS_point (by omega)]; omega
theorem gS_add : ∀ (n : Nat) (f g : Nat → Int), gS n (fun k => f k + g k) = gS n f + gS n g
  | 0, _, _ => rfl
  | n + 1, f, g => by rw [gS_succ, gS_succ, gS_succ, gS_add n f g]; omega
/-- places apart -/
theorem gS_split (f : Nat → Int) : ∀ {ps : List Nat}, ps.Nodup → (∀ p ∈ ps, p < n) → gS n f = gS n (fun k => if k ∈ ps then 0 else f k) + (ps.map f).sum
  | [], _, _ => by
    rw [List.map_nil, List.sum_nil, Int.add_zero]
    exact gS_congr fun k _ => (if_neg (fun e => nomatch e)).symm
  | p :: ps, nd, lt => by
    obtain ⟨n1, n2⟩ := List.nodup_cons.mp nd
    rw [gS_split f n2 fun k mk => lt k (List.mem_cons_of_mem _ mk), List.map_cons, List.sum_cons]
    have e : gS n (fun k => if k ∈ ps then 0 else f k) = gS n (fun k => if k ∈ p :: ps then 0 else f k) + gS n (fun k => if k = p then f p else 0) := by
      rw [← gS_add]
      refine gS_congr fun k _ => ?_
      by_cases e1 : k = p
      · subst e1
        rw [if_neg n1, if_pos (List.mem_cons_self ..), if_pos rfl]
        omega
      · rw [if_neg e1]
        by_cases e2 : k ∈ ps
        · rw [if_pos e2, if_pos (List.mem_cons_of_mem _ e2)]; rfl
        · rw [if_neg e2, if_neg (fun z => (List.mem_cons.mp z).elim e1 e2)]; omega
    rw [e, gS_point (lt p (List.mem_cons_self ..))]
    omega
theorem filt_sum (p : Nat → Bool) (f : Nat → Int) : ∀ n : Nat, (((List.range n).filter p).map f).sum = gS n fun k => if p k = true then f k else 0
  | 0 => rfl
  | n + 1 => by
    rw [gS_succ, ← filt_sum p f n, List.range_succ, List.filter_append, List.map_append, List.sum_append]
    cases e : p n with
    | true => rw [List.filter_cons_of_pos e, if_pos rfl]; simp
    | false => rw [List.filter_cons_of_neg (by rw [e]; decide), if_neg (by decide)]; simp
/-- two rows, number by number -/
def dotR (n : Nat) (xs ys : List Int) : Int := gS n fun k => xs.getD k 0 * ys.getD k 0
theorem dot_comm (x y : List Int) : dotR n x y = dotR n y x := gS_congr fun k _ => Int.mul_comm _ _
theorem dot_lin (q : List Int) (l : x.length = y.length) : dotR n q (adM cl t x y) % cl = (dotR n q x + t * dotR n q y) % cl := by
  refine gS_lin cl t n _ _ _ fun k _ => ?_
  show (q.getD k 0 * (adM cl t x y).getD k 0) % cl = _
  rw [adM_at l, Int.mul_emod, Int.emod_emod, ← Int.mul_emod, Int.mul_add, Int.mul_left_comm]
theorem dot_zero (q : List Int) : dotR n q (zeroR n) = 0 := gS_none fun k _ => by rw [zeroR_at, Int.mul_zero]
theorem Spn.perp (h0 : 0 < cl) (o : RowsOk cl n rs) (a : Spn cl n rs x) (h : ∀ r ∈ rs, dotR n q r % cl = 0) : dotR n q x % cl = 0 := by
  induction a with
  | zero => rw [dot_zero]; rfl
  | @add x r t a m ih =>
    rw [dot_lin q (by rw [(a.ok h0 o).1, (o r m).1]), Int.add_emod, ih, Int.mul_emod, h r m, Int.mul_zero]
    rfl
/-- a row whose numbers are sums of multiples -/
theorem Spn.of_sum {ι : Type} (h0 : 0 < cl) (o : RowsOk cl n rs) (gs : List ι) (row : ι → List Int) (c : ι → Int) (mem : ∀ g ∈ gs, row g ∈ rs) (ox : RowOk cl n x)
    (h : ∀ k, k < n → x.getD k 0 = ((gs.map fun g => c g * (row g).getD k 0).sum) % cl) : Spn cl n rs x := by
  have aux : ∀ qs : List ι, (∀ g ∈ qs, row g ∈ rs) → ∃ y, Spn cl n rs y ∧ ∀ k, y.getD k 0 = ((qs.map fun g => c g * (row g).getD k 0).sum) % cl := by
    intro qs
    induction qs with
    | nil => exact fun _ => ⟨_, .zero, fun k => by rw [zeroR_at]; rfl⟩
    | cons g qs ih =>
      intro mq
      obtain ⟨y, sy, hy⟩ := ih fun g' m' => mq g' (List.mem_cons_of_mem _ m')
      have mg := mq g (List.mem_cons_self ..)
      refine ⟨_, sy.add (c g) mg, fun k => ?_⟩
      rw [adM_at (by rw [(sy.ok h0 o).1, (o _ mg).1]), hy k, em_l, List.map_cons, List.sum_cons]
      congr 1
      omega
  obtain ⟨y, sy, hy⟩ := aux gs mem
  have oy := sy.ok h0 o
  have e : x = y := row_ext' (by rw [ox.1, oy.1]) fun k hk => by rw [h k (by rw [← ox.1]; exact hk), hy k]
  rw [e]
  exact sy
/-! free rows -/
def freeR (cl : Int) (n : Nat) (ls : List (List Int)) (g : Nat) : List Int := ls.foldl (fun acc r => acc.set (leadOf r) ((cl - r.getD g 0) % cl)) ((zeroR n).set g 1)
def gapP (ls : List (List Int)) (g : Nat) : Bool := !(ls.map leadOf).contains g
def gapsF (n : Nat) (ls : List (List Int)) : List Nat := (List.range n).filter (gapP ls)
def uprightF (cl : Int) (n : Nat) (ls : List (List Int)) : List (List Int) := (gapsF n ls).map (freeR cl n ls)
theorem gapP_yes {k : Nat} : gapP ls k = true ↔ k ∉ ls.map leadOf := by
  unfold gapP
  rw [Bool.not_eq_true', ← Bool.not_eq_true, List.contains_iff_mem]
theorem set_gd {xs : List Int} {i k : Nat} {v : Int} : (xs.set i v).getD k 0 = if i = k ∧ i < xs.length then v else xs.getD k 0 := by
  rw [List.getD_eq_getElem?_getD, List.getElem?_set, List.getD_eq_getElem?_getD]
  by_cases e : i = k
  · subst e
    by_cases h : i < xs.length
    · rw [if_pos rfl, if_pos h, if_pos ⟨rfl, h⟩]; rfl
    · rw [if_pos rfl, if_neg h, if_neg (fun z => h z.2), List.getElem?_eq_none (by omega)]
  · rw [if_neg e, if_neg (fun z => e z.1)]
theorem sets_len {w : List Int → Int} : ∀ {ls : List (List Int)} {acc : List Int}, (ls.foldl (fun acc r => acc.set (leadOf r) (w r)) acc).length = acc.length
  | [], _ => rfl
  | r :: ls, acc => by rw [List.foldl_cons, sets_len, List.length_set]
theorem sets_off {w : List Int → Int} {k : Nat} : ∀ {ls : List (List Int)} {acc : List Int}, k ∉ ls.map leadOf → (ls.foldl (fun acc r => acc.set (leadOf r) (w r)) acc).getD k 0 = acc.getD k 0
  | [], _, _ => rfl
  | r :: ls, acc, h => by
    rw [List.map_cons, List.mem_cons, not_or] at h
    rw [List.foldl_cons, sets_off h.2, set_gd, if_neg (fun z => h.1 z.1.symm)]
theorem sets_on {w : List Int → Int} : ∀ {ls : List (List Int)} {acc : List Int}, (ls.map leadOf).Nodup → r ∈ ls → leadOf r < acc.length → (ls.foldl (fun acc r => acc.set (leadOf r) (w r)) acc).getD (leadOf r) 0 = w r
  | [], _, _, m, _ => nomatch m
  | s :: ls, acc, nd, m, lt => by
    rw [List.map_cons, List.nodup_cons] at nd
    rw [List.foldl_cons]
    rcases List.mem_cons.mp m with e | m'
    · subst e
      rw [sets_off nd.1, set_gd, if_pos ⟨rfl, lt⟩]
    · exact sets_on nd.2 m' (by rw [List.length_set]; exact lt)
theorem LF.leads (h : LF cl n ls) : (ls.map leadOf).Nodup := by
  refine List.nodup_iff_pairwise_ne.mpr (List.pairwise_map.mpr (h.asc.imp fun a => by omega))
theorem LF.leads_lt (h : LF cl n ls) : ∀ p ∈ ls.map leadOf, p < n := fun p m => by
  obtain ⟨r, mr, rfl⟩ := List.mem_map.mp m
  exact (h.lead r mr).1
theorem free_len {k : Nat} : (freeR cl n ls k).length = n := by
  unfold freeR
  rw [sets_len, List.length_set]
  exact List.length_replicate ..
theorem free_off {j k : Nat} (hj : j < n) (h : k ∉ ls.map leadOf) : (freeR cl n ls j).getD k 0 = if k = j then 1 else 0 := by
  unfold freeR
  rw [sets_off h, set_gd, zeroR_at]
  by_cases e : k = j
  · rw [if_pos e, if_pos ⟨e.symm, by show j < (List.replicate n (0 : Int)).length; rw [List.length_replicate]; exact hj⟩]
  · rw [if_neg e, if_neg (fun z => e z.1.symm)]
theorem free_on (h : LF cl n ls) {j : Nat} (m : r ∈ ls) : (freeR cl n ls j).getD (leadOf r) 0 = (cl - r.getD j 0) % cl := by
  unfold freeR
  exact sets_on h.leads m (by rw [List.length_set]; show _ < (List.replicate n (0 : Int)).length; rw [List.length_replicate]; exact (h.lead r m).1)
theorem free_ok (h1 : 1 < cl) (h : LF cl n ls) {j : Nat} (hj : j < n) : RowOk cl n (freeR cl n ls j) := by
  refine ⟨free_len, fun v mv => ?_⟩
  obtain ⟨k, hk, e⟩ := List.mem_iff_getElem.mp mv
  have e2 : (freeR cl n ls j).getD k 0 = v := by rw [List.getD_eq_getElem?_getD, List.getElem?_eq_getElem hk, e]; rfl
  by_cases c : k ∈ ls.map leadOf
  · obtain ⟨r, mr, rfl⟩ := List.mem_map.mp c
    rw [free_on h mr] at e2
    have := Int.emod_nonneg (cl - r.getD j 0) (show cl ≠ 0 by omega)
    have := Int.emod_lt_of_pos (cl - r.getD j 0) (show 0 < cl by omega)
    omega
  · rw [free_off hj c] at e2
    split at e2 <;> omega
theorem gaps_mem {k : Nat} : k ∈ gapsF n ls ↔ k < n ∧ k ∉ ls.map leadOf := by
  unfold gapsF
  rw [List.mem_filter, List.mem_range, gapP_yes]
theorem upright_ok (h1 : 1 < cl) (h : LF cl n ls) : RowsOk cl n (uprightF cl n ls) := fun r m => by
  obtain ⟨k, mk, rfl⟩ := List.mem_map.mp m
  exact free_ok h1 h (gaps_mem.mp mk).1
theorem leads_sum {f : Nat → Int} : ((ls.map leadOf).map f).sum = colS ls fun r => f (leadOf r) := by
  unfold colS
  rw [List.map_map]
  rfl
/-- a row of a least form, with any row -/
theorem LF.dot (h : LF cl n ls) (m : r ∈ ls) (x : List Int) : dotR n r x = gS n (fun k => if k ∈ ls.map leadOf then 0 else r.getD k 0 * x.getD k 0) + x.getD (leadOf r) 0 := by
  unfold dotR
  rw [gS_split _ h.leads h.leads_lt, leads_sum, colS_one (r := r) h.nodup m fun s ms ne => by rw [h.clr s ms r m ne, Int.zero_mul], (h.lead r m).2, Int.one_mul]
theorem neg_em {a : Int} (h : 0 < cl) (x : Int) : (x * ((cl - a) % cl)) % cl = (0 + -1 * (x * a)) % cl := by
  rw [Int.mul_emod, Int.emod_emod, ← Int.mul_emod, Int.mul_sub, Int.zero_add, show x * cl - x * a = -1 * (x * a) + cl * x by rw [Int.mul_comm cl x]; omega, Int.add_mul_emod_self_left]
/-- the free rows agree -/
theorem free_perp (h1 : 1 < cl) (h : LF cl n ls) (m : r ∈ ls) {j : Nat} (mj : j ∈ gapsF n ls) : dotR n r (freeR cl n ls j) % cl = 0 := by
  obtain ⟨hj, nj⟩ := gaps_mem.mp mj
  rw [h.dot m, free_on h m]
  have e : gS n (fun k => if k ∈ ls.map leadOf then 0 else r.getD k 0 * (freeR cl n ls j).getD k 0) = r.getD j 0 := by
    rw [← gS_point (c := r.getD j 0) hj]
    refine gS_congr fun k _ => ?_
    by_cases c : k ∈ ls.map leadOf
    · rw [if_pos c, if_neg (fun e => nj (by rw [← e]; exact c))]
    · rw [if_neg c, free_off hj c]
      by_cases e : k = j
      · rw [if_pos e, if_pos e, e, Int.mul_one]
      · rw [if_neg e, if_neg e, Int.mul_zero]
  rw [e, Int.add_emod, Int.emod_emod, ← Int.add_emod, show r.getD j 0 + (cl - r.getD j 0) = cl by omega, Int.emod_self]
/-- what agrees is told by the free rows -/
theorem upright_mem (h1 : 1 < cl) (h : LF cl n ls) : Spn cl n (uprightF cl n ls) x ↔ RowOk cl n x ∧ ∀ r ∈ ls, dotR n r x % cl = 0 := by
  constructor
  · intro a
    refine ⟨a.ok (by omega) (upright_ok h1 h), fun r m => a.perp (by omega) (upright_ok h1 h) fun f mf => ?_⟩
    obtain ⟨k, mk, rfl⟩ := List.mem_map.mp mf
    exact free_perp h1 h m mk
  · rintro ⟨ox, hx⟩
    refine Spn.of_sum (by omega) (upright_ok h1 h) (gapsF n ls) (freeR cl n ls) (fun g => x.getD g 0) (fun g mg => List.mem_map.mpr ⟨g, mg, rfl⟩) ox fun k hk => ?_
    have dx := dig_gd ox.2 (by omega : 0 < cl) k
    unfold gapsF
    rw [filt_sum]
    by_cases c : k ∈ ls.map leadOf
    · obtain ⟨r, mr, rfl⟩ := List.mem_map.mp c
      have d := hx r mr
      rw [h.dot mr] at d
      have e := gS_lin cl (-1) n (fun g => if gapP ls g = true then x.getD g 0 * (freeR cl n ls g).getD (leadOf r) 0 else 0) (fun _ => 0) (fun g => if g ∈ ls.map leadOf then 0 else r.getD g 0 * x.getD g 0) fun g _ => by
        by_cases cg : g ∈ ls.map leadOf
        · rw [if_neg (fun z => gapP_yes.mp z cg), if_pos cg]; rfl
        · rw [if_pos (gapP_yes.mpr cg), if_neg cg, free_on h mr, neg_em (by omega), Int.mul_comm (r.getD g 0)]
      rw [e, gS_none (f := fun _ => 0) fun _ _ => rfl, Int.zero_add]
      generalize gS n (fun k => if k ∈ ls.map leadOf then 0 else r.getD k 0 * x.getD k 0) = S at d ⊢
      have : (-1 * S) % cl = (x.getD (leadOf r) 0 + cl * -((S + x.getD (leadOf r) 0) / cl)) % cl := by
        congr 1
        have := Int.emod_add_mul_ediv (S + x.getD (leadOf r) 0) cl
        rw [d] at this
        rw [Int.mul_neg]
        omega
      rw [this, Int.add_mul_emod_self_left, em_of dx]
    · have e : gS n (fun g => if gapP ls g = true then x.getD g 0 * (freeR cl n ls g).getD k 0 else 0) = x.getD k 0 := by
        rw [← gS_point (c := x.getD k 0) hk]
        refine gS_congr fun g hg => ?_
        by_cases cg : g ∈ ls.map leadOf
        · rw [if_neg (fun z => gapP_yes.mp z cg), if_neg (fun e => c (by rw [← e]; exact cg))]
        · rw [if_pos (gapP_yes.mpr cg), free_off hg c]
          by_cases e : k = g
          · rw [if_pos e, if_pos e.symm, e, Int.mul_one]
          · rw [if_neg e, if_neg (Ne.symm e), Int.mul_zero]
      rw [e, em_of dx]
/-- what agrees with all that agrees -/
theorem upright_perp (h1 : 1 < cl) (h : LF cl n ls) (ox : RowOk cl n x) (d : ∀ j ∈ gapsF n ls, dotR n (freeR cl n ls j) x % cl = 0) : Spn cl n ls x := by
  refine Spn.of_sum (by omega) h.ok ls (fun r => r) (fun r => x.getD (leadOf r) 0) (fun g mg => mg) ox fun k hk => ?_
  have dx := dig_gd ox.2 (by omega : 0 < cl) k
  show _ = (colS ls fun r => x.getD (leadOf r) 0 * r.getD k 0) % cl
  by_cases c : k ∈ ls.map leadOf
  · obtain ⟨r, mr, rfl⟩ := List.mem_map.mp c
    rw [colS_one h.nodup mr fun s ms ne => by rw [h.clr r mr s ms (Ne.symm ne), Int.mul_zero], (h.lead r mr).2, Int.mul_one, em_of dx]
  · have dk := d k (gaps_mem.mpr ⟨hk, c⟩)
    unfold dotR at dk
    rw [gS_split _ h.leads h.leads_lt, leads_sum] at dk
    have e : gS n (fun j => if j ∈ ls.map leadOf then 0 else (freeR cl n ls k).getD j 0 * x.getD j 0) = x.getD k 0 := by
      rw [← gS_point (c := x.getD k 0) hk]
      refine gS_congr fun j _ => ?_
      by_cases cj : j ∈ ls.map leadOf
      · rw [if_pos cj, if_neg (fun e => c (by rw [← e]; exact cj))]
      · rw [if_neg cj, free_off hk cj]
        by_cases e : j = k
        · rw [if_pos e, if_pos e, e, Int.one_mul]
        · rw [if_neg e, if_neg e, Int.zero_mul]
    rw [e] at dk
    have e2 := colS_lin (fun r => (freeR cl n ls k).getD (leadOf r) 0 * x.getD (leadOf r) 0) (fun _ => 0) (fun r => x.getD (leadOf r) 0 * r.getD k 0) (-1) cl ls fun r mr => by
      rw [free_on h mr, Int.mul_comm, neg_em (by omega)]
    rw [colS_zero (fun _ => 0) ls fun _ _ => rfl, Int.zero_add] at e2
    generalize (colS ls fun r => x.getD (leadOf r) 0 * r.getD k 0) = S at e2 ⊢
    rw [Int.add_emod, e2, ← Int.add_emod] at dk
    have : S % cl = (x.getD k 0 + cl * -((x.getD k 0 + -1 * S) / cl)) % cl := by
      congr 1
      have := Int.emod_add_mul_ediv (x.getD k 0 + -1 * S) cl
      rw [dk] at this
      rw [Int.mul_neg]
      omega
    rw [this, Int.add_mul_emod_self_left, em_of dx]
/-! steps -/
def stepsM (cl : Int) (xs : List Int) : List Int := modRow cl (stepsF xs)
theorem stepsM_len : (stepsM cl x).length = x.length := by unfold stepsM; rw [modRow_len, stepsF_len]
theorem stepsM_at {k : Nat} (h : k < x.length) : (stepsM cl x).getD k 0 = stepAt x k % cl := by
  unfold stepsM
  rw [modRow_at, List.getD_eq_getElem?_getD, stepsF_at h]
  rfl
theorem stepsM_ok (h : 0 < cl) (o : RowOk cl n x) : RowOk cl n (stepsM cl x) := ⟨by rw [stepsM_len, o.1], by unfold stepsM; exact modRow_dig h _⟩
theorem stepsM_zero : stepsM cl (zeroR n) = zeroR n := by
  refine row_ext' stepsM_len fun k hk => ?_
  rw [stepsM_len] at hk
  rw [stepsM_at hk]
  unfold stepAt
  rw [zeroR_at, zeroR_at, zeroR_at]
  rfl
theorem stepsM_adM (a : RowOk cl n x) (b : RowOk cl n y) : stepsM cl (adM cl t x y) = adM cl t (stepsM cl x) (stepsM cl y) := by
  have l : x.length = y.length := by rw [a.1, b.1]
  refine row_ext' (by rw [stepsM_len, adM_len l, adM_len (by rw [stepsM_len, stepsM_len, l]), stepsM_len]) fun k hk => ?_
  rw [stepsM_len, adM_len l] at hk
  rw [stepsM_at (by rw [adM_len l]; exact hk), adM_at (by rw [stepsM_len, stepsM_len, l]), stepsM_at hk, stepsM_at (by omega), em_l, em_r]
  unfold stepAt
  rw [adM_len l, ← l, adM_at l, adM_at l, Int.sub_emod, Int.emod_emod, Int.emod_emod, ← Int.sub_emod, Int.mul_sub]
  congr 1
  omega
theorem rsteps_ok (h : 0 < cl) (o : RowsOk cl n rs) : RowsOk cl n (rs.map (stepsM cl)) := fun y m => by
  obtain ⟨z, mz, rfl⟩ := List.mem_map.mp m
  exact stepsM_ok h (o z mz)
theorem Spn.steps (h0 : 0 < cl) (o : RowsOk cl n rs) (a : Spn cl n rs x) : Spn cl n (rs.map (stepsM cl)) (stepsM cl x) := by
  induction a with
  | zero => rw [stepsM_zero]; exact .zero
  | @add x r t a m ih =>
    rw [stepsM_adM (a.ok h0 o) (o r m)]
    exact .add t ih (List.mem_map.mpr ⟨r, m, rfl⟩)
theorem Spn.steps_of (h0 : 0 < cl) (o : RowsOk cl n rs) (a : Spn cl n (rs.map (stepsM cl)) y) : ∃ x, Spn cl n rs x ∧ stepsM cl x = y := by
  induction a with
  | zero => exact ⟨_, .zero, stepsM_zero⟩
  | @add z r t a m ih =>
    obtain ⟨x, sx, ex⟩ := ih
    obtain ⟨s, ms, rfl⟩ := List.mem_map.mp m
    exact ⟨_, sx.add t ms, by rw [stepsM_adM (sx.ok h0 o) (o s ms), ex]⟩
/-- one row with the other's steps is their swing -/
theorem dot_steps (a : RowOk cl n x) (b : RowOk cl n y) : dotR n (stepsM cl x) y % cl = swL x y % cl := by
  rw [← swing_eq (by rw [a.1, b.1])]
  unfold swingF
  rw [zip_sum y (stepsF x) (by rw [stepsF_len, a.1, b.1]), b.1]
  refine gS_mod fun k hk => ?_
  show ((stepsM cl x).getD k 0 * _) % cl = _
  rw [stepsM_at (by rw [a.1]; exact hk), Int.mul_emod, Int.emod_emod, ← Int.mul_emod, Int.mul_comm]
  congr 2
  rw [List.getD_eq_getElem?_getD, stepsF_at (by rw [a.1]; exact hk)]
  rfl
theorem dot_turn (a : RowOk cl n x) (b : RowOk cl n y) : dotR n (stepsM cl x) y % cl = 0 ↔ dotR n x (stepsM cl y) % cl = 0 := by
  have e0 := swL_anti (xs := x) (ys := y) (by rw [a.1, b.1])
  rw [dot_comm x, dot_steps a b, dot_steps b a, e0]
  constructor
  · intro e; exact Int.emod_eq_zero_of_dvd (Int.dvd_neg.mpr (Int.dvd_of_emod_eq_zero e))
  · intro e; exact Int.emod_eq_zero_of_dvd (Int.dvd_neg.mp (Int.dvd_of_emod_eq_zero e))
/-! beside -/
theorem least_spn (hc : cl ∈ clocks) (o : RowsOk cl n rs) : Spn cl n (leastForm cl n rs) x ↔ Spn cl n rs x := by
  obtain ⟨f, a, b⟩ := least_ok hc o
  have c3 := clocks_3 hc
  exact ⟨fun s => s.mono (by omega) f.ok o a, fun s => s.mono (by omega) o f.ok b⟩
theorem least_steps (hc : cl ∈ clocks) (o : RowsOk cl n rs) : leastForm cl n ((leastForm cl n rs).map (stepsM cl)) = leastForm cl n (rs.map (stepsM cl)) := by
  obtain ⟨f, a, b⟩ := least_ok hc o
  have c3 := clocks_3 hc
  refine least_same hc (rsteps_ok (by omega) f.ok) (rsteps_ok (by omega) o) (fun r m => ?_) fun r m => ?_
  · obtain ⟨x, mx, rfl⟩ := List.mem_map.mp m
    exact (a x mx).steps (by omega) o
  · obtain ⟨x, mx, rfl⟩ := List.mem_map.mp m
    exact (b x mx).steps (by omega) f.ok
def besideF (cl : Int) (n : Nat) (rs : List (List Int)) : List (List Int) := leastForm cl n (uprightF cl n (leastForm cl n (rs.map (stepsM cl))))
theorem beside_ok (hc : cl ∈ clocks) (o : RowsOk cl n rs) : RowsOk cl n (uprightF cl n (leastForm cl n (rs.map (stepsM cl)))) := by
  have c3 := clocks_3 hc
  exact upright_ok (by omega) (least_ok hc (rsteps_ok (by omega) o)).1
theorem beside_rows (hc : cl ∈ clocks) (o : RowsOk cl n rs) : LF cl n (besideF cl n rs) := (least_ok hc (beside_ok hc o)).1
theorem beside_least (hc : cl ∈ clocks) (o : RowsOk cl n rs) : besideF cl n (leastForm cl n rs) = besideF cl n rs := by
  unfold besideF
  rw [least_steps hc o]
/-- what stands beside: the rows that swing with none -/
theorem beside_mem (hc : cl ∈ clocks) (o : RowsOk cl n rs) : Spn cl n (besideF cl n rs) x ↔ RowOk cl n x ∧ ∀ y ∈ rs, dotR n (stepsM cl y) x % cl = 0 := by
  have c3 := clocks_3 hc
  have os := rsteps_ok (cl := cl) (n := n) (by omega) o
  unfold besideF
  rw [least_spn hc (beside_ok hc o), upright_mem (by omega) (least_ok hc os).1]
  constructor
  · rintro ⟨ox, h⟩
    refine ⟨ox, fun y my => ?_⟩
    rw [dot_comm]
    refine Spn.perp (by omega) (least_ok hc os).1.ok ((least_spn hc os).mpr (.of (by omega) os (List.mem_map.mpr ⟨y, my, rfl⟩))) fun r mr => ?_
    rw [dot_comm]
    exact h r mr
  · rintro ⟨ox, h⟩
    refine ⟨ox, fun r mr => ?_⟩
    rw [dot_comm]
    refine Spn.perp (by omega) os ((least_ok hc os).2.1 r mr) fun s ms => ?_
    obtain ⟨y, my, rfl⟩ := List.mem_map.mp ms
    rw [dot_comm]
    exact h y my
theorem beside_spn (hc : cl ∈ clocks) (o : RowsOk cl n rs) : Spn cl n (besideF cl n rs) x ↔ RowOk cl n x ∧ ∀ y, Spn cl n rs y → dotR n (stepsM cl y) x % cl = 0 := by
  have c3 := clocks_3 hc
  rw [beside_mem hc o]
  constructor
  · rintro ⟨ox, h⟩
    refine ⟨ox, fun y sy => ?_⟩
    rw [dot_comm]
    refine Spn.perp (by omega) (rsteps_ok (by omega) o) (sy.steps (by omega) o) fun s ms => ?_
    obtain ⟨z, mz, rfl⟩ := List.mem_map.mp ms
    rw [dot_comm]
    exact h z mz
  · rintro ⟨ox, h⟩
    exact ⟨ox, fun y my => h y (.of (by omega) o my)⟩
/-! chess rows -/
def chessL (k : Nat) : List (List Int) := [(List.replicate k [1, 0]).flatten, (List.replicate k [0, 1]).flatten]
theorem flat_at {u v : Int} : ∀ {h k : Nat}, k < 2 * h → ((List.replicate h [u, v]).flatten).getD k 0 = if k % 2 = 0 then u else v
  | 0, _, e => by omega
  | h + 1, 0, _ => rfl
  | h + 1, 1, _ => rfl
  | h + 1, k + 2, e => by
    rw [List.replicate_succ, List.flatten_cons]
    show ((List.replicate h [u, v]).flatten).getD k 0 = _
    rw [flat_at (by omega), Nat.add_mod_right]
theorem flat_len {u v : Int} : ∀ k : Nat, ((List.replicate k [u, v]).flatten).length = 2 * k
  | 0 => rfl
  | k + 1 => by rw [List.replicate_succ, List.flatten_cons, List.length_append, flat_len k]; show 2 + 2 * k = _; omega
theorem flat_ok {u v : Int} (hu : 0 ≤ u ∧ u < cl) (hv : 0 ≤ v ∧ v < cl) (k : Nat) : RowOk cl (2 * k) ((List.replicate k [u, v]).flatten) := by
  refine ⟨flat_len k, fun y m => ?_⟩
  obtain ⟨i, hi, e⟩ := List.mem_iff_getElem.mp m
  have z := flat_at (u := u) (v := v) (h := k) (k := i) (by rw [flat_len] at hi; exact hi)
  rw [List.getD_eq_getElem?_getD, List.getElem?_eq_getElem hi, e] at z
  have z' : y = if i % 2 = 0 then u else v := z
  split at z' <;> omega
theorem chessL_ok (h : 1 < cl) (k : Nat) : RowsOk cl (2 * k) (chessL k) := fun r m => by
  rcases List.mem_cons.mp m with e | m
  · rw [e]; exact flat_ok (by omega) (by omega) k
  · rw [List.mem_singleton.mp m]; exact flat_ok (by omega) (by omega) k
/-- rows without steps are sums of the chess rows -/
theorem steps_none (h : 1 < cl) {k : Nat} (ox : RowOk cl (2 * k) x) (e : stepsM cl x = zeroR (2 * k)) : Spn cl (2 * k) (chessL k) x := by
  have nx : ∀ j, j + 2 < 2 * k → x.getD (j + 2) 0 = x.getD j 0 := fun j hj => by
    have z := stepsM_at (cl := cl) (x := x) (k := j + 1) (by rw [ox.1]; omega)
    rw [e, zeroR_at] at z
    unfold stepAt at z
    rw [if_neg (by omega), if_neg (by rw [ox.1]; omega), Nat.add_sub_cancel] at z
    have a := dig_gd ox.2 (by omega : 0 < cl) j
    have b := dig_gd ox.2 (by omega : 0 < cl) (j + 1 + 1)
    have d := Int.emod_emod_of_dvd
    have c1 : x.getD j 0 % cl = x.getD (j + 1 + 1) 0 % cl := Int.emod_eq_emod_iff_emod_sub_eq_zero.mpr z.symm
    rw [em_of a, em_of b] at c1
    exact c1.symm
  have par : ∀ j, j < 2 * k → x.getD j 0 = x.getD (j % 2) 0 := fun j => by
    induction j using Nat.strongRecOn with
    | ind j ih =>
      intro hj
      by_cases c : j < 2
      · rw [Nat.mod_eq_of_lt c]
      · obtain ⟨i, rfl⟩ : ∃ i, j = i + 2 := ⟨j - 2, by omega⟩
        rw [nx i hj, ih i (by omega) (by omega), Nat.add_mod_right]
  refine Spn.of_sum (by omega) (chessL_ok h k) [0, 1] (fun g : Nat => (List.replicate k [if g = 0 then 1 else 0, if g = 0 then 0 else 1]).flatten) (fun g => x.getD g 0) (fun g mg => ?_) ox fun j hj => ?_
  · rcases List.mem_cons.mp mg with e | m
    · subst e; exact List.mem_cons_self ..
    · rw [List.mem_singleton.mp m]; exact List.mem_cons_of_mem _ (List.mem_cons_self ..)
  · have dx := dig_gd ox.2 (by omega : 0 < cl) (j % 2)
    rw [par j hj]
    show _ = (x.getD 0 0 * ((List.replicate k [1, 0]).flatten).getD j 0 + (x.getD 1 0 * ((List.replicate k [0, 1]).flatten).getD j 0 + 0)) % cl
    rw [flat_at hj, flat_at hj]
    rcases Nat.mod_two_eq_zero_or_one j with e | e
    · rw [e] at dx ⊢
      rw [if_pos rfl, if_pos rfl, Int.mul_one, Int.mul_zero, Int.zero_add, Int.add_zero, em_of dx]
    · rw [e] at dx ⊢
      rw [if_neg (by decide), if_neg (by decide), Int.mul_one, Int.mul_zero, Int.zero_add, Int.add_zero, em_of dx]
theorem chess_steps (h : 1 < cl) {k : Nat} : ∀ r ∈ chessL k, stepsM cl r = zeroR (2 * k) := fun r m => by
  have aux : ∀ u v : Int, stepsM cl ((List.replicate k [u, v]).flatten) = zeroR (2 * k) := fun u v => by
    refine row_ext' (by rw [stepsM_len, flat_len]; exact (List.length_replicate ..).symm) fun j hj => ?_
    rw [stepsM_len, flat_len] at hj
    rw [stepsM_at (by rw [flat_len]; exact hj), zeroR_at]
    unfold stepAt
    rw [flat_len, flat_at (by split <;> omega), flat_at (by split <;> omega)]
    have e : (if j = 0 then 2 * k - 1 else j - 1) % 2 = (if j + 1 = 2 * k then 0 else j + 1) % 2 := by split <;> split <;> omega
    rw [e, Int.sub_self]
    rfl
  rcases List.mem_cons.mp m with e | m
  · rw [e]; exact aux 1 0
  · rw [List.mem_singleton.mp m]; exact aux 0 1
theorem ok_append (o : RowsOk cl n rs) (o2 : RowsOk cl n ss) : RowsOk cl n (rs ++ ss) := fun r m => (List.mem_append.mp m).elim (o r) (o2 r)
/-- beside what stands beside -/
theorem beside_beside (hc : cl ∈ clocks) {k : Nat} (o : RowsOk cl (2 * k) rs) : besideF cl (2 * k) (besideF cl (2 * k) rs) = leastForm cl (2 * k) (rs ++ chessL k) := by
  have c3 := clocks_3 hc
  have oc := chessL_ok (cl := cl) (by omega) k
  have oa := ok_append o oc
  have ob := (beside_rows hc o).ok
  refine (least_is hc oa (beside_rows hc ob) (fun r m => ?_) fun r m => ?_).symm
  · obtain ⟨or, hr⟩ := (beside_spn hc ob).mp (.of (by omega) (beside_rows hc ob).ok m)
    have os := rsteps_ok (cl := cl) (n := 2 * k) (by omega) o
    have f := (least_ok hc os).1
    have s := upright_perp (by omega) f (stepsM_ok (by omega) or) fun j mj => by
      have mf : freeR cl (2 * k) (leastForm cl (2 * k) (rs.map (stepsM cl))) j ∈ uprightF cl (2 * k) (leastForm cl (2 * k) (rs.map (stepsM cl))) := List.mem_map.mpr ⟨j, mj, rfl⟩
      exact (dot_turn (beside_ok hc o _ mf) or).mp (hr _ ((least_spn hc (beside_ok hc o)).mpr (.of (by omega) (beside_ok hc o) mf)))
    obtain ⟨z, sz, ez⟩ := ((least_spn hc os).mp s).steps_of (by omega) o
    have oz := sz.ok (by omega) o
    have sc := steps_none (x := adM cl (-1) r z) (by omega) (adM_ok (by omega) or oz) (by
      rw [stepsM_adM or oz, ez]
      refine row_ext' (by rw [adM_len rfl, stepsM_len, or.1]; exact (List.length_replicate ..).symm) fun j _ => ?_
      rw [adM_at rfl, zeroR_at, show (stepsM cl r).getD j 0 + -1 * (stepsM cl r).getD j 0 = 0 by omega]
      rfl)
    have e := adM_back (t := -1) (by omega : 0 < cl) or oz
    have s2 := (sc.sub (ss := rs ++ chessL k) fun r m => List.mem_append.mpr (.inr m)).comb (by omega) oa (sz.sub fun r m => List.mem_append.mpr (.inl m)) (-(-1))
    rw [e] at s2
    exact s2
  · refine (beside_mem hc ob).mpr ⟨oa r m, fun y my => ?_⟩
    have oy := ob y my
    rw [dot_turn oy (oa r m)]
    rcases List.mem_append.mp m with mr | mc
    · rw [dot_comm]
      exact ((beside_mem hc o).mp (.of (by omega) ob my)).2 r mr
    · rw [chess_steps (by omega) r mc, dot_zero]
      rfl
theorem beside_thrice (hc : cl ∈ clocks) {k : Nat} (o : RowsOk cl (2 * k) rs) : besideF cl (2 * k) (besideF cl (2 * k) (besideF cl (2 * k) rs)) = besideF cl (2 * k) rs := by
  have c3 := clocks_3 hc
  have oc := chessL_ok (cl := cl) (by omega) k
  have oa := ok_append o oc
  rw [beside_beside hc o, beside_least hc oa]
  refine LF.one (by omega) (beside_rows hc oa) (beside_rows hc o) (fun r m => ?_) fun r m => ?_
  · obtain ⟨ox, h⟩ := (beside_mem hc oa).mp (.of (by omega) (beside_rows hc oa).ok m)
    exact (beside_mem hc o).mpr ⟨ox, fun y my => h y (List.mem_append.mpr (.inl my))⟩
  · obtain ⟨ox, h⟩ := (beside_mem hc o).mp (.of (by omega) (beside_rows hc o).ok m)
    refine (beside_mem hc oa).mpr ⟨ox, fun y my => ?_⟩
    rcases List.mem_append.mp my with mr | mc
    · exact h y mr
    · rw [chess_steps (by omega) y mc, dot_comm, dot_zero]
      rfl
theorem beside_swing (hc : cl ∈ clocks) (o : RowsOk cl n rs) (mx : x ∈ rs) (my : y ∈ besideF cl n rs) : swL x y % cl = 0 := by
  have c3 := clocks_3 hc
  have ob := (beside_rows hc o).ok
  rw [← dot_steps (o x mx) (ob y my)]
  exact ((beside_mem hc o).mp (.of (by omega) ob my)).2 x mx
end
end Rp
namespace Rp
open PySem PySem.Spec PyProof.Rows L2 LamX RZ
section
variable {J : It} {n : Nat} {G : Hp → Prop} {Y : Nat → Hp → V → Hp → Prop} {g : TG} {te : TE} {tt : TT} {vs : List Nat} {σ : L2.St} {H1 : Hp} {D : Addr} {Qd : Hp → Prop}
/-- rows, of those of which a test holds -/
theorem lc_fltR (W : Walk J n G Y) (p : Nat → Bool) (f : Nat → List Int) (hG : ∀ H, Same H1 H → G H) (hD : H1 D = none) (hn : n < sizeLine)
    (step : ∀ i x H H', i < n → Same H1 H → (∃ xs, H D = some (.lst xs)) → Y i H x H' → ∀ (T : VK) (F : Hp → Prop), (p i = true → ∀ a H4, Same H H4 → a ≠ D → H4 a = some (.lst ((f i).map V.int)) → T (.ref a) H4) → (p i = false → ∀ H4, Same H H4 → F H4) →
      g x (wipe σ vs) H' fun σ2 H2 => wipe σ2 vs = wipe σ vs ∧ tt σ2 H2 fun b H3 => if b = true then te σ2 H3 T else F H3)
    (done : ∀ H as, Same H1 H → H D = some (.lst (as.map V.ref)) → LstRw D H as (((List.range n).filter p).map f) → Qd H) :
    ∃ W : Nat → Nat → Hp → Prop, (∃ m, W 0 m (upd H1 D (.lst []))) ∧ ∀ (i m : Nat) (H : Hp), W i m H → J.stop i H ∧ Qd H ∨ J.go i H ∧ ∃ Nx : Hp → Prop, (∀ H', Nx H' → ∃ m', m' < m ∧ W (i + 1) m' H') ∧
      ∀ (x : V) (H' : Hp), J.yld i H x H' → g x (wipe σ vs) H' fun σ2 H2 => wipe σ2 vs = wipe σ vs ∧ tt σ2 H2 fun b H3 => if b = true then te σ2 H3 fun y H4 => ∃ acc, H4 D = some (.lst acc) ∧ acc.length < sizeLine ∧ Nx (upd H4 D (.lst (acc ++ [y]))) else Nx H3 := by
  refine lc_it W (tt := tt) (fun i H => Same H1 H ∧ ∃ as, H D = some (.lst (as.map V.ref)) ∧ LstRw D H as (((List.range i).filter p).map f)) ⟨same_neu (Same.refl _) hD, [], upd_same, rfl, fun i a xs e => by simp at e⟩ (fun i H _ h => hG H h.1) ?_ ?_
  · rintro i x H H' hi ⟨s, as, eD, R⟩ hY
    refine step i x H H' hi s ⟨_, eD⟩ hY _ _ (fun pt a H4 s4 na ea => ?_) fun pf H4 s4 => ?_
    · refine ⟨_, s4 _ _ eD, ?_, fun b o e => ?_, as ++ [a], ?_, ?_⟩
      · rw [List.length_map, R.1, List.length_map]
        refine Nat.lt_of_le_of_lt (List.length_filter_le _ _) ?_
        rw [List.length_range]
        omega
      · rw [upd_ne (ne_of_none e hD)]
        exact s4 b o (s b o e)
      · rw [upd_same, List.map_append]
        rfl
      · rw [List.range_succ, List.filter_append, List.map_append, List.filter_cons_of_pos pt]
        exact ((R.same s4).snoc na ea).but fun b o nb e => by rw [upd_ne nb]; exact e
    · refine ⟨fun b o e => s4 b o (s b o e), as, s4 _ _ eD, ?_⟩
      rw [List.range_succ, List.filter_append, List.map_append, List.filter_cons_of_neg (by rw [pf]; decide)]
      show LstRw D H4 as (_ ++ [])
      rw [List.append_nil]
      exact R.same s4
  · rintro H ⟨s, as, eD, R⟩
    exact done H as s eD R
end
/-- what stands in a list of ints -/
theorem inV_ints {i : Int} : ∀ {xs : List Int}, inV (.int i) (xs.map V.int) = xs.contains i
  | [] => rfl
  | x :: xs => by
    have ih := inV_ints (i := i) (xs := xs)
    unfold inV at ih ⊢
    rw [List.map_cons, List.any_cons, List.contains_cons, ih]
    congr 1
    show (x == i) = (i == x)
    by_cases e : x = i
    · rw [e]
    · rw [beq_eq_false_iff_ne.mpr e, beq_eq_false_iff_ne.mpr (Ne.symm e)]
end Rp
namespace Rp
/-! ### how many rows a space has; fair spaces -/
section
variable {cl t u : Int} {n m : Nat} {x y r s : List Int} {rs ss ks ls : List (List Int)}
def dimF (cl : Int) (n : Nat) (rs : List (List Int)) : Nat := (leastForm cl n rs).length
theorem back_len {ls : List (Nat × List Int)} : ∀ {as : List Nat} {st : List (Nat × List Int) × List (List Int)}, (as.foldl (backOne cl ls) st).2.length = st.2.length + as.length
  | [], _ => rfl
  | a :: as, st => by
    rw [List.foldl_cons, back_len]
    show (st.2 ++ [_]).length + as.length = _
    rw [List.length_append, List.length_singleton, List.length_cons]
    omega
theorem dim_leading : dimF cl n rs = (leading cl n rs).length := by
  unfold dimF leastForm
  show ((descend ((leading cl n rs).map (·.1))).foldl (backOne cl (leading cl n rs)) ([], [])).2.reverse.length = _
  rw [List.length_reverse, back_len, (descend_perm _).length_eq, List.length_map]
  exact Nat.zero_add _
theorem ok_snoc (o : RowsOk cl n rs) (ox : RowOk cl n x) : RowsOk cl n (rs ++ [x]) := fun y m => by
  rcases List.mem_append.mp m with m | m
  · exact o y m
  · rw [List.mem_singleton.mp m]; exact ox
theorem dim_same (hc : cl ∈ clocks) (o : RowsOk cl n rs) (o2 : RowsOk cl n ss) (f1 : ∀ r ∈ rs, Spn cl n ss r) (f2 : ∀ r ∈ ss, Spn cl n rs r) : dimF cl n rs = dimF cl n ss := by
  unfold dimF
  rw [least_same hc o o2 f1 f2]
theorem dim_in (hc : cl ∈ clocks) (o : RowsOk cl n rs) (h : Spn cl n rs x) : dimF cl n (rs ++ [x]) = dimF cl n rs := by
  have c3 := clocks_3 hc
  refine dim_same hc (ok_snoc o (h.ok (by omega) o)) o (fun r m => ?_) fun r m => ?_
  · rcases List.mem_append.mp m with m | m
    · exact .of (by omega) o m
    · rw [List.mem_singleton.mp m]; exact h
  · exact .of (by omega) (ok_snoc o (h.ok (by omega) o)) (List.mem_append_left _ m)
theorem dim_new (hc : cl ∈ clocks) (o : RowsOk cl n rs) (ox : RowOk cl n x) (h : ¬ Spn cl n rs x) : dimF cl n (rs ++ [x]) = dimF cl n rs + 1 := by
  have c3 := clocks_3 hc
  have h0 : 0 < cl := by omega
  have S := leading_S hc o
  have e : leading cl n (rs ++ [x]) = ldOne cl n (leading cl n rs) x := by
    unfold leading
    rw [List.foldl_append]
    rfl
  rw [dim_leading, dim_leading, e, ldOne_eq]
  have oL := left_M h0 S.I.ok ox
  have okL : RowOk cl n (leftOf cl (leading cl n rs) x) := by rw [oL]; exact clrM_ok h0 S.I.ok ox
  have z : ∀ l ∈ leading cl n rs, (leftOf cl (leading cl n rs) x).getD l.1 0 = 0 := by rw [oL]; exact S.I.zero h0 ox
  have hl : leadOf (leftOf cl (leading cl n rs) x) < n := by
    refine Classical.byContradiction fun hl => h ?_
    have oN := rowsL_ok S.I.ok
    have e : leadOf (leftOf cl (leading cl n rs) x) = (leftOf cl (leading cl n rs) x).length := by
      have := leadOf_le (leftOf cl (leading cl n rs) x)
      rw [okL.1] at this ⊢
      omega
    have w : Spn cl n (rowsL (leading cl n rs)) x := by
      refine clrM_back h0 oN S.I.ok ox (fun l ml => .of h0 oN (rowsL_mem ml)) ?_
      rw [← oL, full_zero e, okL.1]
      exact .zero
    exact w.mono h0 oN o fun r m => by
      obtain ⟨l, ml, rfl⟩ := List.mem_map.mp m
      exact S.to l ml
  have new : ∀ l ∈ leading cl n rs, l.1 ≠ leadOf (leftOf cl (leading cl n rs) x) := fun l m e => by
    have w := z l m
    rw [e] at w
    exact lead_ne (by rw [okL.1]; exact hl) w
  rw [if_pos hl, putL_new new, List.length_append]
  rfl
theorem dim_none (hc : cl ∈ clocks) : dimF cl n [] = 0 := by
  rw [dim_leading]
  rfl
theorem dim_grow (hc : cl ∈ clocks) : ∀ {us rs : List (List Int)}, RowsOk cl n rs → RowsOk cl n us → dimF cl n rs ≤ dimF cl n (rs ++ us)
  | [], rs, _, _ => by rw [List.append_nil]; exact Nat.le_refl _
  | u :: us, rs, o, ou => by
    have ox := ou u (List.mem_cons_self ..)
    have a := dim_grow hc (us := us) (ok_snoc o ox) fun y m => ou y (List.mem_cons_of_mem _ m)
    rw [List.append_assoc] at a
    refine Nat.le_trans ?_ a
    by_cases h : Spn cl n rs u
    · rw [dim_in hc o h]; exact Nat.le_refl _
    · rw [dim_new hc o ox h]; omega
theorem dim_mono (hc : cl ∈ clocks) (o : RowsOk cl n rs) (o2 : RowsOk cl n ss) (f : ∀ r ∈ rs, Spn cl n ss r) : dimF cl n rs ≤ dimF cl n ss := by
  have c3 := clocks_3 hc
  refine Nat.le_trans (dim_grow hc o o2) (Nat.le_of_eq (dim_same hc (ok_append o o2) o2 (fun r m => ?_) fun r m => ?_))
  · rcases List.mem_append.mp m with m | m
    · exact f r m
    · exact .of (by omega) o2 m
  · exact .of (by omega) (ok_append o o2) (List.mem_append_right _ m)
theorem dim_all (hc : cl ∈ clocks) (o : RowsOk cl n rs) (o2 : RowsOk cl n ss) (f : ∀ r ∈ rs, Spn cl n ss r) (d : dimF cl n ss ≤ dimF cl n rs) (a : Spn cl n ss x) : Spn cl n rs x := by
  have c3 := clocks_3 hc
  refine Classical.byContradiction fun h => ?_
  have ox := a.ok (by omega) o2
  have e := dim_new hc o ox h
  have g := dim_mono hc (ok_snoc o ox) o2 fun r m => by
    rcases List.mem_append.mp m with m | m
    · exact f r m
    · rw [List.mem_singleton.mp m]; exact a
  omega
/-- rows made of others, one for each -/
theorem dim_map (hc : cl ∈ clocks) {n' : Nat} {T : List Int → List Int} (ok : RowsOk cl n ks) (hT : ∀ x, RowOk cl n x → RowOk cl n' (T x))
    (h : ∀ p x, RowsOk cl n p → RowOk cl n x → (Spn cl n (ks ++ p) x ↔ Spn cl n' (p.map T) (T x))) (o : RowsOk cl n rs) : dimF cl n (ks ++ rs) = dimF cl n ks + dimF cl n' (rs.map T) := by
  have okm : ∀ {p : List (List Int)}, RowsOk cl n p → RowsOk cl n' (p.map T) := fun o y m => by
    obtain ⟨z, mz, rfl⟩ := List.mem_map.mp m
    exact hT z (o z mz)
  have aux : ∀ (us p : List (List Int)), RowsOk cl n p → RowsOk cl n us → dimF cl n (ks ++ p) = dimF cl n ks + dimF cl n' (p.map T) → dimF cl n (ks ++ (p ++ us)) = dimF cl n ks + dimF cl n' ((p ++ us).map T) := by
    intro us
    induction us with
    | nil => intro p _ _ e; rw [List.append_nil]; exact e
    | cons u us ih =>
      intro p op ou e
      have ox := ou u (List.mem_cons_self ..)
      have w := ih (p ++ [u]) (ok_snoc op ox) (fun y m => ou y (List.mem_cons_of_mem _ m)) ?_
      · rw [List.append_assoc] at w
        exact w
      · rw [← List.append_assoc, List.map_append, List.map_cons, List.map_nil]
        by_cases c : Spn cl n (ks ++ p) u
        · rw [dim_in hc (ok_append ok op) c, dim_in hc (okm op) ((h p u op ox).mp c), e]
        · rw [dim_new hc (ok_append ok op) ox c, dim_new hc (okm op) (hT u ox) fun z => c ((h p u op ox).mpr z), e]
          omega
  have z := aux rs [] (fun _ m => nomatch m) o (by rw [List.append_nil, List.map_nil, dim_none hc]; rfl)
  rw [List.nil_append] at z
  exact z
/-- a way of making rows of others that keeps sums and multiples -/
structure Lin (cl : Int) (n n' : Nat) (T : List Int → List Int) : Prop where
  ok : ∀ x, RowOk cl n x → RowOk cl n' (T x)
  zero : T (zeroR n) = zeroR n'
  lin : ∀ x y t, RowOk cl n x → RowOk cl n y → T (adM cl t x y) = adM cl t (T x) (T y)
variable {n' : Nat} {T : List Int → List Int}
theorem Lin.rows (L : Lin cl n n' T) (o : RowsOk cl n rs) : RowsOk cl n' (rs.map T) := fun y m => by
  obtain ⟨z, mz, rfl⟩ := List.mem_map.mp m
  exact L.ok z (o z mz)
theorem Lin.spn (L : Lin cl n n' T) (h0 : 0 < cl) (o : RowsOk cl n rs) (a : Spn cl n rs x) : Spn cl n' (rs.map T) (T x) := by
  induction a with
  | zero => rw [L.zero]; exact .zero
  | @add x r t a m ih =>
    rw [L.lin x r t (a.ok h0 o) (o r m)]
    exact .add t ih (List.mem_map.mpr ⟨r, m, rfl⟩)
theorem Lin.of (L : Lin cl n n' T) (h0 : 0 < cl) (o : RowsOk cl n rs) (a : Spn cl n' (rs.map T) y) : ∃ x, Spn cl n rs x ∧ T x = y := by
  induction a with
  | zero => exact ⟨_, .zero, L.zero⟩
  | @add z r t a m ih =>
    obtain ⟨x, sx, ex⟩ := ih
    obtain ⟨s, ms, rfl⟩ := List.mem_map.mp m
    exact ⟨_, sx.add t ms, by rw [L.lin x s t (sx.ok h0 o) (o s ms), ex]⟩
theorem Lin.dim (L : Lin cl n n' T) (hc : cl ∈ clocks) (inj : ∀ x y, RowOk cl n x → RowOk cl n y → T x = T y → x = y) (o : RowsOk cl n rs) : dimF cl n' (rs.map T) = dimF cl n rs := by
  have c3 := clocks_3 hc
  have z := dim_map hc (ks := []) (rs := rs) (T := T) (n := n) (n' := n') (fun _ m => nomatch m) L.ok (fun p x op ox => by
    rw [List.nil_append]
    refine ⟨fun a => L.spn (by omega) op a, fun a => ?_⟩
    obtain ⟨w, sw, ew⟩ := L.of (by omega) op a
    rw [← inj w x (sw.ok (by omega) op) ox ew]
    exact sw) o
  rw [List.nil_append, dim_none hc, Nat.zero_add] at z
  exact z.symm
theorem Spn.none_at {k : Nat} (h0 : 0 < cl) (o : RowsOk cl n rs) (a : Spn cl n rs x) (h : ∀ r ∈ rs, r.getD k 0 = 0) : x.getD k 0 = 0 := by
  induction a with
  | zero => exact zeroR_at k
  | @add x r t a m ih =>
    rw [adM_at (by rw [(a.ok h0 o).1, (o r m).1]), ih, h r m]
    simp
theorem dim_units (hc : cl ∈ clocks) (row : Nat → List Int) {gs : List Nat} (nd : gs.Nodup) (o : ∀ g ∈ gs, RowOk cl n (row g)) (h1 : ∀ g ∈ gs, (row g).getD g 0 ≠ 0) (h2 : ∀ g ∈ gs, ∀ h ∈ gs, h ≠ g → (row g).getD h 0 = 0) : dimF cl n (gs.map row) = gs.length := by
  have c3 := clocks_3 hc
  have aux : ∀ (us p : List Nat), (p ++ us).Nodup → (∀ g ∈ p ++ us, RowOk cl n (row g)) → (∀ g ∈ p ++ us, (row g).getD g 0 ≠ 0) → (∀ g ∈ p ++ us, ∀ h ∈ p ++ us, h ≠ g → (row g).getD h 0 = 0) → dimF cl n (p.map row) = p.length → dimF cl n ((p ++ us).map row) = (p ++ us).length := by
    intro us
    induction us with
    | nil => intro p _ _ _ _ e; rw [List.append_nil]; exact e
    | cons u us ih =>
      intro p nd o h1 h2 e
      have w := ih (p ++ [u])
      rw [List.append_assoc] at w
      refine w nd o h1 h2 ?_
      have mu : u ∈ p ++ u :: us := List.mem_append.mpr (.inr (List.mem_cons_self ..))
      have op : RowsOk cl n (p.map row) := fun y m => by
        obtain ⟨z, mz, rfl⟩ := List.mem_map.mp m
        exact o z (List.mem_append.mpr (.inl mz))
      rw [List.map_append, List.map_cons, List.map_nil, dim_new hc op (o u mu) fun a => ?_, e, List.length_append]
      · rfl
      · refine h1 u mu (a.none_at (by omega) op fun r m => ?_)
        obtain ⟨g, mg, rfl⟩ := List.mem_map.mp m
        refine h2 g (List.mem_append.mpr (.inl mg)) u mu fun e => ?_
        rw [← e] at mg
        exact (List.nodup_append.mp nd).2.2 u mg u (List.mem_cons_self ..) rfl
  have z := aux gs [] (by rw [List.nil_append]; exact nd) (by rw [List.nil_append]; exact o) (by rw [List.nil_append]; exact h1) (by rw [List.nil_append]; exact h2) (dim_none hc)
  rw [List.nil_append] at z
  exact z
theorem gS_ones : ∀ n : Nat, gS n (fun _ => 1) = (n : Int)
  | 0 => rfl
  | n + 1 => by rw [gS_succ, gS_ones n]; omega
theorem sum_ones {α : Type} : ∀ ls : List α, (ls.map fun _ => (1 : Int)).sum = (ls.length : Int)
  | [] => rfl
  | _ :: ls => by rw [List.map_cons, List.sum_cons, sum_ones ls, List.length_cons]; omega
theorem gaps_len (h : LF cl n ls) : (gapsF n ls).length + ls.length = n := by
  have a := filt_sum (gapP ls) (fun _ => 1) n
  have b := gS_split (n := n) (fun _ => 1) h.leads h.leads_lt
  rw [sum_ones, List.length_map, gS_ones] at b
  have e : gS n (fun k => if gapP ls k = true then 1 else 0) = gS n (fun k => if k ∈ ls.map leadOf then 0 else 1) := gS_congr fun k _ => by
    by_cases c : k ∈ ls.map leadOf
    · rw [if_pos c, if_neg (fun z => gapP_yes.mp z c)]
    · rw [if_neg c, if_pos (gapP_yes.mpr c)]
  rw [← e, ← a, sum_ones] at b
  show ((List.range n).filter (gapP ls)).length + ls.length = n
  omega
theorem dim_upright (hc : cl ∈ clocks) (h : LF cl n ls) : dimF cl n (uprightF cl n ls) + ls.length = n := by
  have c3 := clocks_3 hc
  have e := dim_units hc (freeR cl n ls) (gs := gapsF n ls) (n := n) ((List.nodup_range (n := n)).filter _) (fun g m => free_ok (by omega) h (gaps_mem.mp m).1) (fun g m => by rw [free_off (gaps_mem.mp m).1 (gaps_mem.mp m).2, if_pos rfl]; decide) (fun g m k mk ne => by rw [free_off (gaps_mem.mp m).1 (gaps_mem.mp mk).2, if_neg ne])
  have g := gaps_len h
  unfold uprightF
  omega
theorem dim_chess (hc : cl ∈ clocks) (m1 : 1 ≤ m) : dimF cl (2 * m) (chessL m) = 2 := by
  have c3 := clocks_3 hc
  have ok := chessL_ok (cl := cl) (by omega) m
  have z := dim_units hc (n := 2 * m) (fun g => if g = 0 then (List.replicate m [1, 0]).flatten else (List.replicate m [0, 1]).flatten) (gs := [0, 1]) (by decide) (fun g mg => by
    split
    · exact ok _ (List.mem_cons_self ..)
    · exact ok _ (List.mem_cons_of_mem _ (List.mem_cons_self ..))) (fun g mg => by
    rcases List.mem_cons.mp mg with e | e
    · subst e; rw [if_pos rfl, flat_at (by omega)]; decide
    · rw [List.mem_singleton.mp e, if_neg (by decide), flat_at (by omega)]; decide) (fun g mg h mh ne => by
    rcases List.mem_cons.mp mg with e | e <;> rcases List.mem_cons.mp mh with e2 | e2
    · exact absurd (e2.trans e.symm) ne
    · rw [List.mem_singleton.mp e2]; subst e; rw [if_pos rfl, flat_at (by omega)]; decide
    · rw [List.mem_singleton.mp e]; subst e2; rw [if_neg (by decide), flat_at (by omega)]; decide
    · exact absurd ((List.mem_singleton.mp e2).trans (List.mem_singleton.mp e).symm) ne)
  exact z
theorem lin_steps (h0 : 0 < cl) : Lin cl n n (stepsM cl) := ⟨fun x o => stepsM_ok h0 o, stepsM_zero, fun x y t a b => stepsM_adM a b⟩
/-- the chess rows are what steps lose -/
theorem dim_steps (hc : cl ∈ clocks) (m1 : 1 ≤ m) (o : RowsOk cl (2 * m) rs) : dimF cl (2 * m) (chessL m ++ rs) = 2 + dimF cl (2 * m) (rs.map (stepsM cl)) := by
  have c3 := clocks_3 hc
  have oc := chessL_ok (cl := cl) (by omega) m
  have e2 := dim_chess hc m1
  refine (dim_map (T := stepsM cl) hc oc (fun x o => stepsM_ok (by omega) o) (fun p x op ox => ⟨fun a => ?_, fun a => ?_⟩) o).trans (by rw [e2])
  · have z := (lin_steps (n := 2 * m) (show 0 < cl by omega)).spn (by omega) (ok_append oc op) a
    refine z.mono (by omega) (rsteps_ok (by omega) (ok_append oc op)) (rsteps_ok (by omega) op) fun r mr => ?_
    obtain ⟨w, mw, rfl⟩ := List.mem_map.mp mr
    rcases List.mem_append.mp mw with mw | mw
    · rw [chess_steps (by omega) w mw]; exact .zero
    · exact .of (by omega) (rsteps_ok (by omega) op) (List.mem_map.mpr ⟨w, mw, rfl⟩)
  · obtain ⟨z, sz, ez⟩ := a.steps_of (by omega) op
    have oz := sz.ok (by omega) op
    have sc := steps_none (x := adM cl (-1) x z) (by omega) (adM_ok (by omega) ox oz) (by
      rw [stepsM_adM ox oz, ez]
      refine row_ext' (by rw [adM_len rfl, stepsM_len, ox.1]; exact (List.length_replicate ..).symm) fun j _ => ?_
      rw [adM_at rfl, zeroR_at, show (stepsM cl x).getD j 0 + -1 * (stepsM cl x).getD j 0 = 0 by omega]
      rfl)
    have e := adM_back (t := -1) (by omega : 0 < cl) ox oz
    have s2 := (sc.sub (ss := chessL m ++ p) fun r mr => List.mem_append.mpr (.inl mr)).comb (by omega) (ok_append oc op) (sz.sub fun r mr => List.mem_append.mpr (.inr mr)) (-(-1))
    rw [e] at s2
    exact s2
theorem beside_dim (hc : cl ∈ clocks) (o : RowsOk cl n rs) : (besideF cl n rs).length + dimF cl n (rs.map (stepsM cl)) = n := by
  have c3 := clocks_3 hc
  exact dim_upright hc (least_ok hc (rsteps_ok (by omega) o)).1
/-- no two of them swing -/
def Agr (cl : Int) (rs : List (List Int)) : Prop := ∀ x ∈ rs, ∀ y ∈ rs, swL x y % cl = 0
theorem Agr.spn (hc : cl ∈ clocks) (o : RowsOk cl n rs) (h : Agr cl rs) (a : Spn cl n rs x) (b : Spn cl n rs y) : swL x y % cl = 0 := by
  have c3 := clocks_3 hc
  have h0 : 0 < cl := by omega
  have h1 : ∀ z ∈ rs, dotR n (stepsM cl x) z % cl = 0 := fun z mz => by
    rw [dot_turn (a.ok h0 o) (o z mz), dot_comm]
    refine Spn.perp h0 o a fun r mr => ?_
    rw [dot_steps (o z mz) (o r mr)]
    exact h z mz r mr
  rw [← dot_steps (a.ok h0 o) (b.ok h0 o)]
  exact Spn.perp h0 o b h1
theorem fair_iff (hc : cl ∈ clocks) (m1 : 1 ≤ m) (o : RowsOk cl (2 * m) rs) : besideF cl (2 * m) rs = leastForm cl (2 * m) rs ↔ dimF cl (2 * m) rs = m + 1 ∧ Agr cl (leastForm cl (2 * m) rs) := by
  have c3 := clocks_3 hc
  have h0 : 0 < cl := by omega
  have oc := chessL_ok (cl := cl) (by omega) m
  have d1 := beside_dim hc o
  have d2 := dim_steps hc m1 o
  have fl := (least_ok hc o).1
  constructor
  · intro e
    have chess : ∀ r ∈ chessL m, Spn cl (2 * m) rs r := fun r mr => by
      rw [← least_spn hc o, ← e, beside_mem hc o]
      refine ⟨oc r mr, fun y my => ?_⟩
      rw [dot_turn (o y my) (oc r mr), chess_steps (by omega) r mr, dot_zero]
      rfl
    have d3 : dimF cl (2 * m) (chessL m ++ rs) = dimF cl (2 * m) rs := dim_same hc (ok_append oc o) o (fun r mr => (List.mem_append.mp mr).elim (chess r) fun mr => .of h0 o mr) fun r mr => .of h0 (ok_append oc o) (List.mem_append_right _ mr)
    have d4 : (besideF cl (2 * m) rs).length = dimF cl (2 * m) rs := by rw [e]; rfl
    refine ⟨by omega, fun x mx y my => ?_⟩
    have sx := (least_spn hc o).mp (.of h0 fl.ok mx)
    rw [← e] at my
    have z := ((beside_spn hc o).mp (.of h0 (beside_rows hc o).ok my)).2 x sx
    rw [dot_steps (fl.ok x mx) ((beside_rows hc o).ok y my)] at z
    exact z
  · rintro ⟨d, ag⟩
    have f1 : ∀ r ∈ leastForm cl (2 * m) rs, Spn cl (2 * m) (besideF cl (2 * m) rs) r := fun r mr => by
      rw [← beside_least hc o, beside_mem hc fl.ok]
      refine ⟨fl.ok r mr, fun y my => ?_⟩
      rw [dot_steps (fl.ok y my) (fl.ok r mr)]
      exact ag y my r mr
    have d3 := dim_mono hc o (ok_append oc o) fun r mr => .of h0 (ok_append oc o) (List.mem_append_right _ mr)
    have d4 : dimF cl (2 * m) (besideF cl (2 * m) rs) = (besideF cl (2 * m) rs).length := by
      unfold dimF besideF
      rw [least_idem hc (beside_ok hc o)]
    have d5 : dimF cl (2 * m) (leastForm cl (2 * m) rs) = dimF cl (2 * m) rs := by
      unfold dimF
      rw [least_idem hc o]
    refine LF.one h0 (beside_rows hc o) fl (fun r mr => ?_) f1
    exact dim_all hc fl.ok (beside_rows hc o).ok f1 (by omega) (.of h0 (beside_rows hc o).ok mr)
/-- as many rows as half the ends and one more, none of which swings with another -/
structure Fair (cl : Int) (m : Nat) (rs : List (List Int)) : Prop where
  ok : RowsOk cl (2 * m) rs
  dim : dimF cl (2 * m) rs = m + 1
  agr : Agr cl rs
theorem Fair.least (hc : cl ∈ clocks) (f : Fair cl m rs) : Agr cl (leastForm cl (2 * m) rs) := fun x mx y my => by
  have c3 := clocks_3 hc
  have fl := (least_ok hc f.ok).1
  exact f.agr.spn hc f.ok ((least_spn hc f.ok).mp (.of (by omega) fl.ok mx)) ((least_spn hc f.ok).mp (.of (by omega) fl.ok my))
end
end Rp
namespace Rp
/-! ### gaps opened, ropes crossed: fair spaces stay fair -/
section
variable {cl t u : Int} {n m g : Nat} {x y r s : List Int} {rs ss ls : List (List Int)}
def insR (g : Nat) (x : List Int) : List Int := x.take g ++ (0 :: x.getD (g - 1) 0 :: x.drop g)
def unitR (n g : Nat) : List Int := (List.range n).map fun k => if k = g then 1 else 0
theorem unit_at {k : Nat} (h : k < n) : (unitR n g).getD k 0 = if k = g then 1 else 0 := by
  unfold unitR
  rw [List.getD_eq_getElem?_getD, List.getElem?_map, List.getElem?_range h]
  rfl
theorem unit_len : (unitR n g).length = n := by unfold unitR; rw [List.length_map, List.length_range]
theorem unit_ok (h1 : 1 < cl) : RowOk cl n (unitR n g) := by
  refine ⟨unit_len, fun v m => ?_⟩
  obtain ⟨k, _, rfl⟩ := List.mem_map.mp m
  show 0 ≤ (if k = g then (1 : Int) else 0) ∧ (if k = g then (1 : Int) else 0) < cl
  split <;> omega
theorem ins_len (h : g ≤ x.length) : (insR g x).length = x.length + 2 := by
  unfold insR
  rw [List.length_append, List.length_take, List.length_cons, List.length_cons, List.length_drop]
  omega
theorem ins_lo {k : Nat} (h : g ≤ x.length) (hk : k < g) : (insR g x).getD k 0 = x.getD k 0 := by
  unfold insR
  rw [List.getD_eq_getElem?_getD, List.getElem?_append_left (by rw [List.length_take]; omega), List.getElem?_take, if_pos hk, ← List.getD_eq_getElem?_getD]
theorem ins_mid (h : g ≤ x.length) : (insR g x).getD g 0 = 0 := by
  unfold insR
  rw [List.getD_eq_getElem?_getD, List.getElem?_append_right (by rw [List.length_take]; omega), List.length_take, show g - min g x.length = 0 by omega]
  rfl
theorem ins_hi {k : Nat} (h : g ≤ x.length) (hk : g ≤ k + 1) (h1 : 1 ≤ g) : (insR g x).getD (k + 2) 0 = x.getD k 0 := by
  unfold insR
  rw [List.getD_eq_getElem?_getD, List.getElem?_append_right (by rw [List.length_take]; omega), List.length_take, show min g x.length = g by omega]
  by_cases e : k + 1 = g
  · rw [show k + 2 - g = 1 by omega, show k = g - 1 by omega]
    rfl
  · rw [show k + 2 - g = (k - g) + 2 by omega]
    show ((x.drop g)[k - g]?).getD 0 = _
    rw [List.getElem?_drop, show g + (k - g) = k by omega, ← List.getD_eq_getElem?_getD]
theorem ins_ok (h0 : 0 < cl) (h1 : 1 ≤ g) (hg : g ≤ n) (o : RowOk cl n x) : RowOk cl (n + 2) (insR g x) := by
  have hl : g ≤ x.length := by rw [o.1]; exact hg
  refine ⟨by rw [ins_len hl, o.1], fun v mv => ?_⟩
  unfold insR at mv
  rcases List.mem_append.mp mv with mv | mv
  · exact o.2 v (List.mem_of_mem_take mv)
  · rcases List.mem_cons.mp mv with e | mv
    · omega
    · rcases List.mem_cons.mp mv with e | mv
      · have := dig_gd o.2 h0 (g - 1)
        omega
      · exact o.2 v (List.mem_of_mem_drop mv)
theorem at_cases {k g n : Nat} (h : k < n + 2) (h1 : 1 ≤ g) : k < g ∨ k = g ∨ ∃ j, k = j + 2 ∧ g ≤ j + 1 ∧ j < n := by
  by_cases a : k < g
  · exact .inl a
  · by_cases b : k = g
    · exact .inr (.inl b)
    · exact .inr (.inr ⟨k - 2, by omega, by omega, by omega⟩)
theorem lin_ins (h0 : 0 < cl) (h1 : 1 ≤ g) (hg : g ≤ n) : Lin cl n (n + 2) (insR g) := by
  refine ⟨fun x o => ins_ok h0 h1 hg o, ?_, fun x y t a b => ?_⟩
  · have lz : (zeroR n).length = n := List.length_replicate ..
    refine row_ext' (by rw [ins_len (by rw [lz]; exact hg), lz]; exact (List.length_replicate ..).symm) fun k hk => ?_
    rw [ins_len (by rw [lz]; exact hg), lz] at hk
    rw [zeroR_at]
    rcases at_cases hk h1 with c | c | ⟨j, rfl, c1, c2⟩
    · rw [ins_lo (by rw [lz]; exact hg) c, zeroR_at]
    · rw [c, ins_mid (by rw [lz]; exact hg)]
    · rw [ins_hi (by rw [lz]; exact hg) c1 h1, zeroR_at]
  · have l : x.length = y.length := by rw [a.1, b.1]
    have ha : g ≤ x.length := by rw [a.1]; exact hg
    have hb : g ≤ y.length := by rw [b.1]; exact hg
    have hl : (insR g x).length = (insR g y).length := by rw [ins_len ha, ins_len hb, l]
    have hm : g ≤ (adM cl t x y).length := by rw [adM_len l]; exact ha
    refine row_ext' (by rw [ins_len hm, adM_len l, adM_len hl, ins_len ha]) fun k hk => ?_
    rw [ins_len hm, adM_len l, a.1] at hk
    rw [adM_at hl]
    rcases at_cases hk h1 with c | c | ⟨j, rfl, c1, c2⟩
    · rw [ins_lo hm c, ins_lo ha c, ins_lo hb c, adM_at l]
    · rw [c, ins_mid hm, ins_mid ha, ins_mid hb]
      simp
    · rw [ins_hi hm c1 h1, ins_hi ha c1 h1, ins_hi hb c1 h1, adM_at l]
theorem ins_inj (h1 : 1 ≤ g) (hg : g ≤ n) (a : x.length = n) (b : y.length = n) (e : insR g x = insR g y) : x = y := by
  refine row_ext' (by rw [a, b]) fun k hk => ?_
  by_cases c : k < g
  · rw [← ins_lo (by rw [a]; exact hg) c, e, ins_lo (by rw [b]; exact hg) c]
  · rw [← ins_hi (x := x) (by rw [a]; exact hg) (by omega : g ≤ k + 1) h1, e, ins_hi (by rw [b]; exact hg) (by omega) h1]
theorem gS_insert {f f' : Nat → Int} {p : Nat} : ∀ d : Nat, (∀ k, k < p → f' k = f k) → f' p = 0 → f' (p + 1) = 0 → (∀ k, p ≤ k → k < p + d → f' (k + 2) = f k) → gS (p + d + 2) f' = gS (p + d) f
  | 0, a, b, c, _ => by
    show gS (p + 2) f' = gS p f
    rw [gS_succ, gS_succ, b, c, gS_congr a]; omega
  | d + 1, a, b, c, e => by
    have ih := gS_insert d a b c fun k h1 h2 => e k h1 (by omega)
    show gS (p + d + 2 + 1) f' = gS (p + d + 1) f
    rw [gS_succ, gS_succ (p + d) f, ih, e (p + d) (by omega) (by omega)]
theorem swL_ins (h1 : 1 ≤ g) (hg : g ≤ n) (a : x.length = n) (b : y.length = n) : swL (insR g x) (insR g y) = swL x y := by
  have ha : g ≤ x.length := by rw [a]; exact hg
  have hb : g ≤ y.length := by rw [b]; exact hg
  unfold swL
  rw [ins_len ha, a]
  obtain ⟨d, ed⟩ : ∃ d, n = g - 1 + d := ⟨n - (g - 1), by omega⟩
  rw [show gS (n + 2) = gS (g - 1 + d + 2) by rw [← ed], show gS n = gS (g - 1 + d) by rw [← ed]]
  refine gS_insert (p := g - 1) d (fun k hk => ?_) ?_ ?_ fun k hk1 hk2 => ?_
  · unfold nextG
    rw [if_neg (by omega), if_neg (by omega), ins_lo ha (by omega), ins_lo hb (by omega), ins_lo ha (by omega), ins_lo hb (by omega)]
  · unfold nextG
    rw [if_neg (by omega), show g - 1 + 1 = g by omega, ins_mid ha, ins_mid hb, Int.mul_zero, Int.zero_mul]
    rfl
  · rw [show g - 1 + 1 = g by omega, ins_mid ha, ins_mid hb, Int.mul_zero, Int.zero_mul]
    rfl
  · rw [ins_hi ha (by omega) h1, ins_hi hb (by omega) h1]
    unfold nextG
    by_cases e : k + 1 = n
    · rw [if_pos e, if_pos (by omega), ins_lo ha (by omega), ins_lo hb (by omega)]
    · rw [if_neg e, if_neg (by omega), show k + 2 + 1 = (k + 1) + 2 by omega, ins_hi ha (by omega) h1, ins_hi hb (by omega) h1]
theorem dot_unit (hg : g < n) : dotR n x (unitR n g) = x.getD g 0 := by
  unfold dotR
  rw [← gS_point (c := x.getD g 0) hg]
  refine gS_congr fun k hk => ?_
  rw [unit_at hk]
  by_cases e : k = g
  · rw [if_pos e, if_pos e, e, Int.mul_one]
  · rw [if_neg e, if_neg e, Int.mul_zero]
theorem swL_unit (h1 : 1 < cl) (o : RowOk cl n x) (hg : g < n) : swL x (unitR n g) % cl = stepAt x g % cl := by
  rw [← dot_steps o (unit_ok h1), dot_unit hg, stepsM_at (by rw [o.1]; exact hg), Int.emod_emod]
theorem neg_zero {a : Int} (h : a % cl = 0) : -a % cl = 0 := Int.emod_eq_zero_of_dvd (Int.dvd_neg.mpr (Int.dvd_of_emod_eq_zero h))
/-- a gap opened -/
theorem Fair.ins (hc : cl ∈ clocks) (f : Fair cl m rs) (h1 : 1 ≤ g) (hg : g ≤ 2 * m) : Fair cl (m + 1) (rs.map (insR g) ++ [unitR (2 * m + 2) g]) := by
  have c3 := clocks_3 hc
  have h0 : 0 < cl := by omega
  have L := lin_ins (cl := cl) (n := 2 * m) h0 h1 hg
  have oi := L.rows f.ok
  have ou : RowOk cl (2 * m + 2) (unitR (2 * m + 2) g) := unit_ok (by omega)
  have us : ∀ x ∈ rs, swL (insR g x) (unitR (2 * m + 2) g) % cl = 0 := fun x mx => by
    have ox := f.ok x mx
    have hl : g ≤ x.length := by rw [ox.1]; exact hg
    rw [swL_unit (by omega) (L.ok x ox) (by omega)]
    unfold stepAt
    rw [if_neg (by omega), if_neg (by rw [ins_len hl, ox.1]; omega), ins_lo hl (by omega), show g + 1 = (g - 1) + 2 by omega, ins_hi hl (by omega) h1, Int.sub_self]
    rfl
  refine ⟨ok_snoc oi ou, ?_, fun x mx y my => ?_⟩
  · show dimF cl (2 * m + 2) _ = _
    rw [dim_new hc oi ou fun a => ?_, L.dim hc (fun x y ox oy e => ins_inj h1 hg ox.1 oy.1 e) f.ok, f.dim]
    have z := a.none_at (k := g) h0 oi fun r mr => by
      obtain ⟨w, mw, rfl⟩ := List.mem_map.mp mr
      exact ins_mid (by rw [(f.ok w mw).1]; exact hg)
    rw [unit_at (by omega), if_pos rfl] at z
    cases z
  · rcases List.mem_append.mp mx with mx | mx <;> rcases List.mem_append.mp my with my | my
    · obtain ⟨x, mx', rfl⟩ := List.mem_map.mp mx
      obtain ⟨y, my', rfl⟩ := List.mem_map.mp my
      rw [swL_ins h1 hg (f.ok x mx').1 (f.ok y my').1]
      exact f.agr x mx' y my'
    · obtain ⟨x, mx', rfl⟩ := List.mem_map.mp mx
      rw [List.mem_singleton.mp my]
      exact us x mx'
    · obtain ⟨y, my', rfl⟩ := List.mem_map.mp my
      rw [List.mem_singleton.mp mx, swL_anti (by rw [(L.ok y (f.ok y my')).1, unit_len])]
      exact neg_zero (us y my')
    · rw [List.mem_singleton.mp mx, List.mem_singleton.mp my, swL_self]
      rfl
/-! crossings -/
def crossR (cl : Int) (g : Nat) (t : Int) (x : List Int) : List Int := x.set g ((x.getD g 0 + t * stepAt x g) % cl)
theorem cross_len : (crossR cl g t x).length = x.length := by unfold crossR; rw [List.length_set]
theorem cross_at {k : Nat} (hg : g < x.length) : (crossR cl g t x).getD k 0 = if k = g then (x.getD g 0 + t * stepAt x g) % cl else x.getD k 0 := by
  unfold crossR
  rw [set_gd]
  by_cases e : k = g
  · rw [if_pos e, if_pos ⟨e.symm, hg⟩]
  · rw [if_neg e, if_neg fun z => e z.1.symm]
theorem cross_ok (h0 : 0 < cl) (hg : g < n) (o : RowOk cl n x) : RowOk cl n (crossR cl g t x) := by
  refine ⟨by rw [cross_len, o.1], fun v mv => ?_⟩
  unfold crossR at mv
  rcases List.mem_or_eq_of_mem_set mv with mv | e
  · exact o.2 v mv
  · rw [e]
    exact ⟨Int.emod_nonneg _ (by omega), Int.emod_lt_of_pos _ h0⟩
/-- it adds the step, so many times, at its gap -/
theorem cross_eq (h0 : 0 < cl) (hg : g < n) (o : RowOk cl n x) : crossR cl g t x = adM cl (t * stepAt x g) x (unitR n g) := by
  have l : x.length = (unitR n g).length := by rw [unit_len, o.1]
  refine row_ext' (by rw [cross_len, adM_len l]) fun k hk => ?_
  rw [cross_len, o.1] at hk
  rw [cross_at (by rw [o.1]; exact hg), adM_at l, unit_at hk]
  by_cases e : k = g
  · rw [if_pos e, if_pos e, e, Int.mul_one]
  · rw [if_neg e, if_neg e, Int.mul_zero, Int.add_zero, em_of (dig_gd o.2 h0 k)]
theorem stepAt_lin {k : Nat} (a : RowOk cl n x) (b : RowOk cl n y) : stepAt (adM cl u x y) k % cl = (stepAt x k + u * stepAt y k) % cl := by
  have l : x.length = y.length := by rw [a.1, b.1]
  unfold stepAt
  rw [adM_len l, ← l, adM_at l, adM_at l, Int.sub_emod, Int.emod_emod, Int.emod_emod, ← Int.sub_emod, Int.mul_sub]
  congr 1
  omega
theorem em_mul {a b : Int} (t : Int) (h : a % cl = b % cl) : (t * a) % cl = (t * b) % cl := by rw [Int.mul_emod, h, ← Int.mul_emod]
theorem em_add {a a' b b' : Int} (h : a % cl = a' % cl) (h2 : b % cl = b' % cl) : (a + b) % cl = (a' + b') % cl := by rw [Int.add_emod, h, h2, ← Int.add_emod]
theorem lin_cross (h0 : 0 < cl) (hg : g < n) : Lin cl n n (crossR cl g t) := by
  refine ⟨fun x o => cross_ok h0 hg o, ?_, fun x y u a b => ?_⟩
  · have oz := zeroR_ok (cl := cl) (n := n) h0
    refine row_ext' cross_len fun k hk => ?_
    rw [cross_at (by rw [oz.1]; exact hg), zeroR_at, zeroR_at]
    unfold stepAt
    rw [zeroR_at, zeroR_at]
    split <;> simp
  · have l : x.length = y.length := by rw [a.1, b.1]
    have ga : g < x.length := by rw [a.1]; exact hg
    have gb : g < y.length := by rw [b.1]; exact hg
    have lc : (crossR cl g t x).length = (crossR cl g t y).length := by rw [cross_len, cross_len, l]
    refine row_ext' (by rw [cross_len, adM_len l, adM_len lc, cross_len]) fun k _ => ?_
    rw [cross_at (by rw [adM_len l]; exact ga), adM_at lc, cross_at ga, cross_at gb, adM_at l]
    by_cases e : k = g
    · rw [if_pos e, if_pos e, if_pos e, em_l, em_add rfl (em_mul t (stepAt_lin (k := g) a b)), em_l, em_r, Int.mul_add, Int.mul_add, Int.mul_left_comm t u]
      congr 1
      omega
    · rw [if_neg e, if_neg e, if_neg e, adM_at l]
theorem cross_inj (h0 : 0 < cl) (hn : 2 ≤ n) (hg : g < n) (a : RowOk cl n x) (b : RowOk cl n y) (e : crossR cl g t x = crossR cl g t y) : x = y := by
  have ga : g < x.length := by rw [a.1]; exact hg
  have gb : g < y.length := by rw [b.1]; exact hg
  have off : ∀ k, k ≠ g → x.getD k 0 = y.getD k 0 := fun k ne => by
    have z : (crossR cl g t x).getD k 0 = (crossR cl g t y).getD k 0 := by rw [e]
    rw [cross_at ga, cross_at gb, if_neg ne, if_neg ne] at z
    exact z
  refine row_ext' (by rw [a.1, b.1]) fun k _ => ?_
  by_cases c : k = g
  · rw [c]
    have z : (crossR cl g t x).getD k 0 = (crossR cl g t y).getD k 0 := by rw [e]
    rw [c, cross_at ga, cross_at gb, if_pos rfl, if_pos rfl] at z
    have es : stepAt x g = stepAt y g := by
      unfold stepAt
      rw [a.1, b.1, off _ (by split <;> omega), off _ (by split <;> omega)]
    rw [es] at z
    have w := Int.emod_eq_emod_iff_emod_sub_eq_zero.mp z
    rw [show x.getD g 0 + t * stepAt y g - (y.getD g 0 + t * stepAt y g) = x.getD g 0 - y.getD g 0 by omega] at w
    have v := Int.emod_eq_emod_iff_emod_sub_eq_zero.mpr w
    rw [em_of (dig_gd a.2 h0 g), em_of (dig_gd b.2 h0 g)] at v
    exact v
  · exact off k c
theorem swL_cross (h1 : 1 < cl) (hg : g < n) (a : RowOk cl n x) (b : RowOk cl n y) : swL (crossR cl g t x) (crossR cl g t y) % cl = swL x y % cl := by
  have h0 : 0 < cl := by omega
  have ou : RowOk cl n (unitR n g) := unit_ok h1
  have sl : ∀ {p q : List Int}, RowOk cl n p → RowOk cl n q → (stepsM cl p).length = (stepsM cl q).length := fun hp hq => by rw [stepsM_len, stepsM_len, hp.1, hq.1]
  have key : ∀ c d : Int, swL (adM cl c x (unitR n g)) (adM cl d y (unitR n g)) % cl = (swL x y + d * stepAt x g - c * stepAt y g) % cl := fun c d => by
    have oa := adM_ok (t := c) h0 a ou
    have ob := adM_ok (t := d) h0 b ou
    have q1 := (dot_steps a b)
    have q2 := (dot_steps a ou).trans (swL_unit h1 a hg)
    have q3 : dotR n (stepsM cl (unitR n g)) y % cl = (-1 * stepAt y g) % cl := by
      rw [dot_steps ou b, swL_anti (by rw [b.1, ou.1]), show -swL y (unitR n g) = -1 * swL y (unitR n g) by omega]
      exact em_mul _ (swL_unit h1 b hg)
    have q4 : dotR n (stepsM cl (unitR n g)) (unitR n g) % cl = 0 % cl := by rw [dot_steps ou ou, swL_self]
    rw [← dot_steps oa ob, dot_lin _ (by rw [b.1, ou.1]), stepsM_adM a ou, dot_comm (adM cl c _ _) y, dot_comm (adM cl c _ _) (unitR n g)]
    rw [em_add (dot_lin y (sl a ou)) (em_mul d (dot_lin (unitR n g) (sl a ou))), dot_comm y, dot_comm y, dot_comm (unitR n g) (stepsM cl x), dot_comm (unitR n g) (stepsM cl (unitR n g))]
    rw [em_add (em_add q1 (em_mul c q3)) (em_mul d (em_add q2 (em_mul c q4)))]
    congr 1
    rw [Int.mul_zero, Int.add_zero, show c * (-1 * stepAt y g) = -(c * stepAt y g) by rw [Int.mul_left_comm]; omega]
    omega
  rw [cross_eq h0 hg a, cross_eq h0 hg b, key, show swL x y + t * stepAt y g * stepAt x g - t * stepAt x g * stepAt y g = swL x y by rw [Int.mul_assoc, Int.mul_comm (stepAt y g), ← Int.mul_assoc]; omega]
theorem Fair.cross (hc : cl ∈ clocks) (m1 : 1 ≤ m) (f : Fair cl m rs) (hg : g < 2 * m) : Fair cl m (rs.map (crossR cl g t)) := by
  have c3 := clocks_3 hc
  have h0 : 0 < cl := by omega
  have L := lin_cross (cl := cl) (t := t) h0 hg
  refine ⟨L.rows f.ok, by rw [L.dim hc (fun x y ox oy e => cross_inj h0 (by omega) hg ox oy e) f.ok, f.dim], fun x mx y my => ?_⟩
  obtain ⟨x, mx', rfl⟩ := List.mem_map.mp mx
  obtain ⟨y, my', rfl⟩ := List.mem_map.mp my
  rw [swL_cross (by omega) hg (f.ok x mx') (f.ok y my')]
  exact f.agr x mx' y my'
theorem fair_start (hc : cl ∈ clocks) : Fair cl 1 [[1, 0], [0, 1]] := by
  have c3 := clocks_3 hc
  refine ⟨chessL_ok (by omega) 1, dim_chess hc (Nat.le_refl 1), fun x mx y my => ?_⟩
  have ok := chessL_ok (cl := cl) (by omega) 1
  have mx' : x ∈ chessL 1 := mx
  have e := chess_steps (cl := cl) (by omega) x mx'
  rw [← dot_steps (ok x mx) (ok y my), e, dot_comm, dot_zero]
  rfl
end
end Rp
namespace Rp
open PySem PySem.Spec PyProof.Rows L2 LamX RZ
/-! ### a list or a tuple, walked -/
def ItSB (K : PySem.W.Frag) (t : Bool) (a : Addr) : It :=
  match t with
  | true => Itl K a
  | false => Itt K a
def iSeqB (K : PySem.W.Frag) (te : TE) : TI := fun σ H R =>
  te σ H fun v G => ∃ (t : Bool) (a : Addr), v = .ref a ∧ (∃ xs, SqB t K G a xs) ∧ R (ItSB K t a) G
theorem r_iseqB {K : PySem.W.Frag} {te : TE} {σ : L2.St} {H : Hp} {R : It → Hp → Prop}
    (h : te σ H fun v G => ∃ (t : Bool) (a : Addr), v = .ref a ∧ (∃ xs, SqB t K G a xs) ∧ R (ItSB K t a) G) :
    iSeqB K te σ H R := h
theorem pi_seqB {X : Cx} {tg l : Expr} {te : TE} (he : PE X l te) : PI X tg l (iSeqB X.K te) := by
  constructor
  intro pins s σ H R I h
  refine thn (he.run pins s σ H _ I h) ?_
  rintro v s1 ⟨x, G, J, rx, t, a, rfl, ⟨xs, hx⟩, q⟩
  cases rx
  have fp : ∀ b ∈ [s1.heap.objs.size], FpOk X pins G b := by
    intro b m
    rw [List.mem_singleton.mp m]
    have f := J.hok.fresh (Nat.le_refl _)
    exact J.fpOk (Nat.le_refl _) f
  have up : ∀ {o' : Obj} (b : Addr) (o : Obj), s1.heap.get? b = some o → (s1.heap.push o').get? b = some o :=
    fun b o e => Heap.get?_push_of_some _ e
  cases t with
  | true =>
    obtain ⟨us, rv, pl, _⟩ := J.list hx
    refine wpAny_pyIter_list pl.isList ?_
    refine ⟨_, [s1.heap.objs.size], _, _, G, rfl, ?_, turn_list a _, ?_, fun b m => fp b m, q⟩
    · exact J.kept (t' := s1.toks) up
    · exact ⟨_, Heap.get?_push_size _ rfl, rfl, rfl⟩
  | false =>
    obtain ⟨us, rv, pl, _⟩ := J.tuple hx
    have pt : s1.heap.IsTuple a us.toArray := pl
    refine wpAny_pyIter_tuple pt ?_
    refine ⟨_, [s1.heap.objs.size], _, _, G, rfl, ?_, turn_tuple a _, ?_, fun b m => fp b m, q⟩
    · exact J.kept (t' := s1.toks) up
    · exact ⟨_, Heap.get?_push_size _ rfl, rfl, rfl⟩
theorem walk_seqB {K : PySem.W.Frag} {t : Bool} {a : Addr} {xs : List V} :
    Walk (ItSB K t a) xs.length (fun H => SqB t K H a xs) (fun i H x H' => H' = H ∧ xs[i]? = some x) := by
  cases t with
  | true => exact walk_list
  | false => exact walk_tup
end Rp
namespace Rp
open PySem PySem.Spec PyProof.Rows L2 LamX RZ
/-! ### more of what laws want -/
theorem set_intsX {xs : List Int} {k : Nat} {v : Int} : (xs.map V.int).set k (.int v) = (xs.set k v).map V.int := by rw [List.map_set]
theorem ixN_natX {n k : Nat} (h : k < n) : ixN n (k : Int) = some k := by
  unfold ixN
  rw [if_pos (by omega), if_pos (by omega)]
  congr 1
theorem dr_ne_tupX {q c p : Addr} {ns : List Int} {l : Nat} {H : Hp} {xs : List V} (D : Dr q c ns l H) (e : H p = some (.tup xs)) : p ≠ q := by
  obtain ⟨_, ⟨_, hq⟩, _, _⟩ := D
  exact ne_of e hq (fun z => by cases z)
theorem mem_setX {xs : List Int} {k : Nat} {v : Int} {P : Int → Prop} (h : ∀ x ∈ xs, P x) (hv : P v) : ∀ x ∈ xs.set k v, P x := fun x m => by
  rcases List.mem_or_eq_of_mem_set m with m | e
  · exact h x m
  · rw [e]; exact hv
theorem anys_ints {q : Addr} {H : Hp} {xs : List Int} : ∀ x ∈ xs.map V.int, Any q H x := fun x m => by
  obtain ⟨i, _, rfl⟩ := List.mem_map.mp m
  exact .num i
theorem rowV_lst {q a : Addr} {H : Hp} {xs : List Int} (n : a ≠ q) (e : H a = some (.lst (xs.map V.int))) : RowV q H (.ref a) (some (xs.map V.int)) := .lst n e anys_ints
theorem rowV_tup {q a : Addr} {H : Hp} {xs : List Int} (n : a ≠ q) (e : H a = some (.tup (xs.map V.int))) : RowV q H (.ref a) (some (xs.map V.int)) := .tup n e anys_ints
theorem len_sl {xs : List V} (h : xs.length ≤ 1000) : ∀ ys, some xs = some ys → ys.length < sizeLine := fun ys e => by
  cases e
  exact small1000 h
theorem dec_int {i j : Int} : decide (V.int i = V.int j) = decide (i = j) := decide_eq_decide.mpr ⟨fun w => V.int.inj w, fun w => by rw [w]⟩
theorem inB_yesX {i l u : Int} (a : l ≤ i) (b : i ≤ u) : inB (.int i) (some l) (some u) = true := by
  show (decide (l ≤ i) && decide (i ≤ u)) = true
  rw [decide_eq_true a, decide_eq_true b]
  rfl
theorem inB_outX {i l u : Int} (h : i < l ∨ u < i) : inB (.int i) (some l) (some u) = false := by
  show (decide (l ≤ i) && decide (i ≤ u)) = false
  rcases h with h | h
  · rw [decide_eq_false (by omega), Bool.false_and]
  · rw [decide_eq_false (p := i ≤ u) (by omega), Bool.and_false]
theorem atI_nxX {xs : List Int} {i n : Nat} (h : i < n) (l : xs.length = n) : atI (xs.map V.int) (((i : Int) + 1).fmod (n : Int)) = some (.int (xs.getD (if i + 1 = n then 0 else i + 1) 0)) := by
  have z := atI_next (xs := xs) (i := i) (by omega)
  rw [l] at z
  simp only [Int.zero_add] at z
  exact z
theorem atI_pvX {xs : List Int} {i : Nat} (h : i < xs.length) : atI (xs.map V.int) ((i : Int) - 1) = some (.int (xs.getD (if i = 0 then xs.length - 1 else i - 1) 0)) := by
  have z := atI_prev h
  simp only [Int.zero_add] at z
  exact z
theorem fit_boolsX (a b : Bool) : Fit 64 15000000 (.list [.bool a, .bool b]) := by
  cases a <;> cases b <;> exact leaf_fit (by decide +kernel) (by decide +kernel) (by decide +kernel)
theorem shaped_rowX (xs : List Int) : SeqAt.shaped (rowD xs) = true := by
  unfold rowD
  simp [SeqAt.shaped, PyData.canLay0, PyData.depth, canLay_ints, depth_ints]
/-- two tuples of numbers compared -/
theorem ne_tupsX {K : PySem.W.Frag} {H : Hp} {Q : VK} {a b : Addr} {xs ys : List Int} (ha : H a = some (.tup (xs.map V.int))) (hb : H b = some (.tup (ys.map V.int))) (h : Q (.bl (!decide (xs = ys))) H) : rNeD K (.ref a) (.ref b) H Q :=
  ⟨rowD xs, rowD ys, .tup (SqT.of ha) (dp_ints _), .tup (SqT.of hb) (dp_ints _), shaped_rowX _, shaped_rowX _, by rw [eqv_row]; exact h⟩
theorem ne_lstsX {K : PySem.W.Frag} {H : Hp} {Q : VK} {a b : Addr} {xs : List Int} (ha : H a = some (.lst (xs.map V.int))) (hb : H b = some (.lst (xs.map V.int))) (h : Q (.bl false) H) : rNeD K (.ref a) (.ref b) H Q :=
  ⟨_, _, .lst (SqL.of ha) (dp_ints xs), .lst (SqL.of hb) (dp_ints xs), shaped_ints xs, shaped_ints xs, by
    rw [SeqAt.eqv_refl _ (by rw [PyData.canLay0]; exact canLay_ints xs)]
    exact h⟩
theorem map_intX {xs ys : List Int} (h : xs.map V.int = ys.map V.int) : xs = ys := by
  have z := congrArg (List.map numOf) h
  rw [List.map_map, List.map_map] at z
  have e : ∀ l : List Int, List.map (numOf ∘ V.int) l = l := fun l => List.map_id'' (fun _ => rfl) l
  rw [e, e] at z
  exact z
/-- a row as a list or a tuple -/
structure PasR (q : Addr) (H : Hp) (v : V) (xs : List Int) : Prop where
  ex : ∃ a, v = .ref a ∧ a ≠ q ∧ (H a = some (.lst (xs.map V.int)) ∨ H a = some (.tup (xs.map V.int)))
theorem PasR.but {q : Addr} {H G : Hp} {v : V} {xs : List Int} (h : PasR q H v xs) (b : But q H G) : PasR q G v xs := by
  obtain ⟨a, e, n, z⟩ := h.ex
  exact ⟨a, e, n, z.imp (fun z => b _ _ n z) (fun z => b _ _ n z)⟩
theorem PasR.ext {q : Addr} {H G : Hp} {v : V} {xs : List Int} (h : PasR q H v xs) (x : ExtN H G) : PasR q G v xs := by
  obtain ⟨a, e, n, z⟩ := h.ex
  exact ⟨a, e, n, z.imp (fun z => x _ _ z fun _ y => by cases y) (fun z => x _ _ z fun _ y => by cases y)⟩
theorem PasR.row {q : Addr} {H : Hp} {v : V} {xs : List Int} (h : PasR q H v xs) : RowV q H v (some (xs.map V.int)) := by
  obtain ⟨a, rfl, n, z⟩ := h.ex
  rcases z with z | z
  · exact rowV_lst n z
  · exact rowV_tup n z
end Rp
local macro_rules | `(tactic| walk_at "re") => `(tactic| with_reducible first
  | refine Rp.r_op ?_ | refine Rp.r_test ?_ | refine Rp.r_if ?_ | refine Rp.r_asg ?_ | refine Rp.r_ret ?_
  | refine Rp.r_cb ?_ | refine Rp.r_cons ?_ | refine Rp.r_nil ?_ | refine Rp.r_c ?_ | refine Rp.r_gname ?_ | refine Rp.r_gsub ?_ | refine Rp.r_next ?_ | refine Rp.r_drop ?_
  | refine Rp.r_I0 ?_ | refine Rp.r_tb ?_ | refine Rp.r_not ?_ | refine Rp.r_and ?_ | refine Rp.r_or ?_ | refine Rp.r_sl ?_ | refine Rp.r_pnone ?_ | refine Rp.r_pint ?_
  | refine Rp.r_lst ?_ | refine Rp.r_tup ?_ | refine Rp.r_lc ?_ | refine Rp.r_ilist ?_ | refine Rp.r_itup ?_ | refine Rp.r_irng1 ?_ | refine Rp.r_irng2 ?_ | refine Rp.r_for ?_ | refine Rp.r_par ?_ | refine Rp.r_go ?_ | refine Rp.r_kw ?_ | refine Rp.r_disp ?_ | refine Rp.r_pair ?_ | refine Rp.r_pair0 ?_ | refine Rp.r_chain ?_ | refine Rp.r_U ?_ | refine Rp.r_gtup ?_ | refine Rp.r_un ?_ | refine Rp.r_ifx ?_ | refine Rp.r_bl ?_ | refine Rp.r_andV ?_ | refine Rp.r_orV ?_ | refine Rp.r_notV ?_ | refine Rp.r_call ?_ | refine Rp.r_yes ?_ | refine Rp.r_true ?_ | refine Rp.r_false ?_ | refine Rp.r_truen ?_ | refine Rp.r_falsen ?_ | refine Rp.r_goE ?_ | refine Rp.r_err ?_ | refine Rp.r_izipA ?_ | refine Rp.r_izip ?_ | refine Rp.r_lam ?_ | refine Rp.r_xt ?_ | refine Rp.r_err2 ?_ | refine Rp.r_make ?_ | refine Rp.r_fld ?_ | refine Rp.r_sfld ?_ | refine Rp.r_lrg ?_ | refine Rp.r_rg1 ?_ | refine Rp.r_rg2 ?_ | refine Rp.r_while ?_ | refine Rp.r_eqS ?_ | refine Rp.r_bm ?_ | refine Rp.r_izipB ?_ | refine Rp.r_makeK ?_ | refine Rp.r_ienumT ?_ | refine Rp.r_irevA ?_ | refine Rp.r_iitems ?_ | refine Rp.r_dget ?_ | refine Rp.r_revL ?_ | refine Rp.r_callBK ?_)
local macro_rules | `(tactic| walk_at "ex") => `(tactic| with_reducible first | refine Rp.r_op ?_ | refine Rp.r_test ?_ | refine Rp.r_cb ?_ | refine Rp.r_cons ?_ | refine Rp.r_nil ?_ | refine Rp.r_c ?_ | refine Rp.r_gname ?_ | refine Rp.r_gsub ?_ | refine Rp.r_I0 ?_ | refine Rp.r_tb ?_ | refine Rp.r_not ?_ | refine Rp.r_and ?_ | refine Rp.r_or ?_ | refine Rp.r_sl ?_ | refine Rp.r_pnone ?_ | refine Rp.r_pint ?_ | refine Rp.r_lst ?_ | refine Rp.r_tup ?_ | refine Rp.r_lc ?_ | refine Rp.r_ilist ?_ | refine Rp.r_itup ?_ | refine Rp.r_irng1 ?_ | refine Rp.r_irng2 ?_ | refine Rp.r_go ?_ | refine Rp.r_kw ?_ | refine Rp.r_disp ?_ | refine Rp.r_pair ?_ | refine Rp.r_pair0 ?_ | refine Rp.r_chain ?_ | refine Rp.r_U ?_ | refine Rp.r_gtup ?_ | refine Rp.r_un ?_ | refine Rp.r_ifx ?_ | refine Rp.r_bl ?_ | refine Rp.r_andV ?_ | refine Rp.r_orV ?_ | refine Rp.r_notV ?_ | refine Rp.r_call ?_ | refine Rp.r_yes ?_ | refine Rp.r_true ?_ | refine Rp.r_false ?_ | refine Rp.r_truen ?_ | refine Rp.r_falsen ?_ | refine Rp.r_goE ?_ | refine Rp.r_err ?_ | refine Rp.r_izipA ?_ | refine Rp.r_izip ?_ | refine Rp.r_lam ?_ | refine Rp.r_xt ?_ | refine Rp.r_err2 ?_ | refine Rp.r_make ?_ | refine Rp.r_fld ?_ | refine Rp.r_sfld ?_ | refine Rp.r_lrg ?_ | refine Rp.r_rg1 ?_ | refine Rp.r_rg2 ?_ | refine Rp.r_while ?_ | refine Rp.r_eqS ?_ | refine Rp.r_bm ?_ | refine Rp.r_izipB ?_ | refine Rp.r_makeK ?_ | refine Rp.r_ienumT ?_ | refine Rp.r_irevA ?_ | refine Rp.r_iitems ?_ | refine Rp.r_dget ?_ | refine Rp.r_revL ?_ | refine Rp.r_callBK ?_)
local macro_rules | `(tactic| walk_at "v") => `(tactic| ((with_reducible refine Rp.r_varE ?_); refine ⟨_, rfl, ?_⟩))
local macro_rules | `(tactic| walk_at "rex") => `(tactic| repeat (first | walk_at "ex" | walk_at "v"))
local macro_rules | `(tactic| walk_at "rd") => `(tactic| first | with_reducible refine Rp.r_seq ?_ | walk_at "re")
local macro_rules | `(tactic| walk_at "res") => `(tactic| repeat (first | walk_at "re" | walk_at "v"))
local macro_rules | `(tactic| walk_at "rds") => `(tactic| repeat (first | walk_at "rd" | walk_at "v"))
local macro_rules | `(tactic| walk_at "T") => `(tactic| (walk_at "rds"; refine L2.iteT ?_; walk_at "rds"))
local macro_rules | `(tactic| walk_at "F") => `(tactic| (walk_at "rds"; refine L2.iteF ?_; walk_at "rds"))
namespace K44
open PySem PySem.Spec PyProof.Rows L2 Rp LamX RZ
def top (i : Nat) : Stmt := PySem.Challenge.pw_ropesays_k44_numbers_set_on_rings.main.body.getD i (.Pass ⟨0, 0, 0, 0⟩)
def clsBody (i : Nat) : List Stmt := match top i with | .ClassDef (body := b) .. => b | _ => []
structure Ad where
  k_MOST_GAPS : Tok
  t_CLOCKS : Addr
  c_RopeError : Addr
  c_BadNumber : Addr
  c_BadClock : Addr
  c_BadRow : Addr
  c_Misfit : Addr
structure Txt (K : PySem.W.Frag) (mg : Str → Option Value) (ad : Ad) : Prop where
  g_MOST_GAPS : mg "MOST_GAPS" = some (.int 16 ad.k_MOST_GAPS)
  g_CLOCKS : mg "CLOCKS" = some (.ref ad.t_CLOCKS)
  o_CLOCKS : ∀ {H : Hp}, SqT K H ad.t_CLOCKS [.int 3, .int 5, .int 7, .int 11, .int 13, .int 17, .int 19, .int 23, .int 29, .int 31]
  g_RopeError : mg "RopeError" = some (.ref ad.c_RopeError)
  g_BadNumber : mg "BadNumber" = some (.ref ad.c_BadNumber)
  g_BadClock : mg "BadClock" = some (.ref ad.c_BadClock)
  g_BadRow : mg "BadRow" = some (.ref ad.c_BadRow)
  g_Misfit : mg "Misfit" = some (.ref ad.c_Misfit)
  z_abs : mg "abs" = none
  z_all : mg "all" = none
  z_bool : mg "bool" = none
  z_int : mg "int" = none
  z_isinstance : mg "isinstance" = none
  z_len : mg "len" = none
  z_list : mg "list" = none
  z_range : mg "range" = none
  z_repr : mg "repr" = none
  z_tuple : mg "tuple" = none

section
variable {P : Program} {w : World} {K : PySem.W.Frag} {mg : Str → Option Value} {base : Heap} {ad : Ad}
abbrev sIsInteger : Stmt := top 2
theorem scIsInteger : FnScope ["value"] ["value"] (defScope sIsInteger) := ⟨rfl, rfl, rfl, by decide +kernel, rfl, by decide +kernel, by decide +kernel⟩
theorem ok_IsInteger {f : Addr} {fd : FuncData} (F : Fun K "is_integer" "is_integer" sIsInteger f fd) (T : Txt K mg ad)   : FnOk P w K mg base (L2.CX P w) 1 f fd ["value"] spIsInt := by
  refine fnx F scIsInteger (fun {vs H Q E} h => ?_) (fun {cdv A fr s H vs Q E} hr h => ?_)
  · obtain ⟨q, v, rfl, ha, k⟩ := h
    rfl
  · obtain ⟨q, v, rfl, ha, k⟩ := h
    refine ⟨_, (PSs.nox (pss_one (ps_ret (pe_and (pe_callB call_isi (by rfl) T.z_isinstance (by decide +kernel) (pa_cons (pv 0) (pa_cons (pe_bltn (by rfl) T.z_int (by decide +kernel) (v := .ty "int") rfl) pa_nil))) (pe_one (pe_not (pe_callB call_isi (by rfl) T.z_isinstance (by decide +kernel) (pa_cons (pv 0) (pa_cons (pe_bltn (by rfl) T.z_bool (by decide +kernel) (v := .ty "bool") rfl) pa_nil))))))))), ?_⟩
    refine r_start (l := [some (v)]) rfl ?_
    walk_at "rds"
    obtain ⟨t, ty, kt⟩ := any_int (K := K) ha
    refine r_isi ty kt ?_
    walk_at "rds"
    have e0 := isI_eq v
    cases e : isIB v
    · walk_at "rds"
      rw [e] at e0
      rw [← e0] at k
      exact k
    · walk_at "rds"
      obtain ⟨t, ty, kt⟩ := any_bool (K := K) ha
      refine r_isi ty kt ?_
      walk_at "rds"
      rw [e, Bool.true_and] at e0
      rw [e0]
      exact k
abbrev sIsWithin : Stmt := top 3
theorem scIsWithin : FnScope ["value", "least", "most"] ["value", "least", "most"] (defScope sIsWithin) := ⟨rfl, rfl, rfl, by decide +kernel, rfl, by decide +kernel, by decide +kernel⟩
theorem ok_IsWithin {f : Addr} {fd : FuncData} (F : Fun K "is_within" "is_within" sIsWithin f fd) (T : Txt K mg ad)  {f0 : Addr} {fd0 : FuncData} (cIsInteger : CalX P w K mg base "is_integer" 1 f0 fd0 ["value"] spIsInt) : FnOk P w K mg base (L2.CX P w) 2 f fd ["value", "least", "most"] spWithin := by
  refine fnx F scIsWithin (fun {vs H Q E} h => ?_) (fun {cdv A fr s H vs Q E} hr h => ?_)
  · obtain ⟨q, v, lo, hi, rfl, ha, k⟩ := h
    rfl
  · obtain ⟨q, v, lo, hi, rfl, ha, k⟩ := h
    refine ⟨_, (PSs.nox (pss_cons (ps_if (pt_not (pt_val (pe_goX cIsInteger (hr.mono (by decide)) (by rfl) (pa_cons (pv 0) pa_nil))))
  (pss_one (ps_ret pe_bl))
  pss_nil)
  (pss_one (ps_ret (pe_and (pe_or (pe_cmpR op_isN (pv 1) pe_non (nomark _)) (pe_one (pe_cmpR op_le (pv 1) (pv 0) (nomark _)))) (pe_one (pe_or (pe_cmpR op_isN (pv 2) pe_non (nomark _)) (pe_one (pe_cmpR op_le (pv 0) (pv 2) (nomark _)))))))))), ?_⟩
    refine r_start (l := [some (v), some (oV lo), some (oV hi)]) rfl ?_
    walk_at "rds"
    refine ⟨q, v, rfl, ha, ?_⟩
    walk_at "rds"
    cases v with
    | int i =>
      walk_at "F"
      refine ⟨rfl, ?_⟩
      cases lo with
      | none =>
        walk_at "rds"
        walk_at "T"
        refine ⟨rfl, ?_⟩
        cases hi with
        | none => walk_at "rds"; walk_at "T"; exact k
        | some u => walk_at "rds"; walk_at "F"; exact k
      | some l =>
        walk_at "rds"
        walk_at "F"
        have k' : Q (.bl (decide (l ≤ i) && inB (.int i) none hi)) H := by
          have e : inB (.int i) (some l) hi = (decide (l ≤ i) && inB (.int i) none hi) := by simp [inB]
          rw [← e]
          exact k
        revert k'
        cases decide (l ≤ i) with
        | false =>
          intro k'
          walk_at "rds"
          exact k'
        | true =>
          intro k'
          rw [Bool.true_and] at k'
          walk_at "rds"
          refine ⟨rfl, ?_⟩
          cases hi with
          | none => walk_at "rds"; walk_at "T"; exact k'
          | some u => walk_at "rds"; walk_at "F"; exact k'
    | non => walk_at "T"; exact k
    | bl b => walk_at "T"; exact k
    | str x => walk_at "T"; exact k
    | byt x => walk_at "T"; exact k
    | flt x => walk_at "T"; exact k
    | ref a => walk_at "T"; exact k
    | ty n => walk_at "T"; exact k
abbrev sIsClock : Stmt := top 4
theorem scIsClock : FnScope ["value"] ["value"] (defScope sIsClock) := ⟨rfl, rfl, rfl, by decide +kernel, rfl, by decide +kernel, by decide +kernel⟩
theorem ok_IsClock {f : Addr} {fd : FuncData} (F : Fun K "is_clock" "is_clock" sIsClock f fd) (T : Txt K mg ad)  {f0 : Addr} {fd0 : FuncData} (cIsInteger : CalX P w K mg base "is_integer" 1 f0 fd0 ["value"] spIsInt) : FnOk P w K mg base (L2.CX P w) 2 f fd ["value"] spClock := by
  refine fnx F scIsClock (fun {vs H Q E} h => ?_) (fun {cdv A fr s H vs Q E} hr h => ?_)
  · obtain ⟨q, v, rfl, ha, k⟩ := h
    rfl
  · obtain ⟨q, v, rfl, ha, k⟩ := h
    refine ⟨_, (PSs.nox (pss_one (ps_ret (pe_and (pe_goX cIsInteger (hr.mono (by decide)) (by rfl) (pa_cons (pv 0) pa_nil)) (pe_one (pe_cmpR op_in_seq (pv 0) (pe_glob (v := .ref ad.t_CLOCKS) (by rfl) T.g_CLOCKS rfl) rfl)))))), ?_⟩
    refine r_start (l := [some (v)]) rfl ?_
    walk_at "rds"
    refine ⟨q, v, rfl, ha, ?_⟩
    walk_at "rds"
    cases v with
    | int i =>
      walk_at "T"
      refine ⟨_, _, rfl, .inr T.o_CLOCKS, rfl, rfl, ?_⟩
      have e : inV (.int i) [.int 3, .int 5, .int 7, .int 11, .int 13, .int 17, .int 19, .int 23, .int 29, .int 31] = clk (.int i) := by
        simp only [inV, clk, clocks, List.any_cons, List.any_nil, eqV, List.contains_cons, List.contains_nil, Bool.beq_comm (a := i)]
      show Q (.bl (inV (.int i) [.int 3, .int 5, .int 7, .int 11, .int 13, .int 17, .int 19, .int 23, .int 29, .int 31])) H
      rw [e]
      exact k
    | non => walk_at "F"; exact k
    | bl b => walk_at "F"; exact k
    | str x => walk_at "F"; exact k
    | byt x => walk_at "F"; exact k
    | flt x => walk_at "F"; exact k
    | ref a => walk_at "F"; exact k
    | ty n => walk_at "F"; exact k
abbrev sIsRow : Stmt := top 5
theorem scIsRow : FnScope ["value", "clock", "size", "number"] ["value", "clock", "size"] (defScope sIsRow) := ⟨rfl, rfl, rfl, by decide +kernel, rfl, by decide +kernel, by decide +kernel⟩
theorem ok_IsRow {f : Addr} {fd : FuncData} (F : Fun K "is_row" "is_row" sIsRow f fd) (T : Txt K mg ad)  {f0 : Addr} {fd0 : FuncData} (cIsClock : CalX P w K mg base "is_clock" 2 f0 fd0 ["value"] spClock) {f1 : Addr} {fd1 : FuncData} (cIsWithin : CalX P w K mg base "is_within" 2 f1 fd1 ["value", "least", "most"] spWithin) : FnOk P w K mg base (L2.CX P w) 3 f fd ["value", "clock", "size"] spRow := by
  refine fnx F scIsRow (fun {vs H Q E} h => ?_) (fun {cdv A fr s H vs Q E} hr h => ?_)
  · obtain ⟨q, v, o, clock, size, rfl, _⟩ := h
    rfl
  · obtain ⟨q, v, o, clock, size, rfl, hv, hck, hln, k⟩ := h
    cases hv with
    | non =>
      refine ⟨_, (PSs.nox (pss_cons (ps_if (PW.pt (pw_or (pt_not (pt_val (pe_goX cIsClock (hr.mono (by decide)) (by rfl) (pa_cons (pv 1) pa_nil)))) (pw_or (pt_not (pt_val (pe_callB call_isiT (by rfl) T.z_isinstance (by decide +kernel) (pa_cons (pv 0) (pa_cons (pe_tup (pa_cons (pe_bltn (by rfl) T.z_list (by decide +kernel) (v := .ty "list") rfl) (pa_cons (pe_bltn (by rfl) T.z_tuple (by decide +kernel) (v := .ty "tuple") rfl) pa_nil))) pa_nil))))) (pw_or1 (pt_cmpR op_ne (pe_callB call_len_seq (by rfl) T.z_len PySem.boot_len (pa_cons (pv 0) pa_nil)) (pv 2) (nomark _))))))
      (pss_one (ps_ret pe_bl))
      pss_nil)
      (pss_one (ps_ret (pe_callB (cr_all rfl) (by rfl) T.z_all (by decide +kernel) (pa_cons (pe_lc (own := [("number", 3)]) (g := gName 3) (tt := tYes) rfl scIsRow.nd (pi_list (pv 0)) (blkOk_by (own := [("number", 3)]) (N := ["value", "clock", "size", "number"]) (sc := defScope sIsRow) (by decide +kernel)) (fun _ _ _ _ _ => (pg_name (i := 3) scIsRow.nd rfl (Or.inl rfl))) (fun _ _ _ _ _ => pts_nil) (fun _ _ _ _ _ => (pe_goX cIsWithin (hr.mono (by decide)) (by rfl) (pa_cons (pv 3) (pa_cons pe_int (pa_cons (pe_op op_sub (pv 1) pe_int) pa_nil)))))) pa_nil)))))), ?_⟩
      refine r_start (l := [some (V.non), some (.int clock), some (.int size), none]) rfl ?_
      have hv : RowV q H (V.non) none := by constructor <;> assumption
      walk_at "rds"
      refine ⟨q, .int clock, rfl, .num _, ?_⟩
      rw [hck]
      walk_at "rds"
      refine ⟨len_ok rfl, fun p hp => ?_⟩
      have s1 : Same H (upd H p (.tup [.ty "list", .ty "tuple"])) := same_neu (Same.refl H) hp
      have b1 : But q H (upd H p (.tup [.ty "list", .ty "tuple"])) := (But.refl q H).neu hp
      walk_at "rds"
      obtain ⟨t, ty, kt⟩ := row_seq (K := K) (hv.but b1)
      refine r_isiT upd_same ty kt ?_
      walk_at "T"
      exact k _ s1
    | bl b =>
      refine ⟨_, (PSs.nox (pss_cons (ps_if (PW.pt (pw_or (pt_not (pt_val (pe_goX cIsClock (hr.mono (by decide)) (by rfl) (pa_cons (pv 1) pa_nil)))) (pw_or (pt_not (pt_val (pe_callB call_isiT (by rfl) T.z_isinstance (by decide +kernel) (pa_cons (pv 0) (pa_cons (pe_tup (pa_cons (pe_bltn (by rfl) T.z_list (by decide +kernel) (v := .ty "list") rfl) (pa_cons (pe_bltn (by rfl) T.z_tuple (by decide +kernel) (v := .ty "tuple") rfl) pa_nil))) pa_nil))))) (pw_or1 (pt_cmpR op_ne (pe_callB call_len_seq (by rfl) T.z_len PySem.boot_len (pa_cons (pv 0) pa_nil)) (pv 2) (nomark _))))))
      (pss_one (ps_ret pe_bl))
      pss_nil)
      (pss_one (ps_ret (pe_callB (cr_all rfl) (by rfl) T.z_all (by decide +kernel) (pa_cons (pe_lc (own := [("number", 3)]) (g := gName 3) (tt := tYes) rfl scIsRow.nd (pi_list (pv 0)) (blkOk_by (own := [("number", 3)]) (N := ["value", "clock", "size", "number"]) (sc := defScope sIsRow) (by decide +kernel)) (fun _ _ _ _ _ => (pg_name (i := 3) scIsRow.nd rfl (Or.inl rfl))) (fun _ _ _ _ _ => pts_nil) (fun _ _ _ _ _ => (pe_goX cIsWithin (hr.mono (by decide)) (by rfl) (pa_cons (pv 3) (pa_cons pe_int (pa_cons (pe_op op_sub (pv 1) pe_int) pa_nil)))))) pa_nil)))))), ?_⟩
      refine r_start (l := [some (V.bl b), some (.int clock), some (.int size), none]) rfl ?_
      have hv : RowV q H (V.bl b) none := by constructor <;> assumption
      walk_at "rds"
      refine ⟨q, .int clock, rfl, .num _, ?_⟩
      rw [hck]
      walk_at "rds"
      refine ⟨len_ok rfl, fun p hp => ?_⟩
      have s1 : Same H (upd H p (.tup [.ty "list", .ty "tuple"])) := same_neu (Same.refl H) hp
      have b1 : But q H (upd H p (.tup [.ty "list", .ty "tuple"])) := (But.refl q H).neu hp
      walk_at "rds"
      obtain ⟨t, ty, kt⟩ := row_seq (K := K) (hv.but b1)
      refine r_isiT upd_same ty kt ?_
      walk_at "T"
      exact k _ s1
    | num i =>
      refine ⟨_, (PSs.nox (pss_cons (ps_if (PW.pt (pw_or (pt_not (pt_val (pe_goX cIsClock (hr.mono (by decide)) (by rfl) (pa_cons (pv 1) pa_nil)))) (pw_or (pt_not (pt_val (pe_callB call_isiT (by rfl) T.z_isinstance (by decide +kernel) (pa_cons (pv 0) (pa_cons (pe_tup (pa_cons (pe_bltn (by rfl) T.z_list (by decide +kernel) (v := .ty "list") rfl) (pa_cons (pe_bltn (by rfl) T.z_tuple (by decide +kernel) (v := .ty "tuple") rfl) pa_nil))) pa_nil))))) (pw_or1 (pt_cmpR op_ne (pe_callB call_len_seq (by rfl) T.z_len PySem.boot_len (pa_cons (pv 0) pa_nil)) (pv 2) (nomark _))))))
      (pss_one (ps_ret pe_bl))
      pss_nil)
      (pss_one (ps_ret (pe_callB (cr_all rfl) (by rfl) T.z_all (by decide +kernel) (pa_cons (pe_lc (own := [("number", 3)]) (g := gName 3) (tt := tYes) rfl scIsRow.nd (pi_list (pv 0)) (blkOk_by (own := [("number", 3)]) (N := ["value", "clock", "size", "number"]) (sc := defScope sIsRow) (by decide +kernel)) (fun _ _ _ _ _ => (pg_name (i := 3) scIsRow.nd rfl (Or.inl rfl))) (fun _ _ _ _ _ => pts_nil) (fun _ _ _ _ _ => (pe_goX cIsWithin (hr.mono (by decide)) (by rfl) (pa_cons (pv 3) (pa_cons pe_int (pa_cons (pe_op op_sub (pv 1) pe_int) pa_nil)))))) pa_nil)))))), ?_⟩
      refine r_start (l := [some (V.int i), some (.int clock), some (.int size), none]) rfl ?_
      have hv : RowV q H (V.int i) none := by constructor <;> assumption
      walk_at "rds"
      refine ⟨q, .int clock, rfl, .num _, ?_⟩
      rw [hck]
      walk_at "rds"
      refine ⟨len_ok rfl, fun p hp => ?_⟩
      have s1 : Same H (upd H p (.tup [.ty "list", .ty "tuple"])) := same_neu (Same.refl H) hp
      have b1 : But q H (upd H p (.tup [.ty "list", .ty "tuple"])) := (But.refl q H).neu hp
      walk_at "rds"
      obtain ⟨t, ty, kt⟩ := row_seq (K := K) (hv.but b1)
      refine r_isiT upd_same ty kt ?_
      walk_at "T"
      exact k _ s1
    | str x =>
      refine ⟨_, (PSs.nox (pss_cons (ps_if (PW.pt (pw_or (pt_not (pt_val (pe_goX cIsClock (hr.mono (by decide)) (by rfl) (pa_cons (pv 1) pa_nil)))) (pw_or (pt_not (pt_val (pe_callB call_isiT (by rfl) T.z_isinstance (by decide +kernel) (pa_cons (pv 0) (pa_cons (pe_tup (pa_cons (pe_bltn (by rfl) T.z_list (by decide +kernel) (v := .ty "list") rfl) (pa_cons (pe_bltn (by rfl) T.z_tuple (by decide +kernel) (v := .ty "tuple") rfl) pa_nil))) pa_nil))))) (pw_or1 (pt_cmpR op_ne (pe_callB call_len_seq (by rfl) T.z_len PySem.boot_len (pa_cons (pv 0) pa_nil)) (pv 2) (nomark _))))))
      (pss_one (ps_ret pe_bl))
      pss_nil)
      (pss_one (ps_ret (pe_callB (cr_all rfl) (by rfl) T.z_all (by decide +kernel) (pa_cons (pe_lc (own := [("number", 3)]) (g := gName 3) (tt := tYes) rfl scIsRow.nd (pi_list (pv 0)) (blkOk_by (own := [("number", 3)]) (N := ["value", "clock", "size", "number"]) (sc := defScope sIsRow) (by decide +kernel)) (fun _ _ _ _ _ => (pg_name (i := 3) scIsRow.nd rfl (Or.inl rfl))) (fun _ _ _ _ _ => pts_nil) (fun _ _ _ _ _ => (pe_goX cIsWithin (hr.mono (by decide)) (by rfl) (pa_cons (pv 3) (pa_cons pe_int (pa_cons (pe_op op_sub (pv 1) pe_int) pa_nil)))))) pa_nil)))))), ?_⟩
      refine r_start (l := [some (V.str x), some (.int clock), some (.int size), none]) rfl ?_
      have hv : RowV q H (V.str x) none := by constructor <;> assumption
      walk_at "rds"
      refine ⟨q, .int clock, rfl, .num _, ?_⟩
      rw [hck]
      walk_at "rds"
      refine ⟨len_ok rfl, fun p hp => ?_⟩
      have s1 : Same H (upd H p (.tup [.ty "list", .ty "tuple"])) := same_neu (Same.refl H) hp
      have b1 : But q H (upd H p (.tup [.ty "list", .ty "tuple"])) := (But.refl q H).neu hp
      walk_at "rds"
      obtain ⟨t, ty, kt⟩ := row_seq (K := K) (hv.but b1)
      refine r_isiT upd_same ty kt ?_
      walk_at "T"
      exact k _ s1
    | @dic a kvs n e =>
      refine ⟨_, (PSs.nox (pss_cons (ps_if (PW.pt (pw_or (pt_not (pt_val (pe_goX cIsClock (hr.mono (by decide)) (by rfl) (pa_cons (pv 1) pa_nil)))) (pw_or (pt_not (pt_val (pe_callB call_isiT (by rfl) T.z_isinstance (by decide +kernel) (pa_cons (pv 0) (pa_cons (pe_tup (pa_cons (pe_bltn (by rfl) T.z_list (by decide +kernel) (v := .ty "list") rfl) (pa_cons (pe_bltn (by rfl) T.z_tuple (by decide +kernel) (v := .ty "tuple") rfl) pa_nil))) pa_nil))))) (pw_or1 (pt_cmpR op_ne (pe_callB call_len_seq (by rfl) T.z_len PySem.boot_len (pa_cons (pv 0) pa_nil)) (pv 2) (nomark _))))))
      (pss_one (ps_ret pe_bl))
      pss_nil)
      (pss_one (ps_ret (pe_callB (cr_all rfl) (by rfl) T.z_all (by decide +kernel) (pa_cons (pe_lc (own := [("number", 3)]) (g := gName 3) (tt := tYes) rfl scIsRow.nd (pi_list (pv 0)) (blkOk_by (own := [("number", 3)]) (N := ["value", "clock", "size", "number"]) (sc := defScope sIsRow) (by decide +kernel)) (fun _ _ _ _ _ => (pg_name (i := 3) scIsRow.nd rfl (Or.inl rfl))) (fun _ _ _ _ _ => pts_nil) (fun _ _ _ _ _ => (pe_goX cIsWithin (hr.mono (by decide)) (by rfl) (pa_cons (pv 3) (pa_cons pe_int (pa_cons (pe_op op_sub (pv 1) pe_int) pa_nil)))))) pa_nil)))))), ?_⟩
      refine r_start (l := [some (V.ref a), some (.int clock), some (.int size), none]) rfl ?_
      have hv : RowV q H (V.ref a) none := by constructor <;> assumption
      walk_at "rds"
      refine ⟨q, .int clock, rfl, .num _, ?_⟩
      rw [hck]
      walk_at "rds"
      refine ⟨len_ok rfl, fun p hp => ?_⟩
      have s1 : Same H (upd H p (.tup [.ty "list", .ty "tuple"])) := same_neu (Same.refl H) hp
      have b1 : But q H (upd H p (.tup [.ty "list", .ty "tuple"])) := (But.refl q H).neu hp
      walk_at "rds"
      obtain ⟨t, ty, kt⟩ := row_seq (K := K) (hv.but b1)
      refine r_isiT upd_same ty kt ?_
      walk_at "T"
      exact k _ s1
    | @lst a xs n e it =>
      refine ⟨_, (PSs.nox (pss_cons (ps_if (PW.pt (pw_or (pt_not (pt_val (pe_goX cIsClock (hr.mono (by decide)) (by rfl) (pa_cons (pv 1) pa_nil)))) (pw_or (pt_not (pt_val (pe_callB call_isiT (by rfl) T.z_isinstance (by decide +kernel) (pa_cons (pv 0) (pa_cons (pe_tup (pa_cons (pe_bltn (by rfl) T.z_list (by decide +kernel) (v := .ty "list") rfl) (pa_cons (pe_bltn (by rfl) T.z_tuple (by decide +kernel) (v := .ty "tuple") rfl) pa_nil))) pa_nil))))) (pw_or1 (pt_cmpR op_ne (pe_callB call_len_seq (by rfl) T.z_len PySem.boot_len (pa_cons (pv 0) pa_nil)) (pv 2) (nomark _))))))
      (pss_one (ps_ret pe_bl))
      pss_nil)
      (pss_one (ps_ret (pe_callB (cr_all rfl) (by rfl) T.z_all (by decide +kernel) (pa_cons (pe_lc (own := [("number", 3)]) (g := gName 3) (tt := tYes) rfl scIsRow.nd (pi_list (pv 0)) (blkOk_by (own := [("number", 3)]) (N := ["value", "clock", "size", "number"]) (sc := defScope sIsRow) (by decide +kernel)) (fun _ _ _ _ _ => (pg_name (i := 3) scIsRow.nd rfl (Or.inl rfl))) (fun _ _ _ _ _ => pts_nil) (fun _ _ _ _ _ => (pe_goX cIsWithin (hr.mono (by decide)) (by rfl) (pa_cons (pv 3) (pa_cons pe_int (pa_cons (pe_op op_sub (pv 1) pe_int) pa_nil)))))) pa_nil)))))), ?_⟩
      refine r_start (l := [some (V.ref a), some (.int clock), some (.int size), none]) rfl ?_
      walk_at "rds"
      refine ⟨q, .int clock, rfl, .num _, ?_⟩
      rw [hck]
      walk_at "rds"
      refine ⟨len_ok rfl, fun p hp => ?_⟩
      have s1 : Same H (upd H p (.tup [.ty "list", .ty "tuple"])) := same_neu (Same.refl H) hp
      have b1 : But q H (upd H p (.tup [.ty "list", .ty "tuple"])) := (But.refl q H).neu hp
      walk_at "rds"
      obtain ⟨t, ty, kt⟩ := row_seq (K := K) ((RowV.lst n e it).but b1)
      refine r_isiT upd_same ty kt ?_
      generalize upd H p _ = H1 at s1 b1
      clear ty
      walk_at "F"
      have e1 := b1 _ _ n e
      refine ⟨_, _, rfl, .inl (SqL.of e1), ?_⟩
      walk_at "rds"
      refine ⟨rfl, ?_⟩
      walk_at "rds"
      by_cases hlen : (xs.length : Int) = size
      · rw [show decide (V.int (xs.length : Int) = V.int size) = true from decide_eq_true (by rw [hlen])]
        walk_at "rds"
        refine ⟨a, rfl, ⟨_, SqL.of e1⟩, fun D hD => ?_⟩
        have D0 : D ≠ a := (ne_of_none e1 hD).symm
        refine lc_list (K := K) (a := a) (xs := xs) (fun i H' => H' D = some (.lst (((xs.take i).map fun x => inB x (some 0) (some (clock - 1))).map V.bl)) ∧ ∀ b o, b ≠ D → H1 b = some o → H' b = some o)
          ⟨upd_same, fun b o n e => by rw [upd_ne n]; exact e⟩ (fun i H' _ ⟨_, s2⟩ => SqL.of (s2 a _ D0.symm e1)) ?_ ?_
        · rintro i x H' hx ⟨hD', s2⟩
          have mx : x ∈ xs := List.mem_of_getElem? hx
          have hi : i < xs.length := (List.getElem?_eq_some_iff.mp hx).1
          have bH : But q H H' := fun b o nb eb => s2 b o (ne_of_none (b1 b o nb eb) hD) (b1 b o nb eb)
          walk_at "rds"
          refine ⟨rfl, ?_⟩
          walk_at "rds"
          refine ⟨q, x, some 0, some (clock - 1), rfl, (it x mx).but bH, ?_⟩
          refine ⟨_, hD', ?_, ?_, fun b o nb eb => by rw [upd_ne nb]; exact s2 b o nb eb⟩
          · rw [List.length_map, List.length_map, List.length_take]
            exact Nat.lt_of_le_of_lt (Nat.min_le_right _ _) (hln xs rfl)
          · rw [upd_same, List.take_succ, hx, Option.toList_some, List.map_append, List.map_append]
            rfl
        · rintro H' ⟨hD', s2⟩
          rw [List.take_length] at hD'
          walk_at "rds"
          refine ⟨D, _, rfl, SqL.of hD', ?_⟩
          have key : rowB (some xs) clock size = (xs.map fun x => inB x (some 0) (some (clock - 1))).all id := by
            simp only [rowB, hlen, decide_true, Bool.true_and, List.all_map]
            rfl
          rw [← key]
          exact k _ fun b o eb => s2 b o (ne_of_none (s1 b o eb) hD) (s1 b o eb)
      · rw [show decide (V.int (xs.length : Int) = V.int size) = false from decide_eq_false (fun z => hlen (V.int.inj z))]
        walk_at "rds"
        have key : rowB (some xs) clock size = false := by simp [rowB, hlen]
        rw [← key]
        exact k _ s1
    | @tup a xs n e it =>
      refine ⟨_, (PSs.nox (pss_cons (ps_if (PW.pt (pw_or (pt_not (pt_val (pe_goX cIsClock (hr.mono (by decide)) (by rfl) (pa_cons (pv 1) pa_nil)))) (pw_or (pt_not (pt_val (pe_callB call_isiT (by rfl) T.z_isinstance (by decide +kernel) (pa_cons (pv 0) (pa_cons (pe_tup (pa_cons (pe_bltn (by rfl) T.z_list (by decide +kernel) (v := .ty "list") rfl) (pa_cons (pe_bltn (by rfl) T.z_tuple (by decide +kernel) (v := .ty "tuple") rfl) pa_nil))) pa_nil))))) (pw_or1 (pt_cmpR op_ne (pe_callB call_len_seq (by rfl) T.z_len PySem.boot_len (pa_cons (pv 0) pa_nil)) (pv 2) (nomark _))))))
      (pss_one (ps_ret pe_bl))
      pss_nil)
      (pss_one (ps_ret (pe_callB (cr_all rfl) (by rfl) T.z_all (by decide +kernel) (pa_cons (pe_lc (own := [("number", 3)]) (g := gName 3) (tt := tYes) rfl scIsRow.nd (pi_tup (pv 0)) (blkOk_by (own := [("number", 3)]) (N := ["value", "clock", "size", "number"]) (sc := defScope sIsRow) (by decide +kernel)) (fun _ _ _ _ _ => (pg_name (i := 3) scIsRow.nd rfl (Or.inl rfl))) (fun _ _ _ _ _ => pts_nil) (fun _ _ _ _ _ => (pe_goX cIsWithin (hr.mono (by decide)) (by rfl) (pa_cons (pv 3) (pa_cons pe_int (pa_cons (pe_op op_sub (pv 1) pe_int) pa_nil)))))) pa_nil)))))), ?_⟩
      refine r_start (l := [some (V.ref a), some (.int clock), some (.int size), none]) rfl ?_
      walk_at "rds"
      refine ⟨q, .int clock, rfl, .num _, ?_⟩
      rw [hck]
      walk_at "rds"
      refine ⟨len_ok rfl, fun p hp => ?_⟩
      have s1 : Same H (upd H p (.tup [.ty "list", .ty "tuple"])) := same_neu (Same.refl H) hp
      have b1 : But q H (upd H p (.tup [.ty "list", .ty "tuple"])) := (But.refl q H).neu hp
      walk_at "rds"
      obtain ⟨t, ty, kt⟩ := row_seq (K := K) ((RowV.tup n e it).but b1)
      refine r_isiT upd_same ty kt ?_
      generalize upd H p _ = H1 at s1 b1
      clear ty
      walk_at "F"
      have e1 := b1 _ _ n e
      refine ⟨_, _, rfl, .inr (SqT.of e1), ?_⟩
      walk_at "rds"
      refine ⟨rfl, ?_⟩
      walk_at "rds"
      by_cases hlen : (xs.length : Int) = size
      · rw [show decide (V.int (xs.length : Int) = V.int size) = true from decide_eq_true (by rw [hlen])]
        walk_at "rds"
        refine ⟨a, rfl, ⟨_, SqT.of e1⟩, fun D hD => ?_⟩
        have D0 : D ≠ a := (ne_of_none e1 hD).symm
        refine lc_tup (K := K) (a := a) (xs := xs) (fun i H' => H' D = some (.lst (((xs.take i).map fun x => inB x (some 0) (some (clock - 1))).map V.bl)) ∧ ∀ b o, b ≠ D → H1 b = some o → H' b = some o)
          ⟨upd_same, fun b o n e => by rw [upd_ne n]; exact e⟩ (fun i H' _ ⟨_, s2⟩ => SqT.of (s2 a _ D0.symm e1)) ?_ ?_
        · rintro i x H' hx ⟨hD', s2⟩
          have mx : x ∈ xs := List.mem_of_getElem? hx
          have hi : i < xs.length := (List.getElem?_eq_some_iff.mp hx).1
          have bH : But q H H' := fun b o nb eb => s2 b o (ne_of_none (b1 b o nb eb) hD) (b1 b o nb eb)
          walk_at "rds"
          refine ⟨rfl, ?_⟩
          walk_at "rds"
          refine ⟨q, x, some 0, some (clock - 1), rfl, (it x mx).but bH, ?_⟩
          refine ⟨_, hD', ?_, ?_, fun b o nb eb => by rw [upd_ne nb]; exact s2 b o nb eb⟩
          · rw [List.length_map, List.length_map, List.length_take]
            exact Nat.lt_of_le_of_lt (Nat.min_le_right _ _) (hln xs rfl)
          · rw [upd_same, List.take_succ, hx, Option.toList_some, List.map_append, List.map_append]
            rfl
        · rintro H' ⟨hD', s2⟩
          rw [List.take_length] at hD'
          walk_at "rds"
          refine ⟨D, _, rfl, SqL.of hD', ?_⟩
          have key : rowB (some xs) clock size = (xs.map fun x => inB x (some 0) (some (clock - 1))).all id := by
            simp only [rowB, hlen, decide_true, Bool.true_and, List.all_map]
            rfl
          rw [← key]
          exact k _ fun b o eb => s2 b o (ne_of_none (s1 b o eb) hD) (s1 b o eb)
      · rw [show decide (V.int (xs.length : Int) = V.int size) = false from decide_eq_false (fun z => hlen (V.int.inj z))]
        walk_at "rds"
        have key : rowB (some xs) clock size = false := by simp [rowB, hlen]
        rw [← key]
        exact k _ s1
end
end K44
namespace K44
open PySem PySem.Spec PyProof.Rows L2 Rp LamX RZ

def spStepAt (K : PySem.W.Frag) : Sp := fun vs H Q _ => ∃ (t : Bool) (a : Addr) (xs : List Int) (i : Nat), vs = [.ref a, .int (i : Int)] ∧ SqB t K H a (xs.map V.int) ∧ i < xs.length ∧ xs.length ≤ 400 ∧ Q (.int (stepAt xs i)) H
def spAlt (K : PySem.W.Frag) : Sp := fun vs H Q _ => ∃ (t : Bool) (a : Addr) (xs : List Int), vs = [.ref a] ∧ SqB t K H a (xs.map V.int) ∧ 2 ≤ xs.length ∧ xs.length ≤ 400 ∧ ∀ H', Same H H' → Q (.bl ((chessF xs).all id)) H'
theorem even_in {v : V} {lo hi : Int} (h : evenIn v lo hi = true) : inB v (some lo) (some hi) = true := (Bool.and_eq_true_iff.mp h).1

section
variable {P : Program} {w : World} {K : PySem.W.Frag} {mg : Str → Option Value} {base : Heap} {ad : Ad}
abbrev sDemandClock : Stmt := top 13
theorem scDemandClock : FnScope ["clock"] ["clock"] (defScope sDemandClock) := ⟨rfl, rfl, rfl, by decide +kernel, rfl, by decide +kernel, by decide +kernel⟩
theorem ok_DemandClock {f : Addr} {fd : FuncData} (F : Fun K "demand_clock" "demand_clock" sDemandClock f fd) (T : Txt K mg ad)  {f0 : Addr} {fd0 : FuncData} (cIsClock : CalX P w K mg base "is_clock" 2 f0 fd0 ["value"] spClock) (eBadClock : Err1 P w K mg base "BadClock" ad.c_BadClock "part") : FnOk P w K mg base (L2.CX P w) 3 f fd ["clock"] (spDemClock ad.c_BadClock) := by
  refine fnx F scDemandClock (fun {vs H Q E} h => ?_) (fun {cdv A fr s H vs Q E} hr h => ?_)
  · obtain ⟨q, v, rfl, ha, k1, k2⟩ := h
    rfl
  · obtain ⟨q, v, rfl, ha, k1, k2⟩ := h
    refine ⟨_, (pss_one (ps_if (pt_not (pt_val (pe_goX cIsClock (hr.mono (by decide)) (by rfl) (pa_cons (pv 0) pa_nil))))
  (pss_one (ps_raise rfl (takes_of rfl rfl rfl rfl) (pmk_err1 eBadClock (hr.mono (by decide)) (by rfl) pe_str)))
  pss_nil)), ?_⟩
    refine r_start (l := [some (v)]) rfl ?_
    walk_at "rds"
    refine ⟨q, v, rfl, ha, ?_⟩
    walk_at "rds"
    cases e : clk v with
    | true =>
      walk_at "rds"
      exact k1 e
    | false =>
      walk_at "rds"
      exact k2 e
abbrev sDemandWithin : Stmt := top 14
theorem scDemandWithin : FnScope ["value", "least", "most", "part"] ["value", "least", "most", "part"] (defScope sDemandWithin) := ⟨rfl, rfl, rfl, by decide +kernel, rfl, by decide +kernel, by decide +kernel⟩
theorem ok_DemandWithin {f : Addr} {fd : FuncData} (F : Fun K "demand_within" "demand_within" sDemandWithin f fd) (T : Txt K mg ad)  {f0 : Addr} {fd0 : FuncData} (cIsWithin : CalX P w K mg base "is_within" 2 f0 fd0 ["value", "least", "most"] spWithin) (eBadNumber : Err1 P w K mg base "BadNumber" ad.c_BadNumber "part") : FnOk P w K mg base (L2.CX P w) 3 f fd ["value", "least", "most", "part"] (spDemWithin ad.c_BadNumber) := by
  refine fnx F scDemandWithin (fun {vs H Q E} h => ?_) (fun {cdv A fr s H vs Q E} hr h => ?_)
  · obtain ⟨q, v, lo, hi, part, rfl, ha, k1, k2⟩ := h
    rfl
  · obtain ⟨q, v, lo, hi, part, rfl, ha, k1, k2⟩ := h
    refine ⟨_, (pss_one (ps_if (pt_not (pt_val (pe_goX cIsWithin (hr.mono (by decide)) (by rfl) (pa_cons (pv 0) (pa_cons (pv 1) (pa_cons (pv 2) pa_nil))))))
  (pss_one (ps_raise rfl (takes_of rfl rfl rfl rfl) (pmk_err1 eBadNumber (hr.mono (by decide)) (by rfl) (pv 3))))
  pss_nil)), ?_⟩
    refine r_start (l := [some (v), some (oV lo), some (oV hi), some (.str part)]) rfl ?_
    walk_at "rds"
    refine ⟨q, v, lo, hi, rfl, ha, ?_⟩
    walk_at "rds"
    cases e : inB v lo hi with
    | true =>
      walk_at "rds"
      exact k1 e
    | false =>
      walk_at "rds"
      exact k2 e
abbrev sDemandRow : Stmt := top 15
theorem scDemandRow : FnScope ["row", "clock", "least", "most", "part"] ["row", "clock", "least", "most", "part"] (defScope sDemandRow) := ⟨rfl, rfl, rfl, by decide +kernel, rfl, by decide +kernel, by decide +kernel⟩
theorem ok_DemandRow {f : Addr} {fd : FuncData} (F : Fun K "demand_row" "demand_row" sDemandRow f fd) (T : Txt K mg ad)  {f0 : Addr} {fd0 : FuncData} (cIsRow : CalX P w K mg base "is_row" 3 f0 fd0 ["value", "clock", "size"] spRow) (eBadRow : Err1 P w K mg base "BadRow" ad.c_BadRow "part") : FnOk P w K mg base (L2.CX P w) 4 f fd ["row", "clock", "least", "most", "part"] (spDemRow ad.c_BadRow) := by
  refine fnx F scDemandRow (fun {vs H Q E} h => ?_) (fun {cdv A fr s H vs Q E} hr h => ?_)
  · obtain ⟨q, v, o, clock, lo, hi, part, rfl, _⟩ := h
    rfl
  · obtain ⟨q, v, o, clock, lo, hi, part, rfl, hv, hck, hln, k⟩ := h
    refine ⟨_, (pss_cons (ps_if (PW.pt (pw_or (pt_not (pt_val (pe_callB call_isiT (by rfl) T.z_isinstance (by decide +kernel) (pa_cons (pv 0) (pa_cons (pe_tup (pa_cons (pe_bltn (by rfl) T.z_list (by decide +kernel) (v := .ty "list") rfl) (pa_cons (pe_bltn (by rfl) T.z_tuple (by decide +kernel) (v := .ty "tuple") rfl) pa_nil))) pa_nil))))) (pw_or1 (pt_not (pt_chain op_le op_le (pv 2) (pe_callB call_len_seq (by rfl) T.z_len PySem.boot_len (pa_cons (pv 0) pa_nil)) (pv 3))))))
    (pss_one (ps_raise rfl (takes_of rfl rfl rfl rfl) (pmk_err1 eBadRow (hr.mono (by decide)) (by rfl) (pv 4))))
    pss_nil)
    (pss_one (ps_if (pt_not (pt_val (pe_goX cIsRow (hr.mono (by decide)) (by rfl) (pa_cons (pv 0) (pa_cons (pv 1) (pa_cons (pe_callB call_len_seq (by rfl) T.z_len PySem.boot_len (pa_cons (pv 0) pa_nil)) pa_nil))))))
    (pss_one (ps_raise rfl (takes_of rfl rfl rfl rfl) (pmk_err1 eBadRow (hr.mono (by decide)) (by rfl) (pv 4))))
    pss_nil))), ?_⟩
    refine r_start (l := [some (v), some (.int clock), some (.int lo), some (.int hi), some (.str part)]) rfl ?_
    cases hv with
    | non =>
      have hv : RowV q H (V.non) none := by constructor <;> assumption
      walk_at "rds"
      refine ⟨len_ok rfl, fun p hp => ?_⟩
      have s1 : Same H (upd H p (.tup [.ty "list", .ty "tuple"])) := same_neu (Same.refl H) hp
      have b1 : But q H (upd H p (.tup [.ty "list", .ty "tuple"])) := (But.refl q H).neu hp
      walk_at "rds"
      have hv1 := hv.but b1
      obtain ⟨t, ty, kt⟩ := row_seq (K := K) hv1
      refine r_isiT upd_same ty kt ?_
      generalize upd H p _ = H1 at s1 b1 hv1
      clear ty

      walk_at "T"
      exact (k _ s1).2 rfl
    | bl b =>
      have hv : RowV q H (V.bl b) none := by constructor <;> assumption
      walk_at "rds"
      refine ⟨len_ok rfl, fun p hp => ?_⟩
      have s1 : Same H (upd H p (.tup [.ty "list", .ty "tuple"])) := same_neu (Same.refl H) hp
      have b1 : But q H (upd H p (.tup [.ty "list", .ty "tuple"])) := (But.refl q H).neu hp
      walk_at "rds"
      have hv1 := hv.but b1
      obtain ⟨t, ty, kt⟩ := row_seq (K := K) hv1
      refine r_isiT upd_same ty kt ?_
      generalize upd H p _ = H1 at s1 b1 hv1
      clear ty

      walk_at "T"
      exact (k _ s1).2 rfl
    | num i =>
      have hv : RowV q H (V.int i) none := by constructor <;> assumption
      walk_at "rds"
      refine ⟨len_ok rfl, fun p hp => ?_⟩
      have s1 : Same H (upd H p (.tup [.ty "list", .ty "tuple"])) := same_neu (Same.refl H) hp
      have b1 : But q H (upd H p (.tup [.ty "list", .ty "tuple"])) := (But.refl q H).neu hp
      walk_at "rds"
      have hv1 := hv.but b1
      obtain ⟨t, ty, kt⟩ := row_seq (K := K) hv1
      refine r_isiT upd_same ty kt ?_
      generalize upd H p _ = H1 at s1 b1 hv1
      clear ty

      walk_at "T"
      exact (k _ s1).2 rfl
    | str x =>
      have hv : RowV q H (V.str x) none := by constructor <;> assumption
      walk_at "rds"
      refine ⟨len_ok rfl, fun p hp => ?_⟩
      have s1 : Same H (upd H p (.tup [.ty "list", .ty "tuple"])) := same_neu (Same.refl H) hp
      have b1 : But q H (upd H p (.tup [.ty "list", .ty "tuple"])) := (But.refl q H).neu hp
      walk_at "rds"
      have hv1 := hv.but b1
      obtain ⟨t, ty, kt⟩ := row_seq (K := K) hv1
      refine r_isiT upd_same ty kt ?_
      generalize upd H p _ = H1 at s1 b1 hv1
      clear ty

      walk_at "T"
      exact (k _ s1).2 rfl
    | @dic a kvs n e =>
      have hv : RowV q H (V.ref a) none := by constructor <;> assumption
      walk_at "rds"
      refine ⟨len_ok rfl, fun p hp => ?_⟩
      have s1 : Same H (upd H p (.tup [.ty "list", .ty "tuple"])) := same_neu (Same.refl H) hp
      have b1 : But q H (upd H p (.tup [.ty "list", .ty "tuple"])) := (But.refl q H).neu hp
      walk_at "rds"
      have hv1 := hv.but b1
      obtain ⟨t, ty, kt⟩ := row_seq (K := K) hv1
      refine r_isiT upd_same ty kt ?_
      generalize upd H p _ = H1 at s1 b1 hv1
      clear ty

      walk_at "T"
      exact (k _ s1).2 rfl
    | @lst a xs n e it =>
      have hv : RowV q H (V.ref a) (some xs) := .lst n e it
      walk_at "rds"
      refine ⟨len_ok rfl, fun p hp => ?_⟩
      have s1 : Same H (upd H p (.tup [.ty "list", .ty "tuple"])) := same_neu (Same.refl H) hp
      have b1 : But q H (upd H p (.tup [.ty "list", .ty "tuple"])) := (But.refl q H).neu hp
      walk_at "rds"
      have hv1 := hv.but b1
      obtain ⟨t, ty, kt⟩ := row_seq (K := K) hv1
      refine r_isiT upd_same ty kt ?_
      generalize upd H p _ = H1 at s1 b1 hv1
      clear ty

      have e1 := b1 _ _ n e
      walk_at "F"
      refine ⟨_, _, rfl, .inl (SqL.of e1), ?_⟩
      walk_at "rds"
      have kk := k _ s1
      cases c1 : decide (lo ≤ (xs.length : Int)) with
      | false =>
        have r0 : rowOk (some xs) clock lo hi = false := by simp only [rowOk, c1, Bool.false_and]
        walk_at "rds"
        exact kk.2 r0
      | true =>
        walk_at "rds"
        cases c2 : decide ((xs.length : Int) ≤ hi) with
        | false =>
          have r0 : rowOk (some xs) clock lo hi = false := by simp only [rowOk, c1, c2, Bool.true_and, Bool.false_and]
          walk_at "rds"
          exact kk.2 r0
        | true =>
          walk_at "rds"
          refine ⟨_, _, rfl, .inl (SqL.of e1), ?_⟩
          walk_at "rds"
          refine ⟨q, _, _, clock, _, rfl, hv1, hck, hln, fun H2 s2 => ?_⟩
          have k2 := k _ (s1.trans s2)
          have er : rowB (some xs) clock (xs.length : Int) = rowOk (some xs) clock lo hi := by simp only [rowB, rowOk, c1, c2, Bool.true_and, decide_true]
          rw [er]
          cases c3 : rowOk (some xs) clock lo hi with
          | false =>
            walk_at "rds"
            exact k2.2 c3
          | true =>
            walk_at "rds"
            exact k2.1 c3
    | @tup a xs n e it =>
      have hv : RowV q H (V.ref a) (some xs) := .tup n e it
      walk_at "rds"
      refine ⟨len_ok rfl, fun p hp => ?_⟩
      have s1 : Same H (upd H p (.tup [.ty "list", .ty "tuple"])) := same_neu (Same.refl H) hp
      have b1 : But q H (upd H p (.tup [.ty "list", .ty "tuple"])) := (But.refl q H).neu hp
      walk_at "rds"
      have hv1 := hv.but b1
      obtain ⟨t, ty, kt⟩ := row_seq (K := K) hv1
      refine r_isiT upd_same ty kt ?_
      generalize upd H p _ = H1 at s1 b1 hv1
      clear ty

      have e1 := b1 _ _ n e
      walk_at "F"
      refine ⟨_, _, rfl, .inr (SqT.of e1), ?_⟩
      walk_at "rds"
      have kk := k _ s1
      cases c1 : decide (lo ≤ (xs.length : Int)) with
      | false =>
        have r0 : rowOk (some xs) clock lo hi = false := by simp only [rowOk, c1, Bool.false_and]
        walk_at "rds"
        exact kk.2 r0
      | true =>
        walk_at "rds"
        cases c2 : decide ((xs.length : Int) ≤ hi) with
        | false =>
          have r0 : rowOk (some xs) clock lo hi = false := by simp only [rowOk, c1, c2, Bool.true_and, Bool.false_and]
          walk_at "rds"
          exact kk.2 r0
        | true =>
          walk_at "rds"
          refine ⟨_, _, rfl, .inr (SqT.of e1), ?_⟩
          walk_at "rds"
          refine ⟨q, _, _, clock, _, rfl, hv1, hck, hln, fun H2 s2 => ?_⟩
          have k2 := k _ (s1.trans s2)
          have er : rowB (some xs) clock (xs.length : Int) = rowOk (some xs) clock lo hi := by simp only [rowB, rowOk, c1, c2, Bool.true_and, decide_true]
          rw [er]
          cases c3 : rowOk (some xs) clock lo hi with
          | false =>
            walk_at "rds"
            exact k2.2 c3
          | true =>
            walk_at "rds"
            exact k2.1 c3
abbrev sDemandRimRow : Stmt := top 21
theorem scDemandRimRow : FnScope ["clock", "row", "part"] ["clock", "row", "part"] (defScope sDemandRimRow) := ⟨rfl, rfl, rfl, by decide +kernel, rfl, by decide +kernel, by decide +kernel⟩
theorem ok_DemandRimRow {f : Addr} {fd : FuncData} (F : Fun K "demand_rim_row" "demand_rim_row" sDemandRimRow f fd) (T : Txt K mg ad)  {f0 : Addr} {fd0 : FuncData} (cDemandRow : CalX P w K mg base "demand_row" 4 f0 fd0 ["row", "clock", "least", "most", "part"] (spDemRow ad.c_BadRow)) (eBadRow : Err1 P w K mg base "BadRow" ad.c_BadRow "part") : FnOk P w K mg base (L2.CX P w) 5 f fd ["clock", "row", "part"] (spDemRim ad.c_BadRow) := by
  refine fnx F scDemandRimRow (fun {vs H Q E} h => ?_) (fun {cdv A fr s H vs Q E} hr h => ?_)
  · obtain ⟨q, v, o, clock, part, rfl, hv, hck, hln, k⟩ := h
    rfl
  · obtain ⟨q, v, o, clock, part, rfl, hv, hck, hln, k⟩ := h
    refine ⟨_, (pss_cons (ps_expr (pe_goE cDemandRow (hr.mono (by decide)) (takes_of rfl rfl rfl rfl) (by rfl) (pa_cons (pv 1) (pa_cons (pv 0) (pa_cons pe_int (pa_cons (pe_glob (v := .int 16) (by rfl) T.g_MOST_GAPS ⟨_, rfl⟩) (pa_cons (pv 2) pa_nil)))))))
  (pss_one (ps_if (pt_cmpR op_ne (pe_op op_modN (pe_callB call_len_seq (by rfl) T.z_len PySem.boot_len (pa_cons (pv 1) pa_nil)) pe_int) pe_int (nomark _))
  (pss_one (ps_raise rfl (takes_of rfl rfl rfl rfl) (pmk_err1 eBadRow (hr.mono (by decide)) (by rfl) (pv 2))))
  pss_nil))), ?_⟩
    refine r_start (l := [some (.int clock), some (v), some (.str part)]) rfl ?_
    walk_at "rds"
    refine ⟨q, v, o, clock, 2, 16, part, rfl, hv, hck, hln, fun H1 s1 => ⟨fun e1 => ?_, fun e1 => (k H1 s1).2 ?_⟩⟩
    · obtain ⟨xs, rfl, l1, m1⟩ := rowOk_some e1
      obtain ⟨p, t, rfl, hs⟩ := row_B (K := K) (rowV_same hv s1)
      walk_at "rds"
      refine ⟨p, _, rfl, hs.or, ?_⟩
      walk_at "rds"
      refine r_I (by omega) ?_
      walk_at "rds"
      refine ⟨rfl, ?_⟩
      walk_at "rds"
      rw [Int.fmod_eq_emod_of_nonneg _ (by omega)]
      have er : rimOk (some xs) clock = (xs.length % 2 == 0) := by unfold rimOk; rw [e1, Bool.true_and]
      by_cases z : xs.length % 2 = 0
      · rw [show (((xs.length : Nat) : Int) % 2) = 0 by omega]
        rw [show decide (V.int 0 = V.int 0) = true from rfl]
        walk_at "rds"
        exact (k H1 s1).1 (by rw [er, z]; rfl)
      · rw [decide_eq_false (fun w => z (by have := V.int.inj w; omega))]
        walk_at "rds"
        exact (k H1 s1).2 (by rw [er]; exact beq_eq_false_iff_ne.mpr z)
    · unfold rimOk
      rw [e1]
      rfl
abbrev sStepAt : Stmt := top 18
theorem scStepAt : FnScope ["row", "gap"] ["row", "gap"] (defScope sStepAt) := ⟨rfl, rfl, rfl, by decide +kernel, rfl, by decide +kernel, by decide +kernel⟩
theorem ok_StepAt {f : Addr} {fd : FuncData} (F : Fun K "step_at" "step_at" sStepAt f fd) (T : Txt K mg ad)   : FnOk P w K mg base (L2.CX P w) 1 f fd ["row", "gap"] (spStepAt K) := by
  refine fnx F scStepAt (fun {vs H Q E} h => ?_) (fun {cdv A fr s H vs Q E} hr h => ?_)
  · obtain ⟨t, a, xs, i, rfl, hs, hi, h4, k⟩ := h
    rfl
  · obtain ⟨t, a, xs, i, rfl, hs, hi, h4, k⟩ := h
    refine ⟨_, (PSs.nox (pss_one (ps_ret (pe_op op_sub (pe_ix (ix_seqK (K := K) rfl) (pv 0) (pe_op op_sub (pv 1) pe_int) (fun _ _ => rfl)) (pe_ix (ix_seqK (K := K) rfl) (pv 0) (pe_op op_modN (pe_op op_add (pv 1) pe_int) (pe_callB (cl_len (K := K) rfl) (by rfl) T.z_len PySem.boot_len (pa_cons (pv 0) pa_nil))) (fun _ _ => rfl)))))), ?_⟩
    refine r_start (l := [some (V.ref a), some (.int (i : Int))]) rfl ?_
    walk_at "rds"
    refine r_ixB hs (by have z := atI_prev hi; rw [Int.zero_add] at z; exact z) ?_
    walk_at "rds"
    refine ⟨a, _, rfl, hs.or, ?_⟩
    walk_at "rds"
    rw [List.length_map]
    refine r_I (by omega) ?_
    refine r_ixB hs (by have z := atI_next hi; rw [Int.zero_add] at z; exact z) ?_
    walk_at "rds"
    exact k
end
end K44
namespace K44
open PySem PySem.Spec PyProof.Rows L2 Rp LamX RZ

def spChanged (K : PySem.W.Frag) : Sp := fun vs H Q _ => ∃ (a : Addr) (xs : List Int) (g : Nat) (v : Int), vs = [.ref a, .int (g : Int), .int v] ∧ H a = some (.tup (xs.map V.int)) ∧ g < xs.length ∧ xs.length ≤ 400 ∧ ∀ H' p, Same H H' → H' p = some (.tup ((xs.set g v).map V.int)) → Q (.ref p) H'
theorem set_cutB {xs : List Int} {g : Nat} {v : Int} (h : g < xs.length) : xs.take g ++ [v] ++ xs.drop (g + 1) = xs.set g v := by
  rw [List.set_eq_take_append_cons_drop, if_pos h, List.append_assoc]
  rfl
def spMaySet (cC cR cN : Addr) : Sp := fun vs H Q E => ∃ q c a oa gv, vs = [c, a, gv] ∧ Any q H c ∧ RowV q H a oa ∧ Any q H gv ∧ (∀ xs, oa = some xs → xs.length < sizeLine) ∧
  (clk c = false → errAt E cC "part" (.str "clock") H) ∧ ∀ cl, c = .int cl → clk c = true → ∀ H', Same H H' → (rimOk oa cl = false → errAt E cR "part" (.str "row") H') ∧ (rimOk oa cl = true → ∀ xs : List Int, oa = some (xs.map V.int) →
    (inB gv (some 0) (some ((xs.length : Int) - 1)) = false → errAt E cN "part" (.str "gap") H') ∧ (∀ i : Nat, gv = .int (i : Int) → i < xs.length → Q (.bl (!decide (stepAt xs i = 0))) H'))
def spSetAt (cC cR cN cM : Addr) : Sp := fun vs H Q E => ∃ q c a oa gv nv, vs = [c, a, gv, nv] ∧ Any q H c ∧ RowV q H a oa ∧ Any q H gv ∧ Any q H nv ∧ (∀ xs, oa = some xs → xs.length < sizeLine) ∧
  (clk c = false → errAt E cC "part" (.str "clock") H) ∧ ∀ cl, c = .int cl → clk c = true → ∀ H', Same H H' → (rimOk oa cl = false → errAt E cR "part" (.str "row") H') ∧ (rimOk oa cl = true → ∀ xs : List Int, oa = some (xs.map V.int) →
    (inB gv (some 0) (some ((xs.length : Int) - 1)) = false → errAt E cN "part" (.str "gap") H') ∧ (∀ i : Nat, gv = .int (i : Int) → i < xs.length →
      (inB nv (some 0) (some (cl - 1)) = false → errAt E cN "part" (.str "number") H') ∧ (∀ v : Int, nv = .int v → 0 ≤ v → v < cl → (stepAt xs i = 0 → errAt E cM "part" (.str "gap") H') ∧ (stepAt xs i ≠ 0 → ∀ H2 p, Same H' H2 → H2 p = some (.tup ((xs.set i v).map V.int)) → Q (.ref p) H2))))

section
variable {P : Program} {w : World} {K : PySem.W.Frag} {mg : Str → Option Value} {base : Heap} {ad : Ad}
abbrev sChanged : Stmt := top 17
theorem scChanged : FnScope ["row", "gap", "number"] ["row", "gap", "number"] (defScope sChanged) := ⟨rfl, rfl, rfl, by decide +kernel, rfl, by decide +kernel, by decide +kernel⟩
theorem ok_Changed {f : Addr} {fd : FuncData} (F : Fun K "changed" "changed" sChanged f fd) (T : Txt K mg ad)   : FnOk P w K mg base (L2.CX P w) 1 f fd ["row", "gap", "number"] (spChanged K) := by
  refine fnx F scChanged (fun {vs H Q E} h => ?_) (fun {cdv A fr s H vs Q E} hr h => ?_)
  · obtain ⟨a, xs, g, v, rfl, ea, hg, h4, k⟩ := h
    rfl
  · obtain ⟨a, xs, g, v, rfl, ea, hg, h4, k⟩ := h
    refine ⟨_, (PSs.nox (pss_one (ps_ret (pe_op op_catA (pe_op op_catA (pe_slice sl_tupA (pv 0) po_none (po_some (pv 1))) (pe_tup (pa_cons (pv 2) pa_nil))) (pe_slice sl_tupA (pv 0) (po_some (pe_op op_add (pv 1) pe_int)) po_none))))), ?_⟩
    refine r_start (l := [some (.ref a), some (.int (g : Int)), some (.int v)]) rfl ?_
    walk_at "rds"
    refine ⟨_, rfl, ?_⟩
    walk_at "rds"
    refine r_slA ea fun b1 G3 s3 e3 => ?_
    rw [cut_loI (by omega)] at e3
    walk_at "rds"
    refine ⟨len_ok rfl, fun p2 hp2 => ?_⟩
    have s4 := same_neu s3 hp2 (o := .tup [.int v])
    have ep2 : upd G3 p2 (.tup [.int v]) p2 = some (.tup ([v].map V.int)) := upd_same
    have e3' := same_neu (Same.refl G3) hp2 (o := .tup [.int v]) _ _ e3
    generalize upd G3 p2 _ = G4 at s4 ep2 e3'
    refine r_catS e3' ep2 (by rw [List.length_map, List.length_map, List.length_take]; exact Nat.le_of_lt (small1000 (by show min g xs.length + 1 ≤ 1000; omega))) fun b3 G5 s5 e5 => ?_
    walk_at "rds"
    refine ⟨_, rfl, ?_⟩
    walk_at "rds"
    refine r_slA (s5 _ _ (s4 _ _ ea)) fun b4 G6 s6 e6 => ?_
    rw [show (g : Int) + 1 = ((g + 1 : Nat) : Int) by omega, cut_hiI (by omega)] at e6
    refine r_catS (s6 _ _ e5) e6 (by rw [← List.map_append, List.length_map, List.length_map, List.length_append, List.length_take, List.length_drop]; exact Nat.le_of_lt (small1000 (by show min g xs.length + 1 + (xs.length - (g + 1)) ≤ 1000; omega))) fun b5 G7 s7 e7 => ?_
    refine k G7 b5 (fun b o e => s7 _ _ (s6 _ _ (s5 _ _ (s4 b o e)))) ?_
    rw [e7, ← List.map_append, ← List.map_append, set_cutB hg]
abbrev sMaySet : Stmt := top 23
theorem scMaySet : FnScope ["clock", "row", "gap"] ["clock", "row", "gap"] (defScope sMaySet) := ⟨rfl, rfl, rfl, by decide +kernel, rfl, by decide +kernel, by decide +kernel⟩
theorem ok_MaySet {f : Addr} {fd : FuncData} (F : Fun K "may_set" "may_set" sMaySet f fd) (T : Txt K mg ad)  {f0 : Addr} {fd0 : FuncData} (cDemandClock : CalX P w K mg base "demand_clock" 3 f0 fd0 ["clock"] (spDemClock ad.c_BadClock)) {f1 : Addr} {fd1 : FuncData} (cDemandRimRow : CalX P w K mg base "demand_rim_row" 5 f1 fd1 ["clock", "row", "part"] (spDemRim ad.c_BadRow)) {f2 : Addr} {fd2 : FuncData} (cDemandWithin : CalX P w K mg base "demand_within" 3 f2 fd2 ["value", "least", "most", "part"] (spDemWithin ad.c_BadNumber)) {f3 : Addr} {fd3 : FuncData} (cStepAt : CalX P w K mg base "step_at" 1 f3 fd3 ["row", "gap"] (spStepAt K)) : FnOk P w K mg base (L2.CX P w) 6 f fd ["clock", "row", "gap"] (spMaySet ad.c_BadClock ad.c_BadRow ad.c_BadNumber) := by
  refine fnx F scMaySet (fun {vs H Q E} h => ?_) (fun {cdv A fr s H vs Q E} hr h => ?_)
  · obtain ⟨q, c, a, oa, gv, rfl, hc, ha, hg, hla, k1, k⟩ := h
    rfl
  · obtain ⟨q, c, a, oa, gv, rfl, hc, ha, hg, hla, k1, k⟩ := h
    refine ⟨_, (pss_cons (ps_expr (pe_goE cDemandClock (hr.mono (by decide)) (takes_of rfl rfl rfl rfl) (by rfl) (pa_cons (pv 0) pa_nil)))
  (pss_cons (ps_expr (pe_goE cDemandRimRow (hr.mono (by decide)) (takes_of rfl rfl rfl rfl) (by rfl) (pa_cons (pv 0) (pa_cons (pv 1) (pa_cons pe_str pa_nil)))))
  (pss_cons (ps_expr (pe_goE cDemandWithin (hr.mono (by decide)) (takes_of rfl rfl rfl rfl) (by rfl) (pa_cons (pv 2) (pa_cons pe_int (pa_cons (pe_op op_sub (pe_callB (cl_len (K := K) rfl) (by rfl) T.z_len PySem.boot_len (pa_cons (pv 1) pa_nil)) pe_int) (pa_cons pe_str pa_nil))))))
  (PSs.nox (pss_one (ps_ret (pe_cmpR op_ne (pe_goX cStepAt (hr.mono (by decide)) (by rfl) (pa_cons (pv 1) (pa_cons (pv 2) pa_nil))) pe_int (nomark _)))))))), ?_⟩
    refine r_start (l := [some (c), some (a), some (gv)]) rfl ?_
    walk_at "rds"
    refine ⟨q, c, rfl, hc, fun e => ?_, fun e => k1 e⟩
    obtain ⟨cl, rfl, h3, h31⟩ := clk_int e
    have kk := k cl rfl e
    walk_at "rds"
    refine ⟨q, a, oa, cl, _, rfl, ha, e, hla, fun H1 s1 => ⟨fun e1 => ?_, fun e1 => (kk H1 s1).1 e1⟩⟩
    obtain ⟨ns, rfl, n2, n16, _, mx⟩ := rimOk_some e1
    obtain ⟨k2, k3⟩ := (kk H1 s1).2 e1 ns rfl
    obtain ⟨p, t, rfl, hp⟩ := row_B (K := K) (rowV_same ha s1)
    walk_at "rds"
    refine ⟨p, _, rfl, hp.or, ?_⟩
    walk_at "rds"
    rw [List.length_map]
    refine ⟨q, gv, some 0, some ((ns.length : Int) - 1), _, rfl, hg.but (same_but s1), fun eg => ?_, fun eg => k2 eg⟩
    obtain ⟨gi, rfl⟩ := inB_int eg
    obtain ⟨b1, b2⟩ := inB_of eg
    obtain ⟨i, rfl⟩ : ∃ i : Nat, gi = (i : Int) := ⟨gi.toNat, by omega⟩
    have hi : i < ns.length := by omega
    walk_at "rds"
    refine ⟨t, p, ns, i, rfl, hp, hi, by omega, ?_⟩
    walk_at "rds"
    refine ⟨rfl, ?_⟩
    rw [show decide (V.int (stepAt ns i) = V.int 0) = decide (stepAt ns i = 0) from decide_eq_decide.mpr ⟨fun w => V.int.inj w, fun w => by rw [w]⟩]
    exact k3 i rfl hi
abbrev sSetAt : Stmt := top 24
theorem scSetAt : FnScope ["clock", "row", "gap", "number", "fits"] ["clock", "row", "gap", "number"] (defScope sSetAt) := ⟨rfl, rfl, rfl, by decide +kernel, rfl, by decide +kernel, by decide +kernel⟩
theorem ok_SetAt {f : Addr} {fd : FuncData} (F : Fun K "set_at" "set_at" sSetAt f fd) (T : Txt K mg ad)  {f0 : Addr} {fd0 : FuncData} (cMaySet : CalX P w K mg base "may_set" 6 f0 fd0 ["clock", "row", "gap"] (spMaySet ad.c_BadClock ad.c_BadRow ad.c_BadNumber)) {f1 : Addr} {fd1 : FuncData} (cDemandWithin : CalX P w K mg base "demand_within" 3 f1 fd1 ["value", "least", "most", "part"] (spDemWithin ad.c_BadNumber)) {f2 : Addr} {fd2 : FuncData} (cChanged : CalX P w K mg base "changed" 1 f2 fd2 ["row", "gap", "number"] (spChanged K)) (eMisfit : Err1 P w K mg base "Misfit" ad.c_Misfit "part") : FnOk P w K mg base (L2.CX P w) 7 f fd ["clock", "row", "gap", "number"] (spSetAt ad.c_BadClock ad.c_BadRow ad.c_BadNumber ad.c_Misfit) := by
  refine fnx F scSetAt (fun {vs H Q E} h => ?_) (fun {cdv A fr s H vs Q E} hr h => ?_)
  · obtain ⟨q, c, a, oa, gv, nv, rfl, hc, ha, hg, hn, hla, k1, k⟩ := h
    rfl
  · obtain ⟨q, c, a, oa, gv, nv, rfl, hc, ha, hg, hn, hla, k1, k⟩ := h
    refine ⟨_, (pss_cons (ps_set (i := 4) scSetAt.nd rfl (Or.inl rfl) (pe_goE cMaySet (hr.mono (by decide)) (takes_of rfl rfl rfl rfl) (by rfl) (pa_cons (pv 0) (pa_cons (pv 1) (pa_cons (pv 2) pa_nil)))))
  (pss_cons (ps_expr (pe_goE cDemandWithin (hr.mono (by decide)) (takes_of rfl rfl rfl rfl) (by rfl) (pa_cons (pv 3) (pa_cons pe_int (pa_cons (pe_op op_sub (pv 0) pe_int) (pa_cons pe_str pa_nil))))))
  (pss_cons (ps_if (pt_not (pt_val (pv 4)))
  (pss_one (ps_raise rfl (takes_of rfl rfl rfl rfl) (pmk_err1 eMisfit (hr.mono (by decide)) (by rfl) pe_str)))
  pss_nil)
  (PSs.nox (pss_one (ps_ret (pe_goX cChanged (hr.mono (by decide)) (by rfl) (pa_cons (pe_callTy call_tupK (by rfl) T.z_tuple (by decide +kernel) (pa_cons (pv 1) pa_nil)) (pa_cons (pv 2) (pa_cons (pv 3) pa_nil)))))))))), ?_⟩
    refine r_start (l := [some (c), some (a), some (gv), some (nv), none]) rfl ?_
    walk_at "rds"
    refine ⟨q, c, a, oa, gv, rfl, hc, ha, hg, hla, fun e => k1 e, fun cl ecl e H1 s1 => ?_⟩
    have kk := k cl ecl e H1 s1
    refine ⟨fun e1 => kk.1 e1, fun e1 xs exs => ?_⟩
    obtain ⟨k2, k3⟩ := kk.2 e1 xs exs
    refine ⟨fun e2 => k2 e2, fun i ei hi => ?_⟩
    obtain ⟨k4, k5⟩ := k3 i ei hi
    subst ecl ei exs
    walk_at "rds"
    refine ⟨q, nv, some 0, some (cl - 1), _, rfl, hn.but (same_but s1), fun en => ?_, fun en => k4 en⟩
    obtain ⟨v, rfl⟩ := inB_int en
    obtain ⟨b1, b2⟩ := inB_of en
    obtain ⟨k6, k7⟩ := k5 v rfl b1 (by omega)
    obtain ⟨ns, ens, n2, n16, _, mx⟩ := rimOk_some e1
    have e16 : xs.length ≤ 16 := by
      have z := congrArg (Option.map List.length) ens
      simp only [Option.map_some, List.length_map] at z
      have z := Option.some.inj z
      omega
    walk_at "rds"
    by_cases z : stepAt xs i = 0
    · rw [decide_eq_true z]
      walk_at "rds"
      exact k6 z
    · rw [decide_eq_false z]
      walk_at "F"
      have key : ∀ p H2, Same H1 H2 → H2 p = some (.tup (xs.map V.int)) → spChanged K [.ref p, .int (i : Int), .int v] H2 (fun v H3 => Q v H3) E0 := fun p H2 s2 ep => ⟨p, xs, i, v, rfl, ep, hi, by omega, fun H3 p3 s3 e3 => k7 z H3 p3 (s2.trans s3) e3⟩
      cases rowV_same ha s1 with
      | lst n e _ =>
        refine r_tupL e fun p H2 s2 hp ep => ?_
        walk_at "rds"
        exact key p H2 s2 ep
      | tup n e _ =>
        refine ⟨_, _, rfl, .inr ⟨SqT.of e, ?_⟩⟩
        walk_at "rds"
        exact key _ H1 (Same.refl _) e
end
end K44
namespace K44
open PySem PySem.Spec PyProof.Rows L2 Rp LamX RZ

section
variable {P : Program} {w : World} {K : PySem.W.Frag} {mg : Str → Option Value} {base : Heap} {ad : Ad}
abbrev sLawCarousel : Stmt := top 26
theorem scLawCarousel : FnScope ["script", "cell"] ["script"] (defScope sLawCarousel) := ⟨rfl, rfl, rfl, by decide +kernel, rfl, by decide +kernel, by decide +kernel⟩
theorem ok_LawCarousel {f : Addr} {fd : FuncData} (F : Fun K "_law_carousel" "_law_carousel" sLawCarousel f fd) (T : Txt K mg ad) (hM : HasMods base)   : FnG P w K mg base 1 f fd ["script"] (spBox K) := by
  refine fng F scLawCarousel (fun {vs H Q E} h => ?_) (fun {cdv A fr s H vs Q E} hg hr h => ?_)
  · obtain ⟨a, ns, rfl, hS, k⟩ := h
    rfl
  · obtain ⟨a, ns, rfl, hS, k⟩ := h
    refine ⟨_, (pss_one (ps_ret (pe_lst (pa_cons (pe_lc (own := [("cell", 1)]) (g := gName 1) (tt := tYes) rfl scLawCarousel.nd (pi_list (pe_slice sl_list (pv 0) po_none (po_some pe_int))) (blkOk_by (own := [("cell", 1)]) (N := ["script", "cell"]) (sc := defScope sLawCarousel) (by decide +kernel)) (fun _ _ _ _ _ => (pg_name (i := 1) scLawCarousel.nd rfl (Or.inl rfl))) (fun _ _ _ _ _ => pts_nil) (fun _ _ _ _ _ => (pe_callTy call_int1 (by rfl) T.z_int (by decide +kernel) (pa_cons (pv 1) pa_nil)))) (pa_cons pe_int (pa_cons pe_int pa_nil)))))), ?_⟩
    refine r_start (l := [some (.ref a), none]) rfl ?_
    walk_at "rds"
    refine ⟨_, rfl, ?_⟩
    refine ⟨_, _, rfl, hS, fun p hp => ?_⟩
    have s1 : Same H (upd H p (.lst (cutV (ns.map V.int) none (some 60)))) := same_neu (Same.refl H) hp
    obtain ⟨ns', ec, el⟩ := cut60 ns
    rw [ec] at s1 ⊢
    generalize hH1 : upd H p _ = H1
    rw [hH1] at s1
    have hp1 : H1 p = some (.lst (ns'.map V.int)) := by rw [← hH1]; exact upd_same
    refine ⟨p, rfl, ⟨_, SqL.of hp1⟩, fun D hD => ?_⟩
    refine lc_list (K := K) (a := p) (xs := ns'.map V.int) (fun i H' => H' D = some (.lst ((ns'.take i).map V.int)) ∧ ∀ b o, b ≠ D → H1 b = some o → H' b = some o)
      ⟨upd_same, fun b o n e => by rw [upd_ne n]; exact e⟩ (fun i H' _ ⟨_, s2⟩ => SqL.of (s2 p _ (ne_of_none hp1 hD) hp1)) ?_ ?_
    · rintro i x H' hi ⟨hD', s2⟩
      have hi' : i < ns'.length := by
        have q := (List.getElem?_eq_some_iff.mp hi).1
        rw [List.length_map] at q
        exact q
      obtain ⟨n, en, rfl⟩ : ∃ n, ns'[i]? = some n ∧ x = V.int n := by
        rw [List.getElem?_map] at hi
        cases e : ns'[i]? with
        | none => rw [e] at hi; cases hi
        | some u => rw [e] at hi; exact ⟨u, rfl, (Option.some.inj hi).symm⟩
      walk_at "rds"
      refine ⟨rfl, ?_⟩
      walk_at "rds"
      refine .inl ⟨_, rfl, ?_⟩
      refine ⟨_, hD', ?_, ?_, fun b o n e => by rw [upd_ne n]; exact s2 b o n e⟩
      · rw [List.length_map, List.length_take]
        exact small1000 (by omega)
      · rw [upd_same, List.take_succ, en, Option.toList_some, List.map_append]
        rfl
    · rintro H' ⟨hD', s2⟩
      rw [List.length_map, List.take_length] at hD'
      walk_at "rds"
      refine ⟨len_ok rfl, fun q hq => ?_⟩
      have nD : H D = none := s1.free hD
      refine k _ q D ns' ⟨ne_of_none hD' hq, ⟨0, upd_same⟩, by rw [upd_ne (ne_of_none hD' hq)]; exact hD', el⟩ (fun b o e => ?_) ?_
      · have e1 := s1 b o e
        have e2 := s2 b o (ne_of_none e nD) e1
        rw [upd_ne (ne_of_none e2 hq)]
        exact e2
      · cases e : H q with
        | none => rfl
        | some o =>
          have e2 := s2 q o (ne_of_none e nD) (s1 q o e)
          rw [hq] at e2
          cases e2
abbrev sLawPole : Stmt := top 27
theorem scLawPole : FnScope ["carousel", "many", "left", "turn", "cell", "mixed"] ["carousel", "many"] (defScope sLawPole) := ⟨rfl, rfl, rfl, by decide +kernel, rfl, by decide +kernel, by decide +kernel⟩
theorem ok_LawPole {f : Addr} {fd : FuncData} (F : Fun K "_law_pole" "_law_pole" sLawPole f fd) (T : Txt K mg ad) (hM : HasMods base)   : FnG P w K mg base 1 f fd ["carousel", "many"] spDraw := by
  refine fng F scLawPole (fun {vs H Q E} h => ?_) (fun {cdv A fr s H vs Q E} hg hr h => ?_)
  · obtain ⟨q, c, ns, lap, many, rfl, hm, hm2, hlap, ⟨ne, ⟨rest, hb⟩, hc, hl⟩, k⟩ := h
    rfl
  · obtain ⟨q, c, ns, lap, many, rfl, hm, hm2, hlap, ⟨ne, ⟨rest, hb⟩, hc, hl⟩, k⟩ := h
    refine ⟨_, (pss_cons (ps_if (pt_cmpR op_gt (pe_ix ix_list (pv 0) pe_int (fun _ _ => rfl)) pe_int (nomark _))
  (pss_cons (ps_set (i := 2) scLawPole.nd rfl (Or.inl rfl) (pe_callTy call_int1 (by rfl) T.z_int (by decide +kernel) (pa_cons (pe_ix ix_list (pv 0) pe_int (fun _ _ => rfl)) pa_nil)))
  (pss_cons (ps_asg (pe_op op_fdivN (pv 2) (pv 1)) (pg_sub (pv 0) pe_int set_list))
  (pss_one (ps_ret (pe_op op_modN (pe_callTy call_int1 (by rfl) T.z_int (by decide +kernel) (pa_cons (pv 2) pa_nil)) (pv 1))))))
  pss_nil)
  (pss_cons (ps_set (i := 3) scLawPole.nd rfl (Or.inl rfl) (pe_ix ix_list (pv 0) pe_int (fun _ _ => rfl)))
  (pss_cons (ps_asg (pe_op op_add (pv 3) pe_int) (pg_sub (pv 0) pe_int set_list))
  (pss_cons (ps_set (i := 4) scLawPole.nd rfl (Or.inl rfl) (pe_op op_add (pe_op op_mul pe_int (pv 3)) pe_int))
  (pss_cons (ps_if (pt_cmpR (op_neD hr.units) (pe_ix ix_list (pv 0) pe_int (fun _ _ => rfl)) (pe_lst pa_nil) (nomark _))
  (pss_one (ps_set (i := 4) scLawPole.nd rfl (Or.inl rfl) (pe_ix ix_list (pe_ix ix_list (pv 0) pe_int (fun _ _ => rfl)) (pe_op op_modN (pe_callTy call_int1 (by rfl) T.z_int (by decide +kernel) (pa_cons (pv 3) pa_nil)) (pe_callB call_len_seq (by rfl) T.z_len PySem.boot_len (pa_cons (pe_ix ix_list (pv 0) pe_int (fun _ _ => rfl)) pa_nil))) (fun _ _ => rfl))))
  pss_nil)
  (pss_cons (ps_if (PW.pt (pw_and (pt_cmpR op_lt (pv 3) (pe_callB call_len_seq (by rfl) T.z_len PySem.boot_len (pa_cons (pe_ix ix_list (pv 0) pe_int (fun _ _ => rfl)) pa_nil)) (nomark _)) (pw_and1 (pt_cmpR op_ge (pe_callB call_abs (by rfl) T.z_abs (by decide +kernel) (pa_cons (pv 4) pa_nil)) (pe_op op_pow pe_int pe_int) (nomark _)))))
  (pss_cons (ps_set (i := 2) scLawPole.nd rfl (Or.inl rfl) (pe_op op_add (pe_op op_mul pe_int (pe_op op_sub (pe_callB call_abs (by rfl) T.z_abs (by decide +kernel) (pa_cons (pe_callTy call_int1 (by rfl) T.z_int (by decide +kernel) (pa_cons (pv 4) pa_nil)) pa_nil)) (pe_op op_pow pe_int pe_int))) (pe_callTy call_int1 (by rfl) T.z_int (by decide +kernel) (pa_cons (pe_cmpR op_lt (pv 4) pe_int (nomark _)) pa_nil))))
  (pss_cons (ps_asg (pe_op op_fdivN (pv 2) (pv 1)) (pg_sub (pv 0) pe_int set_list))
  (pss_one (ps_ret (pe_op op_modN (pe_callTy call_int1 (by rfl) T.z_int (by decide +kernel) (pa_cons (pv 2) pa_nil)) (pv 1))))))
  pss_nil)
  (pss_cons (ps_set (i := 5) scLawPole.nd rfl (Or.inl rfl) (pe_op op_modN (pe_callTy call_int1 (by rfl) T.z_int (by decide +kernel) (pa_cons (pe_op op_pow (pe_op op_add (pe_op op_add (pe_op op_modN (pe_callTy call_int1 (by rfl) T.z_int (by decide +kernel) (pa_cons (pv 4) pa_nil)) pe_int) (pe_op op_mul pe_int (pv 3))) pe_int) pe_int) pa_nil)) pe_int))
  (pss_cons (ps_set (i := 5) scLawPole.nd rfl (Or.inl rfl) (pe_op op_modN (pe_callTy call_int1 (by rfl) T.z_int (by decide +kernel) (pa_cons (pe_op op_pow (pe_op op_add (pe_op op_add (pe_op op_mul (pv 5) (pe_op op_add (pe_op op_mul pe_int (pv 3)) pe_int)) (pe_op op_mul (pe_op op_mul pe_int (pv 3)) (pv 3))) pe_int) pe_int) pa_nil)) pe_int))
  (pss_one (ps_ret (pe_op op_modN (pe_callTy call_int1 (by rfl) T.z_int (by decide +kernel) (pa_cons (pe_op op_fdivN (pv 5) pe_int) pa_nil)) (pv 1)))))))))))), ?_⟩
    refine r_start (l := [some (.ref q), some (.int many), none, none, none, none]) rfl ?_
    have hmN : many.natAbs < 1073741824 := by omega
    have hm0 : many ≠ 0 := by omega
    have bq : ∀ {o : HO}, But q H (upd H q o) := fun {o} => But.upd o
    -- if quay[2] > 0
    walk_at "rds"
    refine r_ixL (SqL.of hb) at2 ?_
    walk_at "rds"
    refine ite2 (fun hpos => ?_) (fun _ => ?_)
    · walk_at "rds"
      refine r_ixL (SqL.of hb) at2 ?_
      walk_at "rds"
      refine .inl ⟨_, rfl, ?_⟩
      walk_at "rds"
      refine r_I ⟨hm0, hmN⟩ ?_
      walk_at "rds"
      refine r_setL hb (k := 2) rfl ?_
      walk_at "rds"
      refine .inl ⟨_, rfl, ?_⟩
      walk_at "rds"
      refine r_I hm0 ?_
      exact k _ lap _ (by omega) ⟨ne, ⟨_, upd_same⟩, by rw [upd_ne ne]; exact hc, hl⟩ bq (fmod_in hm).1 (fmod_in hm).2
    -- lap = quay[1]; quay[1] = lap + 1; cell = ..
    walk_at "rds"
    refine r_ixL (SqL.of hb) at1 ?_
    walk_at "rds"
    refine r_setL hb (k := 1) rfl ?_
    walk_at "rds"
    refine r_I (.inl ⟨by decide, by decide⟩) ?_
    generalize hH1 : upd H q _ = H1
    have hb1 : H1 q = some (.lst [.ref c, .int ((lap + 1 : Nat) : Int), .int rest]) := by rw [← hH1]; exact upd_same
    have hc1 : H1 c = some (.lst (ns.map V.int)) := by rw [← hH1, upd_ne ne]; exact hc
    have q1 : But q H H1 := by rw [← hH1]; exact bq
    clear hH1 hb hc bq
    walk_at "res"
    with_reducible refine r_cut (fun σ H' => ∃ cell : Int, σ = [some (.ref q), some (.int many), none, some (.int (lap : Int)), some (.int cell), none] ∧ H' q = some (.lst [.ref c, .int ((lap + 1 : Nat) : Int), .int rest]) ∧ H' c = some (.lst (ns.map V.int)) ∧ But q H H') ?_ fun go => ?_
    rotate_left
    · -- if quay[0] != []
      walk_at "rds"
      refine r_ixL (SqL.of hb1) at0 ?_
      walk_at "rds"
      refine ⟨len_ok rfl, fun p hp => ?_⟩
      have hb2 : upd H1 p (.lst []) q = some (.lst [.ref c, .int ((lap + 1 : Nat) : Int), .int rest]) := by rw [upd_ne (ne_of_none hb1 hp)]; exact hb1
      have hc2 : upd H1 p (.lst []) c = some (.lst (ns.map V.int)) := by rw [upd_ne (ne_of_none hc1 hp)]; exact hc1
      have q2 : But q H (upd H1 p (.lst [])) := q1.neu hp
      refine ne_nil hc2 upd_same ?_
      walk_at "rds"
      cases hns : ns.isEmpty with
      | true =>
        walk_at "res"
        exact go _ _ ⟨_, rfl, hb2, hc2, q2⟩
      | false =>
        have hlen : (0 : Int) < (ns.length : Int) := by
          cases ns with
          | nil => cases hns
          | cons n0 nr => simp <;> omega
        walk_at "rds"
        refine r_ixL (SqL.of hb2) at0 ?_
        walk_at "rds"
        refine .inl ⟨_, rfl, ?_⟩
        walk_at "rds"
        refine r_ixL (SqL.of hb2) at0 ?_
        walk_at "rds"
        refine ⟨_, _, rfl, .inl (SqL.of hc2), ?_⟩
        walk_at "rds"
        rw [map_len]
        refine r_I (by omega) ?_
        obtain ⟨cell, hcell⟩ := at_ints (ns := ns) (fmod_in (i := (lap : Int)) hlen).1 (fmod_in hlen).2
        refine r_ixL (SqL.of hc2) hcell ?_
        walk_at "res"
        exact go _ _ ⟨_, rfl, hb2, hc2, q2⟩
    clear hb1 hc1 q1 H1
    rintro σ H1 ⟨cell, rfl, hb1, hc1, q1⟩
    have D1 : Dr q c ns (lap + 1) H1 := ⟨ne, ⟨_, hb1⟩, hc1, hl⟩
    -- if lap < len(quay[0]) and abs(cell) >= 10 ** 18
    with_reducible refine r_cut (fun σ H' => σ = [some (.ref q), some (.int many), none, some (.int (lap : Int)), some (.int cell), none] ∧ H' = H1) ?_ fun go => ?_
    rotate_left
    · walk_at "rds"
      refine r_ixL (SqL.of hb1) at0 ?_
      walk_at "rds"
      refine ⟨_, _, rfl, .inl (SqL.of hc1), ?_⟩
      walk_at "rds"
      refine ite2 (fun _ => ?_) (fun _ => ?_)
      · walk_at "rds"
        refine ⟨_, rfl, ?_⟩
        walk_at "rds"
        refine r_I ⟨by decide, by decide, by decide⟩ ?_
        walk_at "rds"
        refine ite2 (fun _ => ?_) (fun _ => ?_)
        · walk_at "rds"
          refine .inl ⟨_, rfl, ?_⟩
          walk_at "rds"
          refine ⟨_, rfl, ?_⟩
          walk_at "rds"
          refine r_I ⟨by decide, by decide, by decide⟩ ?_
          walk_at "rds"
          refine r_I (.inl ⟨by decide, by decide⟩) ?_
          walk_at "rds"
          refine .inr ⟨_, rfl, ?_⟩
          walk_at "rds"
          refine r_I ⟨hm0, hmN⟩ ?_
          walk_at "rds"
          refine r_setL hb1 (k := 2) rfl ?_
          walk_at "rds"
          refine .inl ⟨_, rfl, ?_⟩
          walk_at "rds"
          refine r_I hm0 ?_
          exact k _ (lap + 1) _ (by omega) ⟨ne, ⟨_, upd_same⟩, by rw [upd_ne ne]; exact hc1, hl⟩ (q1.upd2 _) (fmod_in hm).1 (fmod_in hm).2
        · walk_at "res"
          exact go _ _ ⟨rfl, rfl⟩
      · walk_at "res"
        exact go _ _ ⟨rfl, rfl⟩
    rintro σ H' ⟨rfl, rfl⟩
    -- mixed
    walk_at "rds"
    refine .inl ⟨_, rfl, ?_⟩
    walk_at "rds"
    refine r_I (by decide) ?_
    walk_at "rds"
    refine r_I (.inl ⟨by decide, by decide⟩) ?_
    walk_at "rds"
    have f1 := fmod_in (i := cell) (j := 2147483489) (by decide)
    refine r_I ⟨by decide, by decide, by omega⟩ ?_
    generalize (_ : Int) ^ (_ : Nat) = big1
    walk_at "rds"
    refine .inl ⟨_, rfl, ?_⟩
    walk_at "rds"
    refine r_I (by decide) ?_
    have f2 := fmod_in (i := big1) (j := 2147483477) (by decide)
    revert f2
    generalize big1.fmod _ = mixed
    intro f2
    walk_at "rds"
    refine r_I (.inl ⟨by decide, by decide⟩) ?_
    walk_at "rds"
    refine r_I (.inl ⟨by omega, by omega⟩) ?_
    walk_at "rds"
    refine r_I (.inl ⟨by decide, by decide⟩) ?_
    walk_at "rds"
    refine r_I (.inl ⟨by omega, by omega⟩) ?_
    walk_at "rds"
    refine r_I ⟨by decide, by decide, fits3 f2.1 (by omega) hlap (by decide) (by decide) (by decide) (by decide) (by decide) (by decide)⟩ ?_
    generalize (_ : Int) ^ (_ : Nat) = big2
    walk_at "rds"
    refine .inl ⟨_, rfl, ?_⟩
    walk_at "rds"
    refine r_I (by decide) ?_
    generalize big2.fmod _ = mixed2
    walk_at "rds"
    refine r_I ⟨by decide, by decide⟩ ?_
    walk_at "rds"
    refine .inl ⟨_, rfl, ?_⟩
    walk_at "rds"
    refine r_I hm0 ?_
    exact k _ (lap + 1) _ (by omega) D1 q1 (fmod_in hm).1 (fmod_in hm).2
abbrev sLawOne : Stmt := top 28
theorem scLawOne : FnScope ["carousel", "some"] ["carousel", "some"] (defScope sLawOne) := ⟨rfl, rfl, rfl, by decide +kernel, rfl, by decide +kernel, by decide +kernel⟩
theorem ok_LawOne {f : Addr} {fd : FuncData} (F : Fun K "_law_one" "_law_one" sLawOne f fd) (T : Txt K mg ad) (hM : HasMods base)  {f0 : Addr} {fd0 : FuncData} (cLawPole : Cal P w K mg base "_law_pole" 1 f0 fd0 ["carousel", "many"] spDraw) : FnG P w K mg base 2 f fd ["carousel", "some"] (spOf K) := by
  refine fng F scLawOne (fun {vs H Q E} h => ?_) (fun {cdv A fr s H vs Q E} hg hr h => ?_)
  · obtain ⟨q, c, a, ns, lap, xs, rfl, hS, h0, h1, hlap, hne, hD, k⟩ := h
    rfl
  · obtain ⟨q, c, a, ns, lap, xs, rfl, hS, h0, h1, hlap, hne, hD, k⟩ := h
    refine ⟨_, (pss_one (ps_ret (pe_ix ix_list (pv 1) (pe_go cLawPole hg (hr.mono (by decide)) (by rfl) (pa_cons (pv 0) (pa_cons (pe_callB call_len_seq (by rfl) T.z_len PySem.boot_len (pa_cons (pv 1) pa_nil)) pa_nil))) (fun _ _ => rfl)))), ?_⟩
    refine r_start (l := [some (.ref q), some (.ref a)]) rfl ?_
    walk_at "rds"
    refine ⟨_, _, rfl, .inl hS, ?_⟩
    walk_at "rds"
    refine ⟨q, c, ns, lap, _, rfl, by omega, by omega, hlap, hD, fun H' lap' r hl D' B r0 r1 => ?_⟩
    obtain ⟨i, v, e1, e2⟩ := at_some r0 r1
    refine r_ixL (B.seq hne hS) e1 ?_
    exact k _ _ i v hl D' B e2
end
end K44
namespace K44
open PySem PySem.Spec PyProof.Rows L2 Rp LamX RZ
abbrev sLawHeard : Stmt := top 30
theorem scLawHeard : FnScope ["ask", "caught", "error", "kinds", "words", "word", "is_so"] ["ask"] (defScope sLawHeard) := ⟨rfl, rfl, rfl, by decide +kernel, rfl, by decide +kernel, by decide +kernel⟩
/-- what is told of an error: its word, its field -/
def hearE (ad : Ad) (Q : VK) : XK := fun cls d G => ∃ (C dd : Addr) (word : Str) (v : V), cls = .ref C ∧ d = some dd ∧ G dd = some (.xd [("part", v)]) ∧ (C, word) ∈ ([(ad.c_BadClock, "clock"), (ad.c_BadNumber, "number"), (ad.c_BadRow, "row"), (ad.c_Misfit, "misfit")] : List (Addr × Str)) ∧ ∀ G2 p, Same G G2 → G p = none → G2 p = some (.tup [.str word, v]) → Q (.ref p) G2
def TTh (ad : Ad) : (XK → Hp → VK → Prop) → Hp → VK → Prop := fun tl H Q => ∃ (Ech : XK) (R0 : VK), tl Ech H R0 ∧ (∀ v G, R0 v G → ∀ G2, Same G G2 → Q .non G2) ∧ ∀ cls d G, Ech cls d G → hearE ad Q cls d G
structure HdT (K : PySem.W.Frag) (ad : Ad) : Prop where
  e_c_BadClock : ErrK K ad.c_BadClock ad.c_RopeError "part"
  e_c_BadNumber : ErrK K ad.c_BadNumber ad.c_RopeError "part"
  e_c_BadRow : ErrK K ad.c_BadRow ad.c_RopeError "part"
  e_c_Misfit : ErrK K ad.c_Misfit ad.c_RopeError "part"
  k_c_BadClock_c_BadClock : PySem.W.kitOne K (.ref ad.c_BadClock) (.ref ad.c_BadClock) = some true
  k_c_BadClock_c_BadNumber : PySem.W.kitOne K (.ref ad.c_BadClock) (.ref ad.c_BadNumber) = some false
  k_c_BadClock_c_BadRow : PySem.W.kitOne K (.ref ad.c_BadClock) (.ref ad.c_BadRow) = some false
  k_c_BadClock_c_Misfit : PySem.W.kitOne K (.ref ad.c_BadClock) (.ref ad.c_Misfit) = some false
  k_c_BadNumber_c_BadClock : PySem.W.kitOne K (.ref ad.c_BadNumber) (.ref ad.c_BadClock) = some false
  k_c_BadNumber_c_BadNumber : PySem.W.kitOne K (.ref ad.c_BadNumber) (.ref ad.c_BadNumber) = some true
  k_c_BadNumber_c_BadRow : PySem.W.kitOne K (.ref ad.c_BadNumber) (.ref ad.c_BadRow) = some false
  k_c_BadNumber_c_Misfit : PySem.W.kitOne K (.ref ad.c_BadNumber) (.ref ad.c_Misfit) = some false
  k_c_BadRow_c_BadClock : PySem.W.kitOne K (.ref ad.c_BadRow) (.ref ad.c_BadClock) = some false
  k_c_BadRow_c_BadNumber : PySem.W.kitOne K (.ref ad.c_BadRow) (.ref ad.c_BadNumber) = some false
  k_c_BadRow_c_BadRow : PySem.W.kitOne K (.ref ad.c_BadRow) (.ref ad.c_BadRow) = some true
  k_c_BadRow_c_Misfit : PySem.W.kitOne K (.ref ad.c_BadRow) (.ref ad.c_Misfit) = some false
  k_c_Misfit_c_BadClock : PySem.W.kitOne K (.ref ad.c_Misfit) (.ref ad.c_BadClock) = some false
  k_c_Misfit_c_BadNumber : PySem.W.kitOne K (.ref ad.c_Misfit) (.ref ad.c_BadNumber) = some false
  k_c_Misfit_c_BadRow : PySem.W.kitOne K (.ref ad.c_Misfit) (.ref ad.c_BadRow) = some false
  k_c_Misfit_c_Misfit : PySem.W.kitOne K (.ref ad.c_Misfit) (.ref ad.c_Misfit) = some true
section
theorem heard_gives {X : Cx} {g : Addr} {cdv : Value} {q : Str} {ad : Ad} (T : Txt X.K X.mg ad) (T2 : HdT X.K ad) : GivesG X ["ask", "caught", "error", "kinds", "words", "word", "is_so"] "_law_heard" (defScope sLawHeard) g cdv (defBody sLawHeard) "ask" q (TTh ad) := by
  intro f c' s H Q tl act hc h
  obtain ⟨Ech, R0, ht, h1, h2⟩ := h
  refine ⟨_, (pss_cons (ps_set (i := 1) scLawHeard.nd rfl (Or.inl rfl) pe_non)
  (pss_cons (ps_tryT (i := 2) (tb := fun W => tTake f c' q 7 tl W) (ts := fun _ _ _ => tAsg (tVar 2) (gName 1)) (Wout := fun _ _ _ _ => False) rfl rfl rfl scLawHeard.nd rfl rfl ⟨by rfl, by decide, Or.inl T.g_RopeError⟩ L2.takes0 (fun W pn xe tk _ => pss_take rfl tk fun E t2 w2 => act _ pn xe E _ _ t2 w2) (fun a oe cls d pn _ _ => pss_one (ps_set (i := 1) scLawHeard.nd rfl (Or.inl rfl) (pv 2))))
  (pss_cons (ps_set (i := 3) scLawHeard.nd rfl (Or.inl rfl) (pe_lst (pa_cons (pe_tup (pa_cons pe_str (pa_cons (pe_callB call_isO (by rfl) T.z_isinstance (by decide +kernel) (pa_cons (pv 1) (pa_cons (pe_glob (v := .ref ad.c_BadClock) (by rfl) T.g_BadClock rfl) pa_nil))) pa_nil))) (pa_cons (pe_tup (pa_cons pe_str (pa_cons (pe_callB call_isO (by rfl) T.z_isinstance (by decide +kernel) (pa_cons (pv 1) (pa_cons (pe_glob (v := .ref ad.c_BadNumber) (by rfl) T.g_BadNumber rfl) pa_nil))) pa_nil))) (pa_cons (pe_tup (pa_cons pe_str (pa_cons (pe_callB call_isO (by rfl) T.z_isinstance (by decide +kernel) (pa_cons (pv 1) (pa_cons (pe_glob (v := .ref ad.c_BadRow) (by rfl) T.g_BadRow rfl) pa_nil))) pa_nil))) (pa_cons (pe_tup (pa_cons pe_str (pa_cons (pe_callB call_isO (by rfl) T.z_isinstance (by decide +kernel) (pa_cons (pv 1) (pa_cons (pe_glob (v := .ref ad.c_Misfit) (by rfl) T.g_Misfit rfl) pa_nil))) pa_nil))) pa_nil))))))
  (pss_cons (ps_setLc (i := 4) (own := [("word", 5), ("is_so", 6)]) (g := gTup X.K 2 (gCons (gName 5) (gCons (gName 6) gNil)))  rfl scLawHeard.nd rfl rfl (sw_true rfl rfl rfl (by decide +kernel)) (pi_list (pv 3)) (blkOk_by (own := [("word", 5), ("is_so", 6)]) (N := ["ask", "caught", "error", "kinds", "words", "word", "is_so"]) (sc := defScope sLawHeard) (by decide +kernel)) (fun _ _ _ _ _ => (pg_tup rfl (pgs_cons (pg_name (i := 5) scLawHeard.nd rfl (Or.inl rfl)) (pgs_cons (pg_name (i := 6) scLawHeard.nd rfl (Or.inl rfl)) pgs_nil)))) (fun _ _ _ _ _ => (pts_one (pt_val (pv 6)))) (fun _ _ _ _ _ => (pv 5)))
  (pss_cons (ps_if (pt_cmpR op_eq (pe_callB call_len_seq (by rfl) T.z_len PySem.boot_len (pa_cons (pv 4) pa_nil)) pe_int (nomark _))
  (pss_one (ps_ret (pe_tup (pa_cons (pe_ix ix_list (pv 4) pe_int (fun _ _ => rfl)) (pa_cons (pe_xt (pv 1)) pa_nil)))))
  pss_nil)
  (pss_one (ps_ret (pe_ifExp (pt_cmpR op_isN (pv 1) pe_non (nomark _)) pe_non (pe_tup (pa_cons pe_str (pa_cons pe_non pa_nil))))))))))), ?_⟩
  refine r_start (l := [some (.ref f), none, none, none, none, none, none]) rfl ?_
  walk_at "rds"
  refine ⟨Ech, R0, fun cls d σ' Ga he hl => ?_, rfl, hc, ht, fun v G r0 => ?_⟩
  · obtain ⟨C, dd, word, v, rfl, rfl, hd, mem, k⟩ := h2 _ _ _ he
    obtain ⟨a0, a1, a2, a3, a4, a5, a6, rfl⟩ : ∃ a0 a1 a2 a3 a4 a5 a6, σ' = [a0, a1, a2, a3, a4, a5, a6] := match σ', hl with | [a0, a1, a2, a3, a4, a5, a6], _ => ⟨a0, a1, a2, a3, a4, a5, a6, rfl⟩
    simp only [List.mem_cons, Prod.mk.injEq, List.not_mem_nil, or_false] at mem
    rcases mem with ⟨rfl, rfl⟩ | ⟨rfl, rfl⟩ | ⟨rfl, rfl⟩ | ⟨rfl, rfl⟩
    · refine ⟨true, T2.e_c_BadClock.up, fun _ a na => ?_, fun z => by cases z⟩
      walk_at "rds"
      generalize hG : upd Ga a _ = Ge
      have sG : Same Ga Ge := by rw [← hG]; exact same_neu (Same.refl _) na
      have ea : Ge a = some (ErO a (.ref ad.c_BadClock) (some dd)) := by rw [← hG]; exact upd_same
      have ed := sG _ _ hd
      clear hG
      walk_at "rds"
      refine r_isE T2.e_c_BadClock ea ed T2.k_c_BadClock_c_BadClock ?_
      walk_at "rds"
      refine ⟨len_ok rfl, fun p0 hp0 => ?_⟩
      generalize hG0 : upd Ge p0 _ = G0
      have s0 : Same Ge G0 := by rw [← hG0]; exact same_neu (Same.refl _) hp0
      have ep0 : G0 p0 = some (.tup [.str "clock", .bl true]) := by rw [← hG0]; exact upd_same
      replace ea := s0 _ _ ea
      replace ed := s0 _ _ ed
      clear hG0
      walk_at "rds"
      refine r_isE T2.e_c_BadClock ea ed T2.k_c_BadClock_c_BadNumber ?_
      walk_at "rds"
      refine ⟨len_ok rfl, fun p1 hp1 => ?_⟩
      generalize hG1 : upd G0 p1 _ = G1
      have s1 : Same G0 G1 := by rw [← hG1]; exact same_neu (Same.refl _) hp1
      have ep1 : G1 p1 = some (.tup [.str "number", .bl false]) := by rw [← hG1]; exact upd_same
      replace ep0 := s1 _ _ ep0
      replace ea := s1 _ _ ea
      replace ed := s1 _ _ ed
      clear hG1
      walk_at "rds"
      refine r_isE T2.e_c_BadClock ea ed T2.k_c_BadClock_c_BadRow ?_
      walk_at "rds"
      refine ⟨len_ok rfl, fun p2 hp2 => ?_⟩
      generalize hG2 : upd G1 p2 _ = G2
      have s2 : Same G1 G2 := by rw [← hG2]; exact same_neu (Same.refl _) hp2
      have ep2 : G2 p2 = some (.tup [.str "row", .bl false]) := by rw [← hG2]; exact upd_same
      replace ep0 := s2 _ _ ep0
      replace ep1 := s2 _ _ ep1
      replace ea := s2 _ _ ea
      replace ed := s2 _ _ ed
      clear hG2
      walk_at "rds"
      refine r_isE T2.e_c_BadClock ea ed T2.k_c_BadClock_c_Misfit ?_
      walk_at "rds"
      refine ⟨len_ok rfl, fun p3 hp3 => ?_⟩
      generalize hG3 : upd G2 p3 _ = G3
      have s3 : Same G2 G3 := by rw [← hG3]; exact same_neu (Same.refl _) hp3
      have ep3 : G3 p3 = some (.tup [.str "misfit", .bl false]) := by rw [← hG3]; exact upd_same
      replace ep0 := s3 _ _ ep0
      replace ep1 := s3 _ _ ep1
      replace ep2 := s3 _ _ ep2
      replace ea := s3 _ _ ea
      replace ed := s3 _ _ ed
      clear hG3
      walk_at "rds"
      refine ⟨len_ok rfl, fun pl hpl => ?_⟩
      generalize hGl : upd G3 pl _ = Gl
      have sl : Same G3 Gl := by rw [← hGl]; exact same_neu (Same.refl _) hpl
      have el : Gl pl = some (.lst [.ref p0, .ref p1, .ref p2, .ref p3]) := by rw [← hGl]; exact upd_same
      replace ep0 := sl _ _ ep0
      replace ep1 := sl _ _ ep1
      replace ep2 := sl _ _ ep2
      replace ep3 := sl _ _ ep3
      replace ea := sl _ _ ea
      replace ed := sl _ _ ed
      clear hGl
      walk_at "rds"
      refine ⟨pl, rfl, ⟨_, SqL.of el⟩, fun D hD => ?_⟩
      refine lc_list (K := X.K) (a := pl) (xs := [.ref p0, .ref p1, .ref p2, .ref p3]) (fun i G => G D = some (.lst (if 0 < i then [V.str "clock"] else [])) ∧ ∀ b o, b ≠ D → Gl b = some o → G b = some o)
        ⟨upd_same, fun b o nb eb => by rw [upd_ne nb]; exact eb⟩ (fun i G _ ⟨_, s⟩ => SqL.of (s pl _ (ne_of_none el hD) el)) ?_ ?_
      · rintro i x G hx ⟨hG, s⟩
        match i, hx with
        | 0, hx =>
          cases Option.some.inj hx
          walk_at "rds"
          refine r_gtup ⟨_, _, rfl, SqT.of (s _ _ (ne_of_none ep0 hD) ep0), rfl, ?_⟩
          refine ⟨_, _, rfl, ?_⟩
          walk_at "rds"
          refine ⟨_, _, rfl, ?_⟩
          walk_at "rds"
          refine ⟨rfl, ?_⟩
          refine ⟨rfl, ?_⟩
          walk_at "rds"
          refine ⟨_, hG, lt_ok rfl, upd_same, fun b o nb eb => by rw [upd_ne nb]; exact s b o nb eb⟩
        | 1, hx =>
          cases Option.some.inj hx
          walk_at "rds"
          refine r_gtup ⟨_, _, rfl, SqT.of (s _ _ (ne_of_none ep1 hD) ep1), rfl, ?_⟩
          refine ⟨_, _, rfl, ?_⟩
          walk_at "rds"
          refine ⟨_, _, rfl, ?_⟩
          walk_at "rds"
          refine ⟨rfl, ?_⟩
          refine ⟨rfl, ?_⟩
          walk_at "rds"
          exact ⟨hG, s⟩
        | 2, hx =>
          cases Option.some.inj hx
          walk_at "rds"
          refine r_gtup ⟨_, _, rfl, SqT.of (s _ _ (ne_of_none ep2 hD) ep2), rfl, ?_⟩
          refine ⟨_, _, rfl, ?_⟩
          walk_at "rds"
          refine ⟨_, _, rfl, ?_⟩
          walk_at "rds"
          refine ⟨rfl, ?_⟩
          refine ⟨rfl, ?_⟩
          walk_at "rds"
          exact ⟨hG, s⟩
        | 3, hx =>
          cases Option.some.inj hx
          walk_at "rds"
          refine r_gtup ⟨_, _, rfl, SqT.of (s _ _ (ne_of_none ep3 hD) ep3), rfl, ?_⟩
          refine ⟨_, _, rfl, ?_⟩
          walk_at "rds"
          refine ⟨_, _, rfl, ?_⟩
          walk_at "rds"
          refine ⟨rfl, ?_⟩
          refine ⟨rfl, ?_⟩
          walk_at "rds"
          exact ⟨hG, s⟩
        | i + 4, hx => simp at hx
      · rintro Gz ⟨hG, s⟩
        replace ea := s _ _ (ne_of_none ea hD) ea
        replace ed := s _ _ (ne_of_none ed hD) ed
        have all : ∀ b o, Ga b = some o → Gz b = some o := fun b o e => s b o (ne_of_none (sl _ _ (s3 _ _ (s2 _ _ (s1 _ _ (s0 _ _ (sG _ _ e)))))) hD) (sl _ _ (s3 _ _ (s2 _ _ (s1 _ _ (s0 _ _ (sG _ _ e))))))
        replace hG : Gz D = some (.lst [.str "clock"]) := hG
        walk_at "rds"
        refine ⟨_, _, rfl, .inl (SqL.of hG), ?_⟩
        walk_at "rds"
        refine ⟨rfl, ?_⟩
        rw [decide_eq_true (by rfl)]
        walk_at "rds"
        refine r_ixL (SqL.of hG) rfl ?_
        walk_at "rds"
        refine ⟨a, _, dd, _, v, rfl, T2.e_c_BadClock.xf, T2.e_c_BadClock.no, ea, ed, by simp [List.lookup], ?_⟩
        walk_at "rds"
        refine ⟨len_ok rfl, fun pr hpr => ?_⟩
        refine k _ pr (fun b o e => ?_) ?_ upd_same
        · rw [upd_ne (ne_of_none (all b o e) hpr)]
          exact all b o e
        · cases z : Ga pr with
          | none => rfl
          | some o => cases hpr.symm.trans (all pr o z)
    · refine ⟨true, T2.e_c_BadNumber.up, fun _ a na => ?_, fun z => by cases z⟩
      walk_at "rds"
      generalize hG : upd Ga a _ = Ge
      have sG : Same Ga Ge := by rw [← hG]; exact same_neu (Same.refl _) na
      have ea : Ge a = some (ErO a (.ref ad.c_BadNumber) (some dd)) := by rw [← hG]; exact upd_same
      have ed := sG _ _ hd
      clear hG
      walk_at "rds"
      refine r_isE T2.e_c_BadNumber ea ed T2.k_c_BadNumber_c_BadClock ?_
      walk_at "rds"
      refine ⟨len_ok rfl, fun p0 hp0 => ?_⟩
      generalize hG0 : upd Ge p0 _ = G0
      have s0 : Same Ge G0 := by rw [← hG0]; exact same_neu (Same.refl _) hp0
      have ep0 : G0 p0 = some (.tup [.str "clock", .bl false]) := by rw [← hG0]; exact upd_same
      replace ea := s0 _ _ ea
      replace ed := s0 _ _ ed
      clear hG0
      walk_at "rds"
      refine r_isE T2.e_c_BadNumber ea ed T2.k_c_BadNumber_c_BadNumber ?_
      walk_at "rds"
      refine ⟨len_ok rfl, fun p1 hp1 => ?_⟩
      generalize hG1 : upd G0 p1 _ = G1
      have s1 : Same G0 G1 := by rw [← hG1]; exact same_neu (Same.refl _) hp1
      have ep1 : G1 p1 = some (.tup [.str "number", .bl true]) := by rw [← hG1]; exact upd_same
      replace ep0 := s1 _ _ ep0
      replace ea := s1 _ _ ea
      replace ed := s1 _ _ ed
      clear hG1
      walk_at "rds"
      refine r_isE T2.e_c_BadNumber ea ed T2.k_c_BadNumber_c_BadRow ?_
      walk_at "rds"
      refine ⟨len_ok rfl, fun p2 hp2 => ?_⟩
      generalize hG2 : upd G1 p2 _ = G2
      have s2 : Same G1 G2 := by rw [← hG2]; exact same_neu (Same.refl _) hp2
      have ep2 : G2 p2 = some (.tup [.str "row", .bl false]) := by rw [← hG2]; exact upd_same
      replace ep0 := s2 _ _ ep0
      replace ep1 := s2 _ _ ep1
      replace ea := s2 _ _ ea
      replace ed := s2 _ _ ed
      clear hG2
      walk_at "rds"
      refine r_isE T2.e_c_BadNumber ea ed T2.k_c_BadNumber_c_Misfit ?_
      walk_at "rds"
      refine ⟨len_ok rfl, fun p3 hp3 => ?_⟩
      generalize hG3 : upd G2 p3 _ = G3
      have s3 : Same G2 G3 := by rw [← hG3]; exact same_neu (Same.refl _) hp3
      have ep3 : G3 p3 = some (.tup [.str "misfit", .bl false]) := by rw [← hG3]; exact upd_same
      replace ep0 := s3 _ _ ep0
      replace ep1 := s3 _ _ ep1
      replace ep2 := s3 _ _ ep2
      replace ea := s3 _ _ ea
      replace ed := s3 _ _ ed
      clear hG3
      walk_at "rds"
      refine ⟨len_ok rfl, fun pl hpl => ?_⟩
      generalize hGl : upd G3 pl _ = Gl
      have sl : Same G3 Gl := by rw [← hGl]; exact same_neu (Same.refl _) hpl
      have el : Gl pl = some (.lst [.ref p0, .ref p1, .ref p2, .ref p3]) := by rw [← hGl]; exact upd_same
      replace ep0 := sl _ _ ep0
      replace ep1 := sl _ _ ep1
      replace ep2 := sl _ _ ep2
      replace ep3 := sl _ _ ep3
      replace ea := sl _ _ ea
      replace ed := sl _ _ ed
      clear hGl
      walk_at "rds"
      refine ⟨pl, rfl, ⟨_, SqL.of el⟩, fun D hD => ?_⟩
      refine lc_list (K := X.K) (a := pl) (xs := [.ref p0, .ref p1, .ref p2, .ref p3]) (fun i G => G D = some (.lst (if 1 < i then [V.str "number"] else [])) ∧ ∀ b o, b ≠ D → Gl b = some o → G b = some o)
        ⟨upd_same, fun b o nb eb => by rw [upd_ne nb]; exact eb⟩ (fun i G _ ⟨_, s⟩ => SqL.of (s pl _ (ne_of_none el hD) el)) ?_ ?_
      · rintro i x G hx ⟨hG, s⟩
        match i, hx with
        | 0, hx =>
          cases Option.some.inj hx
          walk_at "rds"
          refine r_gtup ⟨_, _, rfl, SqT.of (s _ _ (ne_of_none ep0 hD) ep0), rfl, ?_⟩
          refine ⟨_, _, rfl, ?_⟩
          walk_at "rds"
          refine ⟨_, _, rfl, ?_⟩
          walk_at "rds"
          refine ⟨rfl, ?_⟩
          refine ⟨rfl, ?_⟩
          walk_at "rds"
          exact ⟨hG, s⟩
        | 1, hx =>
          cases Option.some.inj hx
          walk_at "rds"
          refine r_gtup ⟨_, _, rfl, SqT.of (s _ _ (ne_of_none ep1 hD) ep1), rfl, ?_⟩
          refine ⟨_, _, rfl, ?_⟩
          walk_at "rds"
          refine ⟨_, _, rfl, ?_⟩
          walk_at "rds"
          refine ⟨rfl, ?_⟩
          refine ⟨rfl, ?_⟩
          walk_at "rds"
          refine ⟨_, hG, lt_ok rfl, upd_same, fun b o nb eb => by rw [upd_ne nb]; exact s b o nb eb⟩
        | 2, hx =>
          cases Option.some.inj hx
          walk_at "rds"
          refine r_gtup ⟨_, _, rfl, SqT.of (s _ _ (ne_of_none ep2 hD) ep2), rfl, ?_⟩
          refine ⟨_, _, rfl, ?_⟩
          walk_at "rds"
          refine ⟨_, _, rfl, ?_⟩
          walk_at "rds"
          refine ⟨rfl, ?_⟩
          refine ⟨rfl, ?_⟩
          walk_at "rds"
          exact ⟨hG, s⟩
        | 3, hx =>
          cases Option.some.inj hx
          walk_at "rds"
          refine r_gtup ⟨_, _, rfl, SqT.of (s _ _ (ne_of_none ep3 hD) ep3), rfl, ?_⟩
          refine ⟨_, _, rfl, ?_⟩
          walk_at "rds"
          refine ⟨_, _, rfl, ?_⟩
          walk_at "rds"
          refine ⟨rfl, ?_⟩
          refine ⟨rfl, ?_⟩
          walk_at "rds"
          exact ⟨hG, s⟩
        | i + 4, hx => simp at hx
      · rintro Gz ⟨hG, s⟩
        replace ea := s _ _ (ne_of_none ea hD) ea
        replace ed := s _ _ (ne_of_none ed hD) ed
        have all : ∀ b o, Ga b = some o → Gz b = some o := fun b o e => s b o (ne_of_none (sl _ _ (s3 _ _ (s2 _ _ (s1 _ _ (s0 _ _ (sG _ _ e)))))) hD) (sl _ _ (s3 _ _ (s2 _ _ (s1 _ _ (s0 _ _ (sG _ _ e))))))
        replace hG : Gz D = some (.lst [.str "number"]) := hG
        walk_at "rds"
        refine ⟨_, _, rfl, .inl (SqL.of hG), ?_⟩
        walk_at "rds"
        refine ⟨rfl, ?_⟩
        rw [decide_eq_true (by rfl)]
        walk_at "rds"
        refine r_ixL (SqL.of hG) rfl ?_
        walk_at "rds"
        refine ⟨a, _, dd, _, v, rfl, T2.e_c_BadNumber.xf, T2.e_c_BadNumber.no, ea, ed, by simp [List.lookup], ?_⟩
        walk_at "rds"
        refine ⟨len_ok rfl, fun pr hpr => ?_⟩
        refine k _ pr (fun b o e => ?_) ?_ upd_same
        · rw [upd_ne (ne_of_none (all b o e) hpr)]
          exact all b o e
        · cases z : Ga pr with
          | none => rfl
          | some o => cases hpr.symm.trans (all pr o z)
    · refine ⟨true, T2.e_c_BadRow.up, fun _ a na => ?_, fun z => by cases z⟩
      walk_at "rds"
      generalize hG : upd Ga a _ = Ge
      have sG : Same Ga Ge := by rw [← hG]; exact same_neu (Same.refl _) na
      have ea : Ge a = some (ErO a (.ref ad.c_BadRow) (some dd)) := by rw [← hG]; exact upd_same
      have ed := sG _ _ hd
      clear hG
      walk_at "rds"
      refine r_isE T2.e_c_BadRow ea ed T2.k_c_BadRow_c_BadClock ?_
      walk_at "rds"
      refine ⟨len_ok rfl, fun p0 hp0 => ?_⟩
      generalize hG0 : upd Ge p0 _ = G0
      have s0 : Same Ge G0 := by rw [← hG0]; exact same_neu (Same.refl _) hp0
      have ep0 : G0 p0 = some (.tup [.str "clock", .bl false]) := by rw [← hG0]; exact upd_same
      replace ea := s0 _ _ ea
      replace ed := s0 _ _ ed
      clear hG0
      walk_at "rds"
      refine r_isE T2.e_c_BadRow ea ed T2.k_c_BadRow_c_BadNumber ?_
      walk_at "rds"
      refine ⟨len_ok rfl, fun p1 hp1 => ?_⟩
      generalize hG1 : upd G0 p1 _ = G1
      have s1 : Same G0 G1 := by rw [← hG1]; exact same_neu (Same.refl _) hp1
      have ep1 : G1 p1 = some (.tup [.str "number", .bl false]) := by rw [← hG1]; exact upd_same
      replace ep0 := s1 _ _ ep0
      replace ea := s1 _ _ ea
      replace ed := s1 _ _ ed
      clear hG1
      walk_at "rds"
      refine r_isE T2.e_c_BadRow ea ed T2.k_c_BadRow_c_BadRow ?_
      walk_at "rds"
      refine ⟨len_ok rfl, fun p2 hp2 => ?_⟩
      generalize hG2 : upd G1 p2 _ = G2
      have s2 : Same G1 G2 := by rw [← hG2]; exact same_neu (Same.refl _) hp2
      have ep2 : G2 p2 = some (.tup [.str "row", .bl true]) := by rw [← hG2]; exact upd_same
      replace ep0 := s2 _ _ ep0
      replace ep1 := s2 _ _ ep1
      replace ea := s2 _ _ ea
      replace ed := s2 _ _ ed
      clear hG2
      walk_at "rds"
      refine r_isE T2.e_c_BadRow ea ed T2.k_c_BadRow_c_Misfit ?_
      walk_at "rds"
      refine ⟨len_ok rfl, fun p3 hp3 => ?_⟩
      generalize hG3 : upd G2 p3 _ = G3
      have s3 : Same G2 G3 := by rw [← hG3]; exact same_neu (Same.refl _) hp3
      have ep3 : G3 p3 = some (.tup [.str "misfit", .bl false]) := by rw [← hG3]; exact upd_same
      replace ep0 := s3 _ _ ep0
      replace ep1 := s3 _ _ ep1
      replace ep2 := s3 _ _ ep2
      replace ea := s3 _ _ ea
      replace ed := s3 _ _ ed
      clear hG3
      walk_at "rds"
      refine ⟨len_ok rfl, fun pl hpl => ?_⟩
      generalize hGl : upd G3 pl _ = Gl
      have sl : Same G3 Gl := by rw [← hGl]; exact same_neu (Same.refl _) hpl
      have el : Gl pl = some (.lst [.ref p0, .ref p1, .ref p2, .ref p3]) := by rw [← hGl]; exact upd_same
      replace ep0 := sl _ _ ep0
      replace ep1 := sl _ _ ep1
      replace ep2 := sl _ _ ep2
      replace ep3 := sl _ _ ep3
      replace ea := sl _ _ ea
      replace ed := sl _ _ ed
      clear hGl
      walk_at "rds"
      refine ⟨pl, rfl, ⟨_, SqL.of el⟩, fun D hD => ?_⟩
      refine lc_list (K := X.K) (a := pl) (xs := [.ref p0, .ref p1, .ref p2, .ref p3]) (fun i G => G D = some (.lst (if 2 < i then [V.str "row"] else [])) ∧ ∀ b o, b ≠ D → Gl b = some o → G b = some o)
        ⟨upd_same, fun b o nb eb => by rw [upd_ne nb]; exact eb⟩ (fun i G _ ⟨_, s⟩ => SqL.of (s pl _ (ne_of_none el hD) el)) ?_ ?_
      · rintro i x G hx ⟨hG, s⟩
        match i, hx with
        | 0, hx =>
          cases Option.some.inj hx
          walk_at "rds"
          refine r_gtup ⟨_, _, rfl, SqT.of (s _ _ (ne_of_none ep0 hD) ep0), rfl, ?_⟩
          refine ⟨_, _, rfl, ?_⟩
          walk_at "rds"
          refine ⟨_, _, rfl, ?_⟩
          walk_at "rds"
          refine ⟨rfl, ?_⟩
          refine ⟨rfl, ?_⟩
          walk_at "rds"
          exact ⟨hG, s⟩
        | 1, hx =>
          cases Option.some.inj hx
          walk_at "rds"
          refine r_gtup ⟨_, _, rfl, SqT.of (s _ _ (ne_of_none ep1 hD) ep1), rfl, ?_⟩
          refine ⟨_, _, rfl, ?_⟩
          walk_at "rds"
          refine ⟨_, _, rfl, ?_⟩
          walk_at "rds"
          refine ⟨rfl, ?_⟩
          refine ⟨rfl, ?_⟩
          walk_at "rds"
          exact ⟨hG, s⟩
        | 2, hx =>
          cases Option.some.inj hx
          walk_at "rds"
          refine r_gtup ⟨_, _, rfl, SqT.of (s _ _ (ne_of_none ep2 hD) ep2), rfl, ?_⟩
          refine ⟨_, _, rfl, ?_⟩
          walk_at "rds"
          refine ⟨_, _, rfl, ?_⟩
          walk_at "rds"
          refine ⟨rfl, ?_⟩
          refine ⟨rfl, ?_⟩
          walk_at "rds"
          refine ⟨_, hG, lt_ok rfl, upd_same, fun b o nb eb => by rw [upd_ne nb]; exact s b o nb eb⟩
        | 3, hx =>
          cases Option.some.inj hx
          walk_at "rds"
          refine r_gtup ⟨_, _, rfl, SqT.of (s _ _ (ne_of_none ep3 hD) ep3), rfl, ?_⟩
          refine ⟨_, _, rfl, ?_⟩
          walk_at "rds"
          refine ⟨_, _, rfl, ?_⟩
          walk_at "rds"
          refine ⟨rfl, ?_⟩
          refine ⟨rfl, ?_⟩
          walk_at "rds"
          exact ⟨hG, s⟩
        | i + 4, hx => simp at hx
      · rintro Gz ⟨hG, s⟩
        replace ea := s _ _ (ne_of_none ea hD) ea
        replace ed := s _ _ (ne_of_none ed hD) ed
        have all : ∀ b o, Ga b = some o → Gz b = some o := fun b o e => s b o (ne_of_none (sl _ _ (s3 _ _ (s2 _ _ (s1 _ _ (s0 _ _ (sG _ _ e)))))) hD) (sl _ _ (s3 _ _ (s2 _ _ (s1 _ _ (s0 _ _ (sG _ _ e))))))
        replace hG : Gz D = some (.lst [.str "row"]) := hG
        walk_at "rds"
        refine ⟨_, _, rfl, .inl (SqL.of hG), ?_⟩
        walk_at "rds"
        refine ⟨rfl, ?_⟩
        rw [decide_eq_true (by rfl)]
        walk_at "rds"
        refine r_ixL (SqL.of hG) rfl ?_
        walk_at "rds"
        refine ⟨a, _, dd, _, v, rfl, T2.e_c_BadRow.xf, T2.e_c_BadRow.no, ea, ed, by simp [List.lookup], ?_⟩
        walk_at "rds"
        refine ⟨len_ok rfl, fun pr hpr => ?_⟩
        refine k _ pr (fun b o e => ?_) ?_ upd_same
        · rw [upd_ne (ne_of_none (all b o e) hpr)]
          exact all b o e
        · cases z : Ga pr with
          | none => rfl
          | some o => cases hpr.symm.trans (all pr o z)
    · refine ⟨true, T2.e_c_Misfit.up, fun _ a na => ?_, fun z => by cases z⟩
      walk_at "rds"
      generalize hG : upd Ga a _ = Ge
      have sG : Same Ga Ge := by rw [← hG]; exact same_neu (Same.refl _) na
      have ea : Ge a = some (ErO a (.ref ad.c_Misfit) (some dd)) := by rw [← hG]; exact upd_same
      have ed := sG _ _ hd
      clear hG
      walk_at "rds"
      refine r_isE T2.e_c_Misfit ea ed T2.k_c_Misfit_c_BadClock ?_
      walk_at "rds"
      refine ⟨len_ok rfl, fun p0 hp0 => ?_⟩
      generalize hG0 : upd Ge p0 _ = G0
      have s0 : Same Ge G0 := by rw [← hG0]; exact same_neu (Same.refl _) hp0
      have ep0 : G0 p0 = some (.tup [.str "clock", .bl false]) := by rw [← hG0]; exact upd_same
      replace ea := s0 _ _ ea
      replace ed := s0 _ _ ed
      clear hG0
      walk_at "rds"
      refine r_isE T2.e_c_Misfit ea ed T2.k_c_Misfit_c_BadNumber ?_
      walk_at "rds"
      refine ⟨len_ok rfl, fun p1 hp1 => ?_⟩
      generalize hG1 : upd G0 p1 _ = G1
      have s1 : Same G0 G1 := by rw [← hG1]; exact same_neu (Same.refl _) hp1
      have ep1 : G1 p1 = some (.tup [.str "number", .bl false]) := by rw [← hG1]; exact upd_same
      replace ep0 := s1 _ _ ep0
      replace ea := s1 _ _ ea
      replace ed := s1 _ _ ed
      clear hG1
      walk_at "rds"
      refine r_isE T2.e_c_Misfit ea ed T2.k_c_Misfit_c_BadRow ?_
      walk_at "rds"
      refine ⟨len_ok rfl, fun p2 hp2 => ?_⟩
      generalize hG2 : upd G1 p2 _ = G2
      have s2 : Same G1 G2 := by rw [← hG2]; exact same_neu (Same.refl _) hp2
      have ep2 : G2 p2 = some (.tup [.str "row", .bl false]) := by rw [← hG2]; exact upd_same
      replace ep0 := s2 _ _ ep0
      replace ep1 := s2 _ _ ep1
      replace ea := s2 _ _ ea
      replace ed := s2 _ _ ed
      clear hG2
      walk_at "rds"
      refine r_isE T2.e_c_Misfit ea ed T2.k_c_Misfit_c_Misfit ?_
      walk_at "rds"
      refine ⟨len_ok rfl, fun p3 hp3 => ?_⟩
      generalize hG3 : upd G2 p3 _ = G3
      have s3 : Same G2 G3 := by rw [← hG3]; exact same_neu (Same.refl _) hp3
      have ep3 : G3 p3 = some (.tup [.str "misfit", .bl true]) := by rw [← hG3]; exact upd_same
      replace ep0 := s3 _ _ ep0
      replace ep1 := s3 _ _ ep1
      replace ep2 := s3 _ _ ep2
      replace ea := s3 _ _ ea
      replace ed := s3 _ _ ed
      clear hG3
      walk_at "rds"
      refine ⟨len_ok rfl, fun pl hpl => ?_⟩
      generalize hGl : upd G3 pl _ = Gl
      have sl : Same G3 Gl := by rw [← hGl]; exact same_neu (Same.refl _) hpl
      have el : Gl pl = some (.lst [.ref p0, .ref p1, .ref p2, .ref p3]) := by rw [← hGl]; exact upd_same
      replace ep0 := sl _ _ ep0
      replace ep1 := sl _ _ ep1
      replace ep2 := sl _ _ ep2
      replace ep3 := sl _ _ ep3
      replace ea := sl _ _ ea
      replace ed := sl _ _ ed
      clear hGl
      walk_at "rds"
      refine ⟨pl, rfl, ⟨_, SqL.of el⟩, fun D hD => ?_⟩
      refine lc_list (K := X.K) (a := pl) (xs := [.ref p0, .ref p1, .ref p2, .ref p3]) (fun i G => G D = some (.lst (if 3 < i then [V.str "misfit"] else [])) ∧ ∀ b o, b ≠ D → Gl b = some o → G b = some o)
        ⟨upd_same, fun b o nb eb => by rw [upd_ne nb]; exact eb⟩ (fun i G _ ⟨_, s⟩ => SqL.of (s pl _ (ne_of_none el hD) el)) ?_ ?_
      · rintro i x G hx ⟨hG, s⟩
        match i, hx with
        | 0, hx =>
          cases Option.some.inj hx
          walk_at "rds"
          refine r_gtup ⟨_, _, rfl, SqT.of (s _ _ (ne_of_none ep0 hD) ep0), rfl, ?_⟩
          refine ⟨_, _, rfl, ?_⟩
          walk_at "rds"
          refine ⟨_, _, rfl, ?_⟩
          walk_at "rds"
          refine ⟨rfl, ?_⟩
          refine ⟨rfl, ?_⟩
          walk_at "rds"
          exact ⟨hG, s⟩
        | 1, hx =>
          cases Option.some.inj hx
          walk_at "rds"
          refine r_gtup ⟨_, _, rfl, SqT.of (s _ _ (ne_of_none ep1 hD) ep1), rfl, ?_⟩
          refine ⟨_, _, rfl, ?_⟩
          walk_at "rds"
          refine ⟨_, _, rfl, ?_⟩
          walk_at "rds"
          refine ⟨rfl, ?_⟩
          refine ⟨rfl, ?_⟩
          walk_at "rds"
          exact ⟨hG, s⟩
        | 2, hx =>
          cases Option.some.inj hx
          walk_at "rds"
          refine r_gtup ⟨_, _, rfl, SqT.of (s _ _ (ne_of_none ep2 hD) ep2), rfl, ?_⟩
          refine ⟨_, _, rfl, ?_⟩
          walk_at "rds"
          refine ⟨_, _, rfl, ?_⟩
          walk_at "rds"
          refine ⟨rfl, ?_⟩
          refine ⟨rfl, ?_⟩
          walk_at "rds"
          exact ⟨hG, s⟩
        | 3, hx =>
          cases Option.some.inj hx
          walk_at "rds"
          refine r_gtup ⟨_, _, rfl, SqT.of (s _ _ (ne_of_none ep3 hD) ep3), rfl, ?_⟩
          refine ⟨_, _, rfl, ?_⟩
          walk_at "rds"
          refine ⟨_, _, rfl, ?_⟩
          walk_at "rds"
          refine ⟨rfl, ?_⟩
          refine ⟨rfl, ?_⟩
          walk_at "rds"
          refine ⟨_, hG, lt_ok rfl, upd_same, fun b o nb eb => by rw [upd_ne nb]; exact s b o nb eb⟩
        | i + 4, hx => simp at hx
      · rintro Gz ⟨hG, s⟩
        replace ea := s _ _ (ne_of_none ea hD) ea
        replace ed := s _ _ (ne_of_none ed hD) ed
        have all : ∀ b o, Ga b = some o → Gz b = some o := fun b o e => s b o (ne_of_none (sl _ _ (s3 _ _ (s2 _ _ (s1 _ _ (s0 _ _ (sG _ _ e)))))) hD) (sl _ _ (s3 _ _ (s2 _ _ (s1 _ _ (s0 _ _ (sG _ _ e))))))
        replace hG : Gz D = some (.lst [.str "misfit"]) := hG
        walk_at "rds"
        refine ⟨_, _, rfl, .inl (SqL.of hG), ?_⟩
        walk_at "rds"
        refine ⟨rfl, ?_⟩
        rw [decide_eq_true (by rfl)]
        walk_at "rds"
        refine r_ixL (SqL.of hG) rfl ?_
        walk_at "rds"
        refine ⟨a, _, dd, _, v, rfl, T2.e_c_Misfit.xf, T2.e_c_Misfit.no, ea, ed, by simp [List.lookup], ?_⟩
        walk_at "rds"
        refine ⟨len_ok rfl, fun pr hpr => ?_⟩
        refine k _ pr (fun b o e => ?_) ?_ upd_same
        · rw [upd_ne (ne_of_none (all b o e) hpr)]
          exact all b o e
        · cases z : Ga pr with
          | none => rfl
          | some o => cases hpr.symm.trans (all pr o z)
  · walk_at "rds"
    refine r_isNo T2.e_c_BadClock ?_
    walk_at "rds"
    refine ⟨len_ok rfl, fun p0 hp0 => ?_⟩
    generalize hG0 : upd G p0 _ = G0
    have s0 : Same G G0 := by rw [← hG0]; exact same_neu (Same.refl _) hp0
    have ep0 : G0 p0 = some (.tup [.str "clock", .bl false]) := by rw [← hG0]; exact upd_same
    clear hG0
    walk_at "rds"
    refine r_isNo T2.e_c_BadNumber ?_
    walk_at "rds"
    refine ⟨len_ok rfl, fun p1 hp1 => ?_⟩
    generalize hG1 : upd G0 p1 _ = G1
    have s1 : Same G0 G1 := by rw [← hG1]; exact same_neu (Same.refl _) hp1
    have ep1 : G1 p1 = some (.tup [.str "number", .bl false]) := by rw [← hG1]; exact upd_same
    replace ep0 := s1 _ _ ep0
    clear hG1
    walk_at "rds"
    refine r_isNo T2.e_c_BadRow ?_
    walk_at "rds"
    refine ⟨len_ok rfl, fun p2 hp2 => ?_⟩
    generalize hG2 : upd G1 p2 _ = G2
    have s2 : Same G1 G2 := by rw [← hG2]; exact same_neu (Same.refl _) hp2
    have ep2 : G2 p2 = some (.tup [.str "row", .bl false]) := by rw [← hG2]; exact upd_same
    replace ep0 := s2 _ _ ep0
    replace ep1 := s2 _ _ ep1
    clear hG2
    walk_at "rds"
    refine r_isNo T2.e_c_Misfit ?_
    walk_at "rds"
    refine ⟨len_ok rfl, fun p3 hp3 => ?_⟩
    generalize hG3 : upd G2 p3 _ = G3
    have s3 : Same G2 G3 := by rw [← hG3]; exact same_neu (Same.refl _) hp3
    have ep3 : G3 p3 = some (.tup [.str "misfit", .bl false]) := by rw [← hG3]; exact upd_same
    replace ep0 := s3 _ _ ep0
    replace ep1 := s3 _ _ ep1
    replace ep2 := s3 _ _ ep2
    clear hG3
    walk_at "rds"
    refine ⟨len_ok rfl, fun pl hpl => ?_⟩
    generalize hGl : upd G3 pl _ = Gl
    have sl : Same G3 Gl := by rw [← hGl]; exact same_neu (Same.refl _) hpl
    have el : Gl pl = some (.lst [.ref p0, .ref p1, .ref p2, .ref p3]) := by rw [← hGl]; exact upd_same
    replace ep0 := sl _ _ ep0
    replace ep1 := sl _ _ ep1
    replace ep2 := sl _ _ ep2
    replace ep3 := sl _ _ ep3
    clear hGl
    walk_at "rds"
    refine ⟨pl, rfl, ⟨_, SqL.of el⟩, fun D hD => ?_⟩
    refine lc_list (K := X.K) (a := pl) (xs := [.ref p0, .ref p1, .ref p2, .ref p3]) (fun i G => G D = some (.lst ([] : List V)) ∧ ∀ b o, b ≠ D → Gl b = some o → G b = some o)
      ⟨upd_same, fun b o nb eb => by rw [upd_ne nb]; exact eb⟩ (fun i G _ ⟨_, s⟩ => SqL.of (s pl _ (ne_of_none el hD) el)) ?_ ?_
    · rintro i x G hx ⟨hG, s⟩
      match i, hx with
      | 0, hx =>
        cases Option.some.inj hx
        walk_at "rds"
        refine r_gtup ⟨_, _, rfl, SqT.of (s _ _ (ne_of_none ep0 hD) ep0), rfl, ?_⟩
        refine ⟨_, _, rfl, ?_⟩
        walk_at "rds"
        refine ⟨_, _, rfl, ?_⟩
        walk_at "rds"
        refine ⟨rfl, ?_⟩
        refine ⟨rfl, ?_⟩
        walk_at "rds"
        exact ⟨hG, s⟩
      | 1, hx =>
        cases Option.some.inj hx
        walk_at "rds"
        refine r_gtup ⟨_, _, rfl, SqT.of (s _ _ (ne_of_none ep1 hD) ep1), rfl, ?_⟩
        refine ⟨_, _, rfl, ?_⟩
        walk_at "rds"
        refine ⟨_, _, rfl, ?_⟩
        walk_at "rds"
        refine ⟨rfl, ?_⟩
        refine ⟨rfl, ?_⟩
        walk_at "rds"
        exact ⟨hG, s⟩
      | 2, hx =>
        cases Option.some.inj hx
        walk_at "rds"
        refine r_gtup ⟨_, _, rfl, SqT.of (s _ _ (ne_of_none ep2 hD) ep2), rfl, ?_⟩
        refine ⟨_, _, rfl, ?_⟩
        walk_at "rds"
        refine ⟨_, _, rfl, ?_⟩
        walk_at "rds"
        refine ⟨rfl, ?_⟩
        refine ⟨rfl, ?_⟩
        walk_at "rds"
        exact ⟨hG, s⟩
      | 3, hx =>
        cases Option.some.inj hx
        walk_at "rds"
        refine r_gtup ⟨_, _, rfl, SqT.of (s _ _ (ne_of_none ep3 hD) ep3), rfl, ?_⟩
        refine ⟨_, _, rfl, ?_⟩
        walk_at "rds"
        refine ⟨_, _, rfl, ?_⟩
        walk_at "rds"
        refine ⟨rfl, ?_⟩
        refine ⟨rfl, ?_⟩
        walk_at "rds"
        exact ⟨hG, s⟩
      | i + 4, hx => simp at hx
    · rintro Gz ⟨hG, s⟩
      have all : ∀ b o, G b = some o → Gz b = some o := fun b o e => s b o (ne_of_none (sl _ _ (s3 _ _ (s2 _ _ (s1 _ _ (s0 _ _ e))))) hD) (sl _ _ (s3 _ _ (s2 _ _ (s1 _ _ (s0 _ _ e)))))
      replace hG : Gz D = some (.lst []) := hG
      walk_at "rds"
      refine ⟨_, _, rfl, .inl (SqL.of hG), ?_⟩
      walk_at "rds"
      refine ⟨rfl, ?_⟩
      rw [decide_eq_false (by intro z; cases z)]
      walk_at "rds"
      refine ⟨rfl, ?_⟩
      rw [decide_eq_true rfl]
      walk_at "rds"
      exact h1 v G r0 Gz all
end

end K44
namespace K44
open PySem PySem.Spec PyProof.Rows L2 Rp LamX RZ

def spRing : Sp := fun vs H Q _ => ∃ (q c : Addr) (ns : List Int) (lap : Nat) (cl : Int) (n : Nat), vs = [.ref q, .int cl, .int (n : Int)] ∧ clk (.int cl) = true ∧ 2 ≤ n ∧ n ≤ 16 ∧ lap + 100 < 2 ^ 20 ∧ Dr q c ns lap H ∧
  ∀ (H' : Hp) (lap' : Nat) (D : Addr) (xs : List Int), lap' ≤ lap + 40 → Dr q c ns lap' H' → But q H H' → D ≠ q → H' D = some (.lst (xs.map V.int)) → xs.length = n → (∀ x ∈ xs, 0 ≤ x ∧ x < cl) → Q (.ref D) H'

section
variable {P : Program} {w : World} {K : PySem.W.Frag} {mg : Str → Option Value} {base : Heap} {ad : Ad}
abbrev sLawRing : Stmt := top 29
theorem scLawRing : FnScope ["carousel", "clock", "size", "way", "one", "other", "row", "lap", "at"] ["carousel", "clock", "size"] (defScope sLawRing) := ⟨rfl, rfl, rfl, by decide +kernel, rfl, by decide +kernel, by decide +kernel⟩
theorem ok_LawRing {f : Addr} {fd : FuncData} (F : Fun K "_law_ring" "_law_ring" sLawRing f fd) (T : Txt K mg ad) (hM : HasMods base)  {f0 : Addr} {fd0 : FuncData} (cLawPole : Cal P w K mg base "_law_pole" 1 f0 fd0 ["carousel", "many"] spDraw) {f1 : Addr} {fd1 : FuncData} (cLawOne : Cal P w K mg base "_law_one" 2 f1 fd1 ["carousel", "some"] (spOf K)) : FnG P w K mg base 3 f fd ["carousel", "clock", "size"] spRing := by
  refine fng F scLawRing (fun {vs H Q E} h => ?_) (fun {cdv A fr s H vs Q E} hg hr h => ?_)
  · obtain ⟨q, c, ns, lap, cl, n, rfl, hck, h2, h16, hlap, hD, k⟩ := h
    rfl
  · obtain ⟨q, c, ns, lap, cl, n, rfl, hck, h2, h16, hlap, hD, k⟩ := h
    refine ⟨_, (pss_cons (ps_asg (pe_tup (pa_cons (pe_go cLawPole hg (hr.mono (by decide)) (by rfl) (pa_cons (pv 0) (pa_cons pe_int pa_nil))) (pa_cons (pe_go cLawPole hg (hr.mono (by decide)) (by rfl) (pa_cons (pv 0) (pa_cons (pv 1) pa_nil))) (pa_cons (pe_go cLawPole hg (hr.mono (by decide)) (by rfl) (pa_cons (pv 0) (pa_cons (pv 1) pa_nil))) pa_nil)))) (pg_tup rfl (pgs_cons (pg_name (i := 3) scLawRing.nd rfl (Or.inl rfl)) (pgs_cons (pg_name (i := 4) scLawRing.nd rfl (Or.inr rfl)) (pgs_cons (pg_name (i := 5) scLawRing.nd rfl (Or.inr rfl)) pgs_nil)))))
  (pss_cons (ps_setLc (i := 6) (own := [("at", 8)]) (g := gName 8) (tt := tYes) rfl scLawRing.nd rfl rfl (sw_true rfl rfl rfl (by decide +kernel)) (pi_range1 (by rfl) T.z_range (pa_cons (pv 2) pa_nil)) (blkOk_by (own := [("at", 8)]) (N := ["carousel", "clock", "size", "way", "one", "other", "row", "lap", "at"]) (sc := defScope sLawRing) (by decide +kernel)) (fun _ _ _ _ _ => (pg_name (i := 8) scLawRing.nd rfl (Or.inl rfl))) (fun _ _ _ _ _ => pts_nil) (fun _ _ _ _ _ => (pe_ix (ix_seqK (K := K) rfl) (pe_lst (pa_cons (pv 4) (pa_cons (pv 5) pa_nil))) (pe_op op_andM (pv 8) pe_int) (fun _ _ => rfl))))
  (pss_cons (ps_if (pt_cmpR op_eq (pv 3) pe_int (nomark _))
  (pss_one (ps_ret (pe_lc (own := [("at", 8)]) (g := gName 8) (tt := tYes) rfl scLawRing.nd (pi_range1 (by rfl) T.z_range (pa_cons (pv 2) pa_nil)) (blkOk_by (own := [("at", 8)]) (N := ["carousel", "clock", "size", "way", "one", "other", "row", "lap", "at"]) (sc := defScope sLawRing) (by decide +kernel)) (fun _ _ _ _ _ => (pg_name (i := 8) scLawRing.nd rfl (Or.inl rfl))) (fun _ _ _ _ _ => pts_nil) (fun _ _ _ _ _ => (pe_go cLawPole hg (hr.mono (by decide)) (by rfl) (pa_cons (pv 0) (pa_cons (pv 1) pa_nil)))))))
  pss_nil)
  (pss_cons (ps_if (pt_cmpR op_eq (pv 3) pe_int (nomark _))
  (pss_one (ps_ret (pe_lc (own := [("at", 8)]) (g := gName 8) (tt := tYes) rfl scLawRing.nd (pi_range1 (by rfl) T.z_range (pa_cons (pv 2) pa_nil)) (blkOk_by (own := [("at", 8)]) (N := ["carousel", "clock", "size", "way", "one", "other", "row", "lap", "at"]) (sc := defScope sLawRing) (by decide +kernel)) (fun _ _ _ _ _ => (pg_name (i := 8) scLawRing.nd rfl (Or.inl rfl))) (fun _ _ _ _ _ => pts_nil) (fun _ _ _ _ _ => (pe_go cLawOne hg (hr.mono (by decide)) (by rfl) (pa_cons (pv 0) (pa_cons (pe_lst (pa_cons (pv 4) (pa_cons (pv 5) pa_nil))) pa_nil)))))))
  pss_nil)
  (pss_cons (ps_if (pt_cmpR op_eq (pv 3) pe_int (nomark _))
  (pss_one (ps_ret (pe_lc (own := [("at", 8)]) (g := gName 8) (tt := tYes) rfl scLawRing.nd (pi_range1 (by rfl) T.z_range (pa_cons (pv 2) pa_nil)) (blkOk_by (own := [("at", 8)]) (N := ["carousel", "clock", "size", "way", "one", "other", "row", "lap", "at"]) (sc := defScope sLawRing) (by decide +kernel)) (fun _ _ _ _ _ => (pg_name (i := 8) scLawRing.nd rfl (Or.inl rfl))) (fun _ _ _ _ _ => pts_nil) (fun _ _ _ _ _ => (pe_ifExp (pt_cmpR op_eq (pe_op op_andM (pv 8) pe_int) pe_int (nomark _)) (pe_go cLawPole hg (hr.mono (by decide)) (by rfl) (pa_cons (pv 0) (pa_cons (pv 1) pa_nil))) (pv 4))))))
  pss_nil)
  (pss_cons (ps_if (pt_cmpR op_eq (pv 3) pe_int (nomark _))
  (pss_one (ps_ret (pe_lc (own := [("at", 8)]) (g := gName 8) (tt := tYes) rfl scLawRing.nd (pi_range1 (by rfl) T.z_range (pa_cons (pv 2) pa_nil)) (blkOk_by (own := [("at", 8)]) (N := ["carousel", "clock", "size", "way", "one", "other", "row", "lap", "at"]) (sc := defScope sLawRing) (by decide +kernel)) (fun _ _ _ _ _ => (pg_name (i := 8) scLawRing.nd rfl (Or.inl rfl))) (fun _ _ _ _ _ => pts_nil) (fun _ _ _ _ _ => (pe_ifExp (pt_cmpR op_eq (pe_op op_andM (pv 8) pe_int) pe_int (nomark _)) (pe_go cLawPole hg (hr.mono (by decide)) (by rfl) (pa_cons (pv 0) (pa_cons (pv 1) pa_nil))) (pv 5))))))
  pss_nil)
  (pss_cons (ps_for PassesOwn.never rfl (pi_range1 (by rfl) T.z_range (pa_cons (pe_go cLawPole hg (hr.mono (by decide)) (by rfl) (pa_cons (pv 0) (pa_cons pe_int pa_nil))) pa_nil)) (pg_name (i := 7) scLawRing.nd rfl (Or.inl rfl))
  (pss_one (ps_asg (pe_go cLawPole hg (hr.mono (by decide)) (by rfl) (pa_cons (pv 0) (pa_cons (pv 1) pa_nil))) (pg_sub (pv 6) (pe_go cLawPole hg (hr.mono (by decide)) (by rfl) (pa_cons (pv 0) (pa_cons (pv 2) pa_nil))) set_list))))
  (pss_one (ps_ret (pv 6)))))))))), ?_⟩
    refine r_start (l := [some (.ref q), some (.int cl), some (.int (n : Int)), none, none, none, none, none, none]) rfl ?_
    obtain ⟨_, ecl, h3, h31⟩ := clk_int hck
    cases ecl
    have B0 : But q H H := But.refl q H
    walk_at "rds"
    refine ⟨_, _, _, _, _, rfl, by decide, by decide, by omega, hD, fun K1 l1 way hl1 E1 c1 mway nway => ?_⟩
    replace B0 := B0.trans c1
    clear c1
    walk_at "rds"
    refine ⟨_, _, _, _, _, rfl, by omega, by omega, by omega, E1, fun K2 l2 wn hl2 E2 c2 mwn nwn => ?_⟩
    replace B0 := B0.trans c2
    clear c2
    walk_at "rds"
    refine ⟨_, _, _, _, _, rfl, by omega, by omega, by omega, E2, fun K3 l3 bn hl3 E3 c3 mbn nbn => ?_⟩
    replace B0 := B0.trans c3
    clear c3
    walk_at "rds"
    refine ⟨len_ok rfl, fun p2 hp2 => ?_⟩
    generalize hG4 : upd K3 p2 _ = K4
    obtain ⟨s4, ep2⟩ := neu2 hG4 hp2
    have np2 := dr_neq E3 hp2
    replace B0 := B0.trans (same_but s4)
    replace E3 := E3.same s4
    clear s4 hG4
    walk_at "rds"
    refine r_gtup ⟨_, _, rfl, SqT.of ep2, rfl, ?_⟩
    refine ⟨_, _, rfl, ?_⟩
    walk_at "rds"
    refine ⟨_, _, rfl, ?_⟩
    walk_at "rds"
    refine ⟨_, _, rfl, ?_⟩
    walk_at "rds"
    refine ⟨rfl, ?_⟩
    clear ep2
    clear np2
    walk_at "rds"
    refine ⟨_, rfl, by omega, by omega, fun D0 hD0 => ?_⟩
    refine lc_val (walk_range (lo := 0)) (((List.range n).map fun i => if i % 2 = 1 then bn else wn).map V.int) (by rw [List.length_map, List.length_map, List.length_range]; omega) (fun _ _ => trivial) hD0 (small1000 (by omega)) ?_ ?_
    · rintro i v G3 G4 hi s2 ⟨_, _⟩ ⟨rfl, rfl⟩ Qm km
      have hi2 : i < n := by omega
      walk_at "rds"
      refine ⟨rfl, ?_⟩
      walk_at "rds"
      refine ⟨len_ok rfl, fun p hp => ?_⟩
      have s3 := same_neu (Same.refl G4) hp (o := .lst [.int wn, .int bn])
      have ep : upd G4 p (.lst [.int wn, .int bn]) p = some (.lst [.int wn, .int bn]) := upd_same
      generalize upd G4 p _ = G5 at s3 ep
      walk_at "rds"
      refine ⟨_, 1, rfl, rfl, ?_⟩
      refine r_ixB (t := true) (SqL.of ep) (v := .int (if i % 2 = 1 then bn else wn)) ?_ (km _ _ ?_ s3)
      · by_cases c1 : i % 2 = 1
        · rw [if_pos c1, show (0 + (i : Int)) % 2 ^ 1 = ((1 : Nat) : Int) by omega]
          rfl
        · rw [if_neg c1, show (0 + (i : Int)) % 2 ^ 1 = ((0 : Nat) : Int) by omega]
          rfl
      · rw [List.getElem?_map, List.getElem?_map, List.getElem?_range hi2]
        rfl
    intro K9 s9 eR
    generalize hxs0 : (List.range n).map (fun i => if i % 2 = 1 then bn else wn) = xs0 at eR
    have lx0 : xs0.length = n := by rw [← hxs0, List.length_map, List.length_range]
    have hx0 : ∀ x ∈ xs0, 0 ≤ x ∧ x < cl := fun x m => by
      rw [← hxs0] at m
      obtain ⟨i, _, rfl⟩ := List.mem_map.mp m
      split <;> omega
    clear hxs0
    have nR := dr_neq E3 hD0
    have nRc : D0 ≠ c := (ne_of_none (E3).cells hD0).symm
    have hD00 : H D0 = none := none_back E3 B0 hD0
    replace B0 := B0.trans (same_but s9)
    replace E3 := E3.same s9
    clear s9 hD0
    walk_at "rds"
    refine ⟨rfl, ?_⟩
    by_cases w0 : way = 0
    · rw [decide_eq_true (congrArg V.int w0)]
      walk_at "rds"
      refine ⟨_, rfl, by omega, by omega, fun DX hDX => ?_⟩
      refine lc_drw (m := 1) (walk_range (lo := 0)) (fun _ y _ => ∃ v : Int, y = .int v ∧ 0 ≤ v ∧ v < cl) (fun _ _ _ _ _ e => e) (fun _ _ => trivial) hDX (small1000 (by omega)) E3 ?_ ?_
      · rintro i y G3 G4 l2 hi b2 nq2 ⟨_, _⟩ hl2 dr2 ⟨rfl, rfl⟩ Qm km
        walk_at "rds"
        refine ⟨rfl, ?_⟩
        walk_at "rds"
        refine ⟨_, _, _, _, _, rfl, by omega, by omega, by omega, dr2, fun H3 l3 r3 hl3 D3 b3 m3 n3 => ?_⟩
        exact km _ _ l3 (by omega) D3 b3 ⟨r3, rfl, m3, n3⟩
      intro K105 ys105 l105 hl105 E105 c105 nDX eDX ly105 hy105
      obtain ⟨xsX, rfl, hz105⟩ := ints_vals (P := fun _ v => 0 ≤ v ∧ v < cl) hy105
      have hxX : ∀ x ∈ xsX, 0 ≤ x ∧ x < cl := fun x m => let ⟨i, e⟩ := List.mem_iff_getElem?.mp m; hz105 i x e
      rw [List.length_map] at ly105
      have lxX : xsX.length = n := by omega
      clear hy105 hz105 ly105
      replace B0 := B0.trans c105
      clear c105
      exact k _ _ DX xsX (by omega) E105 B0 nDX eDX lxX hxX
    · rw [decide_eq_false (fun z => w0 (V.int.inj z))]
      walk_at "rds"
      refine ⟨rfl, ?_⟩
      by_cases w1 : way = 1
      · rw [decide_eq_true (congrArg V.int w1)]
        walk_at "rds"
        refine ⟨_, rfl, by omega, by omega, fun DX hDX => ?_⟩
        refine lc_drw (m := 1) (walk_range (lo := 0)) (fun _ y _ => ∃ v : Int, y = .int v ∧ 0 ≤ v ∧ v < cl) (fun _ _ _ _ _ e => e) (fun _ _ => trivial) hDX (small1000 (by omega)) E3 ?_ ?_
        · rintro i y G3 G4 l2 hi b2 nq2 ⟨_, _⟩ hl2 dr2 ⟨rfl, rfl⟩ Qm km
          walk_at "rds"
          refine ⟨rfl, ?_⟩
          walk_at "rds"
          refine ⟨len_ok rfl, fun p hp => ?_⟩
          have s3 := same_neu (Same.refl G4) hp (o := .lst [.int wn, .int bn])
          have ep : upd G4 p (.lst [.int wn, .int bn]) p = some (.lst [.int wn, .int bn]) := upd_same
          generalize upd G4 p _ = G5 at s3 ep
          have np := ne_of_none (dr2.cells) hp
          have nq := (fun (x : Dr q c ns l2 G4) => dr_neq x hp) dr2
          walk_at "rds"
          refine ⟨_, _, _, _, _, _, rfl, SqL.of ep, Nat.zero_lt_succ _, lt_ok rfl, by omega, nq, dr2.same s3, fun H3 l3 i3 v3 hl3 D3 b3 e3 => ?_⟩
          have pv := EachP.get (F := fun v => ∃ z : Int, v = .int z ∧ 0 ≤ z ∧ z < cl) (.cons ⟨_, rfl, by omega, by omega⟩ (.cons ⟨_, rfl, by omega, by omega⟩ .nil)) e3
          exact km _ _ l3 (by omega) D3 ((same_but s3).trans b3) pv
        intro K105 ys105 l105 hl105 E105 c105 nDX eDX ly105 hy105
        obtain ⟨xsX, rfl, hz105⟩ := ints_vals (P := fun _ v => 0 ≤ v ∧ v < cl) hy105
        have hxX : ∀ x ∈ xsX, 0 ≤ x ∧ x < cl := fun x m => let ⟨i, e⟩ := List.mem_iff_getElem?.mp m; hz105 i x e
        rw [List.length_map] at ly105
        have lxX : xsX.length = n := by omega
        clear hy105 hz105 ly105
        replace B0 := B0.trans c105
        clear c105
        exact k _ _ DX xsX (by omega) E105 B0 nDX eDX lxX hxX
      · rw [decide_eq_false (fun z => w1 (V.int.inj z))]
        walk_at "rds"
        refine ⟨rfl, ?_⟩
        by_cases w2 : way = 2
        · rw [decide_eq_true (congrArg V.int w2)]
          walk_at "rds"
          refine ⟨_, rfl, by omega, by omega, fun DX hDX => ?_⟩
          refine lc_drw (m := 1) (walk_range (lo := 0)) (fun _ y _ => ∃ v : Int, y = .int v ∧ 0 ≤ v ∧ v < cl) (fun _ _ _ _ _ e => e) (fun _ _ => trivial) hDX (small1000 (by omega)) E3 ?_ ?_
          · rintro i y G3 G4 l2 hi b2 nq2 ⟨_, _⟩ hl2 dr2 ⟨rfl, rfl⟩ Qm km
            walk_at "rds"
            refine ⟨rfl, ?_⟩
            walk_at "rds"
            refine ⟨_, 1, rfl, rfl, ?_⟩
            walk_at "rds"
            refine ⟨rfl, ?_⟩
            by_cases c1 : i % 2 = 1
            · rw [decide_eq_true (show V.int ((0 + (i : Int)) % 2 ^ 1) = V.int 1 from congrArg V.int (by omega))]
              walk_at "rds"
              refine ⟨_, _, _, _, _, rfl, by omega, by omega, by omega, dr2, fun H3 l3 r3 hl3 D3 b3 m3 n3 => ?_⟩
              exact km _ _ l3 (by omega) D3 b3 ⟨r3, rfl, m3, n3⟩
            · rw [decide_eq_false (show ¬ V.int ((0 + (i : Int)) % 2 ^ 1) = V.int 1 from fun z => absurd (V.int.inj z) (by omega))]
              walk_at "rds"
              exact km _ _ l2 (by omega) dr2 (But.refl _ _) ⟨wn, rfl, by omega, by omega⟩
          intro K105 ys105 l105 hl105 E105 c105 nDX eDX ly105 hy105
          obtain ⟨xsX, rfl, hz105⟩ := ints_vals (P := fun _ v => 0 ≤ v ∧ v < cl) hy105
          have hxX : ∀ x ∈ xsX, 0 ≤ x ∧ x < cl := fun x m => let ⟨i, e⟩ := List.mem_iff_getElem?.mp m; hz105 i x e
          rw [List.length_map] at ly105
          have lxX : xsX.length = n := by omega
          clear hy105 hz105 ly105
          replace B0 := B0.trans c105
          clear c105
          exact k _ _ DX xsX (by omega) E105 B0 nDX eDX lxX hxX
        · rw [decide_eq_false (fun z => w2 (V.int.inj z))]
          walk_at "rds"
          refine ⟨rfl, ?_⟩
          by_cases w3 : way = 3
          · rw [decide_eq_true (congrArg V.int w3)]
            walk_at "rds"
            refine ⟨_, rfl, by omega, by omega, fun DX hDX => ?_⟩
            refine lc_drw (m := 1) (walk_range (lo := 0)) (fun _ y _ => ∃ v : Int, y = .int v ∧ 0 ≤ v ∧ v < cl) (fun _ _ _ _ _ e => e) (fun _ _ => trivial) hDX (small1000 (by omega)) E3 ?_ ?_
            · rintro i y G3 G4 l2 hi b2 nq2 ⟨_, _⟩ hl2 dr2 ⟨rfl, rfl⟩ Qm km
              walk_at "rds"
              refine ⟨rfl, ?_⟩
              walk_at "rds"
              refine ⟨_, 1, rfl, rfl, ?_⟩
              walk_at "rds"
              refine ⟨rfl, ?_⟩
              by_cases c1 : i % 2 = 0
              · rw [decide_eq_true (show V.int ((0 + (i : Int)) % 2 ^ 1) = V.int 0 from congrArg V.int (by omega))]
                walk_at "rds"
                refine ⟨_, _, _, _, _, rfl, by omega, by omega, by omega, dr2, fun H3 l3 r3 hl3 D3 b3 m3 n3 => ?_⟩
                exact km _ _ l3 (by omega) D3 b3 ⟨r3, rfl, m3, n3⟩
              · rw [decide_eq_false (show ¬ V.int ((0 + (i : Int)) % 2 ^ 1) = V.int 0 from fun z => absurd (V.int.inj z) (by omega))]
                walk_at "rds"
                exact km _ _ l2 (by omega) dr2 (But.refl _ _) ⟨bn, rfl, by omega, by omega⟩
            intro K105 ys105 l105 hl105 E105 c105 nDX eDX ly105 hy105
            obtain ⟨xsX, rfl, hz105⟩ := ints_vals (P := fun _ v => 0 ≤ v ∧ v < cl) hy105
            have hxX : ∀ x ∈ xsX, 0 ≤ x ∧ x < cl := fun x m => let ⟨i, e⟩ := List.mem_iff_getElem?.mp m; hz105 i x e
            rw [List.length_map] at ly105
            have lxX : xsX.length = n := by omega
            clear hy105 hz105 ly105
            replace B0 := B0.trans c105
            clear c105
            exact k _ _ DX xsX (by omega) E105 B0 nDX eDX lxX hxX
          · rw [decide_eq_false (fun z => w3 (V.int.inj z))]
            walk_at "rds"
            refine ⟨_, _, _, _, _, rfl, by decide, by decide, by omega, E3, fun K105 l105 laps hl105 E105 c105 mlaps nlaps => ?_⟩
            replace B0 := B0.trans c105
            refine ⟨_, rfl, by omega, by omega, ?_⟩
            refine for_range (lo := 0) (n := laps.toNat) (fun i σ G => ∃ (xs : List Int) (l : Nat) (x7 : Option V), σ = [some (.ref q), some (.int cl), some (.int (n : Int)), some (.int way), some (.int wn), some (.int bn), some (.ref D0), x7, none] ∧ l ≤ l105 + 2 * i ∧ Dr q c ns l G ∧ But q H G ∧ G D0 = some (.lst (xs.map V.int)) ∧ xs.length = n ∧ ∀ x ∈ xs, 0 ≤ x ∧ x < cl) ⟨xs0, _, _, rfl, Nat.le_refl _, E105, B0, c105 _ _ nR eR, lx0, hx0⟩ ?_ ?_
            · rintro i σ G hi ⟨xs, l, x7, rfl, hl, D5, B5, e5, lx, hx⟩
              walk_at "rds"
              refine ⟨_, _, _, _, _, rfl, by omega, by omega, by omega, D5, fun K6 l6 v6 hl6 D6 b6 m6 n6 => ?_⟩
              walk_at "rds"
              refine ⟨_, _, _, _, _, rfl, by omega, by omega, by omega, D6, fun K7 l7 g7 hl7 D7 b7 m7 n7 => ?_⟩
              obtain ⟨g, rfl⟩ : ∃ g : Nat, g7 = (g : Int) := ⟨g7.toNat, by omega⟩
              have e7 := b7 _ _ nR (b6 _ _ nR e5)
              refine r_setL e7 (ixN_natX (by rw [List.length_map]; omega)) ?_
              rw [set_intsX]
              refine ⟨xs.set g v6, l7, _, rfl, by omega, dr_put D7 nR nRc, but_put rfl ((B5.trans b6).trans b7) hD00, upd_same, by rw [List.length_set]; exact lx, mem_setX hx ⟨m6, n6⟩⟩
            · rintro σ G ⟨xs, l, x7, rfl, hl, D5, B5, e5, lx, hx⟩
              walk_at "rds"
              exact k _ _ D0 xs (by omega) D5 B5 nR e5 lx hx
end
end K44
namespace K44
open PySem PySem.Spec PyProof.Rows L2 Rp LamX RZ

theorem rim_right {xs : List Int} {cl : Int} (hx : ∀ x ∈ xs, 0 ≤ x ∧ x < cl) (l2 : 2 ≤ xs.length) (l16 : xs.length ≤ 16) (ev : xs.length % 2 = 0) : rimOk (some (xs.map V.int)) cl = true := rimOk_ints (fun x m => by have := hx x m; omega) l2 l16 ev
section
variable {q cC cR cN cM : Addr} {H : Hp} {Q : VK} {E : XK} {v : V} {xs : List Int} {cl nu : Int} {i : Nat}
theorem may_ok (hck : clk (.int cl) = true) (hx : ∀ x ∈ xs, 0 ≤ x ∧ x < cl) (l2 : 2 ≤ xs.length) (l16 : xs.length ≤ 16) (ev : xs.length % 2 = 0) (row : RowV q H v (some (xs.map V.int))) (hi : i < xs.length)
    (k : ∀ H', Same H H' → Q (.bl (!decide (stepAt xs i = 0))) H') : spMaySet cC cR cN [.int cl, v, .int (i : Int)] H Q E := by
  have rr := rim_right hx l2 l16 ev
  refine ⟨q, .int cl, v, some (xs.map V.int), .int (i : Int), rfl, .num _, row, .num _, len_sl (by rw [List.length_map]; omega), fun e => absurd (e.symm.trans hck) (by decide), fun cl' ec _ H1 s1 => ?_⟩
  cases ec
  refine ⟨fun e => absurd (e.symm.trans rr) (by decide), fun _ ys exs => ?_⟩
  have exy := map_intX (Option.some.inj exs)
  subst exy
  refine ⟨fun e => absurd (e.symm.trans (inB_yes (by omega) (by omega))) (by decide), fun j ej hj => ?_⟩
  have : i = j := by have z := V.int.inj ej; omega
  subst this
  exact k H1 s1
theorem set_ok (hck : clk (.int cl) = true) (hx : ∀ x ∈ xs, 0 ≤ x ∧ x < cl) (l2 : 2 ≤ xs.length) (l16 : xs.length ≤ 16) (ev : xs.length % 2 = 0) (row : RowV q H v (some (xs.map V.int))) (hi : i < xs.length) (n0 : 0 ≤ nu) (n1 : nu < cl) (hs : stepAt xs i ≠ 0)
    (k : ∀ H' p, Same H H' → H' p = some (.tup ((xs.set i nu).map V.int)) → Q (.ref p) H') : spSetAt cC cR cN cM [.int cl, v, .int (i : Int), .int nu] H Q E := by
  have rr := rim_right hx l2 l16 ev
  refine ⟨q, .int cl, v, some (xs.map V.int), .int (i : Int), .int nu, rfl, .num _, row, .num _, .num _, len_sl (by rw [List.length_map]; omega), fun e => absurd (e.symm.trans hck) (by decide), fun cl' ec _ H1 s1 => ?_⟩
  cases ec
  refine ⟨fun e => absurd (e.symm.trans rr) (by decide), fun _ ys exs => ?_⟩
  have exy := map_intX (Option.some.inj exs)
  subst exy
  refine ⟨fun e => absurd (e.symm.trans (inB_yes (by omega) (by omega))) (by decide), fun j ej hj => ?_⟩
  have : i = j := by have z := V.int.inj ej; omega
  subst this
  refine ⟨fun e => absurd (e.symm.trans (inB_yes (by omega) (by omega))) (by decide), fun w ew _ _ => ?_⟩
  cases ew
  exact ⟨fun z => absurd z hs, fun _ H2 p s2 ep => k H2 p (s1.trans s2) ep⟩
end
theorem step_set {xs : List Int} {i : Nat} {v : Int} (l2 : 2 ≤ xs.length) (hi : i < xs.length) : stepAt (xs.set i v) i = stepAt xs i := by
  have key : ∀ j, j ≠ i → (xs.set i v).getD j 0 = xs.getD j 0 := fun j h => by
    rw [List.getD_eq_getElem?_getD, List.getD_eq_getElem?_getD, List.getElem?_set_ne (fun e => h e.symm)]
  unfold stepAt
  rw [List.length_set, key _ (by split <;> omega), key _ (by split <;> omega)]
theorem set_back {xs : List Int} {i : Nat} {v : Int} (hi : i < xs.length) : (xs.set i v).set i (xs.getD i 0) = xs := by
  rw [List.set_set]
  refine List.ext_getElem? fun k => ?_
  rw [List.getElem?_set]
  by_cases e : i = k
  · subst e
    rw [if_pos rfl, if_pos hi, List.getD_eq_getElem?_getD, List.getElem?_eq_getElem hi]
    rfl
  · rw [if_neg e]
/-- the def that hears, its object known -/
structure HrdC (K : PySem.W.Frag) (mg : Str → Option Value) (g : Addr) (cdv : Value) : Prop where
  mgf : mg "_law_heard" = some (.ref g)
  kp : PySem.W.keepIn K (.ref g) = true
  code : PySem.W.codeIn K cdv "_law_heard" = true
  ex : ∃ (oc : Value) (od : Option Addr) (kV dc pm : Value) (an : Option Addr) (ct : Value) (sl : Array (Option Value)), K.lookup g = some ⟨oc, od, .func (PySem.W.fnOf "_law_heard" "_law_heard" (defArgs sLawHeard) (defBody sLawHeard) (defScope sLawHeard) .none kV dc pm an cdv ct), sl⟩ ∧
    Binds K (PySem.W.fnOf "_law_heard" "_law_heard" (defArgs sLawHeard) (defBody sLawHeard) (defScope sLawHeard) .none kV dc pm an cdv ct) ["ask"] []
theorem pe_hear {X : Cx} {g c P : Addr} {cdv : Value} {ad : Ad} {k : Nat} {Tt : List (Addr × Str)} {params : Arguments} {body : Expr} {scope : Scope} {ps : List Str} {dvs : List V} {t : XK → TE} {p lp pos : Pos} (hH : HrdC X.K X.mg g cdv) (T : Txt X.K X.mg ad) (T2 : HdT X.K ad)
    (glob : Gl X "_law_heard") (room : Room (k + 2) X.A) (G : LamGo X Tt c P params body scope ps dvs) (D : DefsOk X params dvs)
    (B : ∀ (A : Around) (outer : List Env) (s : Shared) (H : Hp) (E : XK) (f c' : Addr), Room k (A.deeper (lamEnv X scope s.heap.objs.size f c')) → PE (lamCx X A outer s H E scope f c') body (t E)) :
    PE X (.Call (.Name "_law_heard" p) [.Lambda params body scope lp] [] pos) (tLam Tt (TTh ad) t) := by
  obtain ⟨oc, od, kV, dc, pm, an, ct, sl, look, b⟩ := hH.ex
  exact pe_lamX glob hH.mgf hH.kp look hH.code b scLawHeard rfl (.inl rfl) (heard_gives T T2) room G D B

abbrev oC : Option (V × V) := some (.str "clock", .str "clock")
abbrev oR : Option (V × V) := some (.str "row", .str "row")
abbrev oG : Option (V × V) := some (.str "number", .str "gap")
abbrev oN : Option (V × V) := some (.str "number", .str "number")
abbrev oM : Option (V × V) := some (.str "misfit", .str "gap")
/-- a row, or none -/
structure RimF (q : Addr) (H : Hp) (v : V) (cl : Int) (ok : Bool) : Prop where
  ex : ∃ o, RowV q H v o ∧ (∀ xs, o = some xs → xs.length < sizeLine) ∧ rimOk o cl = ok
theorem RimF.but {q : Addr} {H G : Hp} {v : V} {cl : Int} {ok : Bool} (h : RimF q H v cl ok) (b : But q H G) : RimF q G v cl ok := by
  obtain ⟨o, h1, h2, h3⟩ := h.ex
  exact ⟨o, h1.but b, h2, h3⟩
theorem RimF.ext {q : Addr} {H G : Hp} {v : V} {cl : Int} {ok : Bool} (h : RimF q H v cl ok) (x : ExtN H G) : RimF q G v cl ok := by
  obtain ⟨o, h1, h2, h3⟩ := h.ex
  exact ⟨o, h1.ext x, h2, h3⟩
section
variable {K : PySem.W.Frag} {ad : Ad} {q : Addr} {H1 : Hp} {Q : VK} {c v gv nv : V} {xs : List Int} {cl nu : Int} {ok : Bool} {i : Nat}
abbrev R0 (Q : VK) : VK := fun _ G => ∀ G2, Same G G2 → Q .non G2
theorem hear_part {C : Addr} {word part : Str} {H' : Hp} {r : Option (V × V)} (hk : ∀ G v, Same H1 G → TwoV G v r → Q v G) (mem : (C, word) ∈ ([(ad.c_BadClock, "clock"), (ad.c_BadNumber, "number"), (ad.c_BadRow, "row"), (ad.c_Misfit, "misfit")] : List (Addr × Str))) (sm : Same H1 H') (e : r = some (.str word, .str part)) : errAt (hearE ad Q) C "part" (.str part) H' := by
  intro d hd
  refine ⟨C, d, word, .str part, rfl, rfl, upd_same, mem, fun G2 p s2 hp ep => hk G2 _ ((same_neu sm hd).trans s2) ?_⟩
  rw [e]
  exact ⟨p, rfl, ep⟩
theorem may_clock (hc : Any q H1 c) (ec : clk c = false) (hv : RimF q H1 v cl ok) (hg : Any q H1 gv) (hk : ∀ G v, Same H1 G → TwoV G v oC → Q v G) : spMaySet ad.c_BadClock ad.c_BadRow ad.c_BadNumber [c, v, gv] H1 (R0 Q) (hearE ad Q) := by
  obtain ⟨o, h1, h2, h3⟩ := hv.ex
  exact ⟨q, c, v, o, gv, rfl, hc, h1, hg, h2, fun _ => hear_part hk (by simp) (Same.refl _) rfl, fun cl' _ e => by cases ec.symm.trans e⟩
theorem may_row (hck : clk (.int cl) = true) (hv : RimF q H1 v cl false) (hg : Any q H1 gv) (hk : ∀ G v, Same H1 G → TwoV G v oR → Q v G) : spMaySet ad.c_BadClock ad.c_BadRow ad.c_BadNumber [.int cl, v, gv] H1 (R0 Q) (hearE ad Q) := by
  obtain ⟨o, h1, h2, h3⟩ := hv.ex
  refine ⟨q, .int cl, v, o, gv, rfl, .num _, h1, hg, h2, (fun e => by cases hck.symm.trans e), fun cl' ec _ H' s => ?_⟩
  cases ec
  exact ⟨fun _ => hear_part hk (by simp) s rfl, fun e => by cases h3.symm.trans e⟩
theorem may_gap (hck : clk (.int cl) = true) (hx : ∀ x ∈ xs, 0 ≤ x ∧ x < cl) (l2 : 2 ≤ xs.length) (l16 : xs.length ≤ 16) (ev : xs.length % 2 = 0) (row : RowV q H1 v (some (xs.map V.int))) (hg : Any q H1 gv) (eg : inB gv (some 0) (some ((xs.length : Int) - 1)) = false) (hk : ∀ G v, Same H1 G → TwoV G v oG → Q v G) :
    spMaySet ad.c_BadClock ad.c_BadRow ad.c_BadNumber [.int cl, v, gv] H1 (R0 Q) (hearE ad Q) := by
  have rr := rim_right hx l2 l16 ev
  refine ⟨q, .int cl, v, some (xs.map V.int), gv, rfl, .num _, row, hg, len_sl (by rw [List.length_map]; omega), fun e => absurd (e.symm.trans hck) (by decide), fun cl' ec _ H1 s1 => ?_⟩
  cases ec
  refine ⟨fun e => absurd (e.symm.trans rr) (by decide), fun _ ys exs => ?_⟩
  have exy := map_intX (Option.some.inj exs)
  subst exy
  exact ⟨fun _ => hear_part hk (by simp) s1 rfl, fun j ej hj => by subst ej; exact absurd (eg.symm.trans (inB_yes (by omega) (by omega))) (by decide)⟩
theorem set_clock (hc : Any q H1 c) (ec : clk c = false) (hv : RimF q H1 v cl ok) (hg : Any q H1 gv) (hn : Any q H1 nv) (hk : ∀ G v, Same H1 G → TwoV G v oC → Q v G) : spSetAt ad.c_BadClock ad.c_BadRow ad.c_BadNumber ad.c_Misfit [c, v, gv, nv] H1 (R0 Q) (hearE ad Q) := by
  obtain ⟨o, h1, h2, h3⟩ := hv.ex
  exact ⟨q, c, v, o, gv, nv, rfl, hc, h1, hg, hn, h2, fun _ => hear_part hk (by simp) (Same.refl _) rfl, fun cl' _ e => by cases ec.symm.trans e⟩
theorem set_row (hck : clk (.int cl) = true) (hv : RimF q H1 v cl false) (hg : Any q H1 gv) (hn : Any q H1 nv) (hk : ∀ G v, Same H1 G → TwoV G v oR → Q v G) : spSetAt ad.c_BadClock ad.c_BadRow ad.c_BadNumber ad.c_Misfit [.int cl, v, gv, nv] H1 (R0 Q) (hearE ad Q) := by
  obtain ⟨o, h1, h2, h3⟩ := hv.ex
  refine ⟨q, .int cl, v, o, gv, nv, rfl, .num _, h1, hg, hn, h2, (fun e => by cases hck.symm.trans e), fun cl' ec _ H' s => ?_⟩
  cases ec
  exact ⟨fun _ => hear_part hk (by simp) s rfl, fun e => by cases h3.symm.trans e⟩
theorem set_gap (hck : clk (.int cl) = true) (hx : ∀ x ∈ xs, 0 ≤ x ∧ x < cl) (l2 : 2 ≤ xs.length) (l16 : xs.length ≤ 16) (ev : xs.length % 2 = 0) (row : RowV q H1 v (some (xs.map V.int))) (hg : Any q H1 gv) (hn : Any q H1 nv) (eg : inB gv (some 0) (some ((xs.length : Int) - 1)) = false) (hk : ∀ G v, Same H1 G → TwoV G v oG → Q v G) :
    spSetAt ad.c_BadClock ad.c_BadRow ad.c_BadNumber ad.c_Misfit [.int cl, v, gv, nv] H1 (R0 Q) (hearE ad Q) := by
  have rr := rim_right hx l2 l16 ev
  refine ⟨q, .int cl, v, some (xs.map V.int), gv, nv, rfl, .num _, row, hg, hn, len_sl (by rw [List.length_map]; omega), fun e => absurd (e.symm.trans hck) (by decide), fun cl' ec _ H1 s1 => ?_⟩
  cases ec
  refine ⟨fun e => absurd (e.symm.trans rr) (by decide), fun _ ys exs => ?_⟩
  have exy := map_intX (Option.some.inj exs)
  subst exy
  exact ⟨fun _ => hear_part hk (by simp) s1 rfl, fun j ej hj => by subst ej; exact absurd (eg.symm.trans (inB_yes (by omega) (by omega))) (by decide)⟩
theorem set_number (hck : clk (.int cl) = true) (hx : ∀ x ∈ xs, 0 ≤ x ∧ x < cl) (l2 : 2 ≤ xs.length) (l16 : xs.length ≤ 16) (ev : xs.length % 2 = 0) (row : RowV q H1 v (some (xs.map V.int))) (hn : Any q H1 nv) (hi : i < xs.length) (en : inB nv (some 0) (some (cl - 1)) = false) (hk : ∀ G v, Same H1 G → TwoV G v oN → Q v G) :
    spSetAt ad.c_BadClock ad.c_BadRow ad.c_BadNumber ad.c_Misfit [.int cl, v, .int (i : Int), nv] H1 (R0 Q) (hearE ad Q) := by
  have rr := rim_right hx l2 l16 ev
  refine ⟨q, .int cl, v, some (xs.map V.int), .int (i : Int), nv, rfl, .num _, row, .num _, hn, len_sl (by rw [List.length_map]; omega), fun e => absurd (e.symm.trans hck) (by decide), fun cl' ec _ H1 s1 => ?_⟩
  cases ec
  refine ⟨fun e => absurd (e.symm.trans rr) (by decide), fun _ ys exs => ?_⟩
  have exy := map_intX (Option.some.inj exs)
  subst exy
  refine ⟨fun e => absurd (e.symm.trans (inB_yes (by omega) (by omega))) (by decide), fun j ej hj => ?_⟩
  exact ⟨fun _ => hear_part hk (by simp) s1 rfl, fun w ew _ _ => by subst ew; exact absurd (en.symm.trans (inB_yes (by omega) (by omega))) (by decide)⟩
theorem set_misfit (hck : clk (.int cl) = true) (hx : ∀ x ∈ xs, 0 ≤ x ∧ x < cl) (l2 : 2 ≤ xs.length) (l16 : xs.length ≤ 16) (ev : xs.length % 2 = 0) (row : RowV q H1 v (some (xs.map V.int))) (hi : i < xs.length) (n0 : 0 ≤ nu) (n1 : nu < cl) (hs : stepAt xs i = 0) (hk : ∀ G v, Same H1 G → TwoV G v oM → Q v G) :
    spSetAt ad.c_BadClock ad.c_BadRow ad.c_BadNumber ad.c_Misfit [.int cl, v, .int (i : Int), .int nu] H1 (R0 Q) (hearE ad Q) := by
  have rr := rim_right hx l2 l16 ev
  refine ⟨q, .int cl, v, some (xs.map V.int), .int (i : Int), .int nu, rfl, .num _, row, .num _, .num _, len_sl (by rw [List.length_map]; omega), fun e => absurd (e.symm.trans hck) (by decide), fun cl' ec _ H1 s1 => ?_⟩
  cases ec
  refine ⟨fun e => absurd (e.symm.trans rr) (by decide), fun _ ys exs => ?_⟩
  have exy := map_intX (Option.some.inj exs)
  subst exy
  refine ⟨fun e => absurd (e.symm.trans (inB_yes (by omega) (by omega))) (by decide), fun j ej hj => ?_⟩
  have : i = j := by have z := V.int.inj ej; omega
  subst this
  refine ⟨fun e => absurd (e.symm.trans (inB_yes (by omega) (by omega))) (by decide), fun w ew _ _ => ?_⟩
  exact ⟨fun _ => hear_part hk (by simp) s1 rfl, fun z => absurd hs z⟩
end
abbrev qSet : Str := ("_law_set_right" : Str) ++ ".<locals>." ++ "<lambda>"
abbrev qRef : Str := ("_law_refused_right" : Str) ++ ".<locals>." ++ "<lambda>"

end K44
namespace K44
open PySem PySem.Spec PyProof.Rows L2 Rp LamX RZ

def spSetRight (TL : List (Addr × Str)) : Sp := fun vs H Q _ => ∃ (q c : Addr) (ns : List Int) (lap : Nat) (cl : Int) (D0 : Addr) (xs : List Int), vs = [.ref q, .int cl, .ref D0] ∧ clk (.int cl) = true ∧ (∀ x ∈ xs, 0 ≤ x ∧ x < cl) ∧ 2 ≤ xs.length ∧ xs.length ≤ 16 ∧ xs.length % 2 = 0 ∧ lap + 100 < 2 ^ 20 ∧ Dr q c ns lap H ∧ D0 ≠ q ∧ H D0 = some (.lst (xs.map V.int)) ∧ Tabs TL H ∧
  ∀ (H' : Hp) (lap' : Nat), lap' ≤ lap + 60 → Dr q c ns lap' H' → H' D0 = some (.lst (xs.map V.int)) → Tabs TL H' → Q (.bl true) H'

section
variable {P : Program} {w : World} {K : PySem.W.Frag} {mg : Str → Option Value} {base : Heap} {ad : Ad}
abbrev sLawSetRight : Stmt := top 31
theorem scLawSetRight : FnScope ["carousel", "clock", "row", "may", "due", "told", "gap", "number", "passed"] ["carousel", "clock", "row"] (defScope sLawSetRight) := ⟨rfl, rfl, rfl, by decide +kernel, rfl, by decide +kernel, by decide +kernel⟩
theorem ok_LawSetRight {TL : List (Addr × Str)} {P0 cc gH f : Addr} {cdH : Value} {fd : FuncData} (F : FunC K "_law_set_right" "_law_set_right" sLawSetRight f fd cc) (T : Txt K mg ad) (T2 : HdT K ad) (hM : HasMods base) (hH : HrdC K mg gH cdH) (TB : TabB base mg cc P0) (hTm : (P0, qSet) ∈ TL) (hTo : ∀ p ∈ TL, p.1 = P0 → p.2 = qSet) {f0 : Addr} {fd0 : FuncData} (cLawOne : Cal P w K mg base "_law_one" 2 f0 fd0 ["carousel", "some"] (spOf K)) {f1 : Addr} {fd1 : FuncData} (cSetAt : CalX P w K mg base "set_at" 7 f1 fd1 ["clock", "row", "gap", "number"] (spSetAt ad.c_BadClock ad.c_BadRow ad.c_BadNumber ad.c_Misfit)) (kSetAt_number_gap_row_clock : KBx K fd1 ["clock", "row", "gap", "number"] 0 ["number", "gap", "row", "clock"] [3, 2, 1, 0]) {f2 : Addr} {fd2 : FuncData} (cLawPole : Cal P w K mg base "_law_pole" 1 f2 fd2 ["carousel", "many"] spDraw) {f3 : Addr} {fd3 : FuncData} (cMaySet : CalX P w K mg base "may_set" 6 f3 fd3 ["clock", "row", "gap"] (spMaySet ad.c_BadClock ad.c_BadRow ad.c_BadNumber)) (kMaySet_gap_row_clock : KBx K fd3 ["clock", "row", "gap"] 0 ["gap", "row", "clock"] [2, 1, 0]) : FnG P w K mg base 14 f fd ["carousel", "clock", "row"] (spSetRight TL) := by
  refine fngC F scLawSetRight (fun {vs H Q E} h => ?_) (fun {A fr s H vs Q E} hg hr h => ?_)
  · obtain ⟨q, c, ns, lap, cl, D0, xs, rfl, hck, hx, l2, l16, ev, hlap, hD, nR, eR0, hT, k⟩ := h
    rfl
  · obtain ⟨q, c, ns, lap, cl, D0, xs, rfl, hck, hx, l2, l16, ev, hlap, hD, nR, eR0, hT, k⟩ := h
    refine ⟨_, (pss_cons (ps_for PassesOwn.never rfl (pi_range1 (by rfl) T.z_range (pa_cons (pe_callB call_len_seq (by rfl) T.z_len PySem.boot_len (pa_cons (pv 2) pa_nil)) pa_nil)) (pg_name (i := 6) scLawSetRight.nd rfl (Or.inr rfl))
  (pss_cons (ps_asg (pe_tup (pa_cons (pe_cmpR op_ne (pe_ix ix_list (pv 2) (pe_op op_sub (pv 6) pe_int) (fun _ _ => rfl)) (pe_ix ix_list (pv 2) (pe_op op_modN (pe_callTy call_int1 (by rfl) T.z_int (by decide +kernel) (pa_cons (pe_op op_add (pv 6) pe_int) pa_nil)) (pe_callB call_len_seq (by rfl) T.z_len PySem.boot_len (pa_cons (pv 2) pa_nil))) (fun _ _ => rfl)) (nomark _)) (pa_cons (pe_go cLawPole hg (hr.mono (by decide)) (by rfl) (pa_cons (pv 0) (pa_cons (pv 1) pa_nil))) pa_nil))) (pg_tup rfl (pgs_cons (pg_name (i := 3) scLawSetRight.nd rfl (Or.inl rfl)) (pgs_cons (pg_name (i := 7) scLawSetRight.nd rfl (Or.inr rfl)) pgs_nil))))
  (pss_cons (ps_set (i := 8) scLawSetRight.nd rfl (Or.inr rfl) (pe_go cLawOne hg (hr.mono (by decide)) (by rfl) (pa_cons (pv 0) (pa_cons (pe_lst (pa_cons (pe_callTy call_listK (by rfl) T.z_list (by decide +kernel) (pa_cons (pv 2) pa_nil)) (pa_cons (pe_callTy call_tupK (by rfl) T.z_tuple (by decide +kernel) (pa_cons (pv 2) pa_nil)) pa_nil))) pa_nil))))
  (pss_cons (ps_if (pt_cmpR op_ne (pe_callB (call_reprA hr hg hM) (by rfl) T.z_repr (by decide +kernel) (pa_cons (pe_lst (pa_cons (pe_goX cMaySet (hr.mono (by decide)) (by rfl) (pa_cons (pv 1) (pa_cons (pv 8) (pa_cons (pv 6) pa_nil)))) (pa_cons (pe_kwX cMaySet kMaySet_gap_row_clock (hr.mono (by decide)) (by rfl) (pk_cons (pv 6) (pk_cons (pv 8) (pk_cons (pv 1) pk_nil)))) pa_nil))) pa_nil)) (pe_callB (call_reprA hr hg hM) (by rfl) T.z_repr (by decide +kernel) (pa_cons (pe_lst (pa_cons (pv 3) (pa_cons (pv 3) pa_nil))) pa_nil)) (nomark _))
  (pss_one (ps_ret pe_bl))
  pss_nil)
  (pss_cons (ps_if (pt_not (pt_val (pv 3)))
  (pss_cons (ps_if (pt_cmpR (op_neD hr.units) (pe_hear hH T T2 (k := 10) (by rfl) (hr.mono (by decide)) ⟨TB, rfl, hTm, hTo, lamT_by (N := ["carousel", "clock", "row", "may", "due", "told", "gap", "number", "passed"]) (sc := defScope sLawSetRight) (by decide +kernel), lamBinds0, (fun _ z => nomatch z)⟩ (dvs := []) (ps := []) (Or.inl ⟨rfl, rfl⟩) (fun A outer s H E f c' hr2 => (pe_goE cSetAt (hr2.mono (by decide)) (takes_of rfl rfl rfl rfl) (by rfl) (pa_cons (pv 1) (pa_cons (pv 8) (pa_cons (pv 6) (pa_cons (pv 7) pa_nil))))))) (pe_tup (pa_cons pe_str (pa_cons pe_str pa_nil))) (nomark _))
  (pss_one (ps_ret pe_bl))
  pss_nil)
  (pss_one ps_continue))
  pss_nil)
  (pss_cons (ps_set (i := 4) scLawSetRight.nd rfl (Or.inl rfl) (pe_callTy call_tupK (by rfl) T.z_tuple (by decide +kernel) (pa_cons (pe_op op_cat (pe_op op_cat (pe_slice sl_list (pv 2) po_none (po_some (pv 6))) (pe_lst (pa_cons (pv 7) pa_nil))) (pe_slice sl_list (pv 2) (po_some (pe_op op_add (pv 6) pe_int)) po_none)) pa_nil)))
  (pss_cons (ps_set (i := 5) scLawSetRight.nd rfl (Or.inl rfl) (pe_goX cSetAt (hr.mono (by decide)) (by rfl) (pa_cons (pv 1) (pa_cons (pv 8) (pa_cons (pv 6) (pa_cons (pv 7) pa_nil))))))
  (pss_one (ps_if (PW.pt (pw_or (pt_cmpR op_ne (pe_callB (call_reprA hr hg hM) (by rfl) T.z_repr (by decide +kernel) (pa_cons (pe_lst (pa_cons (pv 5) (pa_cons (pe_kwX cSetAt kSetAt_number_gap_row_clock (hr.mono (by decide)) (by rfl) (pk_cons (pv 7) (pk_cons (pv 6) (pk_cons (pv 8) (pk_cons (pv 1) pk_nil))))) pa_nil))) pa_nil)) (pe_callB (call_reprA hr hg hM) (by rfl) T.z_repr (by decide +kernel) (pa_cons (pe_lst (pa_cons (pv 4) (pa_cons (pv 4) pa_nil))) pa_nil)) (nomark _)) (pw_or (pt_cmpR (op_neD hr.units) (pe_goX cSetAt (hr.mono (by decide)) (by rfl) (pa_cons (pv 1) (pa_cons (pv 5) (pa_cons (pv 6) (pa_cons (pe_ix ix_list (pv 2) (pv 6) (fun _ _ => rfl)) pa_nil))))) (pe_callTy call_tupK (by rfl) T.z_tuple (by decide +kernel) (pa_cons (pv 2) pa_nil)) (nomark _)) (pw_or1 (pt_cmpR (op_neD hr.units) (pe_callTy call_listK (by rfl) T.z_list (by decide +kernel) (pa_cons (pv 8) pa_nil)) (pv 2) (nomark _))))))
  (pss_one (ps_ret pe_bl))
  pss_nil)))))))))
  (pss_one (ps_ret pe_bl))), ?_⟩
    refine r_start (l := [some (.ref q), some (.int cl), some (.ref D0), none, none, none, none, none, none]) rfl ?_
    obtain ⟨_, ecl, h3, h31⟩ := clk_int hck
    cases ecl
    walk_at "rds"
    refine ⟨_, _, rfl, .inl (SqL.of eR0), ?_⟩
    rw [List.length_map]
    refine ⟨_, rfl, by omega, by omega, ?_⟩
    refine for_range (lo := 0) (n := ((xs.length : Nat) : Int).toNat) (fun i σ G => ∃ (x3 x4 x5 x6 x7 x8 : Option V) (l : Nat), σ = [some (.ref q), some (.int cl), some (.ref D0), x3, x4, x5, x6, x7, x8] ∧ l ≤ lap + 2 * i ∧ Dr q c ns l G ∧ G D0 = some (.lst (xs.map V.int)) ∧ Tabs TL G) ⟨_, _, _, _, _, _, _, rfl, Nat.le_refl _, hD, eR0, hT⟩ ?_ ?_
    · clear hD eR0 hT
      rintro i σ G hi ⟨x3, x4, x5, x6, x7, x8, l, rfl, hl, D5, eR, tb⟩
      replace hi : i < xs.length := by omega
      simp only [Int.zero_add]
      walk_at "rds"
      refine r_ixL (SqL.of eR) (atI_pvX hi) ?_
      walk_at "rds"
      refine .inl ⟨_, rfl, ?_⟩
      walk_at "rds"
      refine ⟨_, _, rfl, .inl (SqL.of eR), ?_⟩
      rw [List.length_map]
      refine r_I (by omega) ?_
      refine r_ixL (SqL.of eR) (atI_nxX hi rfl) ?_
      walk_at "rds"
      refine ⟨rfl, ?_⟩
      rw [Rp.dec_int]
      obtain ⟨m, hm⟩ : ∃ m, m = !decide (stepAt xs i = 0) := ⟨_, rfl⟩
      have hm2 : (!decide (xs.getD (if i = 0 then xs.length - 1 else i - 1) 0 = xs.getD (if i + 1 = xs.length then 0 else i + 1) 0)) = m := by
        rw [hm]
        unfold stepAt
        congr 1
        exact decide_eq_decide.mpr ⟨fun h => by omega, fun h => by omega⟩
      rw [hm2]
      clear hm2
      walk_at "rds"
      refine ⟨_, _, _, _, _, rfl, by omega, by omega, by omega, D5, fun K1 l1 nu hl1 E1 c1 mnu nnu => ?_⟩
      replace tb := tabs_dr c1 D5 tb
      replace eR := c1 _ _ nR eR
      clear c1
      walk_at "rds"
      refine ⟨len_ok rfl, fun pt hpt => ?_⟩
      generalize hG2 : upd K1 pt _ = K2
      obtain ⟨s2, ept⟩ := neu2 hG2 hpt
      have npt := dr_neq E1 hpt
      replace tb := tabs_same tb s2
      replace eR := s2 _ _ eR
      replace E1 := E1.same s2
      clear s2 hG2
      refine r_gtup ⟨_, _, rfl, SqT.of ept, rfl, ?_⟩
      refine ⟨_, _, rfl, ?_⟩
      walk_at "rds"
      refine ⟨_, _, rfl, ?_⟩
      walk_at "rds"
      refine ⟨rfl, ?_⟩
      clear ept
      walk_at "rds"
      refine ⟨D0, _, rfl, .inl (SqL.of eR), fun pa hpa => ?_⟩
      generalize hG3 : upd K2 pa _ = K3
      obtain ⟨s3, epa⟩ := neu2 hG3 hpa
      have npa := dr_neq E1 hpa
      replace tb := tabs_same tb s3
      replace eR := s3 _ _ eR
      replace E1 := E1.same s3
      clear s3 hG3
      walk_at "rds"
      refine r_tupL eR fun pb Kb sb hpb epb => ?_
      have npb := dr_neq E1 hpb
      replace tb := tabs_same tb sb
      replace eR := sb _ _ eR
      replace epa := sb _ _ epa
      replace E1 := E1.same sb
      clear sb hpb
      walk_at "rds"
      refine ⟨len_ok rfl, fun pl hpl => ?_⟩
      generalize hG4 : upd Kb pl _ = K4
      obtain ⟨s4, epl⟩ := neu2 hG4 hpl
      have npl := dr_neq E1 hpl
      replace tb := tabs_same tb s4
      replace eR := s4 _ _ eR
      replace epa := s4 _ _ epa
      replace epb := s4 _ _ epb
      replace E1 := E1.same s4
      clear s4 hG4
      walk_at "rds"
      refine ⟨_, _, _, _, _, _, rfl, SqL.of epl, Nat.zero_lt_succ _, lt_ok rfl, by omega, npl, E1, fun K5 l5 i5 vp hl5 E5 c5 e5 => ?_⟩
      have pvp := EachP.get (F := fun v => PasR q K4 v xs) (.cons ⟨pa, rfl, npa, .inl epa⟩ (.cons ⟨pb, rfl, npb, .inr epb⟩ .nil)) e5
      replace tb := tabs_dr c5 E1 tb
      replace eR := c5 _ _ nR eR
      replace epa := c5 _ _ npa epa
      replace epb := c5 _ _ npb epb
      replace epl := c5 _ _ npl epl
      replace pvp := pvp.but c5
      clear epl epa epb
      clear npl npa npb
      walk_at "rds"
      refine may_ok (q := q) hck hx l2 l16 ev pvp.row hi fun J1 j1 => ?_
      rw [← hm]
      replace tb := tabs_same tb j1
      replace eR := j1 _ _ eR
      replace pvp := pvp.but (same_but j1)
      replace E5 := E5.same j1
      clear j1
      walk_at "rds"
      refine ⟨rfl, rfl, ?_⟩
      refine may_ok (q := q) hck hx l2 l16 ev pvp.row hi fun J2 j2 => ?_
      rw [← hm]
      replace tb := tabs_same tb j2
      replace eR := j2 _ _ eR
      replace pvp := pvp.but (same_but j2)
      replace E5 := E5.same j2
      clear j2
      walk_at "rds"
      refine ⟨len_ok rfl, fun p3 hp3 => ?_⟩
      generalize hG6 : upd J2 p3 _ = K6
      obtain ⟨s6, ep3⟩ := neu2 hG6 hp3
      have np3 := dr_neq E5 hp3
      replace tb := tabs_same tb s6
      replace eR := s6 _ _ eR
      replace pvp := pvp.but (same_but s6)
      replace E5 := E5.same s6
      clear s6 hG6
      walk_at "rds"
      refine r_reprA (.lst (SqL.of ep3) (.cons (.bl _) (.cons (.bl _) .nil))) (fit_boolsX _ _) ?_
      walk_at "rds"
      refine ⟨len_ok rfl, fun p4 hp4 => ?_⟩
      generalize hG7 : upd K6 p4 _ = K7
      obtain ⟨s7, ep4⟩ := neu2 hG7 hp4
      have np4 := dr_neq E5 hp4
      replace tb := tabs_same tb s7
      replace eR := s7 _ _ eR
      replace ep3 := s7 _ _ ep3
      replace pvp := pvp.but (same_but s7)
      replace E5 := E5.same s7
      clear s7 hG7
      walk_at "rds"
      refine r_reprA (.lst (SqL.of ep4) (.cons (.bl _) (.cons (.bl _) .nil))) (fit_boolsX _ _) ?_
      refine r_ne_same ?_
      clear ep3 ep4
      clear np3 np4
      walk_at "rds"
      cases m with
      | false =>
        have hz : stepAt xs i = 0 := by
          have z := hm.symm
          simpa using z
        walk_at "rds"
        refine ⟨tb, fun X108 x108 t108 => ?_⟩
        refine ⟨_, _, ?_, fun _ _ h => h, fun _ _ _ h => h⟩
        walk_at "rds"
        refine set_misfit (q := q) hck hx l2 l16 ev (pvp.ext x108).row hi mnu nnu hz fun Y108 w u108 tw => ?_
        have y108 := ext_same x108 u108
        replace tb := tabs_same t108 u108
        replace eR := y108 _ _ eR (fun _ z => by cases z)
        replace pvp := pvp.ext y108
        replace E5 := dr_ext E5 y108
        clear y108 u108 x108 t108
        walk_at "rds"
        refine ⟨len_ok rfl, fun q1 hq1 => ?_⟩
        generalize hG109 : upd Y108 q1 _ = K109
        obtain ⟨s109, eq1⟩ := neu2 hG109 hq1
        have nq1 := dr_neq E5 hq1
        replace tb := tabs_same tb s109
        replace eR := s109 _ _ eR
        replace pvp := pvp.but (same_but s109)
        replace tw := tw.ext (ExtN.of s109)
        replace E5 := E5.same s109
        clear s109 hG109
        refine neD_ok (two_dp tw ⟨⟨_, rfl⟩, .inl ⟨_, rfl⟩⟩) (.tup (SqT.of eq1) (.cons (.str _) (.cons (.str _) .nil))) (by decide +kernel) (by decide +kernel) (by decide +kernel) ?_
        walk_at "rds"
        exact ⟨_, _, _, _, _, _, _, rfl, by omega, E5, eR, tb⟩
      | true =>
        have hz : stepAt xs i ≠ 0 := by
          have z := hm.symm
          simpa using z
        walk_at "rds"
        refine ⟨_, rfl, ?_⟩
        refine ⟨_, _, rfl, SqL.of eR, ?_⟩
        rw [cut_loI (by omega)]
        intro c1 hc1
        generalize hG108 : upd K7 c1 _ = K108
        obtain ⟨s108, ec1⟩ := neu2 hG108 hc1
        have nc1 := dr_neq E5 hc1
        replace tb := tabs_same tb s108
        replace eR := s108 _ _ eR
        replace pvp := pvp.but (same_but s108)
        replace E5 := E5.same s108
        clear s108 hG108
        walk_at "rds"
        refine ⟨len_ok rfl, fun c2 hc2 => ?_⟩
        generalize hG109 : upd K108 c2 _ = K109
        obtain ⟨s109, ec2⟩ := neu2 hG109 hc2
        have nc2 := dr_neq E5 hc2
        replace tb := tabs_same tb s109
        replace eR := s109 _ _ eR
        replace ec1 := s109 _ _ ec1
        replace pvp := pvp.but (same_but s109)
        replace E5 := E5.same s109
        clear s109 hG109
        refine r_cat (p := c1) ec1 ec2 (Nat.le_trans (show _ ≤ 1000 by simp only [List.length_take, List.length_map, List.length_cons, List.length_nil]; omega) big1) fun c3 hc3 => ?_
        generalize hG110 : upd K109 c3 _ = K110
        obtain ⟨s110, ec3⟩ := neu2 hG110 hc3
        have nc3 := dr_neq E5 hc3
        replace tb := tabs_same tb s110
        replace eR := s110 _ _ eR
        replace ec1 := s110 _ _ ec1
        replace ec2 := s110 _ _ ec2
        replace pvp := pvp.but (same_but s110)
        replace E5 := E5.same s110
        clear s110 hG110
        walk_at "rds"
        refine ⟨_, rfl, ?_⟩
        refine ⟨_, _, rfl, SqL.of eR, ?_⟩
        rw [show (i : Int) + 1 = ((i + 1 : Nat) : Int) by omega, cut_hiI (by omega)]
        intro c4 hc4
        generalize hG111 : upd K110 c4 _ = K111
        obtain ⟨s111, ec4⟩ := neu2 hG111 hc4
        have nc4 := dr_neq E5 hc4
        replace tb := tabs_same tb s111
        replace eR := s111 _ _ eR
        replace ec1 := s111 _ _ ec1
        replace ec2 := s111 _ _ ec2
        replace ec3 := s111 _ _ ec3
        replace pvp := pvp.but (same_but s111)
        replace E5 := E5.same s111
        clear s111 hG111
        refine r_cat (p := c1) ec3 ec4 (Nat.le_trans (show _ ≤ 1000 by simp only [List.length_take, List.length_drop, List.length_append, List.length_map, List.length_cons, List.length_nil]; omega) big1) fun c5 hc5 => ?_
        generalize hG112 : upd K111 c5 _ = K112
        obtain ⟨s112, ec5⟩ := neu2 hG112 hc5
        have nc5 := dr_neq E5 hc5
        replace tb := tabs_same tb s112
        replace eR := s112 _ _ eR
        replace ec1 := s112 _ _ ec1
        replace ec2 := s112 _ _ ec2
        replace ec3 := s112 _ _ ec3
        replace ec4 := s112 _ _ ec4
        replace pvp := pvp.but (same_but s112)
        replace E5 := E5.same s112
        clear s112 hG112
        walk_at "rds"
        have e5 : (xs.take i).map V.int ++ [V.int nu] ++ (xs.drop (i + 1)).map V.int = (xs.set i nu).map V.int := by
          rw [← set_cutB hi, List.map_append, List.map_append]
          rfl
        rw [e5] at ec5
        clear e5
        clear ec1 ec2 ec3 ec4
        refine r_tupL ec5 fun pd Kd sd hpd epd => ?_
        have npd := dr_neq E5 hpd
        replace tb := tabs_same tb sd
        replace eR := sd _ _ eR
        replace ec5 := sd _ _ ec5
        replace pvp := pvp.but (same_but sd)
        replace E5 := E5.same sd
        clear sd hpd
        clear ec5
        walk_at "rds"
        refine set_ok (q := q) hck hx l2 l16 ev pvp.row hi mnu nnu hz fun U1 pe u1 epe => ?_
        have npe := dr_ne_tupX (E5.same u1) epe
        replace tb := tabs_same tb u1
        replace eR := u1 _ _ eR
        replace epd := u1 _ _ epd
        replace pvp := pvp.but (same_but u1)
        replace E5 := E5.same u1
        clear u1
        walk_at "rds"
        refine ⟨rfl, rfl, ?_⟩
        refine set_ok (q := q) hck hx l2 l16 ev pvp.row hi mnu nnu hz fun U2 pf u2 epf => ?_
        have npf := dr_ne_tupX (E5.same u2) epf
        replace tb := tabs_same tb u2
        replace eR := u2 _ _ eR
        replace epd := u2 _ _ epd
        replace epe := u2 _ _ epe
        replace pvp := pvp.but (same_but u2)
        replace E5 := E5.same u2
        clear u2
        walk_at "rds"
        refine ⟨len_ok rfl, fun p6 hp6 => ?_⟩
        generalize hG113 : upd U2 p6 _ = K113
        obtain ⟨s113, ep6⟩ := neu2 hG113 hp6
        have np6 := dr_neq E5 hp6
        replace tb := tabs_same tb s113
        replace eR := s113 _ _ eR
        replace epd := s113 _ _ epd
        replace epe := s113 _ _ epe
        replace epf := s113 _ _ epf
        replace pvp := pvp.but (same_but s113)
        replace E5 := E5.same s113
        clear s113 hG113
        walk_at "rds"
        have hy : ∀ x ∈ xs.set i nu, 0 ≤ x ∧ x < cl := mem_setX hx ⟨mnu, nnu⟩
        have ly : (xs.set i nu).length = xs.length := List.length_set ..
        generalize hys : xs.set i nu = ys at *
        refine r_reprA (.lst (SqL.of ep6) (.cons (.tup (SqT.of epe) (dd_ints ys)) (.cons (.tup (SqT.of epf) (dd_ints ys)) .nil))) ((FitA.list (FitA.cons (n := 1) (fit_ints (fun x m => by have := hy x m; omega : ∀ x ∈ ys, 0 ≤ x ∧ x ≤ 31) (by decide) (by decide)).tuple (FitA.cons (fit_ints (fun x m => by have := hy x m; omega : ∀ x ∈ ys, 0 ≤ x ∧ x ≤ 31) (by decide) (by decide)).tuple (FitA.nil (c := 0))))).le (by decide) (by omega)) ?_
        walk_at "rds"
        refine ⟨len_ok rfl, fun p7 hp7 => ?_⟩
        generalize hG114 : upd K113 p7 _ = K114
        obtain ⟨s114, ep7⟩ := neu2 hG114 hp7
        have np7 := dr_neq E5 hp7
        replace tb := tabs_same tb s114
        replace eR := s114 _ _ eR
        replace epd := s114 _ _ epd
        replace epe := s114 _ _ epe
        replace epf := s114 _ _ epf
        replace ep6 := s114 _ _ ep6
        replace pvp := pvp.but (same_but s114)
        replace E5 := E5.same s114
        clear s114 hG114
        walk_at "rds"
        refine r_reprA (.lst (SqL.of ep7) (.cons (.tup (SqT.of epd) (dd_ints ys)) (.cons (.tup (SqT.of epd) (dd_ints ys)) .nil))) ((FitA.list (FitA.cons (n := 1) (fit_ints (fun x m => by have := hy x m; omega : ∀ x ∈ ys, 0 ≤ x ∧ x ≤ 31) (by decide) (by decide)).tuple (FitA.cons (fit_ints (fun x m => by have := hy x m; omega : ∀ x ∈ ys, 0 ≤ x ∧ x ≤ 31) (by decide) (by decide)).tuple (FitA.nil (c := 0))))).le (by decide) (by omega)) ?_
        refine r_ne_same ?_
        clear ep6 ep7 epd epf
        walk_at "rds"
        refine r_ixL (SqL.of eR) (atI_at hi) ?_
        walk_at "rds"
        have hst : stepAt ys i ≠ 0 := by rw [← hys, step_set l2 hi]; exact hz
        have hv := hx _ (List.mem_of_getElem? (getD_at hi))
        refine set_ok (q := q) hck hy (by omega) (by omega) (by omega) (rowV_tup npe epe) (by omega) hv.1 hv.2 hst fun U3 pg u3 epg => ?_
        have npg := dr_ne_tupX (E5.same u3) epg
        rw [← hys, set_back hi] at epg
        replace tb := tabs_same tb u3
        replace eR := u3 _ _ eR
        replace epe := u3 _ _ epe
        replace pvp := pvp.but (same_but u3)
        replace E5 := E5.same u3
        clear u3
        walk_at "rds"
        refine r_tupL eR fun ph Kh sh hph eph => ?_
        have nph := dr_neq E5 hph
        replace tb := tabs_same tb sh
        replace eR := sh _ _ eR
        replace epe := sh _ _ epe
        replace epg := sh _ _ epg
        replace pvp := pvp.but (same_but sh)
        replace E5 := E5.same sh
        clear sh hph
        refine ne_tupsX epg eph ?_
        rw [decide_eq_true rfl]
        clear epg eph
        walk_at "rds"
        obtain ⟨ap, eap, nap, zap⟩ := pvp.ex
        subst eap
        have go : ∀ pz Kz, Same Kh Kz → Kz pz = some (.lst (xs.map V.int)) → Kz D0 = some (.lst (xs.map V.int)) := fun pz Kz sz _ => sz _ _ eR
        rcases zap with z | z
        · refine ⟨ap, _, rfl, .inl (SqL.of z), fun pz hpz => ?_⟩
          generalize hGz : upd Kh pz _ = Kz
          obtain ⟨sz, ez⟩ := neu2 hGz hpz
          clear hGz
          walk_at "rds"
          refine ne_lstsX ez (sz _ _ eR) ?_
          walk_at "rds"
          exact ⟨_, _, _, _, _, _, _, rfl, by omega, E5.same sz, sz _ _ eR, tabs_same tb sz⟩
        · refine ⟨ap, _, rfl, .inr (SqT.of z), fun pz hpz => ?_⟩
          generalize hGz : upd Kh pz _ = Kz
          obtain ⟨sz, ez⟩ := neu2 hGz hpz
          clear hGz
          walk_at "rds"
          refine ne_lstsX ez (sz _ _ eR) ?_
          walk_at "rds"
          exact ⟨_, _, _, _, _, _, _, rfl, by omega, E5.same sz, sz _ _ eR, tabs_same tb sz⟩
    · rintro σ G ⟨x3, x4, x5, x6, x7, x8, l, rfl, hl, D5, eR, tb⟩
      walk_at "rds"
      exact k _ _ (by omega) D5 eR tb
end
end K44
namespace K44
open PySem PySem.Spec PyProof.Rows L2 Rp LamX RZ

def spRefRight (TL : List (Addr × Str)) : Sp := fun vs H Q _ => ∃ (q c : Addr) (ns : List Int) (lap : Nat) (cl : Int) (D0 : Addr) (xs : List Int), vs = [.ref q, .int cl, .ref D0] ∧ clk (.int cl) = true ∧ (∀ x ∈ xs, 0 ≤ x ∧ x < cl) ∧ 2 ≤ xs.length ∧ xs.length ≤ 16 ∧ xs.length % 2 = 0 ∧ lap + 100 < 2 ^ 20 ∧ Dr q c ns lap H ∧ D0 ≠ q ∧ H D0 = some (.lst (xs.map V.int)) ∧ Tabs TL H ∧
  ∀ (H' : Hp) (lap' : Nat), lap' ≤ lap + 10 → Dr q c ns lap' H' → Tabs TL H' → Q (.bl true) H'
theorem rimF_none {q : Addr} {H : Hp} {v : V} {cl : Int} (h : RowV q H v none) : RimF q H v cl false := ⟨none, h, (fun _ z => nomatch z), rfl⟩
theorem rimF_lst {q a : Addr} {H : Hp} {xs : List V} {cl : Int} (na : a ≠ q) (e : H a = some (.lst xs)) (it : ∀ x ∈ xs, Any q H x) (l : xs.length ≤ 1000) (h : rimOk (some xs) cl = false) : RimF q H (.ref a) cl false :=
  ⟨some xs, .lst na e it, len_sl l, h⟩
theorem rim_bad {xs : List V} {x : V} {cl : Int} (m : x ∈ xs) (h : inB x (some 0) (some (cl - 1)) = false) : rimOk (some xs) cl = false := by
  have e : (xs.all fun x => inB x (some 0) (some (cl - 1))) = false := by
    rw [List.all_eq_false]
    exact ⟨x, m, by rw [h]; decide⟩
  show ((_ && (xs.all fun x => inB x (some 0) (some (cl - 1)))) && _) = false
  rw [e, Bool.and_false, Bool.false_and]
theorem rim_odd {xs : List V} {cl : Int} (h : xs.length % 2 = 1) : rimOk (some xs) cl = false := by
  show (_ && (xs.length % 2 == 0)) = false
  rw [h]
  exact Bool.and_false _
theorem rim_long {xs : List V} {cl : Int} (h : 16 < xs.length) : rimOk (some xs) cl = false := by
  show ((((_ && decide ((xs.length : Int) ≤ 16)) && _)) && _) = false
  rw [decide_eq_false (p := (xs.length : Int) ≤ 16) (by omega), Bool.and_false, Bool.false_and, Bool.false_and]
theorem step_const {x : Int} : stepAt [x, x, x, x] 3 = 0 := by
  show x - x = 0
  omega

section
variable {P : Program} {w : World} {K : PySem.W.Frag} {mg : Str → Option Value} {base : Heap} {ad : Ad}
abbrev sLawRefusedRight : Stmt := top 32
theorem scLawRefusedRight : FnScope ["carousel", "clock", "row", "heard", "due", "bad", "far", "none", "odd"] ["carousel", "clock", "row"] (defScope sLawRefusedRight) := ⟨rfl, rfl, rfl, by decide +kernel, rfl, by decide +kernel, by decide +kernel⟩
theorem ok_LawRefusedRight {TL : List (Addr × Str)} {P0 cc gH f : Addr} {cdH : Value} {fd : FuncData} (F : FunC K "_law_refused_right" "_law_refused_right" sLawRefusedRight f fd cc) (T : Txt K mg ad) (T2 : HdT K ad) (hM : HasMods base) (hH : HrdC K mg gH cdH) (TB : TabB base mg cc P0) (hTm : (P0, qRef) ∈ TL) (hTo : ∀ p ∈ TL, p.1 = P0 → p.2 = qRef) {f0 : Addr} {fd0 : FuncData} (cLawOne : Cal P w K mg base "_law_one" 2 f0 fd0 ["carousel", "some"] (spOf K)) {f1 : Addr} {fd1 : FuncData} (cMaySet : CalX P w K mg base "may_set" 6 f1 fd1 ["clock", "row", "gap"] (spMaySet ad.c_BadClock ad.c_BadRow ad.c_BadNumber)) {f2 : Addr} {fd2 : FuncData} (cSetAt : CalX P w K mg base "set_at" 7 f2 fd2 ["clock", "row", "gap", "number"] (spSetAt ad.c_BadClock ad.c_BadRow ad.c_BadNumber ad.c_Misfit)) : FnG P w K mg base 14 f fd ["carousel", "clock", "row"] (spRefRight TL) := by
  refine fngC F scLawRefusedRight (fun {vs H Q E} h => ?_) (fun {A fr s H vs Q E} hg hr h => ?_)
  · obtain ⟨q, c, ns, lap, cl, D0, xs, rfl, hck, hx, l2, l16, ev, hlap, hD, nR, eR, hT, k⟩ := h
    rfl
  · obtain ⟨q, c, ns, lap, cl, D0, xs, rfl, hck, hx, l2, l16, ev, hlap, hD, nR, eR, hT, k⟩ := h
    refine ⟨_, (pss_cons (ps_set (i := 7) scLawRefusedRight.nd rfl (Or.inr rfl) (pe_go cLawOne hg (hr.mono (by decide)) (by rfl) (pa_cons (pv 0) (pa_cons (pe_lst (pa_cons pe_non (pa_cons pe_int (pa_cons pe_int (pa_cons pe_int (pa_cons (pe_un un_neg pe_int) (pa_cons pe_bl (pa_cons pe_str (pa_cons (pe_tup (pa_cons pe_int pa_nil)) pa_nil))))))))) pa_nil))))
  (pss_cons (ps_set (i := 5) scLawRefusedRight.nd rfl (Or.inr rfl) (pe_go cLawOne hg (hr.mono (by decide)) (by rfl) (pa_cons (pv 0) (pa_cons (pe_lst (pa_cons pe_non (pa_cons pe_int (pa_cons (pe_lst pa_nil) (pa_cons (pe_slice sl_list (pv 2) (po_some pe_int) po_none) (pa_cons (pe_op op_cat (pv 2) (pe_lst (pa_cons pe_int pa_nil))) (pa_cons (pe_op op_rep (pe_lst (pa_cons pe_int pa_nil)) pe_int) (pa_cons (pe_op op_rep (pe_lst (pa_cons (pv 1) pa_nil)) pe_int) (pa_cons (pe_lst (pa_cons pe_int (pa_cons (pe_un un_neg pe_int) pa_nil))) (pa_cons (pe_lst (pa_cons pe_bl (pa_cons pe_int pa_nil))) (pa_cons (pe_lst (pa_cons pe_int (pa_cons pe_non pa_nil))) (pa_cons pe_str (pa_cons pe_dnewK (pa_cons (pe_lst (pa_cons (pe_lst (pa_cons pe_int pa_nil)) (pa_cons pe_int pa_nil))) (pa_cons (pe_lst (pa_cons pe_int (pa_cons pe_str pa_nil))) pa_nil))))))))))))))) pa_nil))))
  (pss_cons (ps_asg (pe_tup (pa_cons (pe_go cLawOne hg (hr.mono (by decide)) (by rfl) (pa_cons (pv 0) (pa_cons (pe_lst (pa_cons pe_non (pa_cons (pe_un un_neg pe_int) (pa_cons (pe_callB call_len_seq (by rfl) T.z_len PySem.boot_len (pa_cons (pv 2) pa_nil)) (pa_cons pe_bl (pa_cons pe_str (pa_cons (pe_lst (pa_cons pe_int pa_nil)) (pa_cons (pe_op op_pow pe_int pe_int) pa_nil)))))))) pa_nil))) (pa_cons (pe_go cLawOne hg (hr.mono (by decide)) (by rfl) (pa_cons (pv 0) (pa_cons (pe_lst (pa_cons pe_non (pa_cons (pe_un un_neg pe_int) (pa_cons (pv 1) (pa_cons pe_bl (pa_cons pe_str (pa_cons (pe_tup (pa_cons pe_int pa_nil)) pa_nil))))))) pa_nil))) pa_nil))) (pg_tup rfl (pgs_cons (pg_name (i := 6) scLawRefusedRight.nd rfl (Or.inr rfl)) (pgs_cons (pg_name (i := 8) scLawRefusedRight.nd rfl (Or.inr rfl)) pgs_nil))))
  (pss_cons (ps_set (i := 3) scLawRefusedRight.nd rfl (Or.inl rfl) (pe_lst (pa_cons (pe_hear hH T T2 (k := 10) (by rfl) (hr.mono (by decide)) ⟨TB, rfl, hTm, hTo, lamT_by (N := ["carousel", "clock", "row", "heard", "due", "bad", "far", "none", "odd"]) (sc := defScope sLawRefusedRight) (by decide +kernel), lamBinds0, (fun _ z => nomatch z)⟩ (dvs := []) (ps := []) (Or.inl ⟨rfl, rfl⟩) (fun A outer s H E f c' hr2 => (pe_goE cMaySet (hr2.mono (by decide)) (takes_of rfl rfl rfl rfl) (by rfl) (pa_cons (pv 7) (pa_cons (pv 5) (pa_cons (pv 6) pa_nil)))))) (pa_cons (pe_hear hH T T2 (k := 10) (by rfl) (hr.mono (by decide)) ⟨TB, rfl, hTm, hTo, lamT_by (N := ["carousel", "clock", "row", "heard", "due", "bad", "far", "none", "odd"]) (sc := defScope sLawRefusedRight) (by decide +kernel), lamBinds_a1, (fun p (z : p ∈ (["a1"] : List Str)) => (by rw [List.mem_singleton.mp z]; rfl))⟩ (dvs := [.int 0]) (ps := ["a1"]) (Or.inr ⟨_, _, _, rfl, rfl, rfl⟩) (fun A outer s H E f c' hr2 => (pe_goE cMaySet (hr2.mono (by decide)) (takes_of rfl rfl rfl rfl) (by rfl) (pa_cons (pv 1) (pa_cons (pv 5) (pa_cons (pv 6) pa_nil)))))) (pa_cons (pe_hear hH T T2 (k := 10) (by rfl) (hr.mono (by decide)) ⟨TB, rfl, hTm, hTo, lamT_by (N := ["carousel", "clock", "row", "heard", "due", "bad", "far", "none", "odd"]) (sc := defScope sLawRefusedRight) (by decide +kernel), lamBinds_a2, (fun p (z : p ∈ (["a2"] : List Str)) => (by rw [List.mem_singleton.mp z]; rfl))⟩ (dvs := [.int 0]) (ps := ["a2"]) (Or.inr ⟨_, _, _, rfl, rfl, rfl⟩) (fun A outer s H E f c' hr2 => (pe_goE cMaySet (hr2.mono (by decide)) (takes_of rfl rfl rfl rfl) (by rfl) (pa_cons (pv 1) (pa_cons (pv 2) (pa_cons (pv 6) pa_nil)))))) pa_nil)))))
  (pss_cons (ps_set (i := 3) scLawRefusedRight.nd rfl (Or.inl rfl) (pe_op op_cat (pv 3) (pe_lst (pa_cons (pe_hear hH T T2 (k := 10) (by rfl) (hr.mono (by decide)) ⟨TB, rfl, hTm, hTo, lamT_by (N := ["carousel", "clock", "row", "heard", "due", "bad", "far", "none", "odd"]) (sc := defScope sLawRefusedRight) (by decide +kernel), lamBinds0, (fun _ z => nomatch z)⟩ (dvs := []) (ps := []) (Or.inl ⟨rfl, rfl⟩) (fun A outer s H E f c' hr2 => (pe_goE cSetAt (hr2.mono (by decide)) (takes_of rfl rfl rfl rfl) (by rfl) (pa_cons (pv 7) (pa_cons (pv 5) (pa_cons (pv 6) (pa_cons (pv 8) pa_nil))))))) (pa_cons (pe_hear hH T T2 (k := 10) (by rfl) (hr.mono (by decide)) ⟨TB, rfl, hTm, hTo, lamT_by (N := ["carousel", "clock", "row", "heard", "due", "bad", "far", "none", "odd"]) (sc := defScope sLawRefusedRight) (by decide +kernel), lamBinds_a1, (fun p (z : p ∈ (["a1"] : List Str)) => (by rw [List.mem_singleton.mp z]; rfl))⟩ (dvs := [.int 0]) (ps := ["a1"]) (Or.inr ⟨_, _, _, rfl, rfl, rfl⟩) (fun A outer s H E f c' hr2 => (pe_goE cSetAt (hr2.mono (by decide)) (takes_of rfl rfl rfl rfl) (by rfl) (pa_cons (pv 1) (pa_cons (pv 5) (pa_cons (pv 6) (pa_cons (pv 8) pa_nil))))))) (pa_cons (pe_hear hH T T2 (k := 10) (by rfl) (hr.mono (by decide)) ⟨TB, rfl, hTm, hTo, lamT_by (N := ["carousel", "clock", "row", "heard", "due", "bad", "far", "none", "odd"]) (sc := defScope sLawRefusedRight) (by decide +kernel), lamBinds_a2, (fun p (z : p ∈ (["a2"] : List Str)) => (by rw [List.mem_singleton.mp z]; rfl))⟩ (dvs := [.int 0]) (ps := ["a2"]) (Or.inr ⟨_, _, _, rfl, rfl, rfl⟩) (fun A outer s H E f c' hr2 => (pe_goE cSetAt (hr2.mono (by decide)) (takes_of rfl rfl rfl rfl) (by rfl) (pa_cons (pv 1) (pa_cons (pv 2) (pa_cons (pv 6) (pa_cons (pv 8) pa_nil))))))) pa_nil))))))
  (pss_cons (ps_set (i := 3) scLawRefusedRight.nd rfl (Or.inl rfl) (pe_op op_cat (pv 3) (pe_lst (pa_cons (pe_hear hH T T2 (k := 10) (by rfl) (hr.mono (by decide)) ⟨TB, rfl, hTm, hTo, lamT_by (N := ["carousel", "clock", "row", "heard", "due", "bad", "far", "none", "odd"]) (sc := defScope sLawRefusedRight) (by decide +kernel), lamBinds0, (fun _ z => nomatch z)⟩ (dvs := []) (ps := []) (Or.inl ⟨rfl, rfl⟩) (fun A outer s H E f c' hr2 => (pe_goE cSetAt (hr2.mono (by decide)) (takes_of rfl rfl rfl rfl) (by rfl) (pa_cons (pv 1) (pa_cons (pv 2) (pa_cons pe_int (pa_cons (pv 8) pa_nil))))))) (pa_cons (pe_hear hH T T2 (k := 10) (by rfl) (hr.mono (by decide)) ⟨TB, rfl, hTm, hTo, lamT_by (N := ["carousel", "clock", "row", "heard", "due", "bad", "far", "none", "odd"]) (sc := defScope sLawRefusedRight) (by decide +kernel), lamBinds_a1, (fun p (z : p ∈ (["a1"] : List Str)) => (by rw [List.mem_singleton.mp z]; rfl))⟩ (dvs := [.int 0]) (ps := ["a1"]) (Or.inr ⟨_, _, _, rfl, rfl, rfl⟩) (fun A outer s H E f c' hr2 => (pe_goE cSetAt (hr2.mono (by decide)) (takes_of rfl rfl rfl rfl) (by rfl) (pa_cons (pv 1) (pa_cons (pe_op op_rep (pe_lst (pa_cons pe_int pa_nil)) pe_int) (pa_cons pe_int (pa_cons (pv 8) pa_nil))))))) (pa_cons (pe_hear hH T T2 (k := 10) (by rfl) (hr.mono (by decide)) ⟨TB, rfl, hTm, hTo, lamT_by (N := ["carousel", "clock", "row", "heard", "due", "bad", "far", "none", "odd"]) (sc := defScope sLawRefusedRight) (by decide +kernel), lamBinds_a2, (fun p (z : p ∈ (["a2"] : List Str)) => (by rw [List.mem_singleton.mp z]; rfl))⟩ (dvs := [.int 0]) (ps := ["a2"]) (Or.inr ⟨_, _, _, rfl, rfl, rfl⟩) (fun A outer s H E f c' hr2 => (pe_goE cSetAt (hr2.mono (by decide)) (takes_of rfl rfl rfl rfl) (by rfl) (pa_cons (pv 1) (pa_cons (pe_op op_rep (pe_lst (pa_cons pe_int pa_nil)) pe_int) (pa_cons pe_int (pa_cons pe_int pa_nil))))))) pa_nil))))))
  (pss_cons (ps_set (i := 4) scLawRefusedRight.nd rfl (Or.inl rfl) (pe_op op_rep (pe_lst (pa_cons (pe_tup (pa_cons pe_str (pa_cons pe_str pa_nil))) (pa_cons (pe_tup (pa_cons pe_str (pa_cons pe_str pa_nil))) (pa_cons (pe_tup (pa_cons pe_str (pa_cons pe_str pa_nil))) pa_nil)))) pe_int))
  (pss_one (ps_ret (pe_cmpR (op_eqD hr.units) (pv 3) (pe_op op_cat (pe_op op_cat (pv 4) (pe_op op_rep (pe_lst (pa_cons (pe_tup (pa_cons pe_str (pa_cons pe_str pa_nil))) pa_nil)) pe_int)) (pe_lst (pa_cons (pe_tup (pa_cons pe_str (pa_cons pe_str pa_nil))) pa_nil))) (nomark _))))))))))), ?_⟩
    refine r_start (l := [some (.ref q), some (.int cl), some (.ref D0), none, none, none, none, none, none]) rfl ?_
    have ePow : (10 : Int) ^ Int.toNat 20 = 100000000000000000000 := by decide +kernel
    obtain ⟨_, ecl, h3, h31⟩ := clk_int hck
    cases ecl
    walk_at "rds"
    refine ⟨len_ok rfl, fun p1 hp1 => ?_⟩
    generalize hG1 : upd H p1 _ = K1
    obtain ⟨s1, ep1⟩ := neu2 hG1 hp1
    have np1 := dr_neq hD hp1
    replace hT := tabs_same hT s1
    replace eR := s1 _ _ eR
    replace hD := hD.same s1
    clear s1 hG1
    walk_at "rds"
    refine ⟨len_ok rfl, fun p2 hp2 => ?_⟩
    generalize hG2 : upd K1 p2 _ = K2
    obtain ⟨s2, ep2⟩ := neu2 hG2 hp2
    have np2 := dr_neq hD hp2
    replace hT := tabs_same hT s2
    replace eR := s2 _ _ eR
    replace ep1 := s2 _ _ ep1
    replace hD := hD.same s2
    clear s2 hG2
    refine ⟨_, _, _, _, _, _, rfl, SqL.of ep2, Nat.zero_lt_succ _, lt_ok rfl, by omega, np2, hD, fun K3 l3 i3 vn hl3 E3 c3 e3 => ?_⟩
    have pvn := EachP.get (F := (fun v => clk v = false ∧ Any q K2 v)) (.cons ⟨rfl, .non⟩ (.cons ⟨by decide +kernel, .num _⟩ (.cons ⟨by decide +kernel, .num _⟩ (.cons ⟨by decide +kernel, .num _⟩ (.cons ⟨by decide +kernel, .num _⟩ (.cons ⟨rfl, .bl _⟩ (.cons ⟨rfl, .str _⟩ (.cons ⟨rfl, .tup np1 ep1⟩ .nil)))))))) e3
    replace hT := tabs_dr c3 hD hT
    replace eR := c3 _ _ nR eR
    replace ep1 := c3 _ _ np1 ep1
    replace ep2 := c3 _ _ np2 ep2
    obtain ⟨fn, an⟩ := pvn
    replace an := an.but c3
    generalize vn = none_ at *
    clear ep1 ep2
    clear np1 np2
    walk_at "rds"
    refine ⟨len_ok rfl, fun a1 ha1 => ?_⟩
    generalize hG4 : upd K3 a1 _ = K4
    obtain ⟨s4, ea1⟩ := neu2 hG4 ha1
    have na1 := dr_neq E3 ha1
    replace hT := tabs_same hT s4
    replace eR := s4 _ _ eR
    replace an := an.but (same_but s4)
    replace E3 := E3.same s4
    clear s4 hG4
    walk_at "rds"
    have b1 : RimF q K4 (.ref a1) cl false := rimF_lst na1 ea1 (fun _ m => nomatch m) (by show 0 ≤ 1000; decide) rfl
    clear ea1
    refine ⟨_, rfl, ?_⟩
    refine ⟨_, _, rfl, SqL.of eR, ?_⟩
    rw [show (1 : Int) = ((1 : Nat) : Int) from rfl, cut_hiI (by omega)]
    intro a2 ha2
    generalize hG5 : upd K4 a2 _ = K5
    obtain ⟨s5, ea2⟩ := neu2 hG5 ha2
    have na2 := dr_neq E3 ha2
    replace hT := tabs_same hT s5
    replace eR := s5 _ _ eR
    replace an := an.but (same_but s5)
    replace b1 := b1.but (same_but s5)
    replace E3 := E3.same s5
    clear s5 hG5
    walk_at "rds"
    have b2 : RimF q K5 (.ref a2) cl false := rimF_lst na2 ea2 anys_ints (by rw [List.length_map, List.length_drop]; omega) (rim_odd (by rw [List.length_map, List.length_drop]; omega))
    clear ea2
    refine ⟨len_ok rfl, fun a3 ha3 => ?_⟩
    generalize hG6 : upd K5 a3 _ = K6
    obtain ⟨s6, ea3⟩ := neu2 hG6 ha3
    have na3 := dr_neq E3 ha3
    replace hT := tabs_same hT s6
    replace eR := s6 _ _ eR
    replace an := an.but (same_but s6)
    replace b1 := b1.but (same_but s6)
    replace b2 := b2.but (same_but s6)
    replace E3 := E3.same s6
    clear s6 hG6
    refine r_cat (p := a3) eR ea3 (Nat.le_trans (show _ ≤ 1000 by simp only [List.length_map, List.length_cons, List.length_nil]; omega) big1) fun a4 ha4 => ?_
    generalize hG7 : upd K6 a4 _ = K7
    obtain ⟨s7, ea4⟩ := neu2 hG7 ha4
    have na4 := dr_neq E3 ha4
    replace hT := tabs_same hT s7
    replace eR := s7 _ _ eR
    replace ea3 := s7 _ _ ea3
    replace an := an.but (same_but s7)
    replace b1 := b1.but (same_but s7)
    replace b2 := b2.but (same_but s7)
    replace E3 := E3.same s7
    clear s7 hG7
    walk_at "rds"
    have b4 : RimF q K7 (.ref a4) cl false := rimF_lst na4 ea4 (fun x m => (List.mem_append.mp m).elim (fun m => anys_ints (xs := xs) x m) (fun m => by rw [List.mem_singleton.mp m]; exact .num _)) (by rw [List.length_append, List.length_map]; show xs.length + 1 ≤ 1000; omega) (rim_odd (by rw [List.length_append, List.length_map]; show (xs.length + 1) % 2 = 1; omega))
    clear ea3 ea4
    refine ⟨len_ok rfl, fun a5 ha5 => ?_⟩
    generalize hG8 : upd K7 a5 _ = K8
    obtain ⟨s8, ea5⟩ := neu2 hG8 ha5
    have na5 := dr_neq E3 ha5
    replace hT := tabs_same hT s8
    replace eR := s8 _ _ eR
    replace an := an.but (same_but s8)
    replace b1 := b1.but (same_but s8)
    replace b2 := b2.but (same_but s8)
    replace b4 := b4.but (same_but s8)
    replace E3 := E3.same s8
    clear s8 hG8
    walk_at "rds"
    refine ⟨_, _, _, rfl, rfl, ea5, by decide, by decide, le_ok rfl, fun a6 ha6 => ?_⟩
    rw [rep_one]
    generalize hG9 : upd K8 a6 _ = K9
    obtain ⟨s9, ea6⟩ := neu2 hG9 ha6
    have na6 := dr_neq E3 ha6
    replace hT := tabs_same hT s9
    replace eR := s9 _ _ eR
    replace ea5 := s9 _ _ ea5
    replace an := an.but (same_but s9)
    replace b1 := b1.but (same_but s9)
    replace b2 := b2.but (same_but s9)
    replace b4 := b4.but (same_but s9)
    replace E3 := E3.same s9
    clear s9 hG9
    walk_at "rds"
    have b6 : RimF q K9 (.ref a6) cl false := rimF_lst na6 ea6 (fun x m => by rw [List.eq_of_mem_replicate m]; exact .num _) (by rw [List.length_replicate]; decide) (rim_long (by rw [List.length_replicate]; decide))
    clear ea5 ea6
    refine ⟨len_ok rfl, fun a7 ha7 => ?_⟩
    generalize hG10 : upd K9 a7 _ = K10
    obtain ⟨s10, ea7⟩ := neu2 hG10 ha7
    have na7 := dr_neq E3 ha7
    replace hT := tabs_same hT s10
    replace eR := s10 _ _ eR
    replace an := an.but (same_but s10)
    replace b1 := b1.but (same_but s10)
    replace b2 := b2.but (same_but s10)
    replace b4 := b4.but (same_but s10)
    replace b6 := b6.but (same_but s10)
    replace E3 := E3.same s10
    clear s10 hG10
    walk_at "rds"
    refine ⟨_, _, _, rfl, rfl, ea7, by decide, by decide, le_ok rfl, fun a8 ha8 => ?_⟩
    rw [rep_one]
    generalize hG11 : upd K10 a8 _ = K11
    obtain ⟨s11, ea8⟩ := neu2 hG11 ha8
    have na8 := dr_neq E3 ha8
    replace hT := tabs_same hT s11
    replace eR := s11 _ _ eR
    replace ea7 := s11 _ _ ea7
    replace an := an.but (same_but s11)
    replace b1 := b1.but (same_but s11)
    replace b2 := b2.but (same_but s11)
    replace b4 := b4.but (same_but s11)
    replace b6 := b6.but (same_but s11)
    replace E3 := E3.same s11
    clear s11 hG11
    walk_at "rds"
    have b8 : RimF q K11 (.ref a8) cl false := rimF_lst na8 ea8 (fun x m => by rw [List.eq_of_mem_replicate m]; exact .num _) (by rw [List.length_replicate]; decide) (rim_bad (x := .int cl) (List.mem_replicate.mpr ⟨by decide, rfl⟩) (inB_out (by omega)))
    clear ea7 ea8
    refine ⟨len_ok rfl, fun a9 ha9 => ?_⟩
    generalize hG12 : upd K11 a9 _ = K12
    obtain ⟨s12, ea9⟩ := neu2 hG12 ha9
    have na9 := dr_neq E3 ha9
    replace hT := tabs_same hT s12
    replace eR := s12 _ _ eR
    replace an := an.but (same_but s12)
    replace b1 := b1.but (same_but s12)
    replace b2 := b2.but (same_but s12)
    replace b4 := b4.but (same_but s12)
    replace b6 := b6.but (same_but s12)
    replace b8 := b8.but (same_but s12)
    replace E3 := E3.same s12
    clear s12 hG12
    walk_at "rds"
    have ba9 : RimF q K12 (.ref a9) cl false := rimF_lst na9 ea9 (fun x m => by simp only [List.mem_cons, List.not_mem_nil, or_false] at m; rcases m with rfl | rfl; exact .num _; exact .num _) (by show 2 ≤ 1000; decide) (rim_bad (x := .int (-1)) (by simp) (inB_out (by omega)))
    clear ea9
    refine ⟨len_ok rfl, fun aa haa => ?_⟩
    generalize hG13 : upd K12 aa _ = K13
    obtain ⟨s13, eaa⟩ := neu2 hG13 haa
    have naa := dr_neq E3 haa
    replace hT := tabs_same hT s13
    replace eR := s13 _ _ eR
    replace an := an.but (same_but s13)
    replace b1 := b1.but (same_but s13)
    replace b2 := b2.but (same_but s13)
    replace b4 := b4.but (same_but s13)
    replace b6 := b6.but (same_but s13)
    replace b8 := b8.but (same_but s13)
    replace ba9 := ba9.but (same_but s13)
    replace E3 := E3.same s13
    clear s13 hG13
    walk_at "rds"
    have baa : RimF q K13 (.ref aa) cl false := rimF_lst naa eaa (fun x m => by simp only [List.mem_cons, List.not_mem_nil, or_false] at m; rcases m with rfl | rfl; exact .bl _; exact .num _) (by show 2 ≤ 1000; decide) (rim_bad (x := .bl true) (by simp) (rfl))
    clear eaa
    refine ⟨len_ok rfl, fun ab hab => ?_⟩
    generalize hG14 : upd K13 ab _ = K14
    obtain ⟨s14, eab⟩ := neu2 hG14 hab
    have nab := dr_neq E3 hab
    replace hT := tabs_same hT s14
    replace eR := s14 _ _ eR
    replace an := an.but (same_but s14)
    replace b1 := b1.but (same_but s14)
    replace b2 := b2.but (same_but s14)
    replace b4 := b4.but (same_but s14)
    replace b6 := b6.but (same_but s14)
    replace b8 := b8.but (same_but s14)
    replace ba9 := ba9.but (same_but s14)
    replace baa := baa.but (same_but s14)
    replace E3 := E3.same s14
    clear s14 hG14
    walk_at "rds"
    have bab : RimF q K14 (.ref ab) cl false := rimF_lst nab eab (fun x m => by simp only [List.mem_cons, List.not_mem_nil, or_false] at m; rcases m with rfl | rfl; exact .num _; exact .non) (by show 2 ≤ 1000; decide) (rim_bad (x := .non) (by simp) (rfl))
    clear eab
    refine r_dnew fun ac hac => ?_
    generalize hG15 : upd K14 ac _ = K15
    obtain ⟨s15, eac⟩ := neu2 hG15 hac
    have nac := dr_neq E3 hac
    replace hT := tabs_same hT s15
    replace eR := s15 _ _ eR
    replace an := an.but (same_but s15)
    replace b1 := b1.but (same_but s15)
    replace b2 := b2.but (same_but s15)
    replace b4 := b4.but (same_but s15)
    replace b6 := b6.but (same_but s15)
    replace b8 := b8.but (same_but s15)
    replace ba9 := ba9.but (same_but s15)
    replace baa := baa.but (same_but s15)
    replace bab := bab.but (same_but s15)
    replace E3 := E3.same s15
    clear s15 hG15
    walk_at "rds"
    have bac : RimF q K15 (.ref ac) cl false := rimF_none (.dic nac eac)
    clear eac
    refine ⟨len_ok rfl, fun ad1 had1 => ?_⟩
    generalize hG16 : upd K15 ad1 _ = K16
    obtain ⟨s16, ead1⟩ := neu2 hG16 had1
    have nad1 := dr_neq E3 had1
    replace hT := tabs_same hT s16
    replace eR := s16 _ _ eR
    replace an := an.but (same_but s16)
    replace b1 := b1.but (same_but s16)
    replace b2 := b2.but (same_but s16)
    replace b4 := b4.but (same_but s16)
    replace b6 := b6.but (same_but s16)
    replace b8 := b8.but (same_but s16)
    replace ba9 := ba9.but (same_but s16)
    replace baa := baa.but (same_but s16)
    replace bab := bab.but (same_but s16)
    replace bac := bac.but (same_but s16)
    replace E3 := E3.same s16
    clear s16 hG16
    walk_at "rds"
    refine ⟨len_ok rfl, fun ae hae => ?_⟩
    generalize hG17 : upd K16 ae _ = K17
    obtain ⟨s17, eae⟩ := neu2 hG17 hae
    have nae := dr_neq E3 hae
    replace hT := tabs_same hT s17
    replace eR := s17 _ _ eR
    replace ead1 := s17 _ _ ead1
    replace an := an.but (same_but s17)
    replace b1 := b1.but (same_but s17)
    replace b2 := b2.but (same_but s17)
    replace b4 := b4.but (same_but s17)
    replace b6 := b6.but (same_but s17)
    replace b8 := b8.but (same_but s17)
    replace ba9 := ba9.but (same_but s17)
    replace baa := baa.but (same_but s17)
    replace bab := bab.but (same_but s17)
    replace bac := bac.but (same_but s17)
    replace E3 := E3.same s17
    clear s17 hG17
    walk_at "rds"
    have bae : RimF q K17 (.ref ae) cl false := rimF_lst nae eae (fun x m => by simp only [List.mem_cons, List.not_mem_nil, or_false] at m; rcases m with rfl | rfl; exact .lst nad1 ead1; exact .num _) (by show 2 ≤ 1000; decide) (rim_bad (x := .ref ad1) (by simp) rfl)
    clear ead1 eae
    refine ⟨len_ok rfl, fun af haf => ?_⟩
    generalize hG18 : upd K17 af _ = K18
    obtain ⟨s18, eaf⟩ := neu2 hG18 haf
    have naf := dr_neq E3 haf
    replace hT := tabs_same hT s18
    replace eR := s18 _ _ eR
    replace an := an.but (same_but s18)
    replace b1 := b1.but (same_but s18)
    replace b2 := b2.but (same_but s18)
    replace b4 := b4.but (same_but s18)
    replace b6 := b6.but (same_but s18)
    replace b8 := b8.but (same_but s18)
    replace ba9 := ba9.but (same_but s18)
    replace baa := baa.but (same_but s18)
    replace bab := bab.but (same_but s18)
    replace bac := bac.but (same_but s18)
    replace bae := bae.but (same_but s18)
    replace E3 := E3.same s18
    clear s18 hG18
    walk_at "rds"
    have baf : RimF q K18 (.ref af) cl false := rimF_lst naf eaf (fun x m => by simp only [List.mem_cons, List.not_mem_nil, or_false] at m; rcases m with rfl | rfl; exact .num _; exact .str _) (by show 2 ≤ 1000; decide) (rim_bad (x := .str "1") (by simp) (rfl))
    clear eaf
    refine ⟨len_ok rfl, fun pB hpB => ?_⟩
    generalize hG19 : upd K18 pB _ = K19
    obtain ⟨s19, epB⟩ := neu2 hG19 hpB
    have npB := dr_neq E3 hpB
    replace hT := tabs_same hT s19
    replace eR := s19 _ _ eR
    replace an := an.but (same_but s19)
    replace b1 := b1.but (same_but s19)
    replace b2 := b2.but (same_but s19)
    replace b4 := b4.but (same_but s19)
    replace b6 := b6.but (same_but s19)
    replace b8 := b8.but (same_but s19)
    replace ba9 := ba9.but (same_but s19)
    replace baa := baa.but (same_but s19)
    replace bab := bab.but (same_but s19)
    replace bac := bac.but (same_but s19)
    replace bae := bae.but (same_but s19)
    replace baf := baf.but (same_but s19)
    replace E3 := E3.same s19
    clear s19 hG19
    refine ⟨_, _, _, _, _, _, rfl, SqL.of epB, Nat.zero_lt_succ _, lt_ok rfl, by omega, npB, E3, fun K20 l20 i20 vb hl20 E20 c20 e20 => ?_⟩
    have pvb := EachP.get (F := (fun v => RimF q K19 v cl false)) (.cons (rimF_none .non) (.cons (rimF_none (.num _)) (.cons b1 (.cons b2 (.cons b4 (.cons b6 (.cons b8 (.cons ba9 (.cons baa (.cons bab (.cons (rimF_none (.str _)) (.cons bac (.cons bae (.cons baf .nil)))))))))))))) e20
    replace hT := tabs_dr c20 E3 hT
    replace eR := c20 _ _ nR eR
    replace epB := c20 _ _ npB epB
    replace an := an.but c20
    replace b1 := b1.but c20
    replace b2 := b2.but c20
    replace b4 := b4.but c20
    replace b6 := b6.but c20
    replace b8 := b8.but c20
    replace ba9 := ba9.but c20
    replace baa := baa.but c20
    replace bab := bab.but c20
    replace bac := bac.but c20
    replace bae := bae.but c20
    replace baf := baf.but c20
    replace pvb := pvb.but c20
    generalize vb = bad_ at *
    clear b1 b2 b4 b6 b8 ba9 baa bab bac bae baf
    clear epB
    walk_at "rds"
    refine ⟨_, _, rfl, .inl (SqL.of eR), ?_⟩
    rw [List.length_map]
    walk_at "rds"
    refine ⟨len_ok rfl, fun f1 hf1 => ?_⟩
    generalize hG21 : upd K20 f1 _ = K21
    obtain ⟨s21, ef1⟩ := neu2 hG21 hf1
    have nf1 := dr_neq E20 hf1
    replace hT := tabs_same hT s21
    replace eR := s21 _ _ eR
    replace an := an.but (same_but s21)
    replace pvb := pvb.but (same_but s21)
    replace E20 := E20.same s21
    clear s21 hG21
    walk_at "rds"
    refine r_I ⟨by decide, by decide, by decide⟩ ?_
    rw [ePow]
    walk_at "rds"
    refine ⟨len_ok rfl, fun f2 hf2 => ?_⟩
    generalize hG22 : upd K21 f2 _ = K22
    obtain ⟨s22, ef2⟩ := neu2 hG22 hf2
    have nf2 := dr_neq E20 hf2
    replace hT := tabs_same hT s22
    replace eR := s22 _ _ eR
    replace ef1 := s22 _ _ ef1
    replace an := an.but (same_but s22)
    replace pvb := pvb.but (same_but s22)
    replace E20 := E20.same s22
    clear s22 hG22
    refine ⟨_, _, _, _, _, _, rfl, SqL.of ef2, Nat.zero_lt_succ _, lt_ok rfl, by omega, nf2, E20, fun K23 l23 i23 vf hl23 E23 c23 e23 => ?_⟩
    have pvf := EachP.get (F := (fun v => inB v (some 0) (some ((xs.length : Int) - 1)) = false ∧ Any q K22 v)) (.cons ⟨rfl, .non⟩ (.cons ⟨inB_out (by omega), .num _⟩ (.cons ⟨inB_out (by omega), .num _⟩ (.cons ⟨rfl, .bl _⟩ (.cons ⟨rfl, .str _⟩ (.cons ⟨rfl, .lst nf1 ef1⟩ (.cons ⟨inB_out (by omega), .num _⟩ .nil))))))) e23
    replace hT := tabs_dr c23 E20 hT
    replace eR := c23 _ _ nR eR
    replace ef1 := c23 _ _ nf1 ef1
    replace ef2 := c23 _ _ nf2 ef2
    replace an := an.but c23
    replace pvb := pvb.but c23
    obtain ⟨ff, af⟩ := pvf
    replace af := af.but c23
    generalize vf = far_ at *
    clear ef1 ef2
    walk_at "rds"
    refine ⟨len_ok rfl, fun g1 hg1 => ?_⟩
    generalize hG24 : upd K23 g1 _ = K24
    obtain ⟨s24, eg1⟩ := neu2 hG24 hg1
    have ng1 := dr_neq E23 hg1
    replace hT := tabs_same hT s24
    replace eR := s24 _ _ eR
    replace an := an.but (same_but s24)
    replace pvb := pvb.but (same_but s24)
    replace af := af.but (same_but s24)
    replace E23 := E23.same s24
    clear s24 hG24
    walk_at "rds"
    refine ⟨len_ok rfl, fun g2 hg2 => ?_⟩
    generalize hG25 : upd K24 g2 _ = K25
    obtain ⟨s25, eg2⟩ := neu2 hG25 hg2
    have ng2 := dr_neq E23 hg2
    replace hT := tabs_same hT s25
    replace eR := s25 _ _ eR
    replace eg1 := s25 _ _ eg1
    replace an := an.but (same_but s25)
    replace pvb := pvb.but (same_but s25)
    replace af := af.but (same_but s25)
    replace E23 := E23.same s25
    clear s25 hG25
    refine ⟨_, _, _, _, _, _, rfl, SqL.of eg2, Nat.zero_lt_succ _, lt_ok rfl, by omega, ng2, E23, fun K26 l26 i26 vo hl26 E26 c26 e26 => ?_⟩
    have pvo := EachP.get (F := (fun v => inB v (some 0) (some (cl - 1)) = false ∧ Any q K25 v)) (.cons ⟨rfl, .non⟩ (.cons ⟨inB_out (by omega), .num _⟩ (.cons ⟨inB_out (by omega), .num _⟩ (.cons ⟨rfl, .bl _⟩ (.cons ⟨rfl, .str _⟩ (.cons ⟨rfl, .tup ng1 eg1⟩ .nil)))))) e26
    replace hT := tabs_dr c26 E23 hT
    replace eR := c26 _ _ nR eR
    replace eg1 := c26 _ _ ng1 eg1
    replace eg2 := c26 _ _ ng2 eg2
    replace an := an.but c26
    replace pvb := pvb.but c26
    replace af := af.but c26
    obtain ⟨fo, ao⟩ := pvo
    replace ao := ao.but c26
    generalize vo = odd_ at *
    clear eg1 eg2
    walk_at "rds"
    refine ⟨len_ok rfl, fun pt hpt => ?_⟩
    generalize hG27 : upd K26 pt _ = K27
    obtain ⟨s27, ept⟩ := neu2 hG27 hpt
    have npt := dr_neq E26 hpt
    replace hT := tabs_same hT s27
    replace eR := s27 _ _ eR
    replace an := an.but (same_but s27)
    replace pvb := pvb.but (same_but s27)
    replace af := af.but (same_but s27)
    replace ao := ao.but (same_but s27)
    replace E26 := E26.same s27
    clear s27 hG27
    walk_at "rds"
    refine r_gtup ⟨_, _, rfl, SqT.of ept, rfl, ?_⟩
    refine ⟨_, _, rfl, ?_⟩
    walk_at "rds"
    refine ⟨_, _, rfl, ?_⟩
    walk_at "rds"
    refine ⟨rfl, ?_⟩
    clear ept
    walk_at "rds"
    have rR : RowV q K27 (.ref D0) (some (xs.map V.int)) := rowV_lst nR eR
    walk_at "rds"
    refine ⟨hT, fun X28 x28 t28 => ?_⟩
    refine ⟨_, _, ?_, fun _ _ h => h, fun _ _ _ h => h⟩
    walk_at "rds"
    refine may_clock (q := q) (an.ext x28) fn (pvb.ext x28) (af.ext x28) fun Y28 w0 u28 tw0 => ?_
    have y28 := ext_same x28 u28
    replace hT := tabs_same t28 u28
    replace eR := y28 _ _ eR (fun _ z => by cases z)
    replace an := an.ext y28
    replace pvb := pvb.ext y28
    replace af := af.ext y28
    replace ao := ao.ext y28
    replace rR := rR.ext y28
    replace E26 := dr_ext E26 y28
    clear y28 u28 x28 t28
    walk_at "rds"
    refine ⟨hT, fun X29 x29 t29 => ?_⟩
    refine ⟨_, _, ?_, fun _ _ h => h, fun _ _ _ h => h⟩
    walk_at "rds"
    refine may_row (q := q) hck (pvb.ext x29) (af.ext x29) fun Y29 w1 u29 tw1 => ?_
    have y29 := ext_same x29 u29
    replace hT := tabs_same t29 u29
    replace eR := y29 _ _ eR (fun _ z => by cases z)
    replace an := an.ext y29
    replace pvb := pvb.ext y29
    replace af := af.ext y29
    replace ao := ao.ext y29
    replace rR := rR.ext y29
    replace tw0 := tw0.ext y29
    replace E26 := dr_ext E26 y29
    clear y29 u29 x29 t29
    walk_at "rds"
    refine ⟨hT, fun X30 x30 t30 => ?_⟩
    refine ⟨_, _, ?_, fun _ _ h => h, fun _ _ _ h => h⟩
    walk_at "rds"
    refine may_gap (q := q) hck hx l2 l16 ev (rR.ext x30) (af.ext x30) ff fun Y30 w2 u30 tw2 => ?_
    have y30 := ext_same x30 u30
    replace hT := tabs_same t30 u30
    replace eR := y30 _ _ eR (fun _ z => by cases z)
    replace an := an.ext y30
    replace pvb := pvb.ext y30
    replace af := af.ext y30
    replace ao := ao.ext y30
    replace rR := rR.ext y30
    replace tw0 := tw0.ext y30
    replace tw1 := tw1.ext y30
    replace E26 := dr_ext E26 y30
    clear y30 u30 x30 t30
    walk_at "rds"
    refine ⟨len_ok rfl, fun h1 hh1 => ?_⟩
    generalize hG31 : upd Y30 h1 _ = K31
    obtain ⟨s31, eh1⟩ := neu2 hG31 hh1
    have nh1 := dr_neq E26 hh1
    replace hT := tabs_same hT s31
    replace eR := s31 _ _ eR
    replace an := an.but (same_but s31)
    replace pvb := pvb.but (same_but s31)
    replace af := af.but (same_but s31)
    replace ao := ao.but (same_but s31)
    replace rR := rR.but (same_but s31)
    replace tw0 := tw0.ext (ExtN.of s31)
    replace tw1 := tw1.ext (ExtN.of s31)
    replace tw2 := tw2.ext (ExtN.of s31)
    replace E26 := E26.same s31
    clear s31 hG31
    walk_at "rds"
    walk_at "rds"
    refine ⟨hT, fun X32 x32 t32 => ?_⟩
    refine ⟨_, _, ?_, fun _ _ h => h, fun _ _ _ h => h⟩
    walk_at "rds"
    refine set_clock (q := q) (an.ext x32) fn (pvb.ext x32) (af.ext x32) (ao.ext x32) fun Y32 w3 u32 tw3 => ?_
    have y32 := ext_same x32 u32
    replace hT := tabs_same t32 u32
    replace eR := y32 _ _ eR (fun _ z => by cases z)
    replace eh1 := y32 _ _ eh1 (fun _ z => by cases z)
    replace an := an.ext y32
    replace pvb := pvb.ext y32
    replace af := af.ext y32
    replace ao := ao.ext y32
    replace rR := rR.ext y32
    replace tw0 := tw0.ext y32
    replace tw1 := tw1.ext y32
    replace tw2 := tw2.ext y32
    replace E26 := dr_ext E26 y32
    clear y32 u32 x32 t32
    walk_at "rds"
    refine ⟨hT, fun X33 x33 t33 => ?_⟩
    refine ⟨_, _, ?_, fun _ _ h => h, fun _ _ _ h => h⟩
    walk_at "rds"
    refine set_row (q := q) hck (pvb.ext x33) (af.ext x33) (ao.ext x33) fun Y33 w4 u33 tw4 => ?_
    have y33 := ext_same x33 u33
    replace hT := tabs_same t33 u33
    replace eR := y33 _ _ eR (fun _ z => by cases z)
    replace eh1 := y33 _ _ eh1 (fun _ z => by cases z)
    replace an := an.ext y33
    replace pvb := pvb.ext y33
    replace af := af.ext y33
    replace ao := ao.ext y33
    replace rR := rR.ext y33
    replace tw0 := tw0.ext y33
    replace tw1 := tw1.ext y33
    replace tw2 := tw2.ext y33
    replace tw3 := tw3.ext y33
    replace E26 := dr_ext E26 y33
    clear y33 u33 x33 t33
    walk_at "rds"
    refine ⟨hT, fun X34 x34 t34 => ?_⟩
    refine ⟨_, _, ?_, fun _ _ h => h, fun _ _ _ h => h⟩
    walk_at "rds"
    refine set_gap (q := q) hck hx l2 l16 ev (rR.ext x34) (af.ext x34) (ao.ext x34) ff fun Y34 w5 u34 tw5 => ?_
    have y34 := ext_same x34 u34
    replace hT := tabs_same t34 u34
    replace eR := y34 _ _ eR (fun _ z => by cases z)
    replace eh1 := y34 _ _ eh1 (fun _ z => by cases z)
    replace an := an.ext y34
    replace pvb := pvb.ext y34
    replace af := af.ext y34
    replace ao := ao.ext y34
    replace rR := rR.ext y34
    replace tw0 := tw0.ext y34
    replace tw1 := tw1.ext y34
    replace tw2 := tw2.ext y34
    replace tw3 := tw3.ext y34
    replace tw4 := tw4.ext y34
    replace E26 := dr_ext E26 y34
    clear y34 u34 x34 t34
    walk_at "rds"
    refine ⟨len_ok rfl, fun h2 hh2 => ?_⟩
    generalize hG35 : upd Y34 h2 _ = K35
    obtain ⟨s35, eh2⟩ := neu2 hG35 hh2
    have nh2 := dr_neq E26 hh2
    replace hT := tabs_same hT s35
    replace eR := s35 _ _ eR
    replace eh1 := s35 _ _ eh1
    replace an := an.but (same_but s35)
    replace pvb := pvb.but (same_but s35)
    replace af := af.but (same_but s35)
    replace ao := ao.but (same_but s35)
    replace rR := rR.but (same_but s35)
    replace tw0 := tw0.ext (ExtN.of s35)
    replace tw1 := tw1.ext (ExtN.of s35)
    replace tw2 := tw2.ext (ExtN.of s35)
    replace tw3 := tw3.ext (ExtN.of s35)
    replace tw4 := tw4.ext (ExtN.of s35)
    replace tw5 := tw5.ext (ExtN.of s35)
    replace E26 := E26.same s35
    clear s35 hG35
    refine r_cat (p := h1) eh1 eh2 (le_ok rfl) fun h3 hh3 => ?_
    generalize hG36 : upd K35 h3 _ = K36
    obtain ⟨s36, eh3⟩ := neu2 hG36 hh3
    have nh3 := dr_neq E26 hh3
    replace hT := tabs_same hT s36
    replace eR := s36 _ _ eR
    replace eh1 := s36 _ _ eh1
    replace eh2 := s36 _ _ eh2
    replace an := an.but (same_but s36)
    replace pvb := pvb.but (same_but s36)
    replace af := af.but (same_but s36)
    replace ao := ao.but (same_but s36)
    replace rR := rR.but (same_but s36)
    replace tw0 := tw0.ext (ExtN.of s36)
    replace tw1 := tw1.ext (ExtN.of s36)
    replace tw2 := tw2.ext (ExtN.of s36)
    replace tw3 := tw3.ext (ExtN.of s36)
    replace tw4 := tw4.ext (ExtN.of s36)
    replace tw5 := tw5.ext (ExtN.of s36)
    replace E26 := E26.same s36
    clear s36 hG36
    clear eh1 eh2
    walk_at "rds"
    walk_at "rds"
    refine ⟨hT, fun X37 x37 t37 => ?_⟩
    refine ⟨_, _, ?_, fun _ _ h => h, fun _ _ _ h => h⟩
    walk_at "rds"
    refine set_number (q := q) (i := 0) hck hx l2 l16 ev (rR.ext x37) (ao.ext x37) (by omega) fo fun Y37 w6 u37 tw6 => ?_
    have y37 := ext_same x37 u37
    replace hT := tabs_same t37 u37
    replace eR := y37 _ _ eR (fun _ z => by cases z)
    replace eh3 := y37 _ _ eh3 (fun _ z => by cases z)
    replace an := an.ext y37
    replace pvb := pvb.ext y37
    replace af := af.ext y37
    replace ao := ao.ext y37
    replace rR := rR.ext y37
    replace tw0 := tw0.ext y37
    replace tw1 := tw1.ext y37
    replace tw2 := tw2.ext y37
    replace tw3 := tw3.ext y37
    replace tw4 := tw4.ext y37
    replace tw5 := tw5.ext y37
    replace E26 := dr_ext E26 y37
    clear y37 u37 x37 t37
    walk_at "rds"
    refine ⟨hT, fun X38 x38 t38 => ?_⟩
    refine ⟨_, _, ?_, fun _ _ h => h, fun _ _ _ h => h⟩
    walk_at "rds"
    refine ⟨len_ok rfl, fun za hza => ?_⟩
    generalize hGa : upd X38 za _ = Xa
    obtain ⟨sa, eza⟩ := neu2 hGa hza
    have nza := dr_neq (dr_ext E26 x38) hza
    clear hGa
    walk_at "rds"
    refine ⟨_, _, _, rfl, rfl, eza, by decide, by decide, le_ok rfl, fun zb hzb => ?_⟩
    rw [rep_one]
    generalize hGb : upd Xa zb _ = Xb
    obtain ⟨sb, ezb⟩ := neu2 hGb hzb
    have nzb := dr_neq ((dr_ext E26 x38).same sa) hzb
    clear hGb
    walk_at "rds"
    have ab := sa.trans sb
    replace ezb : Xb zb = some (.lst (([0, 0, 0, 0] : List Int).map V.int)) := ezb
    have xab := ext_same x38 ab
    have r4 : RowV q Xb (.ref zb) (some (([0, 0, 0, 0] : List Int).map V.int)) := rowV_lst nzb ezb
    have x4 : ∀ x ∈ ([0, 0, 0, 0] : List Int), 0 ≤ x ∧ x < cl := fun x m => by simp only [List.mem_cons, List.not_mem_nil, or_false] at m; rcases m with rfl | rfl | rfl | rfl <;> omega
    refine set_number (q := q) (i := 3) hck x4 (by decide) (by decide) rfl r4 (ao.ext xab) (by decide) fo fun Y38 w7 u38 tw7 => ?_
    have y38 := ext_same xab u38
    replace hT := tabs_same (tabs_same t38 ab) u38
    replace eR := y38 _ _ eR (fun _ z => by cases z)
    replace eh3 := y38 _ _ eh3 (fun _ z => by cases z)
    replace an := an.ext y38
    replace pvb := pvb.ext y38
    replace af := af.ext y38
    replace ao := ao.ext y38
    replace rR := rR.ext y38
    replace tw0 := tw0.ext y38
    replace tw1 := tw1.ext y38
    replace tw2 := tw2.ext y38
    replace tw3 := tw3.ext y38
    replace tw4 := tw4.ext y38
    replace tw5 := tw5.ext y38
    replace tw6 := tw6.ext y38
    replace E26 := dr_ext E26 y38
    clear y38 u38 x38 t38 xab ab sa sb r4 eza ezb hza hzb nza nzb
    walk_at "rds"
    refine ⟨hT, fun X39 x39 t39 => ?_⟩
    refine ⟨_, _, ?_, fun _ _ h => h, fun _ _ _ h => h⟩
    walk_at "rds"
    refine ⟨len_ok rfl, fun za hza => ?_⟩
    generalize hGa : upd X39 za _ = Xa
    obtain ⟨sa, eza⟩ := neu2 hGa hza
    have nza := dr_neq (dr_ext E26 x39) hza
    clear hGa
    walk_at "rds"
    refine ⟨_, _, _, rfl, rfl, eza, by decide, by decide, le_ok rfl, fun zb hzb => ?_⟩
    rw [rep_one]
    generalize hGb : upd Xa zb _ = Xb
    obtain ⟨sb, ezb⟩ := neu2 hGb hzb
    have nzb := dr_neq ((dr_ext E26 x39).same sa) hzb
    clear hGb
    walk_at "rds"
    have ab := sa.trans sb
    replace ezb : Xb zb = some (.lst (([0, 0, 0, 0] : List Int).map V.int)) := ezb
    have xab := ext_same x39 ab
    have r4 : RowV q Xb (.ref zb) (some (([0, 0, 0, 0] : List Int).map V.int)) := rowV_lst nzb ezb
    have x4 : ∀ x ∈ ([0, 0, 0, 0] : List Int), 0 ≤ x ∧ x < cl := fun x m => by simp only [List.mem_cons, List.not_mem_nil, or_false] at m; rcases m with rfl | rfl | rfl | rfl <;> omega
    refine set_misfit (q := q) (i := 3) hck x4 (by decide) (by decide) rfl r4 (by decide) (by decide) (by omega) step_const fun Y39 w8 u39 tw8 => ?_
    have y39 := ext_same xab u39
    replace hT := tabs_same (tabs_same t39 ab) u39
    replace eR := y39 _ _ eR (fun _ z => by cases z)
    replace eh3 := y39 _ _ eh3 (fun _ z => by cases z)
    replace an := an.ext y39
    replace pvb := pvb.ext y39
    replace af := af.ext y39
    replace ao := ao.ext y39
    replace rR := rR.ext y39
    replace tw0 := tw0.ext y39
    replace tw1 := tw1.ext y39
    replace tw2 := tw2.ext y39
    replace tw3 := tw3.ext y39
    replace tw4 := tw4.ext y39
    replace tw5 := tw5.ext y39
    replace tw6 := tw6.ext y39
    replace tw7 := tw7.ext y39
    replace E26 := dr_ext E26 y39
    clear y39 u39 x39 t39 xab ab sa sb r4 eza ezb hza hzb nza nzb
    walk_at "rds"
    refine ⟨len_ok rfl, fun h4 hh4 => ?_⟩
    generalize hG40 : upd Y39 h4 _ = K40
    obtain ⟨s40, eh4⟩ := neu2 hG40 hh4
    have nh4 := dr_neq E26 hh4
    replace hT := tabs_same hT s40
    replace eR := s40 _ _ eR
    replace eh3 := s40 _ _ eh3
    replace an := an.but (same_but s40)
    replace pvb := pvb.but (same_but s40)
    replace af := af.but (same_but s40)
    replace ao := ao.but (same_but s40)
    replace rR := rR.but (same_but s40)
    replace tw0 := tw0.ext (ExtN.of s40)
    replace tw1 := tw1.ext (ExtN.of s40)
    replace tw2 := tw2.ext (ExtN.of s40)
    replace tw3 := tw3.ext (ExtN.of s40)
    replace tw4 := tw4.ext (ExtN.of s40)
    replace tw5 := tw5.ext (ExtN.of s40)
    replace tw6 := tw6.ext (ExtN.of s40)
    replace tw7 := tw7.ext (ExtN.of s40)
    replace tw8 := tw8.ext (ExtN.of s40)
    replace E26 := E26.same s40
    clear s40 hG40
    refine r_cat (p := h3) eh3 eh4 (le_ok rfl) fun h5 hh5 => ?_
    generalize hG41 : upd K40 h5 _ = K41
    obtain ⟨s41, eh5⟩ := neu2 hG41 hh5
    have nh5 := dr_neq E26 hh5
    replace hT := tabs_same hT s41
    replace eR := s41 _ _ eR
    replace eh3 := s41 _ _ eh3
    replace eh4 := s41 _ _ eh4
    replace an := an.but (same_but s41)
    replace pvb := pvb.but (same_but s41)
    replace af := af.but (same_but s41)
    replace ao := ao.but (same_but s41)
    replace rR := rR.but (same_but s41)
    replace tw0 := tw0.ext (ExtN.of s41)
    replace tw1 := tw1.ext (ExtN.of s41)
    replace tw2 := tw2.ext (ExtN.of s41)
    replace tw3 := tw3.ext (ExtN.of s41)
    replace tw4 := tw4.ext (ExtN.of s41)
    replace tw5 := tw5.ext (ExtN.of s41)
    replace tw6 := tw6.ext (ExtN.of s41)
    replace tw7 := tw7.ext (ExtN.of s41)
    replace tw8 := tw8.ext (ExtN.of s41)
    replace E26 := E26.same s41
    clear s41 hG41
    clear eh3 eh4
    walk_at "rds"
    refine ⟨len_ok rfl, fun d1 hd1 => ?_⟩
    generalize hG42 : upd K41 d1 _ = K42
    obtain ⟨s42, ed1⟩ := neu2 hG42 hd1
    have nd1 := dr_neq E26 hd1
    replace hT := tabs_same hT s42
    replace eR := s42 _ _ eR
    replace eh5 := s42 _ _ eh5
    replace an := an.but (same_but s42)
    replace pvb := pvb.but (same_but s42)
    replace af := af.but (same_but s42)
    replace ao := ao.but (same_but s42)
    replace rR := rR.but (same_but s42)
    replace tw0 := tw0.ext (ExtN.of s42)
    replace tw1 := tw1.ext (ExtN.of s42)
    replace tw2 := tw2.ext (ExtN.of s42)
    replace tw3 := tw3.ext (ExtN.of s42)
    replace tw4 := tw4.ext (ExtN.of s42)
    replace tw5 := tw5.ext (ExtN.of s42)
    replace tw6 := tw6.ext (ExtN.of s42)
    replace tw7 := tw7.ext (ExtN.of s42)
    replace tw8 := tw8.ext (ExtN.of s42)
    replace E26 := E26.same s42
    clear s42 hG42
    walk_at "rds"
    refine ⟨len_ok rfl, fun d2 hd2 => ?_⟩
    generalize hG43 : upd K42 d2 _ = K43
    obtain ⟨s43, ed2⟩ := neu2 hG43 hd2
    have nd2 := dr_neq E26 hd2
    replace hT := tabs_same hT s43
    replace eR := s43 _ _ eR
    replace eh5 := s43 _ _ eh5
    replace ed1 := s43 _ _ ed1
    replace an := an.but (same_but s43)
    replace pvb := pvb.but (same_but s43)
    replace af := af.but (same_but s43)
    replace ao := ao.but (same_but s43)
    replace rR := rR.but (same_but s43)
    replace tw0 := tw0.ext (ExtN.of s43)
    replace tw1 := tw1.ext (ExtN.of s43)
    replace tw2 := tw2.ext (ExtN.of s43)
    replace tw3 := tw3.ext (ExtN.of s43)
    replace tw4 := tw4.ext (ExtN.of s43)
    replace tw5 := tw5.ext (ExtN.of s43)
    replace tw6 := tw6.ext (ExtN.of s43)
    replace tw7 := tw7.ext (ExtN.of s43)
    replace tw8 := tw8.ext (ExtN.of s43)
    replace E26 := E26.same s43
    clear s43 hG43
    walk_at "rds"
    refine ⟨len_ok rfl, fun d3 hd3 => ?_⟩
    generalize hG44 : upd K43 d3 _ = K44
    obtain ⟨s44, ed3⟩ := neu2 hG44 hd3
    have nd3 := dr_neq E26 hd3
    replace hT := tabs_same hT s44
    replace eR := s44 _ _ eR
    replace eh5 := s44 _ _ eh5
    replace ed1 := s44 _ _ ed1
    replace ed2 := s44 _ _ ed2
    replace an := an.but (same_but s44)
    replace pvb := pvb.but (same_but s44)
    replace af := af.but (same_but s44)
    replace ao := ao.but (same_but s44)
    replace rR := rR.but (same_but s44)
    replace tw0 := tw0.ext (ExtN.of s44)
    replace tw1 := tw1.ext (ExtN.of s44)
    replace tw2 := tw2.ext (ExtN.of s44)
    replace tw3 := tw3.ext (ExtN.of s44)
    replace tw4 := tw4.ext (ExtN.of s44)
    replace tw5 := tw5.ext (ExtN.of s44)
    replace tw6 := tw6.ext (ExtN.of s44)
    replace tw7 := tw7.ext (ExtN.of s44)
    replace tw8 := tw8.ext (ExtN.of s44)
    replace E26 := E26.same s44
    clear s44 hG44
    walk_at "rds"
    refine ⟨len_ok rfl, fun d4 hd4 => ?_⟩
    generalize hG45 : upd K44 d4 _ = K45
    obtain ⟨s45, ed4⟩ := neu2 hG45 hd4
    have nd4 := dr_neq E26 hd4
    replace hT := tabs_same hT s45
    replace eR := s45 _ _ eR
    replace eh5 := s45 _ _ eh5
    replace ed1 := s45 _ _ ed1
    replace ed2 := s45 _ _ ed2
    replace ed3 := s45 _ _ ed3
    replace an := an.but (same_but s45)
    replace pvb := pvb.but (same_but s45)
    replace af := af.but (same_but s45)
    replace ao := ao.but (same_but s45)
    replace rR := rR.but (same_but s45)
    replace tw0 := tw0.ext (ExtN.of s45)
    replace tw1 := tw1.ext (ExtN.of s45)
    replace tw2 := tw2.ext (ExtN.of s45)
    replace tw3 := tw3.ext (ExtN.of s45)
    replace tw4 := tw4.ext (ExtN.of s45)
    replace tw5 := tw5.ext (ExtN.of s45)
    replace tw6 := tw6.ext (ExtN.of s45)
    replace tw7 := tw7.ext (ExtN.of s45)
    replace tw8 := tw8.ext (ExtN.of s45)
    replace E26 := E26.same s45
    clear s45 hG45
    walk_at "rds"
    refine ⟨_, _, _, rfl, rfl, ed4, by decide, by decide, le_ok rfl, fun d5 hd5 => ?_⟩
    generalize hG46 : upd K45 d5 _ = K46
    obtain ⟨s46, ed5⟩ := neu2 hG46 hd5
    have nd5 := dr_neq E26 hd5
    replace hT := tabs_same hT s46
    replace eR := s46 _ _ eR
    replace eh5 := s46 _ _ eh5
    replace ed1 := s46 _ _ ed1
    replace ed2 := s46 _ _ ed2
    replace ed3 := s46 _ _ ed3
    replace ed4 := s46 _ _ ed4
    replace an := an.but (same_but s46)
    replace pvb := pvb.but (same_but s46)
    replace af := af.but (same_but s46)
    replace ao := ao.but (same_but s46)
    replace rR := rR.but (same_but s46)
    replace tw0 := tw0.ext (ExtN.of s46)
    replace tw1 := tw1.ext (ExtN.of s46)
    replace tw2 := tw2.ext (ExtN.of s46)
    replace tw3 := tw3.ext (ExtN.of s46)
    replace tw4 := tw4.ext (ExtN.of s46)
    replace tw5 := tw5.ext (ExtN.of s46)
    replace tw6 := tw6.ext (ExtN.of s46)
    replace tw7 := tw7.ext (ExtN.of s46)
    replace tw8 := tw8.ext (ExtN.of s46)
    replace E26 := E26.same s46
    clear s46 hG46
    clear ed4
    walk_at "rds"
    refine ⟨len_ok rfl, fun d6 hd6 => ?_⟩
    generalize hG47 : upd K46 d6 _ = K47
    obtain ⟨s47, ed6⟩ := neu2 hG47 hd6
    have nd6 := dr_neq E26 hd6
    replace hT := tabs_same hT s47
    replace eR := s47 _ _ eR
    replace eh5 := s47 _ _ eh5
    replace ed1 := s47 _ _ ed1
    replace ed2 := s47 _ _ ed2
    replace ed3 := s47 _ _ ed3
    replace ed5 := s47 _ _ ed5
    replace an := an.but (same_but s47)
    replace pvb := pvb.but (same_but s47)
    replace af := af.but (same_but s47)
    replace ao := ao.but (same_but s47)
    replace rR := rR.but (same_but s47)
    replace tw0 := tw0.ext (ExtN.of s47)
    replace tw1 := tw1.ext (ExtN.of s47)
    replace tw2 := tw2.ext (ExtN.of s47)
    replace tw3 := tw3.ext (ExtN.of s47)
    replace tw4 := tw4.ext (ExtN.of s47)
    replace tw5 := tw5.ext (ExtN.of s47)
    replace tw6 := tw6.ext (ExtN.of s47)
    replace tw7 := tw7.ext (ExtN.of s47)
    replace tw8 := tw8.ext (ExtN.of s47)
    replace E26 := E26.same s47
    clear s47 hG47
    walk_at "rds"
    refine ⟨len_ok rfl, fun d7 hd7 => ?_⟩
    generalize hG48 : upd K47 d7 _ = K48
    obtain ⟨s48, ed7⟩ := neu2 hG48 hd7
    have nd7 := dr_neq E26 hd7
    replace hT := tabs_same hT s48
    replace eR := s48 _ _ eR
    replace eh5 := s48 _ _ eh5
    replace ed1 := s48 _ _ ed1
    replace ed2 := s48 _ _ ed2
    replace ed3 := s48 _ _ ed3
    replace ed5 := s48 _ _ ed5
    replace ed6 := s48 _ _ ed6
    replace an := an.but (same_but s48)
    replace pvb := pvb.but (same_but s48)
    replace af := af.but (same_but s48)
    replace ao := ao.but (same_but s48)
    replace rR := rR.but (same_but s48)
    replace tw0 := tw0.ext (ExtN.of s48)
    replace tw1 := tw1.ext (ExtN.of s48)
    replace tw2 := tw2.ext (ExtN.of s48)
    replace tw3 := tw3.ext (ExtN.of s48)
    replace tw4 := tw4.ext (ExtN.of s48)
    replace tw5 := tw5.ext (ExtN.of s48)
    replace tw6 := tw6.ext (ExtN.of s48)
    replace tw7 := tw7.ext (ExtN.of s48)
    replace tw8 := tw8.ext (ExtN.of s48)
    replace E26 := E26.same s48
    clear s48 hG48
    walk_at "rds"
    refine ⟨_, _, _, rfl, rfl, ed7, by decide, by decide, le_ok rfl, fun d8 hd8 => ?_⟩
    rw [rep_one]
    generalize hG49 : upd K48 d8 _ = K49
    obtain ⟨s49, ed8⟩ := neu2 hG49 hd8
    have nd8 := dr_neq E26 hd8
    replace hT := tabs_same hT s49
    replace eR := s49 _ _ eR
    replace eh5 := s49 _ _ eh5
    replace ed1 := s49 _ _ ed1
    replace ed2 := s49 _ _ ed2
    replace ed3 := s49 _ _ ed3
    replace ed5 := s49 _ _ ed5
    replace ed6 := s49 _ _ ed6
    replace ed7 := s49 _ _ ed7
    replace an := an.but (same_but s49)
    replace pvb := pvb.but (same_but s49)
    replace af := af.but (same_but s49)
    replace ao := ao.but (same_but s49)
    replace rR := rR.but (same_but s49)
    replace tw0 := tw0.ext (ExtN.of s49)
    replace tw1 := tw1.ext (ExtN.of s49)
    replace tw2 := tw2.ext (ExtN.of s49)
    replace tw3 := tw3.ext (ExtN.of s49)
    replace tw4 := tw4.ext (ExtN.of s49)
    replace tw5 := tw5.ext (ExtN.of s49)
    replace tw6 := tw6.ext (ExtN.of s49)
    replace tw7 := tw7.ext (ExtN.of s49)
    replace tw8 := tw8.ext (ExtN.of s49)
    replace E26 := E26.same s49
    clear s49 hG49
    clear ed7
    refine r_cat (p := d5) ed5 ed8 (le_ok rfl) fun d9 hd9 => ?_
    generalize hG50 : upd K49 d9 _ = K50
    obtain ⟨s50, ed9⟩ := neu2 hG50 hd9
    have nd9 := dr_neq E26 hd9
    replace hT := tabs_same hT s50
    replace eR := s50 _ _ eR
    replace eh5 := s50 _ _ eh5
    replace ed1 := s50 _ _ ed1
    replace ed2 := s50 _ _ ed2
    replace ed3 := s50 _ _ ed3
    replace ed5 := s50 _ _ ed5
    replace ed6 := s50 _ _ ed6
    replace ed8 := s50 _ _ ed8
    replace an := an.but (same_but s50)
    replace pvb := pvb.but (same_but s50)
    replace af := af.but (same_but s50)
    replace ao := ao.but (same_but s50)
    replace rR := rR.but (same_but s50)
    replace tw0 := tw0.ext (ExtN.of s50)
    replace tw1 := tw1.ext (ExtN.of s50)
    replace tw2 := tw2.ext (ExtN.of s50)
    replace tw3 := tw3.ext (ExtN.of s50)
    replace tw4 := tw4.ext (ExtN.of s50)
    replace tw5 := tw5.ext (ExtN.of s50)
    replace tw6 := tw6.ext (ExtN.of s50)
    replace tw7 := tw7.ext (ExtN.of s50)
    replace tw8 := tw8.ext (ExtN.of s50)
    replace E26 := E26.same s50
    clear s50 hG50
    clear ed5 ed8
    walk_at "rds"
    refine ⟨len_ok rfl, fun e1 he1 => ?_⟩
    generalize hG51 : upd K50 e1 _ = K51
    obtain ⟨s51, ee1⟩ := neu2 hG51 he1
    have ne1 := dr_neq E26 he1
    replace hT := tabs_same hT s51
    replace eR := s51 _ _ eR
    replace eh5 := s51 _ _ eh5
    replace ed1 := s51 _ _ ed1
    replace ed2 := s51 _ _ ed2
    replace ed3 := s51 _ _ ed3
    replace ed6 := s51 _ _ ed6
    replace ed9 := s51 _ _ ed9
    replace an := an.but (same_but s51)
    replace pvb := pvb.but (same_but s51)
    replace af := af.but (same_but s51)
    replace ao := ao.but (same_but s51)
    replace rR := rR.but (same_but s51)
    replace tw0 := tw0.ext (ExtN.of s51)
    replace tw1 := tw1.ext (ExtN.of s51)
    replace tw2 := tw2.ext (ExtN.of s51)
    replace tw3 := tw3.ext (ExtN.of s51)
    replace tw4 := tw4.ext (ExtN.of s51)
    replace tw5 := tw5.ext (ExtN.of s51)
    replace tw6 := tw6.ext (ExtN.of s51)
    replace tw7 := tw7.ext (ExtN.of s51)
    replace tw8 := tw8.ext (ExtN.of s51)
    replace E26 := E26.same s51
    clear s51 hG51
    walk_at "rds"
    refine ⟨len_ok rfl, fun e2 he2 => ?_⟩
    generalize hG52 : upd K51 e2 _ = K52
    obtain ⟨s52, ee2⟩ := neu2 hG52 he2
    have ne2 := dr_neq E26 he2
    replace hT := tabs_same hT s52
    replace eR := s52 _ _ eR
    replace eh5 := s52 _ _ eh5
    replace ed1 := s52 _ _ ed1
    replace ed2 := s52 _ _ ed2
    replace ed3 := s52 _ _ ed3
    replace ed6 := s52 _ _ ed6
    replace ed9 := s52 _ _ ed9
    replace ee1 := s52 _ _ ee1
    replace an := an.but (same_but s52)
    replace pvb := pvb.but (same_but s52)
    replace af := af.but (same_but s52)
    replace ao := ao.but (same_but s52)
    replace rR := rR.but (same_but s52)
    replace tw0 := tw0.ext (ExtN.of s52)
    replace tw1 := tw1.ext (ExtN.of s52)
    replace tw2 := tw2.ext (ExtN.of s52)
    replace tw3 := tw3.ext (ExtN.of s52)
    replace tw4 := tw4.ext (ExtN.of s52)
    replace tw5 := tw5.ext (ExtN.of s52)
    replace tw6 := tw6.ext (ExtN.of s52)
    replace tw7 := tw7.ext (ExtN.of s52)
    replace tw8 := tw8.ext (ExtN.of s52)
    replace E26 := E26.same s52
    clear s52 hG52
    refine r_cat (p := d9) ed9 ee2 (le_ok rfl) fun e3 he3 => ?_
    generalize hG53 : upd K52 e3 _ = K53
    obtain ⟨s53, ee3⟩ := neu2 hG53 he3
    have ne3 := dr_neq E26 he3
    replace hT := tabs_same hT s53
    replace eR := s53 _ _ eR
    replace eh5 := s53 _ _ eh5
    replace ed1 := s53 _ _ ed1
    replace ed2 := s53 _ _ ed2
    replace ed3 := s53 _ _ ed3
    replace ed6 := s53 _ _ ed6
    replace ed9 := s53 _ _ ed9
    replace ee1 := s53 _ _ ee1
    replace ee2 := s53 _ _ ee2
    replace an := an.but (same_but s53)
    replace pvb := pvb.but (same_but s53)
    replace af := af.but (same_but s53)
    replace ao := ao.but (same_but s53)
    replace rR := rR.but (same_but s53)
    replace tw0 := tw0.ext (ExtN.of s53)
    replace tw1 := tw1.ext (ExtN.of s53)
    replace tw2 := tw2.ext (ExtN.of s53)
    replace tw3 := tw3.ext (ExtN.of s53)
    replace tw4 := tw4.ext (ExtN.of s53)
    replace tw5 := tw5.ext (ExtN.of s53)
    replace tw6 := tw6.ext (ExtN.of s53)
    replace tw7 := tw7.ext (ExtN.of s53)
    replace tw8 := tw8.ext (ExtN.of s53)
    replace E26 := E26.same s53
    clear s53 hG53
    clear ed9 ee2
    refine eqD_ok (.lst (SqL.of eh5) (.cons (two_dp tw0 ⟨⟨_, rfl⟩, .inl ⟨_, rfl⟩⟩) (.cons (two_dp tw1 ⟨⟨_, rfl⟩, .inl ⟨_, rfl⟩⟩) (.cons (two_dp tw2 ⟨⟨_, rfl⟩, .inl ⟨_, rfl⟩⟩) (.cons (two_dp tw3 ⟨⟨_, rfl⟩, .inl ⟨_, rfl⟩⟩) (.cons (two_dp tw4 ⟨⟨_, rfl⟩, .inl ⟨_, rfl⟩⟩) (.cons (two_dp tw5 ⟨⟨_, rfl⟩, .inl ⟨_, rfl⟩⟩) (.cons (two_dp tw6 ⟨⟨_, rfl⟩, .inl ⟨_, rfl⟩⟩) (.cons (two_dp tw7 ⟨⟨_, rfl⟩, .inl ⟨_, rfl⟩⟩) (.cons (two_dp tw8 ⟨⟨_, rfl⟩, .inl ⟨_, rfl⟩⟩) .nil)))))))))) (.lst (SqL.of ee3) (.cons (.tup (SqT.of ed1) (.cons (.str _) (.cons (.str _) .nil))) (.cons (.tup (SqT.of ed2) (.cons (.str _) (.cons (.str _) .nil))) (.cons (.tup (SqT.of ed3) (.cons (.str _) (.cons (.str _) .nil))) (.cons (.tup (SqT.of ed1) (.cons (.str _) (.cons (.str _) .nil))) (.cons (.tup (SqT.of ed2) (.cons (.str _) (.cons (.str _) .nil))) (.cons (.tup (SqT.of ed3) (.cons (.str _) (.cons (.str _) .nil))) (.cons (.tup (SqT.of ed6) (.cons (.str _) (.cons (.str _) .nil))) (.cons (.tup (SqT.of ed6) (.cons (.str _) (.cons (.str _) .nil))) (.cons (.tup (SqT.of ee1) (.cons (.str _) (.cons (.str _) .nil))) .nil)))))))))) (by decide +kernel) (by decide +kernel) (by decide +kernel) ?_
    exact k _ _ (by omega) E26 hT
end
end K44
namespace K44
open PySem PySem.Spec PyProof.Rows L2 Rp LamX RZ

def spLaw44 (TL : List (Addr × Str)) (K : PySem.W.Frag) : Sp := fun vs H Q _ => ∃ (a : Addr) (ns : List Int), vs = [.ref a] ∧ SqL K H a (ns.map V.int) ∧ Tabs TL H ∧ ∀ H', Q (.bl true) H'

section
variable {P : Program} {w : World} {K : PySem.W.Frag} {mg : Str → Option Value} {base : Heap} {ad : Ad}
abbrev sLaw : Stmt := top 33
theorem scLaw : FnScope ["script", "carousel", "turn", "clock", "size", "row"] ["script"] (defScope sLaw) := ⟨rfl, rfl, rfl, by decide +kernel, rfl, by decide +kernel, by decide +kernel⟩
theorem ok_Law {TL : List (Addr × Str)} {f : Addr} {fd : FuncData} (F : Fun K "law" "law" sLaw f fd) (T : Txt K mg ad) (hM : HasMods base) {f0 : Addr} {fd0 : FuncData} (cLawCarousel : Cal P w K mg base "_law_carousel" 1 f0 fd0 ["script"] (spBox K)) {f1 : Addr} {fd1 : FuncData} (cLawRing : Cal P w K mg base "_law_ring" 3 f1 fd1 ["carousel", "clock", "size"] spRing) {f2 : Addr} {fd2 : FuncData} (cLawOne : Cal P w K mg base "_law_one" 2 f2 fd2 ["carousel", "some"] (spOf K)) {f3 : Addr} {fd3 : FuncData} (cMaySet : CalX P w K mg base "may_set" 6 f3 fd3 ["clock", "row", "gap"] (spMaySet ad.c_BadClock ad.c_BadRow ad.c_BadNumber)) {f4 : Addr} {fd4 : FuncData} (cLawSetRight : Cal P w K mg base "_law_set_right" 14 f4 fd4 ["carousel", "clock", "row"] (spSetRight TL)) {f5 : Addr} {fd5 : FuncData} (cLawRefusedRight : Cal P w K mg base "_law_refused_right" 14 f5 fd5 ["carousel", "clock", "row"] (spRefRight TL)) : FnG P w K mg base 16 f fd ["script"] (spLaw44 TL K) := by
  refine fng F scLaw (fun {vs H Q E} h => ?_) (fun {cdv A fr s H vs Q E} hg hr h => ?_)
  · obtain ⟨a, nsc, rfl, hS, hT, k⟩ := h
    rfl
  · obtain ⟨a, nsc, rfl, hS, hT, k⟩ := h
    refine ⟨_, (pss_cons (ps_set (i := 1) scLaw.nd rfl (Or.inl rfl) (pe_go cLawCarousel hg (hr.mono (by decide)) (by rfl) (pa_cons (pv 0) pa_nil)))
  (pss_cons (ps_for PassesOwn.never rfl (pi_range1 (by rfl) T.z_range (pa_cons pe_int pa_nil)) (pg_name (i := 2) scLaw.nd rfl (Or.inl rfl))
  (pss_cons (ps_par (i := 3) (j := 4) (by rfl) scLaw.nd rfl rfl (by decide) rfl rfl (pa_cons (pe_go cLawOne hg (hr.mono (by decide)) (by rfl) (pa_cons (pv 1) (pa_cons (pe_lst (pa_cons pe_int (pa_cons pe_int (pa_cons pe_int (pa_cons pe_int (pa_cons pe_int (pa_cons pe_int (pa_cons pe_int (pa_cons pe_int (pa_cons pe_int (pa_cons pe_int pa_nil))))))))))) pa_nil))) (pa_cons (pe_go cLawOne hg (hr.mono (by decide)) (by rfl) (pa_cons (pv 1) (pa_cons (pe_lst (pa_cons pe_int (pa_cons pe_int (pa_cons pe_int (pa_cons pe_int (pa_cons pe_int (pa_cons pe_int pa_nil))))))) pa_nil))) pa_nil)) (by rfl))
  (pss_cons (ps_set (i := 5) scLaw.nd rfl (Or.inl rfl) (pe_go cLawRing hg (hr.mono (by decide)) (by rfl) (pa_cons (pv 1) (pa_cons (pv 3) (pa_cons (pv 4) pa_nil)))))
  (pss_one (ps_if (PW.pt (pw_or (pt_not (pt_val (pe_go cLawSetRight hg (hr.mono (by decide)) (by rfl) (pa_cons (pv 1) (pa_cons (pv 3) (pa_cons (pv 5) pa_nil)))))) (pw_or1 (pt_not (pt_val (pe_go cLawRefusedRight hg (hr.mono (by decide)) (by rfl) (pa_cons (pv 1) (pa_cons (pv 3) (pa_cons (pv 5) pa_nil)))))))))
  (pss_one (ps_ret pe_bl))
  pss_nil)))))
  (pss_one (ps_ret (pe_and (pe_cmpR op_is_any (pe_goX cMaySet (hr.mono (by decide)) (by rfl) (pa_cons pe_int (pa_cons (pe_tup (pa_cons pe_int (pa_cons pe_int (pa_cons pe_int (pa_cons pe_int pa_nil))))) (pa_cons pe_int pa_nil)))) pe_bl (nomark _)) (pe_and (pe_cmpR op_is_any (pe_goX cMaySet (hr.mono (by decide)) (by rfl) (pa_cons pe_int (pa_cons (pe_tup (pa_cons pe_int (pa_cons pe_int (pa_cons pe_int (pa_cons pe_int pa_nil))))) (pa_cons pe_int pa_nil)))) pe_bl (nomark _)) (pe_one (pe_cmpR op_is_any (pe_goX cMaySet (hr.mono (by decide)) (by rfl) (pa_cons pe_int (pa_cons (pe_lst (pa_cons pe_int (pa_cons pe_int pa_nil))) (pa_cons pe_int pa_nil)))) pe_bl (nomark _))))))))), ?_⟩
    refine r_start (l := [some (.ref a), none, none, none, none, none]) rfl ?_
    have hD0 : ∀ {H' : Hp}, Same H H' → Tabs TL H' := fun s => tabs_same hT s
    walk_at "rds"
    refine ⟨a, nsc, rfl, hS, fun G0 q c ns D0 s0 hq => ?_⟩
    have tb := hD0 s0
    clear hD0
    walk_at "rds"
    refine ⟨3, rfl, by decide, by decide, ?_⟩
    refine for_range (lo := 0) (n := 3) (fun i σ G => ∃ (x2 x3 x4 x5 : Option V) (lp : Nat), σ = [some (.ref a), some (.ref q), x2, x3, x4, x5] ∧ lp ≤ 200 * i ∧ Dr q c ns lp G ∧ Tabs TL G) ⟨_, _, _, _, _, rfl, Nat.zero_le _, D0, tb⟩ ?_ ?_
    · clear tb D0 s0
      rintro i σ G hi ⟨x2, x3, x4, x5, lap, rfl, hlp, D0, tb⟩
      walk_at "rds"
      refine ⟨len_ok rfl, fun p1 hp1 => ?_⟩
      generalize hG1 : upd G p1 _ = K1
      obtain ⟨s1, ep1⟩ := neu2 hG1 hp1
      have np1 := dr_neq D0 hp1
      replace tb := tabs_same tb s1
      replace D0 := D0.same s1
      clear s1 hG1
      refine ⟨_, _, _, _, _, _, rfl, SqL.of ep1, Nat.zero_lt_succ _, lt_ok rfl, by omega, np1, D0, fun K2 l2 i2 vc hl2 E2 c2 e2 => ?_⟩
      have pvc := EachP.get (F := fun v => ∃ cl : Int, v = .int cl ∧ clk (.int cl) = true) (.cons ⟨_, rfl, by decide +kernel⟩ (.cons ⟨_, rfl, by decide +kernel⟩ (.cons ⟨_, rfl, by decide +kernel⟩ (.cons ⟨_, rfl, by decide +kernel⟩ (.cons ⟨_, rfl, by decide +kernel⟩ (.cons ⟨_, rfl, by decide +kernel⟩ (.cons ⟨_, rfl, by decide +kernel⟩ (.cons ⟨_, rfl, by decide +kernel⟩ (.cons ⟨_, rfl, by decide +kernel⟩ (.cons ⟨_, rfl, by decide +kernel⟩ .nil)))))))))) e2
      replace tb := tabs_dr c2 D0 tb
      replace ep1 := c2 _ _ np1 ep1
      obtain ⟨cl, rfl, hck⟩ := pvc
      clear ep1
      walk_at "rds"
      refine ⟨len_ok rfl, fun p2 hp2 => ?_⟩
      generalize hG3 : upd K2 p2 _ = K3
      obtain ⟨s3, ep2⟩ := neu2 hG3 hp2
      have np2 := dr_neq E2 hp2
      replace tb := tabs_same tb s3
      replace E2 := E2.same s3
      clear s3 hG3
      refine ⟨_, _, _, _, _, _, rfl, SqL.of ep2, Nat.zero_lt_succ _, lt_ok rfl, by omega, np2, E2, fun K4 l4 i4 vn hl4 E4 c4 e4 => ?_⟩
      have pvn := EachP.get (F := fun v => ∃ n : Nat, v = .int (n : Int) ∧ 2 ≤ n ∧ n ≤ 16 ∧ n % 2 = 0) (.cons ⟨4, rfl, by decide, by decide, rfl⟩ (.cons ⟨6, rfl, by decide, by decide, rfl⟩ (.cons ⟨2, rfl, by decide, by decide, rfl⟩ (.cons ⟨8, rfl, by decide, by decide, rfl⟩ (.cons ⟨16, rfl, by decide, by decide, rfl⟩ (.cons ⟨10, rfl, by decide, by decide, rfl⟩ .nil)))))) e4
      replace tb := tabs_dr c4 E2 tb
      replace ep2 := c4 _ _ np2 ep2
      obtain ⟨n, rfl, n2, n16, nev⟩ := pvn
      clear ep2
      walk_at "rds"
      refine ⟨_, _, rfl, ?_⟩
      walk_at "rds"
      refine ⟨_, _, _, _, cl, n, rfl, hck, n2, n16, by omega, E4, fun KA lA DA xs hlA EA cA nA eA lx hx => ?_⟩
      replace tb := tabs_dr cA E4 tb
      clear cA
      walk_at "rds"
      refine ⟨_, _, _, _, cl, DA, xs, rfl, hck, hx, by omega, by omega, by omega, by omega, EA, nA, eA, tb, fun KB lB hlB EB eB tb2 => ?_⟩
      walk_at "rds"
      refine ⟨_, _, _, _, cl, DA, xs, rfl, hck, hx, by omega, by omega, by omega, by omega, EB, nA, eB, tb2, fun KC lC hlC EC tb3 => ?_⟩
      walk_at "rds"
      exact ⟨_, _, _, _, _, rfl, by omega, EC, tb3⟩
    · rintro σ G ⟨x2, x3, x4, x5, lap, rfl, hlp, D0, tb⟩
      walk_at "rds"
      refine ⟨len_ok rfl, fun z1 hz1 => ?_⟩
      generalize hG1 : upd G z1 _ = G1
      obtain ⟨s1, e1⟩ := neu2 hG1 hz1
      have n1 := dr_neq D0 hz1
      clear hG1
      replace D0 := D0.same s1
      walk_at "rds"
      have x4 : ∀ x ∈ ([0, 0, 1, 0] : List Int), 0 ≤ x ∧ x < 3 := by decide
      refine may_ok (q := q) (xs := [0, 0, 1, 0]) (i := 1) (by decide +kernel) x4 (by decide) (by decide) rfl (rowV_tup n1 e1) (by decide) fun J1 j1 => ?_
      rw [show stepAt [0, 0, 1, 0] 1 = -1 from rfl]
      walk_at "rds"
      refine r_isAny ?_
      refine ⟨true, rfl, ?_⟩
      walk_at "rds"
      replace D0 := D0.same j1
      refine ⟨len_ok rfl, fun z2 hz2 => ?_⟩
      generalize hG2 : upd J1 z2 _ = G2
      obtain ⟨s2, e2⟩ := neu2 hG2 hz2
      have n2 := dr_neq D0 hz2
      clear hG2
      replace D0 := D0.same s2
      walk_at "rds"
      refine may_ok (q := q) (xs := [0, 0, 1, 0]) (i := 0) (by decide +kernel) x4 (by decide) (by decide) rfl (rowV_tup n2 e2) (by decide) fun J2 j2 => ?_
      rw [show stepAt [0, 0, 1, 0] 0 = 0 from rfl]
      walk_at "rds"
      refine r_isAny ?_
      refine ⟨true, rfl, ?_⟩
      walk_at "rds"
      replace D0 := D0.same j2
      refine ⟨len_ok rfl, fun z3 hz3 => ?_⟩
      generalize hG3 : upd J2 z3 _ = G3
      obtain ⟨s3, e3⟩ := neu2 hG3 hz3
      have n3 := dr_neq D0 hz3
      clear hG3
      walk_at "rds"
      refine may_ok (q := q) (xs := [4, 9]) (i := 1) (by decide +kernel) (by decide) (by decide) (by decide) rfl (rowV_lst n3 e3) (by decide) fun J3 j3 => ?_
      rw [show stepAt [4, 9] 1 = 0 from rfl]
      walk_at "rds"
      refine r_isAny ?_
      exact k _
end
end K44
namespace K44
open PySem PySem.Spec PyProof.Rows L2 Rp LamX RZ
abbrev sIniBadClock : Stmt := (clsBody 9).getD 0 (.Pass ⟨0, 0, 0, 0⟩)
theorem scIniBadClock : FnScope ["self", "part"] ["self", "part"] (defScope sIniBadClock) := ⟨rfl, rfl, rfl, by decide +kernel, rfl, by decide +kernel, by decide +kernel⟩
theorem ok_IniBadClock {P : Program} {w : World} {K : PySem.W.Frag} {mg : Str → Option Value} {base : Heap} {C f : Addr} {fd : FuncData} (F : Fun K "__init__" "BadClock.__init__" sIniBadClock f fd) (O : OexC K C) (no : PySem.W.findIn K (.ref C) "part" = some none) : FnOk P w K mg base CX0 1 f fd ["self", "part"] (spIni1 C "part") := by
  refine F.ok scIniBadClock (fun vs H Q E h => ?_) fun cdv A outer s H vs Q E hr h => ?_
  · obtain ⟨a, v, rfl, _⟩ := h
    rfl
  · obtain ⟨a, v, rfl, ha, k⟩ := h
    refine ⟨_, pss_one (ps_ost (pv 0) (pv 1)), ?_⟩
    refine r_start (l := [some (.ref a), some v]) rfl ?_
    refine ⟨_, rfl, ?_⟩
    refine ⟨_, rfl, ?_⟩
    exact ⟨a, C, rfl, O, no, .inl ⟨ha, fun dx n ne => k dx n ne⟩⟩
abbrev sIniBadNumber : Stmt := (clsBody 8).getD 0 (.Pass ⟨0, 0, 0, 0⟩)
theorem scIniBadNumber : FnScope ["self", "part"] ["self", "part"] (defScope sIniBadNumber) := ⟨rfl, rfl, rfl, by decide +kernel, rfl, by decide +kernel, by decide +kernel⟩
theorem ok_IniBadNumber {P : Program} {w : World} {K : PySem.W.Frag} {mg : Str → Option Value} {base : Heap} {C f : Addr} {fd : FuncData} (F : Fun K "__init__" "BadNumber.__init__" sIniBadNumber f fd) (O : OexC K C) (no : PySem.W.findIn K (.ref C) "part" = some none) : FnOk P w K mg base CX0 1 f fd ["self", "part"] (spIni1 C "part") := by
  refine F.ok scIniBadNumber (fun vs H Q E h => ?_) fun cdv A outer s H vs Q E hr h => ?_
  · obtain ⟨a, v, rfl, _⟩ := h
    rfl
  · obtain ⟨a, v, rfl, ha, k⟩ := h
    refine ⟨_, pss_one (ps_ost (pv 0) (pv 1)), ?_⟩
    refine r_start (l := [some (.ref a), some v]) rfl ?_
    refine ⟨_, rfl, ?_⟩
    refine ⟨_, rfl, ?_⟩
    exact ⟨a, C, rfl, O, no, .inl ⟨ha, fun dx n ne => k dx n ne⟩⟩
abbrev sIniBadRow : Stmt := (clsBody 10).getD 0 (.Pass ⟨0, 0, 0, 0⟩)
theorem scIniBadRow : FnScope ["self", "part"] ["self", "part"] (defScope sIniBadRow) := ⟨rfl, rfl, rfl, by decide +kernel, rfl, by decide +kernel, by decide +kernel⟩
theorem ok_IniBadRow {P : Program} {w : World} {K : PySem.W.Frag} {mg : Str → Option Value} {base : Heap} {C f : Addr} {fd : FuncData} (F : Fun K "__init__" "BadRow.__init__" sIniBadRow f fd) (O : OexC K C) (no : PySem.W.findIn K (.ref C) "part" = some none) : FnOk P w K mg base CX0 1 f fd ["self", "part"] (spIni1 C "part") := by
  refine F.ok scIniBadRow (fun vs H Q E h => ?_) fun cdv A outer s H vs Q E hr h => ?_
  · obtain ⟨a, v, rfl, _⟩ := h
    rfl
  · obtain ⟨a, v, rfl, ha, k⟩ := h
    refine ⟨_, pss_one (ps_ost (pv 0) (pv 1)), ?_⟩
    refine r_start (l := [some (.ref a), some v]) rfl ?_
    refine ⟨_, rfl, ?_⟩
    refine ⟨_, rfl, ?_⟩
    exact ⟨a, C, rfl, O, no, .inl ⟨ha, fun dx n ne => k dx n ne⟩⟩
abbrev sIniMisfit : Stmt := (clsBody 11).getD 0 (.Pass ⟨0, 0, 0, 0⟩)
theorem scIniMisfit : FnScope ["self", "part"] ["self", "part"] (defScope sIniMisfit) := ⟨rfl, rfl, rfl, by decide +kernel, rfl, by decide +kernel, by decide +kernel⟩
theorem ok_IniMisfit {P : Program} {w : World} {K : PySem.W.Frag} {mg : Str → Option Value} {base : Heap} {C f : Addr} {fd : FuncData} (F : Fun K "__init__" "Misfit.__init__" sIniMisfit f fd) (O : OexC K C) (no : PySem.W.findIn K (.ref C) "part" = some none) : FnOk P w K mg base CX0 1 f fd ["self", "part"] (spIni1 C "part") := by
  refine F.ok scIniMisfit (fun vs H Q E h => ?_) fun cdv A outer s H vs Q E hr h => ?_
  · obtain ⟨a, v, rfl, _⟩ := h
    rfl
  · obtain ⟨a, v, rfl, ha, k⟩ := h
    refine ⟨_, pss_one (ps_ost (pv 0) (pv 1)), ?_⟩
    refine r_start (l := [some (.ref a), some v]) rfl ?_
    refine ⟨_, rfl, ?_⟩
    refine ⟨_, rfl, ?_⟩
    exact ⟨a, C, rfl, O, no, .inl ⟨ha, fun dx n ne => k dx n ne⟩⟩
theorem all_mk {l : PySem.W.OpenLaw} {w : World} {K : PySem.W.Frag} {h : Heap} {mg : Str → Option Value} {fa : Addr} {P0_ P1_ : Addr} (ne_0_1 : P0_ ≠ P1_) (ne_1_0 : P1_ ≠ P0_) (X : K.In h) (G : h.Ns mainGlobals mg) (hfa : mg "law" = some (.ref fa))
    {A_BadClock : Addr}
    {A_BadNumber : Addr}
    {A_BadRow : Addr}
    {A_Misfit : Addr}
    {A_RopeError : Addr}
    {f0 : Addr} {od0 an0 : Option Addr} {sl0 : Array (Option Value)} {oc0 kV0 dc0 pm0 cd0 ct0 : Value}
    {f1 : Addr} {od1 an1 : Option Addr} {sl1 : Array (Option Value)} {oc1 kV1 dc1 pm1 cd1 ct1 : Value}
    {f2 : Addr} {od2 an2 : Option Addr} {sl2 : Array (Option Value)} {oc2 kV2 dc2 pm2 cd2 ct2 : Value}
    {f3 : Addr} {od3 an3 : Option Addr} {sl3 : Array (Option Value)} {oc3 kV3 dc3 pm3 cd3 ct3 : Value}
    {f4 : Addr} {od4 an4 : Option Addr} {sl4 : Array (Option Value)} {oc4 kV4 dc4 pm4 cd4 ct4 : Value}
    {f5 : Addr} {od5 an5 : Option Addr} {sl5 : Array (Option Value)} {oc5 kV5 dc5 pm5 cd5 ct5 : Value}
    {f6 : Addr} {od6 an6 : Option Addr} {sl6 : Array (Option Value)} {oc6 kV6 dc6 pm6 cd6 ct6 : Value}
    {f7 : Addr} {od7 an7 : Option Addr} {sl7 : Array (Option Value)} {oc7 kV7 dc7 pm7 cd7 ct7 : Value}
    {f8 : Addr} {od8 an8 : Option Addr} {sl8 : Array (Option Value)} {oc8 kV8 dc8 pm8 cd8 ct8 : Value}
    {f9 : Addr} {od9 an9 : Option Addr} {sl9 : Array (Option Value)} {oc9 kV9 dc9 pm9 cd9 ct9 : Value}
    {f10 : Addr} {od10 an10 : Option Addr} {sl10 : Array (Option Value)} {oc10 kV10 dc10 pm10 cd10 ct10 : Value}
    {f11 : Addr} {od11 an11 : Option Addr} {sl11 : Array (Option Value)} {oc11 kV11 dc11 pm11 cd11 ct11 : Value}
    {f12 : Addr} {od12 an12 : Option Addr} {sl12 : Array (Option Value)} {oc12 kV12 dc12 pm12 cd12 ct12 : Value}
    {f13 : Addr} {od13 an13 : Option Addr} {sl13 : Array (Option Value)} {oc13 kV13 dc13 pm13 cd13 ct13 : Value}
    {f14 : Addr} {od14 an14 : Option Addr} {sl14 : Array (Option Value)} {oc14 kV14 dc14 pm14 cd14 ct14 : Value}
    {f15 : Addr} {od15 an15 : Option Addr} {sl15 : Array (Option Value)} {oc15 kV15 dc15 pm15 cd15 ct15 : Value}
    {f16 : Addr} {od16 an16 : Option Addr} {sl16 : Array (Option Value)} {oc16 kV16 dc16 pm16 cd16 ct16 : Value}
    {f17 cc17 : Addr} {od17 an17 : Option Addr} {sl17 : Array (Option Value)} {oc17 kV17 dc17 pm17 ct17 : Value}
    {f18 cc18 : Addr} {od18 an18 : Option Addr} {sl18 : Array (Option Value)} {oc18 kV18 dc18 pm18 ct18 : Value}
    {f19 : Addr} {od19 an19 : Option Addr} {sl19 : Array (Option Value)} {oc19 kV19 dc19 pm19 cd19 ct19 : Value}
    {k_MOST_GAPS : Tok}
    {t_CLOCKS : Addr} {od_CLOCKS : Option Addr} {n_CLOCKS : Nat} {sl_CLOCKS : Array (Option Value)} {tk_CLOCKS_0 tk_CLOCKS_1 tk_CLOCKS_2 tk_CLOCKS_3 tk_CLOCKS_4 tk_CLOCKS_5 tk_CLOCKS_6 tk_CLOCKS_7 tk_CLOCKS_8 tk_CLOCKS_9 : Tok}
    {fi_BadClock : Addr} {nm_BadClock q_BadClock : Str} {N_BadClock : Addr} {bs_BadClock bm_BadClock : List Value} {sn_BadClock : List Str} {sub_BadClock : List Value} {ab_BadClock : Bool} {col_BadClock : Option Bool} {dd_BadClock : Option Addr} {k0_BadClock k1_BadClock k2_BadClock k3_BadClock k5_BadClock : Option Value} {od_BadClock an_BadClock : Option Addr} {sl_BadClock : Array (Option Value)} {oc_BadClock kV_BadClock dc_BadClock pm_BadClock cd_BadClock ct_BadClock : Value}
    {fi_BadNumber : Addr} {nm_BadNumber q_BadNumber : Str} {N_BadNumber : Addr} {bs_BadNumber bm_BadNumber : List Value} {sn_BadNumber : List Str} {sub_BadNumber : List Value} {ab_BadNumber : Bool} {col_BadNumber : Option Bool} {dd_BadNumber : Option Addr} {k0_BadNumber k1_BadNumber k2_BadNumber k3_BadNumber k5_BadNumber : Option Value} {od_BadNumber an_BadNumber : Option Addr} {sl_BadNumber : Array (Option Value)} {oc_BadNumber kV_BadNumber dc_BadNumber pm_BadNumber cd_BadNumber ct_BadNumber : Value}
    {fi_BadRow : Addr} {nm_BadRow q_BadRow : Str} {N_BadRow : Addr} {bs_BadRow bm_BadRow : List Value} {sn_BadRow : List Str} {sub_BadRow : List Value} {ab_BadRow : Bool} {col_BadRow : Option Bool} {dd_BadRow : Option Addr} {k0_BadRow k1_BadRow k2_BadRow k3_BadRow k5_BadRow : Option Value} {od_BadRow an_BadRow : Option Addr} {sl_BadRow : Array (Option Value)} {oc_BadRow kV_BadRow dc_BadRow pm_BadRow cd_BadRow ct_BadRow : Value}
    {fi_Misfit : Addr} {nm_Misfit q_Misfit : Str} {N_Misfit : Addr} {bs_Misfit bm_Misfit : List Value} {sn_Misfit : List Str} {sub_Misfit : List Value} {ab_Misfit : Bool} {col_Misfit : Option Bool} {dd_Misfit : Option Addr} {k0_Misfit k1_Misfit k2_Misfit k3_Misfit k5_Misfit : Option Value} {od_Misfit an_Misfit : Option Addr} {sl_Misfit : Array (Option Value)} {oc_Misfit kV_Misfit dc_Misfit pm_Misfit cd_Misfit ct_Misfit : Value}
    (g_BadClock : PySem.W.nsIn K mainGlobals "BadClock" = some (some (.ref A_BadClock)))
    (g_BadNumber : PySem.W.nsIn K mainGlobals "BadNumber" = some (some (.ref A_BadNumber)))
    (g_BadRow : PySem.W.nsIn K mainGlobals "BadRow" = some (some (.ref A_BadRow)))
    (g_Misfit : PySem.W.nsIn K mainGlobals "Misfit" = some (some (.ref A_Misfit)))
    (g_RopeError : PySem.W.nsIn K mainGlobals "RopeError" = some (some (.ref A_RopeError)))
    (a0 : PySem.W.nsIn K mainGlobals "is_integer" = some (some (.ref f0)))
    (l0 : K.lookup f0 = some ⟨oc0, od0, .func (PySem.W.fnOf "is_integer" "is_integer" (defArgs sIsInteger) (defBody sIsInteger) (defScope sIsInteger) .none kV0 dc0 pm0 an0 cd0 ct0), sl0⟩)
    (c0 : PySem.W.codeIn K cd0 "is_integer" = true)
    (k0 : PySem.W.keepIn K (.ref f0) = true)
    (a1 : PySem.W.nsIn K mainGlobals "is_within" = some (some (.ref f1)))
    (l1 : K.lookup f1 = some ⟨oc1, od1, .func (PySem.W.fnOf "is_within" "is_within" (defArgs sIsWithin) (defBody sIsWithin) (defScope sIsWithin) .none kV1 dc1 pm1 an1 cd1 ct1), sl1⟩)
    (c1 : PySem.W.codeIn K cd1 "is_within" = true)
    (k1 : PySem.W.keepIn K (.ref f1) = true)
    (a2 : PySem.W.nsIn K mainGlobals "is_clock" = some (some (.ref f2)))
    (l2 : K.lookup f2 = some ⟨oc2, od2, .func (PySem.W.fnOf "is_clock" "is_clock" (defArgs sIsClock) (defBody sIsClock) (defScope sIsClock) .none kV2 dc2 pm2 an2 cd2 ct2), sl2⟩)
    (c2 : PySem.W.codeIn K cd2 "is_clock" = true)
    (k2 : PySem.W.keepIn K (.ref f2) = true)
    (a3 : PySem.W.nsIn K mainGlobals "is_row" = some (some (.ref f3)))
    (l3 : K.lookup f3 = some ⟨oc3, od3, .func (PySem.W.fnOf "is_row" "is_row" (defArgs sIsRow) (defBody sIsRow) (defScope sIsRow) .none kV3 dc3 pm3 an3 cd3 ct3), sl3⟩)
    (c3 : PySem.W.codeIn K cd3 "is_row" = true)
    (k3 : PySem.W.keepIn K (.ref f3) = true)
    (a4 : PySem.W.nsIn K mainGlobals "demand_clock" = some (some (.ref f4)))
    (l4 : K.lookup f4 = some ⟨oc4, od4, .func (PySem.W.fnOf "demand_clock" "demand_clock" (defArgs sDemandClock) (defBody sDemandClock) (defScope sDemandClock) .none kV4 dc4 pm4 an4 cd4 ct4), sl4⟩)
    (c4 : PySem.W.codeIn K cd4 "demand_clock" = true)
    (k4 : PySem.W.keepIn K (.ref f4) = true)
    (a5 : PySem.W.nsIn K mainGlobals "demand_within" = some (some (.ref f5)))
    (l5 : K.lookup f5 = some ⟨oc5, od5, .func (PySem.W.fnOf "demand_within" "demand_within" (defArgs sDemandWithin) (defBody sDemandWithin) (defScope sDemandWithin) .none kV5 dc5 pm5 an5 cd5 ct5), sl5⟩)
    (c5 : PySem.W.codeIn K cd5 "demand_within" = true)
    (k5 : PySem.W.keepIn K (.ref f5) = true)
    (a6 : PySem.W.nsIn K mainGlobals "demand_row" = some (some (.ref f6)))
    (l6 : K.lookup f6 = some ⟨oc6, od6, .func (PySem.W.fnOf "demand_row" "demand_row" (defArgs sDemandRow) (defBody sDemandRow) (defScope sDemandRow) .none kV6 dc6 pm6 an6 cd6 ct6), sl6⟩)
    (c6 : PySem.W.codeIn K cd6 "demand_row" = true)
    (k6 : PySem.W.keepIn K (.ref f6) = true)
    (a7 : PySem.W.nsIn K mainGlobals "demand_rim_row" = some (some (.ref f7)))
    (l7 : K.lookup f7 = some ⟨oc7, od7, .func (PySem.W.fnOf "demand_rim_row" "demand_rim_row" (defArgs sDemandRimRow) (defBody sDemandRimRow) (defScope sDemandRimRow) .none kV7 dc7 pm7 an7 cd7 ct7), sl7⟩)
    (c7 : PySem.W.codeIn K cd7 "demand_rim_row" = true)
    (k7 : PySem.W.keepIn K (.ref f7) = true)
    (a8 : PySem.W.nsIn K mainGlobals "step_at" = some (some (.ref f8)))
    (l8 : K.lookup f8 = some ⟨oc8, od8, .func (PySem.W.fnOf "step_at" "step_at" (defArgs sStepAt) (defBody sStepAt) (defScope sStepAt) .none kV8 dc8 pm8 an8 cd8 ct8), sl8⟩)
    (c8 : PySem.W.codeIn K cd8 "step_at" = true)
    (k8 : PySem.W.keepIn K (.ref f8) = true)
    (a9 : PySem.W.nsIn K mainGlobals "changed" = some (some (.ref f9)))
    (l9 : K.lookup f9 = some ⟨oc9, od9, .func (PySem.W.fnOf "changed" "changed" (defArgs sChanged) (defBody sChanged) (defScope sChanged) .none kV9 dc9 pm9 an9 cd9 ct9), sl9⟩)
    (c9 : PySem.W.codeIn K cd9 "changed" = true)
    (k9 : PySem.W.keepIn K (.ref f9) = true)
    (a10 : PySem.W.nsIn K mainGlobals "may_set" = some (some (.ref f10)))
    (l10 : K.lookup f10 = some ⟨oc10, od10, .func (PySem.W.fnOf "may_set" "may_set" (defArgs sMaySet) (defBody sMaySet) (defScope sMaySet) .none kV10 dc10 pm10 an10 cd10 ct10), sl10⟩)
    (c10 : PySem.W.codeIn K cd10 "may_set" = true)
    (k10 : PySem.W.keepIn K (.ref f10) = true)
    (a11 : PySem.W.nsIn K mainGlobals "set_at" = some (some (.ref f11)))
    (l11 : K.lookup f11 = some ⟨oc11, od11, .func (PySem.W.fnOf "set_at" "set_at" (defArgs sSetAt) (defBody sSetAt) (defScope sSetAt) .none kV11 dc11 pm11 an11 cd11 ct11), sl11⟩)
    (c11 : PySem.W.codeIn K cd11 "set_at" = true)
    (k11 : PySem.W.keepIn K (.ref f11) = true)
    (a12 : PySem.W.nsIn K mainGlobals "_law_carousel" = some (some (.ref f12)))
    (l12 : K.lookup f12 = some ⟨oc12, od12, .func (PySem.W.fnOf "_law_carousel" "_law_carousel" (defArgs sLawCarousel) (defBody sLawCarousel) (defScope sLawCarousel) .none kV12 dc12 pm12 an12 cd12 ct12), sl12⟩)
    (c12 : PySem.W.codeIn K cd12 "_law_carousel" = true)
    (k12 : PySem.W.keepIn K (.ref f12) = true)
    (a13 : PySem.W.nsIn K mainGlobals "_law_pole" = some (some (.ref f13)))
    (l13 : K.lookup f13 = some ⟨oc13, od13, .func (PySem.W.fnOf "_law_pole" "_law_pole" (defArgs sLawPole) (defBody sLawPole) (defScope sLawPole) .none kV13 dc13 pm13 an13 cd13 ct13), sl13⟩)
    (c13 : PySem.W.codeIn K cd13 "_law_pole" = true)
    (k13 : PySem.W.keepIn K (.ref f13) = true)
    (a14 : PySem.W.nsIn K mainGlobals "_law_one" = some (some (.ref f14)))
    (l14 : K.lookup f14 = some ⟨oc14, od14, .func (PySem.W.fnOf "_law_one" "_law_one" (defArgs sLawOne) (defBody sLawOne) (defScope sLawOne) .none kV14 dc14 pm14 an14 cd14 ct14), sl14⟩)
    (c14 : PySem.W.codeIn K cd14 "_law_one" = true)
    (k14 : PySem.W.keepIn K (.ref f14) = true)
    (a15 : PySem.W.nsIn K mainGlobals "_law_ring" = some (some (.ref f15)))
    (l15 : K.lookup f15 = some ⟨oc15, od15, .func (PySem.W.fnOf "_law_ring" "_law_ring" (defArgs sLawRing) (defBody sLawRing) (defScope sLawRing) .none kV15 dc15 pm15 an15 cd15 ct15), sl15⟩)
    (c15 : PySem.W.codeIn K cd15 "_law_ring" = true)
    (k15 : PySem.W.keepIn K (.ref f15) = true)
    (a16 : PySem.W.nsIn K mainGlobals "_law_heard" = some (some (.ref f16)))
    (l16 : K.lookup f16 = some ⟨oc16, od16, .func (PySem.W.fnOf "_law_heard" "_law_heard" (defArgs sLawHeard) (defBody sLawHeard) (defScope sLawHeard) .none kV16 dc16 pm16 an16 cd16 ct16), sl16⟩)
    (c16 : PySem.W.codeIn K cd16 "_law_heard" = true)
    (k16 : PySem.W.keepIn K (.ref f16) = true)
    (a17 : PySem.W.nsIn K mainGlobals "_law_set_right" = some (some (.ref f17)))
    (l17 : K.lookup f17 = some ⟨oc17, od17, .func (PySem.W.fnOf "_law_set_right" "_law_set_right" (defArgs sLawSetRight) (defBody sLawSetRight) (defScope sLawSetRight) .none kV17 dc17 pm17 an17 (.ref cc17) ct17), sl17⟩)
    (c17 : PySem.W.codeIn K (.ref cc17) "_law_set_right" = true)
    (k17 : PySem.W.keepIn K (.ref f17) = true)
    (a18 : PySem.W.nsIn K mainGlobals "_law_refused_right" = some (some (.ref f18)))
    (l18 : K.lookup f18 = some ⟨oc18, od18, .func (PySem.W.fnOf "_law_refused_right" "_law_refused_right" (defArgs sLawRefusedRight) (defBody sLawRefusedRight) (defScope sLawRefusedRight) .none kV18 dc18 pm18 an18 (.ref cc18) ct18), sl18⟩)
    (c18 : PySem.W.codeIn K (.ref cc18) "_law_refused_right" = true)
    (k18 : PySem.W.keepIn K (.ref f18) = true)
    (a19 : PySem.W.nsIn K mainGlobals "law" = some (some (.ref f19)))
    (l19 : K.lookup f19 = some ⟨oc19, od19, .func (PySem.W.fnOf "law" "law" (defArgs sLaw) (defBody sLaw) (defScope sLaw) .none kV19 dc19 pm19 an19 cd19 ct19), sl19⟩)
    (c19 : PySem.W.codeIn K cd19 "law" = true)
    (k19 : PySem.W.keepIn K (.ref f19) = true)
    (z_abs : PySem.W.nsIn K mainGlobals "abs" = some none)
    (z_all : PySem.W.nsIn K mainGlobals "all" = some none)
    (z_bool : PySem.W.nsIn K mainGlobals "bool" = some none)
    (z_int : PySem.W.nsIn K mainGlobals "int" = some none)
    (z_isinstance : PySem.W.nsIn K mainGlobals "isinstance" = some none)
    (z_len : PySem.W.nsIn K mainGlobals "len" = some none)
    (z_list : PySem.W.nsIn K mainGlobals "list" = some none)
    (z_range : PySem.W.nsIn K mainGlobals "range" = some none)
    (z_repr : PySem.W.nsIn K mainGlobals "repr" = some none)
    (z_tuple : PySem.W.nsIn K mainGlobals "tuple" = some none)
    (q_MOST_GAPS : PySem.W.nsIn K mainGlobals "MOST_GAPS" = some (some (.int 16 k_MOST_GAPS)))
    (q_CLOCKS : PySem.W.nsIn K mainGlobals "CLOCKS" = some (some (.ref t_CLOCKS)))
    (lq_CLOCKS : K.lookup t_CLOCKS = some ⟨.type "tuple", od_CLOCKS, .seq #[.int 3 tk_CLOCKS_0, .int 5 tk_CLOCKS_1, .int 7 tk_CLOCKS_2, .int 11 tk_CLOCKS_3, .int 13 tk_CLOCKS_4, .int 17 tk_CLOCKS_5, .int 19 tk_CLOCKS_6, .int 23 tk_CLOCKS_7, .int 29 tk_CLOCKS_8, .int 31 tk_CLOCKS_9] n_CLOCKS, sl_CLOCKS⟩)
    (o_BadClock : K.lookup A_BadClock = some (excClassObj nm_BadClock q_BadClock A_BadClock N_BadClock bs_BadClock bm_BadClock true sn_BadClock sub_BadClock ab_BadClock col_BadClock dd_BadClock k0_BadClock k1_BadClock k2_BadClock k3_BadClock k5_BadClock "ValueError.__new__"))
    (r_BadClock : PySem.HandSPX.refsVE bm_BadClock = true)
    (sa_BadClock : PySem.W.findIn K (.ref A_BadClock) "__setattr__" = some (some (.builtin "object.__setattr__")))
    (ex_BadClock : PySem.W.subIn K (.ref A_BadClock) (.type "BaseException") = some true)
    (ty_BadClock : PySem.W.typeIn K (.ref A_BadClock) = some (.type "type"))
    (kc_BadClock : PySem.W.keepIn K (.ref A_BadClock) = true)
    (no_BadClock_part : PySem.W.findIn K (.ref A_BadClock) "part" = some none)
    (ga_BadClock : PySem.W.findIn K (.ref A_BadClock) "__getattribute__" = some (some (.builtin "BaseException.__getattribute__")))
    (gg_BadClock : PySem.W.findIn K (.ref A_BadClock) "__getattr__" = some none)
    (hd_BadClock : PySem.W.hasDictIn K A_BadClock = true)
    (ha_BadClock : PySem.W.findIn K (.ref A_BadClock) "__class__" = some (some (.builtin "object.__class__")))
    (hm_BadClock : PySem.W.mroIn K A_BadClock (.type "object") = some true)
    (in_BadClock : PySem.W.findIn K (.ref A_BadClock) "__init__" = some (some (.ref fi_BadClock)))
    (it_BadClock : PySem.W.typeIn K (.ref fi_BadClock) = some (.type "function"))
    (il_BadClock : K.lookup fi_BadClock = some ⟨oc_BadClock, od_BadClock, .func (PySem.W.fnOf "__init__" "BadClock.__init__" (defArgs sIniBadClock) (defBody sIniBadClock) (defScope sIniBadClock) .none kV_BadClock dc_BadClock pm_BadClock an_BadClock cd_BadClock ct_BadClock), sl_BadClock⟩)
    (ic_BadClock : PySem.W.codeIn K cd_BadClock "BadClock.__init__" = true)
    (ik_BadClock : PySem.W.keepIn K (.ref fi_BadClock) = true)
    (up_BadClock : PySem.W.exmOne K (.ref A_BadClock) (.ref A_RopeError) = some true)
    (o_BadNumber : K.lookup A_BadNumber = some (excClassObj nm_BadNumber q_BadNumber A_BadNumber N_BadNumber bs_BadNumber bm_BadNumber true sn_BadNumber sub_BadNumber ab_BadNumber col_BadNumber dd_BadNumber k0_BadNumber k1_BadNumber k2_BadNumber k3_BadNumber k5_BadNumber "ValueError.__new__"))
    (r_BadNumber : PySem.HandSPX.refsVE bm_BadNumber = true)
    (sa_BadNumber : PySem.W.findIn K (.ref A_BadNumber) "__setattr__" = some (some (.builtin "object.__setattr__")))
    (ex_BadNumber : PySem.W.subIn K (.ref A_BadNumber) (.type "BaseException") = some true)
    (ty_BadNumber : PySem.W.typeIn K (.ref A_BadNumber) = some (.type "type"))
    (kc_BadNumber : PySem.W.keepIn K (.ref A_BadNumber) = true)
    (no_BadNumber_part : PySem.W.findIn K (.ref A_BadNumber) "part" = some none)
    (ga_BadNumber : PySem.W.findIn K (.ref A_BadNumber) "__getattribute__" = some (some (.builtin "BaseException.__getattribute__")))
    (gg_BadNumber : PySem.W.findIn K (.ref A_BadNumber) "__getattr__" = some none)
    (hd_BadNumber : PySem.W.hasDictIn K A_BadNumber = true)
    (ha_BadNumber : PySem.W.findIn K (.ref A_BadNumber) "__class__" = some (some (.builtin "object.__class__")))
    (hm_BadNumber : PySem.W.mroIn K A_BadNumber (.type "object") = some true)
    (in_BadNumber : PySem.W.findIn K (.ref A_BadNumber) "__init__" = some (some (.ref fi_BadNumber)))
    (it_BadNumber : PySem.W.typeIn K (.ref fi_BadNumber) = some (.type "function"))
    (il_BadNumber : K.lookup fi_BadNumber = some ⟨oc_BadNumber, od_BadNumber, .func (PySem.W.fnOf "__init__" "BadNumber.__init__" (defArgs sIniBadNumber) (defBody sIniBadNumber) (defScope sIniBadNumber) .none kV_BadNumber dc_BadNumber pm_BadNumber an_BadNumber cd_BadNumber ct_BadNumber), sl_BadNumber⟩)
    (ic_BadNumber : PySem.W.codeIn K cd_BadNumber "BadNumber.__init__" = true)
    (ik_BadNumber : PySem.W.keepIn K (.ref fi_BadNumber) = true)
    (up_BadNumber : PySem.W.exmOne K (.ref A_BadNumber) (.ref A_RopeError) = some true)
    (o_BadRow : K.lookup A_BadRow = some (excClassObj nm_BadRow q_BadRow A_BadRow N_BadRow bs_BadRow bm_BadRow true sn_BadRow sub_BadRow ab_BadRow col_BadRow dd_BadRow k0_BadRow k1_BadRow k2_BadRow k3_BadRow k5_BadRow "ValueError.__new__"))
    (r_BadRow : PySem.HandSPX.refsVE bm_BadRow = true)
    (sa_BadRow : PySem.W.findIn K (.ref A_BadRow) "__setattr__" = some (some (.builtin "object.__setattr__")))
    (ex_BadRow : PySem.W.subIn K (.ref A_BadRow) (.type "BaseException") = some true)
    (ty_BadRow : PySem.W.typeIn K (.ref A_BadRow) = some (.type "type"))
    (kc_BadRow : PySem.W.keepIn K (.ref A_BadRow) = true)
    (no_BadRow_part : PySem.W.findIn K (.ref A_BadRow) "part" = some none)
    (ga_BadRow : PySem.W.findIn K (.ref A_BadRow) "__getattribute__" = some (some (.builtin "BaseException.__getattribute__")))
    (gg_BadRow : PySem.W.findIn K (.ref A_BadRow) "__getattr__" = some none)
    (hd_BadRow : PySem.W.hasDictIn K A_BadRow = true)
    (ha_BadRow : PySem.W.findIn K (.ref A_BadRow) "__class__" = some (some (.builtin "object.__class__")))
    (hm_BadRow : PySem.W.mroIn K A_BadRow (.type "object") = some true)
    (in_BadRow : PySem.W.findIn K (.ref A_BadRow) "__init__" = some (some (.ref fi_BadRow)))
    (it_BadRow : PySem.W.typeIn K (.ref fi_BadRow) = some (.type "function"))
    (il_BadRow : K.lookup fi_BadRow = some ⟨oc_BadRow, od_BadRow, .func (PySem.W.fnOf "__init__" "BadRow.__init__" (defArgs sIniBadRow) (defBody sIniBadRow) (defScope sIniBadRow) .none kV_BadRow dc_BadRow pm_BadRow an_BadRow cd_BadRow ct_BadRow), sl_BadRow⟩)
    (ic_BadRow : PySem.W.codeIn K cd_BadRow "BadRow.__init__" = true)
    (ik_BadRow : PySem.W.keepIn K (.ref fi_BadRow) = true)
    (up_BadRow : PySem.W.exmOne K (.ref A_BadRow) (.ref A_RopeError) = some true)
    (o_Misfit : K.lookup A_Misfit = some (excClassObj nm_Misfit q_Misfit A_Misfit N_Misfit bs_Misfit bm_Misfit true sn_Misfit sub_Misfit ab_Misfit col_Misfit dd_Misfit k0_Misfit k1_Misfit k2_Misfit k3_Misfit k5_Misfit "ValueError.__new__"))
    (r_Misfit : PySem.HandSPX.refsVE bm_Misfit = true)
    (sa_Misfit : PySem.W.findIn K (.ref A_Misfit) "__setattr__" = some (some (.builtin "object.__setattr__")))
    (ex_Misfit : PySem.W.subIn K (.ref A_Misfit) (.type "BaseException") = some true)
    (ty_Misfit : PySem.W.typeIn K (.ref A_Misfit) = some (.type "type"))
    (kc_Misfit : PySem.W.keepIn K (.ref A_Misfit) = true)
    (no_Misfit_part : PySem.W.findIn K (.ref A_Misfit) "part" = some none)
    (ga_Misfit : PySem.W.findIn K (.ref A_Misfit) "__getattribute__" = some (some (.builtin "BaseException.__getattribute__")))
    (gg_Misfit : PySem.W.findIn K (.ref A_Misfit) "__getattr__" = some none)
    (hd_Misfit : PySem.W.hasDictIn K A_Misfit = true)
    (ha_Misfit : PySem.W.findIn K (.ref A_Misfit) "__class__" = some (some (.builtin "object.__class__")))
    (hm_Misfit : PySem.W.mroIn K A_Misfit (.type "object") = some true)
    (in_Misfit : PySem.W.findIn K (.ref A_Misfit) "__init__" = some (some (.ref fi_Misfit)))
    (it_Misfit : PySem.W.typeIn K (.ref fi_Misfit) = some (.type "function"))
    (il_Misfit : K.lookup fi_Misfit = some ⟨oc_Misfit, od_Misfit, .func (PySem.W.fnOf "__init__" "Misfit.__init__" (defArgs sIniMisfit) (defBody sIniMisfit) (defScope sIniMisfit) .none kV_Misfit dc_Misfit pm_Misfit an_Misfit cd_Misfit ct_Misfit), sl_Misfit⟩)
    (ic_Misfit : PySem.W.codeIn K cd_Misfit "Misfit.__init__" = true)
    (ik_Misfit : PySem.W.keepIn K (.ref fi_Misfit) = true)
    (up_Misfit : PySem.W.exmOne K (.ref A_Misfit) (.ref A_RopeError) = some true)
    (nn_BadClock : PySem.W.kitOne K (.type "NoneType") (.ref A_BadClock) = some false)
    (nn_BadNumber : PySem.W.kitOne K (.type "NoneType") (.ref A_BadNumber) = some false)
    (nn_BadRow : PySem.W.kitOne K (.type "NoneType") (.ref A_BadRow) = some false)
    (nn_Misfit : PySem.W.kitOne K (.type "NoneType") (.ref A_Misfit) = some false)
    (k_BadClock_BadClock : PySem.W.kitOne K (.ref A_BadClock) (.ref A_BadClock) = some true)
    (k_BadClock_BadNumber : PySem.W.kitOne K (.ref A_BadClock) (.ref A_BadNumber) = some false)
    (k_BadClock_BadRow : PySem.W.kitOne K (.ref A_BadClock) (.ref A_BadRow) = some false)
    (k_BadClock_Misfit : PySem.W.kitOne K (.ref A_BadClock) (.ref A_Misfit) = some false)
    (k_BadNumber_BadClock : PySem.W.kitOne K (.ref A_BadNumber) (.ref A_BadClock) = some false)
    (k_BadNumber_BadNumber : PySem.W.kitOne K (.ref A_BadNumber) (.ref A_BadNumber) = some true)
    (k_BadNumber_BadRow : PySem.W.kitOne K (.ref A_BadNumber) (.ref A_BadRow) = some false)
    (k_BadNumber_Misfit : PySem.W.kitOne K (.ref A_BadNumber) (.ref A_Misfit) = some false)
    (k_BadRow_BadClock : PySem.W.kitOne K (.ref A_BadRow) (.ref A_BadClock) = some false)
    (k_BadRow_BadNumber : PySem.W.kitOne K (.ref A_BadRow) (.ref A_BadNumber) = some false)
    (k_BadRow_BadRow : PySem.W.kitOne K (.ref A_BadRow) (.ref A_BadRow) = some true)
    (k_BadRow_Misfit : PySem.W.kitOne K (.ref A_BadRow) (.ref A_Misfit) = some false)
    (k_Misfit_BadClock : PySem.W.kitOne K (.ref A_Misfit) (.ref A_BadClock) = some false)
    (k_Misfit_BadNumber : PySem.W.kitOne K (.ref A_Misfit) (.ref A_BadNumber) = some false)
    (k_Misfit_BadRow : PySem.W.kitOne K (.ref A_Misfit) (.ref A_BadRow) = some false)
    (k_Misfit_Misfit : PySem.W.kitOne K (.ref A_Misfit) (.ref A_Misfit) = some true)
    (hn_ : PySem.W.specialIn K (.builtin "object.__class__") "__get__" = some (some (.builtin "getset_descriptor.__get__")))
    (ht_ : PySem.W.takesIn K (.builtin "object.__class__") = some true) :
    ∃ fd : FuncData, (∀ (t : Shared) (v : Value), BindsTo t fd ⟨[v], []⟩ [("script", v)]) ∧ ∀ base : Heap, K.In base → base.Ns mainGlobals mg → HasMods base → (∀ p ∈ [(cc17, P0_), (cc18, P1_)], TabB base mg p.1 p.2) → FnG l.prog w K mg base 16 fa fd ["script"] (spLaw44 [(P0_, qSet), (P1_, qRef)] K) := by
  have e := hfa.symm.trans (PySem.W.mg_of X G a19)
  cases e
  have CT_CLOCKS : ∀ {H : Hp}, SqT K H t_CLOCKS [.int 3, .int 5, .int 7, .int 11, .int 13, .int 17, .int 19, .int 23, .int 29, .int 31] := .inr ⟨_, _, _, lq_CLOCKS, rfl, rfl, len_ok rfl, (.cons ⟨_, rfl⟩ (.cons ⟨_, rfl⟩ (.cons ⟨_, rfl⟩ (.cons ⟨_, rfl⟩ (.cons ⟨_, rfl⟩ (.cons ⟨_, rfl⟩ (.cons ⟨_, rfl⟩ (.cons ⟨_, rfl⟩ (.cons ⟨_, rfl⟩ (.cons ⟨_, rfl⟩ .nil))))))))))⟩
  have T : Txt K mg (Ad.mk k_MOST_GAPS t_CLOCKS A_RopeError A_BadNumber A_BadClock A_BadRow A_Misfit) := ⟨PySem.W.mg_of X G q_MOST_GAPS, PySem.W.mg_of X G q_CLOCKS, CT_CLOCKS, PySem.W.mg_of X G g_RopeError, PySem.W.mg_of X G g_BadNumber, PySem.W.mg_of X G g_BadClock, PySem.W.mg_of X G g_BadRow, PySem.W.mg_of X G g_Misfit, PySem.W.mg_none_of X G z_abs, PySem.W.mg_none_of X G z_all, PySem.W.mg_none_of X G z_bool, PySem.W.mg_none_of X G z_int, PySem.W.mg_none_of X G z_isinstance, PySem.W.mg_none_of X G z_len, PySem.W.mg_none_of X G z_list, PySem.W.mg_none_of X G z_range, PySem.W.mg_none_of X G z_repr, PySem.W.mg_none_of X G z_tuple⟩
  have O_BadClock : OexC K A_BadClock := ⟨⟨_, _, _, _, _, _, _, _, _, _, _, _, _, _, _, o_BadClock, r_BadClock⟩, sa_BadClock, ex_BadClock, ty_BadClock, kc_BadClock⟩
  have xf_BadClock : XfC K A_BadClock := ⟨ga_BadClock, gg_BadClock, ex_BadClock, hd_BadClock⟩
  have ec_BadClock : ExcC K A_BadClock := ⟨ga_BadClock, gg_BadClock, ex_BadClock, hd_BadClock, ha_BadClock, hn_, ht_, hm_BadClock⟩
  have FI_BadClock := fun_mk (st := sIniBadClock) il_BadClock ic_BadClock ik_BadClock
  have bI_BadClock := FI_BadClock.binds (ps := ["self", "part"]) fun _ _ _ _ _ _ us hl => match us, hl with | [_, _], _ => rfl
  have ek_BadClock : ErrK K A_BadClock A_RopeError "part" := ⟨ec_BadClock, xf_BadClock, no_BadClock_part, up_BadClock, nn_BadClock⟩
  have O_BadNumber : OexC K A_BadNumber := ⟨⟨_, _, _, _, _, _, _, _, _, _, _, _, _, _, _, o_BadNumber, r_BadNumber⟩, sa_BadNumber, ex_BadNumber, ty_BadNumber, kc_BadNumber⟩
  have xf_BadNumber : XfC K A_BadNumber := ⟨ga_BadNumber, gg_BadNumber, ex_BadNumber, hd_BadNumber⟩
  have ec_BadNumber : ExcC K A_BadNumber := ⟨ga_BadNumber, gg_BadNumber, ex_BadNumber, hd_BadNumber, ha_BadNumber, hn_, ht_, hm_BadNumber⟩
  have FI_BadNumber := fun_mk (st := sIniBadNumber) il_BadNumber ic_BadNumber ik_BadNumber
  have bI_BadNumber := FI_BadNumber.binds (ps := ["self", "part"]) fun _ _ _ _ _ _ us hl => match us, hl with | [_, _], _ => rfl
  have ek_BadNumber : ErrK K A_BadNumber A_RopeError "part" := ⟨ec_BadNumber, xf_BadNumber, no_BadNumber_part, up_BadNumber, nn_BadNumber⟩
  have O_BadRow : OexC K A_BadRow := ⟨⟨_, _, _, _, _, _, _, _, _, _, _, _, _, _, _, o_BadRow, r_BadRow⟩, sa_BadRow, ex_BadRow, ty_BadRow, kc_BadRow⟩
  have xf_BadRow : XfC K A_BadRow := ⟨ga_BadRow, gg_BadRow, ex_BadRow, hd_BadRow⟩
  have ec_BadRow : ExcC K A_BadRow := ⟨ga_BadRow, gg_BadRow, ex_BadRow, hd_BadRow, ha_BadRow, hn_, ht_, hm_BadRow⟩
  have FI_BadRow := fun_mk (st := sIniBadRow) il_BadRow ic_BadRow ik_BadRow
  have bI_BadRow := FI_BadRow.binds (ps := ["self", "part"]) fun _ _ _ _ _ _ us hl => match us, hl with | [_, _], _ => rfl
  have ek_BadRow : ErrK K A_BadRow A_RopeError "part" := ⟨ec_BadRow, xf_BadRow, no_BadRow_part, up_BadRow, nn_BadRow⟩
  have O_Misfit : OexC K A_Misfit := ⟨⟨_, _, _, _, _, _, _, _, _, _, _, _, _, _, _, o_Misfit, r_Misfit⟩, sa_Misfit, ex_Misfit, ty_Misfit, kc_Misfit⟩
  have xf_Misfit : XfC K A_Misfit := ⟨ga_Misfit, gg_Misfit, ex_Misfit, hd_Misfit⟩
  have ec_Misfit : ExcC K A_Misfit := ⟨ga_Misfit, gg_Misfit, ex_Misfit, hd_Misfit, ha_Misfit, hn_, ht_, hm_Misfit⟩
  have FI_Misfit := fun_mk (st := sIniMisfit) il_Misfit ic_Misfit ik_Misfit
  have bI_Misfit := FI_Misfit.binds (ps := ["self", "part"]) fun _ _ _ _ _ _ us hl => match us, hl with | [_, _], _ => rfl
  have ek_Misfit : ErrK K A_Misfit A_RopeError "part" := ⟨ec_Misfit, xf_Misfit, no_Misfit_part, up_Misfit, nn_Misfit⟩
  have T2 : HdT K (Ad.mk k_MOST_GAPS t_CLOCKS A_RopeError A_BadNumber A_BadClock A_BadRow A_Misfit) := ⟨ek_BadClock, ek_BadNumber, ek_BadRow, ek_Misfit, k_BadClock_BadClock, k_BadClock_BadNumber, k_BadClock_BadRow, k_BadClock_Misfit, k_BadNumber_BadClock, k_BadNumber_BadNumber, k_BadNumber_BadRow, k_BadNumber_Misfit, k_BadRow_BadClock, k_BadRow_BadNumber, k_BadRow_BadRow, k_BadRow_Misfit, k_Misfit_BadClock, k_Misfit_BadNumber, k_Misfit_BadRow, k_Misfit_Misfit⟩
  have F0 : Fun K "is_integer" "is_integer" sIsInteger f0 _ := fun_mk (st := sIsInteger) l0 c0 k0
  have b0 := F0.binds (ps := ["value"]) fun _ _ _ _ _ _ us hl => match us, hl with | [_], _ => rfl
  have F1 : Fun K "is_within" "is_within" sIsWithin f1 _ := fun_mk (st := sIsWithin) l1 c1 k1
  have b1 := F1.binds (ps := ["value", "least", "most"]) fun _ _ _ _ _ _ us hl => match us, hl with | [_, _, _], _ => rfl
  have F2 : Fun K "is_clock" "is_clock" sIsClock f2 _ := fun_mk (st := sIsClock) l2 c2 k2
  have b2 := F2.binds (ps := ["value"]) fun _ _ _ _ _ _ us hl => match us, hl with | [_], _ => rfl
  have F3 : Fun K "is_row" "is_row" sIsRow f3 _ := fun_mk (st := sIsRow) l3 c3 k3
  have b3 := F3.binds (ps := ["value", "clock", "size"]) fun _ _ _ _ _ _ us hl => match us, hl with | [_, _, _], _ => rfl
  have F4 : Fun K "demand_clock" "demand_clock" sDemandClock f4 _ := fun_mk (st := sDemandClock) l4 c4 k4
  have b4 := F4.binds (ps := ["clock"]) fun _ _ _ _ _ _ us hl => match us, hl with | [_], _ => rfl
  have F5 : Fun K "demand_within" "demand_within" sDemandWithin f5 _ := fun_mk (st := sDemandWithin) l5 c5 k5
  have b5 := F5.binds (ps := ["value", "least", "most", "part"]) fun _ _ _ _ _ _ us hl => match us, hl with | [_, _, _, _], _ => rfl
  have F6 : Fun K "demand_row" "demand_row" sDemandRow f6 _ := fun_mk (st := sDemandRow) l6 c6 k6
  have b6 := F6.binds (ps := ["row", "clock", "least", "most", "part"]) fun _ _ _ _ _ _ us hl => match us, hl with | [_, _, _, _, _], _ => rfl
  have F7 : Fun K "demand_rim_row" "demand_rim_row" sDemandRimRow f7 _ := fun_mk (st := sDemandRimRow) l7 c7 k7
  have b7 := F7.binds (ps := ["clock", "row", "part"]) fun _ _ _ _ _ _ us hl => match us, hl with | [_, _, _], _ => rfl
  have F8 : Fun K "step_at" "step_at" sStepAt f8 _ := fun_mk (st := sStepAt) l8 c8 k8
  have b8 := F8.binds (ps := ["row", "gap"]) fun _ _ _ _ _ _ us hl => match us, hl with | [_, _], _ => rfl
  have F9 : Fun K "changed" "changed" sChanged f9 _ := fun_mk (st := sChanged) l9 c9 k9
  have b9 := F9.binds (ps := ["row", "gap", "number"]) fun _ _ _ _ _ _ us hl => match us, hl with | [_, _, _], _ => rfl
  have F10 : Fun K "may_set" "may_set" sMaySet f10 _ := fun_mk (st := sMaySet) l10 c10 k10
  have b10 := F10.binds (ps := ["clock", "row", "gap"]) fun _ _ _ _ _ _ us hl => match us, hl with | [_, _, _], _ => rfl
  have F11 : Fun K "set_at" "set_at" sSetAt f11 _ := fun_mk (st := sSetAt) l11 c11 k11
  have b11 := F11.binds (ps := ["clock", "row", "gap", "number"]) fun _ _ _ _ _ _ us hl => match us, hl with | [_, _, _, _], _ => rfl
  have F12 : Fun K "_law_carousel" "_law_carousel" sLawCarousel f12 _ := fun_mk (st := sLawCarousel) l12 c12 k12
  have b12 := F12.binds (ps := ["script"]) fun _ _ _ _ _ _ us hl => match us, hl with | [_], _ => rfl
  have F13 : Fun K "_law_pole" "_law_pole" sLawPole f13 _ := fun_mk (st := sLawPole) l13 c13 k13
  have b13 := F13.binds (ps := ["carousel", "many"]) fun _ _ _ _ _ _ us hl => match us, hl with | [_, _], _ => rfl
  have F14 : Fun K "_law_one" "_law_one" sLawOne f14 _ := fun_mk (st := sLawOne) l14 c14 k14
  have b14 := F14.binds (ps := ["carousel", "some"]) fun _ _ _ _ _ _ us hl => match us, hl with | [_, _], _ => rfl
  have F15 : Fun K "_law_ring" "_law_ring" sLawRing f15 _ := fun_mk (st := sLawRing) l15 c15 k15
  have b15 := F15.binds (ps := ["carousel", "clock", "size"]) fun _ _ _ _ _ _ us hl => match us, hl with | [_, _, _], _ => rfl
  have F16 : Fun K "_law_heard" "_law_heard" sLawHeard f16 _ := fun_mk (st := sLawHeard) l16 c16 k16
  have b16 := F16.binds (ps := ["ask"]) fun _ _ _ _ _ _ us hl => match us, hl with | [_], _ => rfl
  have F17 : FunC K "_law_set_right" "_law_set_right" sLawSetRight f17 _ cc17 := ⟨⟨_, _, _, _, _, _, _, _, rfl, l17, c17⟩⟩
  have F17x : Fun K "_law_set_right" "_law_set_right" sLawSetRight f17 _ := fun_mk (st := sLawSetRight) l17 c17 k17
  have b17 := F17x.binds (ps := ["carousel", "clock", "row"]) fun _ _ _ _ _ _ us hl => match us, hl with | [_, _, _], _ => rfl
  have F18 : FunC K "_law_refused_right" "_law_refused_right" sLawRefusedRight f18 _ cc18 := ⟨⟨_, _, _, _, _, _, _, _, rfl, l18, c18⟩⟩
  have F18x : Fun K "_law_refused_right" "_law_refused_right" sLawRefusedRight f18 _ := fun_mk (st := sLawRefusedRight) l18 c18 k18
  have b18 := F18x.binds (ps := ["carousel", "clock", "row"]) fun _ _ _ _ _ _ us hl => match us, hl with | [_, _, _], _ => rfl
  have F19 : Fun K "law" "law" sLaw _ _ := fun_mk (st := sLaw) l19 c19 k19
  have b19 := F19.binds (ps := ["script"]) fun _ _ _ _ _ _ us hl => match us, hl with | [_], _ => rfl
  have kMaySet_gap_row_clock : KBx K _ ["clock", "row", "gap"] 0 ["gap", "row", "clock"] [2, 1, 0] := kb_of F10 fun _ _ _ _ _ _ us ws h1 h2 => match us, ws, h1, h2 with | [], [_, _, _], _, _ => rfl
  have kSetAt_number_gap_row_clock : KBx K _ ["clock", "row", "gap", "number"] 0 ["number", "gap", "row", "clock"] [3, 2, 1, 0] := kb_of F11 fun _ _ _ _ _ _ us ws h1 h2 => match us, ws, h1, h2 with | [], [_, _, _, _], _, _ => rfl
  refine ⟨PySem.W.fnOf "law" "law" (defArgs sLaw) (defBody sLaw) (defScope sLaw) .none kV19 dc19 pm19 an19 cd19 ct19, fun t v => .of_eq rfl, fun base kin gl hM TBs => ?_⟩
  have TB_0 : TabB base mg cc17 P0_ := TBs (cc17, P0_) (by simp)
  have mem_0 : (P0_, qSet) ∈ [(P0_, qSet), (P1_, qRef)] := by simp
  have one_0 : ∀ p ∈ [(P0_, qSet), (P1_, qRef)], p.1 = P0_ → p.2 = qSet := by
    intro p m e
    simp only [List.mem_cons, List.not_mem_nil, or_false] at m
    rcases m with rfl | rfl
    · rfl
    · exact absurd e ne_1_0
  have TB_1 : TabB base mg cc18 P1_ := TBs (cc18, P1_) (by simp)
  have mem_1 : (P1_, qRef) ∈ [(P0_, qSet), (P1_, qRef)] := by simp
  have one_1 : ∀ p ∈ [(P0_, qSet), (P1_, qRef)], p.1 = P1_ → p.2 = qRef := by
    intro p m e
    simp only [List.mem_cons, List.not_mem_nil, or_false] at m
    rcases m with rfl | rfl
    · exact absurd e ne_0_1
    · rfl
  have hH : HrdC K mg f16 cd16 := ⟨PySem.W.mg_of X G a16, k16, c16, ⟨_, _, _, _, _, _, _, _, l16, b16⟩⟩
  have eBadClock : Err1 l.prog w K mg base "BadClock" A_BadClock "part" := ⟨PySem.W.mg_of X G g_BadClock, O_BadClock, no_BadClock_part, xf_BadClock, ⟨_, _, _, in_BadClock, it_BadClock, bI_BadClock, ok_IniBadClock FI_BadClock O_BadClock no_BadClock_part⟩⟩
  have eBadNumber : Err1 l.prog w K mg base "BadNumber" A_BadNumber "part" := ⟨PySem.W.mg_of X G g_BadNumber, O_BadNumber, no_BadNumber_part, xf_BadNumber, ⟨_, _, _, in_BadNumber, it_BadNumber, bI_BadNumber, ok_IniBadNumber FI_BadNumber O_BadNumber no_BadNumber_part⟩⟩
  have eBadRow : Err1 l.prog w K mg base "BadRow" A_BadRow "part" := ⟨PySem.W.mg_of X G g_BadRow, O_BadRow, no_BadRow_part, xf_BadRow, ⟨_, _, _, in_BadRow, it_BadRow, bI_BadRow, ok_IniBadRow FI_BadRow O_BadRow no_BadRow_part⟩⟩
  have eMisfit : Err1 l.prog w K mg base "Misfit" A_Misfit "part" := ⟨PySem.W.mg_of X G g_Misfit, O_Misfit, no_Misfit_part, xf_Misfit, ⟨_, _, _, in_Misfit, it_Misfit, bI_Misfit, ok_IniMisfit FI_Misfit O_Misfit no_Misfit_part⟩⟩
  have cIsInteger : CalX l.prog w K mg base "is_integer" 1 f0 _ ["value"] spIsInt := ⟨ok_IsInteger F0 T   , PySem.W.mg_of X G a0, k0, b0⟩
  have cStepAt : CalX l.prog w K mg base "step_at" 1 f8 _ ["row", "gap"] (spStepAt K) := ⟨ok_StepAt F8 T   , PySem.W.mg_of X G a8, k8, b8⟩
  have cChanged : CalX l.prog w K mg base "changed" 1 f9 _ ["row", "gap", "number"] (spChanged K) := ⟨ok_Changed F9 T   , PySem.W.mg_of X G a9, k9, b9⟩
  have cLawCarousel : Cal l.prog w K mg base "_law_carousel" 1 f12 _ ["script"] (spBox K) := ⟨ok_LawCarousel F12 T hM  , PySem.W.mg_of X G a12, k12, b12⟩
  have cLawPole : Cal l.prog w K mg base "_law_pole" 1 f13 _ ["carousel", "many"] spDraw := ⟨ok_LawPole F13 T hM  , PySem.W.mg_of X G a13, k13, b13⟩
  have cIsWithin : CalX l.prog w K mg base "is_within" 2 f1 _ ["value", "least", "most"] spWithin := ⟨ok_IsWithin F1 T   cIsInteger, PySem.W.mg_of X G a1, k1, b1⟩
  have cIsClock : CalX l.prog w K mg base "is_clock" 2 f2 _ ["value"] spClock := ⟨ok_IsClock F2 T   cIsInteger, PySem.W.mg_of X G a2, k2, b2⟩
  have cLawOne : Cal l.prog w K mg base "_law_one" 2 f14 _ ["carousel", "some"] (spOf K) := ⟨ok_LawOne F14 T hM  cLawPole, PySem.W.mg_of X G a14, k14, b14⟩
  have cIsRow : CalX l.prog w K mg base "is_row" 3 f3 _ ["value", "clock", "size"] spRow := ⟨ok_IsRow F3 T   cIsClock cIsWithin, PySem.W.mg_of X G a3, k3, b3⟩
  have cDemandClock : CalX l.prog w K mg base "demand_clock" 3 f4 _ ["clock"] (spDemClock A_BadClock) := ⟨ok_DemandClock F4 T   cIsClock eBadClock, PySem.W.mg_of X G a4, k4, b4⟩
  have cDemandWithin : CalX l.prog w K mg base "demand_within" 3 f5 _ ["value", "least", "most", "part"] (spDemWithin A_BadNumber) := ⟨ok_DemandWithin F5 T   cIsWithin eBadNumber, PySem.W.mg_of X G a5, k5, b5⟩
  have cLawRing : Cal l.prog w K mg base "_law_ring" 3 f15 _ ["carousel", "clock", "size"] spRing := ⟨ok_LawRing F15 T hM  cLawPole cLawOne, PySem.W.mg_of X G a15, k15, b15⟩
  have cDemandRow : CalX l.prog w K mg base "demand_row" 4 f6 _ ["row", "clock", "least", "most", "part"] (spDemRow A_BadRow) := ⟨ok_DemandRow F6 T   cIsRow eBadRow, PySem.W.mg_of X G a6, k6, b6⟩
  have cDemandRimRow : CalX l.prog w K mg base "demand_rim_row" 5 f7 _ ["clock", "row", "part"] (spDemRim A_BadRow) := ⟨ok_DemandRimRow F7 T   cDemandRow eBadRow, PySem.W.mg_of X G a7, k7, b7⟩
  have cMaySet : CalX l.prog w K mg base "may_set" 6 f10 _ ["clock", "row", "gap"] (spMaySet A_BadClock A_BadRow A_BadNumber) := ⟨ok_MaySet F10 T   cDemandClock cDemandRimRow cDemandWithin cStepAt, PySem.W.mg_of X G a10, k10, b10⟩
  have cSetAt : CalX l.prog w K mg base "set_at" 7 f11 _ ["clock", "row", "gap", "number"] (spSetAt A_BadClock A_BadRow A_BadNumber A_Misfit) := ⟨ok_SetAt F11 T   cMaySet cDemandWithin cChanged eMisfit, PySem.W.mg_of X G a11, k11, b11⟩
  have cLawSetRight : Cal l.prog w K mg base "_law_set_right" 14 f17 _ ["carousel", "clock", "row"] (spSetRight [(P0_, qSet), (P1_, qRef)]) := ⟨ok_LawSetRight F17 T T2 hM hH TB_0 mem_0 one_0  cLawOne cSetAt kSetAt_number_gap_row_clock cLawPole cMaySet kMaySet_gap_row_clock, PySem.W.mg_of X G a17, k17, b17⟩
  have cLawRefusedRight : Cal l.prog w K mg base "_law_refused_right" 14 f18 _ ["carousel", "clock", "row"] (spRefRight [(P0_, qSet), (P1_, qRef)]) := ⟨ok_LawRefusedRight F18 T T2 hM hH TB_1 mem_1 one_1  cLawOne cMaySet cSetAt, PySem.W.mg_of X G a18, k18, b18⟩
  exact ok_Law (TL := [(P0_, qSet), (P1_, qRef)]) F19 T hM  cLawCarousel cLawRing cLawOne cMaySet cLawSetRight cLawRefusedRight
theorem walk {l : PySem.W.OpenLaw} {q : Program} {loose : List Str} {XP : (Str → Option Value) → Heap → Prop} {YP : World → Heap → Prop} {d : DefRec} {K : Params → PySem.W.Frag} {cc0 P0_ cc1 P1_ : Addr} (none : importsNone q = true) (hn : l.most = some 63) (hdf : d.params.defaults = [])
    (hY : ∀ (w : World) (h : Heap), YP w h → (K w.params).In h) (hT0 : ∀ (w : World) (h : Heap), YP w h → h.get? P0_ = some (PySem.W.tabObj #[])) (hC0 : ∀ w : World, PySem.W.codeHdIn (K w.params) cc0 P0_ = true) (nT0 : ∀ w : World, (K w.params).lookup P0_ = .none) (hT1 : ∀ (w : World) (h : Heap), YP w h → h.get? P1_ = some (PySem.W.tabObj #[])) (hC1 : ∀ w : World, PySem.W.codeHdIn (K w.params) cc1 P1_ = true) (nT1 : ∀ w : World, (K w.params).lookup P1_ = .none)
    (F : ∀ (w : World) (mg : Str → Option Value) (fa : Addr) (h : Heap), (K w.params).In h → h.Ns mainGlobals mg → mg d.name = some (.ref fa) →
      ∃ fd : FuncData, (∀ (t : Shared) (u : Value), BindsTo t fd ⟨[u], []⟩ [("script", u)]) ∧ ∀ base : Heap, (K w.params).In base → base.Ns mainGlobals mg → HasMods base → (∀ p ∈ [(cc0, P0_), (cc1, P1_)], TabB base mg p.1 p.2) → FnG l.prog w (K w.params) mg base 16 fa fd ["script"] ((spLaw44 [(P0_, qSet), (P1_, qRef)]) (K w.params))) :
    PySem.W.WalkO q loose XP YP l.row.toRowW d [] (fun f vs => PySem.call f vs) :=
  Rp.walk_GT (n := 63) (k := 16) (x := "script") (cs := [(cc0, P0_), (cc1, P1_)]) (sp := (spLaw44 [(P0_, qSet), (P1_, qRef)])) none hn (by decide) hdf ⟨rfl, by decide, by decide⟩ hY
    (fun w h y p m => by
      simp only [List.mem_cons, List.not_mem_nil, or_false] at m
      rcases m with rfl | rfl
      · exact hT0 w h y
      · exact hT1 w h y)
    (fun w h y p m => by
      simp only [List.mem_cons, List.not_mem_nil, or_false] at m
      rcases m with rfl | rfl
      · exact PySem.W.codeHd_of_K (hY w h y) (hC0 w)
      · exact PySem.W.codeHd_of_K (hY w h y) (hC1 w))
    (fun w p m => by
      simp only [List.mem_cons, List.not_mem_nil, or_false] at m
      rcases m with rfl | rfl
      · exact nT0 w
      · exact nT1 w) F
    (fun _ H a ns _ ht hS => ⟨a, ns, rfl, hS, fun p m => by
      simp only [List.mem_cons, List.not_mem_nil, or_false] at m
      rcases m with rfl | rfl
      · exact ⟨#[], ht (cc0, P0_) (by simp), trivial, fun pos cv hc => by cases hc⟩
      · exact ⟨#[], ht (cc1, P1_) (by simp), trivial, fun pos cv hc => by cases hc⟩, fun _ => rfl⟩)
end K44
open PySem PySem.W PyProof.Rows in
set_option maxRecDepth 100000 in
set_option maxHeartbeats 0 in
theorem PySem.Challenge.cw_ropesays_k44_numbers_set_on_rings_holds : PySem.Challenge.rw_ropesays_k44_numbers_set_on_rings.Holds := by
  w_on; o_law; k_head; (case hw => w_witness2)
  k_fill
  refine' K44.walk (l := PySem.Challenge.rw_ropesays_k44_numbers_set_on_rings) (cc0 := ?cc0) (cc1 := ?cc1) (P0_ := 217) (P1_ := 224) (by decide +kernel) rfl rfl (fun w h Y => PySem.W.km_in_of Y) (fun w h Y => PySem.W.km_tabs_of Y _ (by k_mem)) ?hC0 (fun w => by kernel_rfl) (fun w h Y => PySem.W.km_tabs_of Y _ (by k_mem)) ?hC1 (fun w => by kernel_rfl) ?F
  case F =>
    intro w mg fa h KX G hmg
    refine' K44.all_mk (by decide) (by decide) KX G hmg ?g_BadClock ?g_BadNumber ?g_BadRow ?g_Misfit ?g_RopeError ?a0 ?l0 ?c0 ?k0 ?a1 ?l1 ?c1 ?k1 ?a2 ?l2 ?c2 ?k2 ?a3 ?l3 ?c3 ?k3 ?a4 ?l4 ?c4 ?k4 ?a5 ?l5 ?c5 ?k5 ?a6 ?l6 ?c6 ?k6 ?a7 ?l7 ?c7 ?k7 ?a8 ?l8 ?c8 ?k8 ?a9 ?l9 ?c9 ?k9 ?a10 ?l10 ?c10 ?k10 ?a11 ?l11 ?c11 ?k11 ?a12 ?l12 ?c12 ?k12 ?a13 ?l13 ?c13 ?k13 ?a14 ?l14 ?c14 ?k14 ?a15 ?l15 ?c15 ?k15 ?a16 ?l16 ?c16 ?k16 ?a17 ?l17 ?c17 ?k17 ?a18 ?l18 ?c18 ?k18 ?a19 ?l19 ?c19 ?k19 ?z_abs ?z_all ?z_bool ?z_int ?z_isinstance ?z_len ?z_list ?z_range ?z_repr ?z_tuple ?q_MOST_GAPS ?q_CLOCKS ?lq_CLOCKS ?o_BadClock ?r_BadClock ?sa_BadClock ?ex_BadClock ?ty_BadClock ?kc_BadClock ?no_BadClock_part ?ga_BadClock ?gg_BadClock ?hd_BadClock ?ha_BadClock ?hm_BadClock ?in_BadClock ?it_BadClock ?il_BadClock ?ic_BadClock ?ik_BadClock ?up_BadClock ?o_BadNumber ?r_BadNumber ?sa_BadNumber ?ex_BadNumber ?ty_BadNumber ?kc_BadNumber ?no_BadNumber_part ?ga_BadNumber ?gg_BadNumber ?hd_BadNumber ?ha_BadNumber ?hm_BadNumber ?in_BadNumber ?it_BadNumber ?il_BadNumber ?ic_BadNumber ?ik_BadNumber ?up_BadNumber ?o_BadRow ?r_BadRow ?sa_BadRow ?ex_BadRow ?ty_BadRow ?kc_BadRow ?no_BadRow_part ?ga_BadRow ?gg_BadRow ?hd_BadRow ?ha_BadRow ?hm_BadRow ?in_BadRow ?it_BadRow ?il_BadRow ?ic_BadRow ?ik_BadRow ?up_BadRow ?o_Misfit ?r_Misfit ?sa_Misfit ?ex_Misfit ?ty_Misfit ?kc_Misfit ?no_Misfit_part ?ga_Misfit ?gg_Misfit ?hd_Misfit ?ha_Misfit ?hm_Misfit ?in_Misfit ?it_Misfit ?il_Misfit ?ic_Misfit ?ik_Misfit ?up_Misfit ?nn_BadClock ?nn_BadNumber ?nn_BadRow ?nn_Misfit ?k_BadClock_BadClock ?k_BadClock_BadNumber ?k_BadClock_BadRow ?k_BadClock_Misfit ?k_BadNumber_BadClock ?k_BadNumber_BadNumber ?k_BadNumber_BadRow ?k_BadNumber_Misfit ?k_BadRow_BadClock ?k_BadRow_BadNumber ?k_BadRow_BadRow ?k_BadRow_Misfit ?k_Misfit_BadClock ?k_Misfit_BadNumber ?k_Misfit_BadRow ?k_Misfit_Misfit ?hn_ ?ht_
    (case g_BadClock => k_is)
    (case g_BadNumber => k_is)
    (case g_BadRow => k_is)
    (case g_Misfit => k_is)
    (case g_RopeError => k_is)
    (case a0 => k_is)
    (case l0 => k_is)
    (case c0 => k_is)
    (case k0 => k_is)
    (case a1 => k_is)
    (case l1 => k_is)
    (case c1 => k_is)
    (case k1 => k_is)
    (case a2 => k_is)
    (case l2 => k_is)
    (case c2 => k_is)
    (case k2 => k_is)
    (case a3 => k_is)
    (case l3 => k_is)
    (case c3 => k_is)
    (case k3 => k_is)
    (case a4 => k_is)
    (case l4 => k_is)
    (case c4 => k_is)
    (case k4 => k_is)
    (case a5 => k_is)
    (case l5 => k_is)
    (case c5 => k_is)
    (case k5 => k_is)
    (case a6 => k_is)
    (case l6 => k_is)
    (case c6 => k_is)
    (case k6 => k_is)
    (case a7 => k_is)
    (case l7 => k_is)
    (case c7 => k_is)
    (case k7 => k_is)
    (case a8 => k_is)
    (case l8 => k_is)
    (case c8 => k_is)
    (case k8 => k_is)
    (case a9 => k_is)
    (case l9 => k_is)
    (case c9 => k_is)
    (case k9 => k_is)
    (case a10 => k_is)
    (case l10 => k_is)
    (case c10 => k_is)
    (case k10 => k_is)
    (case a11 => k_is)
    (case l11 => k_is)
    (case c11 => k_is)
    (case k11 => k_is)
    (case a12 => k_is)
    (case l12 => k_is)
    (case c12 => k_is)
    (case k12 => k_is)
    (case a13 => k_is)
    (case l13 => k_is)
    (case c13 => k_is)
    (case k13 => k_is)
    (case a14 => k_is)
    (case l14 => k_is)
    (case c14 => k_is)
    (case k14 => k_is)
    (case a15 => k_is)
    (case l15 => k_is)
    (case c15 => k_is)
    (case k15 => k_is)
    (case a16 => k_is)
    (case l16 => k_is)
    (case c16 => k_is)
    (case k16 => k_is)
    (case a17 => k_is)
    (case l17 => k_is)
    (case c17 => k_is)
    (case k17 => k_is)
    (case a18 => k_is)
    (case l18 => k_is)
    (case c18 => k_is)
    (case k18 => k_is)
    (case a19 => k_is)
    (case l19 => k_is)
    (case c19 => k_is)
    (case k19 => k_is)
    (case z_abs => k_is)
    (case z_all => k_is)
    (case z_bool => k_is)
    (case z_int => k_is)
    (case z_isinstance => k_is)
    (case z_len => k_is)
    (case z_list => k_is)
    (case z_range => k_is)
    (case z_repr => k_is)
    (case z_tuple => k_is)
    (case q_MOST_GAPS => k_is)
    (case q_CLOCKS => k_is)
    (case lq_CLOCKS => k_is)
    (case o_BadClock => k_is)
    (case r_BadClock => kernel_rfl)
    (case sa_BadClock => k_is)
    (case ex_BadClock => k_is)
    (case ty_BadClock => k_is)
    (case kc_BadClock => k_is)
    (case no_BadClock_part => k_is)
    (case ga_BadClock => k_is)
    (case gg_BadClock => k_is)
    (case hd_BadClock => k_is)
    (case ha_BadClock => k_is)
    (case hm_BadClock => k_is)
    (case in_BadClock => k_is)
    (case it_BadClock => k_is)
    (case il_BadClock => k_is)
    (case ic_BadClock => k_is)
    (case ik_BadClock => k_is)
    (case up_BadClock => kernel_rfl)
    (case o_BadNumber => k_is)
    (case r_BadNumber => kernel_rfl)
    (case sa_BadNumber => k_is)
    (case ex_BadNumber => k_is)
    (case ty_BadNumber => k_is)
    (case kc_BadNumber => k_is)
    (case no_BadNumber_part => k_is)
    (case ga_BadNumber => k_is)
    (case gg_BadNumber => k_is)
    (case hd_BadNumber => k_is)
    (case ha_BadNumber => k_is)
    (case hm_BadNumber => k_is)
    (case in_BadNumber => k_is)
    (case it_BadNumber => k_is)
    (case il_BadNumber => k_is)
    (case ic_BadNumber => k_is)
    (case ik_BadNumber => k_is)
    (case up_BadNumber => kernel_rfl)
    (case o_BadRow => k_is)
    (case r_BadRow => kernel_rfl)
    (case sa_BadRow => k_is)
    (case ex_BadRow => k_is)
    (case ty_BadRow => k_is)
    (case kc_BadRow => k_is)
    (case no_BadRow_part => k_is)
    (case ga_BadRow => k_is)
    (case gg_BadRow => k_is)
    (case hd_BadRow => k_is)
    (case ha_BadRow => k_is)
    (case hm_BadRow => k_is)
    (case in_BadRow => k_is)
    (case it_BadRow => k_is)
    (case il_BadRow => k_is)
    (case ic_BadRow => k_is)
    (case ik_BadRow => k_is)
    (case up_BadRow => kernel_rfl)
    (case o_Misfit => k_is)
    (case r_Misfit => kernel_rfl)
    (case sa_Misfit => k_is)
    (case ex_Misfit => k_is)
    (case ty_Misfit => k_is)
    (case kc_Misfit => k_is)
    (case no_Misfit_part => k_is)
    (case ga_Misfit => k_is)
    (case gg_Misfit => k_is)
    (case hd_Misfit => k_is)
    (case ha_Misfit => k_is)
    (case hm_Misfit => k_is)
    (case in_Misfit => k_is)
    (case it_Misfit => k_is)
    (case il_Misfit => k_is)
    (case ic_Misfit => k_is)
    (case ik_Misfit => k_is)
    (case up_Misfit => kernel_rfl)
    (case nn_BadClock => kernel_rfl)
    (case nn_BadNumber => kernel_rfl)
    (case nn_BadRow => kernel_rfl)
    (case nn_Misfit => kernel_rfl)
    (case k_BadClock_BadClock => kernel_rfl)
    (case k_BadClock_BadNumber => kernel_rfl)
    (case k_BadClock_BadRow => kernel_rfl)
    (case k_BadClock_Misfit => kernel_rfl)
    (case k_BadNumber_BadClock => kernel_rfl)
    (case k_BadNumber_BadNumber => kernel_rfl)
    (case k_BadNumber_BadRow => kernel_rfl)
    (case k_BadNumber_Misfit => kernel_rfl)
    (case k_BadRow_BadClock => kernel_rfl)
    (case k_BadRow_BadNumber => kernel_rfl)
    (case k_BadRow_BadRow => kernel_rfl)
    (case k_BadRow_Misfit => kernel_rfl)
    (case k_Misfit_BadClock => kernel_rfl)
    (case k_Misfit_BadNumber => kernel_rfl)
    (case k_Misfit_BadRow => kernel_rfl)
    (case k_Misfit_Misfit => kernel_rfl)
    (case hn_ => k_is)
    (case ht_ => k_is)
  case hC0 => intro w; kernel_rfl
  case hC1 => intro w; kernel_rfl
