import PyProof.Rows.All
import Wide.All
import OpenK.AllK
import Wide.FinOn
import HandS.Base
import HandS.Call
import HandS.List
import HandS.Comp
import HandS.Ends
import HandS.Dict
import HandS.Iter
import HandS.Text
import HandS.Words
import HandS.IsInst
import HandS.TupAny
import HandS.Exc
import HandS.ExcIs
import HandS.ExcInit
import HandS.ExcField
import HandS.ExcOwn
import HandS.ExcValue
import HandS.WordsExc
import KE.KExcIs
import KE.KDflt
import HandS.Lambda
import HandS.EndTab
import HandS.EndOwn
import KE.KNestM
import HandS.Zip
import HandS.Walk
import HandS.Conv
import HandS.Small
import PySem.Challenge.RW_ropesays_k27_deeds_that_do_not_fit
set_option Elab.async false
set_option linter.all false
set_option maxRecDepth 100000
set_option maxHeartbeats 4000000
namespace Rp
open PySem PySem.Spec PyProof.Rows L2

/-! ### readings, a step each -/
section
variable {t u : TS} {D : Ends} {σ : L2.St} {H : Hp} {Q : VK} {v x y : V} {ta tb te : TE} {r : R2} {i j : Int} {g : Int → Int → V} {tt tt' : TT} {tl tr : TA}
theorem r_start {N : List Str} {vs : List V} {l : L2.St} (e : L2.start N vs = l) (h : t D l H) : t D (L2.start N vs) H := e ▸ h
theorem r_seq (h : t { D with nx := u D } σ H) : tSeq t u D σ H := h
/-- the ways meet: M -/
theorem r_cut (M : L2.St → Hp → Prop) (hu : ∀ σ H, M σ H → u D σ H) (h : (∀ σ H, M σ H → u D σ H) → t { D with nx := u D } σ H) : tSeq t u D σ H := h hu
theorem r_next (h : D.nx σ H) : tNext D σ H := h
theorem r_drop (h : te σ H fun _ H1 => D.nx σ H1) : tDrop te D σ H := h
theorem r_var {k : Nat} (h : σ[k]? = some (some v)) (q : Q v H) : tVar k σ H Q := ⟨v, h, q⟩
theorem r_varE {k : Nat} (h : ∃ v, σ[k]? = some (some v) ∧ Q v H) : tVar k σ H Q := h
theorem r_c (q : Q v H) : tC v σ H Q := q
theorem r_op (h : ta σ H fun x H1 => tb σ H1 fun y H2 => r x y H2 Q) : tOp r ta tb σ H Q := h
theorem r_I0 (q : Q (g i j) H) : rI0 g (.int i) (.int j) H Q := ⟨i, j, rfl, rfl, q⟩
theorem r_I {C : Int → Int → Prop} (c : C i j) (q : Q (g i j) H) : rI C g (.int i) (.int j) H Q := ⟨i, j, rfl, rfl, c, q⟩
theorem r_test {Q : Bool → Hp → Prop} (h : te σ H fun x H' => ∃ k, x = .bl k ∧ Q k H') : tTest te σ H Q := h
theorem r_tb {Q : Bool → Hp → Prop} (h : te σ H fun x H' => ∃ k, x = .bl k ∧ Q k H') : tB te σ H Q := h
theorem r_bl {k : Bool} {P : Bool → Prop} (q : P k) : ∃ k', V.bl k = .bl k' ∧ P k' := ⟨k, rfl, q⟩
theorem r_if (h : tt σ H fun b H1 => if b = true then t D σ H1 else u D σ H1) : tIfS tt t u D σ H := h
theorem r_not {Q : Bool → Hp → Prop} (h : tt σ H fun c H1 => Q (!c) H1) : tNot tt σ H Q := h
theorem r_and {Q : Bool → Hp → Prop} (h : tt σ H fun c H1 => if c = true then tt' σ H1 Q else Q false H1) : tAnd tt tt' σ H Q := h
theorem r_or {Q : Bool → Hp → Prop} (h : tt σ H fun c H1 => if c = true then Q true H1 else tt' σ H1 Q) : tOr tt tt' σ H Q := h
theorem r_andV (h : ta σ H fun x H1 => ∃ c, x = .bl c ∧ if c = true then tb σ H1 Q else Q (.bl false) H1) : tAndV ta tb σ H Q := h
theorem r_orV (h : ta σ H fun x H1 => ∃ c, x = .bl c ∧ if c = true then Q (.bl true) H1 else tb σ H1 Q) : tOrV ta tb σ H Q := h
theorem r_notV (h : ta σ H fun x H1 => ∃ c, x = .bl c ∧ Q (.bl (!c)) H1) : tNotV ta σ H Q := h
theorem r_ifx (h : tt σ H fun c H1 => if c = true then ta σ H1 Q else tb σ H1 Q) : tIf tt ta tb σ H Q := h
theorem r_asg {g : TG} (h : te σ H fun x H1 => g x σ H1 D.nx) : tAsg te g D σ H := h
theorem r_gname {k : Nat} {Q : L2.St → Hp → Prop} (h : Q (List.set σ k (some v)) H) : gName k v σ H Q := h
theorem r_gsub {to ti : TE} {ts : TSet} {Q : L2.St → Hp → Prop} (h : to σ H fun o H1 => ti σ H1 fun i H2 => ts o i v H2 fun H3 => Q σ H3) : gSub to ti ts v σ H Q := h
theorem r_ret (h : te σ H D.rt) : tRet te D σ H := h
theorem r_cb {r : List V → Hp → VK → Prop} (h : tl σ H fun vs H1 => r vs H1 Q) : tCB r tl σ H Q := h
theorem r_cons {Q : List V → Hp → Prop} (h : ta σ H fun x H1 => tr σ H1 fun xs H2 => Q (x :: xs) H2) : tCons ta tr σ H Q := h
theorem r_nil {Q : List V → Hp → Prop} (h : Q [] H) : tNil σ H Q := h
theorem r_ixL {K : PySem.W.Frag} {p : Addr} {xs : List V} (hs : SqL K H p xs) (ha : atI xs i = some v) (q : Q v H) : rIxL K (.ref p) (.int i) H Q := ⟨p, xs, i, v, rfl, rfl, hs, ha, q⟩
theorem r_setL {p : Addr} {xs : List V} {k : Nat} {Q : Hp → Prop} (hs : H p = some (.lst xs)) (hi : ixN xs.length i = some k) (q : Q (upd H p (.lst (xs.set k v)))) : rSetL (.ref p) (.int i) v H Q := ⟨p, xs, i, k, rfl, rfl, hs, hi, q⟩
theorem r_sl {r : V → Option Int → Option Int → Hp → VK → Prop} {tlo thi : TO} (h : te σ H fun x H1 => tlo σ H1 fun l H2 => thi σ H2 fun u H3 => r x l u H3 Q) : tSl r te tlo thi σ H Q := h
theorem r_pnone {Q : Option Int → Hp → Prop} (h : Q none H) : tNoPart σ H Q := h
theorem r_pint {Q : Option Int → Hp → Prop} (h : te σ H fun x H1 => ∃ i, x = .int i ∧ Q (some i) H1) : tPart te σ H Q := h
theorem r_un {ru : V → Hp → VK → Prop} (h : ta σ H fun x H1 => ru x H1 Q) : tUn ru ta σ H Q := h
theorem r_lst (h : tl σ H fun xs H1 => xs.length ≤ sizeLine ∧ ∀ p, H1 p = none → Q (.ref p) (upd H1 p (.lst xs))) : tLst tl σ H Q := h
theorem r_tup (h : tl σ H fun xs H1 => xs.length ≤ sizeLine ∧ ∀ p, H1 p = none → Q (.ref p) (upd H1 p (.tup xs))) : tTup tl σ H Q := h
theorem len_ok {n : Nat} (h : Nat.ble n sizeLine = true) : n ≤ sizeLine := Nat.le_of_ble_eq_true h
theorem r_lc {wi : TI} {g : TG} {vs : List Nat} (h : wi σ H fun J G => ∀ L, G L = none → ∃ M : Nat → Nat → Hp → Prop, (∃ n, M 0 n (upd G L (.lst []))) ∧ ∀ k n G, M k n G →
    (J.stop k G ∧ Q (.ref L) G) ∨ (J.go k G ∧ ∃ Z : Hp → Prop, (∀ G', Z G' → ∃ n', n' < n ∧ M (k + 1) n' G') ∧
      ∀ e G', J.yld k G e G' → g e (wipe σ vs) G' fun τ G2 => wipe τ vs = wipe σ vs ∧ tt τ G2 fun b G3 =>
        if b = true then te τ G3 fun y G4 => ∃ ac, G4 L = some (.lst ac) ∧ ac.length < sizeLine ∧ Z (upd G4 L (.lst (ac ++ [y]))) else Z G3)) : tLc wi g tt te vs σ H Q := h
theorem r_ilist {K : PySem.W.Frag} {R : It → Hp → Prop} (h : te σ H fun x G => ∃ a, x = .ref a ∧ (∃ xs, SqL K G a xs) ∧ R (Itl K a) G) : iList K te σ H R := h
theorem r_itup {K : PySem.W.Frag} {R : It → Hp → Prop} (h : te σ H fun x G => ∃ a, x = .ref a ∧ (∃ xs, SqT K G a xs) ∧ R (Itt K a) G) : iTup K te σ H R := h
theorem r_irng1 {R : It → Hp → Prop} (h : tl σ H fun vs G => ∃ j : Int, vs = [.int j] ∧ -(2 ^ 62) ≤ j ∧ j < 2 ^ 62 ∧ R (Itr 0 j.toNat) G) : iRng1 tl σ H R := h
theorem r_irng2 {R : It → Hp → Prop} (h : tl σ H fun vs G => ∃ i j : Int, vs = [.int i, .int j] ∧ (-(2 ^ 62) ≤ i ∧ i < 2 ^ 62 ∧ -(2 ^ 62) ≤ j ∧ j < 2 ^ 62) ∧ R (Itr i (j - i).toNat) G) : iRng2 tl σ H R := h
theorem r_for {wi : TI} {g : TG} {tb : TS} (h : wi σ H fun J G => ∃ M : Nat → Nat → L2.St → Hp → Prop, (∃ n, M 0 n σ G) ∧ ∀ k n τ G, M k n τ G →
    (J.stop k G ∧ D.nx τ G) ∨ (J.go k G ∧ ∃ Z : L2.St → Hp → Prop, (∀ τ' G', Z τ' G' → ∃ n', n' < n ∧ M (k + 1) n' τ' G') ∧
      ∀ e G', J.yld k G e G' → g e τ G' fun τ2 G2 => tb { D with nx := Z, ct := Z, bk := D.nx } τ2 G2)) : tFor wi g tb D σ H := h
theorem r_par {m n : Nat} (h : tl σ H fun vs G => ∃ v w, vs = [v, w] ∧ D.nx ((σ.set m (some v)).set n (some w)) G) : tPar m n tl D σ H := h
theorem r_isN (q : Q (.bl (decide (x = .non))) H) : (fun (x y : V) (H : Hp) (Q : VK) => y = .non ∧ Q (.bl (decide (x = .non))) H) x .non H Q := ⟨rfl, q⟩
theorem r_notN (q : Q (.bl (!decide (x = .non))) H) : (fun (x y : V) (H : Hp) (Q : VK) => y = .non ∧ Q (.bl (!decide (x = .non))) H) x .non H Q := ⟨rfl, q⟩
theorem r_call {sp : Sp} {dvs : List V} {E : XK} (h : tl σ H fun vs H1 => sp (vs ++ dvs) H1 Q E) : tCall sp dvs E tl σ H Q := h
theorem r_yes {Q : Bool → Hp → Prop} (h : Q true H) : tYes σ H Q := h
theorem r_true {A B : Prop} (h : A) : if true = true then A else B := iteT h
theorem r_false {A B : Prop} (h : B) : if false = true then A else B := iteF h
theorem r_truen {A B : Prop} (h : B) : if (!true) = true then A else B := iteF h
theorem r_falsen {A B : Prop} (h : A) : if (!false) = true then A else B := iteT h
/-- int(x) -/
theorem r_int (q : Q (.int i) H) : (fun (xs : List V) (H : Hp) (Q : VK) => (∃ i, xs = [.int i] ∧ Q (.int i) H) ∨ ∃ k, xs = [.bl k] ∧ Q (.int (if k then 1 else 0)) H) [.int i] H Q := .inl ⟨i, rfl, q⟩
end
end Rp
namespace Rp
open PySem PySem.Spec PyProof.Rows L2
/-! ### what draws: a box [cells, laps, rest] at q, its cells at c -/
/-- all but what stands at q stays -/
def But (q : Addr) (H H' : Hp) : Prop := ∀ b o, b ≠ q → H b = some o → H' b = some o
theorem But.refl (q : Addr) (H : Hp) : But q H H := fun _ _ _ h => h
theorem But.trans {q : Addr} {H H1 H2 : Hp} (a : But q H H1) (b : But q H1 H2) : But q H H2 := fun c o n h => b c o n (a c o n h)
theorem But.upd {q : Addr} {H : Hp} (o : HO) : But q H (upd H q o) := fun b u n h => by rw [upd_ne n]; exact h
theorem But.upd2 {q : Addr} {H H' : Hp} (e : But q H H') (o : HO) : But q H (L2.upd H' q o) := fun b u n h => by rw [upd_ne n]; exact e b u n h
theorem But.neu {q : Addr} {H H' : Hp} (e : But q H H') {p : Addr} {o : HO} (h : H' p = none) (hq : H p = none ∨ True := .inr True.intro) : But q H (L2.upd H' p o) := fun b u n k => by
  have k' := e b u n k
  rw [upd_ne (ne_of_none k' h)]
  exact k'
structure Dr (q c : Addr) (ns : List Int) (lap : Nat) (H : Hp) : Prop where
  ne : c ≠ q
  box : ∃ rest : Int, H q = some (.lst [.ref c, .int (lap : Int), .int rest])
  cells : H c = some (.lst (ns.map V.int))
  len : ns.length ≤ 60
theorem Dr.neu {q c : Addr} {ns : List Int} {lap : Nat} {H : Hp} (d : Dr q c ns lap H) {p : Addr} {o : HO} (h : H p = none) : Dr q c ns lap (upd H p o) := by
  obtain ⟨ne, ⟨rest, b⟩, cl, ln⟩ := d
  exact ⟨ne, ⟨rest, by rw [upd_ne (ne_of_none b h)]; exact b⟩, by rw [upd_ne (ne_of_none cl h)]; exact cl, ln⟩
/-- a number is drawn -/
def spDraw : Sp := fun vs H Q _ => ∃ (q c : Addr) (ns : List Int) (lap : Nat) (many : Int), vs = [.ref q, .int many] ∧ 0 < many ∧ many < 1073741824 ∧ lap < 2 ^ 20 ∧ Dr q c ns lap H ∧
  ∀ (H' : Hp) (lap' : Nat) (r : Int), lap' ≤ lap + 1 → Dr q c ns lap' H' → But q H H' → 0 ≤ r → r < many → Q (.int r) H'
theorem at0 {a b c : V} : atI [a, b, c] 0 = some a := rfl
theorem at1 {a b c : V} : atI [a, b, c] 1 = some b := rfl
theorem at2 {a b c : V} : atI [a, b, c] 2 = some c := rfl
theorem box_at {q c : Addr} {ns : List Int} {lap : Nat} {H : Hp} {rest : Int} (ne : c ≠ q) (b : H q = some (.lst [.ref c, .int (lap : Int), .int rest])) (cl : H c = some (.lst (ns.map V.int))) (ln : ns.length ≤ 60) : Dr q c ns lap H := ⟨ne, ⟨rest, b⟩, cl, ln⟩
theorem fmod_in {i j : Int} (h : 0 < j) : 0 ≤ i.fmod j ∧ i.fmod j < j := by
  rw [Int.fmod_eq_emod_of_nonneg i (by omega)]
  exact ⟨Int.emod_nonneg _ (by omega), Int.emod_lt_of_pos _ h⟩
theorem fits3 {m a b c : Int} {lap : Nat} (h0 : 0 ≤ m) (h1 : m < 2147483648) (hl : lap < 2 ^ 20) (ha : 0 ≤ a) (ha' : a < 131072) (hb : 0 ≤ b) (hb' : b < 131072) (hc : 0 ≤ c) (hc' : c < 131072) :
    (m * (2 * (lap : Int) + a) + b * (lap : Int) * (lap : Int) + c).natAbs < 2 ^ 64 := by
  have l0 : (0 : Int) ≤ (lap : Int) := by omega
  have l1 : (lap : Int) ≤ 1048576 := by omega
  have e1 : 0 ≤ m * (2 * (lap : Int) + a) := Int.mul_nonneg h0 (by omega)
  have e2 : m * (2 * (lap : Int) + a) ≤ 2147483648 * 2228224 := Int.mul_le_mul (by omega) (by omega) (by omega) (by omega)
  have e3 : 0 ≤ b * (lap : Int) := Int.mul_nonneg hb l0
  have e4 : b * (lap : Int) ≤ 131072 * 1048576 := Int.mul_le_mul (by omega) l1 l0 (by omega)
  have e5 : 0 ≤ b * (lap : Int) * (lap : Int) := Int.mul_nonneg e3 l0
  have e6 : b * (lap : Int) * (lap : Int) ≤ (131072 * 1048576) * 1048576 := Int.mul_le_mul e4 l1 l0 (by omega)
  omega
theorem fits1 {m b : Int} {lap : Nat} (hb : 0 ≤ b) (hb' : b < 131072) (hl : lap < 2 ^ 20) : -(2 ^ 64) < b * (lap : Int) ∧ b * (lap : Int) < 2 ^ 64 := by
  have e3 : 0 ≤ b * (lap : Int) := Int.mul_nonneg hb (by omega)
  have e4 : b * (lap : Int) ≤ 131072 * 1048576 := Int.mul_le_mul (by omega) (by omega) (by omega) (by omega)
  omega
theorem dp_ints {K : PySem.W.Frag} {H : Hp} : ∀ (ns : List Int), DpAll K H (ns.map V.int) (ns.map PyData.int)
  | [] => .nil
  | n :: r => .cons (.int n) (dp_ints r)
theorem canLay_ints : ∀ (ns : List Int), PyData.canLayAll0 (ns.map PyData.int) = true
  | [] => by simp [PyData.canLayAll0]
  | n :: r => by simp [PyData.canLayAll0, PyData.canLay0, canLay_ints r]
theorem depth_ints : ∀ (ns : List Int), PyData.depthAll (ns.map PyData.int) = 0
  | [] => by simp [PyData.depthAll]
  | n :: r => by simp [PyData.depthAll, PyData.depth, depth_ints r]
theorem shaped_ints (ns : List Int) : SeqAt.shaped (.list (ns.map PyData.int)) = true := by
  simp [SeqAt.shaped, PyData.canLay0, PyData.depth, canLay_ints, depth_ints]
theorem eqv_nil_ints (ns : List Int) : PyData.eqv (.list (ns.map PyData.int)) (.list []) = ns.isEmpty := by
  cases ns <;> simp [PyData.eqv, PyData.eqvAll]
/-- an int list, compared with a new [] -/
theorem ne_nil {K : PySem.W.Frag} {H : Hp} {c p : Addr} {ns : List Int} {Q : VK} (hc : H c = some (.lst (ns.map V.int))) (hp : H p = some (.lst [])) (q : Q (.bl (!ns.isEmpty)) H) : rNeD K (.ref c) (.ref p) H Q :=
  ⟨_, _, .lst (SqL.of hc) (dp_ints ns), .lst (SqL.of hp) .nil, shaped_ints ns, (shaped_ints []), by rw [eqv_nil_ints]; exact q⟩
theorem map_len {ns : List Int} : (ns.map V.int).length = ns.length := List.length_map ..
theorem at_ints {ns : List Int} {k : Int} (h0 : 0 ≤ k) (h1 : k < (ns.length : Int)) : ∃ n, atI (ns.map V.int) k = some (.int n) := by
  obtain ⟨j, rfl⟩ : ∃ j : Nat, k = (j : Int) := ⟨k.toNat, by omega⟩
  have hk : j < ns.length := by omega
  refine ⟨ns[j], atI_nat ?_⟩
  rw [List.getElem?_map, List.getElem?_eq_getElem hk]
  rfl
/-- the box of cells is made -/
def spBox (K : PySem.W.Frag) : Sp := fun vs H Q _ => ∃ (a : Addr) (ns : List Int), vs = [.ref a] ∧ SqL K H a (ns.map V.int) ∧ ∀ (H' : Hp) (q c : Addr) (ns' : List Int), Dr q c ns' 0 H' → Same H H' → H q = none → Q (.ref q) H'
/-- one of some things -/
def spOf (K : PySem.W.Frag) : Sp := fun vs H Q _ => ∃ (q c a : Addr) (ns : List Int) (lap : Nat) (xs : List V), vs = [.ref q, .ref a] ∧ SqL K H a xs ∧ 0 < xs.length ∧ xs.length < 1000000 ∧ lap < 2 ^ 20 ∧ a ≠ q ∧ Dr q c ns lap H ∧
  ∀ (H' : Hp) (lap' : Nat) (i : Nat) (v : V), lap' ≤ lap + 1 → Dr q c ns lap' H' → But q H H' → xs[i]? = some v → Q v H'
theorem cut60 (ns : List Int) : ∃ ns' : List Int, cutV (ns.map V.int) none (some 60) = ns'.map V.int ∧ ns'.length ≤ 60 := by
  refine ⟨((ns.drop (HT.sIx (ns.map V.int).length 0 none)).take (HT.sIx (ns.map V.int).length (ns.map V.int).length (some 60) - HT.sIx (ns.map V.int).length 0 none)), ?_, ?_⟩
  · unfold cutV
    rw [List.map_take, List.map_drop]
  · refine Nat.le_trans (List.length_take_le _ _) ?_
    have e : (60 : Int) = ((60 : Nat) : Int) := rfl
    rw [e, HT.sIx_nat]
    omega
theorem same_neu {H H' : Hp} (e : Same H H') {p : Addr} {o : HO} (h : H' p = none) : Same H (upd H' p o) := fun b u k => by
  have k' := e b u k
  rw [upd_ne (ne_of_none k' h)]
  exact k'
theorem But.seq {K : PySem.W.Frag} {q : Addr} {H H' : Hp} {a : Addr} {xs : List V} (e : But q H H') (n : a ≠ q) (h : SqL K H a xs) : SqL K H' a xs := by
  rcases h with (h | ⟨o, h⟩) | h
  · exact .inl (.inl (e _ _ n h))
  · exact .inl (.inr ⟨o, e _ _ n h⟩)
  · exact .inr h
theorem at_some {xs : List V} {k : Int} (h0 : 0 ≤ k) (h1 : k < (xs.length : Int)) : ∃ (i : Nat) (v : V), atI xs k = some v ∧ xs[i]? = some v := by
  obtain ⟨j, rfl⟩ : ∃ j : Nat, k = (j : Int) := ⟨k.toNat, by omega⟩
  have hk : j < xs.length := by omega
  exact ⟨j, xs[j], atI_nat (List.getElem?_eq_getElem hk), List.getElem?_eq_getElem hk⟩
end Rp
namespace Rp
open PySem PySem.Spec PyProof.Rows L2
/-! ### defs that are called while no builtin of containers runs: what repr asks -/
/-- the def at f keeps the promise sp, called where nothing is being shown -/
structure FnG (P : Program) (w : World) (K : PySem.W.Frag) (mg : Str → Option Value) (base : Heap) (k : Nat) (f : Addr) (fd : FuncData) (ps : List Str) (sp : Sp) : Prop where
  arity : ∀ {vs H Q E}, sp vs H Q E → vs.length = ps.length
  go : ∀ {A : Around} {fr : List Env} {s : Shared} {H : Hp} {args : Args} {us : List Value} {vs : List V} {Q : VK} {E : XK}, A.guards = some [] → Room k A → Env0 P w K mg base A fr s H →
    BindsTo s fd args (ps.zip us) → Vals vs us → sp vs H Q E → codeAny (model P w) A (.call (.ref f) args) (CR CX0 fr P w H s Q E) s
section
variable {P : Program} {w : World} {K : PySem.W.Frag} {mg : Str → Option Value} {base : Heap} {k j : Nat} {f : Addr} {fd : FuncData} {ps : List Str} {sp : Sp}
theorem FnG.of (F : FnOk P w K mg base CX0 k f fd ps sp) : FnG P w K mg base k f fd ps sp := ⟨F.len _ _ _ _, fun _ r e b v q => F.run _ _ _ _ _ _ _ _ _ r e b v q⟩
theorem FnG.up (F : FnG P w K mg base j f fd ps sp) (h : j ≤ k) : FnG P w K mg base k f fd ps sp := ⟨F.arity, fun g r => F.go g (r.mono h)⟩
/-- the rule for a def -/
theorem fng {x qual : Str} {st : Stmt} {N : List Str} (F : Fun K x qual st f fd) (S : FnScope N ps (defScope st)) (ar : ∀ {vs H Q E}, sp vs H Q E → vs.length = ps.length)
    (body : ∀ {cdv : Value} {A : Around} {fr : List Env} {s : Shared} {H : Hp} {vs : List V} {Q : VK} {E : XK}, A.guards = some [] → Room k (A.deeper (envOfC qual (defScope st) s.heap.objs.size f cdv)) → sp vs H Q E →
      ∃ t, PSs (cxOf CX0 P w K mg base N qual (defScope st) f cdv A fr s H E).nox (defBody st) t ∧ t ⟨fun _ G => Q .non G, Q, fun _ _ => False, fun _ _ => False⟩ (L2.start N vs) H) : FnG P w K mg base (k + 1) f fd ps sp := by
  obtain ⟨oc, od, kV, dc, pm, an, cdv, ct, sl, e, look, code⟩ := F.ex
  subst e
  constructor
  · exact ar
  intro A fr s H args us vs Q E hg room env bind rel q
  have size := ar q
  have kin := env.mod.kin.keeps fun b o z => (env.bs b o z).1
  have nolim := env.mod.nolimit.keeps fun b o z => (env.bs b o z).1
  have knd : ∀ p ∈ ps.zip us, (defScope st).names.lookup p.1 = some .local ∨ ((defScope st).names.lookup p.1 = some .cell ∧ ((cellsFrom (s.heap.objs.size + 1) (defScope st).names []).lookup p.1).isSome = true) := by
    rintro ⟨n, v⟩ hp
    exact (S.par n (List.of_mem_zip hp).1).imp id fun z => ⟨z, PySem.W.cellsFrom_some _ _ _ (.inl z)⟩
  apply codeAny_call_function room.depth (kin _ _ look) rfl S.co S.gen rfl (PySem.W.codeRec_of kin code)
  apply bind
  apply wpAny_newFunctionEnv_cells S.kind knd
  intro en he s1 ic
  subst he
  refine ⟨nolim.keeps ic.toInCall.keep, codeAny_func ?_⟩
  obtain ⟨t, pt, rd⟩ := body (cdv := cdv) (fr := fr) (E := E) hg (room.deeper _) q
  have inv : Inv (cxOf CX0 P w K mg base N qual (defScope st) f cdv A fr s H E) [] (L2.start N vs) H s1 := inv_start S room.hd env size rel ic
  apply wpAny_mono (pt.nox.run [] s1 (L2.start N vs) H _ inv rd)
  · intro fl s2 hs
    cases fl with
    | ret u => obtain ⟨v, τ, G, J, r, z⟩ := hs; exact ⟨v, G, J.os, J.bare, J.base, J.hok, r, z⟩
    | next => obtain ⟨τ, G, J, z⟩ := hs; exact ⟨.non, G, J.os, J.bare, J.base, J.hok, rfl, z⟩
    | brk => obtain ⟨_, _, _, z⟩ := hs; exact z.elim
    | cont => obtain ⟨_, _, _, z⟩ := hs; exact z.elim
  · intro er s2 hs
    exact hs
end
section
variable {X : Cx} {k : Nat} {f : Addr} {fd : FuncData} {ps ks : List Str} {sp : Sp} {E : XK} {x : Str} {p pos : Pos} {e : Expr} {es : List Expr} {t tk : TA} {kws : List Keyword}
/-- what the callee does, from the caller's state -/
theorem goes {pins : List (Addr × Obj)} {σ : L2.St} {H : Hp} {s : Shared} {Q : VK} {args : Args} {us : List Value} {vs : List V} (F : FnG X.prog X.w X.K X.mg X.base k f fd ps sp) (g : X.A.guards = some []) (r : Room k X.A)
    (I : Inv X pins σ H s) (b : BindsTo s fd args (ps.zip us)) (rel : Vals vs us) (q : sp vs H Q E) : codeAny (model X.prog X.w) X.A (.call (.ref f) args) (fun a s2 => ∃ u, a = .ok (.ret u) ∧ EP X pins σ Q u s2) s := by
  apply codeAny_mono (F.go g r I.env0 b rel q)
  intro a s2 h
  rcases a with er | fl
  · exact h.elim
  · cases fl with
    | ret u => exact ⟨u, rfl, I.after h⟩
    | next => exact h.elim
    | brk => exact h.elim
    | cont => exact h.elim
theorem pe_callG (F : FnG X.prog X.w X.K X.mg X.base k f fd ps sp) (g : X.A.guards = some []) (r : Room k X.A) (hg : Gl X x) (hm : X.mg x = some (.ref f)) (hk : PySem.W.keepIn X.K (.ref f) = true) (hb : Binds X.K fd ps [])
    (ha : PA X (e :: es) t) (d1 : (x == ("__debug__" : Str)) = false := by decide) (d2 : starEach (e :: es) X.env = (false, eval e X.env) :: starEach es X.env := by rfl) (d3 : (backTo pos (starEach es X.env)).any (·.1) = false := by rfl) :
    PE X (.Call (.Name x p) (e :: es) [] pos) (fun σ H Q => t σ H fun vs G => sp vs G Q E) := by
  constructor
  intro pins s σ H Q I h
  apply wpAny_Call_Name_kw (ld_glob I hg hm ?_ d1)
  apply PySem.W.callWith_K (h₀ := X.base) I.ok.mod.kin hk ?_ d2 d3
  apply thn (ha.run pos pins s σ H _ I h)
  rintro us s1 ⟨vs, H1, I1, rel, q⟩
  refine ⟨I1.kIn, wpAny_call ?_⟩
  have n : (us ++ ([] : List Value)).length = ps.length := by
    rw [List.append_nil, ← rel.length]
    exact F.arity q
  have bb := hb s1 us I1.kIn n
  rw [List.append_nil] at bb
  apply codeAny_mono (goes F g r I1 bb rel q)
  rintro a s2 ⟨u, rfl, z⟩
  exact z
/-- how written keywords ks, behind n arguments by place, come to the parameters: parameter i is value number ix[i] -/
structure KBx (K : PySem.W.Frag) (fd : FuncData) (ps : List Str) (n : Nat) (ks : List Str) (ix : List Nat) : Prop where
  to : ∀ (s : Shared) (us ws : List Value), us.length = n → ws.length = ks.length → BindsTo s fd ⟨us, ks.zip ws⟩ (ps.zip (ix.map fun i => (us ++ ws).getD i .none))
theorem vals_ix {vs : List V} {us : List Value} (r : Vals vs us) : ∀ ix : List Nat, Vals (ix.map fun i => vs.getD i .non) (ix.map fun i => us.getD i .none)
  | [] => .nil
  | i :: l => by
    refine .cons ?_ (vals_ix r l)
    show L2.RelV (vs.getD i .non) (us.getD i .none)
    rw [List.getD_eq_getElem?_getD, List.getD_eq_getElem?_getD]
    cases h : vs[i]? with
    | none => rw [r.none_of h]; rfl
    | some v =>
      obtain ⟨u, hu, z⟩ := r.get h
      rw [hu]
      exact z
def tKw (sp : Sp) (n m : Nat) (ix : List Nat) (E : XK) (t tk : TA) : TE := fun σ H Q => t σ H fun vs G => tk σ G fun zs G2 => vs.length = n ∧ zs.length = m ∧ sp (ix.map fun i => (vs ++ zs).getD i .non) G2 Q E
theorem pe_callGK0 {ix : List Nat} (F : FnG X.prog X.w X.K X.mg X.base k f fd ps sp) (g : X.A.guards = some []) (r : Room k X.A) (hg : Gl X x) (hm : X.mg x = some (.ref f)) (hk : PySem.W.keepIn X.K (.ref f) = true) (hb : KBx X.K fd ps 0 ks ix)
    (hkw : PK X kws tk) (d4 : (backToKw pos (keywordEach kws X.env)).all (·.1.isSome) = true := by rfl) (d5 : (backToKw pos (keywordEach kws X.env)).filterMap (·.1) = ks := by rfl) (d1 : (x == ("__debug__" : Str)) = false := by decide)
    (d3 : (backToKw pos (keywordEach kws X.env)).any (·.1.isNone) = false := by rfl) :
    PE X (.Call (.Name x p) [] kws pos) (tKw sp 0 ks.length ix E L2.tNil tk) := by
  constructor
  intro pins s σ H Q I h
  apply wpAny_Call_Name_kw (ld_glob I hg hm ?_ d1)
  apply PySem.W.callWith_KW0 (h₀ := X.base) I.ok.mod.kin hk d4 ?_ d3
  apply thn (hkw.run pos pins s σ H _ I h)
  rintro ws s2 ⟨zs, H2, I2, rz, _, lz, q⟩
  refine ⟨I2.kIn, ?_⟩
  rw [d5]
  apply wpAny_call
  have lw : ws.length = ks.length := by rw [← rz.length]; exact lz
  apply codeAny_mono (goes F g r I2 (hb.to s2 [] ws rfl lw) (vals_ix (.append .nil rz) ix) q)
  rintro a s3 ⟨u, rfl, z⟩
  exact z
end
/-- sys.modules stands in the base -/
def HasMods (base : Heap) : Prop := ∃ mm, base.Ns sysModules mm
/-! ### the law's call, from its promise -/
theorem law_go {P : Program} {w : World} {K : PySem.W.Frag} {mg mb : Str → Option Value} {k : Nat} {fa a : Addr} {fd : FuncData} {x : Str} {sp : Sp} {s : Shared} {us : List Value} {ns : List Int}
    (kin : K.In s.heap) (gl : s.heap.Ns mainGlobals mg) (bl : s.heap.Ns builtinsNs mb) (boot : ∀ y : Str, y ≠ "__name__" → mb y = bootBuiltins y) (nolim : s.heap.NoLimit) (mods : HasMods s.heap) (gen : s.gens = #[])
    (ob : s.heap.get? a = some { cls := .type "list", data := .seq us.toArray }) (nums : IntsAre us ns) (size : ns.length ≤ sizeLine) (room : Room k callerA)
    (F : ∀ base : Heap, K.In base → base.Ns mainGlobals mg → HasMods base → FnG P w K mg base k fa fd [x] sp) (bind : ∀ (t : Shared) (u : Value), BindsTo t fd ⟨[u], []⟩ [(x, u)])
    (prom : ∀ H : Hp, SqL K H a (ns.map V.int) → sp [.ref a] H (fun v _ => v = .bl true) fun _ _ _ => False) :
    codeAny (model P w) callerA (.call (.ref fa) ⟨[.ref a], []⟩) (fun r t => r = .ok (.ret (.bool true)) ∧ OldK s.heap t.heap ∧ t.os = s.os ∧ AllBare t.gens) s := by
  have rel := vals_ints nums
  -- H tracks nothing, or the script alone, as the object that it is
  suffices main : ∀ H : Hp, SqL K H a (ns.map V.int) → HOk P w H s.heap → (∀ b u, H b = some u → b = a ∧ K.lookup a = none ∧ ∃ o y, u = .frz o y ∧ s.heap.get? b = some o) →
      codeAny (model P w) callerA (.call (.ref fa) ⟨[.ref a], []⟩) (fun r t => r = .ok (.ret (.bool true)) ∧ OldK s.heap t.heap ∧ t.os = s.os ∧ AllBare t.gens) s by
    by_cases hk : K.lookup a = none
    · let o : Obj := { cls := .type "list", data := .seq us.toArray }
      refine main (fun b => if b = a then some (.frz o (.lst (ns.map V.int))) else none) (.inl (.inr ⟨o, if_pos rfl⟩)) ?_ ?_
      · intro b u z
        by_cases h : b = a
        · subst h
          cases (if_pos rfl).symm.trans z
          exact ⟨ob, by rw [List.length_map]; exact size, us, _, rel, ob⟩
        · cases (if_neg h).symm.trans z
      · intro b u z
        by_cases h : b = a
        · subst h
          cases (if_pos rfl).symm.trans z
          exact ⟨rfl, hk, o, _, rfl, ob⟩
        · cases (if_neg h).symm.trans z
    · obtain ⟨o, ho⟩ := Option.ne_none_iff_exists'.mp hk
      have e := kin a o ho
      rw [ob] at e
      cases e
      exact main (fun _ => none) (.inr ⟨_, us.toArray, _, ho, rfl, rfl, rfl, by rw [List.size_toArray, nums.length]; exact size, by simpa using rel⟩) (fun b u z => nomatch z) fun b u z => nomatch z
  intro H seq hok only
  have hid : ∀ {b o}, s.heap.get? b = some o → H b = none → (hidT s.heap H).get? b = some o := fun e n => hidT_get e n
  have free : ∀ {b o} {es : Array DictEntry} {n : Nat}, s.heap.get? b = some o → o.data = .dict es n → H b = none := by
    intro b o es n e d
    cases z : H b with
    | none => rfl
    | some u =>
      obtain ⟨rfl, _⟩ := only b u z
      rw [ob] at e
      cases e
      cases d
  have names : ∀ {b} {m : Str → Option Value}, s.heap.Ns b m → (hidT s.heap H).Ns b m := by
    rintro b m ⟨o, es, n, e, d, z⟩
    exact ⟨o, es, n, hid e (free e d), d, z⟩
  have kin' : K.In (hidT s.heap H) := by
    intro b o e
    refine hid (kin b o e) ?_
    cases z : H b with
    | none => rfl
    | some u =>
      obtain ⟨rfl, n, _⟩ := only b u z
      rw [n] at e
      cases e
  obtain ⟨mc, l1, l2⟩ := nolim
  have mod : Mod K mg (hidT s.heap H) := ⟨kin', names gl, ⟨mb, names bl, boot⟩, ⟨mc, names l1, l2⟩⟩
  have env : Env0 P w K mg (hidT s.heap H) callerA [] s H := ⟨rfl, mod, fun b o e => of_hidT e, Nat.le_of_eq (hidT_size _ _), trivial, fun b h => absurd (show b ∈ ([] : List Addr) from h) (by simp), hok, .of_eq gen⟩
  apply codeAny_mono ((F _ kin' (names gl) (mods.imp fun _ z => names z)).go (us := [.ref a]) (vs := [.ref a]) rfl room env (bind s (.ref a)) (.cons rfl .nil) (prom H seq))
  intro r t h
  rcases r with er | fl
  · exact h.elim
  cases fl with
  | next => exact h.elim
  | brk => exact h.elim
  | cont => exact h.elim
  | ret u =>
    obtain ⟨v, G, os, bare, un, hok', rl, q⟩ := h
    cases (show v = .bl true from q)
    obtain rfl : u = Value.bool true := rl
    refine ⟨rfl, OldK.of_keep fun b o e => ?_, os, bare⟩
    cases z : H b with
    | none => exact un.keep b o e z (by intro m; exact absurd (show b ∈ ([] : List Addr) from m) (by simp)) (by simp)
    | some u =>
      obtain ⟨_, _, o', y, rfl, e'⟩ := only b u z
      rw [e] at e'
      cases e'
      exact (hok' b _ (un.frzs b o y z)).1
/-- what k_head leaves, from the law's promise -/
theorem walk_G {l : PySem.W.OpenLaw} {n k : Nat} {q : Program} {loose : List Str} {XP : (Str → Option Value) → Heap → Prop} {YP : World → Heap → Prop} {d : DefRec} {K : Params → PySem.W.Frag} {sp : PySem.W.Frag → Sp} {x : Str}
    (none : importsNone q = true) (hn : l.most = some n) (hn2 : n ≤ sizeLine) (hdf : d.params.defaults = []) (room : Room k callerA) (hY : ∀ (w : World) (h : Heap), YP w h → (K w.params).In h)
    (F : ∀ (w : World) (mg : Str → Option Value) (fa : Addr) (h : Heap), (K w.params).In h → h.Ns mainGlobals mg → mg d.name = some (.ref fa) →
      ∃ fd : FuncData, (∀ (t : Shared) (u : Value), BindsTo t fd ⟨[u], []⟩ [(x, u)]) ∧ ∀ base : Heap, (K w.params).In base → base.Ns mainGlobals mg → HasMods base → FnG l.prog w (K w.params) mg base k fa fd [x] (sp (K w.params)))
    (prom : ∀ (K : PySem.W.Frag) (H : Hp) (a : Addr) (ns : List Int), ns.length ≤ n → SqL K H a (ns.map V.int) → sp K [.ref a] H (fun v _ => v = .bl true) fun _ _ _ => False) :
    PySem.W.WalkO q loose XP YP l.row.toRowW d [] (fun f vs => PySem.call f vs) := by
  apply Att.attach_call hn hdf
  intro w s0 s1 mg mb fa o pm cd dc a us ns G Y _ _ _ hmg hobj nums hlen hg
  have md : HasMods s1.heap := let ⟨mm, z, _⟩ := (G.T.seer none).mods; ⟨mm, z⟩
  obtain ⟨fd, hb, hF⟩ := F w mg fa _ (hY w _ Y) G.T.g hmg
  exact law_go (hY w _ Y) G.T.g G.T.b G.T.builtins G.T.nolimit md hg hobj nums (Nat.le_trans hlen hn2) room hF hb fun H hS => prom _ H a ns hlen hS
/-- a def as its callers know it -/
structure Cal (P : Program) (w : World) (K : PySem.W.Frag) (mg : Str → Option Value) (base : Heap) (x : Str) (k : Nat) (f : Addr) (fd : FuncData) (ps : List Str) (sp : Sp) : Prop where
  G : FnG P w K mg base k f fd ps sp
  mgf : mg x = some (.ref f)
  kp : PySem.W.keepIn K (.ref f) = true
  b : Binds K fd ps []
/-- keywords come to the parameters -/
theorem kb_of {K : PySem.W.Frag} {x qual : Str} {st : Stmt} {f : Addr} {fd : FuncData} {ps ks : List Str} {n : Nat} {ix : List Nat} (F : Fun K x qual st f fd)
    (h : ∀ (kV dc pm : Value) (an : Option Addr) (cd ct : Value) (us ws : List Value), us.length = n → ws.length = ks.length → bindArgs (PySem.W.fnOf x qual (defArgs st) (defBody st) (defScope st) .none kV dc pm an cd ct) ⟨us, ks.zip ws⟩ = pure (ps.zip (ix.map fun i => (us ++ ws).getD i .none))) : KBx K fd ps n ks ix := by
  obtain ⟨oc, od, kV, dc, pm, an, cd, ct, sl, e, _, _⟩ := F.ex
  subst e
  exact ⟨fun s us ws l1 l2 => .of_eq (h kV dc pm an cd ct us ws l1 l2)⟩
def tGo (sp : Sp) (t : TA) : TE := fun σ H Q => t σ H fun vs G => sp vs G Q E0
theorem r_go {sp : Sp} {t : TA} {σ : L2.St} {H : Hp} {Q : VK} (h : t σ H fun vs G => sp vs G Q E0) : tGo sp t σ H Q := h
theorem r_kw {sp : Sp} {n m : Nat} {ix : List Nat} {E : XK} {t tk : TA} {σ : L2.St} {H : Hp} {Q : VK} (h : t σ H fun vs G => tk σ G fun zs G2 => vs.length = n ∧ zs.length = m ∧ sp (ix.map fun i => (vs ++ zs).getD i .non) G2 Q E) : tKw sp n m ix E t tk σ H Q := h
section
variable {X : Cx} {k : Nat} {f : Addr} {fd : FuncData} {ps ks : List Str} {sp : Sp} {x : Str} {p pos : Pos} {e : Expr} {es : List Expr} {t tk : TA} {kws : List Keyword}
theorem pe_go (c : Cal X.prog X.w X.K X.mg X.base x k f fd ps sp) (g : X.A.guards = some []) (r : Room k X.A) (hg : Gl X x) (ha : PA X (e :: es) t) (d1 : (x == ("__debug__" : Str)) = false := by decide)
    (d2 : starEach (e :: es) X.env = (false, eval e X.env) :: starEach es X.env := by rfl) (d3 : (backTo pos (starEach es X.env)).any (·.1) = false := by rfl) : PE X (.Call (.Name x p) (e :: es) [] pos) (tGo sp t) :=
  pe_callG (E := E0) c.G g r hg c.mgf c.kp c.b ha d1 d2 d3
theorem pe_kw0 {ix : List Nat} (c : Cal X.prog X.w X.K X.mg X.base x k f fd ps sp) (hb : KBx X.K fd ps 0 ks ix) (g : X.A.guards = some []) (r : Room k X.A) (hg : Gl X x) (hkw : PK X kws tk)
    (d4 : (backToKw pos (keywordEach kws X.env)).all (·.1.isSome) = true := by rfl) (d5 : (backToKw pos (keywordEach kws X.env)).filterMap (·.1) = ks := by rfl) (d1 : (x == ("__debug__" : Str)) = false := by decide)
    (d3 : (backToKw pos (keywordEach kws X.env)).any (·.1.isNone) = false := by rfl) : PE X (.Call (.Name x p) [] kws pos) (tKw sp 0 ks.length ix E0 L2.tNil tk) :=
  pe_callGK0 c.G g r hg c.mgf c.kp hb hkw d4 d5 d1 d3
end
end Rp
namespace Rp
open PySem PySem.Spec PyProof.Rows L2
/-! ### data on the heap, dicts in it too; what repr shows of them -/
def kD : Key → PyData
  | .inl i => .int i
  | .inr x => .str x
mutual
inductive Dd (K : PySem.W.Frag) (H : Hp) : V → PyData → Prop
  | non : Dd K H .non .none
  | bl (b : Bool) : Dd K H (.bl b) (.bool b)
  | num (i : Int) : Dd K H (.int i) (.int i)
  | str (x : Str) : Dd K H (.str x) (.str x)
  | lst {a : Addr} {xs : List V} {ds : List PyData} (e : SqL K H a xs) (h : DdAll K H xs ds) : Dd K H (.ref a) (.list ds)
  | tup {a : Addr} {xs : List V} {ds : List PyData} (e : SqT K H a xs) (h : DdAll K H xs ds) : Dd K H (.ref a) (.tuple ds)
  | dic {a : Addr} {kvs : List (Key × V)} {ds : List (PyData × PyData)} (e : H a = some (.dK kvs)) (h : DdKv K H kvs ds) : Dd K H (.ref a) (.dict ds)
inductive DdAll (K : PySem.W.Frag) (H : Hp) : List V → List PyData → Prop
  | nil : DdAll K H [] []
  | cons {v : V} {vs : List V} {d : PyData} {ds : List PyData} (h : Dd K H v d) (t : DdAll K H vs ds) : DdAll K H (v :: vs) (d :: ds)
inductive DdKv (K : PySem.W.Frag) (H : Hp) : List (Key × V) → List (PyData × PyData) → Prop
  | nil : DdKv K H [] []
  | cons {k : Key} {v : V} {r : List (Key × V)} {d : PyData} {ds : List (PyData × PyData)} (h : Dd K H v d) (t : DdKv K H r ds) : DdKv K H ((k, v) :: r) ((kD k, d) :: ds)
end
section
variable {X : Cx} {pins : List (Addr × Obj)} {σ : L2.St} {H : Hp} {s : Shared}
theorem mods_ne (I : Inv X pins σ H s) (M : HasMods X.base) {a : Addr} {o : Obj} {vs : Array Value} {n : Nat} (e : s.heap.get? a = some o) (d : o.data = .seq vs n) : sysModules ≠ a := by
  intro z
  obtain ⟨mm, ob, es, ep, h1, h2, _⟩ := M
  have h3 := (I.bs _ _ h1).1
  rw [z, e] at h3
  cases h3
  rw [d] at h2
  cases h2
theorem key_reads {h : Heap} {k : Key} {v : Value} (e : keyIs k v = true) : Reads h v (kD k) [] := by
  rcases keyIs_shape e with ⟨i, t, rfl, rfl⟩ | ⟨x, t, rfl, rfl⟩
  · exact .int i t
  · exact .str x t
mutual
theorem dd_reads (I : Inv X pins σ H s) (M : HasMods X.base) : ∀ {v : V} {d : PyData}, Dd X.K H v d → ∀ u, RelV v u → ∃ as, Reads s.heap u d as ∧ sysModules ∉ as
  | _, _, .non, u, r => by cases r; exact ⟨[], .none, by simp⟩
  | _, _, .bl b, u, r => by cases r; exact ⟨[], .bool b, by simp⟩
  | _, _, .num i, u, r => by obtain ⟨t, rfl⟩ := r; exact ⟨[], .int i t, by simp⟩
  | _, _, .str x, u, r => by obtain ⟨t, rfl⟩ := r; exact ⟨[], .str x t, by simp⟩
  | _, _, .lst e h, u, r => by
    cases r
    obtain ⟨its, rv, ⟨o, n, h1, h2, _, h4⟩, _⟩ := I.list e
    obtain ⟨as, ra, na⟩ := dd_readsAll I M h its rv
    refine ⟨_, .list h1 h2 h4 (by simpa using ra), ?_⟩
    intro m
    rcases List.mem_cons.mp m with z | z
    · exact mods_ne I M h1 h4 z
    · exact na z
  | _, _, .tup e h, u, r => by
    cases r
    obtain ⟨its, rv, ⟨o, h1, h2, n, h4⟩, _⟩ := I.tuple e
    obtain ⟨as, ra, na⟩ := dd_readsAll I M h its rv
    exact ⟨_, .tuple h1 h2 h4 (by simpa using ra), na⟩
  | _, _, .dic e h, u, r => by
    cases r
    obtain ⟨_, ns, vs, kv, o, es, ep, h1, h2, h3, _, pr, _⟩ := I.hok _ _ e
    obtain ⟨bs, rk, rvs, nb⟩ := dd_readsKv I M h vs es.toList kv pr
    refine ⟨_, .dict h1 h2.1 h3 rk rvs, ?_⟩
    intro m
    rcases List.mem_cons.mp (by simpa using m) with z | z
    · rw [z] at ns
      simp at ns
    · exact nb (by simpa using z)
theorem dd_readsAll (I : Inv X pins σ H s) (M : HasMods X.base) : ∀ {vs : List V} {ds : List PyData}, DdAll X.K H vs ds → ∀ us, Vals vs us → ∃ as, ReadsAll s.heap us ds as ∧ sysModules ∉ as
  | _, _, .nil, us, r => by cases r; exact ⟨[], .nil, by simp⟩
  | _, _, .cons h t, us, r => by
    cases r with
    | cons r1 r2 =>
      obtain ⟨as, q1, n1⟩ := dd_reads I M h _ r1
      obtain ⟨bs, q2, n2⟩ := dd_readsAll I M t _ r2
      exact ⟨as ++ bs, .cons q1 q2, by rw [List.mem_append]; exact fun z => z.elim n1 n2⟩
theorem dd_readsKv (I : Inv X pins σ H s) (M : HasMods X.base) : ∀ {kvs : List (Key × V)} {ds : List (PyData × PyData)}, DdKv X.K H kvs ds → ∀ (vs : List (Key × Value)) (es : List DictEntry), KV kvs vs → Pairs (mixKind X.prog X.w) es vs →
    ∃ bs, ReadsAll s.heap (es.map (·.key)) (ds.map (·.1)) [] ∧ ReadsAll s.heap (es.map (·.val)) (ds.map (·.2)) bs ∧ sysModules ∉ bs
  | _, _, .nil, vs, es, kv, pr => by
    cases kv
    cases pr
    exact ⟨[], .nil, .nil, by simp⟩
  | _, _, .cons h t, vs, es, kv, pr => by
    cases kv with
    | cons k1 k2 =>
      cases pr with
      | cons p1 p2 p3 =>
        obtain ⟨e1, e2⟩ := k1
        rw [← p2] at e2
        rw [← e1] at p1
        obtain ⟨as, q1, n1⟩ := dd_reads I M h _ e2
        obtain ⟨bs, q2, q3, n2⟩ := dd_readsKv I M t _ _ k2 p3
        refine ⟨as ++ bs, ?_, .cons q1 q3, by rw [List.mem_append]; exact fun z => z.elim n1 n2⟩
        exact ReadsAll.cons (as := []) (key_reads p1) q2
end
/-- repr of a list, a tuple, a dict: of data -/
def rRepr (K : PySem.W.Frag) : List V → Hp → VK → Prop := fun xs H Q => ∃ (a : Addr) (d : PyData), xs = [.ref a] ∧ Dd K H (.ref a) d ∧ d.showable = true ∧ d.depth ≤ 64 ∧ d.shown.length ≤ sizeLine ∧ Q (.str d.shown) H
theorem call_reprD {k : Nat} (hr : Room k X.A) (g : X.A.guards = some []) (M : HasMods X.base) : CallR X (.builtin "repr") (rRepr X.K) := by
  intro pins s σ H xs us Q I r h
  obtain ⟨a, d, rfl, dd, hs, hdp, hsz, q⟩ := h
  obtain ⟨u, rfl, r1⟩ := vals1 r
  cases (show u = Value.ref a from r1)
  obtain ⟨as, rd, na⟩ := dd_reads I M dd _ rfl
  have un := hr.un
  exact repr_of_reads' rd hs (fun _ => na) g (by omega) (fun _ _ e => e) (fun h' t tk hk => ⟨.str d.shown, H, I.kept hk, ⟨_, rfl⟩, q⟩) hsz
end
end Rp
namespace Rp
open PySem PySem.Spec PyProof.Rows L2
/-! ### values of any kind, off the box -/
inductive Any (q : Addr) (H : Hp) : V → Prop
  | non : Any q H .non
  | bl (b : Bool) : Any q H (.bl b)
  | num (i : Int) : Any q H (.int i)
  | str (x : Str) : Any q H (.str x)
  | lst {a : Addr} {xs : List V} (n : a ≠ q) (e : H a = some (.lst xs)) : Any q H (.ref a)
  | tup {a : Addr} {xs : List V} (n : a ≠ q) (e : H a = some (.tup xs)) : Any q H (.ref a)
  | dic {a : Addr} {kvs : List (Key × V)} (n : a ≠ q) (e : H a = some (.dK kvs)) : Any q H (.ref a)
/-- a value that is a list or tuple of some values, or none -/
inductive RowV (q : Addr) (H : Hp) : V → Option (List V) → Prop
  | non : RowV q H .non none
  | bl (b : Bool) : RowV q H (.bl b) none
  | num (i : Int) : RowV q H (.int i) none
  | str (x : Str) : RowV q H (.str x) none
  | lst {a : Addr} {xs : List V} (n : a ≠ q) (e : H a = some (.lst xs)) (h : ∀ x ∈ xs, Any q H x) : RowV q H (.ref a) (some xs)
  | tup {a : Addr} {xs : List V} (n : a ≠ q) (e : H a = some (.tup xs)) (h : ∀ x ∈ xs, Any q H x) : RowV q H (.ref a) (some xs)
  | dic {a : Addr} {kvs : List (Key × V)} (n : a ≠ q) (e : H a = some (.dK kvs)) : RowV q H (.ref a) none
section
variable {q : Addr} {H H' : Hp} {v : V} {o : Option (List V)} {K : PySem.W.Frag}
theorem Any.but (h : Any q H v) (b : But q H H') : Any q H' v := by
  cases h with
  | non => exact .non
  | bl b => exact .bl b
  | num i => exact .num i
  | str x => exact .str x
  | lst n e => exact .lst n (b _ _ n e)
  | tup n e => exact .tup n (b _ _ n e)
  | dic n e => exact .dic n (b _ _ n e)
theorem RowV.but (h : RowV q H v o) (b : But q H H') : RowV q H' v o := by
  cases h with
  | non => exact .non
  | bl b => exact .bl b
  | num i => exact .num i
  | str x => exact .str x
  | lst n e it => exact .lst n (b _ _ n e) fun x m => (it x m).but b
  | tup n e it => exact .tup n (b _ _ n e) fun x m => (it x m).but b
  | dic n e => exact .dic n (b _ _ n e)
def isI : V → Bool
  | .int _ => true
  | _ => false
def isIB : V → Bool
  | .int _ => true
  | .bl _ => true
  | _ => false
def isB : V → Bool
  | .bl _ => true
  | _ => false
theorem isI_eq (v : V) : (isIB v && !isB v) = isI v := by cases v <;> rfl
theorem any_int (h : Any q H v) : ∃ t : Value, TyX K H v t ∧ PySem.W.kitOne K t (.type "int") = some (isIB v) := by
  cases h with
  | non => exact ⟨_, .base .non, kit_ty (r := false) (by decide +kernel)⟩
  | bl b => exact ⟨_, .base (.bl b), kit_ty (r := true) (by decide +kernel)⟩
  | num i => exact ⟨_, .base (.int i), kit_ty (r := true) (by decide +kernel)⟩
  | str x => exact ⟨_, .base (.str x), kit_ty (r := false) (by decide +kernel)⟩
  | lst n e => exact ⟨_, .base (.lst e), kit_ty (r := false) (by decide +kernel)⟩
  | tup n e => exact ⟨_, .base (.tup e), kit_ty (r := false) (by decide +kernel)⟩
  | dic n e => exact ⟨_, .base (.dK e), kit_ty (r := false) (by decide +kernel)⟩
theorem any_bool (h : Any q H v) : ∃ t : Value, TyX K H v t ∧ PySem.W.kitOne K t (.type "bool") = some (isB v) := by
  cases h with
  | non => exact ⟨_, .base .non, kit_ty (r := false) (by decide +kernel)⟩
  | bl b => exact ⟨_, .base (.bl b), kit_ty (r := true) (by decide +kernel)⟩
  | num i => exact ⟨_, .base (.int i), kit_ty (r := false) (by decide +kernel)⟩
  | str x => exact ⟨_, .base (.str x), kit_ty (r := false) (by decide +kernel)⟩
  | lst n e => exact ⟨_, .base (.lst e), kit_ty (r := false) (by decide +kernel)⟩
  | tup n e => exact ⟨_, .base (.tup e), kit_ty (r := false) (by decide +kernel)⟩
  | dic n e => exact ⟨_, .base (.dK e), kit_ty (r := false) (by decide +kernel)⟩
theorem kit2 {t a b : String} {x y : Bool} (h1 : kitB t a = some x) (h2 : kitB t b = some y) : PySem.W.kitAny K (.type t) [.type a, .type b] = some (x || y) := by
  refine kitAny_cons (kit_ty h1) (fun e => ?_) (fun e => by rw [e]; rfl)
  rw [e]
  refine kitAny_cons (kit_ty h2) (fun e => ?_) (fun e => by rw [e]; rfl)
  rw [e]
  exact kitAny_nil
theorem row_seq (h : RowV q H v o) : ∃ t : Value, TyX K H v t ∧ PySem.W.kitAny K t [.type "list", .type "tuple"] = some o.isSome := by
  cases h with
  | non => exact ⟨_, .base .non, kit2 (x := false) (y := false) (by decide +kernel) (by decide +kernel)⟩
  | bl b => exact ⟨_, .base (.bl b), kit2 (x := false) (y := false) (by decide +kernel) (by decide +kernel)⟩
  | num i => exact ⟨_, .base (.int i), kit2 (x := false) (y := false) (by decide +kernel) (by decide +kernel)⟩
  | str x => exact ⟨_, .base (.str x), kit2 (x := false) (y := false) (by decide +kernel) (by decide +kernel)⟩
  | lst n e => exact ⟨_, .base (.lst e), kit2 (x := true) (y := false) (by decide +kernel) (by decide +kernel)⟩
  | tup n e => exact ⟨_, .base (.tup e), kit2 (x := false) (y := true) (by decide +kernel) (by decide +kernel)⟩
  | dic n e => exact ⟨_, .base (.dK e), kit2 (x := false) (y := false) (by decide +kernel) (by decide +kernel)⟩
end
/-- any value is, is not a truth -/
def rIsAny (neg : Bool) : R2 := fun x y H Q => ∃ b, y = .bl b ∧ Q (.bl (if neg then !decide (x = .bl b) else decide (x = .bl b))) H
section
variable {X : Cx}
theorem bl_ne {x : V} {v : Value} {b : Bool} (rx : RelV x v) (ne : x ≠ .bl b) : v ≠ Value.bool b := by
  intro e
  subst e
  cases x with
  | bl c => exact ne (by rw [Value.bool.inj (show Value.bool b = Value.bool c from rx)])
  | non => cases (show Value.bool b = Value.none from rx)
  | int i => obtain ⟨t, z⟩ := rx; cases z
  | str y => obtain ⟨t, z⟩ := rx; cases z
  | byt y => obtain ⟨t, z⟩ := rx; cases z
  | flt y => obtain ⟨t, z⟩ := rx; cases z
  | ref a => cases (show Value.bool b = Value.ref a from rx)
  | ty n => cases (show Value.bool b = Value.type n from rx)
theorem plain_bl {x : V} {v : Value} {b : Bool} (rx : RelV x v) : plainIs v (.bool b) = true := by
  cases x with
  | bl c => cases rx; rfl
  | non => cases rx; rfl
  | int i => obtain ⟨t, rfl⟩ := rx; rfl
  | str y => obtain ⟨t, rfl⟩ := rx; rfl
  | byt y => obtain ⟨t, rfl⟩ := rx; rfl
  | flt y => obtain ⟨t, rfl⟩ := rx; rfl
  | ref a => cases rx; rfl
  | ty n => cases rx; rfl
theorem op_is_any : OpR X (compareOp .Is) (rIsAny false) := by
  intro pins s σ H x y v u Q I rx ry h
  obtain ⟨b, rfl, q⟩ := h
  cases (show u = Value.bool b from ry)
  by_cases e : x = .bl b
  · subst e
    cases (show v = Value.bool b from rx)
    exact wpAny_is_self rfl ⟨.bl true, H, I, rfl, by simpa using q⟩
  · exact wpAny_is_other (plain_bl rx) (bl_ne rx e) ⟨.bl false, H, I, rfl, by simpa [e] using q⟩
theorem op_isnot_any : OpR X (compareOp .IsNot) (rIsAny true) := by
  intro pins s σ H x y v u Q I rx ry h
  obtain ⟨b, rfl, q⟩ := h
  cases (show u = Value.bool b from ry)
  by_cases e : x = .bl b
  · subst e
    cases (show v = Value.bool b from rx)
    exact wpAny_isNot_self rfl ⟨.bl false, H, I, rfl, by simpa using q⟩
  · exact wpAny_isNot_other (plain_bl rx) (bl_ne rx e) ⟨.bl true, H, I, rfl, by simpa [e] using q⟩
end
end Rp
namespace Rp
open PySem PySem.Spec PyProof.Rows L2
section
variable {K : PySem.W.Frag} {H : Hp} {Q : VK} {x v : V} {t : Value} {b : Bool} {q : Addr}
theorem r_isi {n : String} (ty : TyX K H x t) (k : PySem.W.kitOne K t (.type n) = some b) (h : Q (.bl b) H) : rIsi K [x, .ty n] H Q := ⟨x, _, t, _, b, rfl, .ty n, ty, k, h⟩
theorem r_isiT {p : Addr} {n m : String} (e : H p = some (.tup [.ty n, .ty m])) (ty : TyX K H x t) (k : PySem.W.kitAny K t [.type n, .type m] = some b) (h : Q (.bl b) H) : rIsiT K [x, .ref p] H Q :=
  ⟨x, p, _, t, _, b, rfl, e, .cons (.ty n) (.cons (.ty m) .nil), ty, k, h⟩
theorem r_isAny {neg : Bool} {c : Bool} (h : Q (.bl (if neg then !decide (x = .bl c) else decide (x = .bl c))) H) : rIsAny neg x (.bl c) H Q := ⟨c, rfl, h⟩
@[reducible] def oV : Option Int → V
  | none => .non
  | some i => .int i
/-- an integer from lo to hi -/
def inB (v : V) (lo hi : Option Int) : Bool :=
  match v with
  | .int i => (match lo with | none => true | some l => decide (l ≤ i)) && (match hi with | none => true | some u => decide (i ≤ u))
  | _ => false
def clocks : List Int := [3, 5, 7, 11, 13, 17, 19, 23, 29, 31]
def clk (v : V) : Bool :=
  match v with
  | .int i => clocks.contains i
  | _ => false
def rowB (o : Option (List V)) (clock size : Int) : Bool :=
  match o with
  | none => false
  | some xs => decide ((xs.length : Int) = size) && xs.all fun x => inB x (some 0) (some (clock - 1))
def spIsInt : Sp := fun vs H Q _ => ∃ q v, vs = [v] ∧ Any q H v ∧ Q (.bl (isI v)) H
def spWithin : Sp := fun vs H Q _ => ∃ q v lo hi, vs = [v, oV lo, oV hi] ∧ Any q H v ∧ Q (.bl (inB v lo hi)) H
def spClock : Sp := fun vs H Q _ => ∃ q v, vs = [v] ∧ Any q H v ∧ Q (.bl (clk v)) H
def spRow : Sp := fun vs H Q _ => ∃ q v o clock size, vs = [v, .int clock, .int size] ∧ RowV q H v o ∧ clk (.int clock) = true ∧ (∀ xs, o = some xs → xs.length < sizeLine) ∧ ∀ H', Same H H' → Q (.bl (rowB o clock size)) H'
end
end Rp
namespace Rp
open PySem PySem.Spec PyProof.Rows L2
/-! ### steps at the box -/
section
variable {K : PySem.W.Frag} {q c p : Addr} {ns : List Int} {lap : Nat} {H0 H G : Hp} {o : HO} {Q : VK} {σ : L2.St} {x y v : V} {te tk tv : TE} {b : Bool}
theorem alloc (hG : upd H p o = G) (D : Dr q c ns lap H) (B : But q H0 H) (hp : H p = none) : Dr q c ns lap G ∧ But q H0 G ∧ But q H G ∧ p ≠ q ∧ G p = some o := by
  subst hG
  refine ⟨D.neu hp, B.neu hp, (But.refl q H).neu hp, ?_, upd_same⟩
  intro e
  obtain ⟨_, ⟨_, h⟩, _⟩ := D
  rw [e, h] at hp
  cases hp
/-- what stood at p is exchanged -/
theorem stored {u : HO} (hG : upd H p o = G) (D : Dr q c ns lap H) (np : p ≠ q) (ep : H p = some u) (d : ∀ xs, u ≠ .lst xs) : Dr q c ns lap G ∧ G p = some o := by
  subst hG
  obtain ⟨ne, ⟨rest, h⟩, hc, hl⟩ := D
  exact ⟨⟨ne, ⟨rest, by rw [upd_ne np.symm]; exact h⟩, by rw [upd_ne (ne_of hc ep (d _).symm)]; exact hc, hl⟩, upd_same⟩
theorem but_put {H1 : Hp} (hG : upd H p o = G) (B : But q H1 H) (hp : H1 p = none) : But q H1 G := by
  subst hG
  intro b u n e
  rw [upd_ne (ne_of_none e hp)]
  exact B b u n e
/-- a fact of each item -/
inductive EachP (F : V → Prop) : List V → Prop
  | nil : EachP F []
  | cons {x : V} {r : List V} (h : F x) (t : EachP F r) : EachP F (x :: r)
theorem EachP.get {F : V → Prop} {v : V} : ∀ {xs : List V} {i : Nat}, EachP F xs → xs[i]? = some v → F v
  | _, i, .nil, h => by simp at h
  | _, 0, .cons h _, e => by
    have e' := Option.some.inj e
    rw [← e']
    exact h
  | _, i + 1, .cons _ t, e => EachP.get (i := i) t (by simpa using e)
theorem EachP.mem {F : V → Prop} {xs : List V} (h : EachP F xs) : ∀ x ∈ xs, F x := fun x m => by
  obtain ⟨i, hi⟩ := List.mem_iff_getElem?.mp m
  exact h.get hi
theorem EachP.imp {F F' : V → Prop} (f : ∀ v, F v → F' v) : ∀ {xs : List V}, EachP F xs → EachP F' xs
  | _, .nil => .nil
  | _, .cons h t => .cons (f _ h) (EachP.imp f t)
theorem lt_ok {n m : Nat} (h : Nat.ble (n + 1) m = true) : n < m := Nat.le_of_ble_eq_true h
theorem le_ok {n m : Nat} (h : Nat.ble n m = true) : n ≤ m := Nat.le_of_ble_eq_true h
/-- an int within bounds -/
def IntIn (lo hi : Int) (v : V) : Prop := ∃ i, v = .int i ∧ lo ≤ i ∧ i ≤ hi
theorem log_ok {i : Int} (h : i.natAbs < 2 ^ 80) : i.natAbs.log2 < 1920 := by
  by_cases e : i.natAbs = 0
  · rw [e]
    decide
  · exact Nat.lt_of_lt_of_le ((Nat.log2_lt e).mpr h) (by decide)
theorem r_disp {trs : List (TE × TE)} (h : ∀ p, H p = none → tPairs trs σ (upd H p (.dK [])) fun ps G => G p = some (.dK []) ∧ ∃ kvs : List (Key × V), ps = kvs.map (fun kv => (kV kv.1, kv.2)) ∧ kvs.length ≤ 15 ∧ Q (.ref p) (upd G p (.dK (mergeK [] kvs)))) : tDisp trs σ H Q := h
theorem r_pair {r : List (TE × TE)} {R : List (V × V) → Hp → Prop} (h : tk σ H fun x G => tv σ G fun y G2 => tPairs r σ G2 fun ps G3 => R ((x, y) :: ps) G3) : tPairs ((tk, tv) :: r) σ H R := h
theorem r_pair0 {R : List (V × V) → Hp → Prop} (h : R [] H) : tPairs [] σ H R := h
theorem r_chain {r r' : R2} {ta tb tc : TE} (h : ta σ H fun x G => tb σ G fun y G2 => r x y G2 fun z G3 => ∃ k, z = .bl k ∧ (if k = true then tc σ G3 fun w G4 => r' y w G4 Q else Q (.bl false) G3)) : tChain r r' ta tb tc σ H Q := h
theorem r_U {g : Int → V} {i : Int} (h : Q (g i) H) : rU g (.int i) H Q := ⟨i, rfl, h⟩
theorem r_gtup {n : Nat} {t : TGs} {R : L2.St → Hp → Prop} (h : ∃ a xs, v = .ref a ∧ SqT K H a xs ∧ xs.length = n ∧ t xs σ H R) : gTup K n t v σ H R := h
end
end Rp
namespace Rp
open PySem PySem.Spec PyProof.Rows L2
section
variable {K : PySem.W.Frag} {q c p : Addr} {ns : List Int} {lap : Nat} {H0 H G : Hp} {o : HO} {Q : VK} {σ : L2.St} {x y v : V} {b : Bool} {F : V → Prop}
theorem eq_nil {nums : List Int} (hc : H c = some (.lst (nums.map V.int))) (hp : H p = some (.lst [])) (h : Q (.bl nums.isEmpty) H) : rEqD K (.ref c) (.ref p) H Q :=
  ⟨_, _, .lst (SqL.of hc) (dp_ints nums), .lst (SqL.of hp) .nil, shaped_ints nums, shaped_ints [], by rw [eqv_nil_ints]; exact h⟩
theorem bools_len (a b : Bool) : (PyData.list [.bool a, .bool b]).shown.length ≤ sizeLine := by
  cases a <;> cases b <;> exact Nat.le_trans (m := 100) (by decide +kernel) (by decide)
/-- repr of two truths -/
theorem r_bools {a b : Bool} (e : H p = some (.lst [.bl a, .bl b])) (h : Q (.str (PyData.list [.bool a, .bool b]).shown) H) : rRepr K [.ref p] H Q :=
  ⟨p, _, rfl, .lst (SqL.of e) (.cons (.bl a) (.cons (.bl b) .nil)), by simp [PyData.showable, PyData.showableAll], by simp [PyData.depth, PyData.depthAll], bools_len a b, h⟩
theorem r_ne_same {s : Str} (h : Q (.bl false) H) : rNe (.str s) (.str s) H Q := ⟨rfl, by rw [decide_eq_true rfl]; exact h⟩
theorem r_eq_same {s : Str} (h : Q (.bl true) H) : rEq (.str s) (.str s) H Q := ⟨rfl, by rw [decide_eq_true rfl]; exact h⟩
theorem inB_no {lo hi : Option Int} (h : isI v = false) : inB v lo hi = false := by cases v <;> first | rfl | cases h
theorem clk_no (h : isI v = false) : clk v = false := by cases v <;> first | rfl | cases h
/-- prime, as the law reckons it -/
def prB (n : Int) : Bool := (((List.range (n - 2).toNat).filter fun j : Nat => decide (n.fmod (2 + (j : Int)) = 0)).map fun j : Nat => 2 + (j : Int)).isEmpty
theorem clk_pr {n : Int} (h0 : 3 ≤ n) (h1 : n ≤ 31) : clk (.int n) = prB n := by
  have key : ∀ k : _root_.Fin 29, clk (.int (3 + (k.val : Int))) = prB (3 + (k.val : Int)) := by decide +kernel
  have e : n = 3 + (((n - 3).toNat : Nat) : Int) := by omega
  have z := key ⟨(n - 3).toNat, by omega⟩
  rw [e]
  exact z
theorem clk_out {n : Int} (h : n < 3 ∨ 31 < n) : clk (.int n) = false := by
  simp only [clk, clocks, List.contains_cons, List.contains_nil, Bool.or_false, Bool.or_eq_false_iff, beq_eq_false_iff_ne]
  omega
theorem EachP.append {xs ys : List V} (h : EachP F xs) (k : EachP F ys) : EachP F (xs ++ ys) := by
  induction h with
  | nil => exact k
  | cons a _ ih => exact .cons a ih
theorem EachP.of {xs : List V} (h : ∀ x ∈ xs, F x) : EachP F xs := by
  induction xs with
  | nil => exact .nil
  | cons a r ih => exact .cons (h a (List.mem_cons_self ..)) (ih fun x m => h x (List.mem_cons_of_mem _ m))
theorem EachP.sub {xs ys : List V} (h : EachP F ys) (s : ∀ x ∈ xs, x ∈ ys) : EachP F xs := .of fun x m => h.mem x (s x m)
theorem cut_lo {xs : List V} {n : Nat} (h : n ≤ xs.length) : cutV xs none (some (n : Int)) = xs.take n := by
  unfold cutV
  rw [HT.sIx_nat, HT.sIx_none, Nat.sub_zero, Nat.min_eq_left h, List.drop_zero]
theorem cut_hi {xs : List V} {n : Nat} (h : n ≤ xs.length) : cutV xs (some (n : Int)) none = xs.drop n := by
  unfold cutV
  rw [HT.sIx_nat, HT.sIx_none, Nat.min_eq_left h]
  exact List.take_of_length_le (by rw [List.length_drop]; omega)
theorem row_yes {xs : List V} {clock : Int} (h : EachP (IntIn 0 (clock - 1)) xs) : rowB (some xs) clock (xs.length : Int) = true := by
  simp only [rowB, decide_true, Bool.true_and, List.all_eq_true]
  intro x m
  obtain ⟨i, rfl, h0, h1⟩ := h.mem x m
  simp [inB, h0, h1]
theorem row_no {xs : List V} {clock size : Int} (m : x ∈ xs) (h : inB x (some 0) (some (clock - 1)) = false) : rowB (some xs) clock size = false := by
  simp only [rowB, Bool.and_eq_false_iff, List.all_eq_false]
  exact .inr ⟨x, m, by rw [h]; exact Bool.false_ne_true⟩
theorem row_size {xs : List V} {clock size : Int} (h : (xs.length : Int) ≠ size) : rowB (some xs) clock size = false := by simp [rowB, h]
theorem Dr.same (d : Dr q c ns lap H) (s : Same H G) : Dr q c ns lap G := by
  obtain ⟨ne, ⟨rest, h⟩, hc, hl⟩ := d
  exact ⟨ne, ⟨rest, s _ _ h⟩, s _ _ hc, hl⟩
theorem same_but (s : Same H G) : But q H G := fun b u _ e => s b u e
theorem IntIn.any {lo hi : Int} (h : IntIn lo hi v) : Any q H v := by
  obtain ⟨i, rfl, _⟩ := h
  exact .num i
end
end Rp
namespace Rp
open PySem PySem.Spec PyProof.Rows L2
/-- (value, many, due) with due what is_row tells of value -/
def RowItem (q : Addr) (clock : Int) (H : Hp) (v : V) : Prop := ∃ (t a : Addr) (m : Int) (d : Bool) (xs : List V), v = .ref t ∧ t ≠ q ∧ H t = some (.tup [.ref a, .int m, .bl d]) ∧ RowV q H (.ref a) (some xs) ∧ xs.length < 1000 ∧ rowB (some xs) clock m = d
section
variable {q : Addr} {clock : Int} {H H' : Hp} {v : V}
theorem RowItem.but (h : RowItem q clock H v) (b : But q H H') : RowItem q clock H' v := by
  obtain ⟨t, a, m, d, xs, e, n, ht, hr, hl, hd⟩ := h
  exact ⟨t, a, m, d, xs, e, n, b _ _ n ht, hr.but b, hl, hd⟩
theorem any_all {xs : List V} (h : EachP (Any q H) xs) : ∀ x ∈ xs, Any q H x := h.mem
theorem rep_one {n : Nat} {x : V} : (List.replicate n [x]).flatten = List.replicate n x := by
  induction n with
  | zero => rfl
  | succ n ih => rw [List.replicate_succ, List.flatten_cons, ih, List.replicate_succ]; rfl
theorem all_rep {F : V → Prop} {n : Nat} {x : V} (h : F x) : EachP F (List.replicate n x) := .of fun y m => by
  rw [(List.mem_replicate.mp m).2]
  exact h
theorem r_catA {K : PySem.W.Frag} {a b : Addr} {xs ys : List V} {Q : VK} (ha : SqT K H a xs) (hb : H b = some (.tup ys)) (hz : xs.length + ys.length ≤ sizeLine) (ny : ys ≠ [])
    (h : ∀ p G, G p = some (.tup (xs ++ ys)) → (G = H ∧ p = b ∨ H p = none ∧ G = upd H p (.tup (xs ++ ys))) → Q (.ref p) G) : rCatA K (.ref a) (.ref b) H Q := by
  refine ⟨a, b, xs, ys, rfl, rfl, ha, SqT.of hb, hz, fun e => ?_, fun _ e => absurd e ny, fun _ _ p hp => h p _ upd_same (.inr ⟨hp, rfl⟩)⟩
  subst e
  exact h b H hb (.inl ⟨rfl, rfl⟩)
theorem alloc_or {c p b : Addr} {ns : List Int} {lap : Nat} {H0 G : Hp} {o : HO} (z : G = H ∧ p = b ∨ H p = none ∧ G = upd H p o) (D : Dr q c ns lap H) (B : But q H0 H) (nb : b ≠ q) : Dr q c ns lap G ∧ But q H0 G ∧ But q H G ∧ p ≠ q := by
  rcases z with ⟨rfl, rfl⟩ | ⟨hp, rfl⟩
  · exact ⟨D, B, But.refl _ _, nb⟩
  · obtain ⟨a1, a2, a3, a4, _⟩ := alloc rfl D B hp
    exact ⟨a1, a2, a3, a4⟩
end
end Rp
namespace Rp
open PySem PySem.Spec PyProof.Rows L2
section
variable {K : PySem.W.Frag} {c p : Addr} {H : Hp} {Q : VK}
/-- two int lists that are the same -/
theorem eq_nums {nums : List Int} (hc : H c = some (.lst (nums.map V.int))) (hp : H p = some (.lst (nums.map V.int))) (h : Q (.bl true) H) : rEqD K (.ref c) (.ref p) H Q :=
  ⟨_, _, .lst (SqL.of hc) (dp_ints nums), .lst (SqL.of hp) (dp_ints nums), shaped_ints nums, shaped_ints nums, by
    rw [SeqAt.eqv_refl _ (by rw [PyData.canLay0]; exact canLay_ints nums)]
    exact h⟩
end
/-- the law: True, whatever the script -/
def spLaw (K : PySem.W.Frag) : Sp := fun vs H Q _ => ∃ (a : Addr) (ns : List Int), vs = [.ref a] ∧ SqL K H a (ns.map V.int) ∧ ∀ H', Q (.bl true) H'
end Rp
namespace Rp
open PySem PySem.Spec PyProof.Rows L2
/-! ### data off some places -/
/-- the heap without what stands at S -/
def hid (S : List Addr) (H : Hp) : Hp := fun b => if b ∈ S then none else H b
/-- all but what stands at S is as it was -/
def Keep (S : List Addr) (H H' : Hp) : Prop := ∀ b o, b ∉ S → H b = some o → H' b = some o
section
variable {K : PySem.W.Frag} {S S' : List Addr} {H H' H2 : Hp} {q p b : Addr} {o : HO} {v : V} {d : PyData}
theorem hid_in (h : b ∈ S) : hid S H b = none := by unfold hid; rw [if_pos h]
theorem hid_out (h : b ∉ S) : hid S H b = H b := by unfold hid; rw [if_neg h]
theorem hid_some (h : hid S H b = some o) : b ∉ S ∧ H b = some o := by
  by_cases m : b ∈ S
  · rw [hid_in m] at h
    cases h
  · rw [hid_out m] at h
    exact ⟨m, h⟩
theorem Keep.refl (S : List Addr) (H : Hp) : Keep S H H := fun _ _ _ h => h
theorem Keep.trans (a : Keep S H H') (c : Keep S H' H2) : Keep S H H2 := fun b o n h => c b o n (a b o n h)
theorem Keep.of (s : Same H H') : Keep S H H' := fun b o _ h => s b o h
theorem Keep.but (B : But q H H') : Keep [q] H H' := fun b o n h => B b o (fun e => n (by simp [e])) h
theorem Keep.toBut (k : Keep [q] H H') : But q H H' := fun b o n h => k b o (by simp [n]) h
theorem Keep.sub (k : Keep S H H') (s : ∀ b ∈ S, b ∈ S') : Keep S' H H' := fun b o n h => k b o (fun m => n (s b m)) h
theorem Keep.neu (k : Keep S H H') (h : H' p = none) : Keep S H (upd H' p o) := fun b u n e => by
  have e' := k b u n e
  rw [upd_ne (ne_of_none e' h)]
  exact e'
theorem Keep.put (k : Keep S H H') (h : H p = none) : Keep S H (upd H' p o) := fun b u n e => by
  rw [upd_ne (ne_of_none e h)]
  exact k b u n e
theorem Keep.hid (k : Keep S H H') : Same (hid S H) (hid S H') := fun b u e => by
  obtain ⟨n, e'⟩ := hid_some e
  rw [hid_out n]
  exact k b u n e'
theorem hid_up : Same (hid S H) H := fun b u e => (hid_some e).2
theorem hid_less (s : ∀ b ∈ S, b ∈ S') : Same (hid S' H) (hid S H) := fun b u e => by
  obtain ⟨n, e'⟩ := hid_some e
  rw [hid_out fun m => n (s b m)]
  exact e'
theorem hid_nil : hid [] H = H := by
  funext b
  exact hid_out (by simp)
theorem hid_upd (h : p ∈ S) : hid S (upd H p o) = hid S H := by
  funext b
  by_cases m : b ∈ S
  · rw [hid_in m, hid_in m]
  · rw [hid_out m, hid_out m, upd_ne fun e => m (by rw [e]; exact h)]
theorem Same.tupS {xs : List V} (s : Same H H') (h : SqT K H p xs) : SqT K H' p xs := by
  rcases h with (h | ⟨o, h⟩) | h
  · exact .inl (.inl (s _ _ h))
  · exact .inl (.inr ⟨o, s _ _ h⟩)
  · exact .inr h
mutual
theorem dd_same (s : Same H H') : ∀ {v : V} {d : PyData}, Dd K H v d → Dd K H' v d
  | _, _, .non => .non
  | _, _, .bl b => .bl b
  | _, _, .num i => .num i
  | _, _, .str x => .str x
  | _, _, .lst e h => .lst (s.seq e) (dd_sameAll s h)
  | _, _, .tup e h => .tup (Same.tupS s e) (dd_sameAll s h)
  | _, _, .dic e h => .dic (s _ _ e) (dd_sameKv s h)
theorem dd_sameAll (s : Same H H') : ∀ {vs : List V} {ds : List PyData}, DdAll K H vs ds → DdAll K H' vs ds
  | _, _, .nil => .nil
  | _, _, .cons h t => .cons (dd_same s h) (dd_sameAll s t)
theorem dd_sameKv (s : Same H H') : ∀ {kvs : List (Key × V)} {ds : List (PyData × PyData)}, DdKv K H kvs ds → DdKv K H' kvs ds
  | _, _, .nil => .nil
  | _, _, .cons h t => .cons (dd_same s h) (dd_sameKv s t)
end
theorem DdAll.append {xs ys : List V} {ds es : List PyData} (h : DdAll K H xs ds) (k : DdAll K H ys es) : DdAll K H (xs ++ ys) (ds ++ es) := by
  match xs, ds, h with
  | [], [], .nil => exact k
  | _ :: _, _ :: _, .cons a t => exact .cons a (DdAll.append t k)
theorem DdAll.len : ∀ {xs : List V} {ds : List PyData}, DdAll K H xs ds → xs.length = ds.length
  | _, _, .nil => rfl
  | _, _, .cons _ t => congrArg Nat.succ (DdAll.len t)
theorem DdAll.at : ∀ {xs : List V} {ds : List PyData} {i : Nat} {x : V}, DdAll K H xs ds → xs[i]? = some x → ∃ d, ds[i]? = some d ∧ Dd K H x d
  | _, _, i, _, .nil, e => by simp at e
  | _, _, 0, x, .cons (d := d) h _, e => by
    have e' := Option.some.inj e
    rw [← e']
    exact ⟨d, rfl, h⟩
  | _, _, i + 1, x, .cons _ t, e => DdAll.at (i := i) t (by simpa using e)
end
/-! ### a tuple for each list, all the way in -/
mutual
def fixD : PyData → PyData
  | .list xs => .tuple (fixAll xs)
  | .tuple xs => .tuple (fixAll xs)
  | d => d
def fixAll : List PyData → List PyData
  | [] => []
  | x :: r => fixD x :: fixAll r
end
theorem fixAll_map : ∀ xs : List PyData, fixAll xs = xs.map fixD
  | [] => by simp [fixAll]
  | x :: r => by simp [fixAll, fixAll_map r]
mutual
theorem fix_fix : ∀ d : PyData, fixD (fixD d) = fixD d
  | .list xs => by simp only [fixD]; rw [fix_fixAll xs]
  | .tuple xs => by simp only [fixD]; rw [fix_fixAll xs]
  | .none => by simp only [fixD]
  | .bool _ => by simp only [fixD]
  | .int _ => by simp only [fixD]
  | .str _ => by simp only [fixD]
  | .dict _ => by simp only [fixD]
theorem fix_fixAll : ∀ xs : List PyData, fixAll (fixAll xs) = fixAll xs
  | [] => by simp only [fixAll]
  | x :: r => by simp only [fixAll]; rw [fix_fix x, fix_fixAll r]
end
/-! ### how long it is shown -/
mutual
def cost : PyData → Nat
  | .list xs => 3 + costAll xs
  | .tuple xs => 3 + costAll xs
  | d => d.shown.length
def costAll : List PyData → Nat
  | [] => 0
  | x :: r => cost x + 2 + costAll r
end
mutual
theorem cost_fix : ∀ d : PyData, cost (fixD d) = cost d
  | .list xs => by simp only [fixD, cost]; rw [cost_fixAll xs]
  | .tuple xs => by simp only [fixD, cost]; rw [cost_fixAll xs]
  | .none => by simp only [fixD]
  | .bool _ => by simp only [fixD]
  | .int _ => by simp only [fixD]
  | .str _ => by simp only [fixD]
  | .dict _ => by simp only [fixD]
theorem cost_fixAll : ∀ xs : List PyData, costAll (fixAll xs) = costAll xs
  | [] => by simp only [fixAll]
  | x :: r => by simp only [fixAll, costAll]; rw [cost_fix x, cost_fixAll r]
end
mutual
theorem shown_cost : ∀ d : PyData, d.shown.length ≤ cost d
  | .list xs => by
    simp only [PyData.shown, cost]
    have h1 := listText_len_le (PyData.shownAll xs)
    have h2 := shown_costAll xs
    rw [PyData.shownAll_length] at h1
    omega
  | .tuple xs => by
    simp only [PyData.shown, cost]
    have h1 := tupleText_len_le (PyData.shownAll xs)
    have h2 := shown_costAll xs
    rw [PyData.shownAll_length] at h1
    omega
  | .none => by simp only [cost]; exact Nat.le_refl _
  | .bool _ => by simp only [cost]; exact Nat.le_refl _
  | .int _ => by simp only [cost]; exact Nat.le_refl _
  | .str _ => by simp only [cost]; exact Nat.le_refl _
  | .dict _ => by simp only [cost]; exact Nat.le_refl _
theorem shown_costAll : ∀ xs : List PyData, ((PyData.shownAll xs).map (·.length)).sum + 2 * xs.length ≤ costAll xs
  | [] => by simp [PyData.shownAll, costAll]
  | x :: r => by
    have h1 := shown_cost x
    have h2 := shown_costAll r
    simp only [PyData.shownAll, costAll, List.map_cons, List.sum_cons, List.length_cons]
    omega
end
mutual
theorem fix_showable : ∀ d : PyData, (fixD d).showable = d.showable
  | .list xs => by simp only [fixD, PyData.showable]; rw [fix_showableAll xs]
  | .tuple xs => by simp only [fixD, PyData.showable]; rw [fix_showableAll xs]
  | .none => by simp only [fixD]
  | .bool _ => by simp only [fixD]
  | .int _ => by simp only [fixD]
  | .str _ => by simp only [fixD]
  | .dict _ => by simp only [fixD]
theorem fix_showableAll : ∀ xs : List PyData, PyData.showableAll (fixAll xs) = PyData.showableAll xs
  | [] => by simp only [fixAll]
  | x :: r => by simp only [fixAll, PyData.showableAll]; rw [fix_showable x, fix_showableAll r]
end
mutual
theorem fix_depth : ∀ d : PyData, (fixD d).depth = d.depth
  | .list xs => by simp only [fixD, PyData.depth]; rw [fix_depthAll xs]
  | .tuple xs => by simp only [fixD, PyData.depth]; rw [fix_depthAll xs]
  | .none => by simp only [fixD]
  | .bool _ => by simp only [fixD]
  | .int _ => by simp only [fixD]
  | .str _ => by simp only [fixD]
  | .dict _ => by simp only [fixD]
theorem fix_depthAll : ∀ xs : List PyData, PyData.depthAll (fixAll xs) = PyData.depthAll xs
  | [] => by simp only [fixAll]
  | x :: r => by simp only [fixAll, PyData.depthAll]; rw [fix_depth x, fix_depthAll r]
end
/-- fit to be shown: not deep, not long -/
structure Fit (n c : Nat) (d : PyData) : Prop where
  sh : d.showable = true
  dp : d.depth ≤ n
  co : cost d ≤ c
theorem Fit.fix {n c : Nat} {d : PyData} (f : Fit n c d) : Fit n c (fixD d) := ⟨by rw [fix_showable]; exact f.sh, by rw [fix_depth]; exact f.dp, by rw [cost_fix]; exact f.co⟩
theorem Fit.le {n c m e : Nat} {d : PyData} (f : Fit n c d) (h : n ≤ m) (k : c ≤ e) : Fit m e d := ⟨f.sh, Nat.le_trans f.dp h, Nat.le_trans f.co k⟩
inductive FitAll (n : Nat) : Nat → List PyData → Prop
  | nil : FitAll n 0 []
  | cons {c e : Nat} {d : PyData} {ds : List PyData} (h : Fit n c d) (t : FitAll n e ds) : FitAll n (c + 2 + e) (d :: ds)
theorem FitAll.facts {n c : Nat} {ds : List PyData} (h : FitAll n c ds) : PyData.showableAll ds = true ∧ PyData.depthAll ds ≤ n ∧ costAll ds ≤ c := by
  induction h with
  | nil => exact ⟨by simp only [PyData.showableAll], by simp only [PyData.depthAll]; exact Nat.zero_le _, by simp only [costAll]; exact Nat.le_refl _⟩
  | cons h t ih =>
    obtain ⟨a, b, e⟩ := ih
    refine ⟨by simp only [PyData.showableAll, h.sh, a]; rfl, ?_, ?_⟩
    · simp only [PyData.depthAll]
      exact Nat.max_le.mpr ⟨h.dp, b⟩
    · simp only [costAll]
      have := h.co
      omega
theorem FitAll.list {n c : Nat} {ds : List PyData} (h : FitAll n c ds) : Fit (n + 1) (3 + c) (.list ds) := by
  obtain ⟨a, b, e⟩ := h.facts
  exact ⟨by simp only [PyData.showable]; exact a, by simp only [PyData.depth]; omega, by simp only [cost]; omega⟩
theorem FitAll.tuple {n c : Nat} {ds : List PyData} (h : FitAll n c ds) : Fit (n + 1) (3 + c) (.tuple ds) := by
  obtain ⟨a, b, e⟩ := h.facts
  exact ⟨by simp only [PyData.showable]; exact a, by simp only [PyData.depth]; omega, by simp only [cost]; omega⟩
theorem costAll_len : ∀ xs : List PyData, 2 * xs.length ≤ costAll xs
  | [] => by simp [costAll]
  | x :: r => by
    have := costAll_len r
    simp only [costAll, List.length_cons]
    omega
theorem costAll_mem : ∀ {xs : List PyData} {d : PyData}, d ∈ xs → cost d ≤ costAll xs
  | [], d, m => by cases m
  | x :: r, d, m => by
    simp only [costAll]
    rcases List.mem_cons.mp m with e | m
    · rw [e]
      omega
    · have := costAll_mem m
      omega
theorem depthAll_mem : ∀ {xs : List PyData} {d : PyData}, d ∈ xs → d.depth ≤ PyData.depthAll xs
  | [], d, m => by cases m
  | x :: r, d, m => by
    simp only [PyData.depthAll]
    rcases List.mem_cons.mp m with e | m
    · rw [e]
      exact Nat.le_max_left _ _
    · exact Nat.le_trans (depthAll_mem m) (Nat.le_max_right _ _)
theorem showableAll_mem : ∀ {xs : List PyData} {d : PyData}, PyData.showableAll xs = true → d ∈ xs → d.showable = true
  | [], d, _, m => by cases m
  | x :: r, d, h, m => by
    simp only [PyData.showableAll, Bool.and_eq_true] at h
    rcases List.mem_cons.mp m with e | m
    · rw [e]
      exact h.1
    · exact showableAll_mem h.2 m
/-- a list's or a tuple's item -/
theorem Fit.item {n c : Nat} {xs : List PyData} {d : PyData} (f : Fit (n + 1) c (.list xs) ∨ Fit (n + 1) c (.tuple xs)) (m : d ∈ xs) : Fit n c d := by
  rcases f with f | f
  · obtain ⟨a, b, e⟩ := f
    simp only [PyData.showable, PyData.depth, cost] at a b e
    have h1 := depthAll_mem m
    have h2 := costAll_mem m
    exact ⟨showableAll_mem a m, by omega, by omega⟩
  · obtain ⟨a, b, e⟩ := f
    simp only [PyData.showable, PyData.depth, cost] at a b e
    have h1 := depthAll_mem m
    have h2 := costAll_mem m
    exact ⟨showableAll_mem a m, by omega, by omega⟩
/-! ### repr of any data -/
/-- repr of a value that is data: its text -/
def rReprA (K : PySem.W.Frag) : List V → Hp → VK → Prop := fun xs H Q => ∃ (v : V) (d : PyData), xs = [v] ∧ Dd K H v d ∧ Fit 64 15000000 d ∧ Q (.str d.shown) H
section
variable {X : Cx}
theorem call_reprA {k : Nat} (hr : Room k X.A) (g : X.A.guards = some []) (M : HasMods X.base) : CallR X (.builtin "repr") (rReprA X.K) := by
  intro pins s σ H xs us Q I r h
  obtain ⟨v, d, rfl, dd, ⟨hs, hdp, hco⟩, q⟩ := h
  have hsz : d.shown.length ≤ sizeLine := Nat.le_trans (shown_cost d) (Nat.le_trans hco (by decide))
  cases dd with
  | non =>
    obtain ⟨u, rfl, r1⟩ := vals1 r
    cases (show u = Value.none from r1)
    exact PySem.P.repr_of_none ⟨.str _, H, I.tok _, ⟨_, rfl⟩, by rw [PyData.shown_none] at q; exact q⟩
  | bl b =>
    obtain ⟨u, rfl, r1⟩ := vals1 r
    cases (show u = Value.bool b from r1)
    refine PySem.P.repr_of_bool ⟨.str _, H, I.tok _, ⟨_, rfl⟩, ?_⟩
    rw [PyData.shown_bool] at q
    cases b <;> exact q
  | num i =>
    obtain ⟨u, rfl, t, rfl⟩ := vals1 r
    refine PySem.P.repr_of_int (by simpa [PyData.showable] using hs) ⟨.str _, H, I.tok _, ⟨_, rfl⟩, ?_⟩
    rw [PyData.shown_int] at q
    exact q
  | str x =>
    obtain ⟨u, rfl, t, rfl⟩ := vals1 r
    rw [PyData.shown_str] at hsz q
    exact PySem.P.repr_of_str ⟨.str _, H, I.tok _, ⟨_, rfl⟩, q⟩ hsz
  | lst e h => exact call_reprD hr g M pins s σ H _ us Q I r ⟨_, _, rfl, .lst e h, hs, hdp, hsz, q⟩
  | tup e h => exact call_reprD hr g M pins s σ H _ us Q I r ⟨_, _, rfl, .tup e h, hs, hdp, hsz, q⟩
  | dic e h => exact call_reprD hr g M pins s σ H _ us Q I r ⟨_, _, rfl, .dic e h, hs, hdp, hsz, q⟩
end
theorem r_reprA {K : PySem.W.Frag} {H : Hp} {Q : VK} {v : V} {d : PyData} (e : Dd K H v d) (f : Fit 64 15000000 d) (h : Q (.str d.shown) H) : rReprA K [v] H Q := ⟨v, d, rfl, e, f, h⟩
/-- what isinstance tells of data -/
def seqD : PyData → Bool
  | .list _ => true
  | .tuple _ => true
  | _ => false
theorem dd_seq {K : PySem.W.Frag} {H : Hp} {v : V} {d : PyData} (h : Dd K H v d) : ∃ t : Value, TyX K H v t ∧ PySem.W.kitAny K t [.type "list", .type "tuple"] = some (seqD d) := by
  cases h with
  | non => exact ⟨_, .base .non, kit2 (x := false) (y := false) (by decide +kernel) (by decide +kernel)⟩
  | bl b => exact ⟨_, .base (.bl b), kit2 (x := false) (y := false) (by decide +kernel) (by decide +kernel)⟩
  | num i => exact ⟨_, .base (.int i), kit2 (x := false) (y := false) (by decide +kernel) (by decide +kernel)⟩
  | str x => exact ⟨_, .base (.str x), kit2 (x := false) (y := false) (by decide +kernel) (by decide +kernel)⟩
  | lst e _ =>
    have k := kit2 (K := K) (t := "list") (a := "list") (b := "tuple") (x := true) (y := false) (by decide +kernel) (by decide +kernel)
    rcases e with (e | ⟨o, e⟩) | ⟨o, _, _, e, c, _⟩
    · exact ⟨_, .base (.lst e), k⟩
    · exact ⟨_, .base (.frz e), k⟩
    · exact ⟨_, .kList e c, k⟩
  | tup e _ =>
    have k := kit2 (K := K) (t := "tuple") (a := "list") (b := "tuple") (x := false) (y := true) (by decide +kernel) (by decide +kernel)
    rcases e with (e | ⟨o, e⟩) | ⟨o, _, _, e, c, _⟩
    · exact ⟨_, .base (.tup e), k⟩
    · exact ⟨_, .fTuple e, k⟩
    · exact ⟨_, .kTuple e c, k⟩
  | dic e _ => exact ⟨_, .base (.dK e), kit2 (x := false) (y := false) (by decide +kernel) (by decide +kernel)⟩
def isLst : PyData → Bool
  | .list _ => true
  | _ => false
def isTup : PyData → Bool
  | .tuple _ => true
  | _ => false
theorem dd_list {K : PySem.W.Frag} {H : Hp} {v : V} {d : PyData} (h : Dd K H v d) : ∃ t : Value, TyX K H v t ∧ PySem.W.kitOne K t (.type "list") = some (isLst d) ∧ PySem.W.kitOne K t (.type "tuple") = some (isTup d) := by
  cases h with
  | non => exact ⟨_, .base .non, kit_ty (r := false) (by decide +kernel), kit_ty (r := false) (by decide +kernel)⟩
  | bl b => exact ⟨_, .base (.bl b), kit_ty (r := false) (by decide +kernel), kit_ty (r := false) (by decide +kernel)⟩
  | num i => exact ⟨_, .base (.int i), kit_ty (r := false) (by decide +kernel), kit_ty (r := false) (by decide +kernel)⟩
  | str x => exact ⟨_, .base (.str x), kit_ty (r := false) (by decide +kernel), kit_ty (r := false) (by decide +kernel)⟩
  | lst e _ =>
    have k1 := kit_ty (K := K) (a := "list") (b := "list") (r := true) (by decide +kernel)
    have k2 := kit_ty (K := K) (a := "list") (b := "tuple") (r := false) (by decide +kernel)
    rcases e with (e | ⟨o, e⟩) | ⟨o, _, _, e, c, _⟩
    · exact ⟨_, .base (.lst e), k1, k2⟩
    · exact ⟨_, .base (.frz e), k1, k2⟩
    · exact ⟨_, .kList e c, k1, k2⟩
  | tup e _ =>
    have k1 := kit_ty (K := K) (a := "tuple") (b := "list") (r := false) (by decide +kernel)
    have k2 := kit_ty (K := K) (a := "tuple") (b := "tuple") (r := true) (by decide +kernel)
    rcases e with (e | ⟨o, e⟩) | ⟨o, _, _, e, c, _⟩
    · exact ⟨_, .base (.tup e), k1, k2⟩
    · exact ⟨_, .fTuple e, k1, k2⟩
    · exact ⟨_, .kTuple e c, k1, k2⟩
  | dic e _ => exact ⟨_, .base (.dK e), kit_ty (r := false) (by decide +kernel), kit_ty (r := false) (by decide +kernel)⟩
end Rp
namespace Rp
open PySem PySem.Spec PyProof.Rows L2
/-- data, with tuples for lists; S: what may change meanwhile -/
def spFix (K : PySem.W.Frag) (n : Nat) : Sp := fun vs H Q _ => ∃ (S : List Addr) (v : V) (d : PyData), vs = [v] ∧ (∀ b ∈ S, H b ≠ none) ∧ Dd K (hid S H) v d ∧ d.depth < n ∧ cost d ≤ 15000000 ∧
  ∀ (H' : Hp) (v' : V), Same H H' → Dd K (hid S H') v' (fixD d) → Q v' H'
section
variable {S : List Addr} {H H1 G : Hp} {D p b : Addr} {o : HO}
theorem Keep.own : Keep [D] H (upd H D o) := fun b u n e => by
  rw [upd_ne fun z => n (by simp [z])]
  exact e
theorem Keep.own2 (k : Keep [D] H G) : Keep [D] H (upd G D o) := fun b u n e => by
  rw [upd_ne fun z => n (by simp [z])]
  exact k b u n e
theorem hid_new (hD : H1 D = none) (k : Keep [D] H1 G) : Same (hid S H1) (hid (D :: S) G) := fun b u e => by
  obtain ⟨n, e'⟩ := hid_some e
  have nb : b ≠ D := ne_of_none e' hD
  rw [hid_out (by simp [nb, n])]
  exact k b u (by simp [nb]) e'
theorem live_new {o : HO} (hS : ∀ b ∈ S, H1 b ≠ none) (hD : H1 D = none) (k : Keep [D] H1 G) (e : G D = some o) : ∀ b ∈ D :: S, G b ≠ none := fun b m => by
  rcases List.mem_cons.mp m with z | m
  · rw [z, e]
    exact fun q => nomatch q
  · intro q
    cases z : H1 b with
    | none => exact hS b m z
    | some u =>
      have nb : b ≠ D := ne_of_none z hD
      rw [k b u (by simp [nb]) z] at q
      cases q
theorem live_same (hS : ∀ b ∈ S, H b ≠ none) (s : Same H G) : ∀ b ∈ S, G b ≠ none := fun b m q => by
  cases z : H b with
  | none => exact hS b m z
  | some u =>
    rw [s b u z] at q
    cases q
theorem live_not (hS : ∀ b ∈ S, H b ≠ none) (h : H p = none) : p ∉ S := fun m => hS p m h
theorem fixAll_take {ds : List PyData} {i : Nat} {d : PyData} (h : ds[i]? = some d) : fixAll (ds.take (i + 1)) = fixAll (ds.take i) ++ [fixD d] := by
  rw [fixAll_map, fixAll_map, List.take_succ, h, Option.toList_some, List.map_append]
  rfl
theorem len_cost {ds : List PyData} {c : Nat} (h : costAll ds ≤ c) (hc : c ≤ 15000000) : ds.length < sizeLine := by
  have := costAll_len ds
  exact Nat.lt_of_lt_of_le (m := 8000000) (by omega) (len_ok rfl)
end
end Rp
namespace Rp
open PySem PySem.Spec PyProof.Rows L2
section
variable {K : PySem.W.Frag} {S : List Addr} {H H1 G : Hp} {q p b l : Addr} {o u : HO} {v : V} {d : PyData} {n c : Nat}
theorem notin (hS : ∀ b ∈ S, H b ≠ none) (B : But q H G) (np : p ≠ q) (hp : G p = none) : p ∉ S := fun m => by
  cases z : H p with
  | none => exact hS p m z
  | some o =>
    rw [B p o np z] at hp
    cases hp
theorem dd_but (hq : q ∈ S) (B : But q H G) (h : Dd K (hid S H) v d) : Dd K (hid S G) v d := dd_same ((Keep.but B).sub fun b m => by rw [List.mem_singleton.mp m]; exact hq).hid h
theorem live_but {c0 : Addr} {nums : List Int} {lap : Nat} (hS : ∀ b ∈ S, H b ≠ none) (B : But q H G) (D : Dr q c0 nums lap G) : ∀ b ∈ S, G b ≠ none := fun b m z => by
  by_cases e : b = q
  · obtain ⟨_, ⟨_, h⟩, _⟩ := D
    rw [e, h] at z
    cases z
  · cases y : H b with
    | none => exact hS b m y
    | some o =>
      rw [B b o e y] at z
      cases z
theorem at_put (hG : upd H p o = G) (n : l ≠ p) : G l = H l := by rw [← hG, upd_ne n]
/-- data in a row, fit to be shown -/
def FitA (n c : Nat) (ds : List PyData) : Prop := PyData.showableAll ds = true ∧ PyData.depthAll ds ≤ n ∧ costAll ds ≤ c
theorem FitA.nil : FitA n c [] := ⟨by simp only [PyData.showableAll], by simp only [PyData.depthAll]; exact Nat.zero_le _, by simp only [costAll]; exact Nat.zero_le _⟩
theorem FitA.cons {e : Nat} {ds : List PyData} (h : Fit n c d) (t : FitA n e ds) : FitA n (c + 2 + e) (d :: ds) := by
  obtain ⟨a, b, f⟩ := t
  refine ⟨by simp only [PyData.showableAll, h.sh, a]; rfl, ?_, ?_⟩
  · simp only [PyData.depthAll]
    exact Nat.max_le.mpr ⟨h.dp, b⟩
  · simp only [costAll]
    have := h.co
    omega
theorem FitA.app {e : Nat} : ∀ {ds : List PyData} {m : Nat}, FitA n m ds → Fit n e d → FitA n (m + (e + 2)) (ds ++ [d])
  | [], m, _, f => by
    obtain ⟨a, b, g⟩ := FitA.cons (e := 0) f FitA.nil
    exact ⟨a, b, by show costAll [d] ≤ _; omega⟩
  | x :: r, m, ⟨a, b, g⟩, f => by
    simp only [PyData.showableAll, Bool.and_eq_true] at a
    simp only [PyData.depthAll] at b
    simp only [costAll] at g
    obtain ⟨a', b', g'⟩ := FitA.app (ds := r) (m := m - (cost x + 2)) ⟨a.2, by omega, by omega⟩ f
    refine ⟨?_, ?_, ?_⟩
    · show PyData.showableAll (x :: (r ++ [d])) = true
      simp only [PyData.showableAll, a.1, a']
      rfl
    · show PyData.depthAll (x :: (r ++ [d])) ≤ n
      simp only [PyData.depthAll]
      omega
    · show costAll (x :: (r ++ [d])) ≤ _
      simp only [costAll]
      omega
theorem FitA.le {m e : Nat} {ds : List PyData} (f : FitA n c ds) (h : n ≤ m) (k : c ≤ e) : FitA m e ds := ⟨f.1, Nat.le_trans f.2.1 h, Nat.le_trans f.2.2 k⟩
theorem FitA.list {ds : List PyData} (f : FitA n c ds) : Fit (n + 1) (3 + c) (.list ds) := by
  obtain ⟨a, b, e⟩ := f
  exact ⟨by simp only [PyData.showable]; exact a, by simp only [PyData.depth]; omega, by simp only [cost]; omega⟩
theorem FitA.tuple {ds : List PyData} (f : FitA n c ds) : Fit (n + 1) (3 + c) (.tuple ds) := by
  obtain ⟨a, b, e⟩ := f
  exact ⟨by simp only [PyData.showable]; exact a, by simp only [PyData.depth]; omega, by simp only [cost]; omega⟩
theorem fit_int {i : Int} (h : i.natAbs < 10 ^ 12) : Fit n 13 (.int i) :=
  ⟨by simp only [PyData.showable, decide_eq_true_eq]; exact log_ok (Nat.lt_of_lt_of_le h (by decide)), by simp only [PyData.depth]; exact Nat.zero_le _, by simp only [cost]; exact PyData.shown_int_le h⟩
end
end Rp
namespace Rp
open PySem
theorem leaf_fit {n c : Nat} {d : PyData} (a : d.showable = true) (b : d.depth ≤ n) (e : cost d ≤ c) : Fit n c d := ⟨a, b, e⟩
end Rp
namespace Rp
open PySem PySem.Spec PyProof.Rows L2
section
variable {K : PySem.W.Frag} {H : Hp} {q c p : Addr} {ns : List Int} {lap : Nat} {Q : VK} {xs : List V} {i : Int} {v : V}
theorem live_q (D : Dr q c ns lap H) : ∀ b ∈ [q], H b ≠ none := fun b m z => by
  obtain ⟨_, ⟨_, h⟩, _⟩ := D
  rw [List.mem_singleton.mp m, h] at z
  cases z
theorem r_ixT (hs : SqT K H p xs) (ha : atI xs i = some v) (h : Q v H) : rIxT K (.ref p) (.int i) H Q := ⟨p, xs, i, v, rfl, rfl, hs, ha, h⟩
end
end Rp
namespace Rp
open PySem PySem.Spec PyProof.Rows L2
/-! ### a caught error that outlives its suite -/
/-- the error at a: its class, its own dict -/
def ErO (a : Addr) (cls : Value) (d : Option Addr) : HO := .ext fun h => ∃ (oe : Obj) (vs : Array Value), h.get? a = some oe ∧ Zc cls d oe ∧ oe.data = .fields vs
theorem erO_ok {P : Program} {w : World} {H : Hp} {h : Heap} {a : Addr} {cls : Value} {d : Option Addr} {oe : Obj} {vs : Array Value} (e : h.get? a = some oe) (z : Zc cls d oe) (f : oe.data = .fields vs) : ObjOk P w H h a (ErO a cls d) :=
  ⟨⟨oe, vs, e, z, f⟩, ⟨oe, e⟩, fun _ _ ⟨o, us, e1, z1, f1⟩ st => ⟨o, us, st _ e1, z1, f1⟩⟩
theorem inv_track {X : Cx} {pins : List (Addr × Obj)} {σ : L2.St} {H : Hp} {s : Shared} {a : Addr} {o : HO} (I : Inv X pins σ H s) (n : H a = none) (new : ObjOk X.prog X.w (upd H a o) s.heap a o) (fresh : X.s_0.heap.get? a = none)
    (nL : a ≠ X.env.locals) (nC : ∀ x c, X.env.cells.lookup x = some c → c ≠ a) (np : ∀ p ∈ X.pn ++ pins, p.1 ≠ a) : Inv X pins σ (upd H a o) s := by
  have some_ : ∀ {b u}, H b = some u → b ≠ a := fun e => ne_of_none e n
  have keep_ : ∀ {b u}, H b = some u → upd H a o b = some u := fun e => by rw [upd_ne (some_ e)]; exact e
  refine ⟨I.ok, I.os, I.bare, ⟨I.base.keep, I.base.slot, fun b ob e n0 hx => ?_, I.base.there, fun b xs e => keep_ (I.base.tups b xs e), fun b ob u e => keep_ (I.base.frzs b ob u e), fun b ps e => ?_⟩, I.loc, I.cell, ?_, fun y c e => ?_, fun p hp => ?_, fun b u e => ?_, I.len⟩
  · rw [upd_ne (fun z => by rw [z, fresh] at e; cases e)]
    exact I.base.free b ob e n0 hx
  · obtain ⟨more, z⟩ := I.base.tbls b ps e
    exact ⟨more, keep_ z⟩
  · rw [upd_ne (Ne.symm nL)]
    exact I.free
  · rw [upd_ne (nC y c e)]
    exact I.freeC y c e
  · obtain ⟨h1, h2, h3⟩ := I.pin p hp
    exact ⟨h1, by rw [upd_ne (np p hp)]; exact h2, h3⟩
  · by_cases hb : b = a
    · subst hb
      rw [upd_same] at e
      cases e
      exact new
    · rw [upd_ne hb] at e
      exact (I.hok b u e).stay (fun _ _ _ q => q) (fun _ q => keep_ q) fun _ _ q => keep_ q
/-- what 'except x as n' wishes where the error is held on: as wAs, and behind the suite the error is tracked -/
def wAsT (K : PySem.W.Frag) (c : Value) (i : Nat) (ts : Addr → Value → Option Addr → TS) (Wout : WX) (D : Ends) : WX := fun cls d σ H =>
  ∃ b, PySem.W.exmOne K cls c = some b ∧ (b = true → ∀ a, H a = none → ts a cls d { nx := fun σ' H' => D.nx (σ'.set i none) (upd H' a (ErO a cls d)), rt := D.rt, bk := fun σ' H' => D.bk (σ'.set i none) H', ct := fun σ' H' => D.ct (σ'.set i none) H' } (σ.set i (some (.ref a))) H) ∧
    (b = false → Wout cls d σ H)
/-- a place that nothing of the state before knows -/
structure Unseen (X : Cx) (pins : List (Addr × Obj)) (a : Addr) : Prop where
  old : X.s_0.heap.get? a = none
  loc : a ≠ X.env.locals
  fs : a ∉ X.fs
  cel : ∀ x c, X.env.cells.lookup x = some c → c ≠ a
  pin : ∀ p ∈ X.pn ++ pins, p.1 ≠ a
/-- an error in flight stands where nothing stood -/
theorem unseen {X : Cx} {pins : List (Addr × Obj)} {σ : L2.St} {H : Hp} {s : Shared} {B h : Heap} {a : Addr} {o : Obj} {vs : Array Value} (I : Inv X pins σ H s) (st : X.stack = X.env :: X.outer) (fr : X.env.frame = some X.env.locals) (ex : X.ex = [])
    (sub : ∀ b u, s.heap.get? b = some u → b ∉ frs X.stack → B.get? b = some u) (new : B.get? a = none) (ff : h.FunFrames B (X.env :: X.outer)) (at_ : h.get? a = some o) (dt : o.data = .fields vs) : Unseen X pins a := by
  have off : a ∉ frs (X.env :: X.outer) := by
    intro m
    obtain ⟨_, u, eu, no⟩ := ff.mem m
    cases at_.symm.trans eu
    exact no vs dt
  have none_ : ∀ u, s.heap.get? a = some u → False := by
    intro u e
    have z := sub a u e (st ▸ off)
    cases new.symm.trans z
  constructor
  · cases e : X.s_0.heap.get? a with
    | none => rfl
    | some u =>
      obtain ⟨u', e'⟩ := I.base.there a u e (by rw [ex]; simp)
      exact (none_ u' e').elim
  · rintro rfl
    exact off (List.mem_filterMap.mpr ⟨X.env, .head _, fr⟩)
  · intro m
    obtain ⟨e, me, q⟩ := List.mem_filterMap.mp m
    exact off (List.mem_filterMap.mpr ⟨e, .tail _ me, q⟩)
  · rintro y c e rfl
    obtain ⟨_, u, eu, _⟩ := I.cell y c e
    exact none_ u eu
  · rintro p m rfl
    exact none_ _ (I.pin p m).1
section
variable {X : Cx} {x n : Str} {c : Value} {i : Nat} {body suite : List Stmt} {b₀ : Stmt} {np pos pos' : Pos} {tb : WX → TS} {ts : Addr → Value → Option Addr → TS} {Wout : WX}
/-- the clause's name goes, and the error is tracked from then on -/
theorem hold_on {pins : List (Addr × Obj)} {σ : L2.St} {H : Hp} {s : Shared} {a : Addr} {oe : Obj} {vs : Array Value} {cls : Value} {d : Option Addr} {Q : Unit → Shared → Prop} {Z : Value → Shared → Prop} (ok : X.Ok) (u : Unseen X pins a) (nd : X.N.Nodup) (at_ : X.N[i]? = some n) (lc : X.env.kindOf n = some .local)
    (z : Zc cls d oe) (dt : oe.data = .fields vs) (S : Inv (X.suite a ((a, oe) :: (X.pn ++ pins))) [] σ H s) (k : ∀ t, Inv X pins (σ.set i none) (upd H a (ErO a cls d)) t → Q () t) :
    wpAny (model X.prog X.w) X.A (do bindName X.env n .none; unbindBehindTheSuite X.env n pos) Q Z s := by
  apply gone_ok (X := X.suite a ((a, oe) :: (X.pn ++ pins))) S nd at_ lc
  intro t S'
  have pa := S'.pin (a, oe) (List.mem_append_left _ (.head _))
  exact k t (inv_track (S'.unsuite ok) pa.2.1 (erO_ok pa.1 z dt) u.old u.loc u.cel u.pin)
theorem ps_tryT (st : X.stack = X.env :: X.outer) (fr : X.env.frame = some X.env.locals) (ex : X.ex = []) (nd : X.N.Nodup) (at_ : X.N[i]? = some n) (lc : X.env.kindOf n = some .local) (nm : Names X x c) (tk : Takes X Wout)
    (B : ∀ (W : WX) (pn : List (Addr × Obj)) (xe : Value → Shared → Prop), Takes (X.tr pn xe) W → PassesOwn (model X.prog X.w) X.A X.env xe → PSs (X.tr pn xe) body (tb W))
    (S : ∀ (a : Addr) (oe : Obj) (cls : Value) (d : Option Addr) (pn : List (Addr × Obj)), Zc cls d oe → (∃ vs, oe.data = .fields vs) → PSs (X.suite a ((a, oe) :: pn)) (b₀ :: suite) (ts a cls d)) :
    PS X (.Try body [.ExceptHandler (some (.Name x np)) (some n) (b₀ :: suite) pos'] [] [] pos) (fun D σ H => tb (wAsT X.K c i ts Wout D) D σ H) := by
  constructor
  intro pins s σ H D I q
  have ok := I.ok
  have top : X.A.frames = some (X.env :: X.outer) := ok.frames.trans (congrArg some st)
  have own := B (wAsT X.K c i ts Wout D) (X.pn ++ pins) (fun e s1 => wpAny (model X.prog X.w) X.A (noteFrame e X.env) (fun _ s2 => wpAny (model X.prog X.w) X.A (setFlight e none) (fun _ s3 =>
    wpAny (model X.prog X.w) X.A (handleBy e X.env [.ExceptHandler (some (.Name x np)) (some n) (b₀ :: suite) pos']) (SP X pins D) X.xe s3) X.xe s2) X.xe s1) ?_ PassesOwn.looking
  · apply wpAny_Try_except
    apply wpAny_mono (own.run [] s σ H D (I.toTry _) q)
    · intro fl t z
      rcases fl with _ | _ | _ | v
      · obtain ⟨σ', G, J, r⟩ := z
        exact wpAny_execs_nil ⟨σ', G, J.ofTry ok, r⟩
      · obtain ⟨σ', G, J, r⟩ := z
        exact ⟨σ', G, J.ofTry ok, r⟩
      · obtain ⟨σ', G, J, r⟩ := z
        exact ⟨σ', G, J.ofTry ok, r⟩
      · obtain ⟨v', σ', G, J, r⟩ := z
        exact ⟨v', σ', G, J.ofTry ok, r⟩
    · intro e t z
      exact z
  -- an error comes out of the body
  rintro u t ⟨a, B0, sI, pI, σI, G, cls, d, rfl, JI, sub, up, sky, nG, os, bare, b, eb, yes, no⟩
  have J := JI.ofTry (pins := pins) ok
  rw [st] at sky
  show wpAny (model X.prog X.w) X.A (noteFrame (.ref a) X.env) _ _ _
  apply Sky.land Zc.steady top fr sky
  intro h1 fly1 up1
  obtain ⟨o1, v1, e1, z1, d1⟩ := fly1.there
  have un := unseen J st fr ex sub fly1.2.1 fly1.2.2.1 e1 d1
  have J1 : Inv X pins σI G { t with heap := h1 } := J.landed sub fly1.1 (up.trans up1) os bare
  have T1 := J1.suite e1 d1 nG un.loc un.fs
  refine wpAny_handleBy_cons (codeAny_handlers_test ?_) (fun z => nomatch z)
  -- the clause's class
  have ty : PySem.W.Looks (model X.prog X.w) h1 (typeOf (.ref a)) cls := fun _ _ _ _ k z => wpAny_typeOf_ref (k _ _ e1) (z1.1.symm ▸ z)
  have is_ := PySem.W.exm_one (M := model X.prog X.w) J1.kIn ty eb
  have named : ∀ {Q E : Value → Shared → Prop}, Q c { t with heap := h1 } → wpAny (model X.prog X.w) (X.A.mark (some (.ref a))) (eval (.Name x np) X.env) Q E { t with heap := h1 } := by
    intro Q E z
    rcases nm with ⟨g, db, m | ⟨m, v, nn⟩⟩
    · exact ld_glob (X := X.suite a ((a, o1) :: (X.pn ++ pins))) T1 g m z db
    · exact ld_blt (X := X.suite a ((a, o1) :: (X.pn ++ pins))) T1 g m v z nn db
  refine named (is_.here ?_)
  cases b with
  | false =>
    show wpAny _ X.A (handleBy (.ref a) X.env []) _ _ _
    apply wpAny_handleBy_nil
    obtain ⟨_, _, _, o2, v2, T, _, _, e2, _, d2, w2, _⟩ := id fly1
    have away : wpAny (model X.prog X.w) X.A (setFlight (.ref a) X.env.frame) (fun _ s4 => wpAny (model X.prog X.w) X.A (throw (.ref a) : Sem Flow) (SP X pins D) X.xe s4) X.xe { t with heap := h1 } := by
      rw [fr]
      apply HandSPX.setFlight_upZ fly1
      intro h2 sky2 up2
      apply wpAny_throw
      apply tk
      exact ⟨a, B0, sI, pins, σI, G, cls, d, rfl, J, sub, (up.trans up1).trans up2, .inr (.inr (st.symm ▸ sky2)), nG, os, bare, no rfl⟩
    unfold PySem.passOn
    apply wpAny_bind
    apply wpAny_field e2 d2 w2
    have ne : ¬ ((Value.ref T == Value.none) = true) := by simp
    rw [if_neg ne]
    first
      | exact wpAny_bind (wpAny_pure (wpAny_bind away))
      | exact wpAny_bind away
  | true =>
    apply codeAny_handlers_suite_as
    apply HandSPX.lands_againZ fly1
    intro h2 fly2 up2
    obtain ⟨o2, v2, e2, z2, d2⟩ := fly2.there
    have J2 : Inv X pins σI G { t with heap := h2 } := J.landed sub fly2.1 ((up.trans up1).trans up2) os bare
    have T2 := J2.suite e2 d2 nG un.loc un.fs
    refine store_ok (X := X.suite a ((a, o2) :: (X.pn ++ pins))) (v := .ref a) T2 nd at_ (.inl lc) rfl (fun t5 T5 => ?_) (.inr lc)
    apply wpAny_mono ((S a o2 cls d (X.pn ++ pins) z2 ⟨_, d2⟩).run [] t5 _ G _ T5 (yes rfl a nG))
    · intro fl t6 z
      rcases fl with _ | _ | _ | v
      · obtain ⟨σ6, G6, T6, r⟩ := z
        exact hold_on ok un nd at_ lc z2 d2 T6 fun t7 J7 => ⟨_, _, J7, r⟩
      · obtain ⟨σ6, G6, T6, r⟩ := z
        exact gone_ok (T6.unsuite ok) nd at_ lc fun t7 J7 => ⟨_, _, J7, r⟩
      · obtain ⟨σ6, G6, T6, r⟩ := z
        exact gone_ok (T6.unsuite ok) nd at_ lc fun t7 J7 => ⟨_, _, J7, r⟩
      · obtain ⟨w6, σ6, G6, T6, r6, r⟩ := z
        exact gone_ok (T6.unsuite ok) nd at_ lc fun t7 J7 => ⟨_, _, _, J7, r6, r⟩
    · intro e t6 z
      exact z.elim
end
/-! ### what is asked of a tracked error -/
/-- isinstance(e, c), e a tracked error -/
def rIsT (K : PySem.W.Frag) : List V → Hp → VK → Prop := fun xs H Q => ∃ (a D dx : Addr) (fs : List (Str × V)) (c : V) (cv : Value) (b : Bool), xs = [.ref a, c] ∧ ExcC K D ∧ H a = some (ErO a (.ref D) (some dx)) ∧ H dx = some (.xd fs) ∧
  (∀ u, RelV c u → u = cv) ∧ PySem.W.kitOne K (.ref D) cv = some b ∧ Q (.bl b) H
theorem erO_at {X : Cx} {pins : List (Addr × Obj)} {σ : L2.St} {H : Hp} {s : Shared} {a D dx : Addr} {fs : List (Str × V)} (I : Inv X pins σ H s) (h : H a = some (ErO a (.ref D) (some dx))) (hx : H dx = some (.xd fs)) :
    ∃ oe od, PySem.W.InstAt s.heap a oe D (some od) ∧ s.heap.get? dx = some od := by
  obtain ⟨⟨oe, vs, e, z, f⟩, _, _⟩ := I.hok a _ h
  obtain ⟨mA, hns, hr⟩ := I.hok dx _ hx
  obtain ⟨od, ho, _⟩ := lookIn_ns hns
  exact ⟨oe, od, ⟨e, z.1, by unfold PySem.W.notCls; rw [f] <;> rfl, by rw [z.2]; exact ho⟩, ho⟩
theorem call_isT {X : Cx} : CallR X (.builtin "isinstance") (rIsT X.K) := by
  intro pins s σ H xs us Q I r h
  obtain ⟨a, D, dx, fs, c, cv, b, rfl, C, ha, hd, hcv, e, q⟩ := h
  cases r with
  | cons rx rr =>
    cases rr with
    | cons rt rr =>
      cases rr
      cases rx
      have ec := hcv _ rt
      subst ec
      obtain ⟨oe, od, J, _⟩ := erO_at I ha hd
      have hcl : (PySem.W.clsIn X.K D).isSome = true := by
        obtain ⟨cd, hc, _⟩ := PySem.W.any_some C.hd
        rw [hc]
        rfl
      exact PySem.W.kia_one (PySem.W.kitx_exc (od := some od) hcl C.hg C.hk C.hs C.ha C.hn C.ht C.hm) I.kIn J e (fun z => nomatch z) fun tk => ⟨.bl b, H, I.kept (t' := tk) fun _ _ z => z, rfl, q⟩
/-- e.n, e a tracked error -/
def tXt (K : PySem.W.Frag) (f : Str) (te : TE) : TE := fun σ H Q => te σ H fun x H1 => ∃ (a C dd : Addr) (fs : List (Str × V)) (v : V), x = .ref a ∧ XfC K C ∧ PySem.W.findIn K (.ref C) f = some none ∧ H1 a = some (ErO a (.ref C) (some dd)) ∧ H1 dd = some (.xd fs) ∧ fs.lookup f = some v ∧ Q v H1
theorem pe_xt {X : Cx} {e : Expr} {te : TE} {pos : Pos} {n : Str} (he : PE X e te) (hb : attributeBase e n X.env (eval e X.env) = eval e X.env := by rfl) : PE X (.Attribute e n pos) (tXt X.K n te) := by
  refine ⟨fun pins s σ H Q I h => ?_⟩
  refine attr_of hb (thn (he.run pins s σ H _ I h) fun u s1 hh => ?_)
  obtain ⟨x, H1, I1, rx, a, C, dd, fs, v, ex, T, hno, ha, hd, l, q⟩ := hh
  subst ex
  obtain rfl : u = Value.ref a := rx
  obtain ⟨oe, od, J, ho⟩ := erO_at I1 ha hd
  obtain ⟨mA, hns, hr⟩ := I1.hok dd _ hd
  obtain ⟨od', ho', hl⟩ := lookIn_ns hns
  rw [ho] at ho'
  cases ho'
  obtain ⟨w', hu, ru⟩ := RelO.some_of (v := v) (o := mA n) (by rw [← l]; exact hr n)
  exact HandSPX.exc_get I1.kIn J T.ga T.gg T.exC (PySem.W.findObj_own T.hdC hno rfl (by rw [hl, hu])) (handed_of ru) ⟨v, H1, I1.tok _, ru, q⟩
end Rp
namespace Rp
open PySem PySem.Spec PyProof.Rows L2 LamX
/-! ### lambdas with given values, handed to a def -/
/-- where a lambda's given values stand -/
def DvOk (dV : Value) (us : List Value) (H : Hp) (stk : List Env) (h : Heap) : Prop := (us = [] ∧ dV = .none) ∨ (us ≠ [] ∧ ∃ t, dV = .ref t ∧ h.get? t = some (PySem.W.kdv_tup us) ∧ H t = none ∧ t ∉ frs stk)
abbrev lamObj (X : Cx) (params : Arguments) (body : Expr) (scope : Scope) (dV doc pm : Value) (c' : Addr) (ctv : Value) : Obj := PySem.W.kdv_obj "<lambda>" (X.env.qual ++ "<lambda>") params (.expr body) scope (cloFrom X.env.cells scope.names []) dV doc pm c' ctv
section
variable {X : Cx} {pins : List (Addr × Obj)} {σ : L2.St} {H : Hp} {s : Shared}
/-- a place that is not there yet is no frame's -/
theorem unframed (I : Inv X pins σ H s) {f : Addr} (h : s.heap.objs.size ≤ f) : f ∉ frs X.stack := by
  intro m
  cases I.stkSub _ m with
  | head => exact absurd I.lt (Nat.not_lt.mpr h)
  | tail _ z => exact I.nofs h z
theorem lam_tail {T : List (Addr × Str)} {c P : Addr} {params : Arguments} {body : Expr} {scope : Scope} {pos : Pos} {line : Nat} {dV : Value} {us : List Value} {Z : Value → Shared → Prop} {Q : Value → Shared → Prop} (I : Inv X pins σ H s) (TB : TabB X.base X.mg c P) (cd : X.env.code = .ref c)
    (mem : (P, X.env.qual ++ "<lambda>") ∈ T) (one : ∀ p ∈ T, p.1 = P → p.2 = X.env.qual ++ "<lambda>") (tabs : Tabs T H) (cap : ∀ y ∈ scope.names, y.2 = .free → ∃ c, X.env.cells.lookup y.1 = some c) (dv : DvOk dV us H X.stack s.heap)
    (k : ∀ (f c' : Addr) (doc pm ctv : Value) (G : Hp) (t : Shared), Inv X pins σ G t → ExtN H G → Tabs T G → t.heap.get? f = some (lamObj X params body scope dV doc pm c' ctv) → G f = none → f ∉ frs X.stack → DvOk dV us G X.stack t.heap → G c' = some (CodeO c' (X.env.qual ++ "<lambda>")) → Q (.ref f) t) :
    wpAny (model X.prog X.w) X.A (makeTail "<lambda>" (X.env.qual ++ "<lambda>") params (.expr body) scope X.env dV .none none pos line) Q Z s := by
  obtain ⟨ps, isP, trip, told⟩ := tabs _ mem
  have atP : s.heap.get? P = some { cls := .none, data := .fields ps } := I.hok P _ isP
  have clo := closure_ok cap
  have names := I.mod.glob.keeps I.bk
  have code := TB.code.keeps I.bk
  have blt : s.heap.BuiltinsAt X.mg P := TB.bm.keeps I.bk
  rcases found : codeAmong pos ps.toList with _ | cv
  · -- a code object is made, and noted in the table
    apply PySem.W.kdv_makeTail clo I.ok.glob names cd code atP trip found TB.gP blt
    rintro c' ctv doc h tk other fresh lt ⟨c2, oc, vs, t, rfl', hoc, dat, nm⟩ tab
    cases rfl'
    have nc : H c' = none := I.hok.fresh fresh
    have le : s.heap.objs.size ≤ h.objs.size := Nat.le_trans fresh (Nat.le_of_lt lt)
    have cP : P ≠ c' := ne_of_none isP nc
    have J := inv_table (q := X.env.qual ++ "<lambda>") (t' := tk) (h' := h.push (lamObj X params body scope dV doc ((X.mg "__name__").getD .none) c' ctv)) I isP (fun b o n e => Heap.get?_push_of_some _ (other b o n e)) (Heap.get?_push_of_some _ tab) fresh ⟨oc, vs, t, Heap.get?_push_of_some _ hoc, dat, nm⟩
    generalize hG : upd (upd H P _) c' _ = G at J
    have Gc : G c' = some (CodeO c' (X.env.qual ++ "<lambda>")) := by rw [← hG, upd_same]
    have GP : G P = some (.tbl (ps ++ #[rawInt pos.line, rawInt pos.col, .ref c'])) := by rw [← hG, upd_ne cP, upd_same]
    have Go : ∀ b, b ≠ P → b ≠ c' → G b = H b := fun b n1 n2 => by rw [← hG, upd_ne n2, upd_ne n1]
    have grow : ExtN H G := by
      intro b o e n
      rw [Go b (by rintro rfl; exact n ps (Option.some.inj (e.symm.trans isP))) (ne_of_none e nc)]
      exact e
    have snoc : (ps ++ #[rawInt pos.line, rawInt pos.col, Value.ref c']).toList = ps.toList ++ [rawInt pos.line, rawInt pos.col, .ref c'] := by simp
    refine k h.objs.size c' doc _ ctv G _ J grow ?_ (Heap.get?_push_size _ rfl) ?_ (unframed I le) ?_ Gc
    · intro p mp
      by_cases eP : p.1 = P
      · rw [one p mp eP, eP]
        refine ⟨_, GP, snoc ▸ PySem.TriplesOk_snoc _ _ _ _ trip, ?_⟩
        intro at_ cv z
        rw [snoc] at z
        rcases among_app _ trip z with z | rfl
        · obtain ⟨c0, rfl, z0⟩ := told at_ cv z
          exact ⟨c0, rfl, grow _ _ z0 codeO_ne⟩
        · exact ⟨c', rfl, Gc⟩
      · obtain ⟨ps2, t1, t2, t3⟩ := tabs p mp
        refine ⟨ps2, (Go _ eP (ne_of_none t1 nc)).trans t1, t2, ?_⟩
        intro at_ cv z
        obtain ⟨c0, rfl, z0⟩ := t3 at_ cv z
        exact ⟨c0, rfl, grow _ _ z0 codeO_ne⟩
    · rw [Go _ (Nat.ne_of_gt (Nat.lt_of_lt_of_le (Heap.lt_size atP) le)) (Nat.ne_of_gt lt)]
      exact I.hok.fresh le
    · rcases dv with z | ⟨nz, t, rfl, et, nt, ft⟩
      · exact .inl z
      · have tP : t ≠ P := by
          rintro rfl
          cases nt.symm.trans isP
        exact .inr ⟨nz, t, rfl, Heap.get?_push_of_some _ (other _ _ tP et), (Go t tP (Nat.ne_of_lt (Nat.lt_of_lt_of_le (Heap.lt_size et) fresh))).trans nt, ft⟩
  · -- it is there already
    obtain ⟨c', rfl, isC⟩ := told pos cv found
    apply PySem.W.kdv_makeTailHit clo I.ok.glob names cd code atP trip found blt
    intro ctv doc h tk all le
    refine k h.objs.size c' doc _ ctv H _ (I.kept fun b o e => Heap.get?_push_of_some _ (all b o e)) (ExtN.refl H) tabs (Heap.get?_push_size _ rfl) (I.hok.fresh le) (unframed I le) ?_ isC
    exact dv.imp id fun ⟨nz, t, e1, e2, e3⟩ => ⟨nz, t, e1, Heap.get?_push_of_some _ (all _ _ e2), e3⟩
/-- what comes of a lambda's expression -/
def LamMade (X : Cx) (pins : List (Addr × Obj)) (σ : L2.St) (H : Hp) (T : List (Addr × Str)) (params : Arguments) (body : Expr) (scope : Scope) (dvs : List V) (f : Addr) (s' : Shared) : Prop := ∃ (c' : Addr) (dV doc pm ctv : Value) (us : List Value) (H1 : Hp), Inv X pins σ H1 s' ∧ ExtN H H1 ∧ Tabs T H1 ∧
  s'.heap.get? f = some (lamObj X params body scope dV doc pm c' ctv) ∧ H1 f = none ∧ f ∉ frs X.stack ∧ DvOk dV us H1 X.stack s'.heap ∧ Vals dvs us ∧ H1 c' = some (CodeO c' (X.env.qual ++ "<lambda>"))
theorem lam_make0 {T : List (Addr × Str)} {c P : Addr} {params : Arguments} {body : Expr} {scope : Scope} {pos : Pos} {E : Value → Shared → Prop} {Q : Value → Shared → Prop} (I : Inv X pins σ H s) (TB : TabB X.base X.mg c P) (hcode : X.env.code = .ref c)
    (hm : (P, X.env.qual ++ "<lambda>") ∈ T) (hu : ∀ p ∈ T, p.1 = P → p.2 = X.env.qual ++ "<lambda>") (hT : Tabs T H) (hdef : defaultsOf params X.env = ([], [])) (hfree : ∀ y ∈ scope.names, y.2 = .free → ∃ c, X.env.cells.lookup y.1 = some c)
    (h : ∀ (f : Addr) (s' : Shared), LamMade X pins σ H T params body scope [] f s' → Q (.ref f) s') :
    wpAny (model X.prog X.w) X.A (eval (.Lambda params body scope pos) X.env) Q E s := by
  refine PySem.W.kla_eval hdef ?_
  rw [makeFunction_eq]
  simp only [List.zip_nil_right, List.filterMap_nil, List.isEmpty_nil, if_true, pure_bind]
  exact lam_tail I TB hcode hm hu hT hfree (.inl ⟨rfl, rfl⟩) fun f c' doc pm ctv H1 s' I1 e T1 h1 h2 h3 h4 h5 => h f s' ⟨c', _, doc, pm, ctv, [], H1, I1, e, T1, h1, h2, h3, h4, .nil, h5⟩
theorem lam_make1 {T : List (Addr × Str)} {c P : Addr} {params : Arguments} {body : Expr} {scope : Scope} {pos : Pos} {i : Int} {j : Nat} {dp : Pos} {E : Value → Shared → Prop} {Q : Value → Shared → Prop} (I : Inv X pins σ H s) (TB : TabB X.base X.mg c P) (hcode : X.env.code = .ref c)
    (hm : (P, X.env.qual ++ "<lambda>") ∈ T) (hu : ∀ p ∈ T, p.1 = P → p.2 = X.env.qual ++ "<lambda>") (hT : Tabs T H) (hdef : params.defaults = [.Constant (.int i) j dp]) (hkd : params.kw_defaults = []) (hfree : ∀ y ∈ scope.names, y.2 = .free → ∃ c, X.env.cells.lookup y.1 = some c)
    (h : ∀ (f : Addr) (s' : Shared), LamMade X pins σ H T params body scope [.int i] f s' → Q (.ref f) s') :
    wpAny (model X.prog X.w) X.A (eval (.Lambda params body scope pos) X.env) Q E s := by
  refine PySem.W.kdv_lam (by rw [hdef]; rfl) hkd ?_
  rw [hdef]
  refine PySem.W.kdv_all1 (wpAny_Constant_int ?_)
  refine PySem.W.kdv_all0 ?_
  generalize hv : (Value.int i _) = v
  have rv : L2.RelV (.int i) v := by rw [← hv]; exact ⟨_, rfl⟩
  rw [makeFunction_eq]
  simp only [List.zip_nil_right, List.filterMap_nil, List.isEmpty_nil, if_true, pure_bind, List.isEmpty_cons, Bool.false_eq_true, if_false]
  refine wpAny_bind (wpAny_newTextTuple ?_)
  have I1 := (I.tok (s.toks + 1)).kept (t' := s.toks + 1) (h' := s.heap.push (PySem.W.kdv_tup [v])) fun b u e => Heap.get?_push_of_some _ e
  exact lam_tail I1 TB hcode hm hu hT hfree (.inr ⟨by simp, _, rfl, Heap.get?_push_size _ rfl, I.hok.fresh (Nat.le_refl _), unframed I (Nat.le_refl _)⟩) fun f c' doc pm ctv H1 s' I1 e T1 h1 h2 h3 h4 h5 => h f s' ⟨c', _, doc, pm, ctv, [v], H1, I1, e, T1, h1, h2, h3, h4, .cons rv .nil, h5⟩
end
/-- a lambda's names: its parameters (no slot is called so), captured ones and globals -/
structure LamT (N : List Str) (sc scope : Scope) : Prop where
  kind : scope.kind = .function
  co : scope.isCoroutine = false
  gen : scope.isGenerator = false
  each : ∀ y ∈ scope.names, y.2 ≠ .cell ∧ (y.2 = .local → y.1 ∉ N) ∧ (y.2 = .free → sc.names.lookup y.1 = some .cell ∨ sc.names.lookup y.1 = some .free)
def lamTB (N : List Str) (sc scope : Scope) : Bool :=
  (scope.kind == .function) && (!scope.isCoroutine && (!scope.isGenerator && scope.names.all fun y => decide (y.2 ≠ .cell ∧ (y.2 = .local → y.1 ∉ N) ∧ (y.2 = .free → sc.names.lookup y.1 = some .cell ∨ sc.names.lookup y.1 = some .free))))
theorem lamT_by {N : List Str} {sc scope : Scope} (h : lamTB N sc scope = true) : LamT N sc scope := by
  obtain ⟨h1, h⟩ := Bool.and_eq_true_iff.mp h
  obtain ⟨h2, h⟩ := Bool.and_eq_true_iff.mp h
  obtain ⟨h3, h4⟩ := Bool.and_eq_true_iff.mp h
  exact ⟨by simpa using h1, by simpa using h2, by simpa using h3, fun y m => of_decide_eq_true (List.all_eq_true.mp h4 y m)⟩
theorem LamT.has {X : Cx} {scope : Scope} (L : LamT X.N X.env.scope scope) (ok : X.Ok) : ∀ y ∈ scope.names, y.2 = .free → ∃ c, X.env.cells.lookup y.1 = some c :=
  fun y m e => ok.has _ ((L.each y m).2.2 e)
section
variable {X : Cx} {pins : List (Addr × Obj)} {σ : L2.St} {H HZ : Hp} {s s1 : Shared}
/-- what a lambda captures, it captures of its maker's cells -/
theorem clo_of {scope : Scope} (cap : ∀ y ∈ scope.names, y.2 = .free → ∃ c, X.env.cells.lookup y.1 = some c) {y : Str} {c : Addr} (e : (cloFrom X.env.cells scope.names []).lookup y = some c) : X.env.cells.lookup y = some c := by
  rcases cloFrom_mem (PySem.mem_of_lookup e) with m | ⟨m, q⟩
  · cases m
  · obtain ⟨c', e'⟩ := cap _ m rfl
    have e2 : X.env.cells.lookup y = some c' := e'
    rw [e2] at q
    rw [e2, q] <;> rfl
theorem to_clo {scope : Scope} {y : Str} (m : scope.names.lookup y = some .free) : ∃ c, (cloFrom X.env.cells scope.names []).lookup y = some c :=
  mem_lookup (cloFrom_has (cells := X.env.cells) (acc := []) (PySem.mem_of_lookup m))
/-- the state as the lambda's body finds it -/
theorem lam_start3 {A : Around} {outer : List Env} {E : XK} {scope : Scope} {f c' : Addr} {h₁ : Heap} {tk : Nat} {m : Str → Option Value} (I : Inv X pins σ H s) (L : LamT X.N X.env.scope scope) (e0 : Env0 X.prog X.w X.K X.mg X.base A outer s1 HZ) (calm : A.handled = none)
    (un : Un (frs X.stack) [] H HZ s.heap s1.heap) (ns : h₁.Ns s1.heap.objs.size m) (kp : ∀ b o, s1.heap.get? b = some o → h₁.get? b = some o) :
    Inv (lamCx X A outer s1 HZ E scope f c') [] σ HZ { s1 with heap := h₁, toks := tk } := by
  have cap := L.has I.ok
  have cells : ∀ {y c}, (cloFrom X.env.cells scope.names []).lookup y = some c → X.env.cells.lookup y = some c := fun e => clo_of cap e
  have noCell : ∀ {y}, scope.names.lookup y = some .cell → False := fun e => (L.each _ (PySem.mem_of_lookup e)).1 rfl
  have cell_ : ∀ {c : Addr} {v : Option Value}, H c = none → s.heap.IsCell c v → h₁.IsCell c v := by
    rintro c v n ⟨o, e, d⟩
    obtain ⟨sl, e'⟩ := un.any e n (by simp)
    exact ⟨_, kp _ _ e', d⟩
  have nil_ : ∀ b : Addr, b ∉ ([] : List Addr) := by simp
  constructor
  case ok =>
    refine ⟨e0.mod, L.kind, rfl, rfl, Nat.le_refl _, fun y z c a b => I.ok.inj y z c (cells a) (cells b), ?_, ?_, fun _ => calm, Around.frames_deeper e0.frames, .inr ⟨rfl, rfl⟩, fun b z => (nil_ b z).elim, e0.bs, e0.bsz, fun b _ _ => nil_ b, fun b z => (nil_ b z).elim, e0.funs, e0.frf⟩
    · rintro y (z | z)
      · exact (noCell z).elim
      · exact to_clo z
    · intro y c z
      cases (show false = true from z)
  case os => rfl
  case bare => exact e0.bare
  case base => exact Un.kept kp
  case loc =>
    refine ⟨_, ns, ?_⟩
    rintro i y v at_ val (z | z | z)
    · exact ((L.each _ (PySem.mem_of_lookup z)).2.1 rfl (List.mem_of_getElem? at_)).elim
    · exact (noCell z).elim
    · obtain ⟨m', _, look⟩ := I.loc
      have seen := (L.each _ (PySem.mem_of_lookup z)).2.2 rfl
      obtain ⟨u, r, l⟩ := look i y v at_ val (.inr seen)
      obtain ⟨c, ec⟩ := to_clo (X := X) z
      refine ⟨u, r, .inr ⟨.inr z, c, ec, ?_⟩⟩
      rcases l with ⟨l, _⟩ | ⟨_, c2, e2, isc⟩
      · have l' : X.env.scope.names.lookup y = some .local := l
        rcases seen with k | k <;> cases l'.symm.trans k
      · cases (cells ec).symm.trans e2
        exact cell_ (I.freeC y _ e2) isc
  case cell =>
    intro y c e
    obtain ⟨v, z⟩ := I.cell y c (cells e)
    exact ⟨v, cell_ (I.freeC y c (cells e)) z⟩
  case free => exact e0.hok.fresh (Nat.le_refl _)
  case freeC =>
    intro y c e
    obtain ⟨v, o, at_, _⟩ := I.cell y c (cells e)
    exact un.free c o at_ (I.freeC y c (cells e)) (by simp)
  case pin =>
    intro p m
    exact absurd (show p ∈ ([] : List (Addr × Obj)) from m) (by simp)
  case hok => exact e0.hok.kept kp
  case len => exact I.len
/-- the parameters are bound by the given values -/
def LamBinds (params : Arguments) (body : Expr) (scope : Scope) (ps : List Str) (dvs : List V) : Prop := ∀ (q : Str) (cl : List (Str × Addr)) (dV doc pm cv ctv : Value) (us : List Value) (H : Hp) (stk : List Env) (s : Shared), Vals dvs us → DvOk dV us H stk s.heap →
  BindsTo s (PySem.W.kdv_fn "<lambda>" q params (.expr body) scope cl dV doc pm cv ctv) ⟨[], []⟩ (ps.zip us)
/-- the lambda called, from where its taker stands -/
theorem lam_runs {A : Around} {outer : List Env} {ps : List Str} {dvs : List V} {f c' : Addr} {dV doc pm ctv : Value} {us : List Value} {params : Arguments} {body : Expr} {scope : Scope} {k : Nat} {Q : VK} {E : XK} {tb : TE} (I : Inv X pins σ H s) (L : LamT X.N X.env.scope scope)
    (isF : s1.heap.get? f = some (lamObj X params body scope dV doc pm c' ctv)) (isC : HZ c' = some (CodeO c' (X.env.qual ++ "<lambda>"))) (dv : DvOk dV us H X.stack s1.heap) (rv : Vals dvs us) (bind : LamBinds params body scope ps dvs) (par : ∀ p ∈ ps, scope.names.lookup p = some .local)
    (e0 : Env0 X.prog X.w X.K X.mg X.base A outer s1 HZ) (lim : s1.heap.NoLimit) (un : Un (frs X.stack) [] H HZ s.heap s1.heap) (room : Room (k + 1) A)
    (B : ∀ (A : Around) (outer : List Env) (s : Shared) (H : Hp), Room k (A.deeper (lamEnv X scope s.heap.objs.size f c')) → PE (lamCx X A outer s H E scope f c') body tb) (q : tb σ HZ Q) :
    codeAny (model X.prog X.w) A (.call (.ref f) ⟨[], []⟩) (CR (L2.CX X.prog X.w) outer X.prog X.w HZ s1 Q E) s1 := by
  obtain ⟨⟨oc, vs, t, eo, ed, en⟩, _, _⟩ := e0.hok c' _ isC
  apply PySem.W.kla_callFunE room.depth isF rfl L.co L.gen rfl ⟨c', oc, vs, t, rfl, eo, ed, en⟩
  apply bind _ _ _ _ _ _ _ _ _ _ _ rv dv
  apply wpAny_newFunctionEnv (fun y m => (L.each y m).1) (fun p m => par p.1 (List.of_mem_zip (a := p.1) (b := p.2) m).1) ?_ L.kind
  intro h₁ ns but
  refine ⟨lim.fresh _ but, ?_⟩
  have kp : ∀ b o, s1.heap.get? b = some o → h₁.get? b = some o := fun b o e => but.extBut b o (Nat.ne_of_lt (Heap.lt_size e)) (Heap.get?_push_of_some _ e)
  apply PySem.W.kla_codeExpr
  apply wpAny_mono ((B A outer s1 HZ (room.deeper _)).run [] _ _ HZ Q (lam_start3 (f := f) (c' := c') I L e0 room.hd un ns kp) q)
  · rintro v t ⟨w', G, J, r, z⟩
    exact ⟨w', G, J.os, J.bare, J.base, J.hok, r, z⟩
  · intro e t z
    exact z
/-- x(), in the def that got the lambda -/
theorem pe_act3 {Eg : XK} {Ng ps : List Str} {dvs : List V} {qg : Str} {sg : Scope} {g f c' : Addr} {cdg dV doc pm ctv : Value} {us : List Value} {params : Arguments} {body : Expr} {scope : Scope} {k i : Nat} {a : Str} {pn : List (Addr × Obj)} {xe : Value → Shared → Prop} {W : WX} {E : XK} {tb : TE} {p1 p2 : Pos}
    (I : Inv X pins σ H s) (L : LamT X.N X.env.scope scope) (isF : s.heap.get? f = some (lamObj X params body scope dV doc pm c' ctv)) (nF : H f = none) (oF : f ∉ frs X.stack) (dv : DvOk dV us H X.stack s.heap) (rv : Vals dvs us)
    (bind : LamBinds params body scope ps dvs) (par : ∀ p ∈ ps, scope.names.lookup p = some .local)
    (tk : Takes ((cxOf CX0 X.prog X.w X.K X.mg X.base Ng qg sg g cdg X.A X.stack s H Eg).tr pn xe) W) (sub : ∀ cls d σ' H', E cls d H' → W cls d σ' H') (room : Room (k + 1) (X.A.deeper (envOfC qg sg s.heap.objs.size g cdg)))
    (B : ∀ (A : Around) (outer : List Env) (s : Shared) (H : Hp), Room k (A.deeper (lamEnv X scope s.heap.objs.size f c')) → PE (lamCx X A outer s H E scope f c') body tb)
    (at_ : Ng[i]? = some a) (vis : Vis sg a) (d1 : (a == ("__debug__" : Str)) = false := by decide) (d2 : (a == ("__classdict__" : Str)) = false := by decide) :
    PE ((cxOf CX0 X.prog X.w X.K X.mg X.base Ng qg sg g cdg X.A X.stack s H Eg).tr pn xe) (.Call (.Name a p1) [] [] p2)
      (fun σZ HZ Q => σZ[i]? = some (some (.ref f)) ∧ HZ c' = some (CodeO c' (X.env.qual ++ "<lambda>")) ∧ tb σ HZ Q) := by
  constructor
  rintro pinsZ sZ σZ HZ Q IZ ⟨slot, isC, q⟩
  apply wpAny_Call_Name_kw
  apply thn ((pe_var (pos := p1) (i := i) at_ vis d1 d2).run pinsZ sZ σZ HZ (fun v G => v = .ref f ∧ G = HZ) IZ ⟨.ref f, slot, rfl, rfl⟩)
  rintro u t ⟨_, _, J, r, rfl, rfl⟩
  cases (show u = Value.ref f from r)
  have old : ∀ {b o}, s.heap.get? b = some o → H b = none → b ∉ frs X.stack → t.heap.get? b = some o := fun e n nf => J.base.keep _ _ e n nf (by simp [cxOf])
  have isF1 := old isF nF oF
  have dv1 : DvOk dV us H X.stack t.heap := dv.imp id fun ⟨nz, b, e1, e2, e3, e4⟩ => ⟨nz, b, e1, old e2 e3 e4, e3, e4⟩
  apply PySem.W.callWith_F0 ⟨_, _, _, _, isF1⟩
  apply wpAny_call
  apply codeAny_mono (lam_runs I L isF1 isC dv1 rv bind par J.env0 J.nolimit J.base room B q)
  rintro (e | fl) t2 z
  · exact passes_call tk sub pinsZ σZ _ t e t2 J z
  · cases fl with
    | ret u => exact J.after z
    | next => exact z.elim
    | brk => exact z.elim
    | cont => exact z.elim
end
/-- lambda: .. -/
theorem lamBinds0 {body : Expr} {scope : Scope} : LamBinds { posonlyargs := [], args := [], vararg := none, kwonlyargs := [], kw_defaults := [], kwarg := none, defaults := [] } body scope [] [] := by
  intro q cl dV doc pm cv ctv us H stk s r d
  cases r
  rcases d with ⟨_, rfl⟩ | ⟨z, _⟩
  · exact .of_eq rfl
  · exact (z rfl).elim
/-! lambda a1=i: .. (and so on: the name must be written) -/
theorem lamBinds_a0 {i : Int} {j : Nat} {ap dp : Pos} {body : Expr} {scope : Scope} : LamBinds { posonlyargs := [], args := [{ arg := "a0", annotation := none, pos := ap }], vararg := none, kwonlyargs := [], kw_defaults := [], kwarg := none, defaults := [.Constant (.int i) j dp] } body scope ["a0"] [.int i] := by
  intro q cl dV doc pm cv ctv us H stk s r d
  cases r with
  | cons rx rr =>
    cases rr
    rcases d with ⟨z, _⟩ | ⟨_, t, rfl, e, _⟩
    · cases z
    · refine BindsTo.of_defaults (k := ?k) rfl e rfl ?h1 ?h2
      case h1 => exact rfl
      case h2 => exact rfl
theorem lamBinds_a1 {i : Int} {j : Nat} {ap dp : Pos} {body : Expr} {scope : Scope} : LamBinds { posonlyargs := [], args := [{ arg := "a1", annotation := none, pos := ap }], vararg := none, kwonlyargs := [], kw_defaults := [], kwarg := none, defaults := [.Constant (.int i) j dp] } body scope ["a1"] [.int i] := by
  intro q cl dV doc pm cv ctv us H stk s r d
  cases r with
  | cons rx rr =>
    cases rr
    rcases d with ⟨z, _⟩ | ⟨_, t, rfl, e, _⟩
    · cases z
    · refine BindsTo.of_defaults (k := ?k) rfl e rfl ?h1 ?h2
      case h1 => exact rfl
      case h2 => exact rfl
theorem lamBinds_a2 {i : Int} {j : Nat} {ap dp : Pos} {body : Expr} {scope : Scope} : LamBinds { posonlyargs := [], args := [{ arg := "a2", annotation := none, pos := ap }], vararg := none, kwonlyargs := [], kw_defaults := [], kwarg := none, defaults := [.Constant (.int i) j dp] } body scope ["a2"] [.int i] := by
  intro q cl dV doc pm cv ctv us H stk s r d
  cases r with
  | cons rx rr =>
    cases rr
    rcases d with ⟨z, _⟩ | ⟨_, t, rfl, e, _⟩
    · cases z
    · refine BindsTo.of_defaults (k := ?k) rfl e rfl ?h1 ?h2
      case h1 => exact rfl
      case h2 => exact rfl
theorem lamBinds_a3 {i : Int} {j : Nat} {ap dp : Pos} {body : Expr} {scope : Scope} : LamBinds { posonlyargs := [], args := [{ arg := "a3", annotation := none, pos := ap }], vararg := none, kwonlyargs := [], kw_defaults := [], kwarg := none, defaults := [.Constant (.int i) j dp] } body scope ["a3"] [.int i] := by
  intro q cl dV doc pm cv ctv us H stk s r d
  cases r with
  | cons rx rr =>
    cases rr
    rcases d with ⟨z, _⟩ | ⟨_, t, rfl, e, _⟩
    · cases z
    · refine BindsTo.of_defaults (k := ?k) rfl e rfl ?h1 ?h2
      case h1 => exact rfl
      case h2 => exact rfl
theorem lamBinds_a4 {i : Int} {j : Nat} {ap dp : Pos} {body : Expr} {scope : Scope} : LamBinds { posonlyargs := [], args := [{ arg := "a4", annotation := none, pos := ap }], vararg := none, kwonlyargs := [], kw_defaults := [], kwarg := none, defaults := [.Constant (.int i) j dp] } body scope ["a4"] [.int i] := by
  intro q cl dV doc pm cv ctv us H stk s r d
  cases r with
  | cons rx rr =>
    cases rr
    rcases d with ⟨z, _⟩ | ⟨_, t, rfl, e, _⟩
    · cases z
    · refine BindsTo.of_defaults (k := ?k) rfl e rfl ?h1 ?h2
      case h1 => exact rfl
      case h2 => exact rfl
theorem lamBinds_a5 {i : Int} {j : Nat} {ap dp : Pos} {body : Expr} {scope : Scope} : LamBinds { posonlyargs := [], args := [{ arg := "a5", annotation := none, pos := ap }], vararg := none, kwonlyargs := [], kw_defaults := [], kwarg := none, defaults := [.Constant (.int i) j dp] } body scope ["a5"] [.int i] := by
  intro q cl dV doc pm cv ctv us H stk s r d
  cases r with
  | cons rx rr =>
    cases rr
    rcases d with ⟨z, _⟩ | ⟨_, t, rfl, e, _⟩
    · cases z
    · refine BindsTo.of_defaults (k := ?k) rfl e rfl ?h1 ?h2
      case h1 => exact rfl
      case h2 => exact rfl
theorem lamBinds_a6 {i : Int} {j : Nat} {ap dp : Pos} {body : Expr} {scope : Scope} : LamBinds { posonlyargs := [], args := [{ arg := "a6", annotation := none, pos := ap }], vararg := none, kwonlyargs := [], kw_defaults := [], kwarg := none, defaults := [.Constant (.int i) j dp] } body scope ["a6"] [.int i] := by
  intro q cl dV doc pm cv ctv us H stk s r d
  cases r with
  | cons rx rr =>
    cases rr
    rcases d with ⟨z, _⟩ | ⟨_, t, rfl, e, _⟩
    · cases z
    · refine BindsTo.of_defaults (k := ?k) rfl e rfl ?h1 ?h2
      case h1 => exact rfl
      case h2 => exact rfl
theorem lamBinds_a7 {i : Int} {j : Nat} {ap dp : Pos} {body : Expr} {scope : Scope} : LamBinds { posonlyargs := [], args := [{ arg := "a7", annotation := none, pos := ap }], vararg := none, kwonlyargs := [], kw_defaults := [], kwarg := none, defaults := [.Constant (.int i) j dp] } body scope ["a7"] [.int i] := by
  intro q cl dV doc pm cv ctv us H stk s r d
  cases r with
  | cons rx rr =>
    cases rr
    rcases d with ⟨z, _⟩ | ⟨_, t, rfl, e, _⟩
    · cases z
    · refine BindsTo.of_defaults (k := ?k) rfl e rfl ?h1 ?h2
      case h1 => exact rfl
      case h2 => exact rfl
theorem lamBinds_a8 {i : Int} {j : Nat} {ap dp : Pos} {body : Expr} {scope : Scope} : LamBinds { posonlyargs := [], args := [{ arg := "a8", annotation := none, pos := ap }], vararg := none, kwonlyargs := [], kw_defaults := [], kwarg := none, defaults := [.Constant (.int i) j dp] } body scope ["a8"] [.int i] := by
  intro q cl dV doc pm cv ctv us H stk s r d
  cases r with
  | cons rx rr =>
    cases rr
    rcases d with ⟨z, _⟩ | ⟨_, t, rfl, e, _⟩
    · cases z
    · refine BindsTo.of_defaults (k := ?k) rfl e rfl ?h1 ?h2
      case h1 => exact rfl
      case h2 => exact rfl
theorem lamBinds_a9 {i : Int} {j : Nat} {ap dp : Pos} {body : Expr} {scope : Scope} : LamBinds { posonlyargs := [], args := [{ arg := "a9", annotation := none, pos := ap }], vararg := none, kwonlyargs := [], kw_defaults := [], kwarg := none, defaults := [.Constant (.int i) j dp] } body scope ["a9"] [.int i] := by
  intro q cl dV doc pm cv ctv us H stk s r d
  cases r with
  | cons rx rr =>
    cases rr
    rcases d with ⟨z, _⟩ | ⟨_, t, rfl, e, _⟩
    · cases z
    · refine BindsTo.of_defaults (k := ?k) rfl e rfl ?h1 ?h2
      case h1 => exact rfl
      case h2 => exact rfl
theorem lamBinds_a10 {i : Int} {j : Nat} {ap dp : Pos} {body : Expr} {scope : Scope} : LamBinds { posonlyargs := [], args := [{ arg := "a10", annotation := none, pos := ap }], vararg := none, kwonlyargs := [], kw_defaults := [], kwarg := none, defaults := [.Constant (.int i) j dp] } body scope ["a10"] [.int i] := by
  intro q cl dV doc pm cv ctv us H stk s r d
  cases r with
  | cons rx rr =>
    cases rr
    rcases d with ⟨z, _⟩ | ⟨_, t, rfl, e, _⟩
    · cases z
    · refine BindsTo.of_defaults (k := ?k) rfl e rfl ?h1 ?h2
      case h1 => exact rfl
      case h2 => exact rfl
theorem lamBinds_a11 {i : Int} {j : Nat} {ap dp : Pos} {body : Expr} {scope : Scope} : LamBinds { posonlyargs := [], args := [{ arg := "a11", annotation := none, pos := ap }], vararg := none, kwonlyargs := [], kw_defaults := [], kwarg := none, defaults := [.Constant (.int i) j dp] } body scope ["a11"] [.int i] := by
  intro q cl dV doc pm cv ctv us H stk s r d
  cases r with
  | cons rx rr =>
    cases rr
    rcases d with ⟨z, _⟩ | ⟨_, t, rfl, e, _⟩
    · cases z
    · refine BindsTo.of_defaults (k := ?k) rfl e rfl ?h1 ?h2
      case h1 => exact rfl
      case h2 => exact rfl
theorem lamBinds_a12 {i : Int} {j : Nat} {ap dp : Pos} {body : Expr} {scope : Scope} : LamBinds { posonlyargs := [], args := [{ arg := "a12", annotation := none, pos := ap }], vararg := none, kwonlyargs := [], kw_defaults := [], kwarg := none, defaults := [.Constant (.int i) j dp] } body scope ["a12"] [.int i] := by
  intro q cl dV doc pm cv ctv us H stk s r d
  cases r with
  | cons rx rr =>
    cases rr
    rcases d with ⟨z, _⟩ | ⟨_, t, rfl, e, _⟩
    · cases z
    · refine BindsTo.of_defaults (k := ?k) rfl e rfl ?h1 ?h2
      case h1 => exact rfl
      case h2 => exact rfl
/-! ### the def that a lambda is handed to -/
/-- the taker's context: the def x at g, entered at s with H -/
abbrev takerCx (X : Cx) (Ng : List Str) (x : Str) (sg : Scope) (g : Addr) (cdg : Value) (s : Shared) (H : Hp) : Cx := cxOf CX0 X.prog X.w X.K X.mg X.base Ng x sg g cdg X.A X.stack s H E0
/-- the taker keeps TT: what it makes of the lambda's reading; a is the name by which it calls what it got -/
def GivesG (X : Cx) (Ng : List Str) (x : Str) (sg : Scope) (g : Addr) (cdg : Value) (bg : List Stmt) (a : Str) (q : Str) (TT : (XK → Hp → VK → Prop) → Hp → VK → Prop) : Prop :=
  ∀ (f c' : Addr) (s : Shared) (H : Hp) (Q : VK) (tl : XK → Hp → VK → Prop),
    (∀ (W : WX) (pn : List (Addr × Obj)) (xe : Value → Shared → Prop) (E : XK) (p1 p2 : Pos), Takes ((takerCx X Ng x sg g cdg s H).tr pn xe) W → (∀ cls d σ' H', E cls d H' → W cls d σ' H') →
      PE ((takerCx X Ng x sg g cdg s H).tr pn xe) (.Call (.Name a p1) [] [] p2) (fun σZ HZ Q => σZ[0]? = some (some (.ref f)) ∧ HZ c' = some (CodeO c' q) ∧ tl E HZ Q)) →
    H c' = some (CodeO c' q) → TT tl H Q → ∃ t, PSs (takerCx X Ng x sg g cdg s H).nox bg t ∧ t ⟨fun _ G => Q .non G, Q, fun _ _ => False, fun _ _ => False⟩ (L2.start Ng [.ref f]) H
section
variable {X : Cx}
/-- a lambda's call, as the def that got it knows it -/
structure LamGo (X : Cx) (T : List (Addr × Str)) (c P : Addr) (params : Arguments) (body : Expr) (scope : Scope) (ps : List Str) (dvs : List V) : Prop where
  TB : TabB X.base X.mg c P
  code : X.env.code = .ref c
  mem : (P, X.env.qual ++ "<lambda>") ∈ T
  one : ∀ p ∈ T, p.1 = P → p.2 = X.env.qual ++ "<lambda>"
  L : LamT X.N X.env.scope scope
  binds : LamBinds params body scope ps dvs
  pl : ∀ p ∈ ps, scope.names.lookup p = some .local
/-- the given values: none, or one integer -/
def DefsOk (X : Cx) (params : Arguments) (dvs : List V) : Prop := (dvs = [] ∧ defaultsOf params X.env = ([], [])) ∨ (∃ i j dp, dvs = [.int i] ∧ params.defaults = [.Constant (.int i) j dp] ∧ params.kw_defaults = [])
theorem lam_make {pins : List (Addr × Obj)} {σ : L2.St} {H : Hp} {s : Shared} {T : List (Addr × Str)} {c P : Addr} {params : Arguments} {body : Expr} {scope : Scope} {ps : List Str} {dvs : List V} {pos : Pos} {E : Value → Shared → Prop} {Q : Value → Shared → Prop} (I : Inv X pins σ H s) (G : LamGo X T c P params body scope ps dvs) (D : DefsOk X params dvs) (hT : Tabs T H)
    (h : ∀ (f : Addr) (s' : Shared), LamMade X pins σ H T params body scope dvs f s' → Q (.ref f) s') : wpAny (model X.prog X.w) X.A (eval (.Lambda params body scope pos) X.env) Q E s := by
  rcases D with ⟨rfl, d⟩ | ⟨i, j, dp, rfl, d, kd⟩
  · exact lam_make0 I G.TB G.code G.mem G.one hT d (G.L.has I.ok) h
  · exact lam_make1 I G.TB G.code G.mem G.one hT d kd (G.L.has I.ok) h
/-- a def whose object is known: its call, where its body's reading is told of the very state -/
theorem taken {P : Program} {w : World} {K : PySem.W.Frag} {mg : Str → Option Value} {base : Heap} {k : Nat} {f : Addr} {x qual : Str} {pg : Arguments} {bg : List Stmt} {sg : Scope} {dV kV dc pm cdv ct oc : Value} {an od : Option Addr} {sl : Array (Option Value)} {N : List Str} {a : Str} (look : K.lookup f = some ⟨oc, od, .func (PySem.W.fnOf x qual pg bg sg dV kV dc pm an cdv ct), sl⟩)
    (code : PySem.W.codeIn K cdv qual = true) (S : FnScope N [a] sg) {A : Around} {fr : List Env} {s : Shared} {H : Hp} {args : Args} {u : Value} {v : V} {Q : VK} (room : Room (k + 1) A) (env : Env0 P w K mg base A fr s H) (bind : BindsTo s (PySem.W.fnOf x qual pg bg sg dV kV dc pm an cdv ct) args [(a, u)]) (rel : L2.RelV v u)
    (body : Room k (A.deeper (envOfC qual sg s.heap.objs.size f cdv)) → ∃ t, PSs (cxOf CX0 P w K mg base N qual sg f cdv A fr s H E0).nox bg t ∧ t ⟨fun _ G => Q .non G, Q, fun _ _ => False, fun _ _ => False⟩ (L2.start N [v]) H) :
    codeAny (model P w) A (.call (.ref f) args) (CR CX0 fr P w H s Q E0) s :=
  run_ofS (CX := CX0) (ps := [a]) (us := [u]) (vs := [v]) look code S room env bind (.cons rel .nil) rfl fun r => (body r).imp fun _ z => ⟨z.1.nox, z.2⟩
/-- x(lambda ..: body) -/
theorem pe_lamX {T : List (Addr × Str)} {TT : (XK → Hp → VK → Prop) → Hp → VK → Prop} {x a : Str} {g c P : Addr} {k : Nat} {pg : Arguments} {bg : List Stmt} {sg : Scope} {dV kV dc pm cdv ct oc : Value} {an od : Option Addr} {sl : Array (Option Value)} {Ng ps : List Str} {dvs : List V} {params : Arguments} {body : Expr} {scope : Scope} {t : XK → TE} {p lp pos : Pos}
    (glob : Gl X x) (mgx : X.mg x = some (.ref g)) (kp : PySem.W.keepIn X.K (.ref g) = true) (look : X.K.lookup g = some ⟨oc, od, .func (PySem.W.fnOf x x pg bg sg dV kV dc pm an cdv ct), sl⟩) (code : PySem.W.codeIn X.K cdv x = true)
    (b : L2.Binds X.K (PySem.W.fnOf x x pg bg sg dV kV dc pm an cdv ct) [a] []) (S : FnScope Ng [a] sg) (first : Ng[0]? = some a) (vis : Vis sg a) (give : GivesG X Ng x sg g cdv bg a (X.env.qual ++ "<lambda>") TT) (room : Room (k + 2) X.A) (G : LamGo X T c P params body scope ps dvs) (D : DefsOk X params dvs)
    (B : ∀ (A : Around) (outer : List Env) (s : Shared) (H : Hp) (E : XK) (f c' : Addr), Room k (A.deeper (lamEnv X scope s.heap.objs.size f c')) → PE (lamCx X A outer s H E scope f c') body (t E))
    (d0 : (x == ("__debug__" : Str)) = false := by decide) (d1 : (a == ("__debug__" : Str)) = false := by decide) (d2 : (a == ("__classdict__" : Str)) = false := by decide) :
    PE X (.Call (.Name x p) [.Lambda params body scope lp] [] pos) (tLam T TT t) := by
  constructor
  rintro pins s σ H Q I ⟨tabs, q⟩
  apply wpAny_Call_Name_kw (ld_glob I glob mgx ?_ d0)
  refine PySem.W.callWith_K (h₀ := X.base) I.ok.mod.kin kp ?_ (by rfl) (by rfl)
  refine Calls.spliced_cons (lam_make I G D tabs ?_)
  rintro f t1 ⟨c', dV', dc', pm', ctv, us, H1, J, grow, T1, isF, nF, oF, dv, rv, isC⟩
  refine Calls.spliced_nil ⟨J.kIn, wpAny_call ?_⟩
  have go := taken (Q := Q) look code S room J.env0 (b t1 [.ref f] J.kIn rfl) (show L2.RelV (.ref f) (.ref f) from rfl) fun r =>
    give f c' t1 H1 Q (fun E G Q' => t E σ G Q') (fun W pn xe E p1 p2 tk sub => pe_act3 (i := 0) J G.L isF nF oF dv rv G.binds G.pl tk sub r (fun A outer s H r2 => B A outer s H E f c' r2) first vis d1 d2) isC (q H1 grow T1)
  apply codeAny_mono go
  rintro (e | fl) t2 z
  · exact (show False from z).elim
  · cases fl with
    | ret u => exact J.after z
    | next => exact z.elim
    | brk => exact z.elim
    | cont => exact z.elim
end
end Rp
namespace Rp
open PySem PySem.Spec PyProof.Rows L2 LamX
/-! ### defs that errors may leave -/
theorem pass0X {X : Cx} {σ : L2.St} : PassesAt (L2.CX X.prog X.w) X σ E0 := fun _ _ _ _ _ _ c => by
  obtain ⟨_, _, _, _, _, _, _, _, _, _, _, _, z⟩ := c
  exact z.elim
/-- a def that errors may leave, as its callers know it -/
structure CalX (P : Program) (w : World) (K : PySem.W.Frag) (mg : Str → Option Value) (base : Heap) (x : Str) (k : Nat) (f : Addr) (fd : FuncData) (ps : List Str) (sp : Sp) : Prop where
  F : FnOk P w K mg base (L2.CX P w) k f fd ps sp
  mgf : mg x = some (.ref f)
  kp : PySem.W.keepIn K (.ref f) = true
  b : Binds K fd ps []
def tGoE (sp : Sp) (E : XK) (t : TA) : TE := fun σ H Q => t σ H fun vs G => sp vs G Q E
theorem r_goE {sp : Sp} {E : XK} {t : TA} {σ : L2.St} {H : Hp} {Q : VK} (h : t σ H fun vs G => sp vs G Q E) : tGoE sp E t σ H Q := h
section
variable {X : Cx} {k : Nat} {f : Addr} {fd : FuncData} {ps ks : List Str} {sp : Sp} {x : Str} {p pos : Pos} {e : Expr} {es : List Expr} {t tk : TA} {kws : List Keyword} {E : XK}
/-- called where no error may come -/
theorem pe_goX (c : CalX X.prog X.w X.K X.mg X.base x k f fd ps sp) (r : Room k X.A) (hg : Gl X x) (ha : PA X (e :: es) t) (d1 : (x == ("__debug__" : Str)) = false := by decide)
    (d2 : starEach (e :: es) X.env = (false, eval e X.env) :: starEach es X.env := by rfl) (d3 : (backTo pos (starEach es X.env)).any (·.1) = false := by rfl) : PE X (.Call (.Name x p) (e :: es) [] pos) (tGo sp t) :=
  pe_callS (E := fun _ => E0) c.F r hg c.mgf c.kp c.b (fun _ => pass0X) ha d1 d2 d3
/-- called where an error is E's -/
theorem pe_goE (c : CalX X.prog X.w X.K X.mg X.base x k f fd ps sp) (r : Room k X.A) (tk : Takes X (fun cls d _ H => E cls d H)) (hg : Gl X x) (ha : PA X (e :: es) t) (d1 : (x == ("__debug__" : Str)) = false := by decide)
    (d2 : starEach (e :: es) X.env = (false, eval e X.env) :: starEach es X.env := by rfl) (d3 : (backTo pos (starEach es X.env)).any (·.1) = false := by rfl) : PE X (.Call (.Name x p) (e :: es) [] pos) (tGoE sp E t) :=
  pe_callS (E := WE fun cls d _ H => E cls d H) c.F r hg c.mgf c.kp c.b (fun σ => passAt tk σ) ha d1 d2 d3
/-- what the callee does, from the caller's state -/
theorem goesX {pins : List (Addr × Obj)} {σ : L2.St} {H : Hp} {s : Shared} {Q : VK} {args : Args} {us : List Value} {vs : List V} (F : FnOk X.prog X.w X.K X.mg X.base (L2.CX X.prog X.w) k f fd ps sp) (r : Room k X.A)
    (I : Inv X pins σ H s) (b : BindsTo s fd args (ps.zip us)) (rel : Vals vs us) (q : sp vs H Q E0) : codeAny (model X.prog X.w) X.A (.call (.ref f) args) (fun a s2 => ∃ u, a = .ok (.ret u) ∧ EP X pins σ Q u s2) s := by
  apply codeAny_mono (F.run X.A X.stack s H args us vs Q E0 r I.env0 b rel q)
  intro a s2 h
  rcases a with er | fl
  · obtain ⟨_, _, _, _, _, _, _, _, _, _, _, _, z⟩ := h
    exact z.elim
  · cases fl with
    | ret u => exact ⟨u, rfl, I.after h⟩
    | next => exact h.elim
    | brk => exact h.elim
    | cont => exact h.elim
theorem pe_kwX {ix : List Nat} (c : CalX X.prog X.w X.K X.mg X.base x k f fd ps sp) (hb : KBx X.K fd ps 0 ks ix) (r : Room k X.A) (hg : Gl X x) (hkw : PK X kws tk)
    (d4 : (backToKw pos (keywordEach kws X.env)).all (·.1.isSome) = true := by rfl) (d5 : (backToKw pos (keywordEach kws X.env)).filterMap (·.1) = ks := by rfl) (d1 : (x == ("__debug__" : Str)) = false := by decide)
    (d3 : (backToKw pos (keywordEach kws X.env)).any (·.1.isNone) = false := by rfl) : PE X (.Call (.Name x p) [] kws pos) (tKw sp 0 ks.length ix E0 L2.tNil tk) := by
  constructor
  intro pins s σ H Q I h
  apply wpAny_Call_Name_kw (ld_glob I hg c.mgf ?_ d1)
  apply PySem.W.callWith_KW0 (h₀ := X.base) I.ok.mod.kin c.kp d4 ?_ d3
  apply thn (hkw.run pos pins s σ H _ I h)
  rintro ws s2 ⟨zs, H2, I2, rz, _, lz, q⟩
  refine ⟨I2.kIn, ?_⟩
  rw [d5]
  apply wpAny_call
  have lw : ws.length = ks.length := by rw [← rz.length]; exact lz
  apply codeAny_mono (goesX c.F r I2 (hb.to s2 [] ws rfl lw) (vals_ix (.append .nil rz) ix) q)
  rintro a s3 ⟨u, rfl, z⟩
  exact z
end
/-! ### own errors with one field -/
def spIni1 (C : Addr) (f : Str) : Sp := fun vs H Q _ => ∃ a v, vs = [.ref a, v] ∧ H a = some (exo a C none) ∧ ∀ dx, H dx = none → dx ≠ a → Q .non (upd (upd H dx (exd dx [(f, v)])) a (exo a C (some dx)))
/-- what the written part says of an error's class x at C, whose __init__ at fI keeps its one argument as f -/
structure Err1 (P : Program) (w : World) (K : PySem.W.Frag) (mg : Str → Option Value) (base : Heap) (x : Str) (C : Addr) (f : Str) : Prop where
  g : mg x = some (.ref C)
  oex : OexC K C
  no : PySem.W.findIn K (.ref C) f = some none
  xf : XfC K C
  ini : ∃ (fI : Addr) (fd : FuncData) (ps : List Str), PySem.W.findIn K (.ref C) "__init__" = some (some (.ref fI)) ∧ PySem.W.typeIn K (.ref fI) = some (.type "function") ∧ Binds K fd ps [] ∧
    FnOk P w K mg base CX0 1 fI fd ps (spIni1 C f)
/-- x(e), raised: the error's own dict is new -/
def tErr (C : Addr) (f : Str) (te : TE) : L2.St → Hp → XK → Prop := fun σ H Q => te σ H fun v H1 => ∀ d, H1 d = none → Q (.ref C) (some d) (upd H1 d (.xd [(f, v)]))
theorem del_put {H : Hp} {a d : Addr} {o u o2 : HO} {fs : List (Str × V)} (na : H a = none) (ne : d ≠ a) : upd (del (upd (upd (upd H a o) d u) a o2) a) d (.xd fs) = upd H d (.xd fs) := by
  funext b
  by_cases hd : b = d
  · rw [hd, upd_same, upd_same]
  · rw [upd_ne hd, upd_ne hd]
    by_cases ha : b = a
    · rw [ha, del_same, na]
    · rw [del_ne ha, upd_ne ha, upd_ne hd, upd_ne ha]
/-- a reading with room: weaker ends follow -/
def tMono (te : TE) : TE := fun σ H R => ∃ R0 : VK, te σ H R0 ∧ ∀ v G, R0 v G → R v G
theorem pe_mono {X : Cx} {e : Expr} {te : TE} (he : PE X e te) : PE X e (tMono te) :=
  ⟨fun pins s σ H Q I ⟨R0, h, m⟩ => wpAny_mono (he.run pins s σ H R0 I h) (fun u s1 ⟨v, G, J, r, q⟩ => ⟨v, G, J, r, m v G q⟩) fun _ _ z => z⟩
theorem pmk_err1 {X : Cx} {x f : Str} {C : Addr} {e : Expr} {te : TE} {p pos : Pos} (T : Err1 X.prog X.w X.K X.mg X.base x C f) (hr : Room 2 X.A) (hg : Gl X x) (he : PE X e te) (d1 : (x == ("__debug__" : Str)) = false := by decide)
    (d2 : starEach (e :: []) X.env = (false, eval e X.env) :: starEach [] X.env := by rfl) (d3 : (backTo pos (starEach [] X.env)).any (·.1) = false := by rfl) : PMk X (.Call (.Name x p) [e] [] pos) (tErr C f te) := by
  obtain ⟨fI, fd, ps, h1, h2, h3, h4⟩ := T.ini
  intro pins s σ H Q I h
  refine pmk_oex T.oex h1 h2 h4 hr h3 .nil (fun _ _ _ _ _ _ _ z => z.elim) hg T.g (pa_cons (pe_mono he) pa_nil d2) d1 d2 d3 pins s σ H Q I ?_
  refine ⟨_, h, fun v H1 k => ⟨by show 1 ≤ 1000; decide, fun a na => ⟨a, v, rfl, upd_same, fun dx nd ne => ⟨rfl, dx, [(f, v)], upd_same, ?_, ?_, ?_⟩⟩⟩⟩
  · rw [upd_ne ne, upd_same]
  · rw [upd_ne ne] at nd
    exact nd
  · rw [upd_ne ne] at nd
    rw [del_put na ne]
    exact k dx nd
/-! ### a def whose code object is known -/
structure FunC (K : PySem.W.Frag) (x qual : Str) (st : Stmt) (f : Addr) (fd : FuncData) (c : Addr) : Prop where
  ex : ∃ (oc : Value) (od : Option Addr) (kV doc pm : Value) (an : Option Addr) (ct : Value) (osl : Array (Option Value)),
    fd = PySem.W.fnOf x qual (defArgs st) (defBody st) (defScope st) .none kV doc pm an (.ref c) ct ∧ K.lookup f = some ⟨oc, od, .func fd, osl⟩ ∧ PySem.W.codeIn K (.ref c) qual = true
section
variable {P : Program} {w : World} {K : PySem.W.Frag} {mg : Str → Option Value} {base : Heap} {k : Nat} {f : Addr} {fd : FuncData} {ps : List Str} {sp : Sp}
theorem fngC {x qual : Str} {st : Stmt} {N : List Str} {c : Addr} (F : FunC K x qual st f fd c) (S : FnScope N ps (defScope st)) (ar : ∀ {vs H Q E}, sp vs H Q E → vs.length = ps.length)
    (body : ∀ {A : Around} {fr : List Env} {s : Shared} {H : Hp} {vs : List V} {Q : VK} {E : XK}, A.guards = some [] → Room k (A.deeper (envOfC qual (defScope st) s.heap.objs.size f (.ref c))) → sp vs H Q E →
      ∃ t, PSs (cxOf CX0 P w K mg base N qual (defScope st) f (.ref c) A fr s H E).nox (defBody st) t ∧ t ⟨fun _ G => Q .non G, Q, fun _ _ => False, fun _ _ => False⟩ (L2.start N vs) H) : FnG P w K mg base (k + 1) f fd ps sp := by
  generalize hcd : Value.ref c = cdv at body
  obtain ⟨oc, od, kV, dc, pm, an, ct, sl, e, look, code⟩ := F.ex
  rw [hcd] at e code
  subst e
  constructor
  · exact ar
  intro A fr s H args us vs Q E hg room env bind rel q
  have size := ar q
  have kin := env.mod.kin.keeps fun b o z => (env.bs b o z).1
  have nolim := env.mod.nolimit.keeps fun b o z => (env.bs b o z).1
  have knd : ∀ p ∈ ps.zip us, (defScope st).names.lookup p.1 = some .local ∨ ((defScope st).names.lookup p.1 = some .cell ∧ ((cellsFrom (s.heap.objs.size + 1) (defScope st).names []).lookup p.1).isSome = true) := by
    rintro ⟨n, v⟩ hp
    exact (S.par n (List.of_mem_zip hp).1).imp id fun z => ⟨z, PySem.W.cellsFrom_some _ _ _ (.inl z)⟩
  apply codeAny_call_function room.depth (kin _ _ look) rfl S.co S.gen rfl (PySem.W.codeRec_of kin code)
  apply bind
  apply wpAny_newFunctionEnv_cells S.kind knd
  intro en he s1 ic
  subst he
  refine ⟨nolim.keeps ic.toInCall.keep, codeAny_func ?_⟩
  obtain ⟨t, pt, rd⟩ := body (fr := fr) (E := E) hg (room.deeper _) q
  have inv : Inv (cxOf CX0 P w K mg base N qual (defScope st) f cdv A fr s H E) [] (L2.start N vs) H s1 := inv_start S room.hd env size rel ic
  apply wpAny_mono (pt.nox.run [] s1 (L2.start N vs) H _ inv rd)
  · intro fl s2 hs
    cases fl with
    | ret u => obtain ⟨v, τ, G, J, r, z⟩ := hs; exact ⟨v, G, J.os, J.bare, J.base, J.hok, r, z⟩
    | next => obtain ⟨τ, G, J, z⟩ := hs; exact ⟨.non, G, J.os, J.bare, J.base, J.hok, rfl, z⟩
    | brk => obtain ⟨_, _, _, z⟩ := hs; exact z.elim
    | cont => obtain ⟨_, _, _, z⟩ := hs; exact z.elim
  · intro er s2 hs
    exact hs
end
/-! ### the law's call, with tables of code objects -/

/-- what is tracked as the law begins: the tables, empty, and the script, if it is not written -/
def begun (cs : List (Addr × Addr)) (own : Option (Addr × HO)) : Hp := fun b => match own with
  | some (a, o) => if b = a then some o else if b ∈ cs.map (·.2) then some (.tbl #[]) else none
  | none => if b ∈ cs.map (·.2) then some (.tbl #[]) else none
theorem law_goTs {P : Program} {w : World} {K : PySem.W.Frag} {mg mb : Str → Option Value} {k : Nat} {fa a : Addr} {cs : List (Addr × Addr)} {fd : FuncData} {x : Str} {sp : Sp} {s : Shared} {us : List Value} {ns : List Int}
    (kin : K.In s.heap) (gl : s.heap.Ns mainGlobals mg) (bl : s.heap.Ns builtinsNs mb) (boot : ∀ y : Str, y ≠ "__name__" → mb y = bootBuiltins y) (nolim : s.heap.NoLimit) (mods : HasMods s.heap) (gen : s.gens = #[])
    (tab : ∀ p ∈ cs, s.heap.get? p.2 = some { cls := .none, data := .fields #[] }) (unw : ∀ p ∈ cs, K.lookup p.2 = none) (code : ∀ p ∈ cs, PySem.W.CodeHd s.heap p.1 p.2)
    (bmod : ∃ (bm : Addr) (ob : Obj), mg "__builtins__" = some (.ref bm) ∧ bm ≠ builtinsNs ∧ s.heap.get? bm = some ob ∧ ob.cls = .type "module" ∧ ob.dict = some builtinsNs ∧ ob.data = .plain)
    (ob : s.heap.get? a = some { cls := .type "list", data := .seq us.toArray }) (nums : IntsAre us ns) (size : ns.length ≤ sizeLine) (room : Room k callerA)
    (F : ∀ base : Heap, K.In base → base.Ns mainGlobals mg → HasMods base → (∀ p ∈ cs, TabB base mg p.1 p.2) → FnG P w K mg base k fa fd [x] sp) (bind : ∀ (t : Shared) (u : Value), BindsTo t fd ⟨[u], []⟩ [(x, u)])
    (prom : ∀ H : Hp, (∀ p ∈ cs, H p.2 = some (.tbl #[])) → SqL K H a (ns.map V.int) → sp [.ref a] H (fun v _ => v = .bl true) fun _ _ _ => False) :
    codeAny (model P w) callerA (.call (.ref fa) ⟨[.ref a], []⟩) (fun r t => r = .ok (.ret (.bool true)) ∧ OldK s.heap t.heap ∧ t.os = s.os ∧ AllBare t.gens) s := by
  have rel := vals_ints nums
  have seen : ∀ p ∈ cs, p.2 ∈ cs.map (·.2) := fun p m => List.mem_map_of_mem m
  have isTab : ∀ b ∈ cs.map (·.2), s.heap.get? b = some { cls := .none, data := .fields #[] } := by
    intro b m
    obtain ⟨p, mp, rfl⟩ := List.mem_map.mp m
    exact tab p mp
  have notA : a ∉ cs.map (·.2) := fun m => by
    have z := congrArg (Option.map Obj.data) (ob.symm.trans (isTab a m))
    cases z
  -- H tracks the tables, and the script, or not the script
  suffices main : ∀ own : Option (Addr × HO), (∀ b o, own = some (b, o) → b = a ∧ K.lookup a = none ∧ o = .frz { cls := .type "list", data := .seq us.toArray } (.lst (ns.map V.int))) → SqL K (begun cs own) a (ns.map V.int) →
      codeAny (model P w) callerA (.call (.ref fa) ⟨[.ref a], []⟩) (fun r t => r = .ok (.ret (.bool true)) ∧ OldK s.heap t.heap ∧ t.os = s.os ∧ AllBare t.gens) s by
    cases written : K.lookup a with
    | none => exact main (some (a, .frz { cls := .type "list", data := .seq us.toArray } (.lst (ns.map V.int)))) (fun b o z => by cases z; exact ⟨rfl, written, rfl⟩) (.inl (.inr ⟨_, if_pos rfl⟩))
    | some o =>
      cases ob.symm.trans (kin a o written)
      exact main none (fun b o z => nomatch z) (.inr ⟨_, us.toArray, _, written, rfl, rfl, rfl, by rw [List.size_toArray, nums.length]; exact size, by simpa using rel⟩)
  intro own isOwn seq
  generalize hH : begun cs own = H at seq
  -- what H tracks
  have kinds : ∀ b u, H b = some u → (b = a ∧ K.lookup a = none ∧ u = .frz { cls := .type "list", data := .seq us.toArray } (.lst (ns.map V.int))) ∨ (b ∈ cs.map (·.2) ∧ u = .tbl #[]) := by
    intro b u e
    rw [← hH] at e
    rcases own with _ | ⟨a', o⟩
    · have e' : (if b ∈ cs.map (·.2) then some (HO.tbl #[]) else none) = some u := e
      split at e'
      · exact .inr ⟨‹_›, (Option.some.inj e').symm⟩
      · cases e'
    · obtain ⟨rfl, n, rfl⟩ := isOwn a' o rfl
      have e' : (if b = a' then some _ else if b ∈ cs.map (·.2) then some (HO.tbl #[]) else none) = some u := e
      split at e'
      · exact .inl ⟨‹_›, n, (Option.some.inj e').symm⟩
      · split at e'
        · exact .inr ⟨‹_›, (Option.some.inj e').symm⟩
        · cases e'
  have tabs : ∀ b ∈ cs.map (·.2), H b = some (.tbl #[]) := by
    intro b m
    rw [← hH]
    rcases own with _ | ⟨a', o⟩
    · exact if_pos m
    · obtain ⟨rfl, _⟩ := isOwn a' o rfl
      exact (if_neg (by rintro rfl; exact notA m)).trans (if_pos m)
  have hok : HOk P w H s.heap := by
    intro b u e
    rcases kinds b u e with ⟨rfl, _, rfl⟩ | ⟨m, rfl⟩
    · exact ⟨ob, by rw [List.length_map]; exact size, us, _, rel, ob⟩
    · exact isTab b m
  have clear_ : ∀ {b o}, s.heap.get? b = some o → (∀ us n, o.data ≠ .seq us n) → o.data ≠ .fields #[] → H b = none := by
    intro b o e n1 n2
    cases z : H b with
    | none => rfl
    | some u =>
      rcases kinds b u z with ⟨rfl, _⟩ | ⟨m, _⟩
      · cases ob.symm.trans e
        exact (n1 _ _ rfl).elim
      · cases (isTab b m).symm.trans e
        exact (n2 rfl).elim
  have names : ∀ {b} {m : Str → Option Value}, s.heap.Ns b m → (hidT s.heap H).Ns b m := by
    rintro b m ⟨o, es, n, e, d, z⟩
    exact ⟨o, es, n, hidT_get e (clear_ e (by rw [d]; intro _ _ q; cases q) (by rw [d]; intro q; cases q)), d, z⟩
  have kin' : K.In (hidT s.heap H) := by
    intro b o e
    refine hidT_get (kin b o e) ?_
    cases z : H b with
    | none => rfl
    | some u =>
      rcases kinds b u z with ⟨rfl, n, _⟩ | ⟨m, _⟩
      · cases n.symm.trans e
      · obtain ⟨p, mp, rfl⟩ := List.mem_map.mp m
        cases (unw p mp).symm.trans e
  obtain ⟨mc, l1, l2⟩ := nolim
  have mod : L2.Mod K mg (hidT s.heap H) := ⟨kin', names gl, ⟨mb, names bl, boot⟩, ⟨mc, names l1, l2⟩⟩
  have TB : ∀ p ∈ cs, TabB (hidT s.heap H) mg p.1 p.2 := by
    intro p mp
    constructor
    · obtain ⟨o, vs, f1, t1, f2, t2, b3, i4, t4, e, kc, dt, tb, more⟩ := code p mp
      refine ⟨o, vs, f1, t1, f2, t2, b3, i4, t4, hidT_get e (clear_ e (by rw [dt]; intro _ _ q; cases q) ?_), kc, dt, tb, more⟩
      rw [dt]
      intro q
      cases q
      cases (show (none : Option Value) = some _ from tb)
    · obtain ⟨bm, o, g1, g2, g3, g4, g5, g6⟩ := bmod
      have apart : ∀ {b u}, s.heap.get? b = some u → u.data ≠ .plain → bm ≠ b := by
        rintro b u e n rfl
        cases g3.symm.trans e
        exact n g6
      refine ⟨bm, o, g1, g2, ?_, ?_, hidT_get g3 (clear_ g3 (by rw [g6]; intro _ _ q; cases q) (by rw [g6]; intro q; cases q)), g4, g5, g6⟩
      · obtain ⟨u, _, _, e, d, _⟩ := gl
        exact apart e (by rw [d]; intro q; cases q)
      · exact apart (tab p mp) (by intro q; cases q)
    · obtain ⟨u, _, _, e, d, _⟩ := gl
      intro q
      rw [q] at e
      cases (tab p mp).symm.trans e
      cases d
  have env : Env0 P w K mg (hidT s.heap H) callerA [] s H := ⟨rfl, mod, fun b o e => of_hidT e, Nat.le_of_eq (hidT_size _ _), trivial, fun b h => absurd (show b ∈ ([] : List Addr) from h) (by simp), hok, .of_eq gen⟩
  apply codeAny_mono ((F _ kin' (names gl) (mods.imp fun _ z => names z) TB).go (us := [.ref a]) (vs := [.ref a]) rfl room env (bind s (.ref a)) (.cons rfl .nil) (prom H (fun p mp => tabs _ (seen p mp)) seq))
  rintro (e | fl) t z
  · exact z.elim
  cases fl with
  | next => exact z.elim
  | brk => exact z.elim
  | cont => exact z.elim
  | ret u =>
    obtain ⟨v, G, os, bare, un, hok', rl, q⟩ := z
    cases (show v = .bl true from q)
    cases (show u = Value.bool true from rl)
    refine ⟨rfl, ?_, os, bare⟩
    have stay : ∀ b o, b ∉ cs.map (·.2) → s.heap.get? b = some o → t.heap.get? b = some o := by
      intro b o n e
      cases z : H b with
      | none => exact un.keep b o e z (by simp [frs]) (by simp)
      | some u =>
        rcases kinds b u z with ⟨rfl, _, rfl⟩ | ⟨m, _⟩
        · cases ob.symm.trans e
          exact (hok' b _ (un.frzs b _ _ z)).1
        · exact (n m).elim
    have grown : ∀ p ∈ cs, ∃ more : Array Value, t.heap.get? p.2 = some { cls := .none, data := .fields more } := by
      intro p mp
      obtain ⟨more, z⟩ := un.tbls p.2 #[] (tabs _ (seen p mp))
      exact ⟨_, hok' p.2 _ z⟩
    constructor
    · intro b o e
      by_cases m : b ∈ cs.map (·.2)
      · obtain ⟨p, mp, rfl⟩ := List.mem_map.mp m
        obtain ⟨more, z⟩ := grown p mp
        cases (tab p mp).symm.trans e
        exact .inr (.inl ⟨((code p mp).tab (tab p mp)).isCodeTable, rfl, #[], more, rfl, by rw [Array.empty_append]; exact z⟩)
      · exact .inl (stay b o m e)
    · intro b o e
      by_cases m : b ∈ cs.map (·.2)
      · obtain ⟨p, mp, rfl⟩ := List.mem_map.mp m
        obtain ⟨more, z⟩ := grown p mp
        exact ⟨_, z⟩
      · exact ⟨o, stay b o m e⟩
/-- what k_head leaves, from the law's promise, with tables -/
theorem walk_GT {l : PySem.W.OpenLaw} {n k : Nat} {q : Program} {loose : List Str} {XP : (Str → Option Value) → Heap → Prop} {YP : World → Heap → Prop} {d : DefRec} {K : Params → PySem.W.Frag} {cs : List (Addr × Addr)} {sp : PySem.W.Frag → Sp} {x : Str}
    (none : importsNone q = true) (hn : l.most = some n) (hn2 : n ≤ sizeLine) (hdf : d.params.defaults = []) (room : Room k callerA) (hY : ∀ (w : World) (h : Heap), YP w h → (K w.params).In h)
    (hT : ∀ (w : World) (h : Heap), YP w h → ∀ p ∈ cs, h.get? p.2 = some { cls := .none, data := .fields #[] }) (hC : ∀ (w : World) (h : Heap), YP w h → ∀ p ∈ cs, PySem.W.CodeHd h p.1 p.2) (nT : ∀ w : World, ∀ p ∈ cs, (K w.params).lookup p.2 = .none)
    (F : ∀ (w : World) (mg : Str → Option Value) (fa : Addr) (h : Heap), (K w.params).In h → h.Ns mainGlobals mg → mg d.name = some (.ref fa) →
      ∃ fd : FuncData, (∀ (t : Shared) (u : Value), BindsTo t fd ⟨[u], []⟩ [(x, u)]) ∧ ∀ base : Heap, (K w.params).In base → base.Ns mainGlobals mg → HasMods base → (∀ p ∈ cs, TabB base mg p.1 p.2) → FnG l.prog w (K w.params) mg base k fa fd [x] (sp (K w.params)))
    (prom : ∀ (K : PySem.W.Frag) (H : Hp) (a : Addr) (ns : List Int), ns.length ≤ n → (∀ p ∈ cs, H p.2 = some (.tbl #[])) → SqL K H a (ns.map V.int) → sp K [.ref a] H (fun v _ => v = .bl true) fun _ _ _ => False) :
    PySem.W.WalkO q loose XP YP l.row.toRowW d [] (fun f vs => PySem.call f vs) := by
  apply Att.attach_call hn hdf
  intro w s0 s1 mg mb fa o pm cd dc a us ns G Y _ _ _ hmg hobj nums hlen hg
  have md : HasMods s1.heap := let ⟨mm, z, _⟩ := (G.T.seer none).mods; ⟨mm, z⟩
  obtain ⟨fd, hb, hF⟩ := F w mg fa _ (hY w _ Y) G.T.g hmg
  exact law_goTs (hY w _ Y) G.T.g G.T.b G.T.builtins G.T.nolimit md hg (hT w _ Y) (nT w) (hC w _ Y) G.T.bmain hobj nums (Nat.le_trans hlen hn2) room hF hb fun H hH hS => prom _ H a ns hlen hH hS
end Rp
namespace Rp
open PySem PySem.Spec PyProof.Rows L2
/-- the rule for a def that errors may leave -/
theorem fnx {P : Program} {w : World} {K : PySem.W.Frag} {mg : Str → Option Value} {base : Heap} {k : Nat} {f : Addr} {fd : FuncData} {ps : List Str} {sp : Sp} {x qual : Str} {st : Stmt} {N : List Str} (F : Fun K x qual st f fd) (S : FnScope N ps (defScope st)) (ar : ∀ {vs H Q E}, sp vs H Q E → vs.length = ps.length)
    (body : ∀ {cdv : Value} {A : Around} {fr : List Env} {s : Shared} {H : Hp} {vs : List V} {Q : VK} {E : XK}, Room k (A.deeper (envOfC qual (defScope st) s.heap.objs.size f cdv)) → sp vs H Q E →
      ∃ t, PSs (cxOf (L2.CX P w) P w K mg base N qual (defScope st) f cdv A fr s H E) (defBody st) t ∧ t ⟨fun _ G => Q .non G, Q, fun _ _ => False, fun _ _ => False⟩ (L2.start N vs) H) : FnOk P w K mg base (L2.CX P w) (k + 1) f fd ps sp :=
  F.okX S (fun _ _ _ _ h => ar h) fun _ _ _ _ _ _ _ _ r h => body r h
/-- an error of one field is E's -/
def errAt (E : XK) (C : Addr) (f : Str) (v : V) (H : Hp) : Prop := ∀ d, H d = none → E (.ref C) (some d) (upd H d (.xd [(f, v)]))
def spDemClock (C : Addr) : Sp := fun vs H Q E => ∃ q v, vs = [v] ∧ Any q H v ∧ (clk v = true → Q .non H) ∧ (clk v = false → errAt E C "part" (.str "clock") H)
def spDemWithin (C : Addr) : Sp := fun vs H Q E => ∃ q v lo hi part, vs = [v, oV lo, oV hi, .str part] ∧ Any q H v ∧ (inB v lo hi = true → Q .non H) ∧ (inB v lo hi = false → errAt E C "part" (.str part) H)
/-- a row of the clock, of lo to hi numbers -/
def rowOk (o : Option (List V)) (clock lo hi : Int) : Bool :=
  match o with
  | none => false
  | some xs => (decide (lo ≤ (xs.length : Int)) && decide ((xs.length : Int) ≤ hi)) && xs.all fun x => inB x (some 0) (some (clock - 1))
def spDemRow (C : Addr) : Sp := fun vs H Q E => ∃ q v o clock lo hi part, vs = [v, .int clock, .int lo, .int hi, .str part] ∧ RowV q H v o ∧ clk (.int clock) = true ∧ (∀ xs, o = some xs → xs.length < sizeLine) ∧
  ∀ H', Same H H' → (rowOk o clock lo hi = true → Q .non H') ∧ (rowOk o clock lo hi = false → errAt E C "part" (.str part) H')
section
variable {K : PySem.W.Frag} {σ : L2.St} {H : Hp} {Q : XK} {W : WX} {D : Ends} {te : TE} {C : Addr} {f : Str} {sp : Sp} {t : TA} {E : XK} {Q' : VK} {tm : L2.St → Hp → XK → Prop}
theorem r_izipA {K : PySem.W.Frag} {ta : TA} {σ : L2.St} {H : Hp} {R : It → Hp → Prop} (h : ta σ H fun vs H1 => ∃ a b xs ys, vs = [.ref a, .ref b] ∧ ((SqL K H1 a xs ∧ SqL K H1 b ys ∧ R (Itz K a b) H1) ∨ (SqT K H1 a xs ∧ SqT K H1 b ys ∧ R (RZ.ItzT K a b) H1))) : RZ.iZipA K ta σ H R := h
theorem r_izip {K : PySem.W.Frag} {ta : TA} {σ : L2.St} {H : Hp} {R : It → Hp → Prop} (h : ta σ H fun vs H1 => ∃ a b xs ys, vs = [.ref a, .ref b] ∧ SqL K H1 a xs ∧ SqL K H1 b ys ∧ R (Itz K a b) H1) : iZip K ta σ H R := h
theorem r_err (h : te σ H fun v H1 => ∀ d, H1 d = none → Q (.ref C) (some d) (upd H1 d (.xd [(f, v)]))) : tErr C f te σ H Q := h
theorem r_raise (h : tm σ H fun cls d H' => E cls d H') : (fun (_ : Ends) σ H => tm σ H fun cls d H' => (fun cls d (_ : L2.St) H => E cls d H) cls d σ H') D σ H := h
end
end Rp
namespace Rp
open PySem PySem.Spec PyProof.Rows L2
/-! ### what a caught error is asked -/
/-- isinstance(e, C): e a tracked error, or any value of a kind that is known -/
def rIsO (K : PySem.W.Frag) : List V → Hp → VK → Prop := fun xs H Q => rIsT K xs H Q ∨ rIsi K xs H Q
theorem call_isO {X : Cx} : CallR X (.builtin "isinstance") (rIsO X.K) := by
  intro pins s σ H xs us Q I r h
  rcases h with h | h
  · exact call_isT pins s σ H xs us Q I r h
  · exact call_isi pins s σ H xs us Q I r h
/-- an error's class, as a clause and isinstance see it -/
structure ErrK (K : PySem.W.Frag) (C top : Addr) (f : Str) : Prop where
  ex : ExcC K C
  xf : XfC K C
  no : PySem.W.findIn K (.ref C) f = some none
  up : PySem.W.exmOne K (.ref C) (.ref top) = some true
  nn : PySem.W.kitOne K (.type "NoneType") (.ref C) = some false
section
variable {K : PySem.W.Frag} {H : Hp} {Q : VK} {a C D top dx : Addr} {fs : List (Str × V)} {f : Str} {b : Bool} {σ : L2.St} {te : TE}
theorem r_isE (T : ErrK K C top f) (ha : H a = some (ErO a (.ref C) (some dx))) (hd : H dx = some (.xd fs)) (k : PySem.W.kitOne K (.ref C) (.ref D) = some b) (h : Q (.bl b) H) : rIsO K [.ref a, .ref D] H Q :=
  .inl ⟨a, C, dx, fs, .ref D, .ref D, b, rfl, T.ex, ha, hd, fun _ r => r, k, h⟩
theorem r_isNo (T : ErrK K D top f) (h : Q (.bl false) H) : rIsO K [.non, .ref D] H Q := .inr ⟨.non, .ref D, _, .ref D, false, rfl, .own D, .base .non, T.nn, h⟩
theorem r_xt {n : Str} (h : te σ H fun x H1 => ∃ (a C dd : Addr) (fs : List (Str × V)) (v : V), x = .ref a ∧ XfC K C ∧ PySem.W.findIn K (.ref C) n = some none ∧ H1 a = some (ErO a (.ref C) (some dd)) ∧ H1 dd = some (.xd fs) ∧ fs.lookup n = some v ∧ Q v H1) : tXt K n te σ H Q := h
end
/-- the slots are as many as the names -/
theorem takes_len {X : Cx} {W : WX} (h : Takes X W) : Takes X (fun cls d σ H => σ.length = X.N.length → W cls d σ H) := by
  rintro u s' ⟨a, B, sI, pins, σ, H, cls, d, e1, I, e2, e3, e4, e5, e6, e7, w⟩
  exact h u s' ⟨a, B, sI, pins, σ, H, cls, d, e1, I, e2, e3, e4, e5, e6, e7, w I.len⟩
/-- the try's body, where what was got is called -/
def tTake (f c' : Addr) (q : Str) (n : Nat) (tl : XK → Hp → VK → Prop) (W : WX) : TS := fun D σ H => ∃ (Ech : XK) (R0 : VK), (∀ cls d σ' H', Ech cls d H' → σ'.length = n → W cls d σ' H') ∧ σ[0]? = some (some (.ref f)) ∧ H c' = some (LamX.CodeO c' q) ∧ tl Ech H R0 ∧ ∀ v G, R0 v G → D.nx σ G
theorem pss_take {X : Cx} {f c' : Addr} {q a : Str} {n : Nat} {tl : XK → Hp → VK → Prop} {W : WX} {p1 p2 p3 : Pos} (ln : X.N.length = n) (tk : Takes X W)
    (act : ∀ E : XK, Takes X (fun cls d σ H => σ.length = X.N.length → W cls d σ H) → (∀ cls d σ' H', E cls d H' → σ'.length = X.N.length → W cls d σ' H') → PE X (.Call (.Name a p1) [] [] p2) (fun σZ HZ Q => σZ[0]? = some (some (.ref f)) ∧ HZ c' = some (LamX.CodeO c' q) ∧ tl E HZ Q))
    (sw : swapsWith (.Call (.Name a p1) [] [] p2) none p3.line X.env = pure false := by rfl) : PSs X [.Expr (.Call (.Name a p1) [] [] p2) p3] (tTake f c' q n tl W) := by
  constructor
  rintro pins s σ H D I ⟨Ech, R0, h1, h2, h3, h4, h5⟩
  have hp := act Ech (takes_len tk) fun cls d σ' H' e l => h1 cls d σ' H' e (l.trans ln)
  exact (pss_one (ps_expr (pe_mono hp) sw)).run pins s σ H D I ⟨R0, ⟨h2, h3, h4⟩, h5⟩
end Rp
namespace Rp
open PySem PySem.Spec PyProof.Rows L2 LamX
section
variable {K : PySem.W.Frag} {σ : L2.St} {H : Hp} {Q : VK} {T : List (Addr × Str)} {TT : (XK → Hp → VK → Prop) → Hp → VK → Prop} {t : XK → TE}
theorem r_lam (h : Tabs T H ∧ ∀ H1, ExtN H H1 → Tabs T H1 → TT (fun E H' Q' => t E σ H' Q') H1 Q) : tLam T TT t σ H Q := h
end
theorem any_ext {q : Addr} {H H' : Hp} {v : V} (h : Any q H v) (x : ExtN H H') : Any q H' v := by
  cases h with
  | non => exact .non
  | bl b => exact .bl b
  | num i => exact .num i
  | str z => exact .str z
  | lst n e => exact .lst n (x _ _ e fun _ z => by cases z)
  | tup n e => exact .tup n (x _ _ e fun _ z => by cases z)
  | dic n e => exact .dic n (x _ _ e fun _ z => by cases z)
theorem row_ext {q : Addr} {H H' : Hp} {v : V} {o : Option (List V)} (h : RowV q H v o) (x : ExtN H H') : RowV q H' v o := by
  cases h with
  | non => exact .non
  | bl b => exact .bl b
  | num i => exact .num i
  | str z => exact .str z
  | lst n e it => exact .lst n (x _ _ e fun _ z => by cases z) fun v m => any_ext (it v m) x
  | tup n e it => exact .tup n (x _ _ e fun _ z => by cases z) fun v m => any_ext (it v m) x
  | dic n e => exact .dic n (x _ _ e fun _ z => by cases z)
theorem ext_same {H H1 H2 : Hp} (x : ExtN H H1) (s : Same H1 H2) : ExtN H H2 := x.trans (ExtN.of s)
theorem ext_neu {H H1 : Hp} {p : Addr} {o : HO} (x : ExtN H H1) (hp : H1 p = none) : ExtN H (upd H1 p o) := ext_same x (same_neu (Same.refl _) hp)
theorem tabs_same {T : List (Addr × Str)} {H H' : Hp} (t : Tabs T H) (s : Same H H') : Tabs T H' := t.ext s
end Rp
namespace Rp
open PySem PySem.Spec PyProof.Rows L2 LamX
/-! ### deeds: pairs of a word and a gap -/
theorem at20 {a b : V} : atI [a, b] 0 = some a := rfl
theorem at21 {a b : V} : atI [a, b] 1 = some b := rfl
abbrev Dl := List (Str × Int)
def W5 : List Str := ["over", "under", "join", "open", "turn"]
inductive DsV (q : Addr) (H : Hp) : List V → Dl → Prop
  | nil : DsV q H [] []
  | cons {t : Addr} {w : Str} {g : Int} {vs : List V} {ds : Dl} (n : t ≠ q) (e : H t = some (.tup [.str w, .int g])) (r : DsV q H vs ds) : DsV q H (.ref t :: vs) ((w, g) :: ds)
section
variable {q p : Addr} {H H' : Hp} {vs us : List V} {ds es : Dl} {v : V} {o : HO} {i : Nat}
theorem DsV.but (b : But q H H') : ∀ {vs : List V} {ds : Dl}, DsV q H vs ds → DsV q H' vs ds
  | _, _, .nil => .nil
  | _, _, .cons n e r => .cons n (b _ _ n e) (r.but b)
theorem DsV.ext (x : ExtN H H') : ∀ {vs : List V} {ds : Dl}, DsV q H vs ds → DsV q H' vs ds
  | _, _, .nil => .nil
  | _, _, .cons n e r => .cons n (x _ _ e fun _ z => by cases z) (r.ext x)
theorem DsV.keep (f : ∀ t xs, H t = some (.tup xs) → H' t = some (.tup xs)) : ∀ {vs : List V} {ds : Dl}, DsV q H vs ds → DsV q H' vs ds
  | _, _, .nil => .nil
  | _, _, .cons n e r => .cons n (f _ _ e) (r.keep f)
theorem DsV.len : ∀ {vs : List V} {ds : Dl}, DsV q H vs ds → vs.length = ds.length
  | _, _, .nil => rfl
  | _, _, .cons _ _ r => by rw [List.length_cons, List.length_cons, r.len]
theorem DsV.at : ∀ {vs : List V} {ds : Dl} {i : Nat}, DsV q H vs ds → vs[i]? = some v → ∃ t w g, v = .ref t ∧ t ≠ q ∧ H t = some (.tup [.str w, .int g]) ∧ ds[i]? = some (w, g)
  | _, _, i, .nil, h => by simp at h
  | _, _, 0, .cons n e _, h => by
    have h' := Option.some.inj h
    exact ⟨_, _, _, h'.symm, n, e, rfl⟩
  | _, _, i + 1, .cons _ _ r, h => r.at (i := i) (by simpa using h)
theorem DsV.app (k : DsV q H vs ds) (h : DsV q H us es) : DsV q H (vs ++ us) (ds ++ es) := by
  induction k with
  | nil => exact h
  | cons n e r ih => exact .cons n e ih
theorem DsV.one {t : Addr} {w : Str} {g : Int} (n : t ≠ q) (e : H t = some (.tup [.str w, .int g])) : DsV q H [.ref t] [(w, g)] := .cons n e .nil
theorem DsV.take : ∀ {vs : List V} {ds : Dl} (k : Nat), DsV q H vs ds → DsV q H (vs.take k) (ds.take k)
  | _, _, 0, _ => by rw [List.take_zero, List.take_zero]; exact .nil
  | _, _, k + 1, .nil => by rw [List.take_nil, List.take_nil]; exact .nil
  | _, _, k + 1, .cons n e r => by rw [List.take_succ_cons, List.take_succ_cons]; exact .cons n e (r.take k)
theorem DsV.drop : ∀ {vs : List V} {ds : Dl} (k : Nat), DsV q H vs ds → DsV q H (vs.drop k) (ds.drop k)
  | _, _, 0, h => by rw [List.drop_zero, List.drop_zero]; exact h
  | _, _, k + 1, .nil => by rw [List.drop_nil, List.drop_nil]; exact .nil
  | _, _, k + 1, .cons n e r => by rw [List.drop_succ_cons, List.drop_succ_cons]; exact r.drop k
theorem DsV.set {t : Addr} {w : Str} {g : Int} (n : t ≠ q) (e : H t = some (.tup [.str w, .int g])) : ∀ {vs : List V} {ds : Dl} (k : Nat), DsV q H vs ds → DsV q H (vs.set k (.ref t)) (ds.set k (w, g))
  | _, _, k, .nil => by rw [List.set_nil, List.set_nil]; exact .nil
  | _, _, 0, .cons _ _ r => .cons n e r
  | _, _, k + 1, .cons n2 e2 r => .cons n2 e2 (r.set n e k)
theorem DsV.rep {t : Addr} {w : Str} {g : Int} (n : t ≠ q) (e : H t = some (.tup [.str w, .int g])) : ∀ k : Nat, DsV q H (List.replicate k (.ref t)) (List.replicate k (w, g))
  | 0 => .nil
  | k + 1 => .cons n e (DsV.rep n e k)
end
/-- the words are words, the gaps gaps of some ring -/
def Typ (b : Int) (ds : Dl) : Prop := ∀ d ∈ ds, d.1 ∈ W5 ∧ 0 ≤ d.2 ∧ d.2 ≤ b
theorem Typ.nil {b : Int} : Typ b [] := fun _ m => nomatch m
theorem Typ.app {b : Int} {ds es : Dl} (h : Typ b ds) (k : Typ b es) : Typ b (ds ++ es) := fun d m => (List.mem_append.mp m).elim (h d) (k d)
theorem Typ.one {b : Int} {w : Str} {g : Int} (hw : w ∈ W5) (h0 : 0 ≤ g) (h1 : g ≤ b) : Typ b [(w, g)] := fun d m => by rw [List.mem_singleton.mp m]; exact ⟨hw, h0, h1⟩
theorem Typ.take {b : Int} {ds : Dl} (h : Typ b ds) (k : Nat) : Typ b (ds.take k) := fun d m => h d (List.mem_of_mem_take m)
theorem Typ.drop {b : Int} {ds : Dl} (h : Typ b ds) (k : Nat) : Typ b (ds.drop k) := fun d m => h d (List.mem_of_mem_drop m)
theorem Typ.set {b : Int} {ds : Dl} {w : Str} {g : Int} (h : Typ b ds) (hw : w ∈ W5) (h0 : 0 ≤ g) (h1 : g ≤ b) (k : Nat) : Typ b (ds.set k (w, g)) := fun d m => by
  rcases List.mem_or_eq_of_mem_set m with z | z
  · exact h d z
  · rw [z]; exact ⟨hw, h0, h1⟩
theorem Typ.at {b : Int} {ds : Dl} {i : Nat} {w : Str} {g : Int} (h : Typ b ds) (e : ds[i]? = some (w, g)) : w ∈ W5 ∧ 0 ≤ g ∧ g ≤ b := h _ (List.mem_of_getElem? e)
theorem Typ.rep {b : Int} {w : Str} {g : Int} (hw : w ∈ W5) (h0 : 0 ≤ g) (h1 : g ≤ b) (k : Nat) : Typ b (List.replicate k (w, g)) := fun d m => by rw [List.eq_of_mem_replicate m]; exact ⟨hw, h0, h1⟩
theorem Typ.le {b c : Int} {ds : Dl} (h : Typ b ds) (l : b ≤ c) : Typ c ds := fun d m => ⟨(h d m).1, (h d m).2.1, Int.le_trans (h d m).2.2 l⟩
/-- the gaps at which a deed fits: from gLo to gHi - 1 -/
def gLo (w : Str) (m : Int) : Int := if w = "open" then 0 else if w = "join" then (if 0 < m then 1 else 0) else 0
def gHi (w : Str) (m : Int) : Int := if w = "open" then (if 1 > m then 1 else m) else if w = "join" then (if 0 < m then (if 2 > m - 1 then 2 else m - 1) else m) else m
def fitsG (w : Str) (m g : Int) : Bool := decide (gLo w m ≤ g) && decide (g < gHi w m)
def behind (w : Str) (m : Int) : Int := if w = "join" then m - 2 else if w = "open" then m + 2 else m
/-- what comes of deeds: none, a misfit, too many ends -/
def demF : Dl → Int → Option Bool
  | [], m => if m = 0 then none else some false
  | (w, g) :: r, m => if fitsG w m g then (if behind w m > 24 then some true else demF r (behind w m)) else some false
/-- how many ends deeds leave that fit -/
def runD : Dl → Int → Option Int
  | [], m => some m
  | (w, g) :: r, m => if fitsG w m g ∧ ¬ behind w m > 24 then runD r (behind w m) else none
theorem runD_app : ∀ {ds es : Dl} {m : Int}, runD (ds ++ es) m = (runD ds m).bind (runD es)
  | [], _, _ => rfl
  | (w, g) :: r, es, m => by
    show (if _ then runD (r ++ es) _ else none) = (if _ then runD r _ else none).bind _
    split
    · exact runD_app
    · rfl
theorem demF_run : ∀ {ds es : Dl} {m n : Int}, runD ds m = some n → demF (ds ++ es) m = demF es n
  | [], _, _, _, h => by cases h; rfl
  | (w, g) :: r, es, m, n, h => by
    unfold runD at h
    split at h
    · rename_i c
      show (if fitsG w m g then (if behind w m > 24 then some true else demF (r ++ es) (behind w m)) else some false) = _
      rw [if_pos c.1, if_neg c.2]
      exact demF_run h
    · cases h
theorem demF_ok {ds : Dl} {m : Int} (h : runD ds m = some 0) : demF ds m = none := by
  have z := demF_run (es := []) h
  rw [List.append_nil] at z
  rw [z]
  rfl
/-- by the law's own fitting -/
def lawFits (m : Int) (w : Str) (g : Int) : Bool := if w = "join" then (if m = 2 then decide (g = 1) else (decide (1 ≤ g) && decide (g ≤ m - 2))) else (decide (0 ≤ g) && decide (g < (if w = "open" then (if m > 1 then m else 1) else m)))
theorem lawFits_eq {w : Str} {m g : Int} (h0 : 0 ≤ m) (h2 : m % 2 = 0) : lawFits m w g = fitsG w m g := by
  unfold lawFits fitsG gLo gHi
  by_cases h : w = "join"
  · have n : w ≠ "open" := by rw [h]; decide
    rw [if_pos h, if_neg n, if_neg n, if_pos h, if_pos h]
    by_cases hm : m = 2
    · subst hm
      rw [if_pos rfl, if_pos (by decide), if_pos (by decide), if_pos (by decide)]
      by_cases e : g = 1
      · subst e; rfl
      · rw [decide_eq_false e]
        by_cases e1 : 1 ≤ g
        · rw [decide_eq_false (p := g < 2) (by omega), Bool.and_false]
        · rw [decide_eq_false (p := 1 ≤ g) e1, Bool.false_and]
    · rw [if_neg hm]
      by_cases hp : 0 < m
      · rw [if_pos hp, if_pos hp, if_neg (by omega)]
        by_cases e1 : 1 ≤ g
        · rw [show decide (g ≤ m - 2) = decide (g < m - 1) from decide_eq_decide.mpr (by omega)]
        · rw [decide_eq_false (p := 1 ≤ g) e1, Bool.false_and, Bool.false_and]
      · rw [if_neg hp, if_neg hp]
        by_cases e1 : 1 ≤ g
        · rw [decide_eq_false (p := g ≤ m - 2) (by omega), decide_eq_false (p := g < m) (by omega), Bool.and_false, Bool.and_false]
        · rw [decide_eq_false (p := 1 ≤ g) e1, Bool.false_and]
          by_cases e2 : 0 ≤ g
          · rw [decide_eq_false (p := g < m) (by omega), Bool.and_false]
          · rw [decide_eq_false (p := 0 ≤ g) e2, Bool.false_and]
  · rw [if_neg h]
    by_cases ho : w = "open"
    · rw [if_pos ho, if_pos ho, if_pos ho]
      congr 2
      by_cases hm : m > 1
      · rw [if_pos hm, if_neg (by omega)]
      · rw [if_neg hm]
        split <;> (apply propext; omega)
    · rw [if_neg ho, if_neg ho, if_neg ho, if_neg h, if_neg h]
theorem fits_open {m g : Int} (h0 : 0 ≤ g) (h1 : g < m ∨ g = 0) : fitsG "open" m g = true := by
  unfold fitsG gLo gHi
  rw [if_pos rfl, if_pos rfl, decide_eq_true h0, decide_eq_true]
  · rfl
  · split <;> omega
theorem fits_cross {w : Str} {m g : Int} (hw : w = "over" ∨ w = "under" ∨ w = "turn") (h0 : 0 ≤ g) (h1 : g < m) : fitsG w m g = true := by
  have a : w ≠ "open" ∧ w ≠ "join" := by rcases hw with h | h | h <;> (rw [h]; decide)
  unfold fitsG gLo gHi
  rw [if_neg a.1, if_neg a.1, if_neg a.2, if_neg a.2, decide_eq_true h0, decide_eq_true h1]
  rfl
theorem fits_join {m g : Int} (hm : 2 ≤ m) (h0 : 1 ≤ g) (h1 : g < m - 1 ∨ g = 1) : fitsG "join" m g = true := by
  have n : ("join" : Str) ≠ "open" := by decide
  unfold fitsG gLo gHi
  rw [if_neg n, if_neg n, if_pos rfl, if_pos rfl, if_pos (by omega), if_pos (by omega), decide_eq_true h0, decide_eq_true]
  · rfl
  · split <;> omega
theorem behind_cross {w : Str} {m : Int} (hw : w = "over" ∨ w = "under" ∨ w = "turn") : behind w m = m := by
  have a : w ≠ "open" ∧ w ≠ "join" := by rcases hw with h | h | h <;> (rw [h]; decide)
  unfold behind
  rw [if_neg a.2, if_neg a.1]
theorem behind_join {m : Int} : behind "join" m = m - 2 := rfl
theorem behind_open {m : Int} : behind "open" m = m + 2 := rfl
/-- one deed more -/
theorem runD_one {ds : Dl} {w : Str} {g m n : Int} (h : runD ds m = some n) (f : fitsG w n g = true) (b : ¬ behind w n > 24) : runD (ds ++ [(w, g)]) m = some (behind w n) := by
  rw [runD_app, h]
  show (if fitsG w n g ∧ ¬ behind w n > 24 then some (behind w n) else none) = _
  rw [if_pos ⟨f, b⟩]
theorem even_behind {w : Str} {m : Int} (h : m % 2 = 0) : behind w m % 2 = 0 := by
  unfold behind
  split
  · omega
  · split <;> omega
theorem fits_ends {w : Str} {m g : Int} (h0 : 0 ≤ m) (h2 : m % 2 = 0) (f : fitsG w m g = true) : 0 ≤ behind w m := by
  unfold behind
  split
  · rename_i hj
    subst hj
    have n : ("join" : Str) ≠ "open" := by decide
    unfold fitsG gLo gHi at f
    rw [if_neg n, if_neg n, if_pos rfl, if_pos rfl] at f
    by_cases hp : 0 < m
    · omega
    · rw [if_neg hp, if_neg hp] at f
      have := (Bool.and_eq_true_iff.mp f)
      have a := of_decide_eq_true this.1
      have b := of_decide_eq_true this.2
      omega
  · split <;> omega
theorem inV_rg {g a b : Int} : inV (.int g) (rgV a b) = (decide (a ≤ g) && decide (g < b)) := by
  unfold inV rgV
  by_cases h : a ≤ g ∧ g < b
  · rw [decide_eq_true h.1, decide_eq_true h.2]
    refine List.any_eq_true.mpr ⟨.int g, List.mem_map.mpr ⟨(g - a).toNat, List.mem_range.mpr (by omega), by congr 1; omega⟩, ?_⟩
    show (g == g) = true
    exact beq_self_eq_true g
  · have e : (decide (a ≤ g) && decide (g < b)) = false := by
      by_cases h1 : a ≤ g
      · rw [decide_eq_false (p := g < b) (fun z => h ⟨h1, z⟩), Bool.and_false]
      · rw [decide_eq_false h1, Bool.false_and]
    rw [e]
    refine List.any_eq_false.mpr fun x m => ?_
    obtain ⟨k, mk, rfl⟩ := List.mem_map.mp m
    have := List.mem_range.mp mk
    show ¬ (a + (k : Int) == g) = true
    intro z
    have z' := eq_of_beq z
    exact h ⟨by omega, by omega⟩
theorem flat_rg {a b : Int} : (rgV a b).all flatV = true := by
  unfold rgV
  rw [List.all_map]
  exact List.all_eq_true.mpr fun _ _ => rfl
/-- all gaps are gaps of some ring -/
def gapsOk (ds : Dl) : Bool := ds.all fun d => inB (.int d.2) (some 0) (some 23)
theorem gapsOk_typ {ds : Dl} (h : Typ 23 ds) : gapsOk ds = true := List.all_eq_true.mpr fun d m => by
  obtain ⟨_, a, b⟩ := h d m
  show (decide ((0 : Int) ≤ d.2) && decide (d.2 ≤ (23 : Int))) = true
  rw [decide_eq_true a, decide_eq_true b]
  rfl
theorem r_eqS {x y : Str} {H : Hp} {Q : VK} (h : Q (.bl (decide (x = y))) H) : rEq (.str x) (.str y) H Q := ⟨rfl, by
  rw [show decide (V.str x = V.str y) = decide (x = y) from decide_eq_decide.mpr ⟨V.str.inj, congrArg V.str⟩]
  exact h⟩
theorem r_in {K : PySem.W.Frag} {p : Addr} {x : V} {xs : List V} {H : Hp} {Q : VK} (hs : SqL K H p xs ∨ SqT K H p xs) (f : flatV x = true) (fs : xs.all flatV = true) (h : Q (.bl (inV x xs)) H) : rIn K false x (.ref p) H Q := ⟨p, xs, rfl, hs, f, fs, h⟩
theorem r_notIn {K : PySem.W.Frag} {p : Addr} {x : V} {xs : List V} {H : Hp} {Q : VK} (hs : SqL K H p xs ∨ SqT K H p xs) (f : flatV x = true) (fs : xs.all flatV = true) (h : Q (.bl (!inV x xs)) H) : rIn K true x (.ref p) H Q := ⟨p, xs, rfl, hs, f, fs, h⟩
theorem in_W5 {w : Str} (h : w ∈ W5) : inV (.str w) [.str "over", .str "under", .str "join", .str "open", .str "turn"] = true := by
  unfold W5 at h
  simp only [List.mem_cons, List.not_mem_nil, or_false] at h
  rcases h with h | h | h | h | h <;> (rw [h]; decide +kernel)
end Rp
namespace Rp
open PySem PySem.Spec PyProof.Rows L2 LamX
/-! ### own errors with two fields; objects of own classes that may not come about -/
/-- tuple(x), x a list or a tuple -/
def rTupOf (K : PySem.W.Frag) : List V → Hp → VK → Prop := fun xs H Q => ∃ p ys, xs = [.ref p] ∧ ((SqL K H p ys ∧ ∀ l, H l = none → Q (.ref l) (upd H l (.tup ys))) ∨ (SqT K H p ys ∧ Q (.ref p) H))
theorem call_tupK {X : Cx} : CallR X (.type "tuple") (rTupOf X.K) := call_tuple_of
def spIni2 (C : Addr) (f g : Str) : Sp := fun vs H Q _ => ∃ a v u, vs = [.ref a, v, u] ∧ H a = some (exo a C none) ∧ ∀ dx, H dx = none → dx ≠ a → Q .non (upd (upd (upd H dx (exd dx [(f, v)])) a (exo a C (some dx))) dx (exd dx [(g, u), (f, v)]))
structure Err2 (P : Program) (w : World) (K : PySem.W.Frag) (mg : Str → Option Value) (base : Heap) (x : Str) (C : Addr) (f g : Str) : Prop where
  gm : mg x = some (.ref C)
  oex : OexC K C
  no : PySem.W.findIn K (.ref C) f = some none
  no2 : PySem.W.findIn K (.ref C) g = some none
  xf : XfC K C
  ini : ∃ (fI : Addr) (fd : FuncData) (ps : List Str), PySem.W.findIn K (.ref C) "__init__" = some (some (.ref fI)) ∧ PySem.W.typeIn K (.ref fI) = some (.type "function") ∧ Binds K fd ps [] ∧
    FnOk P w K mg base CX0 1 fI fd ps (spIni2 C f g)
/-- x(e, e'), raised: the error's own dict is new -/
def tErr2 (C : Addr) (f g : Str) (te tu : TE) : L2.St → Hp → XK → Prop := fun σ H Q => te σ H fun v H1 => tu σ H1 fun u H2 => ∀ d, H2 d = none → Q (.ref C) (some d) (upd H2 d (.xd [(g, u), (f, v)]))
theorem del_put2 {H : Hp} {a d : Addr} {o u o2 u2 : HO} {fs : List (Str × V)} (na : H a = none) (ne : d ≠ a) : upd (del (upd (upd (upd (upd H a o) d u) a o2) d u2) a) d (.xd fs) = upd H d (.xd fs) := by
  funext b
  by_cases hd : b = d
  · rw [hd, upd_same, upd_same]
  · rw [upd_ne hd, upd_ne hd]
    by_cases ha : b = a
    · rw [ha, del_same, na]
    · rw [del_ne ha, upd_ne hd, upd_ne ha, upd_ne hd, upd_ne ha]
theorem pmk_err2 {X : Cx} {x f g : Str} {C : Addr} {e e2 : Expr} {te tu : TE} {p pos : Pos} (T : Err2 X.prog X.w X.K X.mg X.base x C f g) (hr : Room 2 X.A) (hg : Gl X x) (he : PE X e te) (he2 : PE X e2 tu) (d1 : (x == ("__debug__" : Str)) = false := by decide)
    (d2 : starEach [e, e2] X.env = (false, eval e X.env) :: starEach [e2] X.env := by rfl) (d4 : starEach [e2] X.env = (false, eval e2 X.env) :: starEach [] X.env := by rfl) (d3 : (backTo pos (starEach [e2] X.env)).any (·.1) = false := by rfl) : PMk X (.Call (.Name x p) [e, e2] [] pos) (tErr2 C f g te tu) := by
  obtain ⟨fI, fd, ps, h1, h2, h3, h4⟩ := T.ini
  intro pins s σ H Q I h
  refine pmk_oex T.oex h1 h2 h4 hr h3 .nil (fun _ _ _ _ _ _ _ z => z.elim) hg T.gm (pa_cons (pe_mono he) (pa_cons (pe_mono he2) pa_nil d4) d2) d1 d2 d3 pins s σ H Q I ?_
  refine ⟨_, h, fun v H1 k => ⟨_, k, fun u H2 k2 => ⟨by show 2 ≤ 1000; decide, fun a na => ⟨a, v, u, rfl, upd_same, fun dx nd ne => ⟨rfl, dx, [(g, u), (f, v)], ?_, upd_same, ?_, ?_⟩⟩⟩⟩⟩
  · rw [upd_ne ne.symm, upd_same]
  · rw [upd_ne ne] at nd
    exact nd
  · rw [upd_ne ne] at nd
    rw [del_put2 na ne]
    exact k2 dx nd
/-- an error of two fields is E's -/
def err2At (E : XK) (C : Addr) (f g : Str) (v u : V) (H : Hp) : Prop := ∀ d, H d = none → E (.ref C) (some d) (upd H d (.xd [(g, u), (f, v)]))
structure MakX (P : Program) (w : World) (K : PySem.W.Frag) (mg : Str → Option Value) (base : Heap) (x : Str) (k : Nat) (C f : Addr) (fd : FuncData) (ps : List Str) (sp : Sp) : Prop where
  M : Mk K C f
  F : FnOk P w K mg base (L2.CX P w) k f fd ps sp
  mgf : mg x = some (.ref C)
  b : Binds K fd ps []
section
variable {X : Cx} {k : Nat} {f C : Addr} {fd : FuncData} {ps ks : List Str} {sp : Sp} {x : Str} {p pos : Pos} {e : Expr} {es : List Expr} {t tk : TA} {kws : List Keyword} {E : XK}
theorem pe_makeE (c : MakX X.prog X.w X.K X.mg X.base x k C f fd ps sp) (r : Room (k + 1) X.A) (tk : Takes X (fun cls d _ H => E cls d H)) (hg : Gl X x) (ha : PA X (e :: es) t) (d1 : (x == ("__debug__" : Str)) = false := by decide)
    (d2 : starEach (e :: es) X.env = (false, eval e X.env) :: starEach es X.env := by rfl) (d3 : (backTo pos (starEach es X.env)).any (·.1) = false := by rfl) : PE X (.Call (.Name x p) (e :: es) [] pos) (tMake C sp [] E t) :=
  pe_make c.M c.F r hg c.mgf c.b .nil (fun pins σ H s e s' I z => passAt tk σ pins H s e s' I z) ha d1 d2 d3
theorem pe_makeX (c : MakX X.prog X.w X.K X.mg X.base x k C f fd ps sp) (r : Room (k + 1) X.A) (hg : Gl X x) (ha : PA X (e :: es) t) (d1 : (x == ("__debug__" : Str)) = false := by decide)
    (d2 : starEach (e :: es) X.env = (false, eval e X.env) :: starEach es X.env := by rfl) (d3 : (backTo pos (starEach es X.env)).any (·.1) = false := by rfl) : PE X (.Call (.Name x p) (e :: es) [] pos) (tMake C sp [] E0 t) :=
  pe_make c.M c.F r hg c.mgf c.b .nil (fun pins σ H s e s' I z => pass0X pins H s e s' I z (σ := σ)) ha d1 d2 d3
end
section
variable {K : PySem.W.Frag} {σ : L2.St} {H : Hp} {Q : VK} {QX : XK} {D : Ends} {te tu ta tv : TE} {C : Addr} {f g : Str} {sp : Sp} {t : TA} {E : XK} {dvs : List V} {tc : TT} {tb : TS}
theorem r_err2 (h : te σ H fun v H1 => tu σ H1 fun u H2 => ∀ d, H2 d = none → QX (.ref C) (some d) (upd H2 d (.xd [(g, u), (f, v)]))) : tErr2 C f g te tu σ H QX := h
theorem r_make (h : t σ H fun vs H1 => ∀ x dx, H1 x = none → H1 dx = none → dx ≠ x → sp (.ref x :: (vs ++ dvs)) (upd (upd H1 dx (.own x)) x (.ins C dx [])) (fun v H2 => v = .non ∧ Q (.ref x) H2) E) : tMake C sp dvs E t σ H Q := h
theorem r_fld (h : ta σ H fun x H1 => ∃ a C dx fs v, x = .ref a ∧ H1 a = some (.ins C dx fs) ∧ Cls K C ∧ NoAttr K C f ∧ fs.lookup f = some v ∧ Q v H1) : tFld K ta f σ H Q := h
theorem r_sfld (h : tv σ H fun y H1 => ta σ H1 fun x H2 => ∃ a C dx fs, x = .ref a ∧ H2 a = some (.ins C dx fs) ∧ Cls K C ∧ NoAttr K C f ∧ fs.length < 1000 ∧ D.nx σ (upd H2 a (.ins C dx (putF f y fs)))) : sFld K ta tv f D σ H := h
theorem r_lrg {tr : L2.St → Hp → (Int → Int → Hp → Prop) → Prop} (h : tr σ H fun a b H1 => RgOk a b ∧ ∀ q, H1 q = none → Q (.ref q) (upd H1 q (.lst (rgV a b)))) : tLstRg tr σ H Q := h
theorem r_rg1 {R : Int → Int → Hp → Prop} (h : ta σ H fun x H1 => ∃ n, x = .int n ∧ R 0 n H1) : tRg1 ta σ H R := h
theorem r_rg2 {R : Int → Int → Hp → Prop} (h : ta σ H fun x H1 => tv σ H1 fun y H2 => ∃ i j, x = .int i ∧ y = .int j ∧ R i j H2) : tRg2 ta tv σ H R := h
theorem r_bm {T : String} {r : V → List V → Hp → VK → Prop} {to : TE} {t : TA} (h : to σ H fun x H1 => tyV K T x H1 ∧ t σ H1 fun xs H2 => r x xs H2 Q) : tBM K T r to t σ H Q := h
theorem ty_lst {p : Addr} {xs : List V} (e : H p = some (.lst xs)) : tyV K "list" (.ref p) H := .inl ⟨rfl, xs, SqL.of e⟩
theorem r_append {p : Addr} {xs : List V} {y : V} (e : H p = some (.lst xs)) (l : xs.length < sizeLine) (h : Q .non (upd H p (.lst (xs ++ [y])))) : rAppend (.ref p) [y] H Q := ⟨p, xs, y, rfl, rfl, e, l, h⟩
theorem r_cat {l b p : Addr} {xs zs : List V} (e : H l = some (.lst xs)) (e2 : H b = some (.lst zs)) (z : xs.length + zs.length ≤ sizeLine) (h : ∀ p, H p = none → Q (.ref p) (upd H p (.lst (xs ++ zs)))) : rCat (.ref l) (.ref b) H Q := ⟨l, b, xs, zs, rfl, rfl, e, e2, z, h⟩
theorem r_while (h : ∃ W : Nat → L2.St → Hp → Prop, (∃ m, W m σ H) ∧ ∀ m σ H, W m σ H → tc σ H fun b H1 => if b = true then ∃ N : L2.St → Hp → Prop, (∀ σ' H', N σ' H' → ∃ m', m' < m ∧ W m' σ' H') ∧ tb { D with nx := N, ct := N, bk := D.nx } σ H1 else D.nx σ H1) : tWhile tc tb D σ H := h
end
end Rp
local macro_rules | `(tactic| walk_at "re") => `(tactic| with_reducible first
  | refine Rp.r_op ?_ | refine Rp.r_test ?_ | refine Rp.r_if ?_ | refine Rp.r_asg ?_ | refine Rp.r_ret ?_
  | refine Rp.r_cb ?_ | refine Rp.r_cons ?_ | refine Rp.r_nil ?_ | refine Rp.r_c ?_ | refine Rp.r_gname ?_ | refine Rp.r_gsub ?_ | refine Rp.r_next ?_ | refine Rp.r_drop ?_
  | refine Rp.r_I0 ?_ | refine Rp.r_tb ?_ | refine Rp.r_not ?_ | refine Rp.r_and ?_ | refine Rp.r_or ?_ | refine Rp.r_sl ?_ | refine Rp.r_pnone ?_ | refine Rp.r_pint ?_
  | refine Rp.r_lst ?_ | refine Rp.r_tup ?_ | refine Rp.r_lc ?_ | refine Rp.r_ilist ?_ | refine Rp.r_itup ?_ | refine Rp.r_irng1 ?_ | refine Rp.r_irng2 ?_ | refine Rp.r_for ?_ | refine Rp.r_par ?_ | refine Rp.r_go ?_ | refine Rp.r_kw ?_ | refine Rp.r_disp ?_ | refine Rp.r_pair ?_ | refine Rp.r_pair0 ?_ | refine Rp.r_chain ?_ | refine Rp.r_U ?_ | refine Rp.r_gtup ?_ | refine Rp.r_un ?_ | refine Rp.r_ifx ?_ | refine Rp.r_bl ?_ | refine Rp.r_andV ?_ | refine Rp.r_orV ?_ | refine Rp.r_notV ?_ | refine Rp.r_call ?_ | refine Rp.r_yes ?_ | refine Rp.r_true ?_ | refine Rp.r_false ?_ | refine Rp.r_truen ?_ | refine Rp.r_falsen ?_ | refine Rp.r_goE ?_ | refine Rp.r_err ?_ | refine Rp.r_izipA ?_ | refine Rp.r_izip ?_ | refine Rp.r_lam ?_ | refine Rp.r_xt ?_ | refine Rp.r_err2 ?_ | refine Rp.r_make ?_ | refine Rp.r_fld ?_ | refine Rp.r_sfld ?_ | refine Rp.r_lrg ?_ | refine Rp.r_rg1 ?_ | refine Rp.r_rg2 ?_ | refine Rp.r_while ?_ | refine Rp.r_eqS ?_ | refine Rp.r_bm ?_ | refine Rp.r_izipB ?_ | refine Rp.r_makeK ?_ | refine Rp.r_ienumT ?_ | refine Rp.r_irevA ?_ | refine Rp.r_iitems ?_ | refine Rp.r_dget ?_ | refine Rp.r_revL ?_ | refine Rp.r_callBK ?_)
local macro_rules | `(tactic| walk_at "ex") => `(tactic| with_reducible first | refine Rp.r_op ?_ | refine Rp.r_test ?_ | refine Rp.r_cb ?_ | refine Rp.r_cons ?_ | refine Rp.r_nil ?_ | refine Rp.r_c ?_ | refine Rp.r_gname ?_ | refine Rp.r_gsub ?_ | refine Rp.r_I0 ?_ | refine Rp.r_tb ?_ | refine Rp.r_not ?_ | refine Rp.r_and ?_ | refine Rp.r_or ?_ | refine Rp.r_sl ?_ | refine Rp.r_pnone ?_ | refine Rp.r_pint ?_ | refine Rp.r_lst ?_ | refine Rp.r_tup ?_ | refine Rp.r_lc ?_ | refine Rp.r_ilist ?_ | refine Rp.r_itup ?_ | refine Rp.r_irng1 ?_ | refine Rp.r_irng2 ?_ | refine Rp.r_go ?_ | refine Rp.r_kw ?_ | refine Rp.r_disp ?_ | refine Rp.r_pair ?_ | refine Rp.r_pair0 ?_ | refine Rp.r_chain ?_ | refine Rp.r_U ?_ | refine Rp.r_gtup ?_ | refine Rp.r_un ?_ | refine Rp.r_ifx ?_ | refine Rp.r_bl ?_ | refine Rp.r_andV ?_ | refine Rp.r_orV ?_ | refine Rp.r_notV ?_ | refine Rp.r_call ?_ | refine Rp.r_yes ?_ | refine Rp.r_true ?_ | refine Rp.r_false ?_ | refine Rp.r_truen ?_ | refine Rp.r_falsen ?_ | refine Rp.r_goE ?_ | refine Rp.r_err ?_ | refine Rp.r_izipA ?_ | refine Rp.r_izip ?_ | refine Rp.r_lam ?_ | refine Rp.r_xt ?_ | refine Rp.r_err2 ?_ | refine Rp.r_make ?_ | refine Rp.r_fld ?_ | refine Rp.r_sfld ?_ | refine Rp.r_lrg ?_ | refine Rp.r_rg1 ?_ | refine Rp.r_rg2 ?_ | refine Rp.r_while ?_ | refine Rp.r_eqS ?_ | refine Rp.r_bm ?_ | refine Rp.r_izipB ?_ | refine Rp.r_makeK ?_ | refine Rp.r_ienumT ?_ | refine Rp.r_irevA ?_ | refine Rp.r_iitems ?_ | refine Rp.r_dget ?_ | refine Rp.r_revL ?_ | refine Rp.r_callBK ?_)
local macro_rules | `(tactic| walk_at "v") => `(tactic| ((with_reducible refine Rp.r_varE ?_); refine ⟨_, rfl, ?_⟩))
local macro_rules | `(tactic| walk_at "rex") => `(tactic| repeat (first | walk_at "ex" | walk_at "v"))
local macro_rules | `(tactic| walk_at "rd") => `(tactic| first | with_reducible refine Rp.r_seq ?_ | walk_at "re")
local macro_rules | `(tactic| walk_at "res") => `(tactic| repeat (first | walk_at "re" | walk_at "v"))
local macro_rules | `(tactic| walk_at "rds") => `(tactic| repeat (first | walk_at "rd" | walk_at "v"))
local macro_rules | `(tactic| walk_at "T") => `(tactic| (walk_at "rds"; refine L2.iteT ?_; walk_at "rds"))
local macro_rules | `(tactic| walk_at "F") => `(tactic| (walk_at "rds"; refine L2.iteF ?_; walk_at "rds"))
namespace K27
open PySem PySem.Spec PyProof.Rows L2 Rp LamX RZ
def top (i : Nat) : Stmt := PySem.Challenge.pw_ropesays_k27_deeds_that_do_not_fit.main.body.getD i (.Pass ⟨0, 0, 0, 0⟩)
def clsBody (i : Nat) : List Stmt := match top i with | .ClassDef (body := b) .. => b | _ => []
structure Ad where
  k_MOST_DEEDS : Tok
  k_MOST_ENDS : Tok
  k_MOST_AT_RIM : Tok
  t_WORDS : Addr
  c_RopeError : Addr
  c_BadTangle : Addr
  c_Misfit : Addr
  c_TooMany : Addr
  c_BadText : Addr
  c_Items : Addr
  c_Tangle : Addr
structure Txt (K : PySem.W.Frag) (mg : Str → Option Value) (ad : Ad) : Prop where
  g_MOST_DEEDS : mg "MOST_DEEDS" = some (.int 4000 ad.k_MOST_DEEDS)
  g_MOST_ENDS : mg "MOST_ENDS" = some (.int 24 ad.k_MOST_ENDS)
  g_MOST_AT_RIM : mg "MOST_AT_RIM" = some (.int 16 ad.k_MOST_AT_RIM)
  g_WORDS : mg "WORDS" = some (.ref ad.t_WORDS)
  o_WORDS : ∀ {H : Hp}, SqT K H ad.t_WORDS [.str "over", .str "under", .str "join", .str "open", .str "turn"]
  g_RopeError : mg "RopeError" = some (.ref ad.c_RopeError)
  g_BadTangle : mg "BadTangle" = some (.ref ad.c_BadTangle)
  g_Misfit : mg "Misfit" = some (.ref ad.c_Misfit)
  g_TooMany : mg "TooMany" = some (.ref ad.c_TooMany)
  g_BadText : mg "BadText" = some (.ref ad.c_BadText)
  g_Items : mg "Items" = some (.ref ad.c_Items)
  g_Tangle : mg "Tangle" = some (.ref ad.c_Tangle)
  z_abs : mg "abs" = none
  z_all : mg "all" = none
  z_bool : mg "bool" = none
  z_int : mg "int" = none
  z_isinstance : mg "isinstance" = none
  z_len : mg "len" = none
  z_list : mg "list" = none
  z_max : mg "max" = none
  z_min : mg "min" = none
  z_range : mg "range" = none
  z_repr : mg "repr" = none
  z_str : mg "str" = none
  z_tuple : mg "tuple" = none

def spIsDeed : Sp := fun vs H Q _ => ∃ (q t : Addr) (w : Str) (g : Int), vs = [.ref t] ∧ t ≠ q ∧ H t = some (.tup [.str w, .int g]) ∧ w ∈ W5 ∧ ∀ H', Same H H' → Q (.bl (inB (.int g) (some 0) (some 23))) H'
def spAreDeeds : Sp := fun vs H Q _ => ∃ (q a : Addr) (us : List V) (ds : Dl), vs = [.ref a] ∧ H a = some (.lst us) ∧ a ≠ q ∧ DsV q H us ds ∧ Typ 24 ds ∧ ds.length ≤ 4000 ∧ ∀ H', Same H H' → Q (.bl (gapsOk ds)) H'
def spFitting : Sp := fun vs H Q _ => ∃ (w : Str) (m : Int), vs = [.str w, .int m] ∧ 0 ≤ m ∧ m ≤ 24 ∧ ∀ H' p, Same H H' → H' p = some (.lst (rgV (gLo w m) (gHi w m))) → Q (.ref p) H'
def spBehind : Sp := fun vs H Q _ => ∃ (w : Str) (m : Int), vs = [.str w, .int m] ∧ Q (.int (behind w m)) H
def spDemFit (CM CT : Addr) : Sp := fun vs H Q E => ∃ (q a : Addr) (us : List V) (ds : Dl) (m : Int), vs = [.ref a, .int m, .int 0] ∧ H a = some (.lst us) ∧ DsV q H us ds ∧ 0 ≤ m ∧ m ≤ 24 ∧ m % 2 = 0 ∧ ∀ H', Same H H' →
  (demF ds m = none → Q .non H') ∧ (demF ds m = some false → errAt E CM "part" (.str "deeds") H') ∧ (demF ds m = some true → err2At E CT "what" "most" (.str "ends") (.int 24) H')

section
variable {P : Program} {w : World} {K : PySem.W.Frag} {mg : Str → Option Value} {base : Heap} {ad : Ad}
abbrev sIsInteger : Stmt := top 1
theorem scIsInteger : FnScope ["value"] ["value"] (defScope sIsInteger) := ⟨rfl, rfl, rfl, by decide +kernel, rfl, by decide +kernel, by decide +kernel⟩
theorem ok_IsInteger {f : Addr} {fd : FuncData} (F : Fun K "is_integer" "is_integer" sIsInteger f fd) (T : Txt K mg ad)   : FnOk P w K mg base (L2.CX P w) 1 f fd ["value"] spIsInt := by
  refine fnx F scIsInteger (fun {vs H Q E} h => ?_) (fun {cdv A fr s H vs Q E} hr h => ?_)
  · obtain ⟨q, v, rfl, ha, k⟩ := h
    rfl
  · obtain ⟨q, v, rfl, ha, k⟩ := h
    refine ⟨_, (PSs.nox (pss_one (ps_ret (pe_and (pe_callB call_isi (by rfl) T.z_isinstance (by decide +kernel) (pa_cons (pv 0) (pa_cons (pe_bltn (by rfl) T.z_int (by decide +kernel) (v := .ty "int") rfl) pa_nil))) (pe_one (pe_not (pe_callB call_isi (by rfl) T.z_isinstance (by decide +kernel) (pa_cons (pv 0) (pa_cons (pe_bltn (by rfl) T.z_bool (by decide +kernel) (v := .ty "bool") rfl) pa_nil))))))))), ?_⟩
    refine r_start (l := [some (v)]) rfl ?_
    walk_at "rds"
    obtain ⟨t, ty, kt⟩ := any_int (K := K) ha
    refine r_isi ty kt ?_
    walk_at "rds"
    have e0 := isI_eq v
    cases e : isIB v
    · walk_at "rds"
      rw [e] at e0
      rw [← e0] at k
      exact k
    · walk_at "rds"
      obtain ⟨t, ty, kt⟩ := any_bool (K := K) ha
      refine r_isi ty kt ?_
      walk_at "rds"
      rw [e, Bool.true_and] at e0
      rw [e0]
      exact k
abbrev sIsWithin : Stmt := top 2
theorem scIsWithin : FnScope ["value", "least", "most"] ["value", "least", "most"] (defScope sIsWithin) := ⟨rfl, rfl, rfl, by decide +kernel, rfl, by decide +kernel, by decide +kernel⟩
theorem ok_IsWithin {f : Addr} {fd : FuncData} (F : Fun K "is_within" "is_within" sIsWithin f fd) (T : Txt K mg ad)  {f0 : Addr} {fd0 : FuncData} (cIsInteger : CalX P w K mg base "is_integer" 1 f0 fd0 ["value"] spIsInt) : FnOk P w K mg base (L2.CX P w) 2 f fd ["value", "least", "most"] spWithin := by
  refine fnx F scIsWithin (fun {vs H Q E} h => ?_) (fun {cdv A fr s H vs Q E} hr h => ?_)
  · obtain ⟨q, v, lo, hi, rfl, ha, k⟩ := h
    rfl
  · obtain ⟨q, v, lo, hi, rfl, ha, k⟩ := h
    refine ⟨_, (PSs.nox (pss_cons (ps_if (pt_not (pt_val (pe_goX cIsInteger (hr.mono (by decide)) (by rfl) (pa_cons (pv 0) pa_nil))))
  (pss_one (ps_ret pe_bl))
  pss_nil)
  (pss_one (ps_ret (pe_and (pe_or (pe_cmpR op_isN (pv 1) pe_non (nomark _)) (pe_one (pe_cmpR op_le (pv 1) (pv 0) (nomark _)))) (pe_one (pe_or (pe_cmpR op_isN (pv 2) pe_non (nomark _)) (pe_one (pe_cmpR op_le (pv 0) (pv 2) (nomark _)))))))))), ?_⟩
    refine r_start (l := [some (v), some (oV lo), some (oV hi)]) rfl ?_
    walk_at "rds"
    refine ⟨q, v, rfl, ha, ?_⟩
    walk_at "rds"
    cases v with
    | int i =>
      walk_at "F"
      refine ⟨rfl, ?_⟩
      cases lo with
      | none =>
        walk_at "rds"
        walk_at "T"
        refine ⟨rfl, ?_⟩
        cases hi with
        | none => walk_at "rds"; walk_at "T"; exact k
        | some u => walk_at "rds"; walk_at "F"; exact k
      | some l =>
        walk_at "rds"
        walk_at "F"
        have k' : Q (.bl (decide (l ≤ i) && inB (.int i) none hi)) H := by
          have e : inB (.int i) (some l) hi = (decide (l ≤ i) && inB (.int i) none hi) := by simp [inB]
          rw [← e]
          exact k
        revert k'
        cases decide (l ≤ i) with
        | false =>
          intro k'
          walk_at "rds"
          exact k'
        | true =>
          intro k'
          rw [Bool.true_and] at k'
          walk_at "rds"
          refine ⟨rfl, ?_⟩
          cases hi with
          | none => walk_at "rds"; walk_at "T"; exact k'
          | some u => walk_at "rds"; walk_at "F"; exact k'
    | non => walk_at "T"; exact k
    | bl b => walk_at "T"; exact k
    | str x => walk_at "T"; exact k
    | byt x => walk_at "T"; exact k
    | flt x => walk_at "T"; exact k
    | ref a => walk_at "T"; exact k
    | ty n => walk_at "T"; exact k
abbrev sIsDeed : Stmt := top 20
theorem scIsDeed : FnScope ["value"] ["value"] (defScope sIsDeed) := ⟨rfl, rfl, rfl, by decide +kernel, rfl, by decide +kernel, by decide +kernel⟩
theorem ok_IsDeed {f : Addr} {fd : FuncData} (F : Fun K "_is_deed" "_is_deed" sIsDeed f fd) (T : Txt K mg ad)  {f0 : Addr} {fd0 : FuncData} (cIsWithin : CalX P w K mg base "is_within" 2 f0 fd0 ["value", "least", "most"] spWithin) : FnOk P w K mg base (L2.CX P w) 3 f fd ["value"] spIsDeed := by
  refine fnx F scIsDeed (fun {vs H Q E} h => ?_) (fun {cdv A fr s H vs Q E} hr h => ?_)
  · obtain ⟨q, t, w, g, rfl, nq, e, hw, k⟩ := h
    rfl
  · obtain ⟨q, t, w, g, rfl, nq, e, hw, k⟩ := h
    refine ⟨_, (PSs.nox (pss_cons (ps_if (PW.pt (pw_or (pt_not (pt_val (pe_callB call_isiT (by rfl) T.z_isinstance (by decide +kernel) (pa_cons (pv 0) (pa_cons (pe_tup (pa_cons (pe_bltn (by rfl) T.z_list (by decide +kernel) (v := .ty "list") rfl) (pa_cons (pe_bltn (by rfl) T.z_tuple (by decide +kernel) (v := .ty "tuple") rfl) pa_nil))) pa_nil))))) (pw_or1 (pt_cmpR op_ne (pe_callB call_len_seq (by rfl) T.z_len PySem.boot_len (pa_cons (pv 0) pa_nil)) pe_int (nomark _)))))
  (pss_one (ps_ret pe_bl))
  pss_nil)
  (pss_one (ps_ret (pe_and (pe_callB call_isi (by rfl) T.z_isinstance (by decide +kernel) (pa_cons (pe_ix ix_tup (pv 0) pe_int (fun _ _ => rfl)) (pa_cons (pe_bltn (by rfl) T.z_str (by decide +kernel) (v := .ty "str") rfl) pa_nil))) (pe_and (pe_cmpR op_in_seq (pe_ix ix_tup (pv 0) pe_int (fun _ _ => rfl)) (pe_glob (v := .ref ad.t_WORDS) (by rfl) T.g_WORDS rfl) rfl) (pe_one (pe_goX cIsWithin (hr.mono (by decide)) (by rfl) (pa_cons (pe_ix ix_tup (pv 0) pe_int (fun _ _ => rfl)) (pa_cons pe_int (pa_cons (pe_op op_sub (pe_glob (v := .int 24) (by rfl) T.g_MOST_ENDS ⟨_, rfl⟩) pe_int) pa_nil))))))))))), ?_⟩
    refine r_start (l := [some (.ref t)]) rfl ?_
    walk_at "rds"
    refine ⟨len_ok rfl, fun p hp => ?_⟩
    have s1 : Same H (upd H p (.tup [.ty "list", .ty "tuple"])) := same_neu (Same.refl H) hp
    have ep : upd H p (.tup [.ty "list", .ty "tuple"]) p = some (.tup [.ty "list", .ty "tuple"]) := upd_same
    generalize upd H p _ = H1 at s1 ep
    have e1 := s1 _ _ e
    walk_at "rds"
    refine r_isiT ep (.base (.tup e1)) (kit2 (x := false) (y := true) (by decide +kernel) (by decide +kernel)) ?_
    walk_at "F"
    refine ⟨_, _, rfl, .inr (SqT.of e1), ?_⟩
    walk_at "rds"
    refine ⟨rfl, ?_⟩
    walk_at "F"
    refine r_ixT (SqT.of e1) at20 ?_
    walk_at "rds"
    refine r_isi (.base (.str w)) (kit_ty (r := true) (by decide +kernel)) ?_
    walk_at "rds"
    refine r_ixT (SqT.of e1) at20 ?_
    walk_at "rds"
    refine r_in (.inr T.o_WORDS) rfl rfl ?_
    rw [in_W5 hw]
    walk_at "rds"
    refine r_ixT (SqT.of e1) at21 ?_
    walk_at "rds"
    exact ⟨q, .int g, some 0, some 23, rfl, .num g, k _ s1⟩
abbrev sAreDeeds : Stmt := top 19
theorem scAreDeeds : FnScope ["value", "each"] ["value"] (defScope sAreDeeds) := ⟨rfl, rfl, rfl, by decide +kernel, rfl, by decide +kernel, by decide +kernel⟩
theorem ok_AreDeeds {f : Addr} {fd : FuncData} (F : Fun K "are_deeds" "are_deeds" sAreDeeds f fd) (T : Txt K mg ad)  {f0 : Addr} {fd0 : FuncData} (cIsDeed : CalX P w K mg base "_is_deed" 3 f0 fd0 ["value"] spIsDeed) : FnOk P w K mg base (L2.CX P w) 4 f fd ["value"] spAreDeeds := by
  refine fnx F scAreDeeds (fun {vs H Q E} h => ?_) (fun {cdv A fr s H vs Q E} hr h => ?_)
  · obtain ⟨q, a, us, ds, rfl, ha, na, hds, ht, hl, k⟩ := h
    rfl
  · obtain ⟨q, a, us, ds, rfl, ha, na, hds, ht, hl, k⟩ := h
    refine ⟨_, (PSs.nox (pss_cons (ps_if (PW.pt (pw_or (pt_not (pt_val (pe_callB call_isiT (by rfl) T.z_isinstance (by decide +kernel) (pa_cons (pv 0) (pa_cons (pe_tup (pa_cons (pe_bltn (by rfl) T.z_list (by decide +kernel) (v := .ty "list") rfl) (pa_cons (pe_bltn (by rfl) T.z_tuple (by decide +kernel) (v := .ty "tuple") rfl) pa_nil))) pa_nil))))) (pw_or1 (pt_cmpR op_gt (pe_callB call_len_seq (by rfl) T.z_len PySem.boot_len (pa_cons (pv 0) pa_nil)) (pe_glob (v := .int 4000) (by rfl) T.g_MOST_DEEDS ⟨_, rfl⟩) (nomark _)))))
  (pss_one (ps_ret pe_bl))
  pss_nil)
  (pss_one (ps_ret (pe_callB (cr_all rfl) (by rfl) T.z_all (by decide +kernel) (pa_cons (pe_lc (own := [("each", 1)]) (g := gName 1) (tt := tYes) rfl scAreDeeds.nd (pi_list (pv 0)) (blkOk_by (own := [("each", 1)]) (N := ["value", "each"]) (sc := defScope sAreDeeds) (by decide +kernel)) (fun _ _ _ _ _ => (pg_name (i := 1) scAreDeeds.nd rfl (Or.inl rfl))) (fun _ _ _ _ _ => pts_nil) (fun _ _ _ _ _ => (pe_goX cIsDeed (hr.mono (by decide)) (by rfl) (pa_cons (pv 1) pa_nil)))) pa_nil)))))), ?_⟩
    refine r_start (l := [some (.ref a), none]) rfl ?_
    walk_at "rds"
    refine ⟨len_ok rfl, fun p hp => ?_⟩
    have s1 : Same H (upd H p (.tup [.ty "list", .ty "tuple"])) := same_neu (Same.refl H) hp
    have ep : upd H p (.tup [.ty "list", .ty "tuple"]) p = some (.tup [.ty "list", .ty "tuple"]) := upd_same
    generalize upd H p _ = H1 at s1 ep
    have e1 := s1 _ _ ha
    walk_at "rds"
    refine r_isiT ep (.base (.lst e1)) (kit2 (x := true) (y := false) (by decide +kernel) (by decide +kernel)) ?_
    walk_at "F"
    refine ⟨_, _, rfl, .inl (SqL.of e1), ?_⟩
    walk_at "rds"
    rw [decide_eq_false (show ¬ ((us.length : Int) > 4000) by rw [hds.len]; omega)]
    walk_at "rds"
    refine ⟨a, rfl, ⟨_, SqL.of e1⟩, fun D hD => ?_⟩
    have D0 : D ≠ a := (ne_of_none e1 hD).symm
    refine lc_list (K := K) (a := a) (xs := us) (fun i H' => H' D = some (.lst (((ds.take i).map fun d => inB (.int d.2) (some 0) (some 23)).map V.bl)) ∧ ∀ b o, b ≠ D → H1 b = some o → H' b = some o)
      ⟨upd_same, fun b o n e => by rw [upd_ne n]; exact e⟩ (fun i H' _ ⟨_, s2⟩ => SqL.of (s2 a _ D0.symm e1)) ?_ ?_
    · rintro i x H' hx ⟨hD', s2⟩
      obtain ⟨t, w, g, rfl, nt, et, ei⟩ := hds.at hx
      have et' := s2 t _ (ne_of_none (s1 _ _ et) hD) (s1 _ _ et)
      walk_at "rds"
      refine ⟨rfl, ?_⟩
      walk_at "rds"
      refine ⟨q, t, w, g, rfl, nt, et', (ht.at ei).1, fun H2 sH => ?_⟩
      refine ⟨_, sH _ _ hD', ?_, ?_, fun b o nb eb => by rw [upd_ne nb]; exact sH _ _ (s2 b o nb eb)⟩
      · rw [List.length_map, List.length_map, List.length_take]
        refine Nat.lt_of_le_of_lt (Nat.min_le_right _ _) (Nat.lt_of_le_of_lt hl ?_)
        exact lt_ok rfl
      · rw [upd_same, List.take_succ, ei, Option.toList_some, List.map_append, List.map_append]
        rfl
    · rintro H' ⟨hD', s2⟩
      rw [List.take_of_length_le (by rw [hds.len]; exact Nat.le_refl _)] at hD'
      walk_at "rds"
      refine ⟨D, _, rfl, SqL.of hD', ?_⟩
      have key : gapsOk ds = (ds.map fun d => inB (.int d.2) (some 0) (some 23)).all id := by
        rw [List.all_map]
        rfl
      rw [← key]
      exact k _ fun b o eb => s2 b o (ne_of_none (s1 b o eb) hD) (s1 b o eb)
abbrev sFittingGaps : Stmt := top 21
theorem scFittingGaps : FnScope ["word", "many"] ["word", "many"] (defScope sFittingGaps) := ⟨rfl, rfl, rfl, by decide +kernel, rfl, by decide +kernel, by decide +kernel⟩
theorem ok_FittingGaps {f : Addr} {fd : FuncData} (F : Fun K "_fitting_gaps" "_fitting_gaps" sFittingGaps f fd) (T : Txt K mg ad)   : FnOk P w K mg base (L2.CX P w) 1 f fd ["word", "many"] spFitting := by
  refine fnx F scFittingGaps (fun {vs H Q E} h => ?_) (fun {cdv A fr s H vs Q E} hr h => ?_)
  · obtain ⟨w, m, rfl, h0, h24, k⟩ := h
    rfl
  · obtain ⟨w, m, rfl, h0, h24, k⟩ := h
    refine ⟨_, (PSs.nox (pss_cons (ps_if (pt_cmpR op_eq (pv 0) pe_str (nomark _))
  (pss_one (ps_ret (pe_listRg rfl (by rfl) T.z_list (prg_1 (by rfl) T.z_range (pe_callB (call_max2 rfl) (by rfl) T.z_max (by decide +kernel) (pa_cons (pv 1) (pa_cons pe_int pa_nil)))))))
  pss_nil)
  (pss_cons (ps_if (PW.pt (pw_and (pt_cmpR op_eq (pv 0) pe_str (nomark _)) (pw_and1 (pt_cmpR op_gt (pv 1) pe_int (nomark _)))))
  (pss_one (ps_ret (pe_listRg rfl (by rfl) T.z_list (prg_2 (by rfl) T.z_range pe_int (pe_callB (call_max2 rfl) (by rfl) T.z_max (by decide +kernel) (pa_cons (pe_op op_sub (pv 1) pe_int) (pa_cons pe_int pa_nil)))))))
  pss_nil)
  (pss_one (ps_ret (pe_listRg rfl (by rfl) T.z_list (prg_1 (by rfl) T.z_range (pv 1)))))))), ?_⟩
    refine r_start (l := [some (.str w), some (.int m)]) rfl ?_
    walk_at "rds"
    by_cases ho : w = "open"
    · subst ho
      walk_at "T"
      refine ⟨_, _, rfl, ?_⟩
      walk_at "rds"
      have h1 : 0 ≤ (if 1 > m then 1 else m) ∧ (if 1 > m then 1 else m) ≤ 24 := by split <;> omega
      refine ⟨_, rfl, RgOk.of_le (by decide) (by omega) (by decide) h1.1, fun p hp => ?_⟩
      exact k _ p (same_neu (Same.refl H) hp) upd_same
    · rw [decide_eq_false ho]
      walk_at "rds"
      walk_at "rds"
      by_cases hj : w = "join"
      · subst hj
        rw [decide_eq_true rfl]
        walk_at "rds"
        have lo : gLo "join" m = if 0 < m then 1 else 0 := rfl
        have hi : gHi "join" m = if 0 < m then (if 2 > m - 1 then 2 else m - 1) else m := rfl
        rw [lo, hi] at k
        by_cases hm : 0 < m
        · rw [decide_eq_true hm]
          rw [if_pos hm, if_pos hm] at k
          walk_at "rds"
          refine ⟨_, _, rfl, ?_⟩
          walk_at "rds"
          have h1 : 0 ≤ (if 2 > m - 1 then 2 else m - 1) ∧ (if 2 > m - 1 then 2 else m - 1) ≤ 24 := by split <;> omega
          refine ⟨_, _, rfl, rfl, RgOk.of_le (by decide) (by omega) (by decide) h1.1, fun p hp => ?_⟩
          exact k _ p (same_neu (Same.refl H) hp) upd_same
        · rw [decide_eq_false hm]
          rw [if_neg hm, if_neg hm] at k
          walk_at "rds"
          refine ⟨_, rfl, RgOk.of_le (by decide) (by omega) (by decide) h0, fun p hp => ?_⟩
          exact k _ p (same_neu (Same.refl H) hp) upd_same
      · rw [decide_eq_false hj]
        have lo : gLo w m = 0 := by unfold gLo; rw [if_neg ho, if_neg hj]
        have hi : gHi w m = m := by unfold gHi; rw [if_neg ho, if_neg hj]
        rw [lo, hi] at k
        walk_at "rds"
        refine ⟨_, rfl, RgOk.of_le (by decide) (by omega) (by decide) h0, fun p hp => ?_⟩
        exact k _ p (same_neu (Same.refl H) hp) upd_same
abbrev sEndsBehind : Stmt := top 22
theorem scEndsBehind : FnScope ["word", "many"] ["word", "many"] (defScope sEndsBehind) := ⟨rfl, rfl, rfl, by decide +kernel, rfl, by decide +kernel, by decide +kernel⟩
theorem ok_EndsBehind {f : Addr} {fd : FuncData} (F : Fun K "ends_behind" "ends_behind" sEndsBehind f fd) (T : Txt K mg ad)   : FnOk P w K mg base (L2.CX P w) 1 f fd ["word", "many"] spBehind := by
  refine fnx F scEndsBehind (fun {vs H Q E} h => ?_) (fun {cdv A fr s H vs Q E} hr h => ?_)
  · obtain ⟨w, m, rfl, k⟩ := h
    rfl
  · obtain ⟨w, m, rfl, k⟩ := h
    refine ⟨_, (PSs.nox (pss_cons (ps_if (pt_cmpR op_eq (pv 0) pe_str (nomark _))
  (pss_one (ps_ret (pe_op op_sub (pv 1) pe_int)))
  pss_nil)
  (pss_cons (ps_if (pt_cmpR op_eq (pv 0) pe_str (nomark _))
  (pss_one (ps_ret (pe_op op_add (pv 1) pe_int)))
  pss_nil)
  (pss_one (ps_ret (pv 1)))))), ?_⟩
    refine r_start (l := [some (.str w), some (.int m)]) rfl ?_
    walk_at "rds"
    by_cases hj : w = "join"
    · subst hj
      rw [decide_eq_true rfl]
      walk_at "rds"
      exact k
    · rw [decide_eq_false hj]
      walk_at "rds"
      have e : behind w m = if w = "open" then m + 2 else m := by unfold behind; rw [if_neg hj]
      rw [e] at k
      by_cases ho : w = "open"
      · rw [decide_eq_true ho]
        rw [if_pos ho] at k
        walk_at "rds"
        exact k
      · rw [decide_eq_false ho]
        rw [if_neg ho] at k
        walk_at "rds"
        exact k
abbrev sDemandFitting : Stmt := top 23
theorem scDemandFitting : FnScope ["deeds", "ends", "inner", "many", "word", "gap"] ["deeds", "ends", "inner"] (defScope sDemandFitting) := ⟨rfl, rfl, rfl, by decide +kernel, rfl, by decide +kernel, by decide +kernel⟩
theorem ok_DemandFitting {f : Addr} {fd : FuncData} (F : Fun K "demand_fitting" "demand_fitting" sDemandFitting f fd) (T : Txt K mg ad)  {f0 : Addr} {fd0 : FuncData} (cEndsBehind : CalX P w K mg base "ends_behind" 1 f0 fd0 ["word", "many"] spBehind) {f1 : Addr} {fd1 : FuncData} (cFittingGaps : CalX P w K mg base "_fitting_gaps" 1 f1 fd1 ["word", "many"] spFitting) (eMisfit : Err1 P w K mg base "Misfit" ad.c_Misfit "part") (eTooMany : Err2 P w K mg base "TooMany" ad.c_TooMany "what" "most") : FnOk P w K mg base (L2.CX P w) 3 f fd ["deeds", "ends", "inner"] (spDemFit ad.c_Misfit ad.c_TooMany) := by
  refine fnx F scDemandFitting (fun {vs H Q E} h => ?_) (fun {cdv A fr s H vs Q E} hr h => ?_)
  · obtain ⟨q, a, us, ds, m, rfl, ha, hds, h0, h24, h2, k⟩ := h
    rfl
  · obtain ⟨q, a, us, ds, m, rfl, ha, hds, h0, h24, h2, k⟩ := h
    refine ⟨_, (pss_cons (ps_set (i := 3) scDemandFitting.nd rfl (Or.inl rfl) (pv 1))
  (pss_cons (ps_for (passes_of rfl) rfl (pi_list (pv 0)) (pg_tup rfl (pgs_cons (pg_name (i := 4) scDemandFitting.nd rfl (Or.inl rfl)) (pgs_cons (pg_name (i := 5) scDemandFitting.nd rfl (Or.inl rfl)) pgs_nil)))
  (pss_cons (ps_if (pt_cmpR op_notIn_seq (pv 5) (pe_goX cFittingGaps (hr.mono (by decide)) (by rfl) (pa_cons (pv 4) (pa_cons (pv 3) pa_nil))) rfl)
  (pss_one (ps_raise rfl (takes_of rfl rfl rfl rfl) (pmk_err1 eMisfit (hr.mono (by decide)) (by rfl) pe_str)))
  pss_nil)
  (pss_cons (ps_set (i := 3) scDemandFitting.nd rfl (Or.inl rfl) (pe_goX cEndsBehind (hr.mono (by decide)) (by rfl) (pa_cons (pv 4) (pa_cons (pv 3) pa_nil))))
  (pss_one (ps_if (pt_cmpR op_gt (pv 3) (pe_glob (v := .int 24) (by rfl) T.g_MOST_ENDS ⟨_, rfl⟩) (nomark _))
  (pss_one (ps_raise rfl (takes_of rfl rfl rfl rfl) (pmk_err2 eTooMany (hr.mono (by decide)) (by rfl) pe_str (pe_glob (v := .int 24) (by rfl) T.g_MOST_ENDS ⟨_, rfl⟩))))
  pss_nil)))))
  (pss_one (ps_if (pt_cmpR op_ne (pv 3) (pv 2) (nomark _))
  (pss_one (ps_raise rfl (takes_of rfl rfl rfl rfl) (pmk_err1 eMisfit (hr.mono (by decide)) (by rfl) pe_str)))
  pss_nil)))), ?_⟩
    refine r_start (l := [some (.ref a), some (.int m), some (.int 0), none, none, none]) rfl ?_
    walk_at "rds"
    refine ⟨a, rfl, ⟨_, SqL.of ha⟩, ?_⟩
    refine for_list (K := K) (a := a) (xs := us) (fun i σ G => ∃ (n : Int) (x y : Option V), σ = [some (.ref a), some (.int m), some (.int 0), some (.int n), x, y] ∧ Same H G ∧ 0 ≤ n ∧ n ≤ 24 ∧ n % 2 = 0 ∧ demF ds m = demF (ds.drop i) n) ⟨m, none, none, rfl, Same.refl H, h0, h24, h2, rfl⟩ (fun i σ G _ ⟨_, _, _, _, sG, _⟩ => SqL.of (sG _ _ ha)) ?_ ?_
    · rintro i x σ G hx ⟨n, x0, y0, rfl, sG, n0, n24, n2, hn⟩
      obtain ⟨t, w, g, rfl, nt, et, ei⟩ := hds.at hx
      have hd : ds.drop i = (w, g) :: ds.drop (i + 1) := by
        obtain ⟨hi, e⟩ := List.getElem?_eq_some_iff.mp ei
        rw [List.drop_eq_getElem_cons hi, e]
      rw [hd] at hn
      refine r_gtup ⟨_, _, rfl, SqT.of (sG _ _ et), rfl, ?_⟩
      refine ⟨_, _, rfl, ?_⟩
      walk_at "rds"
      refine ⟨_, _, rfl, ?_⟩
      walk_at "rds"
      refine ⟨rfl, ?_⟩
      walk_at "rds"
      refine ⟨w, n, rfl, n0, n24, fun G1 p s1 ep => ?_⟩
      refine r_notIn (.inl (SqL.of ep)) rfl flat_rg ?_
      rw [inV_rg]
      have hf : (decide (gLo w n ≤ g) && decide (g < gHi w n)) = fitsG w n g := rfl
      rw [hf]
      have s2 := sG.trans s1
      cases ef : fitsG w n g with
      | false =>
        have hs : demF ds m = some false := by
          rw [hn]
          show (if fitsG w n g then _ else some false) = _
          rw [ef]
          rfl
        walk_at "rds"
        exact (k _ s2).2.1 hs
      | true =>
        have b0 := fits_ends n0 n2 ef
        have b2 := even_behind (w := w) n2
        have hs : demF ds m = if behind w n > 24 then some true else demF (ds.drop (i + 1)) (behind w n) := by
          rw [hn]
          show (if fitsG w n g then _ else some false) = _
          rw [ef]
          rfl
        walk_at "rds"
        refine ⟨w, n, rfl, ?_⟩
        walk_at "rds"
        by_cases hb : behind w n > 24
        · rw [decide_eq_true hb]
          rw [if_pos hb] at hs
          walk_at "rds"
          exact (k _ s2).2.2 hs
        · rw [decide_eq_false hb]
          rw [if_neg hb] at hs
          walk_at "rds"
          exact ⟨_, _, _, rfl, s2, b0, by omega, b2, hs⟩
    · rintro σ G ⟨n, x0, y0, rfl, sG, n0, n24, n2, hn⟩
      rw [List.drop_of_length_le (by rw [hds.len]; exact Nat.le_refl _)] at hn
      have kk := k _ sG
      walk_at "rds"
      by_cases e : n = 0
      · subst e
        refine ⟨rfl, ?_⟩
        rw [show decide (V.int 0 = V.int 0) = true from rfl]
        walk_at "rds"
        exact kk.1 hn
      · refine ⟨rfl, ?_⟩
        rw [decide_eq_false (fun z => e (V.int.inj z))]
        walk_at "rds"
        exact kk.2.1 (by rw [hn]; show (if n = 0 then none else some false) = _; rw [if_neg e])
end
end K27
namespace K27
open PySem PySem.Spec PyProof.Rows L2 Rp LamX RZ

/-- the deeds that a Tangle keeps, its ends -/
def TanO (ends : Int) (p : Addr) : List (Str × V) := [("ends", .int ends), ("deeds", .ref p)]
def spTangle (C CB CM CT : Addr) : Sp := fun vs H Q E => ∃ (q x dx a : Addr) (us : List V) (ds : Dl) (m : Int), vs = [.ref x, .int m, .ref a] ∧ H x = some (.ins C dx []) ∧ H a = some (.lst us) ∧ a ≠ q ∧ DsV q H us ds ∧ Typ 24 ds ∧ ds.length ≤ 4000 ∧ 0 ≤ m ∧ m ≤ 16 ∧ m % 2 = 0 ∧
  (∀ H', Same H H' → gapsOk ds = false → errAt E CB "part" (.str "deeds") H') ∧
  (∀ H', Same H H' → gapsOk ds = true → demF ds m = some false → errAt E CM "part" (.str "deeds") H') ∧
  (∀ H', Same H H' → gapsOk ds = true → demF ds m = some true → err2At E CT "what" "most" (.str "ends") (.int 24) H') ∧
  (∀ H' p ts, But x H H' → gapsOk ds = true → demF ds m = none → H' x = some (.ins C dx (TanO m p)) → H' p = some (.tup ts) → DsV q H' ts ds → Q .non H')

section
variable {P : Program} {w : World} {K : PySem.W.Frag} {mg : Str → Option Value} {base : Heap} {ad : Ad}
abbrev sTangleInit : Stmt := (clsBody 29).getD 0 (.Pass ⟨0, 0, 0, 0⟩)
theorem scTangleInit : FnScope ["self", "ends", "deeds", "deed"] ["self", "ends", "deeds"] (defScope sTangleInit) := ⟨rfl, rfl, rfl, by decide +kernel, rfl, by decide +kernel, by decide +kernel⟩
theorem ok_TangleInit {f : Addr} {fd : FuncData} (F : Fun K "__init__" "Tangle.__init__" sTangleInit f fd) (T : Txt K mg ad) (TC : Cls K ad.c_Tangle) (TN1 : NoAttr K ad.c_Tangle "ends") (TN2 : NoAttr K ad.c_Tangle "deeds") {f0 : Addr} {fd0 : FuncData} (cDemandFitting : CalX P w K mg base "demand_fitting" 3 f0 fd0 ["deeds", "ends", "inner"] (spDemFit ad.c_Misfit ad.c_TooMany)) {f1 : Addr} {fd1 : FuncData} (cAreDeeds : CalX P w K mg base "are_deeds" 4 f1 fd1 ["value"] spAreDeeds) {f2 : Addr} {fd2 : FuncData} (cIsWithin : CalX P w K mg base "is_within" 2 f2 fd2 ["value", "least", "most"] spWithin) (eBadTangle : Err1 P w K mg base "BadTangle" ad.c_BadTangle "part") : FnOk P w K mg base (L2.CX P w) 5 f fd ["self", "ends", "deeds"] (spTangle ad.c_Tangle ad.c_BadTangle ad.c_Misfit ad.c_TooMany) := by
  refine fnx F scTangleInit (fun {vs H Q E} h => ?_) (fun {cdv A fr s H vs Q E} hr h => ?_)
  · obtain ⟨q, x, dx, a, us, ds, m, rfl, hx, ha, na, hds, ht, hl, h0, h16, h2, k1, k2, k3, k4⟩ := h
    rfl
  · obtain ⟨q, x, dx, a, us, ds, m, rfl, hx, ha, na, hds, ht, hl, h0, h16, h2, k1, k2, k3, k4⟩ := h
    refine ⟨_, (pss_cons (ps_if (PW.pt (pw_or (pt_not (pt_val (pe_goX cIsWithin (hr.mono (by decide)) (by rfl) (pa_cons (pv 1) (pa_cons pe_int (pa_cons (pe_glob (v := .int 16) (by rfl) T.g_MOST_AT_RIM ⟨_, rfl⟩) pa_nil)))))) (pw_or1 (pt_cmpR op_ne (pe_op op_modN (pv 1) pe_int) pe_int (nomark _)))))
  (pss_one (ps_raise rfl (takes_of rfl rfl rfl rfl) (pmk_err1 eBadTangle (hr.mono (by decide)) (by rfl) pe_str)))
  pss_nil)
  (pss_cons (ps_if (pt_not (pt_val (pe_goX cAreDeeds (hr.mono (by decide)) (by rfl) (pa_cons (pv 2) pa_nil))))
  (pss_one (ps_raise rfl (takes_of rfl rfl rfl rfl) (pmk_err1 eBadTangle (hr.mono (by decide)) (by rfl) pe_str)))
  pss_nil)
  (pss_cons (ps_expr (pe_goE cDemandFitting (hr.mono (by decide)) (takes_of rfl rfl rfl rfl) (by rfl) (pa_cons (pv 2) (pa_cons (pv 1) (pa_cons pe_int pa_nil)))))
  (PSs.nox (pss_cons (ps_fld (pv 0) (pv 1) (by rfl))
  (pss_one (ps_fld (pv 0) (pe_callTy call_tupK (by rfl) T.z_tuple (by decide +kernel) (pa_cons (pe_lc (own := [("deed", 3)]) (g := gName 3) (tt := tYes) (te := (tCB (rTupOf K) (tCons (tVar 3) tNil))) rfl scTangleInit.nd (pi_list (pv 2)) (blkOk_by (own := [("deed", 3)]) (N := ["self", "ends", "deeds", "deed"]) (sc := defScope sTangleInit) (by decide +kernel)) (fun _ _ _ _ _ => (pg_name (i := 3) scTangleInit.nd rfl (Or.inl rfl))) (fun _ _ _ _ _ => pts_nil) (fun _ _ _ _ _ => (pe_callTy call_tupK (by rfl) T.z_tuple (by decide +kernel) (pa_cons (pv 3) pa_nil)))) pa_nil)) (by rfl)))))))), ?_⟩
    refine r_start (l := [some (.ref x), some (.int m), some (.ref a), none]) rfl ?_
    walk_at "rds"
    refine ⟨q, .int m, some 0, some 16, rfl, .num m, ?_⟩
    have hB : inB (.int m) (some 0) (some 16) = true := by
      show (decide ((0 : Int) ≤ m) && decide (m ≤ (16 : Int))) = true
      rw [decide_eq_true h0, decide_eq_true h16]
      rfl
    rw [hB]
    walk_at "rds"
    refine r_I (by decide) ?_
    refine ⟨rfl, ?_⟩
    rw [show m.fmod 2 = 0 by rw [Int.fmod_eq_emod_of_nonneg _ (by decide)]; exact h2]
    walk_at "F"
    refine ⟨q, a, us, ds, rfl, ha, na, hds, ht, hl, fun H1 s1 => ?_⟩
    cases eg : gapsOk ds with
    | false =>
      walk_at "rds"
      exact k1 _ s1 eg
    | true =>
      walk_at "rds"
      refine ⟨q, a, us, ds, m, rfl, s1 _ _ ha, hds.but (same_but s1), h0, by omega, h2, fun H2 s2 => ?_⟩
      have s3 := s1.trans s2
      refine ⟨fun e => ?_, fun e => k2 _ s3 eg e, fun e => k3 _ s3 eg e⟩
      walk_at "rds"
      refine ⟨_, _, _, _, rfl, s3 _ _ hx, TC, TN1, le_ok rfl, ?_⟩
      walk_at "rds"
      generalize hG : upd H2 x _ = G
      have ex : G x = some (.ins ad.c_Tangle dx [("ends", .int m)]) := by rw [← hG]; exact upd_same
      have kG : ∀ b o, b ≠ x → H b = some o → G b = some o := fun b o n z => by rw [← hG, upd_ne n]; exact s3 b o z
      clear hG
      have nax : a ≠ x := ne_of hx ha (fun z => by cases z) |>.symm
      refine ⟨a, rfl, ⟨_, SqL.of (kG _ _ nax ha)⟩, fun D hD => ?_⟩
      have nDa : a ≠ D := ne_of_none (kG _ _ nax ha) hD
      have nDx : x ≠ D := ne_of_none ex hD
      refine lc_list (K := K) (a := a) (xs := us) (fun i H' => H' D = some (.lst (us.take i)) ∧ ∀ b o, b ≠ D → G b = some o → H' b = some o)
        ⟨upd_same, fun b o n e => by rw [upd_ne n]; exact e⟩ (fun i H' _ ⟨_, s2⟩ => SqL.of (s2 a _ nDa (kG _ _ nax ha))) ?_ ?_
      · rintro i v H' hv ⟨hD', sD⟩
        obtain ⟨t, w, g, rfl, nt, et, ei⟩ := hds.at hv
        have ntx : t ≠ x := ne_of hx et (fun z => by cases z) |>.symm
        have et' := sD t _ (ne_of_none (kG _ _ ntx et) hD) (kG _ _ ntx et)
        walk_at "rds"
        refine ⟨rfl, ?_⟩
        walk_at "rds"
        refine ⟨t, _, rfl, .inr ⟨SqT.of et', ?_⟩⟩
        refine ⟨_, hD', ?_, ?_, fun b o nb eb => by rw [upd_ne nb]; exact sD b o nb eb⟩
        · rw [List.length_take]
          refine Nat.lt_of_le_of_lt (Nat.min_le_right _ _) (Nat.lt_of_le_of_lt (by rw [hds.len]; exact hl) ?_)
          exact lt_ok rfl
        · rw [upd_same, List.take_succ, hv, Option.toList_some]
      · rintro H' ⟨hD', sD⟩
        rw [List.take_length] at hD'
        walk_at "rds"
        refine ⟨D, _, rfl, .inl ⟨SqL.of hD', fun l hl' => ?_⟩⟩
        walk_at "rds"
        have ex' := sD x _ nDx ex
        have nlx : x ≠ l := ne_of_none ex' hl'
        refine ⟨_, _, _, _, rfl, by rw [upd_ne nlx]; exact ex', TC, TN2, le_ok rfl, ?_⟩
        have keep : ∀ b o, b ≠ x → H b = some o → upd (upd H' l (.tup us)) x (.ins ad.c_Tangle dx (putF "deeds" (.ref l) [("ends", .int m)])) b = some o := fun b o n z => by
          have z1 := kG b o n z
          have z2 := sD b o (ne_of_none z1 hD) z1
          rw [upd_ne n, upd_ne (ne_of_none z2 hl')]
          exact z2
        refine k4 _ l us keep eg e ?_ ?_ ?_
        · rw [upd_same]; rfl
        · rw [upd_ne nlx.symm, upd_same]
        · exact hds.keep fun t xs z => keep t _ (ne_of hx z (fun z => by cases z) |>.symm) z
end
end K27
namespace K27
open PySem PySem.Spec PyProof.Rows L2 Rp LamX RZ

section
variable {P : Program} {w : World} {K : PySem.W.Frag} {mg : Str → Option Value} {base : Heap} {ad : Ad}
abbrev sLawTurnstile : Stmt := top 31
theorem scLawTurnstile : FnScope ["script", "cell"] ["script"] (defScope sLawTurnstile) := ⟨rfl, rfl, rfl, by decide +kernel, rfl, by decide +kernel, by decide +kernel⟩
theorem ok_LawTurnstile {f : Addr} {fd : FuncData} (F : Fun K "_law_turnstile" "_law_turnstile" sLawTurnstile f fd) (T : Txt K mg ad) (hM : HasMods base)   : FnG P w K mg base 1 f fd ["script"] (spBox K) := by
  refine fng F scLawTurnstile (fun {vs H Q E} h => ?_) (fun {cdv A fr s H vs Q E} hg hr h => ?_)
  · obtain ⟨a, ns, rfl, hS, k⟩ := h
    rfl
  · obtain ⟨a, ns, rfl, hS, k⟩ := h
    refine ⟨_, (pss_one (ps_ret (pe_lst (pa_cons (pe_lc (own := [("cell", 1)]) (g := gName 1) (tt := tYes) rfl scLawTurnstile.nd (pi_list (pe_slice sl_list (pv 0) po_none (po_some pe_int))) (blkOk_by (own := [("cell", 1)]) (N := ["script", "cell"]) (sc := defScope sLawTurnstile) (by decide +kernel)) (fun _ _ _ _ _ => (pg_name (i := 1) scLawTurnstile.nd rfl (Or.inl rfl))) (fun _ _ _ _ _ => pts_nil) (fun _ _ _ _ _ => (pe_callTy call_int1 (by rfl) T.z_int (by decide +kernel) (pa_cons (pv 1) pa_nil)))) (pa_cons pe_int (pa_cons pe_int pa_nil)))))), ?_⟩
    refine r_start (l := [some (.ref a), none]) rfl ?_
    walk_at "rds"
    refine ⟨_, rfl, ?_⟩
    refine ⟨_, _, rfl, hS, fun p hp => ?_⟩
    have s1 : Same H (upd H p (.lst (cutV (ns.map V.int) none (some 60)))) := same_neu (Same.refl H) hp
    obtain ⟨ns', ec, el⟩ := cut60 ns
    rw [ec] at s1 ⊢
    generalize hH1 : upd H p _ = H1
    rw [hH1] at s1
    have hp1 : H1 p = some (.lst (ns'.map V.int)) := by rw [← hH1]; exact upd_same
    refine ⟨p, rfl, ⟨_, SqL.of hp1⟩, fun D hD => ?_⟩
    refine lc_list (K := K) (a := p) (xs := ns'.map V.int) (fun i H' => H' D = some (.lst ((ns'.take i).map V.int)) ∧ ∀ b o, b ≠ D → H1 b = some o → H' b = some o)
      ⟨upd_same, fun b o n e => by rw [upd_ne n]; exact e⟩ (fun i H' _ ⟨_, s2⟩ => SqL.of (s2 p _ (ne_of_none hp1 hD) hp1)) ?_ ?_
    · rintro i x H' hi ⟨hD', s2⟩
      have hi' : i < ns'.length := by
        have q := (List.getElem?_eq_some_iff.mp hi).1
        rw [List.length_map] at q
        exact q
      obtain ⟨n, en, rfl⟩ : ∃ n, ns'[i]? = some n ∧ x = V.int n := by
        rw [List.getElem?_map] at hi
        cases e : ns'[i]? with
        | none => rw [e] at hi; cases hi
        | some u => rw [e] at hi; exact ⟨u, rfl, (Option.some.inj hi).symm⟩
      walk_at "rds"
      refine ⟨rfl, ?_⟩
      walk_at "rds"
      refine .inl ⟨_, rfl, ?_⟩
      refine ⟨_, hD', ?_, ?_, fun b o n e => by rw [upd_ne n]; exact s2 b o n e⟩
      · rw [List.length_map, List.length_take]
        exact small1000 (by omega)
      · rw [upd_same, List.take_succ, en, Option.toList_some, List.map_append]
        rfl
    · rintro H' ⟨hD', s2⟩
      rw [List.length_map, List.take_length] at hD'
      walk_at "rds"
      refine ⟨len_ok rfl, fun q hq => ?_⟩
      have nD : H D = none := s1.free hD
      refine k _ q D ns' ⟨ne_of_none hD' hq, ⟨0, upd_same⟩, by rw [upd_ne (ne_of_none hD' hq)]; exact hD', el⟩ (fun b o e => ?_) ?_
      · have e1 := s1 b o e
        have e2 := s2 b o (ne_of_none e nD) e1
        rw [upd_ne (ne_of_none e2 hq)]
        exact e2
      · cases e : H q with
        | none => rfl
        | some o =>
          have e2 := s2 q o (ne_of_none e nD) (s1 q o e)
          rw [hq] at e2
          cases e2
abbrev sLawToken : Stmt := top 32
theorem scLawToken : FnScope ["turnstile", "many", "left", "turn", "cell", "mixed"] ["turnstile", "many"] (defScope sLawToken) := ⟨rfl, rfl, rfl, by decide +kernel, rfl, by decide +kernel, by decide +kernel⟩
theorem ok_LawToken {f : Addr} {fd : FuncData} (F : Fun K "_law_token" "_law_token" sLawToken f fd) (T : Txt K mg ad) (hM : HasMods base)   : FnG P w K mg base 1 f fd ["turnstile", "many"] spDraw := by
  refine fng F scLawToken (fun {vs H Q E} h => ?_) (fun {cdv A fr s H vs Q E} hg hr h => ?_)
  · obtain ⟨q, c, ns, lap, many, rfl, hm, hm2, hlap, ⟨ne, ⟨rest, hb⟩, hc, hl⟩, k⟩ := h
    rfl
  · obtain ⟨q, c, ns, lap, many, rfl, hm, hm2, hlap, ⟨ne, ⟨rest, hb⟩, hc, hl⟩, k⟩ := h
    refine ⟨_, (pss_cons (ps_if (pt_cmpR op_gt (pe_ix ix_list (pv 0) pe_int (fun _ _ => rfl)) pe_int (nomark _))
  (pss_cons (ps_set (i := 2) scLawToken.nd rfl (Or.inl rfl) (pe_callTy call_int1 (by rfl) T.z_int (by decide +kernel) (pa_cons (pe_ix ix_list (pv 0) pe_int (fun _ _ => rfl)) pa_nil)))
  (pss_cons (ps_asg (pe_op op_fdivN (pv 2) (pv 1)) (pg_sub (pv 0) pe_int set_list))
  (pss_one (ps_ret (pe_op op_modN (pe_callTy call_int1 (by rfl) T.z_int (by decide +kernel) (pa_cons (pv 2) pa_nil)) (pv 1))))))
  pss_nil)
  (pss_cons (ps_set (i := 3) scLawToken.nd rfl (Or.inl rfl) (pe_ix ix_list (pv 0) pe_int (fun _ _ => rfl)))
  (pss_cons (ps_asg (pe_op op_add (pv 3) pe_int) (pg_sub (pv 0) pe_int set_list))
  (pss_cons (ps_set (i := 4) scLawToken.nd rfl (Or.inl rfl) (pe_op op_add (pe_op op_mul pe_int (pv 3)) pe_int))
  (pss_cons (ps_if (pt_cmpR (op_neD hr.units) (pe_ix ix_list (pv 0) pe_int (fun _ _ => rfl)) (pe_lst pa_nil) (nomark _))
  (pss_one (ps_set (i := 4) scLawToken.nd rfl (Or.inl rfl) (pe_ix ix_list (pe_ix ix_list (pv 0) pe_int (fun _ _ => rfl)) (pe_op op_modN (pe_callTy call_int1 (by rfl) T.z_int (by decide +kernel) (pa_cons (pv 3) pa_nil)) (pe_callB call_len_seq (by rfl) T.z_len PySem.boot_len (pa_cons (pe_ix ix_list (pv 0) pe_int (fun _ _ => rfl)) pa_nil))) (fun _ _ => rfl))))
  pss_nil)
  (pss_cons (ps_if (PW.pt (pw_and (pt_cmpR op_lt (pv 3) (pe_callB call_len_seq (by rfl) T.z_len PySem.boot_len (pa_cons (pe_ix ix_list (pv 0) pe_int (fun _ _ => rfl)) pa_nil)) (nomark _)) (pw_and1 (pt_cmpR op_ge (pe_callB call_abs (by rfl) T.z_abs (by decide +kernel) (pa_cons (pv 4) pa_nil)) (pe_op op_pow pe_int pe_int) (nomark _)))))
  (pss_cons (ps_set (i := 2) scLawToken.nd rfl (Or.inl rfl) (pe_op op_add (pe_op op_mul pe_int (pe_op op_sub (pe_callB call_abs (by rfl) T.z_abs (by decide +kernel) (pa_cons (pe_callTy call_int1 (by rfl) T.z_int (by decide +kernel) (pa_cons (pv 4) pa_nil)) pa_nil)) (pe_op op_pow pe_int pe_int))) (pe_callTy call_int1 (by rfl) T.z_int (by decide +kernel) (pa_cons (pe_cmpR op_lt (pv 4) pe_int (nomark _)) pa_nil))))
  (pss_cons (ps_asg (pe_op op_fdivN (pv 2) (pv 1)) (pg_sub (pv 0) pe_int set_list))
  (pss_one (ps_ret (pe_op op_modN (pe_callTy call_int1 (by rfl) T.z_int (by decide +kernel) (pa_cons (pv 2) pa_nil)) (pv 1))))))
  pss_nil)
  (pss_cons (ps_set (i := 5) scLawToken.nd rfl (Or.inl rfl) (pe_op op_modN (pe_callTy call_int1 (by rfl) T.z_int (by decide +kernel) (pa_cons (pe_op op_pow (pe_op op_add (pe_op op_add (pe_op op_modN (pe_callTy call_int1 (by rfl) T.z_int (by decide +kernel) (pa_cons (pv 4) pa_nil)) pe_int) (pe_op op_mul pe_int (pv 3))) pe_int) pe_int) pa_nil)) pe_int))
  (pss_cons (ps_set (i := 5) scLawToken.nd rfl (Or.inl rfl) (pe_op op_modN (pe_callTy call_int1 (by rfl) T.z_int (by decide +kernel) (pa_cons (pe_op op_pow (pe_op op_add (pe_op op_add (pe_op op_mul (pv 5) (pe_op op_add (pe_op op_mul pe_int (pv 3)) pe_int)) (pe_op op_mul (pe_op op_mul pe_int (pv 3)) (pv 3))) pe_int) pe_int) pa_nil)) pe_int))
  (pss_one (ps_ret (pe_op op_modN (pe_callTy call_int1 (by rfl) T.z_int (by decide +kernel) (pa_cons (pe_op op_fdivN (pv 5) pe_int) pa_nil)) (pv 1)))))))))))), ?_⟩
    refine r_start (l := [some (.ref q), some (.int many), none, none, none, none]) rfl ?_
    have hmN : many.natAbs < 1073741824 := by omega
    have hm0 : many ≠ 0 := by omega
    have bq : ∀ {o : HO}, But q H (upd H q o) := fun {o} => But.upd o
    -- if quay[2] > 0
    walk_at "rds"
    refine r_ixL (SqL.of hb) at2 ?_
    walk_at "rds"
    refine ite2 (fun hpos => ?_) (fun _ => ?_)
    · walk_at "rds"
      refine r_ixL (SqL.of hb) at2 ?_
      walk_at "rds"
      refine .inl ⟨_, rfl, ?_⟩
      walk_at "rds"
      refine r_I ⟨hm0, hmN⟩ ?_
      walk_at "rds"
      refine r_setL hb (k := 2) rfl ?_
      walk_at "rds"
      refine .inl ⟨_, rfl, ?_⟩
      walk_at "rds"
      refine r_I hm0 ?_
      exact k _ lap _ (by omega) ⟨ne, ⟨_, upd_same⟩, by rw [upd_ne ne]; exact hc, hl⟩ bq (fmod_in hm).1 (fmod_in hm).2
    -- lap = quay[1]; quay[1] = lap + 1; cell = ..
    walk_at "rds"
    refine r_ixL (SqL.of hb) at1 ?_
    walk_at "rds"
    refine r_setL hb (k := 1) rfl ?_
    walk_at "rds"
    refine r_I (.inl ⟨by decide, by decide⟩) ?_
    generalize hH1 : upd H q _ = H1
    have hb1 : H1 q = some (.lst [.ref c, .int ((lap + 1 : Nat) : Int), .int rest]) := by rw [← hH1]; exact upd_same
    have hc1 : H1 c = some (.lst (ns.map V.int)) := by rw [← hH1, upd_ne ne]; exact hc
    have q1 : But q H H1 := by rw [← hH1]; exact bq
    clear hH1 hb hc bq
    walk_at "res"
    with_reducible refine r_cut (fun σ H' => ∃ cell : Int, σ = [some (.ref q), some (.int many), none, some (.int (lap : Int)), some (.int cell), none] ∧ H' q = some (.lst [.ref c, .int ((lap + 1 : Nat) : Int), .int rest]) ∧ H' c = some (.lst (ns.map V.int)) ∧ But q H H') ?_ fun go => ?_
    rotate_left
    · -- if quay[0] != []
      walk_at "rds"
      refine r_ixL (SqL.of hb1) at0 ?_
      walk_at "rds"
      refine ⟨len_ok rfl, fun p hp => ?_⟩
      have hb2 : upd H1 p (.lst []) q = some (.lst [.ref c, .int ((lap + 1 : Nat) : Int), .int rest]) := by rw [upd_ne (ne_of_none hb1 hp)]; exact hb1
      have hc2 : upd H1 p (.lst []) c = some (.lst (ns.map V.int)) := by rw [upd_ne (ne_of_none hc1 hp)]; exact hc1
      have q2 : But q H (upd H1 p (.lst [])) := q1.neu hp
      refine ne_nil hc2 upd_same ?_
      walk_at "rds"
      cases hns : ns.isEmpty with
      | true =>
        walk_at "res"
        exact go _ _ ⟨_, rfl, hb2, hc2, q2⟩
      | false =>
        have hlen : (0 : Int) < (ns.length : Int) := by
          cases ns with
          | nil => cases hns
          | cons n0 nr => simp <;> omega
        walk_at "rds"
        refine r_ixL (SqL.of hb2) at0 ?_
        walk_at "rds"
        refine .inl ⟨_, rfl, ?_⟩
        walk_at "rds"
        refine r_ixL (SqL.of hb2) at0 ?_
        walk_at "rds"
        refine ⟨_, _, rfl, .inl (SqL.of hc2), ?_⟩
        walk_at "rds"
        rw [map_len]
        refine r_I (by omega) ?_
        obtain ⟨cell, hcell⟩ := at_ints (ns := ns) (fmod_in (i := (lap : Int)) hlen).1 (fmod_in hlen).2
        refine r_ixL (SqL.of hc2) hcell ?_
        walk_at "res"
        exact go _ _ ⟨_, rfl, hb2, hc2, q2⟩
    clear hb1 hc1 q1 H1
    rintro σ H1 ⟨cell, rfl, hb1, hc1, q1⟩
    have D1 : Dr q c ns (lap + 1) H1 := ⟨ne, ⟨_, hb1⟩, hc1, hl⟩
    -- if lap < len(quay[0]) and abs(cell) >= 10 ** 18
    with_reducible refine r_cut (fun σ H' => σ = [some (.ref q), some (.int many), none, some (.int (lap : Int)), some (.int cell), none] ∧ H' = H1) ?_ fun go => ?_
    rotate_left
    · walk_at "rds"
      refine r_ixL (SqL.of hb1) at0 ?_
      walk_at "rds"
      refine ⟨_, _, rfl, .inl (SqL.of hc1), ?_⟩
      walk_at "rds"
      refine ite2 (fun _ => ?_) (fun _ => ?_)
      · walk_at "rds"
        refine ⟨_, rfl, ?_⟩
        walk_at "rds"
        refine r_I ⟨by decide, by decide, by decide⟩ ?_
        walk_at "rds"
        refine ite2 (fun _ => ?_) (fun _ => ?_)
        · walk_at "rds"
          refine .inl ⟨_, rfl, ?_⟩
          walk_at "rds"
          refine ⟨_, rfl, ?_⟩
          walk_at "rds"
          refine r_I ⟨by decide, by decide, by decide⟩ ?_
          walk_at "rds"
          refine r_I (.inl ⟨by decide, by decide⟩) ?_
          walk_at "rds"
          refine .inr ⟨_, rfl, ?_⟩
          walk_at "rds"
          refine r_I ⟨hm0, hmN⟩ ?_
          walk_at "rds"
          refine r_setL hb1 (k := 2) rfl ?_
          walk_at "rds"
          refine .inl ⟨_, rfl, ?_⟩
          walk_at "rds"
          refine r_I hm0 ?_
          exact k _ (lap + 1) _ (by omega) ⟨ne, ⟨_, upd_same⟩, by rw [upd_ne ne]; exact hc1, hl⟩ (q1.upd2 _) (fmod_in hm).1 (fmod_in hm).2
        · walk_at "res"
          exact go _ _ ⟨rfl, rfl⟩
      · walk_at "res"
        exact go _ _ ⟨rfl, rfl⟩
    rintro σ H' ⟨rfl, rfl⟩
    -- mixed
    walk_at "rds"
    refine .inl ⟨_, rfl, ?_⟩
    walk_at "rds"
    refine r_I (by decide) ?_
    walk_at "rds"
    refine r_I (.inl ⟨by decide, by decide⟩) ?_
    walk_at "rds"
    have f1 := fmod_in (i := cell) (j := 2147483587) (by decide)
    refine r_I ⟨by decide, by decide, by omega⟩ ?_
    generalize (_ : Int) ^ (_ : Nat) = big1
    walk_at "rds"
    refine .inl ⟨_, rfl, ?_⟩
    walk_at "rds"
    refine r_I (by decide) ?_
    have f2 := fmod_in (i := big1) (j := 2147483629) (by decide)
    revert f2
    generalize big1.fmod _ = mixed
    intro f2
    walk_at "rds"
    refine r_I (.inl ⟨by decide, by decide⟩) ?_
    walk_at "rds"
    refine r_I (.inl ⟨by omega, by omega⟩) ?_
    walk_at "rds"
    refine r_I (.inl ⟨by decide, by decide⟩) ?_
    walk_at "rds"
    refine r_I (.inl ⟨by omega, by omega⟩) ?_
    walk_at "rds"
    refine r_I ⟨by decide, by decide, fits3 f2.1 (by omega) hlap (by decide) (by decide) (by decide) (by decide) (by decide) (by decide)⟩ ?_
    generalize (_ : Int) ^ (_ : Nat) = big2
    walk_at "rds"
    refine .inl ⟨_, rfl, ?_⟩
    walk_at "rds"
    refine r_I (by decide) ?_
    generalize big2.fmod _ = mixed2
    walk_at "rds"
    refine r_I ⟨by decide, by decide⟩ ?_
    walk_at "rds"
    refine .inl ⟨_, rfl, ?_⟩
    walk_at "rds"
    refine r_I hm0 ?_
    exact k _ (lap + 1) _ (by omega) D1 q1 (fmod_in hm).1 (fmod_in hm).2
abbrev sLawPick : Stmt := top 33
theorem scLawPick : FnScope ["turnstile", "some"] ["turnstile", "some"] (defScope sLawPick) := ⟨rfl, rfl, rfl, by decide +kernel, rfl, by decide +kernel, by decide +kernel⟩
theorem ok_LawPick {f : Addr} {fd : FuncData} (F : Fun K "_law_pick" "_law_pick" sLawPick f fd) (T : Txt K mg ad) (hM : HasMods base)  {f0 : Addr} {fd0 : FuncData} (cLawToken : Cal P w K mg base "_law_token" 1 f0 fd0 ["turnstile", "many"] spDraw) : FnG P w K mg base 2 f fd ["turnstile", "some"] (spOf K) := by
  refine fng F scLawPick (fun {vs H Q E} h => ?_) (fun {cdv A fr s H vs Q E} hg hr h => ?_)
  · obtain ⟨q, c, a, ns, lap, xs, rfl, hS, h0, h1, hlap, hne, hD, k⟩ := h
    rfl
  · obtain ⟨q, c, a, ns, lap, xs, rfl, hS, h0, h1, hlap, hne, hD, k⟩ := h
    refine ⟨_, (pss_one (ps_ret (pe_ix ix_list (pv 1) (pe_go cLawToken hg (hr.mono (by decide)) (by rfl) (pa_cons (pv 0) (pa_cons (pe_callB call_len_seq (by rfl) T.z_len PySem.boot_len (pa_cons (pv 1) pa_nil)) pa_nil))) (fun _ _ => rfl)))), ?_⟩
    refine r_start (l := [some (.ref q), some (.ref a)]) rfl ?_
    walk_at "rds"
    refine ⟨_, _, rfl, .inl hS, ?_⟩
    walk_at "rds"
    refine ⟨q, c, ns, lap, _, rfl, by omega, by omega, hlap, hD, fun H' lap' r hl D' B r0 r1 => ?_⟩
    obtain ⟨i, v, e1, e2⟩ := at_some r0 r1
    refine r_ixL (B.seq hne hS) e1 ?_
    exact k _ _ i v hl D' B e2
end
end K27
namespace K27
open PySem PySem.Spec PyProof.Rows L2 Rp LamX RZ

def spDeeds : Sp := fun vs H Q _ => ∃ (q c : Addr) (ns : List Int) (lap : Nat) (m most : Int), vs = [.ref q, .int m, .int most] ∧ 0 ≤ m ∧ m ≤ 16 ∧ m % 2 = 0 ∧ 0 ≤ most ∧ most ≤ 100 ∧ lap + 1000 < 2 ^ 20 ∧ Dr q c ns lap H ∧
  ∀ (H' : Hp) (lap' : Nat) (p : Addr) (us : List V) (ds : Dl), lap' ≤ lap + 400 → Dr q c ns lap' H' → But q H H' → H p = none → p ≠ q → H' p = some (.lst us) → DsV q H' us ds → Typ 23 ds → (ds.length : Int) ≤ most + 12 → runD ds m = some 0 → Q (.ref p) H'
theorem fits_all {w : Str} {m g : Int} (h : fitsG w m g = true) (h0 : 0 ≤ m) (h24 : m ≤ 24) : 0 ≤ g ∧ g ≤ 23 := by
  unfold fitsG at h
  have a := Bool.and_eq_true_iff.mp h
  have b := of_decide_eq_true a.1
  have c := of_decide_eq_true a.2
  have l : 0 ≤ gLo w m := by unfold gLo; split; decide; split; split <;> decide; decide
  have u : gHi w m ≤ 24 := by
    unfold gHi
    split
    · split <;> omega
    · split
      · split
        · split <;> omega
        · omega
      · omega
  omega
theorem big200 : 200 ≤ sizeLine := le_ok rfl
/-- the deeds found so far, in the list at p -/
structure FD (q c : Addr) (ns : List Int) (H G : Hp) (lap : Nat) (p : Addr) (us : List V) (ds : Dl) : Prop where
  D : Dr q c ns lap G
  B : But q H G
  hp : H p = none
  np : p ≠ q
  pc : p ≠ c
  ls : G p = some (.lst us)
  ds : DsV q G us ds
section
variable {q c p t x : Addr} {ns : List Int} {H G G' : Hp} {lap lap' : Nat} {us : List V} {ds : Dl} {w : Str} {g : Int} {o : HO}
theorem FD.draw (f : FD q c ns H G lap p us ds) (D' : Dr q c ns lap' G') (b : But q G G') : FD q c ns H G' lap' p us ds :=
  ⟨D', f.B.trans b, f.hp, f.np, f.pc, b _ _ f.np f.ls, f.ds.but b⟩
theorem FD.neu (f : FD q c ns H G lap p us ds) (hx : G x = none) : FD q c ns H (upd G x o) lap p us ds :=
  ⟨f.D.neu hx, f.B.neu hx, f.hp, f.np, f.pc, by rw [upd_ne (ne_of_none f.ls hx)]; exact f.ls, f.ds.but ((But.refl q G).neu hx)⟩
theorem FD.push (f : FD q c ns H G lap p us ds) (et : G t = some (.tup [.str w, .int g])) (nt : t ≠ q) : FD q c ns H (upd G p (.lst (us ++ [.ref t]))) lap p (us ++ [.ref t]) (ds ++ [(w, g)]) := by
  have k : ∀ t xs, G t = some (.tup xs) → upd G p (.lst (us ++ [.ref t])) t = some (.tup xs) := fun t xs z => by
    rw [upd_ne (ne_of z f.ls (fun z => by cases z))]
    exact z
  have k' : ∀ b xs, G b = some (.tup xs) → upd G p (.lst (us ++ [.ref t])) b = some (.tup xs) := fun b xs z => by
    rw [upd_ne (ne_of z f.ls (fun z => by cases z))]
    exact z
  obtain ⟨ne, ⟨rest, hb⟩, hc, hl⟩ := f.D
  exact ⟨⟨ne, ⟨rest, by rw [upd_ne f.np.symm]; exact hb⟩, by rw [upd_ne f.pc.symm]; exact hc, hl⟩, but_put rfl f.B f.hp, f.hp, f.np, f.pc, upd_same, (f.ds.keep k').app (.one nt (k' _ _ et))⟩
theorem FD.off (f : FD q c ns H G lap p us ds) (hx : G x = none) : x ≠ q := by
  obtain ⟨ne, ⟨rest, hb⟩, hc, hl⟩ := f.D
  exact (ne_of_none hb hx).symm
end
/-- what holds as deeds are found -/
structure FI (q c : Addr) (ns : List Int) (H G : Hp) (lap : Nat) (p : Addr) (us : List V) (ds : Dl) (m n : Int) (k : Nat) : Prop where
  f : FD q c ns H G lap p us ds
  t : Typ 23 ds
  l : ds.length ≤ k
  r : runD ds m = some n
  n0 : 0 ≤ n
  n24 : n ≤ 24
  n2 : n % 2 = 0
theorem FI.push {q c p t : Addr} {ns : List Int} {H G : Hp} {lap : Nat} {us : List V} {ds : Dl} {w : Str} {g m n : Int} {k : Nat} (h : FI q c ns H G lap p us ds m n k) (et : G t = some (.tup [.str w, .int g])) (nt : t ≠ q) (hw : w ∈ W5) (fit : fitsG w n g = true) (b : behind w n ≤ 24) :
    FI q c ns H (upd G p (.lst (us ++ [.ref t]))) lap p (us ++ [.ref t]) (ds ++ [(w, g)]) m (behind w n) (k + 1) := by
  obtain ⟨g0, g1⟩ := fits_all fit h.n0 h.n24
  exact ⟨h.f.push et nt, h.t.app (.one hw g0 g1), by rw [List.length_append]; exact Nat.add_le_add_right h.l 1, runD_one h.r fit (by omega), fits_ends h.n0 h.n2 fit, b, even_behind h.n2⟩
theorem FI.draw {q c p : Addr} {ns : List Int} {H G G' : Hp} {lap lap' : Nat} {us : List V} {ds : Dl} {m n : Int} {k : Nat} (h : FI q c ns H G lap p us ds m n k) (D' : Dr q c ns lap' G') (b : But q G G') : FI q c ns H G' lap' p us ds m n k := { h with f := h.f.draw D' b }
theorem FI.neu {q c p x : Addr} {ns : List Int} {H G : Hp} {lap : Nat} {us : List V} {ds : Dl} {m n : Int} {k : Nat} {o : HO} (h : FI q c ns H G lap p us ds m n k) (hx : G x = none) : FI q c ns H (upd G x o) lap p us ds m n k := { h with f := h.f.neu hx }
theorem FI.up {q c p : Addr} {ns : List Int} {H G : Hp} {lap : Nat} {us : List V} {ds : Dl} {m n : Int} {k k' : Nat} (h : FI q c ns H G lap p us ds m n k) (l : k ≤ k') : FI q c ns H G lap p us ds m n k' := { h with l := Nat.le_trans h.l l }
/-- the list is exchanged for a longer one -/
theorem FI.cat {q c p p2 t : Addr} {ns : List Int} {H G : Hp} {lap : Nat} {us : List V} {ds : Dl} {w : Str} {g m n : Int} {k : Nat} (h : FI q c ns H G lap p us ds m n k) (et : G t = some (.tup [.str w, .int g])) (nt : t ≠ q) (hp2 : G p2 = none) (hw : w ∈ W5) (fit : fitsG w n g = true) (b : behind w n ≤ 24) (h2 : H p2 = none) :
    FI q c ns H (upd G p2 (.lst (us ++ [.ref t]))) lap p2 (us ++ [.ref t]) (ds ++ [(w, g)]) m (behind w n) (k + 1) := by
  obtain ⟨g0, g1⟩ := fits_all fit h.n0 h.n24
  have f2 := h.f.neu (o := .lst (us ++ [.ref t])) hp2
  have e2 : upd G p2 (.lst (us ++ [.ref t])) t = some (.tup [.str w, .int g]) := by rw [upd_ne (ne_of_none et hp2)]; exact et
  exact ⟨⟨f2.D, f2.B, h2, h.f.off hp2, (ne_of_none h.f.D.cells hp2).symm, upd_same, f2.ds.app (.one nt e2)⟩, h.t.app (.one hw g0 g1), by rw [List.length_append]; exact Nat.add_le_add_right h.l 1, runD_one h.r fit (by omega), fits_ends h.n0 h.n2 fit, b, even_behind h.n2⟩

section
variable {P : Program} {w : World} {K : PySem.W.Frag} {mg : Str → Option Value} {base : Heap} {ad : Ad}
abbrev sLawDeeds : Stmt := top 34
theorem scLawDeeds : FnScope ["turnstile", "ends", "most", "found", "now", "turn", "way"] ["turnstile", "ends", "most"] (defScope sLawDeeds) := ⟨rfl, rfl, rfl, by decide +kernel, rfl, by decide +kernel, by decide +kernel⟩
theorem ok_LawDeeds {f : Addr} {fd : FuncData} (F : Fun K "_law_deeds" "_law_deeds" sLawDeeds f fd) (T : Txt K mg ad) (hM : HasMods base)  {f0 : Addr} {fd0 : FuncData} (cLawToken : Cal P w K mg base "_law_token" 1 f0 fd0 ["turnstile", "many"] spDraw) {f1 : Addr} {fd1 : FuncData} (cLawPick : Cal P w K mg base "_law_pick" 2 f1 fd1 ["turnstile", "some"] (spOf K)) : FnG P w K mg base 3 f fd ["turnstile", "ends", "most"] spDeeds := by
  refine fng F scLawDeeds (fun {vs H Q E} h => ?_) (fun {cdv A fr s H vs Q E} hg hr h => ?_)
  · obtain ⟨q, c, ns, lap, m, most, rfl, h0, h16, h2, hm0, hm1, hlap, hD, k⟩ := h
    rfl
  · obtain ⟨q, c, ns, lap, m, most, rfl, h0, h16, h2, hm0, hm1, hlap, hD, k⟩ := h
    refine ⟨_, (pss_cons (ps_par (i := 3) (j := 4) (by rfl) scLawDeeds.nd rfl rfl (by decide) rfl rfl (pa_cons (pe_lst pa_nil) (pa_cons (pv 1) pa_nil)) (by rfl))
  (pss_cons (ps_for PassesOwn.never rfl (pi_range1 (by rfl) T.z_range (pa_cons (pe_go cLawToken hg (hr.mono (by decide)) (by rfl) (pa_cons (pv 0) (pa_cons (pe_op op_add (pv 2) pe_int) pa_nil))) pa_nil)) (pg_name (i := 5) scLawDeeds.nd rfl (Or.inl rfl))
  (pss_cons (ps_set (i := 6) scLawDeeds.nd rfl (Or.inl rfl) (pe_go cLawToken hg (hr.mono (by decide)) (by rfl) (pa_cons (pv 0) (pa_cons pe_int pa_nil))))
  (pss_one (ps_if (pt_cmpR op_eq (pv 4) pe_int (nomark _))
  (pss_one (ps_par (i := 3) (j := 4) (by rfl) scLawDeeds.nd rfl rfl (by decide) rfl rfl (pa_cons (pe_op op_cat (pv 3) (pe_lst (pa_cons (pe_tup (pa_cons pe_str (pa_cons pe_int pa_nil))) pa_nil))) (pa_cons pe_int pa_nil)) (by rfl)))
  (pss_one (ps_if (pt_cmpR op_lt (pv 6) pe_int (nomark _))
  (pss_one (ps_expr (pe_bm PySem.F.plainAttrs_list PySem.F.slot_list_append PySem.F.type_list_append mt_append (pv 3) (pa_cons (pe_tup (pa_cons (pe_go cLawPick hg (hr.mono (by decide)) (by rfl) (pa_cons (pv 0) (pa_cons (pe_lst (pa_cons pe_str (pa_cons pe_str pa_nil))) pa_nil))) (pa_cons (pe_go cLawToken hg (hr.mono (by decide)) (by rfl) (pa_cons (pv 0) (pa_cons (pv 4) pa_nil))) pa_nil))) pa_nil))))
  (pss_one (ps_if (PW.pt (pw_and (pt_cmpR op_lt (pv 6) pe_int (nomark _)) (pw_and1 (pt_cmpR op_lt (pv 4) pe_int (nomark _)))))
  (pss_cons (ps_expr (pe_bm PySem.F.plainAttrs_list PySem.F.slot_list_append PySem.F.type_list_append mt_append (pv 3) (pa_cons (pe_tup (pa_cons pe_str (pa_cons (pe_go cLawToken hg (hr.mono (by decide)) (by rfl) (pa_cons (pv 0) (pa_cons (pv 4) pa_nil))) pa_nil))) pa_nil)))
  (pss_one (ps_set (i := 4) scLawDeeds.nd rfl (Or.inl rfl) (pe_op op_add (pv 4) pe_int))))
  (pss_one (ps_if (pt_cmpR op_eq (pv 6) pe_int (nomark _))
  (pss_one (ps_expr (pe_bm PySem.F.plainAttrs_list PySem.F.slot_list_append PySem.F.type_list_append mt_append (pv 3) (pa_cons (pe_tup (pa_cons pe_str (pa_cons (pe_go cLawToken hg (hr.mono (by decide)) (by rfl) (pa_cons (pv 0) (pa_cons (pv 4) pa_nil))) pa_nil))) pa_nil))))
  (pss_one (ps_if (pt_cmpR op_gt (pv 6) pe_int (nomark _))
  (pss_cons (ps_expr (pe_bm PySem.F.plainAttrs_list PySem.F.slot_list_append PySem.F.type_list_append mt_append (pv 3) (pa_cons (pe_tup (pa_cons pe_str (pa_cons (pe_op op_add pe_int (pe_go cLawToken hg (hr.mono (by decide)) (by rfl) (pa_cons (pv 0) (pa_cons (pe_callB (call_max2 rfl) (by rfl) T.z_max (by decide +kernel) (pa_cons pe_int (pa_cons (pe_op op_sub (pv 4) pe_int) pa_nil))) pa_nil)))) pa_nil))) pa_nil)))
  (pss_one (ps_set (i := 4) scLawDeeds.nd rfl (Or.inl rfl) (pe_op op_sub (pv 4) pe_int))))
  pss_nil))))))))))))
  (pss_cons (ps_while PassesOwn.never (pt_cmpR op_gt (pv 4) pe_int (nomark _))
  (pss_cons (ps_expr (pe_bm PySem.F.plainAttrs_list PySem.F.slot_list_append PySem.F.type_list_append mt_append (pv 3) (pa_cons (pe_tup (pa_cons pe_str (pa_cons (pe_op op_add pe_int (pe_go cLawToken hg (hr.mono (by decide)) (by rfl) (pa_cons (pv 0) (pa_cons (pe_callB (call_max2 rfl) (by rfl) T.z_max (by decide +kernel) (pa_cons pe_int (pa_cons (pe_op op_sub (pv 4) pe_int) pa_nil))) pa_nil)))) pa_nil))) pa_nil)))
  (pss_one (ps_set (i := 4) scLawDeeds.nd rfl (Or.inl rfl) (pe_op op_sub (pv 4) pe_int)))))
  (pss_one (ps_ret (pv 3)))))), ?_⟩
    refine r_start (l := [some (.ref q), some (.int m), some (.int most), none, none, none, none]) rfl ?_
    walk_at "rds"
    refine ⟨len_ok rfl, fun p hp => ?_⟩
    walk_at "rds"
    refine ⟨_, _, rfl, ?_⟩
    have I0 : FI q c ns H (upd H p (.lst [])) lap p [] [] m m 0 :=
      ⟨⟨hD.neu hp, (But.refl q H).neu hp, hp, (by obtain ⟨ne, ⟨rest, hb⟩, hc, hl⟩ := hD; exact (ne_of_none hb hp).symm), (ne_of_none hD.cells hp).symm, upd_same, .nil⟩, .nil, Nat.le_refl _, rfl, h0, by omega, h2⟩
    generalize upd H p (.lst []) = G0 at I0
    walk_at "rds"
    refine ⟨_, _, _, _, _, rfl, by omega, by omega, by omega, I0.f.D, fun G1 l1 r1 hl1 D1 b1 m1 n1 => ?_⟩
    refine ⟨_, rfl, by omega, by omega, ?_⟩
    refine for_range (lo := 0) (n := r1.toNat) (fun i σ G => ∃ (p : Addr) (us : List V) (ds : Dl) (n : Int) (l : Nat) (x y : Option V), σ = [some (.ref q), some (.int m), some (.int most), some (.ref p), some (.int n), x, y] ∧ l ≤ lap + 1 + 3 * i ∧ FI q c ns H G l p us ds m n i) ⟨p, [], [], m, l1, none, none, rfl, by omega, I0.draw D1 b1⟩ ?_ ?_
    · rintro i σ G hi ⟨p, us, ds, n, l, x, y, rfl, hl, I⟩
      have small : ∀ {k : Nat}, k ≤ i → k < sizeLine := fun {k} z => Nat.lt_of_lt_of_le (show k < 200 by omega) (le_ok rfl)
      walk_at "rds"
      refine ⟨_, _, _, _, _, rfl, by decide, by decide, by omega, I.f.D, fun G2 l2 way hl2 D2 b2 m2 n2 => ?_⟩
      replace I := I.draw D2 b2
      walk_at "rds"
      refine ⟨rfl, ?_⟩
      by_cases e0 : n = 0
      · subst e0
        rw [show decide (V.int 0 = V.int 0) = true from rfl]
        walk_at "rds"
        refine ⟨len_ok rfl, fun t ht => ?_⟩
        have nt := I.f.off ht
        replace I := I.neu (o := .tup [.str "open", .int 0]) ht
        have et : upd G2 t (.tup [.str "open", .int 0]) t = some (.tup [.str "open", .int 0]) := upd_same
        generalize upd G2 t _ = G3 at I et
        walk_at "rds"
        refine ⟨len_ok rfl, fun t2 ht2 => ?_⟩
        replace I := I.neu (o := .lst [.ref t]) ht2
        have et3 : upd G3 t2 (.lst [.ref t]) t = some (.tup [.str "open", .int 0]) := by rw [upd_ne (ne_of_none et ht2)]; exact et
        have et2 : upd G3 t2 (.lst [.ref t]) t2 = some (.lst [.ref t]) := upd_same
        generalize upd G3 t2 _ = G4 at I et3 et2
        refine r_cat (p := p) I.f.ls et2 (by rw [I.f.ds.len]; exact Nat.le_trans (show ds.length + 1 ≤ 200 by have := I.l; omega) big200) fun p3 hp3 => ?_
        have J := I.cat et3 nt hp3 (by decide) (fits_open (by decide) (.inr rfl)) (by decide) (by
          cases z : H p3 with
          | none => rfl
          | some o => 
            by_cases zq : p3 = q
            · subst zq
              obtain ⟨ne, ⟨rest, hb⟩, hc, hl⟩ := I.f.D
              rw [hb] at hp3
              cases hp3
            · rw [I.f.B _ _ zq z] at hp3
              cases hp3)
        walk_at "rds"
        refine ⟨_, _, rfl, ?_⟩
        exact ⟨p3, _, _, _, l2, _, _, rfl, by omega, J⟩
      · rw [decide_eq_false (fun z => e0 (V.int.inj z))]
        have npos : 0 < n := by have := I.n0; omega
        have ntwo : 2 ≤ n := by have := I.n2; omega
        walk_at "rds"
        by_cases w5 : way < 5
        · rw [decide_eq_true w5]
          walk_at "rds"
          refine ⟨ty_lst I.f.ls, ?_⟩
          walk_at "rds"
          refine ⟨len_ok rfl, fun pl hpl => ?_⟩
          have npl := I.f.off hpl
          replace I := I.neu (o := .lst [.str "over", .str "under"]) hpl
          have epl : upd G2 pl (.lst [.str "over", .str "under"]) pl = some (.lst [.str "over", .str "under"]) := upd_same
          generalize upd G2 pl _ = G3 at I epl
          refine ⟨_, _, _, _, _, _, rfl, SqL.of epl, Nat.zero_lt_succ _, lt_ok rfl, by omega, npl, I.f.D, fun G4 l4 i4 v4 hl4 D4 b4 e4 => ?_⟩
          have pv4 := EachP.get (F := fun v => ∃ w : Str, v = .str w ∧ (w = "over" ∨ w = "under" ∨ w = "turn") ∧ w ∈ W5) (.cons ⟨_, rfl, .inl rfl, by decide⟩ (.cons ⟨_, rfl, .inr (.inl rfl), by decide⟩ .nil)) e4
          obtain ⟨wd, rfl, hw3, hw5⟩ := pv4
          replace I := I.draw D4 b4
          walk_at "rds"
          refine ⟨_, _, _, _, _, rfl, npos, by have := I.n24; omega, by omega, I.f.D, fun G5 l5 gp hl5 D5 b5 m5 n5 => ?_⟩
          replace I := I.draw D5 b5
          walk_at "rds"
          refine ⟨len_ok rfl, fun t ht => ?_⟩
          have nt := I.f.off ht
          replace I := I.neu (o := .tup [.str wd, .int gp]) ht
          have et : upd G5 t (.tup [.str wd, .int gp]) t = some (.tup [.str wd, .int gp]) := upd_same
          generalize upd G5 t _ = G6 at I et
          walk_at "rds"
          refine r_append I.f.ls (by rw [I.f.ds.len]; exact small I.l) ?_
          have J := I.push et nt hw5 (fits_cross hw3 m5 n5) (by rw [behind_cross hw3]; exact I.n24)
          rw [behind_cross hw3] at J
          walk_at "rds"
          exact ⟨p, _, _, _, l5, _, _, rfl, by omega, J⟩
        · rw [decide_eq_false w5]
          walk_at "rds"
          by_cases w7 : way < 7 ∧ n < 24
          · rw [decide_eq_true w7.1]
            walk_at "rds"
            rw [decide_eq_true w7.2]
            walk_at "rds"
            refine ⟨ty_lst I.f.ls, ?_⟩
            walk_at "rds"
            refine ⟨_, _, _, _, _, rfl, npos, by have := I.n24; omega, by omega, I.f.D, fun G5 l5 gp hl5 D5 b5 m5 n5 => ?_⟩
            replace I := I.draw D5 b5
            walk_at "rds"
            refine ⟨len_ok rfl, fun t ht => ?_⟩
            have nt := I.f.off ht
            replace I := I.neu (o := .tup [.str "open", .int gp]) ht
            have et : upd G5 t (.tup [.str "open", .int gp]) t = some (.tup [.str "open", .int gp]) := upd_same
            generalize upd G5 t _ = G6 at I et
            walk_at "rds"
            refine r_append I.f.ls (by rw [I.f.ds.len]; exact small I.l) ?_
            have J := I.push et nt (by decide) (fits_open m5 (.inl n5)) (by rw [behind_open]; have := I.n2; omega)
            rw [behind_open] at J
            walk_at "rds"
            exact ⟨p, _, _, _, l5, _, _, rfl, by omega, J⟩
          · have skip : ∀ {T : Prop}, T → T := fun t => t
            have go : ∀ {A B : TS} {D : Ends} {σ : L2.St}, tIfS (tAnd (tTest (tOp (rI0 fun i j => V.bl (decide (i < j))) (tVar 6) (tC (V.int 7)))) (tTest (tOp (rI0 fun i j => V.bl (decide (i < j))) (tVar 4) (tC (V.int 24))))) A B D σ G2 = (tIfS (tAnd (tTest (tOp (rI0 fun i j => V.bl (decide (i < j))) (tVar 6) (tC (V.int 7)))) (tTest (tOp (rI0 fun i j => V.bl (decide (i < j))) (tVar 4) (tC (V.int 24))))) A B D σ G2) := rfl
            clear skip go
            have tail : ∀ (Z : Prop), Z → Z := fun _ z => z
            clear tail
            by_cases w7a : way < 7
            · rw [decide_eq_true w7a]
              walk_at "rds"
              rw [decide_eq_false (show ¬ n < 24 from fun z => w7 ⟨w7a, z⟩)]
              walk_at "rds"
              refine ⟨rfl, ?_⟩
              rw [decide_eq_false (fun z => absurd (V.int.inj z) (by omega))]
              walk_at "rds"
              rw [decide_eq_false (show ¬ 7 < way by omega)]
              walk_at "rds"
              exact ⟨p, _, _, _, l2, _, _, rfl, by omega, I.up (Nat.le_succ i)⟩
            · rw [decide_eq_false w7a]
              walk_at "rds"
              refine ⟨rfl, ?_⟩
              by_cases w8 : way = 7
              · rw [decide_eq_true (congrArg V.int w8)]
                walk_at "rds"
                refine ⟨ty_lst I.f.ls, ?_⟩
                walk_at "rds"
                refine ⟨_, _, _, _, _, rfl, npos, by have := I.n24; omega, by omega, I.f.D, fun G5 l5 gp hl5 D5 b5 m5 n5 => ?_⟩
                replace I := I.draw D5 b5
                walk_at "rds"
                refine ⟨len_ok rfl, fun t ht => ?_⟩
                have nt := I.f.off ht
                replace I := I.neu (o := .tup [.str "turn", .int gp]) ht
                have et : upd G5 t (.tup [.str "turn", .int gp]) t = some (.tup [.str "turn", .int gp]) := upd_same
                generalize upd G5 t _ = G6 at I et
                walk_at "rds"
                refine r_append I.f.ls (by rw [I.f.ds.len]; exact small I.l) ?_
                have J := I.push et nt (by decide) (fits_cross (.inr (.inr rfl)) m5 n5) (by rw [behind_cross (.inr (.inr rfl))]; exact I.n24)
                rw [behind_cross (.inr (.inr rfl))] at J
                walk_at "rds"
                exact ⟨p, _, _, _, l5, _, _, rfl, by omega, J⟩
              · rw [decide_eq_false (fun z => w8 (V.int.inj z))]
                walk_at "rds"
                rw [decide_eq_true (show 7 < way by omega)]
                walk_at "rds"
                refine ⟨ty_lst I.f.ls, ?_⟩
                walk_at "rds"
                refine ⟨_, _, rfl, ?_⟩
                refine ⟨_, _, _, _, _, rfl, by split <;> omega, by have := I.n24; split <;> omega, by omega, I.f.D, fun G5 l5 gp hl5 D5 b5 m5 n5 => ?_⟩
                replace I := I.draw D5 b5
                walk_at "rds"
                refine ⟨len_ok rfl, fun t ht => ?_⟩
                have nt := I.f.off ht
                replace I := I.neu (o := .tup [.str "join", .int (1 + gp)]) ht
                have et : upd G5 t (.tup [.str "join", .int (1 + gp)]) t = some (.tup [.str "join", .int (1 + gp)]) := upd_same
                generalize upd G5 t _ = G6 at I et
                walk_at "rds"
                refine r_append I.f.ls (by rw [I.f.ds.len]; exact small I.l) ?_
                have J := I.push et nt (by decide) (fits_join ntwo (by omega) (by split at n5 <;> omega)) (by rw [behind_join]; have := I.n24; omega)
                rw [behind_join] at J
                walk_at "rds"
                exact ⟨p, _, _, _, l5, _, _, rfl, by omega, J⟩
    · rintro σ G ⟨p, us, ds, n, l, x, y, rfl, hl, I⟩
      refine r_while ?_
      refine ⟨fun mm σ G => ∃ (us : List V) (ds : Dl) (n : Int) (l : Nat), σ = [some (.ref q), some (.int m), some (.int most), some (.ref p), some (.int n), x, y] ∧ mm = n.toNat ∧ l + n.toNat ≤ lap + 400 ∧ 2 * ds.length + n.toNat ≤ 2 * most.toNat + 24 ∧ FI q c ns H G l p us ds m n 200, ⟨_, us, ds, n, l, rfl, rfl, ?_, ?_, I.up (by omega)⟩, ?_⟩
      · have := I.n24; omega
      · have := I.n24; have := I.l; omega
      · rintro mm σ G ⟨us, ds, n, l, rfl, rfl, hl, hd, I⟩
        walk_at "rds"
        by_cases e0 : 0 < n
        · rw [decide_eq_true e0]
          have ntwo : 2 ≤ n := by have := I.n2; omega
          walk_at "rds"
          refine ⟨fun σ' G' => ∃ (us : List V) (ds : Dl) (l : Nat), σ' = [some (.ref q), some (.int m), some (.int most), some (.ref p), some (.int (n - 2)), x, y] ∧ l + (n - 2).toNat ≤ lap + 400 ∧ 2 * ds.length + (n - 2).toNat ≤ 2 * most.toNat + 24 ∧ FI q c ns H G' l p us ds m (n - 2) 200, ?_, ?_⟩
          · rintro σ' G' ⟨us, ds, l, e, h1, h2, J⟩
            exact ⟨_, by omega, us, ds, n - 2, l, e, rfl, h1, h2, J⟩
          walk_at "rds"
          refine ⟨ty_lst I.f.ls, ?_⟩
          walk_at "rds"
          refine ⟨_, _, rfl, ?_⟩
          refine ⟨_, _, _, _, _, rfl, by split <;> omega, by have := I.n24; split <;> omega, by omega, I.f.D, fun G5 l5 gp hl5 D5 b5 m5 n5 => ?_⟩
          replace I := I.draw D5 b5
          walk_at "rds"
          refine ⟨len_ok rfl, fun t ht => ?_⟩
          have nt := I.f.off ht
          replace I := I.neu (o := .tup [.str "join", .int (1 + gp)]) ht
          have et : upd G5 t (.tup [.str "join", .int (1 + gp)]) t = some (.tup [.str "join", .int (1 + gp)]) := upd_same
          generalize upd G5 t _ = G6 at I et
          walk_at "rds"
          refine r_append I.f.ls (by rw [I.f.ds.len]; exact Nat.lt_of_lt_of_le (show ds.length < 200 by omega) big200) ?_
          have J := I.push et nt (by decide) (fits_join ntwo (by omega) (by split at n5 <;> omega)) (by rw [behind_join]; have := I.n24; omega)
          rw [behind_join] at J
          walk_at "rds"
          exact ⟨_, _, l5, rfl, by omega, by rw [List.length_append]; show 2 * (ds.length + 1) + _ ≤ _; omega, { J with l := by rw [List.length_append]; show ds.length + 1 ≤ 200; omega }⟩
        · rw [decide_eq_false e0]
          have n0 : n = 0 := by have := I.n0; omega
          subst n0
          walk_at "rds"
          exact k _ l p us ds (by omega) I.f.D I.f.B I.f.hp I.f.np I.f.ls I.f.ds I.t (by omega) I.r
end
end K27
namespace K27
open PySem PySem.Spec PyProof.Rows L2 Rp LamX RZ
abbrev sLawHeard : Stmt := top 37
theorem scLawHeard : FnScope ["ask", "caught", "error", "kinds", "word", "is_so"] ["ask"] (defScope sLawHeard) := ⟨rfl, rfl, rfl, by decide +kernel, rfl, by decide +kernel, by decide +kernel⟩
/-- what is told of an error: its word and its field, or its two fields -/
def hearE (ad : Ad) (Q : VK) : XK := fun cls d G => ∃ (C dd : Addr), cls = .ref C ∧ d = some dd ∧ ((∃ (word : Str) (v : V), G dd = some (.xd [("part", v)]) ∧ (C, word) ∈ ([(ad.c_BadTangle, "tangle"), (ad.c_Misfit, "misfit")] : List (Addr × Str)) ∧ ∀ G2 p, Same G G2 → G p = none → G2 p = some (.tup [.str word, v]) → Q (.ref p) G2) ∨
  (∃ v u : V, C = ad.c_TooMany ∧ G dd = some (.xd [("most", u), ("what", v)]) ∧ ∀ G2 p, Same G G2 → G p = none → G2 p = some (.tup [v, u]) → Q (.ref p) G2))
def TTh (ad : Ad) : (XK → Hp → VK → Prop) → Hp → VK → Prop := fun tl H Q => ∃ (Ech : XK) (R0 : VK), tl Ech H R0 ∧ (∀ v G, R0 v G → ∀ G2, Same G G2 → Q .non G2) ∧ ∀ cls d G, Ech cls d G → hearE ad Q cls d G
structure HdT (K : PySem.W.Frag) (ad : Ad) : Prop where
  e_BadTangle : ErrK K ad.c_BadTangle ad.c_RopeError "part"
  e_Misfit : ErrK K ad.c_Misfit ad.c_RopeError "part"
  e_TooMany : ErrK K ad.c_TooMany ad.c_RopeError "what"
  m_TooMany : PySem.W.findIn K (.ref ad.c_TooMany) "most" = some none
  n_BadText : PySem.W.kitOne K (.type "NoneType") (.ref ad.c_BadText) = some false
  k_BadTangle_TooMany : PySem.W.kitOne K (.ref ad.c_BadTangle) (.ref ad.c_TooMany) = some false
  k_BadTangle_BadText : PySem.W.kitOne K (.ref ad.c_BadTangle) (.ref ad.c_BadText) = some false
  k_BadTangle_BadTangle : PySem.W.kitOne K (.ref ad.c_BadTangle) (.ref ad.c_BadTangle) = some true
  k_BadTangle_Misfit : PySem.W.kitOne K (.ref ad.c_BadTangle) (.ref ad.c_Misfit) = some false
  k_Misfit_TooMany : PySem.W.kitOne K (.ref ad.c_Misfit) (.ref ad.c_TooMany) = some false
  k_Misfit_BadText : PySem.W.kitOne K (.ref ad.c_Misfit) (.ref ad.c_BadText) = some false
  k_Misfit_BadTangle : PySem.W.kitOne K (.ref ad.c_Misfit) (.ref ad.c_BadTangle) = some false
  k_Misfit_Misfit : PySem.W.kitOne K (.ref ad.c_Misfit) (.ref ad.c_Misfit) = some true
  k_TooMany_TooMany : PySem.W.kitOne K (.ref ad.c_TooMany) (.ref ad.c_TooMany) = some true
  k_TooMany_BadText : PySem.W.kitOne K (.ref ad.c_TooMany) (.ref ad.c_BadText) = some false
  k_TooMany_BadTangle : PySem.W.kitOne K (.ref ad.c_TooMany) (.ref ad.c_BadTangle) = some false
  k_TooMany_Misfit : PySem.W.kitOne K (.ref ad.c_TooMany) (.ref ad.c_Misfit) = some false
section
theorem heard_gives {X : Cx} {g : Addr} {cdv : Value} {q : Str} {ad : Ad} (T : Txt X.K X.mg ad) (T2 : HdT X.K ad) : GivesG X ["ask", "caught", "error", "kinds", "word", "is_so"] "_law_heard" (defScope sLawHeard) g cdv (defBody sLawHeard) "ask" q (TTh ad) := by
  intro f c' s H Q tl act hc h
  obtain ⟨Ech, R0, ht, h1, h2⟩ := h
  refine ⟨_, (pss_cons (ps_set (i := 1) scLawHeard.nd rfl (Or.inl rfl) pe_non)
  (pss_cons (ps_tryT (i := 2) (tb := fun W => tTake f c' q 6 tl W) (ts := fun _ _ _ => tAsg (tVar 2) (gName 1)) (Wout := fun _ _ _ _ => False) rfl rfl rfl scLawHeard.nd rfl rfl ⟨by rfl, by decide, Or.inl T.g_RopeError⟩ L2.takes0 (fun W pn xe tk _ => pss_take rfl tk fun E t2 w2 => act _ pn xe E _ _ t2 w2) (fun a oe cls d pn _ _ => pss_one (ps_set (i := 1) scLawHeard.nd rfl (Or.inl rfl) (pv 2))))
  (pss_cons (ps_if (pt_val (pe_callB call_isO (by rfl) T.z_isinstance (by decide +kernel) (pa_cons (pv 1) (pa_cons (pe_glob (v := .ref ad.c_TooMany) (by rfl) T.g_TooMany rfl) pa_nil))))
  (pss_one (ps_ret (pe_tup (pa_cons (pe_xt (pv 1)) (pa_cons (pe_xt (pv 1)) pa_nil)))))
  pss_nil)
  (pss_cons (ps_if (pt_val (pe_callB call_isO (by rfl) T.z_isinstance (by decide +kernel) (pa_cons (pv 1) (pa_cons (pe_glob (v := .ref ad.c_BadText) (by rfl) T.g_BadText rfl) pa_nil))))
  (pss_one (ps_ret (pe_tup (pa_cons (pe_xt (pv 1)) (pa_cons (pe_xt (pv 1)) pa_nil)))))
  pss_nil)
  (pss_cons (ps_set (i := 3) scLawHeard.nd rfl (Or.inl rfl) (pe_lst (pa_cons (pe_tup (pa_cons pe_str (pa_cons (pe_callB call_isO (by rfl) T.z_isinstance (by decide +kernel) (pa_cons (pv 1) (pa_cons (pe_glob (v := .ref ad.c_BadTangle) (by rfl) T.g_BadTangle rfl) pa_nil))) pa_nil))) (pa_cons (pe_tup (pa_cons pe_str (pa_cons (pe_callB call_isO (by rfl) T.z_isinstance (by decide +kernel) (pa_cons (pv 1) (pa_cons (pe_glob (v := .ref ad.c_Misfit) (by rfl) T.g_Misfit rfl) pa_nil))) pa_nil))) pa_nil))))
  (pss_cons (ps_for PassesOwn.never rfl (pi_list (pv 3)) (pg_tup rfl (pgs_cons (pg_name (i := 4) scLawHeard.nd rfl (Or.inl rfl)) (pgs_cons (pg_name (i := 5) scLawHeard.nd rfl (Or.inl rfl)) pgs_nil)))
  (pss_one (ps_if (pt_val (pv 5))
  (pss_one (ps_ret (pe_tup (pa_cons (pv 4) (pa_cons (pe_xt (pv 1)) pa_nil)))))
  pss_nil)))
  (pss_one (ps_ret (pe_ifExp (pt_cmpR op_isN (pv 1) pe_non (nomark _)) pe_non (pe_tup (pa_cons pe_str (pa_cons pe_non pa_nil)))))))))))), ?_⟩
  refine r_start (l := [some (.ref f), none, none, none, none, none]) rfl ?_
  walk_at "rds"
  refine ⟨Ech, R0, fun cls d σ' Ga he hl => ?_, rfl, hc, ht, fun v Gr r0 => ?_⟩
  · obtain ⟨C, dd, rfl, rfl, hh⟩ := h2 _ _ _ he
    obtain ⟨a0, a1, a2, a3, a4, a5, rfl⟩ : ∃ a0 a1 a2 a3 a4 a5, σ' = [a0, a1, a2, a3, a4, a5] := match σ', hl with | [a0, a1, a2, a3, a4, a5], _ => ⟨a0, a1, a2, a3, a4, a5, rfl⟩
    rcases hh with ⟨word, v, hd, mem, k⟩ | ⟨v, u, rfl, hd, k⟩
    · simp only [List.mem_cons, Prod.mk.injEq, List.not_mem_nil, or_false] at mem
      rcases mem with ⟨rfl, rfl⟩ | ⟨rfl, rfl⟩
      · refine ⟨true, T2.e_BadTangle.up, fun _ a na => ?_, fun z => by cases z⟩
        walk_at "rds"
        generalize hG : upd Ga a _ = Ge
        have sG : Same Ga Ge := by rw [← hG]; exact same_neu (Same.refl _) na
        have ea : Ge a = some (ErO a (.ref ad.c_BadTangle) (some dd)) := by rw [← hG]; exact upd_same
        have ed := sG _ _ hd
        clear hG
        walk_at "rds"
        refine r_isE T2.e_BadTangle ea ed T2.k_BadTangle_TooMany ?_
        walk_at "rds"
        refine r_isE T2.e_BadTangle ea ed T2.k_BadTangle_BadText ?_
        walk_at "rds"
        refine r_isE T2.e_BadTangle ea ed T2.k_BadTangle_BadTangle ?_
        walk_at "rds"
        refine ⟨len_ok rfl, fun p0 hp0 => ?_⟩
        generalize hG0 : upd Ge p0 _ = G0
        have s0 : Same Ge G0 := by rw [← hG0]; exact same_neu (Same.refl _) hp0
        have ep0 : G0 p0 = some (.tup [.str "tangle", .bl true]) := by rw [← hG0]; exact upd_same
        replace ea := s0 _ _ ea
        replace ed := s0 _ _ ed
        clear hG0
        walk_at "rds"
        refine r_isE T2.e_BadTangle ea ed T2.k_BadTangle_Misfit ?_
        walk_at "rds"
        refine ⟨len_ok rfl, fun p1 hp1 => ?_⟩
        generalize hG1 : upd G0 p1 _ = G1
        have s1 : Same G0 G1 := by rw [← hG1]; exact same_neu (Same.refl _) hp1
        have ep1 : G1 p1 = some (.tup [.str "misfit", .bl false]) := by rw [← hG1]; exact upd_same
        replace ep0 := s1 _ _ ep0
        replace ea := s1 _ _ ea
        replace ed := s1 _ _ ed
        clear hG1
        walk_at "rds"
        refine ⟨len_ok rfl, fun pl hpl => ?_⟩
        generalize hGl : upd G1 pl _ = Gl
        have sl : Same G1 Gl := by rw [← hGl]; exact same_neu (Same.refl _) hpl
        have el : Gl pl = some (.lst [.ref p0, .ref p1]) := by rw [← hGl]; exact upd_same
        replace ep0 := sl _ _ ep0
        replace ep1 := sl _ _ ep1
        replace ea := sl _ _ ea
        replace ed := sl _ _ ed
        clear hGl
        have all : ∀ b o, Ga b = some o → Gl b = some o := fun b o e => (sl _ _ (s1 _ _ (s0 _ _ (sG _ _ e))))
        walk_at "rds"
        refine ⟨pl, rfl, ⟨_, SqL.of el⟩, ?_⟩
        refine for_list (K := X.K) (a := pl) (xs := [.ref p0, .ref p1]) (fun i σ G => i = 0 ∧ (∃ x y, σ = [a0, some (.ref a), none, some (.ref pl), x, y]) ∧ G = Gl) ⟨rfl, ⟨_, _, rfl⟩, rfl⟩ (fun i σ G _ h => by rw [h.2.2]; exact SqL.of el) ?_ ?_
        · rintro i x σ G hx ⟨hi, ⟨x0, y0, rfl⟩, rfl⟩
          match i, hx with
          | 0, hx =>
            cases Option.some.inj hx
            refine r_gtup ⟨_, _, rfl, SqT.of ep0, rfl, ?_⟩
            refine ⟨_, _, rfl, ?_⟩
            walk_at "rds"
            refine ⟨_, _, rfl, ?_⟩
            walk_at "rds"
            refine ⟨rfl, ?_⟩
            walk_at "rds"
            refine ⟨a, _, dd, _, v, rfl, T2.e_BadTangle.xf, T2.e_BadTangle.no, ea, ed, by simp [List.lookup], ?_⟩
            walk_at "rds"
            refine ⟨len_ok rfl, fun pr hpr => ?_⟩
            refine k _ pr (fun b o e => ?_) ?_ upd_same
            · rw [upd_ne (ne_of_none (all b o e) hpr)]
              exact all b o e
            · cases z : Ga pr with
              | none => rfl
              | some o => cases hpr.symm.trans (all pr o z)
          | 1, hx =>
            cases hi
          | i + 2, hx => simp at hx
        · rintro σ G ⟨hi, ⟨x0, y0, rfl⟩, rfl⟩
          exact absurd (show 2 = 0 from hi) (by decide)
      · refine ⟨true, T2.e_Misfit.up, fun _ a na => ?_, fun z => by cases z⟩
        walk_at "rds"
        generalize hG : upd Ga a _ = Ge
        have sG : Same Ga Ge := by rw [← hG]; exact same_neu (Same.refl _) na
        have ea : Ge a = some (ErO a (.ref ad.c_Misfit) (some dd)) := by rw [← hG]; exact upd_same
        have ed := sG _ _ hd
        clear hG
        walk_at "rds"
        refine r_isE T2.e_Misfit ea ed T2.k_Misfit_TooMany ?_
        walk_at "rds"
        refine r_isE T2.e_Misfit ea ed T2.k_Misfit_BadText ?_
        walk_at "rds"
        refine r_isE T2.e_Misfit ea ed T2.k_Misfit_BadTangle ?_
        walk_at "rds"
        refine ⟨len_ok rfl, fun p0 hp0 => ?_⟩
        generalize hG0 : upd Ge p0 _ = G0
        have s0 : Same Ge G0 := by rw [← hG0]; exact same_neu (Same.refl _) hp0
        have ep0 : G0 p0 = some (.tup [.str "tangle", .bl false]) := by rw [← hG0]; exact upd_same
        replace ea := s0 _ _ ea
        replace ed := s0 _ _ ed
        clear hG0
        walk_at "rds"
        refine r_isE T2.e_Misfit ea ed T2.k_Misfit_Misfit ?_
        walk_at "rds"
        refine ⟨len_ok rfl, fun p1 hp1 => ?_⟩
        generalize hG1 : upd G0 p1 _ = G1
        have s1 : Same G0 G1 := by rw [← hG1]; exact same_neu (Same.refl _) hp1
        have ep1 : G1 p1 = some (.tup [.str "misfit", .bl true]) := by rw [← hG1]; exact upd_same
        replace ep0 := s1 _ _ ep0
        replace ea := s1 _ _ ea
        replace ed := s1 _ _ ed
        clear hG1
        walk_at "rds"
        refine ⟨len_ok rfl, fun pl hpl => ?_⟩
        generalize hGl : upd G1 pl _ = Gl
        have sl : Same G1 Gl := by rw [← hGl]; exact same_neu (Same.refl _) hpl
        have el : Gl pl = some (.lst [.ref p0, .ref p1]) := by rw [← hGl]; exact upd_same
        replace ep0 := sl _ _ ep0
        replace ep1 := sl _ _ ep1
        replace ea := sl _ _ ea
        replace ed := sl _ _ ed
        clear hGl
        have all : ∀ b o, Ga b = some o → Gl b = some o := fun b o e => (sl _ _ (s1 _ _ (s0 _ _ (sG _ _ e))))
        walk_at "rds"
        refine ⟨pl, rfl, ⟨_, SqL.of el⟩, ?_⟩
        refine for_list (K := X.K) (a := pl) (xs := [.ref p0, .ref p1]) (fun i σ G => i ≤ 1 ∧ (∃ x y, σ = [a0, some (.ref a), none, some (.ref pl), x, y]) ∧ G = Gl) ⟨Nat.zero_le _, ⟨_, _, rfl⟩, rfl⟩ (fun i σ G _ h => by rw [h.2.2]; exact SqL.of el) ?_ ?_
        · rintro i x σ G hx ⟨hi, ⟨x0, y0, rfl⟩, rfl⟩
          match i, hx with
          | 0, hx =>
            cases Option.some.inj hx
            refine r_gtup ⟨_, _, rfl, SqT.of ep0, rfl, ?_⟩
            refine ⟨_, _, rfl, ?_⟩
            walk_at "rds"
            refine ⟨_, _, rfl, ?_⟩
            walk_at "rds"
            refine ⟨rfl, ?_⟩
            walk_at "rds"
            exact ⟨Nat.le_refl _, ⟨_, _, rfl⟩, rfl⟩
          | 1, hx =>
            cases Option.some.inj hx
            refine r_gtup ⟨_, _, rfl, SqT.of ep1, rfl, ?_⟩
            refine ⟨_, _, rfl, ?_⟩
            walk_at "rds"
            refine ⟨_, _, rfl, ?_⟩
            walk_at "rds"
            refine ⟨rfl, ?_⟩
            walk_at "rds"
            refine ⟨a, _, dd, _, v, rfl, T2.e_Misfit.xf, T2.e_Misfit.no, ea, ed, by simp [List.lookup], ?_⟩
            walk_at "rds"
            refine ⟨len_ok rfl, fun pr hpr => ?_⟩
            refine k _ pr (fun b o e => ?_) ?_ upd_same
            · rw [upd_ne (ne_of_none (all b o e) hpr)]
              exact all b o e
            · cases z : Ga pr with
              | none => rfl
              | some o => cases hpr.symm.trans (all pr o z)
          | i + 2, hx => simp at hx
        · rintro σ G ⟨hi, ⟨x0, y0, rfl⟩, rfl⟩
          exact absurd (show 2 ≤ 1 from hi) (by decide)
    · refine ⟨true, T2.e_TooMany.up, fun _ a na => ?_, fun z => by cases z⟩
      walk_at "rds"
      generalize hG : upd Ga a _ = Ge
      have sG : Same Ga Ge := by rw [← hG]; exact same_neu (Same.refl _) na
      have ea : Ge a = some (ErO a (.ref ad.c_TooMany) (some dd)) := by rw [← hG]; exact upd_same
      have ed := sG _ _ hd
      clear hG
      walk_at "rds"
      refine r_isE T2.e_TooMany ea ed T2.k_TooMany_TooMany ?_
      walk_at "rds"
      have all : ∀ b o, Ga b = some o → Ge b = some o := fun b o e => sG b o e
      refine ⟨a, _, dd, _, v, rfl, T2.e_TooMany.xf, T2.e_TooMany.no, ea, ed, by rfl, ?_⟩
      walk_at "rds"
      refine ⟨a, _, dd, _, u, rfl, T2.e_TooMany.xf, T2.m_TooMany, ea, ed, by simp [List.lookup], ?_⟩
      walk_at "rds"
      refine ⟨len_ok rfl, fun pr hpr => ?_⟩
      refine k _ pr (fun b o e => ?_) ?_ upd_same
      · rw [upd_ne (ne_of_none (all b o e) hpr)]
        exact all b o e
      · cases z : Ga pr with
        | none => rfl
        | some o => cases hpr.symm.trans (all pr o z)
  · walk_at "rds"
    refine .inr ⟨.non, .ref ad.c_TooMany, _, .ref ad.c_TooMany, false, rfl, .own _, .base .non, T2.e_TooMany.nn, ?_⟩
    walk_at "rds"
    refine .inr ⟨.non, .ref ad.c_BadText, _, .ref ad.c_BadText, false, rfl, .own _, .base .non, T2.n_BadText, ?_⟩
    walk_at "rds"
    refine .inr ⟨.non, .ref ad.c_BadTangle, _, .ref ad.c_BadTangle, false, rfl, .own _, .base .non, T2.e_BadTangle.nn, ?_⟩
    walk_at "rds"
    refine ⟨len_ok rfl, fun p0 hp0 => ?_⟩
    generalize hG0 : upd Gr p0 _ = G0
    have s0 : Same Gr G0 := by rw [← hG0]; exact same_neu (Same.refl _) hp0
    have ep0 : G0 p0 = some (.tup [.str "tangle", .bl false]) := by rw [← hG0]; exact upd_same
    clear hG0
    walk_at "rds"
    refine .inr ⟨.non, .ref ad.c_Misfit, _, .ref ad.c_Misfit, false, rfl, .own _, .base .non, T2.e_Misfit.nn, ?_⟩
    walk_at "rds"
    refine ⟨len_ok rfl, fun p1 hp1 => ?_⟩
    generalize hG1 : upd G0 p1 _ = G1
    have s1 : Same G0 G1 := by rw [← hG1]; exact same_neu (Same.refl _) hp1
    have ep1 : G1 p1 = some (.tup [.str "misfit", .bl false]) := by rw [← hG1]; exact upd_same
    replace ep0 := s1 _ _ ep0
    clear hG1
    walk_at "rds"
    refine ⟨len_ok rfl, fun pl hpl => ?_⟩
    generalize hGl : upd G1 pl _ = Gl
    have sl : Same G1 Gl := by rw [← hGl]; exact same_neu (Same.refl _) hpl
    have el : Gl pl = some (.lst [.ref p0, .ref p1]) := by rw [← hGl]; exact upd_same
    replace ep0 := sl _ _ ep0
    replace ep1 := sl _ _ ep1
    clear hGl
    have all : ∀ b o, Gr b = some o → Gl b = some o := fun b o e => (sl _ _ (s1 _ _ (s0 _ _ e)))
    walk_at "rds"
    refine ⟨pl, rfl, ⟨_, SqL.of el⟩, ?_⟩
    refine for_list (K := X.K) (a := pl) (xs := [.ref p0, .ref p1]) (fun i σ G => True ∧ (∃ x y, σ = [some (.ref f), some .non, none, some (.ref pl), x, y]) ∧ G = Gl) ⟨trivial, ⟨_, _, rfl⟩, rfl⟩ (fun i σ G _ h => by rw [h.2.2]; exact SqL.of el) ?_ ?_
    · rintro i x σ G hx ⟨hi, ⟨x0, y0, rfl⟩, rfl⟩
      match i, hx with
      | 0, hx =>
        cases Option.some.inj hx
        refine r_gtup ⟨_, _, rfl, SqT.of ep0, rfl, ?_⟩
        refine ⟨_, _, rfl, ?_⟩
        walk_at "rds"
        refine ⟨_, _, rfl, ?_⟩
        walk_at "rds"
        refine ⟨rfl, ?_⟩
        walk_at "rds"
        exact ⟨trivial, ⟨_, _, rfl⟩, rfl⟩
      | 1, hx =>
        cases Option.some.inj hx
        refine r_gtup ⟨_, _, rfl, SqT.of ep1, rfl, ?_⟩
        refine ⟨_, _, rfl, ?_⟩
        walk_at "rds"
        refine ⟨_, _, rfl, ?_⟩
        walk_at "rds"
        refine ⟨rfl, ?_⟩
        walk_at "rds"
        exact ⟨trivial, ⟨_, _, rfl⟩, rfl⟩
      | i + 2, hx => simp at hx
    · rintro σ G ⟨hi, ⟨x0, y0, rfl⟩, rfl⟩
      walk_at "rds"
      refine ⟨rfl, ?_⟩
      rw [decide_eq_true rfl]
      walk_at "rds"
      exact h1 v Gr r0 _ all
end
end K27
namespace K27
open PySem PySem.Spec PyProof.Rows L2 Rp LamX RZ

def spLawFits : Sp := fun vs H Q _ => ∃ (m g : Int) (w : Str), vs = [.int m, .str w, .int g] ∧ Q (.bl (lawFits m w g)) H
def spLawThen : Sp := fun vs H Q _ => ∃ (m : Int) (w : Str), vs = [.int m, .str w] ∧ Q (.int (behind w m)) H
/-- None, or a pair -/
def TwoV (H : Hp) (v : V) : Option (V × V) → Prop
  | none => v = .non
  | some (x, y) => ∃ p, v = .ref p ∧ H p = some (.tup [x, y])
def dueO : Option Bool → Option (V × V)
  | none => none
  | some false => some (.str "misfit", .str "deeds")
  | some true => some (.str "ends", .int 24)
def spLawDue : Sp := fun vs H Q _ => ∃ (q a : Addr) (us : List V) (ds : Dl) (m : Int), vs = [.int m, .ref a] ∧ H a = some (.lst us) ∧ DsV q H us ds ∧ 0 ≤ m ∧ m ≤ 24 ∧ m % 2 = 0 ∧ ∀ H' v, Same H H' → TwoV H' v (dueO (demF ds m)) → Q v H'
def spBent : Sp := fun vs H Q _ => ∃ (q c a : Addr) (ns : List Int) (lap : Nat) (us : List V) (ds : Dl), vs = [.ref q, .ref a] ∧ a ≠ q ∧ H a = some (.lst us) ∧ DsV q H us ds ∧ Typ 23 ds ∧ ds.length ≤ 200 ∧ lap + 100 < 2 ^ 20 ∧ Dr q c ns lap H ∧
  ∀ (H' : Hp) (lap' : Nat) (p : Addr) (us : List V) (es : Dl), lap' ≤ lap + 20 → Dr q c ns lap' H' → But q H H' → H p = none → p ≠ q → H' p = some (.lst us) → DsV q H' us es → Typ 23 es → es.length ≤ ds.length + 1 → Q (.ref p) H'

section
variable {P : Program} {w : World} {K : PySem.W.Frag} {mg : Str → Option Value} {base : Heap} {ad : Ad}
abbrev sLawFits : Stmt := top 35
theorem scLawFits : FnScope ["now", "word", "gap"] ["now", "word", "gap"] (defScope sLawFits) := ⟨rfl, rfl, rfl, by decide +kernel, rfl, by decide +kernel, by decide +kernel⟩
theorem ok_LawFits {f : Addr} {fd : FuncData} (F : Fun K "_law_fits" "_law_fits" sLawFits f fd) (T : Txt K mg ad) (hM : HasMods base)   : FnG P w K mg base 1 f fd ["now", "word", "gap"] spLawFits := by
  refine fng F scLawFits (fun {vs H Q E} h => ?_) (fun {cdv A fr s H vs Q E} hg hr h => ?_)
  · obtain ⟨m, g, w, rfl, k⟩ := h
    rfl
  · obtain ⟨m, g, w, rfl, k⟩ := h
    refine ⟨_, (pss_cons (ps_if (pt_cmpR op_eq (pv 1) pe_str (nomark _))
  (pss_one (ps_ret (pe_ifExp (pt_cmpR op_eq (pv 0) pe_int (nomark _)) (pe_cmpR op_eq (pv 2) pe_int (nomark _)) (pe_chain op_le op_le pe_int (pv 2) (pe_op op_sub (pv 0) pe_int)))))
  pss_nil)
  (pss_one (ps_ret (pe_chain op_le op_lt pe_int (pv 2) (pe_ifExp (pt_cmpR op_eq (pv 1) pe_str (nomark _)) (pe_callB (call_max2 rfl) (by rfl) T.z_max (by decide +kernel) (pa_cons pe_int (pa_cons (pv 0) pa_nil))) (pv 0)))))), ?_⟩
    refine r_start (l := [some (.int m), some (.str w), some (.int g)]) rfl ?_
    walk_at "rds"
    by_cases hj : w = "join"
    · subst hj
      rw [decide_eq_true rfl]
      have e : lawFits m "join" g = (if m = 2 then decide (g = 1) else (decide (1 ≤ g) && decide (g ≤ m - 2))) := rfl
      rw [e] at k
      walk_at "rds"
      refine ⟨rfl, ?_⟩
      by_cases h2 : m = 2
      · subst h2
        rw [if_pos rfl] at k
        rw [show decide (V.int 2 = V.int 2) = true from rfl]
        walk_at "rds"
        refine ⟨rfl, ?_⟩
        rw [show decide (V.int g = V.int 1) = decide (g = 1) from decide_eq_decide.mpr ⟨V.int.inj, congrArg V.int⟩]
        exact k
      · rw [if_neg h2] at k
        rw [decide_eq_false (fun z => h2 (V.int.inj z))]
        walk_at "rds"
        by_cases h1 : 1 ≤ g
        · rw [decide_eq_true h1]
          rw [decide_eq_true h1, Bool.true_and] at k
          walk_at "rds"
          exact k
        · rw [decide_eq_false h1]
          rw [decide_eq_false h1, Bool.false_and] at k
          walk_at "rds"
          exact k
    · rw [decide_eq_false hj]
      have e : lawFits m w g = (decide (0 ≤ g) && decide (g < (if w = "open" then (if m > 1 then m else 1) else m))) := by unfold lawFits; rw [if_neg hj]
      rw [e] at k
      walk_at "rds"
      by_cases h1 : 0 ≤ g
      · rw [decide_eq_true h1]
        rw [decide_eq_true h1, Bool.true_and] at k
        walk_at "rds"
        by_cases ho : w = "open"
        · rw [decide_eq_true ho]
          rw [if_pos ho] at k
          walk_at "rds"
          refine ⟨_, _, rfl, ?_⟩
          walk_at "rds"
          exact k
        · rw [decide_eq_false ho]
          rw [if_neg ho] at k
          walk_at "rds"
          exact k
      · rw [decide_eq_false h1]
        rw [decide_eq_false h1, Bool.false_and] at k
        walk_at "rds"
        exact k
abbrev sLawThen : Stmt := top 36
theorem scLawThen : FnScope ["now", "word"] ["now", "word"] (defScope sLawThen) := ⟨rfl, rfl, rfl, by decide +kernel, rfl, by decide +kernel, by decide +kernel⟩
theorem ok_LawThen {f : Addr} {fd : FuncData} (F : Fun K "_law_then" "_law_then" sLawThen f fd) (T : Txt K mg ad) (hM : HasMods base)   : FnG P w K mg base 1 f fd ["now", "word"] spLawThen := by
  refine fng F scLawThen (fun {vs H Q E} h => ?_) (fun {cdv A fr s H vs Q E} hg hr h => ?_)
  · obtain ⟨m, w, rfl, k⟩ := h
    rfl
  · obtain ⟨m, w, rfl, k⟩ := h
    refine ⟨_, (pss_one (ps_ret (pe_ifExp (pt_cmpR op_eq (pv 1) pe_str (nomark _)) (pe_op op_add (pv 0) pe_int) (pe_ifExp (pt_cmpR op_eq (pv 1) pe_str (nomark _)) (pe_op op_sub (pv 0) pe_int) (pv 0))))), ?_⟩
    refine r_start (l := [some (.int m), some (.str w)]) rfl ?_
    walk_at "rds"
    by_cases ho : w = "open"
    · subst ho
      rw [decide_eq_true rfl]
      walk_at "rds"
      exact k
    · rw [decide_eq_false ho]
      walk_at "rds"
      by_cases hj : w = "join"
      · subst hj
        rw [decide_eq_true rfl]
        walk_at "rds"
        exact k
      · rw [decide_eq_false hj]
        walk_at "rds"
        have e : behind w m = m := by unfold behind; rw [if_neg hj, if_neg ho]
        rw [e] at k
        exact k
abbrev sLawDue : Stmt := top 38
theorem scLawDue : FnScope ["ends", "deeds", "now", "word", "gap"] ["ends", "deeds"] (defScope sLawDue) := ⟨rfl, rfl, rfl, by decide +kernel, rfl, by decide +kernel, by decide +kernel⟩
theorem ok_LawDue {f : Addr} {fd : FuncData} (F : Fun K "_law_due" "_law_due" sLawDue f fd) (T : Txt K mg ad) (hM : HasMods base)  {f0 : Addr} {fd0 : FuncData} (cLawThen : Cal P w K mg base "_law_then" 1 f0 fd0 ["now", "word"] spLawThen) {f1 : Addr} {fd1 : FuncData} (cLawFits : Cal P w K mg base "_law_fits" 1 f1 fd1 ["now", "word", "gap"] spLawFits) : FnG P w K mg base 2 f fd ["ends", "deeds"] spLawDue := by
  refine fng F scLawDue (fun {vs H Q E} h => ?_) (fun {cdv A fr s H vs Q E} hg hr h => ?_)
  · obtain ⟨q, a, us, ds, m, rfl, ha, hds, h0, h24, h2, k⟩ := h
    rfl
  · obtain ⟨q, a, us, ds, m, rfl, ha, hds, h0, h24, h2, k⟩ := h
    refine ⟨_, (pss_cons (ps_set (i := 2) scLawDue.nd rfl (Or.inl rfl) (pv 0))
  (pss_cons (ps_for PassesOwn.never rfl (pi_list (pv 1)) (pg_tup rfl (pgs_cons (pg_name (i := 3) scLawDue.nd rfl (Or.inl rfl)) (pgs_cons (pg_name (i := 4) scLawDue.nd rfl (Or.inl rfl)) pgs_nil)))
  (pss_cons (ps_if (pt_not (pt_val (pe_go cLawFits hg (hr.mono (by decide)) (by rfl) (pa_cons (pv 2) (pa_cons (pv 3) (pa_cons (pv 4) pa_nil))))))
  (pss_one (ps_ret (pe_tup (pa_cons pe_str (pa_cons pe_str pa_nil)))))
  pss_nil)
  (pss_cons (ps_if (PW.pt (pw_and (pt_cmpR op_eq (pv 3) pe_str (nomark _)) (pw_and1 (pt_cmpR op_eq (pv 2) pe_int (nomark _)))))
  (pss_one (ps_ret (pe_tup (pa_cons pe_str (pa_cons pe_int pa_nil)))))
  pss_nil)
  (pss_one (ps_set (i := 2) scLawDue.nd rfl (Or.inl rfl) (pe_go cLawThen hg (hr.mono (by decide)) (by rfl) (pa_cons (pv 2) (pa_cons (pv 3) pa_nil))))))))
  (pss_one (ps_ret (pe_ifExp (pt_cmpR op_eq (pv 2) pe_int (nomark _)) pe_non (pe_tup (pa_cons pe_str (pa_cons pe_str pa_nil)))))))), ?_⟩
    refine r_start (l := [some (.int m), some (.ref a), none, none, none]) rfl ?_
    walk_at "rds"
    refine ⟨a, rfl, ⟨_, SqL.of ha⟩, ?_⟩
    refine for_list (K := K) (a := a) (xs := us) (fun i σ G => ∃ (n : Int) (x y : Option V), σ = [some (.int m), some (.ref a), some (.int n), x, y] ∧ Same H G ∧ 0 ≤ n ∧ n ≤ 24 ∧ n % 2 = 0 ∧ demF ds m = demF (ds.drop i) n) ⟨m, none, none, rfl, Same.refl H, h0, h24, h2, rfl⟩ (fun i σ G _ ⟨_, _, _, _, sG, _⟩ => SqL.of (sG _ _ ha)) ?_ ?_
    · rintro i x σ G hx ⟨n, x0, y0, rfl, sG, n0, n24, n2, hn⟩
      obtain ⟨t, w, g, rfl, nt, et, ei⟩ := hds.at hx
      have hd : ds.drop i = (w, g) :: ds.drop (i + 1) := by
        obtain ⟨hi, e⟩ := List.getElem?_eq_some_iff.mp ei
        rw [List.drop_eq_getElem_cons hi, e]
      rw [hd] at hn
      refine r_gtup ⟨_, _, rfl, SqT.of (sG _ _ et), rfl, ?_⟩
      refine ⟨_, _, rfl, ?_⟩
      walk_at "rds"
      refine ⟨_, _, rfl, ?_⟩
      walk_at "rds"
      refine ⟨rfl, ?_⟩
      walk_at "rds"
      refine ⟨n, g, w, rfl, ?_⟩
      rw [lawFits_eq n0 n2]
      cases ef : fitsG w n g with
      | false =>
        have hs : demF ds m = some false := by
          rw [hn]
          show (if fitsG w n g then _ else some false) = _
          rw [ef]
          rfl
        walk_at "rds"
        refine ⟨len_ok rfl, fun p hp => ?_⟩
        exact k _ _ (same_neu sG hp) (by rw [hs]; exact ⟨p, rfl, upd_same⟩)
      | true =>
        have b0 := fits_ends n0 n2 ef
        have b2 := even_behind (w := w) n2
        have hs : demF ds m = if behind w n > 24 then some true else demF (ds.drop (i + 1)) (behind w n) := by
          rw [hn]
          show (if fitsG w n g then _ else some false) = _
          rw [ef]
          rfl
        walk_at "rds"
        by_cases hc : w = "open" ∧ n = 24
        · obtain ⟨rfl, rfl⟩ := hc
          rw [decide_eq_true rfl]
          walk_at "rds"
          refine ⟨rfl, ?_⟩
          rw [show decide (V.int 24 = V.int 24) = true from rfl]
          walk_at "rds"
          rw [if_pos (by decide)] at hs
          refine ⟨len_ok rfl, fun p hp => ?_⟩
          exact k _ _ (same_neu sG hp) (by rw [hs]; exact ⟨p, rfl, upd_same⟩)
        · have nb : ¬ behind w n > 24 := by
            unfold behind
            split
            · omega
            · split
              · rename_i ho
                have : n ≠ 24 := fun z => hc ⟨ho, z⟩
                omega
              · omega
          rw [if_neg nb] at hs
          have next : ∀ {D : Ends}, True := trivial
          by_cases ho : w = "open"
          · have nn : n ≠ 24 := fun z => hc ⟨ho, z⟩
            rw [decide_eq_true ho]
            walk_at "rds"
            refine ⟨rfl, ?_⟩
            rw [decide_eq_false (fun z => nn (V.int.inj z))]
            walk_at "rds"
            refine ⟨n, w, rfl, ?_⟩
            walk_at "rds"
            exact ⟨_, _, _, rfl, sG, b0, by omega, b2, hs⟩
          · rw [decide_eq_false ho]
            walk_at "rds"
            refine ⟨n, w, rfl, ?_⟩
            walk_at "rds"
            exact ⟨_, _, _, rfl, sG, b0, by omega, b2, hs⟩
    · rintro σ G ⟨n, x0, y0, rfl, sG, n0, n24, n2, hn⟩
      rw [List.drop_of_length_le (by rw [hds.len]; exact Nat.le_refl _)] at hn
      walk_at "rds"
      refine ⟨rfl, ?_⟩
      by_cases e : n = 0
      · subst e
        rw [show decide (V.int 0 = V.int 0) = true from rfl]
        walk_at "rds"
        exact k _ _ sG (by rw [hn]; rfl)
      · rw [decide_eq_false (fun z => e (V.int.inj z))]
        walk_at "rds"
        refine ⟨len_ok rfl, fun p hp => ?_⟩
        have hs : demF ds m = some false := by rw [hn]; show (if n = 0 then none else some false) = _; rw [if_neg e]
        exact k _ _ (same_neu sG hp) (by rw [hs]; exact ⟨p, rfl, upd_same⟩)
end
end K27
namespace K27
open PySem PySem.Spec PyProof.Rows L2 Rp LamX RZ

def dpD (ds : Dl) : List PyData := ds.map fun d => .tuple [.str d.1, .int d.2]
theorem dp_ds {K : PySem.W.Frag} {q : Addr} {H : Hp} : ∀ {us : List V} {ds : Dl}, DsV q H us ds → DpAll K H us (dpD ds)
  | _, _, .nil => .nil
  | _, _, .cons n e r => .cons (.tup (SqT.of e) (.cons (.str _) (.cons (.int _) .nil))) (dp_ds r)
theorem strOk_W5 : ∀ w ∈ W5, PyData.canLay0 (.str w) = true := by decide +kernel
theorem lay_ds : ∀ {ds : Dl}, Typ 23 ds → PyData.canLayAll0 (dpD ds) = true
  | [], _ => rfl
  | (w, g) :: r, h => by
    have a := strOk_W5 w (h _ (List.mem_cons_self ..)).1
    have b := lay_ds (ds := r) fun d m => h d (List.mem_cons_of_mem _ m)
    show PyData.canLayAll0 (.tuple [.str w, .int g] :: dpD r) = true
    have c : PyData.canLay0 (.tuple [.str w, .int g]) = true := by
      show (PyData.canLay0 (.str w) && (PyData.canLay0 (.int g) && true)) = true
      rw [a]
      rfl
    show (PyData.canLay0 (.tuple [.str w, .int g]) && PyData.canLayAll0 (dpD r)) = true
    rw [c, b]
    rfl
theorem depth_ds : ∀ (ds : Dl), PyData.depthAll (dpD ds) ≤ 1
  | [] => Nat.zero_le _
  | (w, g) :: r => by
    have b := depth_ds r
    show PyData.depthAll (.tuple [.str w, .int g] :: dpD r) ≤ 1
    simp only [PyData.depthAll, PyData.depth] at *
    omega
theorem shaped_ds {ds : Dl} (h : Typ 23 ds) : SeqAt.shaped (.list (dpD ds)) = true := by
  have a := lay_ds h
  have b := depth_ds ds
  unfold SeqAt.shaped
  simp only [PyData.canLay0, a, PyData.depth, Bool.true_and]
  exact decide_eq_true (by omega)
theorem eqv_nil_ds (ds : Dl) : PyData.eqv (.list (dpD ds)) (.list []) = ds.isEmpty := by
  cases ds <;> simp [dpD, PyData.eqv, PyData.eqvAll]
theorem eq_nil_ds {K : PySem.W.Frag} {q p p2 : Addr} {H : Hp} {us : List V} {ds : Dl} {Q : VK} (e : H p = some (.lst us)) (d : DsV q H us ds) (t : Typ 23 ds) (e2 : H p2 = some (.lst [])) (h : Q (.bl ds.isEmpty) H) : rEqD K (.ref p) (.ref p2) H Q :=
  ⟨_, _, .lst (SqL.of e) (dp_ds d), .lst (SqL.of e2) .nil, shaped_ds t, by decide, by rw [eqv_nil_ds]; exact h⟩
theorem none_back {q c p : Addr} {ns : List Int} {lap : Nat} {H G : Hp} (D : Dr q c ns lap G) (B : But q H G) (h : G p = none) : H p = none := by
  cases z : H p with
  | none => rfl
  | some o =>
    by_cases e : p = q
    · subst e
      obtain ⟨ne, ⟨rest, hb⟩, hc, hl⟩ := D
      rw [hb] at h
      cases h
    · rw [B _ _ e z] at h
      cases h
/-- a list of deeds, new since H -/
structure LsD (q : Addr) (H G : Hp) (p : Addr) (us : List V) (ds : Dl) : Prop where
  hp : H p = none
  np : p ≠ q
  ls : G p = some (.lst us)
  dv : DsV q G us ds
  ty : Typ 23 ds
theorem LsD.but {q p : Addr} {H G G' : Hp} {us : List V} {ds : Dl} (L : LsD q H G p us ds) (b : But q G G') : LsD q H G' p us ds := ⟨L.hp, L.np, b _ _ L.np L.ls, L.dv.but b, L.ty⟩
theorem LsD.new {q c p : Addr} {ns : List Int} {lap : Nat} {H G G' : Hp} {us : List V} {ds : Dl} (hG : upd G p (.lst us) = G') (D : Dr q c ns lap G) (B : But q H G) (h : G p = none) (d : DsV q G us ds) (t : Typ 23 ds) : LsD q H G' p us ds := by
  subst hG
  obtain ⟨_, _, b, n, e⟩ := alloc rfl D B h (o := .lst us)
  exact ⟨none_back D B h, n, e, d.but b, t⟩
theorem min_at {n k : Nat} (h : 0 < n) : ∃ j : Nat, (if ((n : Int) - 1) < (k : Int) then ((n : Int) - 1) else (k : Int)) = (j : Int) ∧ j < n := by
  by_cases e : ((n : Int) - 1) < (k : Int)
  · exact ⟨n - 1, by rw [if_pos e]; omega, by omega⟩
  · exact ⟨k, by rw [if_neg e], by omega⟩
theorem ixN_nat {n k : Nat} (h : k < n) : ixN n (k : Int) = some k := by
  unfold ixN
  simp
  omega
theorem LsD.put {q c p t : Addr} {ns : List Int} {lap lap0 : Nat} {H G G' : Hp} {us : List V} {ds : Dl} {w : Str} {g : Int} {j : Nat} (L : LsD q H G p us ds) (hG : upd G p (.lst (us.set j (.ref t))) = G') (D0 : Dr q c ns lap0 H) (D : Dr q c ns lap G) (B : But q H G) (nt : t ≠ q) (et : G t = some (.tup [.str w, .int g])) (hw : w ∈ W5) (g0 : 0 ≤ g) (g1 : g ≤ 23) :
    Dr q c ns lap G' ∧ But q H G' ∧ LsD q H G' p (us.set j (.ref t)) (ds.set j (w, g)) := by
  subst hG
  have pc : p ≠ c := (ne_of_none D0.cells L.hp).symm
  obtain ⟨ne, ⟨rest, hb⟩, hc, hl⟩ := D
  have k : ∀ b xs, G b = some (.tup xs) → upd G p (.lst (us.set j (.ref t))) b = some (.tup xs) := fun b xs z => by
    rw [upd_ne (ne_of z L.ls (fun z => by cases z))]
    exact z
  exact ⟨⟨ne, ⟨rest, by rw [upd_ne L.np.symm]; exact hb⟩, by rw [upd_ne pc.symm]; exact hc, hl⟩, but_put rfl B L.hp, L.hp, L.np, upd_same, (L.dv.keep k).set nt (k _ _ et) j, L.ty.set hw g0 g1 j⟩
theorem big1000 : 1000 ≤ sizeLine := le_ok rfl
theorem cut_take {us : List V} {k : Nat} (h : k ≤ us.length) : cutV us none (some (k : Int)) = us.take k := cut_lo h
theorem cut_drop {us : List V} {k : Nat} (h : k ≤ us.length) : cutV us (some (k : Int)) none = us.drop k := cut_hi h

section
variable {P : Program} {w : World} {K : PySem.W.Frag} {mg : Str → Option Value} {base : Heap} {ad : Ad}
abbrev sLawBent : Stmt := top 39
theorem scLawBent : FnScope ["turnstile", "deeds", "found", "way", "new", "at", "other", "kept"] ["turnstile", "deeds"] (defScope sLawBent) := ⟨rfl, rfl, rfl, by decide +kernel, rfl, by decide +kernel, by decide +kernel⟩
theorem ok_LawBent {f : Addr} {fd : FuncData} (F : Fun K "_law_bent" "_law_bent" sLawBent f fd) (T : Txt K mg ad) (hM : HasMods base)  {f0 : Addr} {fd0 : FuncData} (cLawToken : Cal P w K mg base "_law_token" 1 f0 fd0 ["turnstile", "many"] spDraw) {f1 : Addr} {fd1 : FuncData} (cLawPick : Cal P w K mg base "_law_pick" 2 f1 fd1 ["turnstile", "some"] (spOf K)) : FnG P w K mg base 3 f fd ["turnstile", "deeds"] spBent := by
  refine fng F scLawBent (fun {vs H Q E} h => ?_) (fun {cdv A fr s H vs Q E} hg hr h => ?_)
  · obtain ⟨q, c, a, ns, lap, us, ds, rfl, na, ha, hds, hty, hlen, hlap, hD, k⟩ := h
    rfl
  · obtain ⟨q, c, a, ns, lap, us, ds, rfl, na, ha, hds, hty, hlen, hlap, hD, k⟩ := h
    refine ⟨_, (pss_cons (ps_par (i := 2) (j := 3) (by rfl) scLawBent.nd rfl rfl (by decide) rfl rfl (pa_cons (pe_callTy call_list_of (by rfl) T.z_list (by decide +kernel) (pa_cons (pv 1) pa_nil)) (pa_cons (pe_go cLawToken hg (hr.mono (by decide)) (by rfl) (pa_cons (pv 0) (pa_cons pe_int pa_nil))) pa_nil)) (by rfl))
  (pss_cons (ps_set (i := 4) scLawBent.nd rfl (Or.inl rfl) (pe_tup (pa_cons (pe_go cLawPick hg (hr.mono (by decide)) (by rfl) (pa_cons (pv 0) (pa_cons (pe_lst (pa_cons pe_str (pa_cons pe_str (pa_cons pe_str (pa_cons pe_str (pa_cons pe_str pa_nil)))))) pa_nil))) (pa_cons (pe_go cLawPick hg (hr.mono (by decide)) (by rfl) (pa_cons (pv 0) (pa_cons (pe_lst (pa_cons pe_int (pa_cons pe_int (pa_cons pe_int (pa_cons pe_int (pa_cons (pe_go cLawToken hg (hr.mono (by decide)) (by rfl) (pa_cons (pv 0) (pa_cons pe_int pa_nil))) pa_nil)))))) pa_nil))) pa_nil))))
  (pss_cons (ps_par (i := 5) (j := 6) (by rfl) scLawBent.nd rfl rfl (by decide) rfl rfl (pa_cons (pe_go cLawToken hg (hr.mono (by decide)) (by rfl) (pa_cons (pv 0) (pa_cons (pe_op op_add (pe_callB call_len_seq (by rfl) T.z_len PySem.boot_len (pa_cons (pv 2) pa_nil)) pe_int) pa_nil))) (pa_cons (pe_go cLawToken hg (hr.mono (by decide)) (by rfl) (pa_cons (pv 0) (pa_cons (pe_op op_add (pe_callB call_len_seq (by rfl) T.z_len PySem.boot_len (pa_cons (pv 2) pa_nil)) pe_int) pa_nil))) pa_nil)) (by rfl))
  (pss_cons (ps_if (PW.pt (pw_or (pt_cmpR op_eq (pv 3) pe_int (nomark _)) (pw_or1 (pt_cmpR (op_eqD hr.units) (pv 2) (pe_lst pa_nil) (nomark _)))))
  (pss_one (ps_ret (pe_op op_cat (pe_op op_cat (pe_slice sl_list (pv 2) po_none (po_some (pv 5))) (pe_lst (pa_cons (pv 4) pa_nil))) (pe_slice sl_list (pv 2) (po_some (pv 5)) po_none))))
  pss_nil)
  (pss_cons (ps_par (i := 5) (j := 6) (by rfl) scLawBent.nd rfl rfl (by decide) rfl rfl (pa_cons (pe_callB (call_min2 rfl) (by rfl) T.z_min (by decide +kernel) (pa_cons (pv 5) (pa_cons (pe_op op_sub (pe_callB call_len_seq (by rfl) T.z_len PySem.boot_len (pa_cons (pv 2) pa_nil)) pe_int) pa_nil))) (pa_cons (pe_callB (call_min2 rfl) (by rfl) T.z_min (by decide +kernel) (pa_cons (pv 6) (pa_cons (pe_op op_sub (pe_callB call_len_seq (by rfl) T.z_len PySem.boot_len (pa_cons (pv 2) pa_nil)) pe_int) pa_nil))) pa_nil)) (by rfl))
  (pss_cons (ps_if (pt_cmpR op_eq (pv 3) pe_int (nomark _))
  (pss_one (ps_ret (pe_op op_cat (pe_slice sl_list (pv 2) po_none (po_some (pv 5))) (pe_slice sl_list (pv 2) (po_some (pe_op op_add (pv 5) pe_int)) po_none))))
  pss_nil)
  (pss_cons (ps_if (pt_cmpR op_eq (pv 3) pe_int (nomark _))
  (pss_one (ps_ret (pe_op op_cat (pe_op op_cat (pe_slice sl_list (pv 2) po_none (po_some (pv 5))) (pe_lst (pa_cons (pe_tup (pa_cons (pe_ix ix_tup (pe_ix ix_list (pv 2) (pv 5) (fun _ _ => rfl)) pe_int (fun _ _ => rfl)) (pa_cons (pe_ix ix_tup (pv 4) pe_int (fun _ _ => rfl)) pa_nil))) pa_nil))) (pe_slice sl_list (pv 2) (po_some (pe_op op_add (pv 5) pe_int)) po_none))))
  pss_nil)
  (pss_cons (ps_if (pt_cmpR op_eq (pv 3) pe_int (nomark _))
  (pss_one (ps_ret (pe_op op_cat (pe_op op_cat (pe_slice sl_list (pv 2) po_none (po_some (pv 5))) (pe_lst (pa_cons (pe_tup (pa_cons (pe_ix ix_tup (pv 4) pe_int (fun _ _ => rfl)) (pa_cons (pe_ix ix_tup (pe_ix ix_list (pv 2) (pv 5) (fun _ _ => rfl)) pe_int (fun _ _ => rfl)) pa_nil))) pa_nil))) (pe_slice sl_list (pv 2) (po_some (pe_op op_add (pv 5) pe_int)) po_none))))
  pss_nil)
  (pss_cons (ps_if (pt_cmpR op_eq (pv 3) pe_int (nomark _))
  (pss_cons (ps_set (i := 7) scLawBent.nd rfl (Or.inl rfl) (pe_ix ix_list (pv 2) (pv 5) (fun _ _ => rfl)))
  (pss_cons (ps_asg (pe_ix ix_list (pv 2) (pv 6) (fun _ _ => rfl)) (pg_sub (pv 2) (pv 5) set_list))
  (pss_cons (ps_asg (pv 7) (pg_sub (pv 2) (pv 6) set_list))
  (pss_one (ps_ret (pv 2))))))
  pss_nil)
  (pss_cons (ps_if (pt_cmpR op_eq (pv 3) pe_int (nomark _))
  (pss_one (ps_ret (pe_slice sl_list (pv 2) po_none (po_some (pv 5)))))
  pss_nil)
  (pss_one (ps_ret (pe_ifExp (pt_cmpR op_eq (pv 3) pe_int (nomark _)) (pe_op op_cat (pe_op op_cat (pe_slice sl_list (pv 2) po_none (po_some (pv 5))) (pe_lst (pa_cons (pe_ix ix_list (pv 2) (pv 5) (fun _ _ => rfl)) pa_nil))) (pe_slice sl_list (pv 2) (po_some (pv 5)) po_none)) (pv 2)))))))))))))), ?_⟩
    refine r_start (l := [some (.ref q), some (.ref a), none, none, none, none, none, none]) rfl ?_
    walk_at "rds"
    refine ⟨_, _, rfl, .inl (SqL.of ha), fun p hp => ?_⟩
    generalize hG1 : upd H p _ = G1
    obtain ⟨D1, B1, b1, np, ep⟩ := alloc hG1 hD (But.refl q H) hp
    have L : LsD q H G1 p us ds := .new hG1 hD (But.refl q H) hp hds hty
    clear hG1 ep
    walk_at "rds"
    refine ⟨_, _, _, _, _, rfl, by decide, by decide, by omega, D1, fun G2 l2 way hl2 D2 b2 m2 n2 => ?_⟩
    have B2 := B1.trans b2
    replace L := L.but b2
    walk_at "rds"
    refine ⟨_, _, rfl, ?_⟩
    walk_at "rds"
    refine ⟨len_ok rfl, fun p3 hp3 => ?_⟩
    generalize hG3 : upd G2 p3 _ = G3
    obtain ⟨D3, B3, b3, np3, ep3⟩ := alloc hG3 D2 B2 hp3
    clear hG3
    replace L := L.but b3
    walk_at "rds"
    refine ⟨_, _, _, _, _, _, rfl, SqL.of ep3, Nat.zero_lt_succ _, lt_ok rfl, by omega, np3, D3, fun G4 l4 i4 v4 hl4 D4 b4 e4 => ?_⟩
    have pv4 := EachP.get (F := fun v => ∃ w : Str, v = .str w ∧ w ∈ W5) (.cons ⟨_, rfl, by decide⟩ (.cons ⟨_, rfl, by decide⟩ (.cons ⟨_, rfl, by decide⟩ (.cons ⟨_, rfl, by decide⟩ (.cons ⟨_, rfl, by decide⟩ .nil))))) e4
    obtain ⟨wd, rfl, hw⟩ := pv4
    have B4 := B3.trans b4
    replace L := L.but b4
    walk_at "rds"
    refine ⟨_, _, _, _, _, rfl, by decide, by decide, by omega, D4, fun G5 l5 r5 hl5 D5 b5 m5 n5 => ?_⟩
    have B5 := B4.trans b5
    replace L := L.but b5
    walk_at "rds"
    refine ⟨len_ok rfl, fun p6 hp6 => ?_⟩
    generalize hG6 : upd G5 p6 _ = G6
    obtain ⟨D6, B6, b6, np6, ep6⟩ := alloc hG6 D5 B5 hp6
    clear hG6
    replace L := L.but b6
    walk_at "rds"
    refine ⟨_, _, _, _, _, _, rfl, SqL.of ep6, Nat.zero_lt_succ _, lt_ok rfl, by omega, np6, D6, fun G7 l7 i7 v7 hl7 D7 b7 e7 => ?_⟩
    have pv7 := EachP.get (F := IntIn 0 23) (.cons ⟨_, rfl, by decide, by decide⟩ (.cons ⟨_, rfl, by decide, by decide⟩ (.cons ⟨_, rfl, by decide, by decide⟩ (.cons ⟨_, rfl, by decide, by decide⟩ (.cons ⟨_, rfl, by omega, by omega⟩ .nil))))) e7
    obtain ⟨gn, rfl, g0, g1⟩ := pv7
    have B7 := B6.trans b7
    replace L := L.but b7
    walk_at "rds"
    refine ⟨len_ok rfl, fun pn hpn => ?_⟩
    generalize hG8 : upd G7 pn _ = G8
    obtain ⟨D8, B8, b8, npn, epn⟩ := alloc hG8 D7 B7 hpn
    clear hG8
    replace L := L.but b8
    walk_at "rds"
    refine ⟨_, _, rfl, .inl (SqL.of L.ls), ?_⟩
    walk_at "rds"
    have lus := L.dv.len
    refine ⟨_, _, _, _, _, rfl, by omega, by omega, by omega, D8, fun G9 l9 at_ hl9 D9 b9 m9 n9 => ?_⟩
    have B9 := B8.trans b9
    replace L := L.but b9
    replace epn := b9 _ _ npn epn
    walk_at "rds"
    refine ⟨_, _, rfl, .inl (SqL.of L.ls), ?_⟩
    walk_at "rds"
    refine ⟨_, _, _, _, _, rfl, by omega, by omega, by omega, D9, fun GA lA other hlA DA bA mA nA => ?_⟩
    have BA := B9.trans bA
    replace L := L.but bA
    replace epn := bA _ _ npn epn
    walk_at "rds"
    refine ⟨_, _, rfl, ?_⟩
    obtain ⟨ka, rfl⟩ : ∃ j : Nat, at_ = (j : Int) := ⟨at_.toNat, by omega⟩
    obtain ⟨ko, rfl⟩ : ∃ j : Nat, other = (j : Int) := ⟨other.toNat, by omega⟩
    have hka : ka ≤ us.length := by omega
    have hko : ko ≤ us.length := by omega
    have BUD : lA ≤ lap + 20 := by omega
    clear D1 B1 b1 D2 b2 B2 D3 B3 b3 np3 ep3 hp3 D4 b4 B4 e4 D5 b5 B5 D6 B6 b6 np6 ep6 hp6 D7 b7 e7 B7 D8 B8 b8 D9 b9 B9 bA hpn
    walk_at "rds"
    refine ⟨rfl, ?_⟩
    by_cases w0 : way = 0
    · rw [decide_eq_true (congrArg V.int w0)]
      walk_at "rds"
      refine ⟨_, rfl, ?_⟩
      refine ⟨_, _, rfl, SqL.of L.ls, ?_⟩
      rw [cut_take hka]
      intro pa hpa
      generalize hG1 : upd GA pa _ = K1
      obtain ⟨E1, C1, c1, npa, epa⟩ := alloc hG1 DA BA hpa
      have La := LsD.new hG1 DA BA hpa (L.dv.take ka) (L.ty.take ka)
      clear hG1
      replace L := L.but c1
      replace epn := c1 _ _ npn epn
      walk_at "rds"
      refine ⟨len_ok rfl, fun pb hpb => ?_⟩
      generalize hG2 : upd K1 pb _ = K2
      obtain ⟨E2, C2, c2, npb, epb⟩ := alloc hG2 E1 C1 hpb
      clear hG2
      replace L := L.but c2
      replace La := La.but c2
      replace epn := c2 _ _ npn epn
      refine r_cat (p := pa) La.ls epb (by rw [La.dv.len, List.length_take]; exact Nat.le_trans (show min ka ds.length + 1 ≤ 1000 by omega) big1000) fun pc hpc => ?_
      generalize hG3 : upd K2 pc _ = K3
      obtain ⟨E3, C3, c3, npc, epc⟩ := alloc hG3 E2 C2 hpc
      have Lc := LsD.new hG3 E2 C2 hpc (La.dv.app (.one npn epn)) (La.ty.app (.one hw g0 g1))
      clear hG3
      replace L := L.but c3
      replace La := La.but c3
      replace epn := c3 _ _ npn epn
      replace epb := c3 _ _ npb epb
      walk_at "rds"
      refine ⟨_, rfl, ?_⟩
      refine ⟨_, _, rfl, SqL.of L.ls, ?_⟩
      rw [cut_drop hka]
      intro pd hpd
      generalize hG4 : upd K3 pd _ = K4
      obtain ⟨E4, C4, c4, npd, epd⟩ := alloc hG4 E3 C3 hpd
      have Ld := LsD.new hG4 E3 C3 hpd (L.dv.drop ka) (L.ty.drop ka)
      clear hG4
      replace L := L.but c4
      replace La := La.but c4
      replace Lc := Lc.but c4
      replace epn := c4 _ _ npn epn
      replace epb := c4 _ _ npb epb
      refine r_cat (p := pa) Lc.ls Ld.ls (by rw [Lc.dv.len, Ld.dv.len]; exact Nat.le_trans (show _ ≤ 1000 by rw [List.length_append, List.length_take, List.length_drop]; show min ka ds.length + 1 + (ds.length - ka) ≤ 1000; omega) big1000) fun pe hpe => ?_
      generalize hG5 : upd K4 pe _ = K5
      obtain ⟨E5, C5, c5, npe, epe⟩ := alloc hG5 E4 C4 hpe
      have Le := LsD.new hG5 E4 C4 hpe (Lc.dv.app Ld.dv) (Lc.ty.app Ld.ty)
      clear hG5
      replace L := L.but c5
      replace La := La.but c5
      replace Lc := Lc.but c5
      replace Ld := Ld.but c5
      replace epn := c5 _ _ npn epn
      replace epb := c5 _ _ npb epb
      walk_at "rds"
      exact k _ lA pe _ _ BUD E5 C5 Le.hp Le.np Le.ls Le.dv Le.ty (by simp <;> omega)
    · rw [decide_eq_false (fun z => w0 (V.int.inj z))]
      walk_at "rds"
      refine ⟨len_ok rfl, fun p0 hp0 => ?_⟩
      generalize hG0 : upd GA p0 _ = G0
      obtain ⟨D0, B0, b0, np0, ep0⟩ := alloc hG0 DA BA hp0
      clear hG0
      replace L := L.but b0
      replace epn := b0 _ _ npn epn
      refine eq_nil_ds L.ls L.dv L.ty ep0 ?_
      cases hE : ds.isEmpty with
      | true =>
        walk_at "rds"
        refine ⟨_, rfl, ?_⟩
        refine ⟨_, _, rfl, SqL.of L.ls, ?_⟩
        rw [cut_take hka]
        intro pa hpa
        generalize hG1 : upd G0 pa _ = K1
        obtain ⟨E1, C1, c1, npa, epa⟩ := alloc hG1 D0 B0 hpa
        have La := LsD.new hG1 D0 B0 hpa (L.dv.take ka) (L.ty.take ka)
        clear hG1
        replace L := L.but c1
        replace epn := c1 _ _ npn epn
        walk_at "rds"
        refine ⟨len_ok rfl, fun pb hpb => ?_⟩
        generalize hG2 : upd K1 pb _ = K2
        obtain ⟨E2, C2, c2, npb, epb⟩ := alloc hG2 E1 C1 hpb
        clear hG2
        replace L := L.but c2
        replace La := La.but c2
        replace epn := c2 _ _ npn epn
        refine r_cat (p := pa) La.ls epb (by rw [La.dv.len, List.length_take]; exact Nat.le_trans (show min ka ds.length + 1 ≤ 1000 by omega) big1000) fun pc hpc => ?_
        generalize hG3 : upd K2 pc _ = K3
        obtain ⟨E3, C3, c3, npc, epc⟩ := alloc hG3 E2 C2 hpc
        have Lc := LsD.new hG3 E2 C2 hpc (La.dv.app (.one npn epn)) (La.ty.app (.one hw g0 g1))
        clear hG3
        replace L := L.but c3
        replace La := La.but c3
        replace epn := c3 _ _ npn epn
        replace epb := c3 _ _ npb epb
        walk_at "rds"
        refine ⟨_, rfl, ?_⟩
        refine ⟨_, _, rfl, SqL.of L.ls, ?_⟩
        rw [cut_drop hka]
        intro pd hpd
        generalize hG4 : upd K3 pd _ = K4
        obtain ⟨E4, C4, c4, npd, epd⟩ := alloc hG4 E3 C3 hpd
        have Ld := LsD.new hG4 E3 C3 hpd (L.dv.drop ka) (L.ty.drop ka)
        clear hG4
        replace L := L.but c4
        replace La := La.but c4
        replace Lc := Lc.but c4
        replace epn := c4 _ _ npn epn
        replace epb := c4 _ _ npb epb
        refine r_cat (p := pa) Lc.ls Ld.ls (by rw [Lc.dv.len, Ld.dv.len]; exact Nat.le_trans (show _ ≤ 1000 by rw [List.length_append, List.length_take, List.length_drop]; show min ka ds.length + 1 + (ds.length - ka) ≤ 1000; omega) big1000) fun pe hpe => ?_
        generalize hG5 : upd K4 pe _ = K5
        obtain ⟨E5, C5, c5, npe, epe⟩ := alloc hG5 E4 C4 hpe
        have Le := LsD.new hG5 E4 C4 hpe (Lc.dv.app Ld.dv) (Lc.ty.app Ld.ty)
        clear hG5
        replace L := L.but c5
        replace La := La.but c5
        replace Lc := Lc.but c5
        replace Ld := Ld.but c5
        replace epn := c5 _ _ npn epn
        replace epb := c5 _ _ npb epb
        walk_at "rds"
        exact k _ lA pe _ _ BUD E5 C5 Le.hp Le.np Le.ls Le.dv Le.ty (by simp <;> omega)
      | false =>
        have hpos : 0 < us.length := by
          rw [lus]
          cases ds with
          | nil => cases hE
          | cons _ _ => exact Nat.zero_lt_succ _
        walk_at "rds"
        refine ⟨_, _, rfl, .inl (SqL.of L.ls), ?_⟩
        walk_at "rds"
        refine ⟨_, _, rfl, ?_⟩
        walk_at "rds"
        refine ⟨_, _, rfl, .inl (SqL.of L.ls), ?_⟩
        walk_at "rds"
        refine ⟨_, _, rfl, ?_⟩
        walk_at "rds"
        refine ⟨_, _, rfl, ?_⟩
        obtain ⟨kb, eb, hkb⟩ := min_at (k := ka) hpos
        obtain ⟨kc, ec, hkc⟩ := min_at (k := ko) hpos
        rw [eb, ec]
        clear eb ec hka hko hpos
        obtain ⟨vb, hvb⟩ : ∃ v, us[kb]? = some v := ⟨_, List.getElem?_eq_getElem hkb⟩
        obtain ⟨tb, wb, gb, rfl, ntb, etb, dsb⟩ := L.dv.at hvb
        obtain ⟨vc, hvc⟩ : ∃ v, us[kc]? = some v := ⟨_, List.getElem?_eq_getElem hkc⟩
        obtain ⟨tc, wc, gc, rfl, ntc, etc, dsc⟩ := L.dv.at hvc
        obtain ⟨hwb, gb0, gb1⟩ := L.ty.at dsb
        obtain ⟨hwc, gc0, gc1⟩ := L.ty.at dsc
        have hkb' : kb + 1 ≤ us.length := hkb
        walk_at "rds"
        refine ⟨rfl, ?_⟩
        by_cases w1 : way = 1
        · rw [decide_eq_true (congrArg V.int w1)]
          walk_at "rds"
          refine ⟨_, rfl, ?_⟩
          refine ⟨_, _, rfl, SqL.of L.ls, ?_⟩
          rw [cut_take (Nat.le_of_lt hkb)]
          intro pa hpa
          generalize hG1 : upd G0 pa _ = K1
          obtain ⟨E1, C1, c1, npa, epa⟩ := alloc hG1 D0 B0 hpa
          have La := LsD.new hG1 D0 B0 hpa (L.dv.take kb) (L.ty.take kb)
          clear hG1
          replace L := L.but c1
          replace epn := c1 _ _ npn epn
          replace etb := c1 _ _ ntb etb
          walk_at "rds"
          refine ⟨_, rfl, ?_⟩
          refine ⟨_, _, rfl, SqL.of L.ls, ?_⟩
          rw [show (kb : Int) + 1 = ((kb + 1 : Nat) : Int) from rfl, cut_drop hkb']
          intro pd hpd
          generalize hG2 : upd K1 pd _ = K2
          obtain ⟨E2, C2, c2, npd, epd⟩ := alloc hG2 E1 C1 hpd
          have Ld := LsD.new hG2 E1 C1 hpd (L.dv.drop (kb + 1)) (L.ty.drop (kb + 1))
          clear hG2
          replace L := L.but c2
          replace La := La.but c2
          replace epn := c2 _ _ npn epn
          replace etb := c2 _ _ ntb etb
          refine r_cat (p := pa) La.ls Ld.ls (by rw [La.dv.len, Ld.dv.len]; exact Nat.le_trans (show _ ≤ 1000 by simp only [List.length_append, List.length_take, List.length_drop, List.length_cons, List.length_nil]; omega) big1000) fun pe hpe => ?_
          generalize hG3 : upd K2 pe _ = K3
          obtain ⟨E3, C3, c3, npe, epe⟩ := alloc hG3 E2 C2 hpe
          have Le := LsD.new hG3 E2 C2 hpe (La.dv.app Ld.dv) (La.ty.app Ld.ty)
          clear hG3
          replace L := L.but c3
          replace La := La.but c3
          replace Ld := Ld.but c3
          replace epn := c3 _ _ npn epn
          replace etb := c3 _ _ ntb etb
          walk_at "rds"
          exact k _ lA pe _ _ BUD E3 C3 Le.hp Le.np Le.ls Le.dv Le.ty (by simp <;> omega)
        · rw [decide_eq_false (fun z => w1 (V.int.inj z))]
          walk_at "rds"
          refine ⟨rfl, ?_⟩
          by_cases w2 : way = 2
          · rw [decide_eq_true (congrArg V.int w2)]
            walk_at "rds"
            refine ⟨_, rfl, ?_⟩
            refine ⟨_, _, rfl, SqL.of L.ls, ?_⟩
            rw [cut_take (Nat.le_of_lt hkb)]
            intro pa hpa
            generalize hG1 : upd G0 pa _ = K1
            obtain ⟨E1, C1, c1, npa, epa⟩ := alloc hG1 D0 B0 hpa
            have La := LsD.new hG1 D0 B0 hpa (L.dv.take kb) (L.ty.take kb)
            clear hG1
            replace L := L.but c1
            replace epn := c1 _ _ npn epn
            replace etb := c1 _ _ ntb etb
            walk_at "rds"
            refine r_ixL (SqL.of L.ls) (atI_nat hvb) ?_
            walk_at "rds"
            refine r_ixT (SqT.of etb) at20 ?_
            walk_at "rds"
            refine r_ixT (SqT.of epn) at21 ?_
            walk_at "rds"
            refine ⟨len_ok rfl, fun pt hpt => ?_⟩
            generalize hG2 : upd K1 pt _ = K2
            obtain ⟨E2, C2, c2, npt, ept⟩ := alloc hG2 E1 C1 hpt
            clear hG2
            replace L := L.but c2
            replace La := La.but c2
            replace epn := c2 _ _ npn epn
            replace etb := c2 _ _ ntb etb
            walk_at "rds"
            refine ⟨len_ok rfl, fun pl hpl => ?_⟩
            generalize hG3 : upd K2 pl _ = K3
            obtain ⟨E3, C3, c3, npl, epl⟩ := alloc hG3 E2 C2 hpl
            have Lm := LsD.new hG3 E2 C2 hpl (.one npt ept) (.one hwb g0 g1)
            clear hG3
            replace L := L.but c3
            replace La := La.but c3
            replace epn := c3 _ _ npn epn
            replace etb := c3 _ _ ntb etb
            replace ept := c3 _ _ npt ept
            refine r_cat (p := pa) La.ls Lm.ls (by rw [La.dv.len, Lm.dv.len]; exact Nat.le_trans (show _ ≤ 1000 by simp only [List.length_append, List.length_take, List.length_drop, List.length_cons, List.length_nil]; omega) big1000) fun pc hpc => ?_
            generalize hG4 : upd K3 pc _ = K4
            obtain ⟨E4, C4, c4, npc, epc⟩ := alloc hG4 E3 C3 hpc
            have Lc := LsD.new hG4 E3 C3 hpc (La.dv.app Lm.dv) (La.ty.app Lm.ty)
            clear hG4
            replace L := L.but c4
            replace La := La.but c4
            replace Lm := Lm.but c4
            replace epn := c4 _ _ npn epn
            replace etb := c4 _ _ ntb etb
            replace ept := c4 _ _ npt ept
            walk_at "rds"
            refine ⟨_, rfl, ?_⟩
            refine ⟨_, _, rfl, SqL.of L.ls, ?_⟩
            rw [show (kb : Int) + 1 = ((kb + 1 : Nat) : Int) from rfl, cut_drop hkb']
            intro pd hpd
            generalize hG5 : upd K4 pd _ = K5
            obtain ⟨E5, C5, c5, npd, epd⟩ := alloc hG5 E4 C4 hpd
            have Ld := LsD.new hG5 E4 C4 hpd (L.dv.drop (kb + 1)) (L.ty.drop (kb + 1))
            clear hG5
            replace L := L.but c5
            replace La := La.but c5
            replace Lm := Lm.but c5
            replace Lc := Lc.but c5
            replace epn := c5 _ _ npn epn
            replace etb := c5 _ _ ntb etb
            replace ept := c5 _ _ npt ept
            refine r_cat (p := pa) Lc.ls Ld.ls (by rw [Lc.dv.len, Ld.dv.len]; exact Nat.le_trans (show _ ≤ 1000 by simp only [List.length_append, List.length_take, List.length_drop, List.length_cons, List.length_nil]; omega) big1000) fun pe hpe => ?_
            generalize hG6 : upd K5 pe _ = K6
            obtain ⟨E6, C6, c6, npe, epe⟩ := alloc hG6 E5 C5 hpe
            have Le := LsD.new hG6 E5 C5 hpe (Lc.dv.app Ld.dv) (Lc.ty.app Ld.ty)
            clear hG6
            replace L := L.but c6
            replace La := La.but c6
            replace Lm := Lm.but c6
            replace Lc := Lc.but c6
            replace Ld := Ld.but c6
            replace epn := c6 _ _ npn epn
            replace etb := c6 _ _ ntb etb
            replace ept := c6 _ _ npt ept
            walk_at "rds"
            exact k _ lA pe _ _ BUD E6 C6 Le.hp Le.np Le.ls Le.dv Le.ty (by simp <;> omega)
          · rw [decide_eq_false (fun z => w2 (V.int.inj z))]
            walk_at "rds"
            refine ⟨rfl, ?_⟩
            by_cases w3 : way = 3
            · rw [decide_eq_true (congrArg V.int w3)]
              walk_at "rds"
              refine ⟨_, rfl, ?_⟩
              refine ⟨_, _, rfl, SqL.of L.ls, ?_⟩
              rw [cut_take (Nat.le_of_lt hkb)]
              intro pa hpa
              generalize hG1 : upd G0 pa _ = K1
              obtain ⟨E1, C1, c1, npa, epa⟩ := alloc hG1 D0 B0 hpa
              have La := LsD.new hG1 D0 B0 hpa (L.dv.take kb) (L.ty.take kb)
              clear hG1
              replace L := L.but c1
              replace epn := c1 _ _ npn epn
              replace etb := c1 _ _ ntb etb
              walk_at "rds"
              refine r_ixT (SqT.of epn) at20 ?_
              walk_at "rds"
              refine r_ixL (SqL.of L.ls) (atI_nat hvb) ?_
              walk_at "rds"
              refine r_ixT (SqT.of etb) at21 ?_
              walk_at "rds"
              refine ⟨len_ok rfl, fun pt hpt => ?_⟩
              generalize hG2 : upd K1 pt _ = K2
              obtain ⟨E2, C2, c2, npt, ept⟩ := alloc hG2 E1 C1 hpt
              clear hG2
              replace L := L.but c2
              replace La := La.but c2
              replace epn := c2 _ _ npn epn
              replace etb := c2 _ _ ntb etb
              walk_at "rds"
              refine ⟨len_ok rfl, fun pl hpl => ?_⟩
              generalize hG3 : upd K2 pl _ = K3
              obtain ⟨E3, C3, c3, npl, epl⟩ := alloc hG3 E2 C2 hpl
              have Lm := LsD.new hG3 E2 C2 hpl (.one npt ept) (.one hw gb0 gb1)
              clear hG3
              replace L := L.but c3
              replace La := La.but c3
              replace epn := c3 _ _ npn epn
              replace etb := c3 _ _ ntb etb
              replace ept := c3 _ _ npt ept
              refine r_cat (p := pa) La.ls Lm.ls (by rw [La.dv.len, Lm.dv.len]; exact Nat.le_trans (show _ ≤ 1000 by simp only [List.length_append, List.length_take, List.length_drop, List.length_cons, List.length_nil]; omega) big1000) fun pc hpc => ?_
              generalize hG4 : upd K3 pc _ = K4
              obtain ⟨E4, C4, c4, npc, epc⟩ := alloc hG4 E3 C3 hpc
              have Lc := LsD.new hG4 E3 C3 hpc (La.dv.app Lm.dv) (La.ty.app Lm.ty)
              clear hG4
              replace L := L.but c4
              replace La := La.but c4
              replace Lm := Lm.but c4
              replace epn := c4 _ _ npn epn
              replace etb := c4 _ _ ntb etb
              replace ept := c4 _ _ npt ept
              walk_at "rds"
              refine ⟨_, rfl, ?_⟩
              refine ⟨_, _, rfl, SqL.of L.ls, ?_⟩
              rw [show (kb : Int) + 1 = ((kb + 1 : Nat) : Int) from rfl, cut_drop hkb']
              intro pd hpd
              generalize hG5 : upd K4 pd _ = K5
              obtain ⟨E5, C5, c5, npd, epd⟩ := alloc hG5 E4 C4 hpd
              have Ld := LsD.new hG5 E4 C4 hpd (L.dv.drop (kb + 1)) (L.ty.drop (kb + 1))
              clear hG5
              replace L := L.but c5
              replace La := La.but c5
              replace Lm := Lm.but c5
              replace Lc := Lc.but c5
              replace epn := c5 _ _ npn epn
              replace etb := c5 _ _ ntb etb
              replace ept := c5 _ _ npt ept
              refine r_cat (p := pa) Lc.ls Ld.ls (by rw [Lc.dv.len, Ld.dv.len]; exact Nat.le_trans (show _ ≤ 1000 by simp only [List.length_append, List.length_take, List.length_drop, List.length_cons, List.length_nil]; omega) big1000) fun pe hpe => ?_
              generalize hG6 : upd K5 pe _ = K6
              obtain ⟨E6, C6, c6, npe, epe⟩ := alloc hG6 E5 C5 hpe
              have Le := LsD.new hG6 E5 C5 hpe (Lc.dv.app Ld.dv) (Lc.ty.app Ld.ty)
              clear hG6
              replace L := L.but c6
              replace La := La.but c6
              replace Lm := Lm.but c6
              replace Lc := Lc.but c6
              replace Ld := Ld.but c6
              replace epn := c6 _ _ npn epn
              replace etb := c6 _ _ ntb etb
              replace ept := c6 _ _ npt ept
              walk_at "rds"
              exact k _ lA pe _ _ BUD E6 C6 Le.hp Le.np Le.ls Le.dv Le.ty (by simp <;> omega)
            · rw [decide_eq_false (fun z => w3 (V.int.inj z))]
              walk_at "rds"
              refine ⟨rfl, ?_⟩
              by_cases w4 : way = 4
              · rw [decide_eq_true (congrArg V.int w4)]
                walk_at "rds"
                refine r_ixL (SqL.of L.ls) (atI_nat hvb) ?_
                walk_at "rds"
                refine r_ixL (SqL.of L.ls) (atI_nat hvc) ?_
                walk_at "rds"
                refine r_setL L.ls (ixN_nat hkb) ?_
                generalize hG1 : upd G0 p _ = G1
                obtain ⟨D1, B1, L1⟩ := L.put hG1 hD D0 B0 ntc etc hwc gc0 gc1
                have etb1 : G1 tb = some (.tup [.str wb, .int gb]) := by rw [← hG1, upd_ne (ne_of etb L.ls (fun z => by cases z))]; exact etb
                clear hG1
                walk_at "rds"
                refine r_setL L1.ls (ixN_nat (by rw [List.length_set]; exact hkc)) ?_
                generalize hG2 : upd G1 p _ = G2
                obtain ⟨D2, B2, L2⟩ := L1.put hG2 hD D1 B1 ntb etb1 hwb gb0 gb1
                clear hG2
                walk_at "rds"
                exact k _ lA p _ _ BUD D2 B2 L2.hp L2.np L2.ls L2.dv L2.ty (by simp)
              · rw [decide_eq_false (fun z => w4 (V.int.inj z))]
                walk_at "rds"
                refine ⟨rfl, ?_⟩
                by_cases w5 : way = 5
                · rw [decide_eq_true (congrArg V.int w5)]
                  walk_at "rds"
                  refine ⟨_, rfl, ?_⟩
                  refine ⟨_, _, rfl, SqL.of L.ls, ?_⟩
                  rw [cut_take (Nat.le_of_lt hkb)]
                  intro pa hpa
                  generalize hG1 : upd G0 pa _ = K1
                  obtain ⟨E1, C1, c1, npa, epa⟩ := alloc hG1 D0 B0 hpa
                  have La := LsD.new hG1 D0 B0 hpa (L.dv.take kb) (L.ty.take kb)
                  clear hG1
                  replace L := L.but c1
                  replace epn := c1 _ _ npn epn
                  replace etb := c1 _ _ ntb etb
                  walk_at "rds"
                  exact k _ lA pa _ _ BUD E1 C1 La.hp La.np La.ls La.dv La.ty (by simp <;> omega)
                · rw [decide_eq_false (fun z => w5 (V.int.inj z))]
                  walk_at "rds"
                  refine ⟨rfl, ?_⟩
                  by_cases w6 : way = 6
                  · rw [decide_eq_true (congrArg V.int w6)]
                    walk_at "rds"
                    refine ⟨_, rfl, ?_⟩
                    refine ⟨_, _, rfl, SqL.of L.ls, ?_⟩
                    rw [cut_take (Nat.le_of_lt hkb)]
                    intro pa hpa
                    generalize hG1 : upd G0 pa _ = K1
                    obtain ⟨E1, C1, c1, npa, epa⟩ := alloc hG1 D0 B0 hpa
                    have La := LsD.new hG1 D0 B0 hpa (L.dv.take kb) (L.ty.take kb)
                    clear hG1
                    replace L := L.but c1
                    replace epn := c1 _ _ npn epn
                    replace etb := c1 _ _ ntb etb
                    walk_at "rds"
                    refine r_ixL (SqL.of L.ls) (atI_nat hvb) ?_
                    walk_at "rds"
                    refine ⟨len_ok rfl, fun pl hpl => ?_⟩
                    generalize hG2 : upd K1 pl _ = K2
                    obtain ⟨E2, C2, c2, npl, epl⟩ := alloc hG2 E1 C1 hpl
                    have Lm := LsD.new hG2 E1 C1 hpl (.one ntb etb) (.one hwb gb0 gb1)
                    clear hG2
                    replace L := L.but c2
                    replace La := La.but c2
                    replace epn := c2 _ _ npn epn
                    replace etb := c2 _ _ ntb etb
                    refine r_cat (p := pa) La.ls Lm.ls (by rw [La.dv.len, Lm.dv.len]; exact Nat.le_trans (show _ ≤ 1000 by simp only [List.length_append, List.length_take, List.length_drop, List.length_cons, List.length_nil]; omega) big1000) fun pc hpc => ?_
                    generalize hG3 : upd K2 pc _ = K3
                    obtain ⟨E3, C3, c3, npc, epc⟩ := alloc hG3 E2 C2 hpc
                    have Lc := LsD.new hG3 E2 C2 hpc (La.dv.app Lm.dv) (La.ty.app Lm.ty)
                    clear hG3
                    replace L := L.but c3
                    replace La := La.but c3
                    replace Lm := Lm.but c3
                    replace epn := c3 _ _ npn epn
                    replace etb := c3 _ _ ntb etb
                    walk_at "rds"
                    refine ⟨_, rfl, ?_⟩
                    refine ⟨_, _, rfl, SqL.of L.ls, ?_⟩
                    rw [cut_drop (Nat.le_of_lt hkb)]
                    intro pd hpd
                    generalize hG4 : upd K3 pd _ = K4
                    obtain ⟨E4, C4, c4, npd, epd⟩ := alloc hG4 E3 C3 hpd
                    have Ld := LsD.new hG4 E3 C3 hpd (L.dv.drop kb) (L.ty.drop kb)
                    clear hG4
                    replace L := L.but c4
                    replace La := La.but c4
                    replace Lm := Lm.but c4
                    replace Lc := Lc.but c4
                    replace epn := c4 _ _ npn epn
                    replace etb := c4 _ _ ntb etb
                    refine r_cat (p := pa) Lc.ls Ld.ls (by rw [Lc.dv.len, Ld.dv.len]; exact Nat.le_trans (show _ ≤ 1000 by simp only [List.length_append, List.length_take, List.length_drop, List.length_cons, List.length_nil]; omega) big1000) fun pe hpe => ?_
                    generalize hG5 : upd K4 pe _ = K5
                    obtain ⟨E5, C5, c5, npe, epe⟩ := alloc hG5 E4 C4 hpe
                    have Le := LsD.new hG5 E4 C4 hpe (Lc.dv.app Ld.dv) (Lc.ty.app Ld.ty)
                    clear hG5
                    replace L := L.but c5
                    replace La := La.but c5
                    replace Lm := Lm.but c5
                    replace Lc := Lc.but c5
                    replace Ld := Ld.but c5
                    replace epn := c5 _ _ npn epn
                    replace etb := c5 _ _ ntb etb
                    walk_at "rds"
                    exact k _ lA pe _ _ BUD E5 C5 Le.hp Le.np Le.ls Le.dv Le.ty (by simp <;> omega)
                  · rw [decide_eq_false (fun z => w6 (V.int.inj z))]
                    walk_at "rds"
                    exact k _ lA p _ _ BUD D0 B0 L.hp L.np L.ls L.dv L.ty (Nat.le_succ _)
end
end K27
namespace K27
open PySem PySem.Spec PyProof.Rows L2 Rp LamX RZ
/-- the def that hears, its object known -/
structure HrdC (K : PySem.W.Frag) (mg : Str → Option Value) (g : Addr) (cdv : Value) : Prop where
  mgf : mg "_law_heard" = some (.ref g)
  kp : PySem.W.keepIn K (.ref g) = true
  code : PySem.W.codeIn K cdv "_law_heard" = true
  ex : ∃ (oc : Value) (od : Option Addr) (kV dc pm : Value) (an : Option Addr) (ct : Value) (sl : Array (Option Value)), K.lookup g = some ⟨oc, od, .func (PySem.W.fnOf "_law_heard" "_law_heard" (defArgs sLawHeard) (defBody sLawHeard) (defScope sLawHeard) .none kV dc pm an cdv ct), sl⟩ ∧
    Binds K (PySem.W.fnOf "_law_heard" "_law_heard" (defArgs sLawHeard) (defBody sLawHeard) (defScope sLawHeard) .none kV dc pm an cdv ct) ["ask"] []
theorem pe_hear {X : Cx} {g c P : Addr} {cdv : Value} {ad : Ad} {k : Nat} {Tt : List (Addr × Str)} {params : Arguments} {body : Expr} {scope : Scope} {ps : List Str} {dvs : List V} {t : XK → TE} {p lp pos : Pos} (hH : HrdC X.K X.mg g cdv) (T : Txt X.K X.mg ad) (T2 : HdT X.K ad)
    (glob : Gl X "_law_heard") (room : Room (k + 2) X.A) (G : LamGo X Tt c P params body scope ps dvs) (D : DefsOk X params dvs)
    (B : ∀ (A : Around) (outer : List Env) (s : Shared) (H : Hp) (E : XK) (f c' : Addr), Room k (A.deeper (lamEnv X scope s.heap.objs.size f c')) → PE (lamCx X A outer s H E scope f c') body (t E)) :
    PE X (.Call (.Name "_law_heard" p) [.Lambda params body scope lp] [] pos) (tLam Tt (TTh ad) t) := by
  obtain ⟨oc, od, kV, dc, pm, an, ct, sl, look, b⟩ := hH.ex
  exact pe_lamX glob hH.mgf hH.kp look hH.code b scLawHeard rfl (.inl rfl) (heard_gives T T2) room G D B

theorem tabs_but {q : Addr} {T : List (Addr × Str)} {H H' : Hp} {xs : List V} (B : But q H H') (hq : H q = some (.lst xs)) (t : Tabs T H) : Tabs T H' := by
  intro p m
  obtain ⟨ps, h1, h2, h3⟩ := t p m
  have off : ∀ {b o}, H b = some o → (∀ xs, o ≠ .lst xs) → b ≠ q := by
    rintro b o e n rfl
    exact n xs (Option.some.inj (e.symm.trans hq))
  refine ⟨ps, B _ _ (off h1 fun _ z => by cases z) h1, h2, fun pos cv hc => ?_⟩
  obtain ⟨c, e1, e2⟩ := h3 pos cv hc
  exact ⟨c, e1, B _ _ (off e2 fun _ z => by unfold CodeO at z; cases z) e2⟩
theorem tabs_dr {q c : Addr} {ns : List Int} {lap : Nat} {T : List (Addr × Str)} {H H' : Hp} (B : But q H H') (D : Dr q c ns lap H) (t : Tabs T H) : Tabs T H' := by
  obtain ⟨_, ⟨_, hq⟩, _, _⟩ := D
  exact tabs_but B hq t
theorem dr_ext {q c : Addr} {ns : List Int} {lap : Nat} {H H' : Hp} (d : Dr q c ns lap H) (x : ExtN H H') : Dr q c ns lap H' := by
  obtain ⟨ne, ⟨rest, hb⟩, hc, hl⟩ := d
  exact ⟨ne, ⟨rest, x _ _ hb (fun _ z => by cases z)⟩, x _ _ hc (fun _ z => by cases z), hl⟩
abbrev qLam : Str := ("law" : Str) ++ ".<locals>." ++ "<lambda>"
def spLaw27 (P : Addr) (K : PySem.W.Frag) : Sp := fun vs H Q _ => ∃ (a : Addr) (ns : List Int), vs = [.ref a] ∧ SqL K H a (ns.map V.int) ∧ Tabs [(P, qLam)] H ∧ ∀ H', Q (.bl true) H'
/-- what is heard of a Tangle of such deeds -/
def outT (ds : Dl) (m : Int) : Option (V × V) := if gapsOk ds then dueO (demF ds m) else some (.str "tangle", .str "deeds")
theorem heard_tan {ad : Ad} {q a : Addr} {us : List V} {ds : Dl} {m : Int} {H1 : Hp} {Q : VK} (ha : H1 a = some (.lst us)) (na : a ≠ q) (hds : DsV q H1 us ds) (ht : Typ 24 ds) (hl : ds.length ≤ 4000) (h0 : 0 ≤ m) (h16 : m ≤ 16) (h2 : m % 2 = 0) (hk : ∀ G v, Same H1 G → TwoV G v (outT ds m) → Q v G) :
    ∀ x dx, H1 x = none → H1 dx = none → dx ≠ x → spTangle ad.c_Tangle ad.c_BadTangle ad.c_Misfit ad.c_TooMany (.ref x :: ([.int m, .ref a] ++ [])) (upd (upd H1 dx (.own x)) x (.ins ad.c_Tangle dx [])) (fun v H2 => v = .non ∧ (∀ G2, Same H2 G2 → Q .non G2)) (hearE ad Q) := by
  intro x dx hx hdx ne
  have s0 : Same H1 (upd (upd H1 dx (.own x)) x (.ins ad.c_Tangle dx [])) := fun b o e => by
    rw [upd_ne (ne_of_none e hx), upd_ne (ne_of_none e hdx)]
    exact e
  have part : ∀ (C : Addr) (word : Str) (H' : Hp), (C, word) ∈ ([(ad.c_BadTangle, "tangle"), (ad.c_Misfit, "misfit")] : List (Addr × Str)) → Same H1 H' → outT ds m = some (.str word, .str "deeds") → errAt (hearE ad Q) C "part" (.str "deeds") H' := by
    intro C word H' mem s e d hd
    refine ⟨C, d, rfl, rfl, .inl ⟨word, .str "deeds", upd_same, mem, fun G2 p s2 hp ep => hk G2 _ ((same_neu s hd).trans s2) ?_⟩⟩
    rw [e]
    exact ⟨p, rfl, ep⟩
  refine ⟨q, x, dx, a, us, ds, m, rfl, upd_same, s0 _ _ ha, na, hds.but (same_but s0), ht, hl, h0, h16, h2, fun H' s e => ?_, fun H' s e1 e2 => ?_, fun H' s e1 e2 => ?_, fun H' p ts B e1 e2 _ _ _ => ?_⟩
  · exact part _ "tangle" H' (by simp) (s0.trans s) (by unfold outT; rw [e]; rfl)
  · exact part _ "misfit" H' (by simp) (s0.trans s) (by unfold outT; rw [e1, e2]; rfl)
  · intro d hd
    refine ⟨_, d, rfl, rfl, .inr ⟨.str "ends", .int 24, rfl, upd_same, fun G2 p s2 hp ep => hk G2 _ ((same_neu (s0.trans s) hd).trans s2) ?_⟩⟩
    have e : outT ds m = some (.str "ends", .int 24) := by unfold outT; rw [e1, e2]; rfl
    rw [e]
    exact ⟨p, rfl, ep⟩
  · have s3 : Same H1 H' := fun b o z => B b o (ne_of_none z hx) (s0 b o z)
    refine ⟨rfl, fun G2 s2 => hk G2 _ (s3.trans s2) ?_⟩
    have e : outT ds m = none := by unfold outT; rw [e1, e2]; rfl
    rw [e]
    rfl
theorem LsD.ext {q p : Addr} {H G G' : Hp} {us : List V} {ds : Dl} (L : LsD q H G p us ds) (x : ExtN G G') : LsD q H G' p us ds := ⟨L.hp, L.np, x _ _ L.ls (fun _ z => by cases z), L.dv.ext x, L.ty⟩
theorem neu2 {H G : Hp} {p : Addr} {o : HO} (hG : upd H p o = G) (hp : H p = none) : Same H G ∧ G p = some o := by
  subst hG
  exact ⟨same_neu (Same.refl H) hp, upd_same⟩
theorem dr_neq {q c p : Addr} {ns : List Int} {lap : Nat} {H : Hp} (D : Dr q c ns lap H) (h : H p = none) : p ≠ q := by
  obtain ⟨ne, ⟨rest, hb⟩, hc, hl⟩ := D
  exact (ne_of_none hb h).symm
theorem shut_none {gs : Int} (h : gs = 1 ∨ gs = 22) : demF (([("join", gs)] : Dl) ++ List.replicate (Int.toNat 11) (("join", 1) : Str × Int)) 24 = none := by
  rcases h with h | h <;> (subst h; decide +kernel)
theorem shut_short {gs : Int} : demF ((([("join", gs)] : Dl) ++ List.replicate (Int.toNat 11) (("join", 1) : Str × Int)).drop 1) 24 = some false := by
  show demF (List.replicate 11 (("join", 1) : Str × Int)) 24 = some false
  decide +kernel
theorem open_more {g : Int} {es : Dl} (h0 : 0 ≤ g) (h1 : g < 24) : demF (("open", g) :: es) 24 = some true := by
  show (if fitsG "open" 24 g then (if behind "open" 24 > 24 then some true else _) else some false) = _
  rw [fits_open h0 (.inl h1), if_pos rfl, if_pos (by decide)]
theorem gaps_bad {ds : Dl} : gapsOk (ds ++ ([("open", 24)] : Dl)) = false := by
  unfold gapsOk
  rw [List.all_append]
  show (_ && (inB (.int 24) (some 0) (some 23) && true)) = false
  rw [show inB (.int 24) (some 0) (some 23) = false from rfl, Bool.false_and, Bool.and_false]
theorem atI_last {us : List V} {v : V} : atI (us ++ [v]) (-1) = some v := by
  unfold atI ixN
  rw [if_neg (by decide), List.length_append, List.length_cons, List.length_nil, if_pos (by omega)]
  show (us ++ [v])[((-1 : Int) + ((us.length + (0 + 1) : Nat) : Int)).toNat]? = some v
  rw [show ((-1 : Int) + ((us.length + (0 + 1) : Nat) : Int)).toNat = us.length by omega]
  simp
theorem cut1 {us : List V} (h : 1 ≤ us.length) : cutV us (some 1) none = us.drop 1 := cut_hi (n := 1) h
def vD : V → PyData
  | .str x => .str x
  | .int i => .int i
  | _ => .none
def twoD : Option (V × V) → PyData
  | none => .none
  | some (x, y) => .tuple [vD x, vD y]
/-- strings and numbers in it alone -/
def flatO : Option (V × V) → Prop
  | none => True
  | some (x, y) => (∃ s, x = .str s) ∧ ((∃ s, y = .str s) ∨ ∃ i, y = .int i)
theorem out_flat (ds : Dl) (m : Int) : flatO (outT ds m) := by
  unfold outT
  split
  · cases demF ds m with
    | none => trivial
    | some b => cases b <;> exact ⟨⟨_, rfl⟩, by first | exact .inl ⟨_, rfl⟩ | exact .inr ⟨_, rfl⟩⟩
  · exact ⟨⟨_, rfl⟩, .inl ⟨_, rfl⟩⟩
theorem two_dd {K : PySem.W.Frag} {H : Hp} {v : V} {o : Option (V × V)} (h : TwoV H v o) (f : flatO o) : Dd K H v (twoD o) := by
  match o, h, f with
  | none, h, _ => cases h; exact .non
  | some (x, y), ⟨p, e, ep⟩, ⟨⟨s, ex⟩, f⟩ =>
    subst e ex
    rcases f with ⟨t, rfl⟩ | ⟨i, rfl⟩
    · exact .tup (SqT.of ep) (.cons (.str _) (.cons (.str _) .nil))
    · exact .tup (SqT.of ep) (.cons (.str _) (.cons (.num _) .nil))
theorem two_dp {K : PySem.W.Frag} {H : Hp} {v : V} {o : Option (V × V)} (h : TwoV H v o) (f : flatO o) : Dp K H v (twoD o) := by
  match o, h, f with
  | none, h, _ => cases h; exact .non
  | some (x, y), ⟨p, e, ep⟩, ⟨⟨s, ex⟩, f⟩ =>
    subst e ex
    rcases f with ⟨t, rfl⟩ | ⟨i, rfl⟩
    · exact .tup (SqT.of ep) (.cons (.str _) (.cons (.str _) .nil))
    · exact .tup (SqT.of ep) (.cons (.str _) (.cons (.int _) .nil))
theorem TwoV.ext {H H' : Hp} {v : V} {o : Option (V × V)} (h : TwoV H v o) (x : ExtN H H') : TwoV H' v o := by
  match o, h with
  | none, h => exact h
  | some (a, b), ⟨p, e, ep⟩ => exact ⟨p, e, x _ _ ep fun _ z => by cases z⟩
theorem out_typ {ds : Dl} {m : Int} (h : Typ 23 ds) : outT ds m = dueO (demF ds m) := by unfold outT; rw [gapsOk_typ h]; rfl
theorem out_fit (ds : Dl) (m : Int) : Fit 64 15000000 (twoD (outT ds m)) := by
  unfold outT
  split
  · cases demF ds m with
    | none => exact leaf_fit (by decide +kernel) (by decide +kernel) (by decide +kernel)
    | some b => cases b <;> exact leaf_fit (by decide +kernel) (by decide +kernel) (by decide +kernel)
  · exact leaf_fit (by decide +kernel) (by decide +kernel) (by decide +kernel)

end K27
namespace K27
open PySem PySem.Spec PyProof.Rows L2 Rp LamX RZ

section
variable {P : Program} {w : World} {K : PySem.W.Frag} {mg : Str → Option Value} {base : Heap} {ad : Ad}
abbrev sLaw : Stmt := top 40
theorem scLaw : FnScope ["script", "turnstile", "turn", "now", "heard", "deeds", "ends", "more", "odd", "opens", "shut"] ["script"] (defScope sLaw) := ⟨rfl, rfl, rfl, by decide +kernel, rfl, by decide +kernel, by decide +kernel⟩
theorem ok_Law {P0 cc gH f : Addr} {cdH : Value} {fd : FuncData} (F : FunC K "law" "law" sLaw f fd cc) (T : Txt K mg ad) (T2 : HdT K ad) (hM : HasMods base) (hH : HrdC K mg gH cdH) (TB : TabB base mg cc P0) {f0 : Addr} {fd0 : FuncData} (cLawTurnstile : Cal P w K mg base "_law_turnstile" 1 f0 fd0 ["script"] (spBox K)) {f1 : Addr} {fd1 : FuncData} (cLawPick : Cal P w K mg base "_law_pick" 2 f1 fd1 ["turnstile", "some"] (spOf K)) {f2 : Addr} {fd2 : FuncData} (cLawBent : Cal P w K mg base "_law_bent" 3 f2 fd2 ["turnstile", "deeds"] spBent) {f3 : Addr} {fd3 : FuncData} (cLawDeeds : Cal P w K mg base "_law_deeds" 3 f3 fd3 ["turnstile", "ends", "most"] spDeeds) {f4 : Addr} {fd4 : FuncData} (cLawToken : Cal P w K mg base "_law_token" 1 f4 fd4 ["turnstile", "many"] spDraw) {f5 : Addr} {fd5 : FuncData} (cLawDue : Cal P w K mg base "_law_due" 2 f5 fd5 ["ends", "deeds"] spLawDue) {f6 : Addr} {fd6 : FuncData} (cTangle : MakX P w K mg base "Tangle" 5 ad.c_Tangle f6 fd6 ["self", "ends", "deeds"] (spTangle ad.c_Tangle ad.c_BadTangle ad.c_Misfit ad.c_TooMany)) : FnG P w K mg base 15 f fd ["script"] (spLaw27 P0 K) := by
  refine fngC F scLaw (fun {vs H Q E} h => ?_) (fun {A fr s H vs Q E} hg hr h => ?_)
  · obtain ⟨a, ns, rfl, hS, hT, k⟩ := h
    rfl
  · obtain ⟨a, ns, rfl, hS, hT, k⟩ := h
    refine ⟨_, (pss_cons (ps_set (i := 1) scLaw.nd rfl (Or.inl rfl) (pe_go cLawTurnstile hg (hr.mono (by decide)) (by rfl) (pa_cons (pv 0) pa_nil)))
  (pss_cons (ps_for PassesOwn.never rfl (pi_range1 (by rfl) T.z_range (pa_cons pe_int pa_nil)) (pg_name (i := 2) scLaw.nd rfl (Or.inl rfl))
  (pss_cons (ps_set (i := 6) scLaw.nd rfl (Or.inr rfl) (pe_go cLawPick hg (hr.mono (by decide)) (by rfl) (pa_cons (pv 1) (pa_cons (pe_lst (pa_cons pe_int (pa_cons pe_int (pa_cons pe_int (pa_cons pe_int (pa_cons pe_int (pa_cons pe_int pa_nil))))))) pa_nil))))
  (pss_cons (ps_set (i := 5) scLaw.nd rfl (Or.inr rfl) (pe_go cLawBent hg (hr.mono (by decide)) (by rfl) (pa_cons (pv 1) (pa_cons (pe_go cLawDeeds hg (hr.mono (by decide)) (by rfl) (pa_cons (pv 1) (pa_cons (pv 6) (pa_cons pe_int pa_nil)))) pa_nil))))
  (pss_cons (ps_set (i := 5) scLaw.nd rfl (Or.inr rfl) (pe_ifExp (pt_cmpR op_eq (pe_go cLawToken hg (hr.mono (by decide)) (by rfl) (pa_cons (pv 1) (pa_cons pe_int pa_nil))) pe_int (nomark _)) (pe_go cLawBent hg (hr.mono (by decide)) (by rfl) (pa_cons (pv 1) (pa_cons (pv 5) pa_nil))) (pv 5)))
  (pss_one (ps_if (pt_cmpR op_ne (pe_callB (call_reprA hr hg hM) (by rfl) T.z_repr (by decide +kernel) (pa_cons (pe_hear hH T T2 (k := 10) (by rfl) (hr.mono (by decide)) ⟨TB, rfl, List.mem_singleton.mpr rfl, fun p z _ => by rw [List.mem_singleton.mp z], lamT_by (N := ["script", "turnstile", "turn", "now", "heard", "deeds", "ends", "more", "odd", "opens", "shut"]) (sc := defScope sLaw) (by decide +kernel), lamBinds0, (fun _ z => nomatch z)⟩ (dvs := []) (ps := []) (Or.inl ⟨rfl, rfl⟩) (fun A outer s H E f c' hr2 => (pe_makeE cTangle (hr2.mono (by decide)) (takes_of rfl rfl rfl rfl) (by rfl) (pa_cons (pv 6) (pa_cons (pv 5) pa_nil))))) pa_nil)) (pe_callB (call_reprA hr hg hM) (by rfl) T.z_repr (by decide +kernel) (pa_cons (pe_go cLawDue hg (hr.mono (by decide)) (by rfl) (pa_cons (pv 6) (pa_cons (pv 5) pa_nil))) pa_nil)) (nomark _))
  (pss_one (ps_ret pe_bl))
  pss_nil))))))
  (pss_cons (ps_set (i := 6) scLaw.nd rfl (Or.inr rfl) (pe_op op_mul pe_int (pe_go cLawToken hg (hr.mono (by decide)) (by rfl) (pa_cons (pv 1) (pa_cons pe_int pa_nil)))))
  (pss_cons (ps_asg (pe_tup (pa_cons (pe_lst pa_nil) (pa_cons (pv 6) pa_nil))) (pg_tup rfl (pgs_cons (pg_name (i := 9) scLaw.nd rfl (Or.inr rfl)) (pgs_cons (pg_name (i := 3) scLaw.nd rfl (Or.inl rfl)) pgs_nil))))
  (pss_cons (ps_while PassesOwn.never (pt_cmpR op_lt (pv 3) pe_int (nomark _))
  (pss_cons (ps_expr (pe_bm PySem.F.plainAttrs_list PySem.F.slot_list_append PySem.F.type_list_append mt_append (pv 9) (pa_cons (pe_tup (pa_cons pe_str (pa_cons (pe_go cLawToken hg (hr.mono (by decide)) (by rfl) (pa_cons (pv 1) (pa_cons (pe_callB (call_max2 rfl) (by rfl) T.z_max (by decide +kernel) (pa_cons pe_int (pa_cons (pv 3) pa_nil))) pa_nil))) pa_nil))) pa_nil)))
  (pss_one (ps_set (i := 3) scLaw.nd rfl (Or.inl rfl) (pe_op op_add (pv 3) pe_int)))))
  (pss_cons (ps_set (i := 10) scLaw.nd rfl (Or.inr rfl) (pe_op op_cat (pe_lst (pa_cons (pe_tup (pa_cons pe_str (pa_cons (pe_go cLawPick hg (hr.mono (by decide)) (by rfl) (pa_cons (pv 1) (pa_cons (pe_lst (pa_cons pe_int (pa_cons pe_int pa_nil))) pa_nil))) pa_nil))) pa_nil)) (pe_op op_rep (pe_lst (pa_cons (pe_tup (pa_cons pe_str (pa_cons pe_int pa_nil))) pa_nil)) pe_int)))
  (pss_cons (ps_set (i := 7) scLaw.nd rfl (Or.inr rfl) (pe_op op_cat (pv 9) (pe_lst (pa_cons (pe_tup (pa_cons pe_str (pa_cons (pe_go cLawToken hg (hr.mono (by decide)) (by rfl) (pa_cons (pv 1) (pa_cons pe_int pa_nil))) pa_nil))) pa_nil))))
  (pss_cons (ps_set (i := 8) scLaw.nd rfl (Or.inr rfl) (pe_op op_cat (pv 9) (pe_lst (pa_cons (pe_tup (pa_cons pe_str (pa_cons (pe_op op_sub (pe_op op_add pe_int (pe_go cLawToken hg (hr.mono (by decide)) (by rfl) (pa_cons (pv 1) (pa_cons pe_int pa_nil)))) pe_int) pa_nil))) pa_nil))))
  (pss_cons (ps_set (i := 4) scLaw.nd rfl (Or.inl rfl) (pe_lst (pa_cons (pe_hear hH T T2 (k := 10) (by rfl) (hr.mono (by decide)) ⟨TB, rfl, List.mem_singleton.mpr rfl, fun p z _ => by rw [List.mem_singleton.mp z], lamT_by (N := ["script", "turnstile", "turn", "now", "heard", "deeds", "ends", "more", "odd", "opens", "shut"]) (sc := defScope sLaw) (by decide +kernel), lamBinds0, (fun _ z => nomatch z)⟩ (dvs := []) (ps := []) (Or.inl ⟨rfl, rfl⟩) (fun A outer s H E f c' hr2 => (pe_makeE cTangle (hr2.mono (by decide)) (takes_of rfl rfl rfl rfl) (by rfl) (pa_cons (pv 6) (pa_cons (pe_op op_cat (pv 9) (pv 10)) pa_nil))))) (pa_cons (pe_hear hH T T2 (k := 10) (by rfl) (hr.mono (by decide)) ⟨TB, rfl, List.mem_singleton.mpr rfl, fun p z _ => by rw [List.mem_singleton.mp z], lamT_by (N := ["script", "turnstile", "turn", "now", "heard", "deeds", "ends", "more", "odd", "opens", "shut"]) (sc := defScope sLaw) (by decide +kernel), lamBinds_a1, (fun p (z : p ∈ (["a1"] : List Str)) => (by rw [List.mem_singleton.mp z]; rfl))⟩ (dvs := [.int 0]) (ps := ["a1"]) (Or.inr ⟨_, _, _, rfl, rfl, rfl⟩) (fun A outer s H E f c' hr2 => (pe_makeE cTangle (hr2.mono (by decide)) (takes_of rfl rfl rfl rfl) (by rfl) (pa_cons (pv 6) (pa_cons (pe_op op_cat (pv 7) (pe_op op_rep (pe_lst (pa_cons (pe_tup (pa_cons pe_str (pa_cons pe_int pa_nil))) pa_nil)) pe_int)) pa_nil))))) (pa_cons (pe_hear (t := fun E => tMake ad.c_Tangle (spTangle ad.c_Tangle ad.c_BadTangle ad.c_Misfit ad.c_TooMany) [] E (tCons (tVar 6) (tCons (tOp rCat (tVar 9) (tSl (rSlL K) (tVar 10) (tPart (tC (.int 1))) tNoPart)) tNil))) hH T T2 (k := 10) (by rfl) (hr.mono (by decide)) ⟨TB, rfl, List.mem_singleton.mpr rfl, fun p z _ => by rw [List.mem_singleton.mp z], lamT_by (N := ["script", "turnstile", "turn", "now", "heard", "deeds", "ends", "more", "odd", "opens", "shut"]) (sc := defScope sLaw) (by decide +kernel), lamBinds_a2, (fun p (z : p ∈ (["a2"] : List Str)) => (by rw [List.mem_singleton.mp z]; rfl))⟩ (dvs := [.int 0]) (ps := ["a2"]) (Or.inr ⟨_, _, _, rfl, rfl, rfl⟩) (fun A outer s H E f c' hr2 => (pe_makeE cTangle (hr2.mono (by decide)) (takes_of rfl rfl rfl rfl) (by rfl) (pa_cons (pv 6) (pa_cons (pe_op op_cat (pv 9) (pe_slice sl_list (pv 10) (po_some pe_int) po_none)) pa_nil))))) pa_nil)))))
  (pss_one (ps_ret (pe_and (pe_cmpR (op_eqD hr.units) (pv 4) (pe_lst (pa_cons pe_non (pa_cons (pe_tup (pa_cons pe_str (pa_cons pe_int pa_nil))) (pa_cons (pe_tup (pa_cons pe_str (pa_cons pe_str pa_nil))) pa_nil)))) (nomark _)) (pe_one (pe_cmpR (op_eqD hr.units) (pe_hear hH T T2 (k := 10) (by rfl) (hr.mono (by decide)) ⟨TB, rfl, List.mem_singleton.mpr rfl, fun p z _ => by rw [List.mem_singleton.mp z], lamT_by (N := ["script", "turnstile", "turn", "now", "heard", "deeds", "ends", "more", "odd", "opens", "shut"]) (sc := defScope sLaw) (by decide +kernel), lamBinds0, (fun _ z => nomatch z)⟩ (dvs := []) (ps := []) (Or.inl ⟨rfl, rfl⟩) (fun A outer s H E f c' hr2 => (pe_makeE cTangle (hr2.mono (by decide)) (takes_of rfl rfl rfl rfl) (by rfl) (pa_cons (pv 6) (pa_cons (pv 8) pa_nil))))) (pe_ifExp (pt_cmpR op_eq (pe_ix ix_tup (pe_ix ix_list (pv 8) (pe_un un_neg pe_int) (fun _ _ => rfl)) pe_int (fun _ _ => rfl)) pe_int (nomark _)) (pe_tup (pa_cons pe_str (pa_cons pe_str pa_nil))) (pe_tup (pa_cons pe_str (pa_cons pe_int pa_nil)))) (nomark _))))))))))))))), ?_⟩
    refine r_start (l := [some (.ref a), none, none, none, none, none, none, none, none, none, none]) rfl ?_
    have hD0 : ∀ {H' : Hp}, Same H H' → Tabs [(P0, qLam)] H' := fun s => tabs_same hT s
    walk_at "rds"
    refine ⟨a, ns, rfl, hS, fun G0 q c ns' D0 s0 hq => ?_⟩
    have tb := hD0 s0
    clear hD0
    walk_at "rds"
    refine ⟨8, rfl, by decide, by decide, ?_⟩
    refine for_range (lo := 0) (n := 8) (fun i σ G => ∃ (x2 x3 x4 x5 x6 x7 x8 x9 x10 : Option V) (lp : Nat), σ = [some (.ref a), some (.ref q), x2, x3, x4, x5, x6, x7, x8, x9, x10] ∧ lp ≤ 500 * i ∧ Dr q c ns' lp G ∧ Tabs [(P0, qLam)] G) ⟨_, _, _, _, _, _, _, _, _, _, rfl, Nat.zero_le _, D0, tb⟩ ?_ ?_
    · clear tb D0 s0
      rintro i σ G hi ⟨x2, x3, x4, x5, x6, x7, x8, x9, x10, lap, rfl, hlp, D0, tb⟩
      walk_at "rds"
      refine ⟨len_ok rfl, fun p1 hp1 => ?_⟩
      generalize hG1 : upd G p1 _ = G1
      obtain ⟨D1, B1, b1, np1, ep1⟩ := alloc hG1 D0 (But.refl q G) hp1
      clear hG1
      refine ⟨_, _, _, _, _, _, rfl, SqL.of ep1, Nat.zero_lt_succ _, lt_ok rfl, by omega, np1, D1, fun G2 l2 i2 v2 hl2 D2 b2 e2 => ?_⟩
      have pv2 := EachP.get (F := fun v => ∃ m : Int, v = .int m ∧ 0 ≤ m ∧ m ≤ 16 ∧ m % 2 = 0) (.cons ⟨_, rfl, by decide, by decide, by decide⟩ (.cons ⟨_, rfl, by decide, by decide, by decide⟩ (.cons ⟨_, rfl, by decide, by decide, by decide⟩ (.cons ⟨_, rfl, by decide, by decide, by decide⟩ (.cons ⟨_, rfl, by decide, by decide, by decide⟩ (.cons ⟨_, rfl, by decide, by decide, by decide⟩ .nil)))))) e2
      obtain ⟨m, rfl, h0, h16, h2⟩ := pv2
      have B2 := B1.trans b2
      walk_at "rds"
      refine ⟨_, _, _, _, _, _, rfl, h0, h16, h2, by decide, by decide, by omega, D2, fun G3 l3 p3 us3 ds3 hl3 D3 b3 hp3 np3 e3 dv3 ty3 len3 r3 => ?_⟩
      have B3 := B2.trans b3
      walk_at "rds"
      refine ⟨_, _, _, _, _, _, _, rfl, np3, e3, dv3, ty3, by omega, by omega, D3, fun G4 l4 p4 us4 ds4 hl4 D4 b4 hp4 np4 e4 dv4 ty4 len4 => ?_⟩
      have B4 := B3.trans b4
      replace tb := tabs_dr B4 D0 tb
      clear B1 b1 ep1 e2 b2 B2 b3 B3 e3 dv3 r3 b4 B4 D1 D2 D3
      walk_at "res"
      with_reducible refine r_cut (fun σ G' => ∃ (p : Addr) (us : List V) (ds : Dl) (l : Nat) (x2 : Option V), σ = [some (.ref a), some (.ref q), x2, x3, x4, some (.ref p), some (.int m), x7, x8, x9, x10] ∧ l ≤ lap + 480 ∧ Dr q c ns' l G' ∧ Tabs [(P0, qLam)] G' ∧ p ≠ q ∧ G' p = some (.lst us) ∧ DsV q G' us ds ∧ Typ 23 ds ∧ ds.length ≤ 200) ?_ fun go => ?_
      rotate_left
      · walk_at "rds"
        refine ⟨_, _, _, _, _, rfl, by decide, by decide, by omega, D4, fun G5 l5 r5 hl5 D5 b5 m5 n5 => ?_⟩
        replace tb := tabs_dr b5 D4 tb
        replace e4 := b5 _ _ np4 e4
        replace dv4 := dv4.but b5
        walk_at "rds"
        refine ⟨rfl, ?_⟩
        by_cases e0 : r5 = 0
        · rw [decide_eq_true (congrArg V.int e0)]
          walk_at "rds"
          refine ⟨_, _, _, _, _, _, _, rfl, np4, e4, dv4, ty4, by omega, by omega, D5, fun G6 l6 p6 us6 ds6 hl6 D6 b6 hp6 np6 e6 dv6 ty6 len6 => ?_⟩
          replace tb := tabs_dr b6 D5 tb
          walk_at "res"
          exact go _ _ ⟨p6, us6, ds6, l6, _, rfl, by omega, D6, tb, np6, e6, dv6, ty6, by omega⟩
        · rw [decide_eq_false (fun z => e0 (V.int.inj z))]
          walk_at "res"
          exact go _ _ ⟨p4, us4, ds4, l5, _, rfl, by omega, D5, tb, np4, e4, dv4, ty4, by omega⟩
      clear e4 dv4 D4 tb
      rintro σ G5 ⟨p, us, ds, l5, x2, rfl, hl5, D5, tb, np, ep, dv, ty, len⟩
      walk_at "rds"
      refine ⟨tb, fun X x t => ?_⟩
      refine ⟨_, _, ?_, fun _ _ h => h, fun _ _ _ h => h⟩
      walk_at "rds"
      refine heard_tan (q := q) (x _ _ ep (fun _ z => by cases z)) np (dv.ext x) (ty.le (by decide)) (by omega) h0 h16 h2 fun G6 v s6 tv => ?_
      have y := ext_same x s6
      replace tb := tabs_same t s6
      replace D5 := dr_ext D5 y
      replace ep := y _ _ ep (fun _ z => by cases z)
      replace dv := dv.ext y
      clear y s6 x t
      walk_at "rds"
      refine r_reprA (two_dd tv (out_flat _ _)) (out_fit _ _) ?_
      walk_at "rds"
      refine ⟨q, p, us, ds, m, rfl, ep, dv, h0, by omega, h2, fun G7 w s7 tw => ?_⟩
      rw [← out_typ ty] at tw
      walk_at "rds"
      refine r_reprA (two_dd tw (out_flat _ _)) (out_fit _ _) ?_
      refine r_ne_same ?_
      walk_at "rds"
      exact ⟨_, _, _, _, _, _, _, _, _, l5, rfl, by omega, D5.same s7, tabs_same tb s7⟩
    · rintro σ G ⟨x2, x3, x4, x5, x6, x7, x8, x9, x10, lap, rfl, hlp, D0, tb⟩
      walk_at "rds"
      refine ⟨_, _, _, _, _, rfl, by decide, by decide, by omega, D0, fun G1 l1 r1 hl1 D1 b1 m1 n1 => ?_⟩
      replace tb := tabs_dr b1 D0 tb
      refine r_I (.inl ⟨by decide, by decide⟩) ?_
      obtain ⟨m, em⟩ : ∃ m, m = 2 * r1 := ⟨_, rfl⟩
      rw [← em]
      have h0 : 0 ≤ m := by omega
      have h16 : m ≤ 16 := by omega
      have h2 : m % 2 = 0 := by omega
      clear em m1 n1 D0 b1
      walk_at "rds"
      refine ⟨len_ok rfl, fun p hp => ?_⟩
      have I : FI q c ns' G1 (upd G1 p (.lst [])) l1 p [] [] m m 0 :=
        ⟨⟨D1.neu hp, (But.refl q G1).neu hp, hp, (by obtain ⟨ne, ⟨rest, hb⟩, hc, hl⟩ := D1; exact (ne_of_none hb hp).symm), (ne_of_none D1.cells hp).symm, upd_same, .nil⟩, .nil, Nat.le_refl _, rfl, h0, by omega, h2⟩
      replace tb := tabs_same tb (same_neu (Same.refl _) hp (o := .lst []))
      generalize upd G1 p (.lst []) = G2 at I tb
      walk_at "rds"
      refine ⟨len_ok rfl, fun pt hpt => ?_⟩
      replace tb := tabs_same tb (same_neu (Same.refl _) hpt (o := .tup [.ref p, .int m]))
      replace I := I.neu (o := .tup [.ref p, .int m]) hpt
      have ept : upd G2 pt (.tup [.ref p, .int m]) pt = some (.tup [.ref p, .int m]) := upd_same
      generalize upd G2 pt _ = G3 at I tb ept
      walk_at "rds"
      refine r_gtup ⟨_, _, rfl, SqT.of ept, rfl, ?_⟩
      refine ⟨_, _, rfl, ?_⟩
      walk_at "rds"
      refine ⟨_, _, rfl, ?_⟩
      walk_at "rds"
      refine ⟨rfl, ?_⟩
      walk_at "rds"
      clear ept
      refine ⟨fun mm σ G => ∃ (us : List V) (ds : Dl) (n : Int) (l : Nat), σ = [some (.ref a), some (.ref q), x2, some (.int n), x4, x5, some (.int m), x7, x8, some (.ref p), x10] ∧ mm = (24 - n).toNat ∧ l + (24 - n).toNat ≤ l1 + 24 ∧ 2 * ds.length ≤ n.toNat ∧ FI q c ns' G1 G l p us ds m n 30 ∧ Tabs [(P0, qLam)] G, ⟨_, [], [], m, l1, rfl, rfl, by omega, Nat.zero_le _, I.up (by decide), tb⟩, ?_⟩
      clear I tb
      rintro mm σ G ⟨us, ds, n, l, rfl, rfl, hl, hd, I, tb⟩
      walk_at "rds"
      by_cases e0 : n < 24
      · rw [decide_eq_true e0]
        walk_at "rds"
        refine ⟨fun σ' G' => ∃ (us : List V) (ds : Dl) (l : Nat), σ' = [some (.ref a), some (.ref q), x2, some (.int (n + 2)), x4, x5, some (.int m), x7, x8, some (.ref p), x10] ∧ l + (24 - (n + 2)).toNat ≤ l1 + 24 ∧ 2 * ds.length ≤ (n + 2).toNat ∧ FI q c ns' G1 G' l p us ds m (n + 2) 30 ∧ Tabs [(P0, qLam)] G', ?_, ?_⟩
        · rintro σ' G' ⟨us, ds, l, e, g1, g2, g3, g4⟩
          exact ⟨_, by omega, us, ds, n + 2, l, e, rfl, g1, g2, g3, g4⟩
        walk_at "rds"
        refine ⟨ty_lst I.f.ls, ?_⟩
        walk_at "rds"
        refine ⟨_, _, rfl, ?_⟩
        have nz := I.n0
        refine ⟨_, _, _, _, _, rfl, by split <;> omega, by split <;> omega, by omega, I.f.D, fun G5 l5 gp hl5 D5 b5 m5 n5 => ?_⟩
        replace tb := tabs_dr b5 I.f.D tb
        replace I := I.draw D5 b5
        walk_at "rds"
        refine ⟨len_ok rfl, fun t ht => ?_⟩
        have nt := I.f.off ht
        replace I := I.neu (o := .tup [.str "open", .int gp]) ht
        replace tb := tabs_same tb (same_neu (Same.refl _) ht (o := .tup [.str "open", .int gp]))
        have et : upd G5 t (.tup [.str "open", .int gp]) t = some (.tup [.str "open", .int gp]) := upd_same
        generalize upd G5 t _ = G6 at I et tb
        walk_at "rds"
        refine r_append I.f.ls (by rw [I.f.ds.len]; exact Nat.lt_of_lt_of_le (show ds.length < 200 by have := I.l; omega) big200) ?_
        have J := I.push et nt (by decide) (fits_open m5 (by split at n5 <;> omega)) (by rw [behind_open]; have := I.n2; omega)
        rw [behind_open] at J
        replace tb := tabs_but (But.upd (.lst (us ++ [.ref t]))) I.f.ls tb
        walk_at "rds"
        exact ⟨_, _, l5, rfl, by omega, by rw [List.length_append]; show 2 * (ds.length + 1) ≤ _; omega, { J with l := by rw [List.length_append]; show ds.length + 1 ≤ 30; omega }, tb⟩
      rw [decide_eq_false e0]
      have e24 : n = 24 := by have := I.n24; omega
      subst e24
      have L : LsD q G1 G p us ds := ⟨I.f.hp, I.f.np, I.f.ls, I.f.ds, I.t⟩
      have D2 := I.f.D
      have B2 := I.f.B
      have hr := I.r
      have len : ds.length ≤ 12 := by omega
      have hl2 : l ≤ l1 + 24 := by omega
      clear I e0 hd hl D1
      walk_at "rds"
      refine ⟨len_ok rfl, fun pk hpk => ?_⟩
      generalize hG1 : upd G pk _ = K1
      obtain ⟨E1, C1, c1, npk, epk⟩ := alloc hG1 D2 B2 hpk
      clear hG1
      replace tb := tabs_dr c1 D2 tb
      replace L := L.but c1
      walk_at "rds"
      refine ⟨_, _, _, _, _, _, rfl, SqL.of epk, Nat.zero_lt_succ _, lt_ok rfl, by omega, npk, E1, fun K2 l2 i2 v2 hl2 E2 c2 e2 => ?_⟩
      have pv2 := EachP.get (F := fun v => ∃ g : Int, v = .int g ∧ (g = 1 ∨ g = 22)) (.cons ⟨_, rfl, .inl rfl⟩ (.cons ⟨_, rfl, .inr rfl⟩ .nil)) e2
      have C2 := C1.trans c2
      replace tb := tabs_dr c2 E1 tb
      replace L := L.but c2
      replace epk := c2 _ _ npk epk
      obtain ⟨gs, rfl, hgs⟩ := pv2
      walk_at "rds"
      refine ⟨len_ok rfl, fun pa hpa => ?_⟩
      generalize hG3 : upd K2 pa _ = K3
      obtain ⟨E3, C3, c3, npa, epa⟩ := alloc hG3 E2 C2 hpa
      clear hG3
      replace tb := tabs_dr c3 E2 tb
      replace L := L.but c3
      replace epk := c3 _ _ npk epk
      walk_at "rds"
      refine ⟨len_ok rfl, fun pb hpb => ?_⟩
      generalize hG4 : upd K3 pb _ = K4
      obtain ⟨E4, C4, c4, npb, epb⟩ := alloc hG4 E3 C3 hpb
      have Lb := LsD.new hG4 E3 C3 hpb (.one npa epa) (.one (by decide) (by omega) (by omega))
      clear hG4
      replace tb := tabs_dr c4 E3 tb
      replace L := L.but c4
      replace epk := c4 _ _ npk epk
      replace epa := c4 _ _ npa epa
      walk_at "rds"
      refine ⟨len_ok rfl, fun pc hpc => ?_⟩
      generalize hG5 : upd K4 pc _ = K5
      obtain ⟨E5, C5, c5, npc, epc⟩ := alloc hG5 E4 C4 hpc
      clear hG5
      replace tb := tabs_dr c5 E4 tb
      replace L := L.but c5
      replace Lb := Lb.but c5
      replace epk := c5 _ _ npk epk
      replace epa := c5 _ _ npa epa
      walk_at "rds"
      refine ⟨len_ok rfl, fun pd hpd => ?_⟩
      generalize hG6 : upd K5 pd _ = K6
      obtain ⟨E6, C6, c6, npd, epd⟩ := alloc hG6 E5 C5 hpd
      have Ld := LsD.new hG6 E5 C5 hpd (.one npc epc) (.one (by decide) (by decide) (by decide))
      clear hG6
      replace tb := tabs_dr c6 E5 tb
      replace L := L.but c6
      replace Lb := Lb.but c6
      replace epk := c6 _ _ npk epk
      replace epa := c6 _ _ npa epa
      replace epc := c6 _ _ npc epc
      walk_at "rds"
      refine ⟨_, _, _, rfl, rfl, Ld.ls, by decide, by decide, le_ok rfl, fun pe hpe => ?_⟩
      rw [rep_one]
      generalize hG7 : upd K6 pe _ = K7
      obtain ⟨E7, C7, c7, npe, epe⟩ := alloc hG7 E6 C6 hpe
      have Le := LsD.new hG7 E6 C6 hpe (.rep npc epc _) (.rep (by decide) (by decide) (by decide) _)
      clear hG7
      replace tb := tabs_dr c7 E6 tb
      replace L := L.but c7
      replace Lb := Lb.but c7
      replace Ld := Ld.but c7
      replace epk := c7 _ _ npk epk
      replace epa := c7 _ _ npa epa
      replace epc := c7 _ _ npc epc
      refine r_cat (p := p) Lb.ls Le.ls (by rw [Lb.dv.len, Le.dv.len]; exact le_ok rfl) fun ps hps => ?_
      generalize hG8 : upd K7 ps _ = K8
      obtain ⟨E8, C8, c8, nps, eps⟩ := alloc hG8 E7 C7 hps
      have Ls := LsD.new hG8 E7 C7 hps (Lb.dv.app Le.dv) (Lb.ty.app Le.ty)
      clear hG8
      replace tb := tabs_dr c8 E7 tb
      replace L := L.but c8
      replace Lb := Lb.but c8
      replace Ld := Ld.but c8
      replace Le := Le.but c8
      replace epk := c8 _ _ npk epk
      replace epa := c8 _ _ npa epa
      replace epc := c8 _ _ npc epc
      walk_at "rds"
      refine ⟨_, _, _, _, _, rfl, by decide, by decide, by omega, E8, fun K9 l9 r9 hl9 E9 c9 m9 n9 => ?_⟩
      have C9 := C8.trans c9
      replace tb := tabs_dr c9 E8 tb
      replace L := L.but c9
      replace Ls := Ls.but c9
      walk_at "rds"
      refine ⟨len_ok rfl, fun pf hpf => ?_⟩
      generalize hG10 : upd K9 pf _ = K10
      obtain ⟨E10, C10, c10, npf, epf⟩ := alloc hG10 E9 C9 hpf
      clear hG10
      replace tb := tabs_dr c10 E9 tb
      replace L := L.but c10
      replace Ls := Ls.but c10
      walk_at "rds"
      refine ⟨len_ok rfl, fun pg hpg => ?_⟩
      generalize hG11 : upd K10 pg _ = K11
      obtain ⟨E11, C11, c11, npg, epg⟩ := alloc hG11 E10 C10 hpg
      have Lg := LsD.new hG11 E10 C10 hpg (.one npf epf) (.one (by decide) (by omega) (by omega))
      clear hG11
      replace tb := tabs_dr c11 E10 tb
      replace L := L.but c11
      replace Ls := Ls.but c11
      replace epf := c11 _ _ npf epf
      refine r_cat (p := p) L.ls Lg.ls (by rw [L.dv.len, Lg.dv.len]; exact Nat.le_trans (show ds.length + 1 ≤ 200 by omega) big200) fun pm hpm => ?_
      generalize hG12 : upd K11 pm _ = K12
      obtain ⟨E12, C12, c12, npm, epm⟩ := alloc hG12 E11 C11 hpm
      have Lm := LsD.new hG12 E11 C11 hpm (L.dv.app Lg.dv) (L.ty.app Lg.ty)
      clear hG12
      replace tb := tabs_dr c12 E11 tb
      replace L := L.but c12
      replace Ls := Ls.but c12
      replace Lg := Lg.but c12
      replace epf := c12 _ _ npf epf
      obtain ⟨go_, ego⟩ : ∃ g, g = r9 := ⟨_, rfl⟩
      rw [← ego] at Lm
      have go0 : 0 ≤ go_ := by omega
      have go1 : go_ < 24 := by omega
      walk_at "rds"
      refine ⟨_, _, _, _, _, rfl, by decide, by decide, by omega, E12, fun K13 l13 r13 hl13 E13 c13 m13 n13 => ?_⟩
      have C13 := C12.trans c13
      replace tb := tabs_dr c13 E12 tb
      replace L := L.but c13
      replace Ls := Ls.but c13
      replace Lm := Lm.but c13
      walk_at "rds"
      refine ⟨len_ok rfl, fun pi hpi => ?_⟩
      generalize hG14 : upd K13 pi _ = K14
      obtain ⟨E14, C14, c14, npi, epi⟩ := alloc hG14 E13 C13 hpi
      clear hG14
      replace tb := tabs_dr c14 E13 tb
      replace L := L.but c14
      replace Ls := Ls.but c14
      replace Lm := Lm.but c14
      walk_at "rds"
      refine ⟨len_ok rfl, fun pj hpj => ?_⟩
      generalize hG15 : upd K14 pj _ = K15
      obtain ⟨E15, C15, c15, npj, epj⟩ := alloc hG15 E14 C14 hpj
      clear hG15
      replace tb := tabs_dr c15 E14 tb
      replace L := L.but c15
      replace Ls := Ls.but c15
      replace Lm := Lm.but c15
      replace epi := c15 _ _ npi epi
      obtain ⟨gd, egd⟩ : ∃ g, g = 24 + r13 - 1 := ⟨_, rfl⟩
      rw [← egd] at epi
      have gd0 : gd = 23 ∨ gd = 24 := by omega
      have dj : DsV q K15 (us ++ [.ref pi]) (ds ++ ([("open", gd)] : Dl)) := L.dv.app (.one npi epi)
      refine r_cat (p := p) L.ls epj (by rw [L.dv.len]; exact Nat.le_trans (show ds.length + 1 ≤ 200 by omega) big200) fun po hpo => ?_
      generalize hG16 : upd K15 po _ = K16
      obtain ⟨E16, C16, c16, npo, epo⟩ := alloc hG16 E15 C15 hpo
      clear hG16
      replace tb := tabs_dr c16 E15 tb
      replace L := L.but c16
      replace Ls := Ls.but c16
      replace Lm := Lm.but c16
      replace epi := c16 _ _ npi epi
      replace epj := c16 _ _ npj epj
      replace dj := dj.but c16
      have tyo : Typ 24 (ds ++ ([("open", gd)] : Dl)) := (L.ty.le (by decide)).app (.one (by decide) (by omega) (by omega))
      have DR := E16
      clear C16
      walk_at "rds"
      refine ⟨tb, fun X x t => ?_⟩
      refine ⟨_, _, ?_, fun _ _ h => h, fun _ _ _ h => h⟩
      have DX := dr_ext DR x
      walk_at "rds"
      refine r_cat (p := p) (L.ext x).ls (Ls.ext x).ls (by rw [L.dv.len, Ls.dv.len]; exact Nat.le_trans (show ds.length + 12 ≤ 200 by omega) big200) fun pz hpz => ?_
      generalize hZ : upd X pz _ = Z
      obtain ⟨sz, ez⟩ := neu2 hZ hpz
      have nz := dr_neq DX hpz
      clear hZ
      have dz := ((L.ext x).dv.app (Ls.ext x).dv).but (same_but sz)
      have tz := (L.ty.app Ls.ty).le (show (23 : Int) ≤ 24 by decide)
      have lz : (ds ++ (([("join", gs)] : Dl) ++ List.replicate (Int.toNat 11) (("join", 1) : Str × Int))).length ≤ 4000 := by simp only [List.length_append, List.length_cons, List.length_nil, List.length_replicate]; omega
      refine heard_tan (q := q) ez nz dz tz lz h0 h16 h2 fun G v0 s tv0 => ?_
      have y := ext_same (ext_same x sz) s
      replace tb := tabs_same (tabs_same t sz) s
      replace DR := dr_ext DR y
      replace dj := dj.ext y
      replace epo := y _ _ epo (fun _ z => by cases z)
      replace epi := y _ _ epi (fun _ z => by cases z)
      replace L := L.ext y
      replace Ls := Ls.ext y
      replace Lm := Lm.ext y
      clear y s x t DX ez nz dz tz lz sz
      rw [out_typ (L.ty.app Ls.ty), demF_run hr, shut_none hgs] at tv0
      walk_at "rds"
      refine ⟨tb, fun X x t => ?_⟩
      refine ⟨_, _, ?_, fun _ _ h => h, fun _ _ _ h => h⟩
      have DX := dr_ext DR x
      walk_at "rds"
      refine ⟨len_ok rfl, fun z1 hz1 => ?_⟩
      generalize hZ1 : upd X z1 _ = Z1
      obtain ⟨s1, e1⟩ := neu2 hZ1 hz1
      have n1 := dr_neq DX hz1
      clear hZ1
      walk_at "rds"
      refine ⟨len_ok rfl, fun z2 hz2 => ?_⟩
      generalize hZ2 : upd Z1 z2 _ = Z2
      obtain ⟨s2, e2⟩ := neu2 hZ2 hz2
      clear hZ2
      walk_at "rds"
      refine ⟨_, _, _, rfl, rfl, e2, by decide, by decide, le_ok rfl, fun z3 hz3 => ?_⟩
      rw [rep_one]
      generalize hZ3 : upd Z2 z3 _ = Z3
      obtain ⟨s3, e3⟩ := neu2 hZ3 hz3
      clear hZ3
      have s13 : Same X Z3 := (s1.trans s2).trans s3
      refine r_cat (p := p) (s13 _ _ (Lm.ext x).ls) e3 (by rw [Lm.dv.len]; exact Nat.le_trans (show _ ≤ 200 by simp only [List.length_append, List.length_cons, List.length_nil, List.length_replicate]; omega) big200) fun pz hpz => ?_
      generalize hZ : upd Z3 pz _ = Z
      obtain ⟨s4, ez⟩ := neu2 hZ hpz
      have nz := dr_neq (DX.same s13) hpz
      clear hZ
      have sz : Same X Z := s13.trans s4
      have dz := ((Lm.ext x).dv.but (same_but sz)).app (DsV.rep n1 (s4 _ _ (s3 _ _ (s2 _ _ e1))) (13 : Int).toNat)
      have tz := (Lm.ty.app (Typ.rep (b := 23) (w := "join") (g := 1) (by decide) (by decide) (by decide) (13 : Int).toNat)).le (show (23 : Int) ≤ 24 by decide)
      have tq := Lm.ty.app (Typ.rep (b := 23) (w := "join") (g := 1) (by decide) (by decide) (by decide) (13 : Int).toNat)
      have lz : ((ds ++ ([("open", go_)] : Dl)) ++ List.replicate (13 : Int).toNat (("join", 1) : Str × Int)).length ≤ 4000 := by simp only [List.length_append, List.length_cons, List.length_nil, List.length_replicate]; omega
      refine heard_tan (q := q) ez nz dz tz lz h0 h16 h2 fun G v1 s tv1 => ?_
      have y := ext_same (ext_same x sz) s
      replace tb := tabs_same (tabs_same t sz) s
      replace DR := dr_ext DR y
      replace dj := dj.ext y
      replace epo := y _ _ epo (fun _ z => by cases z)
      replace epi := y _ _ epi (fun _ z => by cases z)
      replace L := L.ext y
      replace Ls := Ls.ext y
      replace Lm := Lm.ext y
      replace tv0 := tv0.ext y
      clear y s x t DX ez nz dz tz lz sz
      rw [out_typ tq, List.append_assoc, demF_run hr] at tv1
      rw [show demF (([("open", go_)] : Dl) ++ List.replicate (13 : Int).toNat (("join", 1) : Str × Int)) 24 = some true from open_more go0 go1] at tv1
      walk_at "rds"
      refine ⟨tb, fun X x t => ?_⟩
      refine ⟨_, _, ?_, fun _ _ h => h, fun _ _ _ h => h⟩
      have DX := dr_ext DR x
      walk_at "rds"
      refine ⟨_, rfl, ?_⟩
      refine ⟨_, _, rfl, SqL.of (Ls.ext x).ls, ?_⟩
      intro z1 hz1
      rw [cut1 (by rw [Ls.dv.len]; exact Nat.succ_le_succ (Nat.zero_le _))]
      generalize hZ1 : upd X z1 _ = Z1
      obtain ⟨s1, e1⟩ := neu2 hZ1 hz1
      clear hZ1
      refine r_cat (p := p) (s1 _ _ (L.ext x).ls) e1 (by rw [L.dv.len, (Ls.dv.drop 1).len]; exact Nat.le_trans (show ds.length + 11 ≤ 200 by omega) big200) fun pz hpz => ?_
      generalize hZ : upd Z1 pz _ = Z
      obtain ⟨s2, ez⟩ := neu2 hZ hpz
      have nz := dr_neq (DX.same s1) hpz
      clear hZ
      have sz : Same X Z := s1.trans s2
      have dz := ((L.ext x).dv.app ((Ls.ext x).dv.drop 1)).but (same_but sz)
      have tz := (L.ty.app (Ls.ty.drop 1)).le (show (23 : Int) ≤ 24 by decide)
      have lz : (ds ++ (([("join", gs)] : Dl) ++ List.replicate (Int.toNat 11) (("join", 1) : Str × Int)).drop 1).length ≤ 4000 := by simp only [List.length_append, List.length_drop, List.length_cons, List.length_nil, List.length_replicate]; omega
      refine heard_tan (q := q) ez nz dz tz lz h0 h16 h2 fun G v2 s tv2 => ?_
      have y := ext_same (ext_same x sz) s
      replace tb := tabs_same (tabs_same t sz) s
      replace DR := dr_ext DR y
      replace dj := dj.ext y
      replace epo := y _ _ epo (fun _ z => by cases z)
      replace epi := y _ _ epi (fun _ z => by cases z)
      replace L := L.ext y
      replace Ls := Ls.ext y
      replace Lm := Lm.ext y
      replace tv0 := tv0.ext y
      replace tv1 := tv1.ext y
      clear y s x t DX ez nz dz tz lz sz
      rw [out_typ (L.ty.app (Ls.ty.drop 1)), demF_run hr, shut_short] at tv2
      walk_at "rds"
      refine ⟨len_ok rfl, fun ph hph => ?_⟩
      generalize hZ1 : upd _ ph _ = Z1
      obtain ⟨sZ, eph⟩ := neu2 hZ1 hph
      have y := ExtN.of sZ
      clear hZ1 hph
      replace tb := tabs_same tb sZ
      replace DR := DR.same sZ
      replace dj := dj.ext y
      replace epo := sZ _ _ epo
      replace epi := sZ _ _ epi
      replace tv0 := tv0.ext y
      replace tv1 := tv1.ext y
      replace tv2 := tv2.ext y
      clear y sZ
      walk_at "rds"
      refine ⟨len_ok rfl, fun pu hpu => ?_⟩
      generalize hZ2 : upd _ pu _ = Z2
      obtain ⟨sZ, epu⟩ := neu2 hZ2 hpu
      have y := ExtN.of sZ
      clear hZ2 hpu
      replace tb := tabs_same tb sZ
      replace DR := DR.same sZ
      replace dj := dj.ext y
      replace epo := sZ _ _ epo
      replace epi := sZ _ _ epi
      replace tv0 := tv0.ext y
      replace tv1 := tv1.ext y
      replace tv2 := tv2.ext y
      replace eph := sZ _ _ eph
      clear y sZ
      walk_at "rds"
      refine ⟨len_ok rfl, fun pv hpv => ?_⟩
      generalize hZ3 : upd _ pv _ = Z3
      obtain ⟨sZ, epv⟩ := neu2 hZ3 hpv
      have y := ExtN.of sZ
      clear hZ3 hpv
      replace tb := tabs_same tb sZ
      replace DR := DR.same sZ
      replace dj := dj.ext y
      replace epo := sZ _ _ epo
      replace epi := sZ _ _ epi
      replace tv0 := tv0.ext y
      replace tv1 := tv1.ext y
      replace tv2 := tv2.ext y
      replace eph := sZ _ _ eph
      replace epu := sZ _ _ epu
      clear y sZ
      walk_at "rds"
      refine ⟨len_ok rfl, fun pw hpw => ?_⟩
      generalize hZ4 : upd _ pw _ = Z4
      obtain ⟨sZ, epw⟩ := neu2 hZ4 hpw
      have y := ExtN.of sZ
      clear hZ4 hpw
      replace tb := tabs_same tb sZ
      replace DR := DR.same sZ
      replace dj := dj.ext y
      replace epo := sZ _ _ epo
      replace epi := sZ _ _ epi
      replace tv0 := tv0.ext y
      replace tv1 := tv1.ext y
      replace tv2 := tv2.ext y
      replace eph := sZ _ _ eph
      replace epu := sZ _ _ epu
      replace epv := sZ _ _ epv
      clear y sZ
      have dd1 : Dp K Z4 (.ref ph) (.list [.none, .tuple [.str "ends", .int 24], .tuple [.str "misfit", .str "deeds"]]) := .lst (SqL.of eph) (.cons (two_dp tv0 trivial) (.cons (two_dp tv1 ⟨⟨_, rfl⟩, .inr ⟨_, rfl⟩⟩) (.cons (two_dp tv2 ⟨⟨_, rfl⟩, .inl ⟨_, rfl⟩⟩) .nil)))
      have dd2 : Dp K Z4 (.ref pw) (.list [.none, .tuple [.str "ends", .int 24], .tuple [.str "misfit", .str "deeds"]]) := .lst (SqL.of epw) (.cons .non (.cons (.tup (SqT.of epu) (.cons (.str _) (.cons (.int _) .nil))) (.cons (.tup (SqT.of epv) (.cons (.str _) (.cons (.str _) .nil))) .nil)))
      refine ⟨_, _, dd1, dd2, by decide +kernel, by decide +kernel, ?_⟩
      clear dd1 dd2 tv0 tv1 tv2
      rw [show PyData.eqv (.list [.none, .tuple [.str "ends", .int 24], .tuple [.str "misfit", .str "deeds"]]) (.list [.none, .tuple [.str "ends", .int 24], .tuple [.str "misfit", .str "deeds"]]) = true by decide +kernel]
      walk_at "rds"
      refine ⟨tb, fun X x t => ?_⟩
      refine ⟨_, _, ?_, fun _ _ h => h, fun _ _ _ h => h⟩
      walk_at "rds"
      refine heard_tan (q := q) (x _ _ epo (fun _ z => by cases z)) npo (dj.ext x) tyo (by simp only [List.length_append, List.length_cons, List.length_nil]; omega) h0 h16 h2 fun G v s tv => ?_
      have y := ext_same x s
      replace epo := y _ _ epo (fun _ z => by cases z)
      replace epi := y _ _ epi (fun _ z => by cases z)
      clear y s x t tb
      walk_at "rds"
      refine r_ixL (SqL.of epo) atI_last ?_
      walk_at "rds"
      refine r_ixT (SqT.of epi) at21 ?_
      walk_at "rds"
      refine ⟨rfl, ?_⟩
      rcases gd0 with e | e
      · rw [decide_eq_false (fun z => by have := V.int.inj z; omega)]
        have eo : outT (ds ++ ([("open", gd)] : Dl)) m = dueO (some true) := by
          rw [out_typ (L.ty.app (.one (by decide) (by omega) (by omega))), demF_run hr, open_more (by omega) (by omega)]
        rw [eo] at tv
        walk_at "rds"
        refine ⟨len_ok rfl, fun pz hpz => ?_⟩
        generalize hZ : upd G pz _ = Z
        obtain ⟨sZ, ez⟩ := neu2 hZ hpz
        have tv2 := tv.ext (ExtN.of sZ)
        clear hZ
        refine ⟨_, _, two_dp tv2 ⟨⟨_, rfl⟩, .inr ⟨_, rfl⟩⟩, .tup (SqT.of ez) (.cons (.str _) (.cons (.int _) .nil)), by decide +kernel, by decide +kernel, ?_⟩
        rw [show PyData.eqv (twoD (dueO (some true))) (.tuple [.str "ends", .int 24]) = true by decide +kernel]
        exact k _
      · rw [decide_eq_true (congrArg V.int e)]
        subst e
        have eo : outT (ds ++ ([("open", 24)] : Dl)) m = some (.str "tangle", .str "deeds") := by
          unfold outT
          rw [gaps_bad]
          rfl
        rw [eo] at tv
        walk_at "rds"
        refine ⟨len_ok rfl, fun pz hpz => ?_⟩
        generalize hZ : upd G pz _ = Z
        obtain ⟨sZ, ez⟩ := neu2 hZ hpz
        have tv2 := tv.ext (ExtN.of sZ)
        clear hZ
        refine ⟨_, _, two_dp tv2 ⟨⟨_, rfl⟩, .inl ⟨_, rfl⟩⟩, .tup (SqT.of ez) (.cons (.str _) (.cons (.str _) .nil)), by decide +kernel, by decide +kernel, ?_⟩
        rw [show PyData.eqv (twoD (some (.str "tangle", .str "deeds"))) (.tuple [.str "tangle", .str "deeds"]) = true by decide +kernel]
        exact k _
end
end K27
namespace K27
open PySem PySem.Spec PyProof.Rows L2 Rp LamX RZ
abbrev sIniBadTangle : Stmt := (clsBody 5).getD 0 (.Pass ⟨0, 0, 0, 0⟩)
theorem scIniBadTangle : FnScope ["self", "part"] ["self", "part"] (defScope sIniBadTangle) := ⟨rfl, rfl, rfl, by decide +kernel, rfl, by decide +kernel, by decide +kernel⟩
theorem ok_IniBadTangle {P : Program} {w : World} {K : PySem.W.Frag} {mg : Str → Option Value} {base : Heap} {C f : Addr} {fd : FuncData} (F : Fun K "__init__" "BadTangle.__init__" sIniBadTangle f fd) (O : OexC K C) (no : PySem.W.findIn K (.ref C) "part" = some none) : FnOk P w K mg base CX0 1 f fd ["self", "part"] (spIni1 C "part") := by
  refine F.ok scIniBadTangle (fun vs H Q E h => ?_) fun cdv A outer s H vs Q E hr h => ?_
  · obtain ⟨a, v, rfl, _⟩ := h
    rfl
  · obtain ⟨a, v, rfl, ha, k⟩ := h
    refine ⟨_, pss_one (ps_ost (pv 0) (pv 1)), ?_⟩
    refine r_start (l := [some (.ref a), some v]) rfl ?_
    refine ⟨_, rfl, ?_⟩
    refine ⟨_, rfl, ?_⟩
    exact ⟨a, C, rfl, O, no, .inl ⟨ha, fun dx n ne => k dx n ne⟩⟩
abbrev sIniMisfit : Stmt := (clsBody 6).getD 0 (.Pass ⟨0, 0, 0, 0⟩)
theorem scIniMisfit : FnScope ["self", "part"] ["self", "part"] (defScope sIniMisfit) := ⟨rfl, rfl, rfl, by decide +kernel, rfl, by decide +kernel, by decide +kernel⟩
theorem ok_IniMisfit {P : Program} {w : World} {K : PySem.W.Frag} {mg : Str → Option Value} {base : Heap} {C f : Addr} {fd : FuncData} (F : Fun K "__init__" "Misfit.__init__" sIniMisfit f fd) (O : OexC K C) (no : PySem.W.findIn K (.ref C) "part" = some none) : FnOk P w K mg base CX0 1 f fd ["self", "part"] (spIni1 C "part") := by
  refine F.ok scIniMisfit (fun vs H Q E h => ?_) fun cdv A outer s H vs Q E hr h => ?_
  · obtain ⟨a, v, rfl, _⟩ := h
    rfl
  · obtain ⟨a, v, rfl, ha, k⟩ := h
    refine ⟨_, pss_one (ps_ost (pv 0) (pv 1)), ?_⟩
    refine r_start (l := [some (.ref a), some v]) rfl ?_
    refine ⟨_, rfl, ?_⟩
    refine ⟨_, rfl, ?_⟩
    exact ⟨a, C, rfl, O, no, .inl ⟨ha, fun dx n ne => k dx n ne⟩⟩
abbrev sIniTooMany : Stmt := (clsBody 7).getD 0 (.Pass ⟨0, 0, 0, 0⟩)
theorem scIniTooMany : FnScope ["self", "what", "most"] ["self", "what", "most"] (defScope sIniTooMany) := ⟨rfl, rfl, rfl, by decide +kernel, rfl, by decide +kernel, by decide +kernel⟩
theorem ok_IniTooMany {P : Program} {w : World} {K : PySem.W.Frag} {mg : Str → Option Value} {base : Heap} {C f : Addr} {fd : FuncData} (F : Fun K "__init__" "TooMany.__init__" sIniTooMany f fd) (O : OexC K C) (no : PySem.W.findIn K (.ref C) "what" = some none) (no2 : PySem.W.findIn K (.ref C) "most" = some none) : FnOk P w K mg base CX0 1 f fd ["self", "what", "most"] (spIni2 C "what" "most") := by
  refine F.ok scIniTooMany (fun vs H Q E h => ?_) fun cdv A outer s H vs Q E hr h => ?_
  · obtain ⟨a, v, u, rfl, _⟩ := h
    rfl
  · obtain ⟨a, v, u, rfl, ha, k⟩ := h
    refine ⟨_, pss_cons (ps_ost (pv 0) (pv 1)) (pss_one (ps_ost (pv 0) (pv 2))), ?_⟩
    refine r_start (l := [some (.ref a), some v, some u]) rfl ?_
    refine r_seq ?_
    refine ⟨_, rfl, ?_⟩
    refine ⟨_, rfl, ?_⟩
    refine ⟨a, C, rfl, O, no, .inl ⟨ha, fun dx n ne => ?_⟩⟩
    refine ⟨_, rfl, ?_⟩
    refine ⟨_, rfl, ?_⟩
    refine ⟨a, C, rfl, O, no2, .inr ⟨dx, [("what", v)], upd_same, by rw [upd_ne ne, upd_same], by show 1 ≤ 900; decide, k dx n ne⟩⟩
theorem all_mk {l : PySem.W.OpenLaw} {w : World} {K : PySem.W.Frag} {h : Heap} {mg : Str → Option Value} {fa : Addr} {P0 : Addr} (X : K.In h) (G : h.Ns mainGlobals mg) (hfa : mg "law" = some (.ref fa))
    {A_BadTangle : Addr}
    {A_Misfit : Addr}
    {A_TooMany : Addr}
    {A_BadText : Addr}
    {A_RopeError : Addr}
    {A_Items : Addr}
    {A_Tangle : Addr}
    {f0 : Addr} {od0 an0 : Option Addr} {sl0 : Array (Option Value)} {oc0 kV0 dc0 pm0 cd0 ct0 : Value}
    {f1 : Addr} {od1 an1 : Option Addr} {sl1 : Array (Option Value)} {oc1 kV1 dc1 pm1 cd1 ct1 : Value}
    {f2 : Addr} {od2 an2 : Option Addr} {sl2 : Array (Option Value)} {oc2 kV2 dc2 pm2 cd2 ct2 : Value}
    {f3 : Addr} {od3 an3 : Option Addr} {sl3 : Array (Option Value)} {oc3 kV3 dc3 pm3 cd3 ct3 : Value}
    {f4 : Addr} {od4 an4 : Option Addr} {sl4 : Array (Option Value)} {oc4 kV4 dc4 pm4 cd4 ct4 : Value}
    {f5 : Addr} {od5 an5 : Option Addr} {sl5 : Array (Option Value)} {oc5 kV5 dc5 pm5 cd5 ct5 : Value}
    {f6 : Addr} {od6 an6 : Option Addr} {sl6 : Array (Option Value)} {oc6 kV6 dc6 pm6 cd6 ct6 : Value}
    {f7 : Addr} {od7 an7 : Option Addr} {sl7 : Array (Option Value)} {oc7 kV7 dc7 pm7 cd7 ct7 : Value}
    {f8 : Addr} {od8 an8 : Option Addr} {sl8 : Array (Option Value)} {oc8 kV8 dc8 pm8 cd8 ct8 : Value}
    {f9 : Addr} {od9 an9 : Option Addr} {sl9 : Array (Option Value)} {oc9 kV9 dc9 pm9 cd9 ct9 : Value}
    {f10 : Addr} {od10 an10 : Option Addr} {sl10 : Array (Option Value)} {oc10 kV10 dc10 pm10 cd10 ct10 : Value}
    {f11 : Addr} {od11 an11 : Option Addr} {sl11 : Array (Option Value)} {oc11 kV11 dc11 pm11 cd11 ct11 : Value}
    {f12 : Addr} {od12 an12 : Option Addr} {sl12 : Array (Option Value)} {oc12 kV12 dc12 pm12 cd12 ct12 : Value}
    {f13 : Addr} {od13 an13 : Option Addr} {sl13 : Array (Option Value)} {oc13 kV13 dc13 pm13 cd13 ct13 : Value}
    {f14 : Addr} {od14 an14 : Option Addr} {sl14 : Array (Option Value)} {oc14 kV14 dc14 pm14 cd14 ct14 : Value}
    {f15 : Addr} {od15 an15 : Option Addr} {sl15 : Array (Option Value)} {oc15 kV15 dc15 pm15 cd15 ct15 : Value}
    {f16 : Addr} {od16 an16 : Option Addr} {sl16 : Array (Option Value)} {oc16 kV16 dc16 pm16 cd16 ct16 : Value}
    {f17 cc17 : Addr} {od17 an17 : Option Addr} {sl17 : Array (Option Value)} {oc17 kV17 dc17 pm17 ct17 : Value}
    {k_MOST_DEEDS : Tok}
    {k_MOST_ENDS : Tok}
    {k_MOST_AT_RIM : Tok}
    {t_WORDS : Addr} {od_WORDS : Option Addr} {n_WORDS : Nat} {sl_WORDS : Array (Option Value)} {tk_WORDS_0 tk_WORDS_1 tk_WORDS_2 tk_WORDS_3 tk_WORDS_4 : Tok}
    {fi_BadTangle : Addr} {nm_BadTangle q_BadTangle : Str} {N_BadTangle : Addr} {bs_BadTangle bm_BadTangle : List Value} {sn_BadTangle : List Str} {sub_BadTangle : List Value} {ab_BadTangle : Bool} {col_BadTangle : Option Bool} {dd_BadTangle : Option Addr} {k0_BadTangle k1_BadTangle k2_BadTangle k3_BadTangle k5_BadTangle : Option Value} {od_BadTangle an_BadTangle : Option Addr} {sl_BadTangle : Array (Option Value)} {oc_BadTangle kV_BadTangle dc_BadTangle pm_BadTangle cd_BadTangle ct_BadTangle : Value}
    {fi_Misfit : Addr} {nm_Misfit q_Misfit : Str} {N_Misfit : Addr} {bs_Misfit bm_Misfit : List Value} {sn_Misfit : List Str} {sub_Misfit : List Value} {ab_Misfit : Bool} {col_Misfit : Option Bool} {dd_Misfit : Option Addr} {k0_Misfit k1_Misfit k2_Misfit k3_Misfit k5_Misfit : Option Value} {od_Misfit an_Misfit : Option Addr} {sl_Misfit : Array (Option Value)} {oc_Misfit kV_Misfit dc_Misfit pm_Misfit cd_Misfit ct_Misfit : Value}
    {fi_TooMany : Addr} {nm_TooMany q_TooMany : Str} {N_TooMany : Addr} {bs_TooMany bm_TooMany : List Value} {sn_TooMany : List Str} {sub_TooMany : List Value} {ab_TooMany : Bool} {col_TooMany : Option Bool} {dd_TooMany : Option Addr} {k0_TooMany k1_TooMany k2_TooMany k3_TooMany k5_TooMany : Option Value} {od_TooMany an_TooMany : Option Addr} {sl_TooMany : Array (Option Value)} {oc_TooMany kV_TooMany dc_TooMany pm_TooMany cd_TooMany ct_TooMany : Value}
    (g_BadTangle : PySem.W.nsIn K mainGlobals "BadTangle" = some (some (.ref A_BadTangle)))
    (g_Misfit : PySem.W.nsIn K mainGlobals "Misfit" = some (some (.ref A_Misfit)))
    (g_TooMany : PySem.W.nsIn K mainGlobals "TooMany" = some (some (.ref A_TooMany)))
    (g_BadText : PySem.W.nsIn K mainGlobals "BadText" = some (some (.ref A_BadText)))
    (g_RopeError : PySem.W.nsIn K mainGlobals "RopeError" = some (some (.ref A_RopeError)))
    (g_Items : PySem.W.nsIn K mainGlobals "Items" = some (some (.ref A_Items)))
    (g_Tangle : PySem.W.nsIn K mainGlobals "Tangle" = some (some (.ref A_Tangle)))
    (mk_Tangle : PySem.W.makesIn K A_Tangle = true)
    (kp_Tangle : PySem.W.keepIn K (.ref A_Tangle) = true)
    (pg_Tangle : PySem.W.plainGet K A_Tangle Str.empty = true)
    (hd_Tangle : PySem.W.hasDictIn K A_Tangle = true)
    (po_Tangle : PySem.W.plainOver K A_Tangle = true)
    (sa_Tangle : PySem.W.findIn K (.ref A_Tangle) "__setattr__" = some (some (.builtin "object.__setattr__")))
    (na_Tangle_ends : PySem.W.findIn K (.ref A_Tangle) "ends" = some none)
    (na_Tangle_deeds : PySem.W.findIn K (.ref A_Tangle) "deeds" = some none)
    (a0 : PySem.W.nsIn K mainGlobals "is_integer" = some (some (.ref f0)))
    (l0 : K.lookup f0 = some ⟨oc0, od0, .func (PySem.W.fnOf "is_integer" "is_integer" (defArgs sIsInteger) (defBody sIsInteger) (defScope sIsInteger) .none kV0 dc0 pm0 an0 cd0 ct0), sl0⟩)
    (c0 : PySem.W.codeIn K cd0 "is_integer" = true)
    (k0 : PySem.W.keepIn K (.ref f0) = true)
    (a1 : PySem.W.nsIn K mainGlobals "is_within" = some (some (.ref f1)))
    (l1 : K.lookup f1 = some ⟨oc1, od1, .func (PySem.W.fnOf "is_within" "is_within" (defArgs sIsWithin) (defBody sIsWithin) (defScope sIsWithin) .none kV1 dc1 pm1 an1 cd1 ct1), sl1⟩)
    (c1 : PySem.W.codeIn K cd1 "is_within" = true)
    (k1 : PySem.W.keepIn K (.ref f1) = true)
    (a2 : PySem.W.nsIn K mainGlobals "are_deeds" = some (some (.ref f2)))
    (l2 : K.lookup f2 = some ⟨oc2, od2, .func (PySem.W.fnOf "are_deeds" "are_deeds" (defArgs sAreDeeds) (defBody sAreDeeds) (defScope sAreDeeds) .none kV2 dc2 pm2 an2 cd2 ct2), sl2⟩)
    (c2 : PySem.W.codeIn K cd2 "are_deeds" = true)
    (k2 : PySem.W.keepIn K (.ref f2) = true)
    (a3 : PySem.W.nsIn K mainGlobals "_is_deed" = some (some (.ref f3)))
    (l3 : K.lookup f3 = some ⟨oc3, od3, .func (PySem.W.fnOf "_is_deed" "_is_deed" (defArgs sIsDeed) (defBody sIsDeed) (defScope sIsDeed) .none kV3 dc3 pm3 an3 cd3 ct3), sl3⟩)
    (c3 : PySem.W.codeIn K cd3 "_is_deed" = true)
    (k3 : PySem.W.keepIn K (.ref f3) = true)
    (a4 : PySem.W.nsIn K mainGlobals "_fitting_gaps" = some (some (.ref f4)))
    (l4 : K.lookup f4 = some ⟨oc4, od4, .func (PySem.W.fnOf "_fitting_gaps" "_fitting_gaps" (defArgs sFittingGaps) (defBody sFittingGaps) (defScope sFittingGaps) .none kV4 dc4 pm4 an4 cd4 ct4), sl4⟩)
    (c4 : PySem.W.codeIn K cd4 "_fitting_gaps" = true)
    (k4 : PySem.W.keepIn K (.ref f4) = true)
    (a5 : PySem.W.nsIn K mainGlobals "ends_behind" = some (some (.ref f5)))
    (l5 : K.lookup f5 = some ⟨oc5, od5, .func (PySem.W.fnOf "ends_behind" "ends_behind" (defArgs sEndsBehind) (defBody sEndsBehind) (defScope sEndsBehind) .none kV5 dc5 pm5 an5 cd5 ct5), sl5⟩)
    (c5 : PySem.W.codeIn K cd5 "ends_behind" = true)
    (k5 : PySem.W.keepIn K (.ref f5) = true)
    (a6 : PySem.W.nsIn K mainGlobals "demand_fitting" = some (some (.ref f6)))
    (l6 : K.lookup f6 = some ⟨oc6, od6, .func (PySem.W.fnOf "demand_fitting" "demand_fitting" (defArgs sDemandFitting) (defBody sDemandFitting) (defScope sDemandFitting) .none kV6 dc6 pm6 an6 cd6 ct6), sl6⟩)
    (c6 : PySem.W.codeIn K cd6 "demand_fitting" = true)
    (k6 : PySem.W.keepIn K (.ref f6) = true)
    (a7 : PySem.W.findIn K (.ref A_Tangle) "__init__" = some (some (.ref f7)))
    (l7 : K.lookup f7 = some ⟨oc7, od7, .func (PySem.W.fnOf "__init__" "Tangle.__init__" (defArgs sTangleInit) (defBody sTangleInit) (defScope sTangleInit) .none kV7 dc7 pm7 an7 cd7 ct7), sl7⟩)
    (c7 : PySem.W.codeIn K cd7 "Tangle.__init__" = true)
    (k7 : PySem.W.keepIn K (.ref f7) = true)
    (fn7 : PySem.W.isFn K (.ref f7) = true)
    (a8 : PySem.W.nsIn K mainGlobals "_law_turnstile" = some (some (.ref f8)))
    (l8 : K.lookup f8 = some ⟨oc8, od8, .func (PySem.W.fnOf "_law_turnstile" "_law_turnstile" (defArgs sLawTurnstile) (defBody sLawTurnstile) (defScope sLawTurnstile) .none kV8 dc8 pm8 an8 cd8 ct8), sl8⟩)
    (c8 : PySem.W.codeIn K cd8 "_law_turnstile" = true)
    (k8 : PySem.W.keepIn K (.ref f8) = true)
    (a9 : PySem.W.nsIn K mainGlobals "_law_token" = some (some (.ref f9)))
    (l9 : K.lookup f9 = some ⟨oc9, od9, .func (PySem.W.fnOf "_law_token" "_law_token" (defArgs sLawToken) (defBody sLawToken) (defScope sLawToken) .none kV9 dc9 pm9 an9 cd9 ct9), sl9⟩)
    (c9 : PySem.W.codeIn K cd9 "_law_token" = true)
    (k9 : PySem.W.keepIn K (.ref f9) = true)
    (a10 : PySem.W.nsIn K mainGlobals "_law_pick" = some (some (.ref f10)))
    (l10 : K.lookup f10 = some ⟨oc10, od10, .func (PySem.W.fnOf "_law_pick" "_law_pick" (defArgs sLawPick) (defBody sLawPick) (defScope sLawPick) .none kV10 dc10 pm10 an10 cd10 ct10), sl10⟩)
    (c10 : PySem.W.codeIn K cd10 "_law_pick" = true)
    (k10 : PySem.W.keepIn K (.ref f10) = true)
    (a11 : PySem.W.nsIn K mainGlobals "_law_deeds" = some (some (.ref f11)))
    (l11 : K.lookup f11 = some ⟨oc11, od11, .func (PySem.W.fnOf "_law_deeds" "_law_deeds" (defArgs sLawDeeds) (defBody sLawDeeds) (defScope sLawDeeds) .none kV11 dc11 pm11 an11 cd11 ct11), sl11⟩)
    (c11 : PySem.W.codeIn K cd11 "_law_deeds" = true)
    (k11 : PySem.W.keepIn K (.ref f11) = true)
    (a12 : PySem.W.nsIn K mainGlobals "_law_fits" = some (some (.ref f12)))
    (l12 : K.lookup f12 = some ⟨oc12, od12, .func (PySem.W.fnOf "_law_fits" "_law_fits" (defArgs sLawFits) (defBody sLawFits) (defScope sLawFits) .none kV12 dc12 pm12 an12 cd12 ct12), sl12⟩)
    (c12 : PySem.W.codeIn K cd12 "_law_fits" = true)
    (k12 : PySem.W.keepIn K (.ref f12) = true)
    (a13 : PySem.W.nsIn K mainGlobals "_law_then" = some (some (.ref f13)))
    (l13 : K.lookup f13 = some ⟨oc13, od13, .func (PySem.W.fnOf "_law_then" "_law_then" (defArgs sLawThen) (defBody sLawThen) (defScope sLawThen) .none kV13 dc13 pm13 an13 cd13 ct13), sl13⟩)
    (c13 : PySem.W.codeIn K cd13 "_law_then" = true)
    (k13 : PySem.W.keepIn K (.ref f13) = true)
    (a14 : PySem.W.nsIn K mainGlobals "_law_heard" = some (some (.ref f14)))
    (l14 : K.lookup f14 = some ⟨oc14, od14, .func (PySem.W.fnOf "_law_heard" "_law_heard" (defArgs sLawHeard) (defBody sLawHeard) (defScope sLawHeard) .none kV14 dc14 pm14 an14 cd14 ct14), sl14⟩)
    (c14 : PySem.W.codeIn K cd14 "_law_heard" = true)
    (k14 : PySem.W.keepIn K (.ref f14) = true)
    (a15 : PySem.W.nsIn K mainGlobals "_law_due" = some (some (.ref f15)))
    (l15 : K.lookup f15 = some ⟨oc15, od15, .func (PySem.W.fnOf "_law_due" "_law_due" (defArgs sLawDue) (defBody sLawDue) (defScope sLawDue) .none kV15 dc15 pm15 an15 cd15 ct15), sl15⟩)
    (c15 : PySem.W.codeIn K cd15 "_law_due" = true)
    (k15 : PySem.W.keepIn K (.ref f15) = true)
    (a16 : PySem.W.nsIn K mainGlobals "_law_bent" = some (some (.ref f16)))
    (l16 : K.lookup f16 = some ⟨oc16, od16, .func (PySem.W.fnOf "_law_bent" "_law_bent" (defArgs sLawBent) (defBody sLawBent) (defScope sLawBent) .none kV16 dc16 pm16 an16 cd16 ct16), sl16⟩)
    (c16 : PySem.W.codeIn K cd16 "_law_bent" = true)
    (k16 : PySem.W.keepIn K (.ref f16) = true)
    (a17 : PySem.W.nsIn K mainGlobals "law" = some (some (.ref f17)))
    (l17 : K.lookup f17 = some ⟨oc17, od17, .func (PySem.W.fnOf "law" "law" (defArgs sLaw) (defBody sLaw) (defScope sLaw) .none kV17 dc17 pm17 an17 (.ref cc17) ct17), sl17⟩)
    (c17 : PySem.W.codeIn K (.ref cc17) "law" = true)
    (k17 : PySem.W.keepIn K (.ref f17) = true)
    (z_abs : PySem.W.nsIn K mainGlobals "abs" = some none)
    (z_all : PySem.W.nsIn K mainGlobals "all" = some none)
    (z_bool : PySem.W.nsIn K mainGlobals "bool" = some none)
    (z_int : PySem.W.nsIn K mainGlobals "int" = some none)
    (z_isinstance : PySem.W.nsIn K mainGlobals "isinstance" = some none)
    (z_len : PySem.W.nsIn K mainGlobals "len" = some none)
    (z_list : PySem.W.nsIn K mainGlobals "list" = some none)
    (z_max : PySem.W.nsIn K mainGlobals "max" = some none)
    (z_min : PySem.W.nsIn K mainGlobals "min" = some none)
    (z_range : PySem.W.nsIn K mainGlobals "range" = some none)
    (z_repr : PySem.W.nsIn K mainGlobals "repr" = some none)
    (z_str : PySem.W.nsIn K mainGlobals "str" = some none)
    (z_tuple : PySem.W.nsIn K mainGlobals "tuple" = some none)
    (q_MOST_DEEDS : PySem.W.nsIn K mainGlobals "MOST_DEEDS" = some (some (.int 4000 k_MOST_DEEDS)))
    (q_MOST_ENDS : PySem.W.nsIn K mainGlobals "MOST_ENDS" = some (some (.int 24 k_MOST_ENDS)))
    (q_MOST_AT_RIM : PySem.W.nsIn K mainGlobals "MOST_AT_RIM" = some (some (.int 16 k_MOST_AT_RIM)))
    (q_WORDS : PySem.W.nsIn K mainGlobals "WORDS" = some (some (.ref t_WORDS)))
    (lq_WORDS : K.lookup t_WORDS = some ⟨.type "tuple", od_WORDS, .seq #[.str "over" tk_WORDS_0, .str "under" tk_WORDS_1, .str "join" tk_WORDS_2, .str "open" tk_WORDS_3, .str "turn" tk_WORDS_4] n_WORDS, sl_WORDS⟩)
    (o_BadTangle : K.lookup A_BadTangle = some (excClassObj nm_BadTangle q_BadTangle A_BadTangle N_BadTangle bs_BadTangle bm_BadTangle true sn_BadTangle sub_BadTangle ab_BadTangle col_BadTangle dd_BadTangle k0_BadTangle k1_BadTangle k2_BadTangle k3_BadTangle k5_BadTangle "ValueError.__new__"))
    (r_BadTangle : PySem.HandSPX.refsVE bm_BadTangle = true)
    (sa_BadTangle : PySem.W.findIn K (.ref A_BadTangle) "__setattr__" = some (some (.builtin "object.__setattr__")))
    (ex_BadTangle : PySem.W.subIn K (.ref A_BadTangle) (.type "BaseException") = some true)
    (ty_BadTangle : PySem.W.typeIn K (.ref A_BadTangle) = some (.type "type"))
    (kc_BadTangle : PySem.W.keepIn K (.ref A_BadTangle) = true)
    (no_BadTangle_part : PySem.W.findIn K (.ref A_BadTangle) "part" = some none)
    (ga_BadTangle : PySem.W.findIn K (.ref A_BadTangle) "__getattribute__" = some (some (.builtin "BaseException.__getattribute__")))
    (gg_BadTangle : PySem.W.findIn K (.ref A_BadTangle) "__getattr__" = some none)
    (hd_BadTangle : PySem.W.hasDictIn K A_BadTangle = true)
    (ha_BadTangle : PySem.W.findIn K (.ref A_BadTangle) "__class__" = some (some (.builtin "object.__class__")))
    (hm_BadTangle : PySem.W.mroIn K A_BadTangle (.type "object") = some true)
    (in_BadTangle : PySem.W.findIn K (.ref A_BadTangle) "__init__" = some (some (.ref fi_BadTangle)))
    (it_BadTangle : PySem.W.typeIn K (.ref fi_BadTangle) = some (.type "function"))
    (il_BadTangle : K.lookup fi_BadTangle = some ⟨oc_BadTangle, od_BadTangle, .func (PySem.W.fnOf "__init__" "BadTangle.__init__" (defArgs sIniBadTangle) (defBody sIniBadTangle) (defScope sIniBadTangle) .none kV_BadTangle dc_BadTangle pm_BadTangle an_BadTangle cd_BadTangle ct_BadTangle), sl_BadTangle⟩)
    (ic_BadTangle : PySem.W.codeIn K cd_BadTangle "BadTangle.__init__" = true)
    (ik_BadTangle : PySem.W.keepIn K (.ref fi_BadTangle) = true)
    (up_BadTangle : PySem.W.exmOne K (.ref A_BadTangle) (.ref A_RopeError) = some true)
    (o_Misfit : K.lookup A_Misfit = some (excClassObj nm_Misfit q_Misfit A_Misfit N_Misfit bs_Misfit bm_Misfit true sn_Misfit sub_Misfit ab_Misfit col_Misfit dd_Misfit k0_Misfit k1_Misfit k2_Misfit k3_Misfit k5_Misfit "ValueError.__new__"))
    (r_Misfit : PySem.HandSPX.refsVE bm_Misfit = true)
    (sa_Misfit : PySem.W.findIn K (.ref A_Misfit) "__setattr__" = some (some (.builtin "object.__setattr__")))
    (ex_Misfit : PySem.W.subIn K (.ref A_Misfit) (.type "BaseException") = some true)
    (ty_Misfit : PySem.W.typeIn K (.ref A_Misfit) = some (.type "type"))
    (kc_Misfit : PySem.W.keepIn K (.ref A_Misfit) = true)
    (no_Misfit_part : PySem.W.findIn K (.ref A_Misfit) "part" = some none)
    (ga_Misfit : PySem.W.findIn K (.ref A_Misfit) "__getattribute__" = some (some (.builtin "BaseException.__getattribute__")))
    (gg_Misfit : PySem.W.findIn K (.ref A_Misfit) "__getattr__" = some none)
    (hd_Misfit : PySem.W.hasDictIn K A_Misfit = true)
    (ha_Misfit : PySem.W.findIn K (.ref A_Misfit) "__class__" = some (some (.builtin "object.__class__")))
    (hm_Misfit : PySem.W.mroIn K A_Misfit (.type "object") = some true)
    (in_Misfit : PySem.W.findIn K (.ref A_Misfit) "__init__" = some (some (.ref fi_Misfit)))
    (it_Misfit : PySem.W.typeIn K (.ref fi_Misfit) = some (.type "function"))
    (il_Misfit : K.lookup fi_Misfit = some ⟨oc_Misfit, od_Misfit, .func (PySem.W.fnOf "__init__" "Misfit.__init__" (defArgs sIniMisfit) (defBody sIniMisfit) (defScope sIniMisfit) .none kV_Misfit dc_Misfit pm_Misfit an_Misfit cd_Misfit ct_Misfit), sl_Misfit⟩)
    (ic_Misfit : PySem.W.codeIn K cd_Misfit "Misfit.__init__" = true)
    (ik_Misfit : PySem.W.keepIn K (.ref fi_Misfit) = true)
    (up_Misfit : PySem.W.exmOne K (.ref A_Misfit) (.ref A_RopeError) = some true)
    (o_TooMany : K.lookup A_TooMany = some (excClassObj nm_TooMany q_TooMany A_TooMany N_TooMany bs_TooMany bm_TooMany true sn_TooMany sub_TooMany ab_TooMany col_TooMany dd_TooMany k0_TooMany k1_TooMany k2_TooMany k3_TooMany k5_TooMany "ValueError.__new__"))
    (r_TooMany : PySem.HandSPX.refsVE bm_TooMany = true)
    (sa_TooMany : PySem.W.findIn K (.ref A_TooMany) "__setattr__" = some (some (.builtin "object.__setattr__")))
    (ex_TooMany : PySem.W.subIn K (.ref A_TooMany) (.type "BaseException") = some true)
    (ty_TooMany : PySem.W.typeIn K (.ref A_TooMany) = some (.type "type"))
    (kc_TooMany : PySem.W.keepIn K (.ref A_TooMany) = true)
    (no_TooMany_what : PySem.W.findIn K (.ref A_TooMany) "what" = some none)
    (no_TooMany_most : PySem.W.findIn K (.ref A_TooMany) "most" = some none)
    (ga_TooMany : PySem.W.findIn K (.ref A_TooMany) "__getattribute__" = some (some (.builtin "BaseException.__getattribute__")))
    (gg_TooMany : PySem.W.findIn K (.ref A_TooMany) "__getattr__" = some none)
    (hd_TooMany : PySem.W.hasDictIn K A_TooMany = true)
    (ha_TooMany : PySem.W.findIn K (.ref A_TooMany) "__class__" = some (some (.builtin "object.__class__")))
    (hm_TooMany : PySem.W.mroIn K A_TooMany (.type "object") = some true)
    (in_TooMany : PySem.W.findIn K (.ref A_TooMany) "__init__" = some (some (.ref fi_TooMany)))
    (it_TooMany : PySem.W.typeIn K (.ref fi_TooMany) = some (.type "function"))
    (il_TooMany : K.lookup fi_TooMany = some ⟨oc_TooMany, od_TooMany, .func (PySem.W.fnOf "__init__" "TooMany.__init__" (defArgs sIniTooMany) (defBody sIniTooMany) (defScope sIniTooMany) .none kV_TooMany dc_TooMany pm_TooMany an_TooMany cd_TooMany ct_TooMany), sl_TooMany⟩)
    (ic_TooMany : PySem.W.codeIn K cd_TooMany "TooMany.__init__" = true)
    (ik_TooMany : PySem.W.keepIn K (.ref fi_TooMany) = true)
    (up_TooMany : PySem.W.exmOne K (.ref A_TooMany) (.ref A_RopeError) = some true)
    (nn_BadTangle : PySem.W.kitOne K (.type "NoneType") (.ref A_BadTangle) = some false)
    (nn_Misfit : PySem.W.kitOne K (.type "NoneType") (.ref A_Misfit) = some false)
    (nn_TooMany : PySem.W.kitOne K (.type "NoneType") (.ref A_TooMany) = some false)
    (nn_BadText : PySem.W.kitOne K (.type "NoneType") (.ref A_BadText) = some false)
    (k_BadTangle_BadTangle : PySem.W.kitOne K (.ref A_BadTangle) (.ref A_BadTangle) = some true)
    (k_BadTangle_Misfit : PySem.W.kitOne K (.ref A_BadTangle) (.ref A_Misfit) = some false)
    (k_BadTangle_TooMany : PySem.W.kitOne K (.ref A_BadTangle) (.ref A_TooMany) = some false)
    (k_BadTangle_BadText : PySem.W.kitOne K (.ref A_BadTangle) (.ref A_BadText) = some false)
    (k_Misfit_BadTangle : PySem.W.kitOne K (.ref A_Misfit) (.ref A_BadTangle) = some false)
    (k_Misfit_Misfit : PySem.W.kitOne K (.ref A_Misfit) (.ref A_Misfit) = some true)
    (k_Misfit_TooMany : PySem.W.kitOne K (.ref A_Misfit) (.ref A_TooMany) = some false)
    (k_Misfit_BadText : PySem.W.kitOne K (.ref A_Misfit) (.ref A_BadText) = some false)
    (k_TooMany_BadTangle : PySem.W.kitOne K (.ref A_TooMany) (.ref A_BadTangle) = some false)
    (k_TooMany_Misfit : PySem.W.kitOne K (.ref A_TooMany) (.ref A_Misfit) = some false)
    (k_TooMany_TooMany : PySem.W.kitOne K (.ref A_TooMany) (.ref A_TooMany) = some true)
    (k_TooMany_BadText : PySem.W.kitOne K (.ref A_TooMany) (.ref A_BadText) = some false)
    (hn_ : PySem.W.specialIn K (.builtin "object.__class__") "__get__" = some (some (.builtin "getset_descriptor.__get__")))
    (ht_ : PySem.W.takesIn K (.builtin "object.__class__") = some true) :
    ∃ fd : FuncData, (∀ (t : Shared) (v : Value), BindsTo t fd ⟨[v], []⟩ [("script", v)]) ∧ ∀ base : Heap, K.In base → base.Ns mainGlobals mg → HasMods base → (∀ p ∈ [(cc17, P0)], TabB base mg p.1 p.2) → FnG l.prog w K mg base 15 fa fd ["script"] (spLaw27 P0 K) := by
  have e := hfa.symm.trans (PySem.W.mg_of X G a17)
  cases e
  have CT_WORDS : ∀ {H : Hp}, SqT K H t_WORDS [.str "over", .str "under", .str "join", .str "open", .str "turn"] := .inr ⟨_, _, _, lq_WORDS, rfl, rfl, len_ok rfl, (.cons ⟨_, rfl⟩ (.cons ⟨_, rfl⟩ (.cons ⟨_, rfl⟩ (.cons ⟨_, rfl⟩ (.cons ⟨_, rfl⟩ .nil)))))⟩
  have T : Txt K mg (Ad.mk k_MOST_DEEDS k_MOST_ENDS k_MOST_AT_RIM t_WORDS A_RopeError A_BadTangle A_Misfit A_TooMany A_BadText A_Items A_Tangle) := ⟨PySem.W.mg_of X G q_MOST_DEEDS, PySem.W.mg_of X G q_MOST_ENDS, PySem.W.mg_of X G q_MOST_AT_RIM, PySem.W.mg_of X G q_WORDS, CT_WORDS, PySem.W.mg_of X G g_RopeError, PySem.W.mg_of X G g_BadTangle, PySem.W.mg_of X G g_Misfit, PySem.W.mg_of X G g_TooMany, PySem.W.mg_of X G g_BadText, PySem.W.mg_of X G g_Items, PySem.W.mg_of X G g_Tangle, PySem.W.mg_none_of X G z_abs, PySem.W.mg_none_of X G z_all, PySem.W.mg_none_of X G z_bool, PySem.W.mg_none_of X G z_int, PySem.W.mg_none_of X G z_isinstance, PySem.W.mg_none_of X G z_len, PySem.W.mg_none_of X G z_list, PySem.W.mg_none_of X G z_max, PySem.W.mg_none_of X G z_min, PySem.W.mg_none_of X G z_range, PySem.W.mg_none_of X G z_repr, PySem.W.mg_none_of X G z_str, PySem.W.mg_none_of X G z_tuple⟩
  have O_BadTangle : OexC K A_BadTangle := ⟨⟨_, _, _, _, _, _, _, _, _, _, _, _, _, _, _, o_BadTangle, r_BadTangle⟩, sa_BadTangle, ex_BadTangle, ty_BadTangle, kc_BadTangle⟩
  have xf_BadTangle : XfC K A_BadTangle := ⟨ga_BadTangle, gg_BadTangle, ex_BadTangle, hd_BadTangle⟩
  have ec_BadTangle : ExcC K A_BadTangle := ⟨ga_BadTangle, gg_BadTangle, ex_BadTangle, hd_BadTangle, ha_BadTangle, hn_, ht_, hm_BadTangle⟩
  have FI_BadTangle := fun_mk (st := sIniBadTangle) il_BadTangle ic_BadTangle ik_BadTangle
  have bI_BadTangle := FI_BadTangle.binds (ps := ["self", "part"]) fun _ _ _ _ _ _ us hl => match us, hl with | [_, _], _ => rfl
  have ek_BadTangle : ErrK K A_BadTangle A_RopeError "part" := ⟨ec_BadTangle, xf_BadTangle, no_BadTangle_part, up_BadTangle, nn_BadTangle⟩
  have O_Misfit : OexC K A_Misfit := ⟨⟨_, _, _, _, _, _, _, _, _, _, _, _, _, _, _, o_Misfit, r_Misfit⟩, sa_Misfit, ex_Misfit, ty_Misfit, kc_Misfit⟩
  have xf_Misfit : XfC K A_Misfit := ⟨ga_Misfit, gg_Misfit, ex_Misfit, hd_Misfit⟩
  have ec_Misfit : ExcC K A_Misfit := ⟨ga_Misfit, gg_Misfit, ex_Misfit, hd_Misfit, ha_Misfit, hn_, ht_, hm_Misfit⟩
  have FI_Misfit := fun_mk (st := sIniMisfit) il_Misfit ic_Misfit ik_Misfit
  have bI_Misfit := FI_Misfit.binds (ps := ["self", "part"]) fun _ _ _ _ _ _ us hl => match us, hl with | [_, _], _ => rfl
  have ek_Misfit : ErrK K A_Misfit A_RopeError "part" := ⟨ec_Misfit, xf_Misfit, no_Misfit_part, up_Misfit, nn_Misfit⟩
  have O_TooMany : OexC K A_TooMany := ⟨⟨_, _, _, _, _, _, _, _, _, _, _, _, _, _, _, o_TooMany, r_TooMany⟩, sa_TooMany, ex_TooMany, ty_TooMany, kc_TooMany⟩
  have xf_TooMany : XfC K A_TooMany := ⟨ga_TooMany, gg_TooMany, ex_TooMany, hd_TooMany⟩
  have ec_TooMany : ExcC K A_TooMany := ⟨ga_TooMany, gg_TooMany, ex_TooMany, hd_TooMany, ha_TooMany, hn_, ht_, hm_TooMany⟩
  have FI_TooMany := fun_mk (st := sIniTooMany) il_TooMany ic_TooMany ik_TooMany
  have bI_TooMany := FI_TooMany.binds (ps := ["self", "what", "most"]) fun _ _ _ _ _ _ us hl => match us, hl with | [_, _, _], _ => rfl
  have ek_TooMany : ErrK K A_TooMany A_RopeError "what" := ⟨ec_TooMany, xf_TooMany, no_TooMany_what, up_TooMany, nn_TooMany⟩
  have T2 : HdT K (Ad.mk k_MOST_DEEDS k_MOST_ENDS k_MOST_AT_RIM t_WORDS A_RopeError A_BadTangle A_Misfit A_TooMany A_BadText A_Items A_Tangle) := ⟨ek_BadTangle, ek_Misfit, ek_TooMany, no_TooMany_most, nn_BadText, k_BadTangle_TooMany, k_BadTangle_BadText, k_BadTangle_BadTangle, k_BadTangle_Misfit, k_Misfit_TooMany, k_Misfit_BadText, k_Misfit_BadTangle, k_Misfit_Misfit, k_TooMany_TooMany, k_TooMany_BadText, k_TooMany_BadTangle, k_TooMany_Misfit⟩
  have F0 : Fun K "is_integer" "is_integer" sIsInteger f0 _ := fun_mk (st := sIsInteger) l0 c0 k0
  have b0 := F0.binds (ps := ["value"]) fun _ _ _ _ _ _ us hl => match us, hl with | [_], _ => rfl
  have F1 : Fun K "is_within" "is_within" sIsWithin f1 _ := fun_mk (st := sIsWithin) l1 c1 k1
  have b1 := F1.binds (ps := ["value", "least", "most"]) fun _ _ _ _ _ _ us hl => match us, hl with | [_, _, _], _ => rfl
  have F2 : Fun K "are_deeds" "are_deeds" sAreDeeds f2 _ := fun_mk (st := sAreDeeds) l2 c2 k2
  have b2 := F2.binds (ps := ["value"]) fun _ _ _ _ _ _ us hl => match us, hl with | [_], _ => rfl
  have F3 : Fun K "_is_deed" "_is_deed" sIsDeed f3 _ := fun_mk (st := sIsDeed) l3 c3 k3
  have b3 := F3.binds (ps := ["value"]) fun _ _ _ _ _ _ us hl => match us, hl with | [_], _ => rfl
  have F4 : Fun K "_fitting_gaps" "_fitting_gaps" sFittingGaps f4 _ := fun_mk (st := sFittingGaps) l4 c4 k4
  have b4 := F4.binds (ps := ["word", "many"]) fun _ _ _ _ _ _ us hl => match us, hl with | [_, _], _ => rfl
  have F5 : Fun K "ends_behind" "ends_behind" sEndsBehind f5 _ := fun_mk (st := sEndsBehind) l5 c5 k5
  have b5 := F5.binds (ps := ["word", "many"]) fun _ _ _ _ _ _ us hl => match us, hl with | [_, _], _ => rfl
  have F6 : Fun K "demand_fitting" "demand_fitting" sDemandFitting f6 _ := fun_mk (st := sDemandFitting) l6 c6 k6
  have b6 := F6.binds (ps := ["deeds", "ends", "inner"]) fun _ _ _ _ _ _ us hl => match us, hl with | [_, _, _], _ => rfl
  have F7 : Fun K "__init__" "Tangle.__init__" sTangleInit f7 _ := fun_mk (st := sTangleInit) l7 c7 k7
  have b7 := F7.binds (ps := ["self", "ends", "deeds"]) fun _ _ _ _ _ _ us hl => match us, hl with | [_, _, _], _ => rfl
  have F8 : Fun K "_law_turnstile" "_law_turnstile" sLawTurnstile f8 _ := fun_mk (st := sLawTurnstile) l8 c8 k8
  have b8 := F8.binds (ps := ["script"]) fun _ _ _ _ _ _ us hl => match us, hl with | [_], _ => rfl
  have F9 : Fun K "_law_token" "_law_token" sLawToken f9 _ := fun_mk (st := sLawToken) l9 c9 k9
  have b9 := F9.binds (ps := ["turnstile", "many"]) fun _ _ _ _ _ _ us hl => match us, hl with | [_, _], _ => rfl
  have F10 : Fun K "_law_pick" "_law_pick" sLawPick f10 _ := fun_mk (st := sLawPick) l10 c10 k10
  have b10 := F10.binds (ps := ["turnstile", "some"]) fun _ _ _ _ _ _ us hl => match us, hl with | [_, _], _ => rfl
  have F11 : Fun K "_law_deeds" "_law_deeds" sLawDeeds f11 _ := fun_mk (st := sLawDeeds) l11 c11 k11
  have b11 := F11.binds (ps := ["turnstile", "ends", "most"]) fun _ _ _ _ _ _ us hl => match us, hl with | [_, _, _], _ => rfl
  have F12 : Fun K "_law_fits" "_law_fits" sLawFits f12 _ := fun_mk (st := sLawFits) l12 c12 k12
  have b12 := F12.binds (ps := ["now", "word", "gap"]) fun _ _ _ _ _ _ us hl => match us, hl with | [_, _, _], _ => rfl
  have F13 : Fun K "_law_then" "_law_then" sLawThen f13 _ := fun_mk (st := sLawThen) l13 c13 k13
  have b13 := F13.binds (ps := ["now", "word"]) fun _ _ _ _ _ _ us hl => match us, hl with | [_, _], _ => rfl
  have F14 : Fun K "_law_heard" "_law_heard" sLawHeard f14 _ := fun_mk (st := sLawHeard) l14 c14 k14
  have b14 := F14.binds (ps := ["ask"]) fun _ _ _ _ _ _ us hl => match us, hl with | [_], _ => rfl
  have F15 : Fun K "_law_due" "_law_due" sLawDue f15 _ := fun_mk (st := sLawDue) l15 c15 k15
  have b15 := F15.binds (ps := ["ends", "deeds"]) fun _ _ _ _ _ _ us hl => match us, hl with | [_, _], _ => rfl
  have F16 : Fun K "_law_bent" "_law_bent" sLawBent f16 _ := fun_mk (st := sLawBent) l16 c16 k16
  have b16 := F16.binds (ps := ["turnstile", "deeds"]) fun _ _ _ _ _ _ us hl => match us, hl with | [_, _], _ => rfl
  have F17 : FunC K "law" "law" sLaw _ _ cc17 := ⟨⟨_, _, _, _, _, _, _, _, rfl, l17, c17⟩⟩
  refine ⟨PySem.W.fnOf "law" "law" (defArgs sLaw) (defBody sLaw) (defScope sLaw) .none kV17 dc17 pm17 an17 (.ref cc17) ct17, fun t v => .of_eq rfl, fun base kin gl hM TBs => ?_⟩
  have TB : TabB base mg cc17 P0 := TBs _ (List.mem_singleton.mpr rfl)
  have hH : HrdC K mg f14 cd14 := ⟨PySem.W.mg_of X G a14, k14, c14, ⟨_, _, _, _, _, _, _, _, l14, b14⟩⟩
  have eBadTangle : Err1 l.prog w K mg base "BadTangle" A_BadTangle "part" := ⟨PySem.W.mg_of X G g_BadTangle, O_BadTangle, no_BadTangle_part, xf_BadTangle, ⟨_, _, _, in_BadTangle, it_BadTangle, bI_BadTangle, ok_IniBadTangle FI_BadTangle O_BadTangle no_BadTangle_part⟩⟩
  have eMisfit : Err1 l.prog w K mg base "Misfit" A_Misfit "part" := ⟨PySem.W.mg_of X G g_Misfit, O_Misfit, no_Misfit_part, xf_Misfit, ⟨_, _, _, in_Misfit, it_Misfit, bI_Misfit, ok_IniMisfit FI_Misfit O_Misfit no_Misfit_part⟩⟩
  have eTooMany : Err2 l.prog w K mg base "TooMany" A_TooMany "what" "most" := ⟨PySem.W.mg_of X G g_TooMany, O_TooMany, no_TooMany_what, no_TooMany_most, xf_TooMany, ⟨_, _, _, in_TooMany, it_TooMany, bI_TooMany, ok_IniTooMany FI_TooMany O_TooMany no_TooMany_what no_TooMany_most⟩⟩
  have cIsInteger : CalX l.prog w K mg base "is_integer" 1 f0 _ ["value"] spIsInt := ⟨ok_IsInteger F0 T  , PySem.W.mg_of X G a0, k0, b0⟩
  have cFittingGaps : CalX l.prog w K mg base "_fitting_gaps" 1 f4 _ ["word", "many"] spFitting := ⟨ok_FittingGaps F4 T  , PySem.W.mg_of X G a4, k4, b4⟩
  have cEndsBehind : CalX l.prog w K mg base "ends_behind" 1 f5 _ ["word", "many"] spBehind := ⟨ok_EndsBehind F5 T  , PySem.W.mg_of X G a5, k5, b5⟩
  have cLawTurnstile : Cal l.prog w K mg base "_law_turnstile" 1 f8 _ ["script"] (spBox K) := ⟨ok_LawTurnstile F8 T hM , PySem.W.mg_of X G a8, k8, b8⟩
  have cLawToken : Cal l.prog w K mg base "_law_token" 1 f9 _ ["turnstile", "many"] spDraw := ⟨ok_LawToken F9 T hM , PySem.W.mg_of X G a9, k9, b9⟩
  have cLawFits : Cal l.prog w K mg base "_law_fits" 1 f12 _ ["now", "word", "gap"] spLawFits := ⟨ok_LawFits F12 T hM , PySem.W.mg_of X G a12, k12, b12⟩
  have cLawThen : Cal l.prog w K mg base "_law_then" 1 f13 _ ["now", "word"] spLawThen := ⟨ok_LawThen F13 T hM , PySem.W.mg_of X G a13, k13, b13⟩
  have cIsWithin : CalX l.prog w K mg base "is_within" 2 f1 _ ["value", "least", "most"] spWithin := ⟨ok_IsWithin F1 T  cIsInteger, PySem.W.mg_of X G a1, k1, b1⟩
  have cLawPick : Cal l.prog w K mg base "_law_pick" 2 f10 _ ["turnstile", "some"] (spOf K) := ⟨ok_LawPick F10 T hM cLawToken, PySem.W.mg_of X G a10, k10, b10⟩
  have cLawDue : Cal l.prog w K mg base "_law_due" 2 f15 _ ["ends", "deeds"] spLawDue := ⟨ok_LawDue F15 T hM cLawThen cLawFits, PySem.W.mg_of X G a15, k15, b15⟩
  have cIsDeed : CalX l.prog w K mg base "_is_deed" 3 f3 _ ["value"] spIsDeed := ⟨ok_IsDeed F3 T  cIsWithin, PySem.W.mg_of X G a3, k3, b3⟩
  have cDemandFitting : CalX l.prog w K mg base "demand_fitting" 3 f6 _ ["deeds", "ends", "inner"] (spDemFit A_Misfit A_TooMany) := ⟨ok_DemandFitting F6 T  cEndsBehind cFittingGaps eMisfit eTooMany, PySem.W.mg_of X G a6, k6, b6⟩
  have cLawDeeds : Cal l.prog w K mg base "_law_deeds" 3 f11 _ ["turnstile", "ends", "most"] spDeeds := ⟨ok_LawDeeds F11 T hM cLawToken cLawPick, PySem.W.mg_of X G a11, k11, b11⟩
  have cLawBent : Cal l.prog w K mg base "_law_bent" 3 f16 _ ["turnstile", "deeds"] spBent := ⟨ok_LawBent F16 T hM cLawToken cLawPick, PySem.W.mg_of X G a16, k16, b16⟩
  have cAreDeeds : CalX l.prog w K mg base "are_deeds" 4 f2 _ ["value"] spAreDeeds := ⟨ok_AreDeeds F2 T  cIsDeed, PySem.W.mg_of X G a2, k2, b2⟩
  have TC_Tangle : Cls K A_Tangle := ⟨pg_Tangle, hd_Tangle, po_Tangle, sa_Tangle⟩
  have cTangle : MakX l.prog w K mg base "Tangle" 5 A_Tangle f7 _ ["self", "ends", "deeds"] (spTangle A_Tangle A_BadTangle A_Misfit A_TooMany) := ⟨⟨mk_Tangle, a7, fn7, kp_Tangle⟩, ok_TangleInit F7 T TC_Tangle na_Tangle_ends na_Tangle_deeds cDemandFitting cAreDeeds cIsWithin eBadTangle, PySem.W.mg_of X G g_Tangle, b7⟩
  exact ok_Law F17 T T2 hM hH TB  cLawTurnstile cLawPick cLawBent cLawDeeds cLawToken cLawDue cTangle
theorem walk {l : PySem.W.OpenLaw} {q : Program} {loose : List Str} {XP : (Str → Option Value) → Heap → Prop} {YP : World → Heap → Prop} {d : DefRec} {K : Params → PySem.W.Frag} {cc P0 : Addr} (none : importsNone q = true) (hn : l.most = some 63) (hdf : d.params.defaults = [])
    (hY : ∀ (w : World) (h : Heap), YP w h → (K w.params).In h) (hT : ∀ (w : World) (h : Heap), YP w h → h.get? P0 = some (PySem.W.tabObj #[])) (hC : ∀ w : World, PySem.W.codeHdIn (K w.params) cc P0 = true) (nT : ∀ w : World, (K w.params).lookup P0 = .none)
    (F : ∀ (w : World) (mg : Str → Option Value) (fa : Addr) (h : Heap), (K w.params).In h → h.Ns mainGlobals mg → mg d.name = some (.ref fa) →
      ∃ fd : FuncData, (∀ (t : Shared) (u : Value), BindsTo t fd ⟨[u], []⟩ [("script", u)]) ∧ ∀ base : Heap, (K w.params).In base → base.Ns mainGlobals mg → HasMods base → (∀ p ∈ [(cc, P0)], TabB base mg p.1 p.2) → FnG l.prog w (K w.params) mg base 15 fa fd ["script"] (spLaw27 P0 (K w.params))) :
    PySem.W.WalkO q loose XP YP l.row.toRowW d [] (fun f vs => PySem.call f vs) :=
  Rp.walk_GT (n := 63) (k := 15) (x := "script") (cs := [(cc, P0)]) (sp := spLaw27 P0) none hn (by decide) hdf ⟨rfl, by decide, by decide⟩ hY
    (fun w h y p m => by rw [List.mem_singleton.mp m]; exact hT w h y) (fun w h y p m => by rw [List.mem_singleton.mp m]; exact PySem.W.codeHd_of_K (hY w h y) (hC w)) (fun w p m => by rw [List.mem_singleton.mp m]; exact nT w) F
    (fun _ H a ns _ ht hS => ⟨a, ns, rfl, hS, fun p m => by
      rw [List.mem_singleton.mp m]
      exact ⟨#[], ht _ (List.mem_singleton.mpr rfl), trivial, fun pos cv hc => by cases hc⟩, fun _ => rfl⟩)
end K27
open PySem PySem.W PyProof.Rows in
set_option maxRecDepth 100000 in
set_option maxHeartbeats 0 in
theorem PySem.Challenge.cw_ropesays_k27_deeds_that_do_not_fit_holds : PySem.Challenge.rw_ropesays_k27_deeds_that_do_not_fit.Holds := by
  w_on; o_law; k_head; (case hw => w_witness2)
  k_fill
  refine' K27.walk (l := PySem.Challenge.rw_ropesays_k27_deeds_that_do_not_fit) (cc := ?cc) (P0 := 352) (by decide +kernel) rfl rfl (fun w h Y => PySem.W.km_in_of Y) (fun w h Y => PySem.W.km_tabs_of Y _ (by k_mem)) ?hC (fun w => by kernel_rfl) ?F
  case F =>
    intro w mg fa h KX G hmg
    refine' K27.all_mk KX G hmg ?g_BadTangle ?g_Misfit ?g_TooMany ?g_BadText ?g_RopeError ?g_Items ?g_Tangle ?mk_Tangle ?kp_Tangle ?pg_Tangle ?hd_Tangle ?po_Tangle ?sa_Tangle ?na_Tangle_ends ?na_Tangle_deeds ?a0 ?l0 ?c0 ?k0 ?a1 ?l1 ?c1 ?k1 ?a2 ?l2 ?c2 ?k2 ?a3 ?l3 ?c3 ?k3 ?a4 ?l4 ?c4 ?k4 ?a5 ?l5 ?c5 ?k5 ?a6 ?l6 ?c6 ?k6 ?a7 ?l7 ?c7 ?k7 ?fn7 ?a8 ?l8 ?c8 ?k8 ?a9 ?l9 ?c9 ?k9 ?a10 ?l10 ?c10 ?k10 ?a11 ?l11 ?c11 ?k11 ?a12 ?l12 ?c12 ?k12 ?a13 ?l13 ?c13 ?k13 ?a14 ?l14 ?c14 ?k14 ?a15 ?l15 ?c15 ?k15 ?a16 ?l16 ?c16 ?k16 ?a17 ?l17 ?c17 ?k17 ?z_abs ?z_all ?z_bool ?z_int ?z_isinstance ?z_len ?z_list ?z_max ?z_min ?z_range ?z_repr ?z_str ?z_tuple ?q_MOST_DEEDS ?q_MOST_ENDS ?q_MOST_AT_RIM ?q_WORDS ?lq_WORDS ?o_BadTangle ?r_BadTangle ?sa_BadTangle ?ex_BadTangle ?ty_BadTangle ?kc_BadTangle ?no_BadTangle_part ?ga_BadTangle ?gg_BadTangle ?hd_BadTangle ?ha_BadTangle ?hm_BadTangle ?in_BadTangle ?it_BadTangle ?il_BadTangle ?ic_BadTangle ?ik_BadTangle ?up_BadTangle ?o_Misfit ?r_Misfit ?sa_Misfit ?ex_Misfit ?ty_Misfit ?kc_Misfit ?no_Misfit_part ?ga_Misfit ?gg_Misfit ?hd_Misfit ?ha_Misfit ?hm_Misfit ?in_Misfit ?it_Misfit ?il_Misfit ?ic_Misfit ?ik_Misfit ?up_Misfit ?o_TooMany ?r_TooMany ?sa_TooMany ?ex_TooMany ?ty_TooMany ?kc_TooMany ?no_TooMany_what ?no_TooMany_most ?ga_TooMany ?gg_TooMany ?hd_TooMany ?ha_TooMany ?hm_TooMany ?in_TooMany ?it_TooMany ?il_TooMany ?ic_TooMany ?ik_TooMany ?up_TooMany ?nn_BadTangle ?nn_Misfit ?nn_TooMany ?nn_BadText ?k_BadTangle_BadTangle ?k_BadTangle_Misfit ?k_BadTangle_TooMany ?k_BadTangle_BadText ?k_Misfit_BadTangle ?k_Misfit_Misfit ?k_Misfit_TooMany ?k_Misfit_BadText ?k_TooMany_BadTangle ?k_TooMany_Misfit ?k_TooMany_TooMany ?k_TooMany_BadText ?hn_ ?ht_
    (case g_BadTangle => k_is)
    (case g_Misfit => k_is)
    (case g_TooMany => k_is)
    (case g_BadText => k_is)
    (case g_RopeError => k_is)
    (case g_Items => k_is)
    (case g_Tangle => k_is)
    (case mk_Tangle => first | k_is | kernel_rfl)
    (case kp_Tangle => first | k_is | kernel_rfl)
    (case pg_Tangle => first | k_is | kernel_rfl)
    (case hd_Tangle => first | k_is | kernel_rfl)
    (case po_Tangle => first | k_is | kernel_rfl)
    (case sa_Tangle => first | k_is | kernel_rfl)
    (case na_Tangle_ends => first | k_is | kernel_rfl)
    (case na_Tangle_deeds => first | k_is | kernel_rfl)
    (case a0 => k_is)
    (case l0 => k_is)
    (case c0 => k_is)
    (case k0 => k_is)
    (case a1 => k_is)
    (case l1 => k_is)
    (case c1 => k_is)
    (case k1 => k_is)
    (case a2 => k_is)
    (case l2 => k_is)
    (case c2 => k_is)
    (case k2 => k_is)
    (case a3 => k_is)
    (case l3 => k_is)
    (case c3 => k_is)
    (case k3 => k_is)
    (case a4 => k_is)
    (case l4 => k_is)
    (case c4 => k_is)
    (case k4 => k_is)
    (case a5 => k_is)
    (case l5 => k_is)
    (case c5 => k_is)
    (case k5 => k_is)
    (case a6 => k_is)
    (case l6 => k_is)
    (case c6 => k_is)
    (case k6 => k_is)
    (case a7 => k_is)
    (case l7 => k_is)
    (case c7 => k_is)
    (case k7 => k_is)
    (case fn7 => first | k_is | kernel_rfl)
    (case a8 => k_is)
    (case l8 => k_is)
    (case c8 => k_is)
    (case k8 => k_is)
    (case a9 => k_is)
    (case l9 => k_is)
    (case c9 => k_is)
    (case k9 => k_is)
    (case a10 => k_is)
    (case l10 => k_is)
    (case c10 => k_is)
    (case k10 => k_is)
    (case a11 => k_is)
    (case l11 => k_is)
    (case c11 => k_is)
    (case k11 => k_is)
    (case a12 => k_is)
    (case l12 => k_is)
    (case c12 => k_is)
    (case k12 => k_is)
    (case a13 => k_is)
    (case l13 => k_is)
    (case c13 => k_is)
    (case k13 => k_is)
    (case a14 => k_is)
    (case l14 => k_is)
    (case c14 => k_is)
    (case k14 => k_is)
    (case a15 => k_is)
    (case l15 => k_is)
    (case c15 => k_is)
    (case k15 => k_is)
    (case a16 => k_is)
    (case l16 => k_is)
    (case c16 => k_is)
    (case k16 => k_is)
    (case a17 => k_is)
    (case l17 => k_is)
    (case c17 => k_is)
    (case k17 => k_is)
    (case z_abs => k_is)
    (case z_all => k_is)
    (case z_bool => k_is)
    (case z_int => k_is)
    (case z_isinstance => k_is)
    (case z_len => k_is)
    (case z_list => k_is)
    (case z_max => k_is)
    (case z_min => k_is)
    (case z_range => k_is)
    (case z_repr => k_is)
    (case z_str => k_is)
    (case z_tuple => k_is)
    (case q_MOST_DEEDS => k_is)
    (case q_MOST_ENDS => k_is)
    (case q_MOST_AT_RIM => k_is)
    (case q_WORDS => k_is)
    (case lq_WORDS => k_is)
    (case o_BadTangle => k_is)
    (case r_BadTangle => kernel_rfl)
    (case sa_BadTangle => k_is)
    (case ex_BadTangle => k_is)
    (case ty_BadTangle => k_is)
    (case kc_BadTangle => k_is)
    (case no_BadTangle_part => k_is)
    (case ga_BadTangle => k_is)
    (case gg_BadTangle => k_is)
    (case hd_BadTangle => k_is)
    (case ha_BadTangle => k_is)
    (case hm_BadTangle => k_is)
    (case in_BadTangle => k_is)
    (case it_BadTangle => k_is)
    (case il_BadTangle => k_is)
    (case ic_BadTangle => k_is)
    (case ik_BadTangle => k_is)
    (case up_BadTangle => kernel_rfl)
    (case o_Misfit => k_is)
    (case r_Misfit => kernel_rfl)
    (case sa_Misfit => k_is)
    (case ex_Misfit => k_is)
    (case ty_Misfit => k_is)
    (case kc_Misfit => k_is)
    (case no_Misfit_part => k_is)
    (case ga_Misfit => k_is)
    (case gg_Misfit => k_is)
    (case hd_Misfit => k_is)
    (case ha_Misfit => k_is)
    (case hm_Misfit => k_is)
    (case in_Misfit => k_is)
    (case it_Misfit => k_is)
    (case il_Misfit => k_is)
    (case ic_Misfit => k_is)
    (case ik_Misfit => k_is)
    (case up_Misfit => kernel_rfl)
    (case o_TooMany => k_is)
    (case r_TooMany => kernel_rfl)
    (case sa_TooMany => k_is)
    (case ex_TooMany => k_is)
    (case ty_TooMany => k_is)
    (case kc_TooMany => k_is)
    (case no_TooMany_what => k_is)
    (case no_TooMany_most => k_is)
    (case ga_TooMany => k_is)
    (case gg_TooMany => k_is)
    (case hd_TooMany => k_is)
    (case ha_TooMany => k_is)
    (case hm_TooMany => k_is)
    (case in_TooMany => k_is)
    (case it_TooMany => k_is)
    (case il_TooMany => k_is)
    (case ic_TooMany => k_is)
    (case ik_TooMany => k_is)
    (case up_TooMany => kernel_rfl)
    (case nn_BadTangle => kernel_rfl)
    (case nn_Misfit => kernel_rfl)
    (case nn_TooMany => kernel_rfl)
    (case nn_BadText => kernel_rfl)
    (case k_BadTangle_BadTangle => kernel_rfl)
    (case k_BadTangle_Misfit => kernel_rfl)
    (case k_BadTangle_TooMany => kernel_rfl)
    (case k_BadTangle_BadText => kernel_rfl)
    (case k_Misfit_BadTangle => kernel_rfl)
    (case k_Misfit_Misfit => kernel_rfl)
    (case k_Misfit_TooMany => kernel_rfl)
    (case k_Misfit_BadText => kernel_rfl)
    (case k_TooMany_BadTangle => kernel_rfl)
    (case k_TooMany_Misfit => kernel_rfl)
    (case k_TooMany_TooMany => kernel_rfl)
    (case k_TooMany_BadText => kernel_rfl)
    (case hn_ => k_is)
    (case ht_ => k_is)
  case hC => intro w; kernel_rfl
