import PyProof.Rows.All
import Wide.All
import OpenK.AllK
import Wide.FinOn
import HandS.Base
import HandS.Call
import HandS.List
import HandS.Comp
import HandS.Ends
import HandS.Dict
import HandS.Iter
import HandS.Text
import HandS.Words
import HandS.IsInst
import HandS.TupAny
import HandS.Exc
import HandS.ExcIs
import HandS.ExcInit
import HandS.ExcField
import HandS.ExcOwn
import HandS.ExcValue
import HandS.WordsExc
import KE.KExcIs
import KE.KDflt
import HandS.Lambda
import HandS.EndTab
import HandS.EndOwn
import KE.KNestM
import HandS.Zip
import HandS.Walk
import PySem.Challenge.RW_ropesays_k06_numbers_round_the_clock
set_option Elab.async false
set_option linter.all false
set_option maxRecDepth 100000
set_option maxHeartbeats 4000000
namespace Rp
open PySem PySem.Spec PyProof.Rows L2

/-! ### readings, a step each -/
section
variable {t u : TS} {D : Ends} {σ : L2.St} {H : Hp} {Q : VK} {v x y : V} {ta tb te : TE} {r : R2} {i j : Int} {g : Int → Int → V} {tt tt' : TT} {tl tr : TA}
theorem r_start {N : List Str} {vs : List V} {l : L2.St} (e : L2.start N vs = l) (h : t D l H) : t D (L2.start N vs) H := e ▸ h
theorem r_seq (h : t { D with nx := u D } σ H) : tSeq t u D σ H := h
/-- the ways meet: M -/
theorem r_cut (M : L2.St → Hp → Prop) (hu : ∀ σ H, M σ H → u D σ H) (h : (∀ σ H, M σ H → u D σ H) → t { D with nx := u D } σ H) : tSeq t u D σ H := h hu
theorem r_next (h : D.nx σ H) : tNext D σ H := h
theorem r_drop (h : te σ H fun _ H1 => D.nx σ H1) : tDrop te D σ H := h
theorem r_var {k : Nat} (h : σ[k]? = some (some v)) (q : Q v H) : tVar k σ H Q := ⟨v, h, q⟩
theorem r_varE {k : Nat} (h : ∃ v, σ[k]? = some (some v) ∧ Q v H) : tVar k σ H Q := h
theorem r_c (q : Q v H) : tC v σ H Q := q
theorem r_op (h : ta σ H fun x H1 => tb σ H1 fun y H2 => r x y H2 Q) : tOp r ta tb σ H Q := h
theorem r_I0 (q : Q (g i j) H) : rI0 g (.int i) (.int j) H Q := ⟨i, j, rfl, rfl, q⟩
theorem r_I {C : Int → Int → Prop} (c : C i j) (q : Q (g i j) H) : rI C g (.int i) (.int j) H Q := ⟨i, j, rfl, rfl, c, q⟩
theorem r_test {Q : Bool → Hp → Prop} (h : te σ H fun x H' => ∃ k, x = .bl k ∧ Q k H') : tTest te σ H Q := h
theorem r_tb {Q : Bool → Hp → Prop} (h : te σ H fun x H' => ∃ k, x = .bl k ∧ Q k H') : tB te σ H Q := h
theorem r_bl {k : Bool} {P : Bool → Prop} (q : P k) : ∃ k', V.bl k = .bl k' ∧ P k' := ⟨k, rfl, q⟩
theorem r_if (h : tt σ H fun b H1 => if b = true then t D σ H1 else u D σ H1) : tIfS tt t u D σ H := h
theorem r_not {Q : Bool → Hp → Prop} (h : tt σ H fun c H1 => Q (!c) H1) : tNot tt σ H Q := h
theorem r_and {Q : Bool → Hp → Prop} (h : tt σ H fun c H1 => if c = true then tt' σ H1 Q else Q false H1) : tAnd tt tt' σ H Q := h
theorem r_or {Q : Bool → Hp → Prop} (h : tt σ H fun c H1 => if c = true then Q true H1 else tt' σ H1 Q) : tOr tt tt' σ H Q := h
theorem r_andV (h : ta σ H fun x H1 => ∃ c, x = .bl c ∧ if c = true then tb σ H1 Q else Q (.bl false) H1) : tAndV ta tb σ H Q := h
theorem r_orV (h : ta σ H fun x H1 => ∃ c, x = .bl c ∧ if c = true then Q (.bl true) H1 else tb σ H1 Q) : tOrV ta tb σ H Q := h
theorem r_notV (h : ta σ H fun x H1 => ∃ c, x = .bl c ∧ Q (.bl (!c)) H1) : tNotV ta σ H Q := h
theorem r_ifx (h : tt σ H fun c H1 => if c = true then ta σ H1 Q else tb σ H1 Q) : tIf tt ta tb σ H Q := h
theorem r_asg {g : TG} (h : te σ H fun x H1 => g x σ H1 D.nx) : tAsg te g D σ H := h
theorem r_gname {k : Nat} {Q : L2.St → Hp → Prop} (h : Q (List.set σ k (some v)) H) : gName k v σ H Q := h
theorem r_gsub {to ti : TE} {ts : TSet} {Q : L2.St → Hp → Prop} (h : to σ H fun o H1 => ti σ H1 fun i H2 => ts o i v H2 fun H3 => Q σ H3) : gSub to ti ts v σ H Q := h
theorem r_ret (h : te σ H D.rt) : tRet te D σ H := h
theorem r_cb {r : List V → Hp → VK → Prop} (h : tl σ H fun vs H1 => r vs H1 Q) : tCB r tl σ H Q := h
theorem r_cons {Q : List V → Hp → Prop} (h : ta σ H fun x H1 => tr σ H1 fun xs H2 => Q (x :: xs) H2) : tCons ta tr σ H Q := h
theorem r_nil {Q : List V → Hp → Prop} (h : Q [] H) : tNil σ H Q := h
theorem r_ixL {K : PySem.W.Frag} {p : Addr} {xs : List V} (hs : SqL K H p xs) (ha : atI xs i = some v) (q : Q v H) : rIxL K (.ref p) (.int i) H Q := ⟨p, xs, i, v, rfl, rfl, hs, ha, q⟩
theorem r_setL {p : Addr} {xs : List V} {k : Nat} {Q : Hp → Prop} (hs : H p = some (.lst xs)) (hi : ixN xs.length i = some k) (q : Q (upd H p (.lst (xs.set k v)))) : rSetL (.ref p) (.int i) v H Q := ⟨p, xs, i, k, rfl, rfl, hs, hi, q⟩
theorem r_sl {r : V → Option Int → Option Int → Hp → VK → Prop} {tlo thi : TO} (h : te σ H fun x H1 => tlo σ H1 fun l H2 => thi σ H2 fun u H3 => r x l u H3 Q) : tSl r te tlo thi σ H Q := h
theorem r_pnone {Q : Option Int → Hp → Prop} (h : Q none H) : tNoPart σ H Q := h
theorem r_pint {Q : Option Int → Hp → Prop} (h : te σ H fun x H1 => ∃ i, x = .int i ∧ Q (some i) H1) : tPart te σ H Q := h
theorem r_un {ru : V → Hp → VK → Prop} (h : ta σ H fun x H1 => ru x H1 Q) : tUn ru ta σ H Q := h
theorem r_lst (h : tl σ H fun xs H1 => xs.length ≤ sizeLine ∧ ∀ p, H1 p = none → Q (.ref p) (upd H1 p (.lst xs))) : tLst tl σ H Q := h
theorem r_tup (h : tl σ H fun xs H1 => xs.length ≤ sizeLine ∧ ∀ p, H1 p = none → Q (.ref p) (upd H1 p (.tup xs))) : tTup tl σ H Q := h
theorem len_ok {n : Nat} (h : Nat.ble n sizeLine = true) : n ≤ sizeLine := Nat.le_of_ble_eq_true h
theorem r_lc {wi : TI} {g : TG} {vs : List Nat} (h : wi σ H fun J G => ∀ L, G L = none → ∃ M : Nat → Nat → Hp → Prop, (∃ n, M 0 n (upd G L (.lst []))) ∧ ∀ k n G, M k n G →
    (J.stop k G ∧ Q (.ref L) G) ∨ (J.go k G ∧ ∃ Z : Hp → Prop, (∀ G', Z G' → ∃ n', n' < n ∧ M (k + 1) n' G') ∧
      ∀ e G', J.yld k G e G' → g e (wipe σ vs) G' fun τ G2 => wipe τ vs = wipe σ vs ∧ tt τ G2 fun b G3 =>
        if b = true then te τ G3 fun y G4 => ∃ ac, G4 L = some (.lst ac) ∧ ac.length < sizeLine ∧ Z (upd G4 L (.lst (ac ++ [y]))) else Z G3)) : tLc wi g tt te vs σ H Q := h
theorem r_ilist {K : PySem.W.Frag} {R : It → Hp → Prop} (h : te σ H fun x G => ∃ a, x = .ref a ∧ (∃ xs, SqL K G a xs) ∧ R (Itl K a) G) : iList K te σ H R := h
theorem r_itup {K : PySem.W.Frag} {R : It → Hp → Prop} (h : te σ H fun x G => ∃ a, x = .ref a ∧ (∃ xs, SqT K G a xs) ∧ R (Itt K a) G) : iTup K te σ H R := h
theorem r_irng1 {R : It → Hp → Prop} (h : tl σ H fun vs G => ∃ j : Int, vs = [.int j] ∧ -(2 ^ 62) ≤ j ∧ j < 2 ^ 62 ∧ R (Itr 0 j.toNat) G) : iRng1 tl σ H R := h
theorem r_irng2 {R : It → Hp → Prop} (h : tl σ H fun vs G => ∃ i j : Int, vs = [.int i, .int j] ∧ (-(2 ^ 62) ≤ i ∧ i < 2 ^ 62 ∧ -(2 ^ 62) ≤ j ∧ j < 2 ^ 62) ∧ R (Itr i (j - i).toNat) G) : iRng2 tl σ H R := h
theorem r_for {wi : TI} {g : TG} {tb : TS} (h : wi σ H fun J G => ∃ M : Nat → Nat → L2.St → Hp → Prop, (∃ n, M 0 n σ G) ∧ ∀ k n τ G, M k n τ G →
    (J.stop k G ∧ D.nx τ G) ∨ (J.go k G ∧ ∃ Z : L2.St → Hp → Prop, (∀ τ' G', Z τ' G' → ∃ n', n' < n ∧ M (k + 1) n' τ' G') ∧
      ∀ e G', J.yld k G e G' → g e τ G' fun τ2 G2 => tb { D with nx := Z, ct := Z, bk := D.nx } τ2 G2)) : tFor wi g tb D σ H := h
theorem r_par {m n : Nat} (h : tl σ H fun vs G => ∃ v w, vs = [v, w] ∧ D.nx ((σ.set m (some v)).set n (some w)) G) : tPar m n tl D σ H := h
theorem r_isN (q : Q (.bl (decide (x = .non))) H) : (fun (x y : V) (H : Hp) (Q : VK) => y = .non ∧ Q (.bl (decide (x = .non))) H) x .non H Q := ⟨rfl, q⟩
theorem r_notN (q : Q (.bl (!decide (x = .non))) H) : (fun (x y : V) (H : Hp) (Q : VK) => y = .non ∧ Q (.bl (!decide (x = .non))) H) x .non H Q := ⟨rfl, q⟩
theorem r_call {sp : Sp} {dvs : List V} {E : XK} (h : tl σ H fun vs H1 => sp (vs ++ dvs) H1 Q E) : tCall sp dvs E tl σ H Q := h
theorem r_yes {Q : Bool → Hp → Prop} (h : Q true H) : tYes σ H Q := h
theorem r_true {A B : Prop} (h : A) : if true = true then A else B := iteT h
theorem r_false {A B : Prop} (h : B) : if false = true then A else B := iteF h
theorem r_truen {A B : Prop} (h : B) : if (!true) = true then A else B := iteF h
theorem r_falsen {A B : Prop} (h : A) : if (!false) = true then A else B := iteT h
/-- int(x) -/
theorem r_int (q : Q (.int i) H) : (fun (xs : List V) (H : Hp) (Q : VK) => (∃ i, xs = [.int i] ∧ Q (.int i) H) ∨ ∃ k, xs = [.bl k] ∧ Q (.int (if k then 1 else 0)) H) [.int i] H Q := .inl ⟨i, rfl, q⟩
end
end Rp
namespace Rp
open PySem PySem.Spec PyProof.Rows L2
/-! ### what draws: a box [cells, laps, rest] at q, its cells at c -/
/-- all but what stands at q stays -/
def But (q : Addr) (H H' : Hp) : Prop := ∀ b o, b ≠ q → H b = some o → H' b = some o
theorem But.refl (q : Addr) (H : Hp) : But q H H := fun _ _ _ h => h
theorem But.trans {q : Addr} {H H1 H2 : Hp} (a : But q H H1) (b : But q H1 H2) : But q H H2 := fun c o n h => b c o n (a c o n h)
theorem But.upd {q : Addr} {H : Hp} (o : HO) : But q H (upd H q o) := fun b u n h => by rw [upd_ne n]; exact h
theorem But.upd2 {q : Addr} {H H' : Hp} (e : But q H H') (o : HO) : But q H (L2.upd H' q o) := fun b u n h => by rw [upd_ne n]; exact e b u n h
theorem But.neu {q : Addr} {H H' : Hp} (e : But q H H') {p : Addr} {o : HO} (h : H' p = none) (hq : H p = none ∨ True := .inr True.intro) : But q H (L2.upd H' p o) := fun b u n k => by
  have k' := e b u n k
  rw [upd_ne (ne_of_none k' h)]
  exact k'
structure Dr (q c : Addr) (ns : List Int) (lap : Nat) (H : Hp) : Prop where
  ne : c ≠ q
  box : ∃ rest : Int, H q = some (.lst [.ref c, .int (lap : Int), .int rest])
  cells : H c = some (.lst (ns.map V.int))
  len : ns.length ≤ 60
theorem Dr.neu {q c : Addr} {ns : List Int} {lap : Nat} {H : Hp} (d : Dr q c ns lap H) {p : Addr} {o : HO} (h : H p = none) : Dr q c ns lap (upd H p o) := by
  obtain ⟨ne, ⟨rest, b⟩, cl, ln⟩ := d
  exact ⟨ne, ⟨rest, by rw [upd_ne (ne_of_none b h)]; exact b⟩, by rw [upd_ne (ne_of_none cl h)]; exact cl, ln⟩
/-- a number is drawn -/
def spDraw : Sp := fun vs H Q _ => ∃ (q c : Addr) (ns : List Int) (lap : Nat) (many : Int), vs = [.ref q, .int many] ∧ 0 < many ∧ many < 1073741824 ∧ lap < 2 ^ 20 ∧ Dr q c ns lap H ∧
  ∀ (H' : Hp) (lap' : Nat) (r : Int), lap' ≤ lap + 1 → Dr q c ns lap' H' → But q H H' → 0 ≤ r → r < many → Q (.int r) H'
theorem at0 {a b c : V} : atI [a, b, c] 0 = some a := rfl
theorem at1 {a b c : V} : atI [a, b, c] 1 = some b := rfl
theorem at2 {a b c : V} : atI [a, b, c] 2 = some c := rfl
theorem box_at {q c : Addr} {ns : List Int} {lap : Nat} {H : Hp} {rest : Int} (ne : c ≠ q) (b : H q = some (.lst [.ref c, .int (lap : Int), .int rest])) (cl : H c = some (.lst (ns.map V.int))) (ln : ns.length ≤ 60) : Dr q c ns lap H := ⟨ne, ⟨rest, b⟩, cl, ln⟩
theorem fmod_in {i j : Int} (h : 0 < j) : 0 ≤ i.fmod j ∧ i.fmod j < j := by
  rw [Int.fmod_eq_emod_of_nonneg i (by omega)]
  exact ⟨Int.emod_nonneg _ (by omega), Int.emod_lt_of_pos _ h⟩
theorem fits3 {m a b c : Int} {lap : Nat} (h0 : 0 ≤ m) (h1 : m < 2147483648) (hl : lap < 2 ^ 20) (ha : 0 ≤ a) (ha' : a < 131072) (hb : 0 ≤ b) (hb' : b < 131072) (hc : 0 ≤ c) (hc' : c < 131072) :
    (m * (2 * (lap : Int) + a) + b * (lap : Int) * (lap : Int) + c).natAbs < 2 ^ 64 := by
  have l0 : (0 : Int) ≤ (lap : Int) := by omega
  have l1 : (lap : Int) ≤ 1048576 := by omega
  have e1 : 0 ≤ m * (2 * (lap : Int) + a) := Int.mul_nonneg h0 (by omega)
  have e2 : m * (2 * (lap : Int) + a) ≤ 2147483648 * 2228224 := Int.mul_le_mul (by omega) (by omega) (by omega) (by omega)
  have e3 : 0 ≤ b * (lap : Int) := Int.mul_nonneg hb l0
  have e4 : b * (lap : Int) ≤ 131072 * 1048576 := Int.mul_le_mul (by omega) l1 l0 (by omega)
  have e5 : 0 ≤ b * (lap : Int) * (lap : Int) := Int.mul_nonneg e3 l0
  have e6 : b * (lap : Int) * (lap : Int) ≤ (131072 * 1048576) * 1048576 := Int.mul_le_mul e4 l1 l0 (by omega)
  omega
theorem fits1 {m b : Int} {lap : Nat} (hb : 0 ≤ b) (hb' : b < 131072) (hl : lap < 2 ^ 20) : -(2 ^ 64) < b * (lap : Int) ∧ b * (lap : Int) < 2 ^ 64 := by
  have e3 : 0 ≤ b * (lap : Int) := Int.mul_nonneg hb (by omega)
  have e4 : b * (lap : Int) ≤ 131072 * 1048576 := Int.mul_le_mul (by omega) (by omega) (by omega) (by omega)
  omega
theorem dp_ints {K : PySem.W.Frag} {H : Hp} : ∀ (ns : List Int), DpAll K H (ns.map V.int) (ns.map PyData.int)
  | [] => .nil
  | n :: r => .cons (.int n) (dp_ints r)
theorem canLay_ints : ∀ (ns : List Int), PyData.canLayAll0 (ns.map PyData.int) = true
  | [] => by simp [PyData.canLayAll0]
  | n :: r => by simp [PyData.canLayAll0, PyData.canLay0, canLay_ints r]
theorem depth_ints : ∀ (ns : List Int), PyData.depthAll (ns.map PyData.int) = 0
  | [] => by simp [PyData.depthAll]
  | n :: r => by simp [PyData.depthAll, PyData.depth, depth_ints r]
theorem shaped_ints (ns : List Int) : SeqAt.shaped (.list (ns.map PyData.int)) = true := by
  simp [SeqAt.shaped, PyData.canLay0, PyData.depth, canLay_ints, depth_ints]
theorem eqv_nil_ints (ns : List Int) : PyData.eqv (.list (ns.map PyData.int)) (.list []) = ns.isEmpty := by
  cases ns <;> simp [PyData.eqv, PyData.eqvAll]
/-- an int list, compared with a new [] -/
theorem ne_nil {K : PySem.W.Frag} {H : Hp} {c p : Addr} {ns : List Int} {Q : VK} (hc : H c = some (.lst (ns.map V.int))) (hp : H p = some (.lst [])) (q : Q (.bl (!ns.isEmpty)) H) : rNeD K (.ref c) (.ref p) H Q :=
  ⟨_, _, .lst (SqL.of hc) (dp_ints ns), .lst (SqL.of hp) .nil, shaped_ints ns, (shaped_ints []), by rw [eqv_nil_ints]; exact q⟩
theorem map_len {ns : List Int} : (ns.map V.int).length = ns.length := List.length_map ..
theorem at_ints {ns : List Int} {k : Int} (h0 : 0 ≤ k) (h1 : k < (ns.length : Int)) : ∃ n, atI (ns.map V.int) k = some (.int n) := by
  obtain ⟨j, rfl⟩ : ∃ j : Nat, k = (j : Int) := ⟨k.toNat, by omega⟩
  have hk : j < ns.length := by omega
  refine ⟨ns[j], atI_nat ?_⟩
  rw [List.getElem?_map, List.getElem?_eq_getElem hk]
  rfl
/-- the box of cells is made -/
def spBox (K : PySem.W.Frag) : Sp := fun vs H Q _ => ∃ (a : Addr) (ns : List Int), vs = [.ref a] ∧ SqL K H a (ns.map V.int) ∧ ∀ (H' : Hp) (q c : Addr) (ns' : List Int), Dr q c ns' 0 H' → Same H H' → H q = none → Q (.ref q) H'
/-- one of some things -/
def spOf (K : PySem.W.Frag) : Sp := fun vs H Q _ => ∃ (q c a : Addr) (ns : List Int) (lap : Nat) (xs : List V), vs = [.ref q, .ref a] ∧ SqL K H a xs ∧ 0 < xs.length ∧ xs.length < 1000000 ∧ lap < 2 ^ 20 ∧ a ≠ q ∧ Dr q c ns lap H ∧
  ∀ (H' : Hp) (lap' : Nat) (i : Nat) (v : V), lap' ≤ lap + 1 → Dr q c ns lap' H' → But q H H' → xs[i]? = some v → Q v H'
theorem cut60 (ns : List Int) : ∃ ns' : List Int, cutV (ns.map V.int) none (some 60) = ns'.map V.int ∧ ns'.length ≤ 60 := by
  refine ⟨((ns.drop (HT.sIx (ns.map V.int).length 0 none)).take (HT.sIx (ns.map V.int).length (ns.map V.int).length (some 60) - HT.sIx (ns.map V.int).length 0 none)), ?_, ?_⟩
  · unfold cutV
    rw [List.map_take, List.map_drop]
  · refine Nat.le_trans (List.length_take_le _ _) ?_
    have e : (60 : Int) = ((60 : Nat) : Int) := rfl
    rw [e, HT.sIx_nat]
    omega
theorem same_neu {H H' : Hp} (e : Same H H') {p : Addr} {o : HO} (h : H' p = none) : Same H (upd H' p o) := fun b u k => by
  have k' := e b u k
  rw [upd_ne (ne_of_none k' h)]
  exact k'
theorem But.seq {K : PySem.W.Frag} {q : Addr} {H H' : Hp} {a : Addr} {xs : List V} (e : But q H H') (n : a ≠ q) (h : SqL K H a xs) : SqL K H' a xs := by
  rcases h with (h | ⟨o, h⟩) | h
  · exact .inl (.inl (e _ _ n h))
  · exact .inl (.inr ⟨o, e _ _ n h⟩)
  · exact .inr h
theorem at_some {xs : List V} {k : Int} (h0 : 0 ≤ k) (h1 : k < (xs.length : Int)) : ∃ (i : Nat) (v : V), atI xs k = some v ∧ xs[i]? = some v := by
  obtain ⟨j, rfl⟩ : ∃ j : Nat, k = (j : Int) := ⟨k.toNat, by omega⟩
  have hk : j < xs.length := by omega
  exact ⟨j, xs[j], atI_nat (List.getElem?_eq_getElem hk), List.getElem?_eq_getElem hk⟩
end Rp
namespace Rp
open PySem PySem.Spec PyProof.Rows L2
/-! ### defs that are called while no builtin of containers runs: what repr asks -/
/-- the def at f keeps the promise sp, called where nothing is being shown -/
structure FnG (P : Program) (w : World) (K : PySem.W.Frag) (mg : Str → Option Value) (base : Heap) (k : Nat) (f : Addr) (fd : FuncData) (ps : List Str) (sp : Sp) : Prop where
  arity : ∀ {vs H Q E}, sp vs H Q E → vs.length = ps.length
  go : ∀ {A : Around} {fr : List Env} {s : Shared} {H : Hp} {args : Args} {us : List Value} {vs : List V} {Q : VK} {E : XK}, A.guards = some [] → Room k A → Env0 P w K mg base A fr s H →
    BindsTo s fd args (ps.zip us) → Vals vs us → sp vs H Q E → codeAny (model P w) A (.call (.ref f) args) (CR CX0 fr P w H s Q E) s
section
variable {P : Program} {w : World} {K : PySem.W.Frag} {mg : Str → Option Value} {base : Heap} {k j : Nat} {f : Addr} {fd : FuncData} {ps : List Str} {sp : Sp}
theorem FnG.of (F : FnOk P w K mg base CX0 k f fd ps sp) : FnG P w K mg base k f fd ps sp := ⟨F.len _ _ _ _, fun _ r e b v q => F.run _ _ _ _ _ _ _ _ _ r e b v q⟩
theorem FnG.up (F : FnG P w K mg base j f fd ps sp) (h : j ≤ k) : FnG P w K mg base k f fd ps sp := ⟨F.arity, fun g r => F.go g (r.mono h)⟩
/-- the rule for a def -/
theorem fng {x qual : Str} {st : Stmt} {N : List Str} (F : Fun K x qual st f fd) (S : FnScope N ps (defScope st)) (ar : ∀ {vs H Q E}, sp vs H Q E → vs.length = ps.length)
    (body : ∀ {cdv : Value} {A : Around} {fr : List Env} {s : Shared} {H : Hp} {vs : List V} {Q : VK} {E : XK}, A.guards = some [] → Room k (A.deeper (envOfC qual (defScope st) s.heap.objs.size f cdv)) → sp vs H Q E →
      ∃ t, PSs (cxOf CX0 P w K mg base N qual (defScope st) f cdv A fr s H E).nox (defBody st) t ∧ t ⟨fun _ G => Q .non G, Q, fun _ _ => False, fun _ _ => False⟩ (L2.start N vs) H) : FnG P w K mg base (k + 1) f fd ps sp := by
  obtain ⟨oc, od, kV, dc, pm, an, cdv, ct, sl, e, look, code⟩ := F.ex
  subst e
  constructor
  · exact ar
  intro A fr s H args us vs Q E hg room env bind rel q
  have size := ar q
  have kin := env.mod.kin.keeps fun b o z => (env.bs b o z).1
  have nolim := env.mod.nolimit.keeps fun b o z => (env.bs b o z).1
  have knd : ∀ p ∈ ps.zip us, (defScope st).names.lookup p.1 = some .local ∨ ((defScope st).names.lookup p.1 = some .cell ∧ ((cellsFrom (s.heap.objs.size + 1) (defScope st).names []).lookup p.1).isSome = true) := by
    rintro ⟨n, v⟩ hp
    exact (S.par n (List.of_mem_zip hp).1).imp id fun z => ⟨z, PySem.W.cellsFrom_some _ _ _ (.inl z)⟩
  apply codeAny_call_function room.depth (kin _ _ look) rfl S.co S.gen rfl (PySem.W.codeRec_of kin code)
  apply bind
  apply wpAny_newFunctionEnv_cells S.kind knd
  intro en he s1 ic
  subst he
  refine ⟨nolim.keeps ic.toInCall.keep, codeAny_func ?_⟩
  obtain ⟨t, pt, rd⟩ := body (cdv := cdv) (fr := fr) (E := E) hg (room.deeper _) q
  have inv : Inv (cxOf CX0 P w K mg base N qual (defScope st) f cdv A fr s H E) [] (L2.start N vs) H s1 := inv_start S room.hd env size rel ic
  apply wpAny_mono (pt.nox.run [] s1 (L2.start N vs) H _ inv rd)
  · intro fl s2 hs
    cases fl with
    | ret u => obtain ⟨v, τ, G, J, r, z⟩ := hs; exact ⟨v, G, J.os, J.bare, J.base, J.hok, r, z⟩
    | next => obtain ⟨τ, G, J, z⟩ := hs; exact ⟨.non, G, J.os, J.bare, J.base, J.hok, rfl, z⟩
    | brk => obtain ⟨_, _, _, z⟩ := hs; exact z.elim
    | cont => obtain ⟨_, _, _, z⟩ := hs; exact z.elim
  · intro er s2 hs
    exact hs
end
section
variable {X : Cx} {k : Nat} {f : Addr} {fd : FuncData} {ps ks : List Str} {sp : Sp} {E : XK} {x : Str} {p pos : Pos} {e : Expr} {es : List Expr} {t tk : TA} {kws : List Keyword}
/-- what the callee does, from the caller's state -/
theorem goes {pins : List (Addr × Obj)} {σ : L2.St} {H : Hp} {s : Shared} {Q : VK} {args : Args} {us : List Value} {vs : List V} (F : FnG X.prog X.w X.K X.mg X.base k f fd ps sp) (g : X.A.guards = some []) (r : Room k X.A)
    (I : Inv X pins σ H s) (b : BindsTo s fd args (ps.zip us)) (rel : Vals vs us) (q : sp vs H Q E) : codeAny (model X.prog X.w) X.A (.call (.ref f) args) (fun a s2 => ∃ u, a = .ok (.ret u) ∧ EP X pins σ Q u s2) s := by
  apply codeAny_mono (F.go g r I.env0 b rel q)
  intro a s2 h
  rcases a with er | fl
  · exact h.elim
  · cases fl with
    | ret u => exact ⟨u, rfl, I.after h⟩
    | next => exact h.elim
    | brk => exact h.elim
    | cont => exact h.elim
theorem pe_callG (F : FnG X.prog X.w X.K X.mg X.base k f fd ps sp) (g : X.A.guards = some []) (r : Room k X.A) (hg : Gl X x) (hm : X.mg x = some (.ref f)) (hk : PySem.W.keepIn X.K (.ref f) = true) (hb : Binds X.K fd ps [])
    (ha : PA X (e :: es) t) (d1 : (x == ("__debug__" : Str)) = false := by decide) (d2 : starEach (e :: es) X.env = (false, eval e X.env) :: starEach es X.env := by rfl) (d3 : (backTo pos (starEach es X.env)).any (·.1) = false := by rfl) :
    PE X (.Call (.Name x p) (e :: es) [] pos) (fun σ H Q => t σ H fun vs G => sp vs G Q E) := by
  constructor
  intro pins s σ H Q I h
  apply wpAny_Call_Name_kw (ld_glob I hg hm ?_ d1)
  apply PySem.W.callWith_K (h₀ := X.base) I.ok.mod.kin hk ?_ d2 d3
  apply thn (ha.run pos pins s σ H _ I h)
  rintro us s1 ⟨vs, H1, I1, rel, q⟩
  refine ⟨I1.kIn, wpAny_call ?_⟩
  have n : (us ++ ([] : List Value)).length = ps.length := by
    rw [List.append_nil, ← rel.length]
    exact F.arity q
  have bb := hb s1 us I1.kIn n
  rw [List.append_nil] at bb
  apply codeAny_mono (goes F g r I1 bb rel q)
  rintro a s2 ⟨u, rfl, z⟩
  exact z
/-- how written keywords ks, behind n arguments by place, come to the parameters: parameter i is value number ix[i] -/
structure KBx (K : PySem.W.Frag) (fd : FuncData) (ps : List Str) (n : Nat) (ks : List Str) (ix : List Nat) : Prop where
  to : ∀ (s : Shared) (us ws : List Value), us.length = n → ws.length = ks.length → BindsTo s fd ⟨us, ks.zip ws⟩ (ps.zip (ix.map fun i => (us ++ ws).getD i .none))
theorem vals_ix {vs : List V} {us : List Value} (r : Vals vs us) : ∀ ix : List Nat, Vals (ix.map fun i => vs.getD i .non) (ix.map fun i => us.getD i .none)
  | [] => .nil
  | i :: l => by
    refine .cons ?_ (vals_ix r l)
    show L2.RelV (vs.getD i .non) (us.getD i .none)
    rw [List.getD_eq_getElem?_getD, List.getD_eq_getElem?_getD]
    cases h : vs[i]? with
    | none => rw [r.none_of h]; rfl
    | some v =>
      obtain ⟨u, hu, z⟩ := r.get h
      rw [hu]
      exact z
def tKw (sp : Sp) (n m : Nat) (ix : List Nat) (E : XK) (t tk : TA) : TE := fun σ H Q => t σ H fun vs G => tk σ G fun zs G2 => vs.length = n ∧ zs.length = m ∧ sp (ix.map fun i => (vs ++ zs).getD i .non) G2 Q E
theorem pe_callGK0 {ix : List Nat} (F : FnG X.prog X.w X.K X.mg X.base k f fd ps sp) (g : X.A.guards = some []) (r : Room k X.A) (hg : Gl X x) (hm : X.mg x = some (.ref f)) (hk : PySem.W.keepIn X.K (.ref f) = true) (hb : KBx X.K fd ps 0 ks ix)
    (hkw : PK X kws tk) (d4 : (backToKw pos (keywordEach kws X.env)).all (·.1.isSome) = true := by rfl) (d5 : (backToKw pos (keywordEach kws X.env)).filterMap (·.1) = ks := by rfl) (d1 : (x == ("__debug__" : Str)) = false := by decide)
    (d3 : (backToKw pos (keywordEach kws X.env)).any (·.1.isNone) = false := by rfl) :
    PE X (.Call (.Name x p) [] kws pos) (tKw sp 0 ks.length ix E L2.tNil tk) := by
  constructor
  intro pins s σ H Q I h
  apply wpAny_Call_Name_kw (ld_glob I hg hm ?_ d1)
  apply PySem.W.callWith_KW0 (h₀ := X.base) I.ok.mod.kin hk d4 ?_ d3
  apply thn (hkw.run pos pins s σ H _ I h)
  rintro ws s2 ⟨zs, H2, I2, rz, _, lz, q⟩
  refine ⟨I2.kIn, ?_⟩
  rw [d5]
  apply wpAny_call
  have lw : ws.length = ks.length := by rw [← rz.length]; exact lz
  apply codeAny_mono (goes F g r I2 (hb.to s2 [] ws rfl lw) (vals_ix (.append .nil rz) ix) q)
  rintro a s3 ⟨u, rfl, z⟩
  exact z
end
/-- sys.modules stands in the base -/
def HasMods (base : Heap) : Prop := ∃ mm, base.Ns sysModules mm
/-! ### the law's call, from its promise -/
theorem law_go {P : Program} {w : World} {K : PySem.W.Frag} {mg mb : Str → Option Value} {k : Nat} {fa a : Addr} {fd : FuncData} {x : Str} {sp : Sp} {s : Shared} {us : List Value} {ns : List Int}
    (kin : K.In s.heap) (gl : s.heap.Ns mainGlobals mg) (bl : s.heap.Ns builtinsNs mb) (boot : ∀ y : Str, y ≠ "__name__" → mb y = bootBuiltins y) (nolim : s.heap.NoLimit) (mods : HasMods s.heap) (gen : s.gens = #[])
    (ob : s.heap.get? a = some { cls := .type "list", data := .seq us.toArray }) (nums : IntsAre us ns) (size : ns.length ≤ sizeLine) (room : Room k callerA)
    (F : ∀ base : Heap, K.In base → base.Ns mainGlobals mg → HasMods base → FnG P w K mg base k fa fd [x] sp) (bind : ∀ (t : Shared) (u : Value), BindsTo t fd ⟨[u], []⟩ [(x, u)])
    (prom : ∀ H : Hp, SqL K H a (ns.map V.int) → sp [.ref a] H (fun v _ => v = .bl true) fun _ _ _ => False) :
    codeAny (model P w) callerA (.call (.ref fa) ⟨[.ref a], []⟩) (fun r t => r = .ok (.ret (.bool true)) ∧ OldK s.heap t.heap ∧ t.os = s.os ∧ AllBare t.gens) s := by
  have rel := vals_ints nums
  -- H tracks nothing, or the script alone, as the object that it is
  suffices main : ∀ H : Hp, SqL K H a (ns.map V.int) → HOk P w H s.heap → (∀ b u, H b = some u → b = a ∧ K.lookup a = none ∧ ∃ o y, u = .frz o y ∧ s.heap.get? b = some o) →
      codeAny (model P w) callerA (.call (.ref fa) ⟨[.ref a], []⟩) (fun r t => r = .ok (.ret (.bool true)) ∧ OldK s.heap t.heap ∧ t.os = s.os ∧ AllBare t.gens) s by
    by_cases hk : K.lookup a = none
    · let o : Obj := { cls := .type "list", data := .seq us.toArray }
      refine main (fun b => if b = a then some (.frz o (.lst (ns.map V.int))) else none) (.inl (.inr ⟨o, if_pos rfl⟩)) ?_ ?_
      · intro b u z
        by_cases h : b = a
        · subst h
          cases (if_pos rfl).symm.trans z
          exact ⟨ob, by rw [List.length_map]; exact size, us, _, rel, ob⟩
        · cases (if_neg h).symm.trans z
      · intro b u z
        by_cases h : b = a
        · subst h
          cases (if_pos rfl).symm.trans z
          exact ⟨rfl, hk, o, _, rfl, ob⟩
        · cases (if_neg h).symm.trans z
    · obtain ⟨o, ho⟩ := Option.ne_none_iff_exists'.mp hk
      have e := kin a o ho
      rw [ob] at e
      cases e
      exact main (fun _ => none) (.inr ⟨_, us.toArray, _, ho, rfl, rfl, rfl, by rw [List.size_toArray, nums.length]; exact size, by simpa using rel⟩) (fun b u z => nomatch z) fun b u z => nomatch z
  intro H seq hok only
  have hid : ∀ {b o}, s.heap.get? b = some o → H b = none → (hidT s.heap H).get? b = some o := fun e n => hidT_get e n
  have free : ∀ {b o} {es : Array DictEntry} {n : Nat}, s.heap.get? b = some o → o.data = .dict es n → H b = none := by
    intro b o es n e d
    cases z : H b with
    | none => rfl
    | some u =>
      obtain ⟨rfl, _⟩ := only b u z
      rw [ob] at e
      cases e
      cases d
  have names : ∀ {b} {m : Str → Option Value}, s.heap.Ns b m → (hidT s.heap H).Ns b m := by
    rintro b m ⟨o, es, n, e, d, z⟩
    exact ⟨o, es, n, hid e (free e d), d, z⟩
  have kin' : K.In (hidT s.heap H) := by
    intro b o e
    refine hid (kin b o e) ?_
    cases z : H b with
    | none => rfl
    | some u =>
      obtain ⟨rfl, n, _⟩ := only b u z
      rw [n] at e
      cases e
  obtain ⟨mc, l1, l2⟩ := nolim
  have mod : Mod K mg (hidT s.heap H) := ⟨kin', names gl, ⟨mb, names bl, boot⟩, ⟨mc, names l1, l2⟩⟩
  have env : Env0 P w K mg (hidT s.heap H) callerA [] s H := ⟨rfl, mod, fun b o e => of_hidT e, Nat.le_of_eq (hidT_size _ _), trivial, fun b h => absurd (show b ∈ ([] : List Addr) from h) (by simp), hok, .of_eq gen⟩
  apply codeAny_mono ((F _ kin' (names gl) (mods.imp fun _ z => names z)).go (us := [.ref a]) (vs := [.ref a]) rfl room env (bind s (.ref a)) (.cons rfl .nil) (prom H seq))
  intro r t h
  rcases r with er | fl
  · exact h.elim
  cases fl with
  | next => exact h.elim
  | brk => exact h.elim
  | cont => exact h.elim
  | ret u =>
    obtain ⟨v, G, os, bare, un, hok', rl, q⟩ := h
    cases (show v = .bl true from q)
    obtain rfl : u = Value.bool true := rl
    refine ⟨rfl, OldK.of_keep fun b o e => ?_, os, bare⟩
    cases z : H b with
    | none => exact un.keep b o e z (by intro m; exact absurd (show b ∈ ([] : List Addr) from m) (by simp)) (by simp)
    | some u =>
      obtain ⟨_, _, o', y, rfl, e'⟩ := only b u z
      rw [e] at e'
      cases e'
      exact (hok' b _ (un.frzs b o y z)).1
/-- what k_head leaves, from the law's promise -/
theorem walk_G {l : PySem.W.OpenLaw} {n k : Nat} {q : Program} {loose : List Str} {XP : (Str → Option Value) → Heap → Prop} {YP : World → Heap → Prop} {d : DefRec} {K : Params → PySem.W.Frag} {sp : PySem.W.Frag → Sp} {x : Str}
    (none : importsNone q = true) (hn : l.most = some n) (hn2 : n ≤ sizeLine) (hdf : d.params.defaults = []) (room : Room k callerA) (hY : ∀ (w : World) (h : Heap), YP w h → (K w.params).In h)
    (F : ∀ (w : World) (mg : Str → Option Value) (fa : Addr) (h : Heap), (K w.params).In h → h.Ns mainGlobals mg → mg d.name = some (.ref fa) →
      ∃ fd : FuncData, (∀ (t : Shared) (u : Value), BindsTo t fd ⟨[u], []⟩ [(x, u)]) ∧ ∀ base : Heap, (K w.params).In base → base.Ns mainGlobals mg → HasMods base → FnG l.prog w (K w.params) mg base k fa fd [x] (sp (K w.params)))
    (prom : ∀ (K : PySem.W.Frag) (H : Hp) (a : Addr) (ns : List Int), ns.length ≤ n → SqL K H a (ns.map V.int) → sp K [.ref a] H (fun v _ => v = .bl true) fun _ _ _ => False) :
    PySem.W.WalkO q loose XP YP l.row.toRowW d [] (fun f vs => PySem.call f vs) := by
  apply Att.attach_call hn hdf
  intro w s0 s1 mg mb fa o pm cd dc a us ns G Y _ _ _ hmg hobj nums hlen hg
  have md : HasMods s1.heap := let ⟨mm, z, _⟩ := (G.T.seer none).mods; ⟨mm, z⟩
  obtain ⟨fd, hb, hF⟩ := F w mg fa _ (hY w _ Y) G.T.g hmg
  exact law_go (hY w _ Y) G.T.g G.T.b G.T.builtins G.T.nolimit md hg hobj nums (Nat.le_trans hlen hn2) room hF hb fun H hS => prom _ H a ns hlen hS
/-- a def as its callers know it -/
structure Cal (P : Program) (w : World) (K : PySem.W.Frag) (mg : Str → Option Value) (base : Heap) (x : Str) (k : Nat) (f : Addr) (fd : FuncData) (ps : List Str) (sp : Sp) : Prop where
  G : FnG P w K mg base k f fd ps sp
  mgf : mg x = some (.ref f)
  kp : PySem.W.keepIn K (.ref f) = true
  b : Binds K fd ps []
/-- keywords come to the parameters -/
theorem kb_of {K : PySem.W.Frag} {x qual : Str} {st : Stmt} {f : Addr} {fd : FuncData} {ps ks : List Str} {n : Nat} {ix : List Nat} (F : Fun K x qual st f fd)
    (h : ∀ (kV dc pm : Value) (an : Option Addr) (cd ct : Value) (us ws : List Value), us.length = n → ws.length = ks.length → bindArgs (PySem.W.fnOf x qual (defArgs st) (defBody st) (defScope st) .none kV dc pm an cd ct) ⟨us, ks.zip ws⟩ = pure (ps.zip (ix.map fun i => (us ++ ws).getD i .none))) : KBx K fd ps n ks ix := by
  obtain ⟨oc, od, kV, dc, pm, an, cd, ct, sl, e, _, _⟩ := F.ex
  subst e
  exact ⟨fun s us ws l1 l2 => .of_eq (h kV dc pm an cd ct us ws l1 l2)⟩
def tGo (sp : Sp) (t : TA) : TE := fun σ H Q => t σ H fun vs G => sp vs G Q E0
theorem r_go {sp : Sp} {t : TA} {σ : L2.St} {H : Hp} {Q : VK} (h : t σ H fun vs G => sp vs G Q E0) : tGo sp t σ H Q := h
theorem r_kw {sp : Sp} {n m : Nat} {ix : List Nat} {E : XK} {t tk : TA} {σ : L2.St} {H : Hp} {Q : VK} (h : t σ H fun vs G => tk σ G fun zs G2 => vs.length = n ∧ zs.length = m ∧ sp (ix.map fun i => (vs ++ zs).getD i .non) G2 Q E) : tKw sp n m ix E t tk σ H Q := h
section
variable {X : Cx} {k : Nat} {f : Addr} {fd : FuncData} {ps ks : List Str} {sp : Sp} {x : Str} {p pos : Pos} {e : Expr} {es : List Expr} {t tk : TA} {kws : List Keyword}
theorem pe_go (c : Cal X.prog X.w X.K X.mg X.base x k f fd ps sp) (g : X.A.guards = some []) (r : Room k X.A) (hg : Gl X x) (ha : PA X (e :: es) t) (d1 : (x == ("__debug__" : Str)) = false := by decide)
    (d2 : starEach (e :: es) X.env = (false, eval e X.env) :: starEach es X.env := by rfl) (d3 : (backTo pos (starEach es X.env)).any (·.1) = false := by rfl) : PE X (.Call (.Name x p) (e :: es) [] pos) (tGo sp t) :=
  pe_callG (E := E0) c.G g r hg c.mgf c.kp c.b ha d1 d2 d3
theorem pe_kw0 {ix : List Nat} (c : Cal X.prog X.w X.K X.mg X.base x k f fd ps sp) (hb : KBx X.K fd ps 0 ks ix) (g : X.A.guards = some []) (r : Room k X.A) (hg : Gl X x) (hkw : PK X kws tk)
    (d4 : (backToKw pos (keywordEach kws X.env)).all (·.1.isSome) = true := by rfl) (d5 : (backToKw pos (keywordEach kws X.env)).filterMap (·.1) = ks := by rfl) (d1 : (x == ("__debug__" : Str)) = false := by decide)
    (d3 : (backToKw pos (keywordEach kws X.env)).any (·.1.isNone) = false := by rfl) : PE X (.Call (.Name x p) [] kws pos) (tKw sp 0 ks.length ix E0 L2.tNil tk) :=
  pe_callGK0 c.G g r hg c.mgf c.kp hb hkw d4 d5 d1 d3
end
end Rp
namespace Rp
open PySem PySem.Spec PyProof.Rows L2
/-! ### data on the heap, dicts in it too; what repr shows of them -/
def kD : Key → PyData
  | .inl i => .int i
  | .inr x => .str x
mutual
inductive Dd (K : PySem.W.Frag) (H : Hp) : V → PyData → Prop
  | non : Dd K H .non .none
  | bl (b : Bool) : Dd K H (.bl b) (.bool b)
  | num (i : Int) : Dd K H (.int i) (.int i)
  | str (x : Str) : Dd K H (.str x) (.str x)
  | lst {a : Addr} {xs : List V} {ds : List PyData} (e : SqL K H a xs) (h : DdAll K H xs ds) : Dd K H (.ref a) (.list ds)
  | tup {a : Addr} {xs : List V} {ds : List PyData} (e : SqT K H a xs) (h : DdAll K H xs ds) : Dd K H (.ref a) (.tuple ds)
  | dic {a : Addr} {kvs : List (Key × V)} {ds : List (PyData × PyData)} (e : H a = some (.dK kvs)) (h : DdKv K H kvs ds) : Dd K H (.ref a) (.dict ds)
inductive DdAll (K : PySem.W.Frag) (H : Hp) : List V → List PyData → Prop
  | nil : DdAll K H [] []
  | cons {v : V} {vs : List V} {d : PyData} {ds : List PyData} (h : Dd K H v d) (t : DdAll K H vs ds) : DdAll K H (v :: vs) (d :: ds)
inductive DdKv (K : PySem.W.Frag) (H : Hp) : List (Key × V) → List (PyData × PyData) → Prop
  | nil : DdKv K H [] []
  | cons {k : Key} {v : V} {r : List (Key × V)} {d : PyData} {ds : List (PyData × PyData)} (h : Dd K H v d) (t : DdKv K H r ds) : DdKv K H ((k, v) :: r) ((kD k, d) :: ds)
end
section
variable {X : Cx} {pins : List (Addr × Obj)} {σ : L2.St} {H : Hp} {s : Shared}
theorem mods_ne (I : Inv X pins σ H s) (M : HasMods X.base) {a : Addr} {o : Obj} {vs : Array Value} {n : Nat} (e : s.heap.get? a = some o) (d : o.data = .seq vs n) : sysModules ≠ a := by
  intro z
  obtain ⟨mm, ob, es, ep, h1, h2, _⟩ := M
  have h3 := (I.bs _ _ h1).1
  rw [z, e] at h3
  cases h3
  rw [d] at h2
  cases h2
theorem key_reads {h : Heap} {k : Key} {v : Value} (e : keyIs k v = true) : Reads h v (kD k) [] := by
  rcases keyIs_shape e with ⟨i, t, rfl, rfl⟩ | ⟨x, t, rfl, rfl⟩
  · exact .int i t
  · exact .str x t
mutual
theorem dd_reads (I : Inv X pins σ H s) (M : HasMods X.base) : ∀ {v : V} {d : PyData}, Dd X.K H v d → ∀ u, RelV v u → ∃ as, Reads s.heap u d as ∧ sysModules ∉ as
  | _, _, .non, u, r => by cases r; exact ⟨[], .none, by simp⟩
  | _, _, .bl b, u, r => by cases r; exact ⟨[], .bool b, by simp⟩
  | _, _, .num i, u, r => by obtain ⟨t, rfl⟩ := r; exact ⟨[], .int i t, by simp⟩
  | _, _, .str x, u, r => by obtain ⟨t, rfl⟩ := r; exact ⟨[], .str x t, by simp⟩
  | _, _, .lst e h, u, r => by
    cases r
    obtain ⟨its, rv, ⟨o, n, h1, h2, _, h4⟩, _⟩ := I.list e
    obtain ⟨as, ra, na⟩ := dd_readsAll I M h its rv
    refine ⟨_, .list h1 h2 h4 (by simpa using ra), ?_⟩
    intro m
    rcases List.mem_cons.mp m with z | z
    · exact mods_ne I M h1 h4 z
    · exact na z
  | _, _, .tup e h, u, r => by
    cases r
    obtain ⟨its, rv, ⟨o, h1, h2, n, h4⟩, _⟩ := I.tuple e
    obtain ⟨as, ra, na⟩ := dd_readsAll I M h its rv
    exact ⟨_, .tuple h1 h2 h4 (by simpa using ra), na⟩
  | _, _, .dic e h, u, r => by
    cases r
    obtain ⟨_, ns, vs, kv, o, es, ep, h1, h2, h3, _, pr, _⟩ := I.hok _ _ e
    obtain ⟨bs, rk, rvs, nb⟩ := dd_readsKv I M h vs es.toList kv pr
    refine ⟨_, .dict h1 h2.1 h3 rk rvs, ?_⟩
    intro m
    rcases List.mem_cons.mp (by simpa using m) with z | z
    · rw [z] at ns
      simp at ns
    · exact nb (by simpa using z)
theorem dd_readsAll (I : Inv X pins σ H s) (M : HasMods X.base) : ∀ {vs : List V} {ds : List PyData}, DdAll X.K H vs ds → ∀ us, Vals vs us → ∃ as, ReadsAll s.heap us ds as ∧ sysModules ∉ as
  | _, _, .nil, us, r => by cases r; exact ⟨[], .nil, by simp⟩
  | _, _, .cons h t, us, r => by
    cases r with
    | cons r1 r2 =>
      obtain ⟨as, q1, n1⟩ := dd_reads I M h _ r1
      obtain ⟨bs, q2, n2⟩ := dd_readsAll I M t _ r2
      exact ⟨as ++ bs, .cons q1 q2, by rw [List.mem_append]; exact fun z => z.elim n1 n2⟩
theorem dd_readsKv (I : Inv X pins σ H s) (M : HasMods X.base) : ∀ {kvs : List (Key × V)} {ds : List (PyData × PyData)}, DdKv X.K H kvs ds → ∀ (vs : List (Key × Value)) (es : List DictEntry), KV kvs vs → Pairs (mixKind X.prog X.w) es vs →
    ∃ bs, ReadsAll s.heap (es.map (·.key)) (ds.map (·.1)) [] ∧ ReadsAll s.heap (es.map (·.val)) (ds.map (·.2)) bs ∧ sysModules ∉ bs
  | _, _, .nil, vs, es, kv, pr => by
    cases kv
    cases pr
    exact ⟨[], .nil, .nil, by simp⟩
  | _, _, .cons h t, vs, es, kv, pr => by
    cases kv with
    | cons k1 k2 =>
      cases pr with
      | cons p1 p2 p3 =>
        obtain ⟨e1, e2⟩ := k1
        rw [← p2] at e2
        rw [← e1] at p1
        obtain ⟨as, q1, n1⟩ := dd_reads I M h _ e2
        obtain ⟨bs, q2, q3, n2⟩ := dd_readsKv I M t _ _ k2 p3
        refine ⟨as ++ bs, ?_, .cons q1 q3, by rw [List.mem_append]; exact fun z => z.elim n1 n2⟩
        exact ReadsAll.cons (as := []) (key_reads p1) q2
end
/-- repr of a list, a tuple, a dict: of data -/
def rRepr (K : PySem.W.Frag) : List V → Hp → VK → Prop := fun xs H Q => ∃ (a : Addr) (d : PyData), xs = [.ref a] ∧ Dd K H (.ref a) d ∧ d.showable = true ∧ d.depth ≤ 64 ∧ d.shown.length ≤ sizeLine ∧ Q (.str d.shown) H
theorem call_reprD {k : Nat} (hr : Room k X.A) (g : X.A.guards = some []) (M : HasMods X.base) : CallR X (.builtin "repr") (rRepr X.K) := by
  intro pins s σ H xs us Q I r h
  obtain ⟨a, d, rfl, dd, hs, hdp, hsz, q⟩ := h
  obtain ⟨u, rfl, r1⟩ := vals1 r
  cases (show u = Value.ref a from r1)
  obtain ⟨as, rd, na⟩ := dd_reads I M dd _ rfl
  have un := hr.un
  exact repr_of_reads' rd hs (fun _ => na) g (by omega) (fun _ _ e => e) (fun h' t tk hk => ⟨.str d.shown, H, I.kept hk, ⟨_, rfl⟩, q⟩) hsz
end
end Rp
namespace Rp
open PySem PySem.Spec PyProof.Rows L2
/-! ### values of any kind, off the box -/
inductive Any (q : Addr) (H : Hp) : V → Prop
  | non : Any q H .non
  | bl (b : Bool) : Any q H (.bl b)
  | num (i : Int) : Any q H (.int i)
  | str (x : Str) : Any q H (.str x)
  | lst {a : Addr} {xs : List V} (n : a ≠ q) (e : H a = some (.lst xs)) : Any q H (.ref a)
  | tup {a : Addr} {xs : List V} (n : a ≠ q) (e : H a = some (.tup xs)) : Any q H (.ref a)
  | dic {a : Addr} {kvs : List (Key × V)} (n : a ≠ q) (e : H a = some (.dK kvs)) : Any q H (.ref a)
/-- a value that is a list or tuple of some values, or none -/
inductive RowV (q : Addr) (H : Hp) : V → Option (List V) → Prop
  | non : RowV q H .non none
  | bl (b : Bool) : RowV q H (.bl b) none
  | num (i : Int) : RowV q H (.int i) none
  | str (x : Str) : RowV q H (.str x) none
  | lst {a : Addr} {xs : List V} (n : a ≠ q) (e : H a = some (.lst xs)) (h : ∀ x ∈ xs, Any q H x) : RowV q H (.ref a) (some xs)
  | tup {a : Addr} {xs : List V} (n : a ≠ q) (e : H a = some (.tup xs)) (h : ∀ x ∈ xs, Any q H x) : RowV q H (.ref a) (some xs)
  | dic {a : Addr} {kvs : List (Key × V)} (n : a ≠ q) (e : H a = some (.dK kvs)) : RowV q H (.ref a) none
section
variable {q : Addr} {H H' : Hp} {v : V} {o : Option (List V)} {K : PySem.W.Frag}
theorem Any.but (h : Any q H v) (b : But q H H') : Any q H' v := by
  cases h with
  | non => exact .non
  | bl b => exact .bl b
  | num i => exact .num i
  | str x => exact .str x
  | lst n e => exact .lst n (b _ _ n e)
  | tup n e => exact .tup n (b _ _ n e)
  | dic n e => exact .dic n (b _ _ n e)
theorem RowV.but (h : RowV q H v o) (b : But q H H') : RowV q H' v o := by
  cases h with
  | non => exact .non
  | bl b => exact .bl b
  | num i => exact .num i
  | str x => exact .str x
  | lst n e it => exact .lst n (b _ _ n e) fun x m => (it x m).but b
  | tup n e it => exact .tup n (b _ _ n e) fun x m => (it x m).but b
  | dic n e => exact .dic n (b _ _ n e)
def isI : V → Bool
  | .int _ => true
  | _ => false
def isIB : V → Bool
  | .int _ => true
  | .bl _ => true
  | _ => false
def isB : V → Bool
  | .bl _ => true
  | _ => false
theorem isI_eq (v : V) : (isIB v && !isB v) = isI v := by cases v <;> rfl
theorem any_int (h : Any q H v) : ∃ t : Value, TyX K H v t ∧ PySem.W.kitOne K t (.type "int") = some (isIB v) := by
  cases h with
  | non => exact ⟨_, .base .non, kit_ty (r := false) (by decide +kernel)⟩
  | bl b => exact ⟨_, .base (.bl b), kit_ty (r := true) (by decide +kernel)⟩
  | num i => exact ⟨_, .base (.int i), kit_ty (r := true) (by decide +kernel)⟩
  | str x => exact ⟨_, .base (.str x), kit_ty (r := false) (by decide +kernel)⟩
  | lst n e => exact ⟨_, .base (.lst e), kit_ty (r := false) (by decide +kernel)⟩
  | tup n e => exact ⟨_, .base (.tup e), kit_ty (r := false) (by decide +kernel)⟩
  | dic n e => exact ⟨_, .base (.dK e), kit_ty (r := false) (by decide +kernel)⟩
theorem any_bool (h : Any q H v) : ∃ t : Value, TyX K H v t ∧ PySem.W.kitOne K t (.type "bool") = some (isB v) := by
  cases h with
  | non => exact ⟨_, .base .non, kit_ty (r := false) (by decide +kernel)⟩
  | bl b => exact ⟨_, .base (.bl b), kit_ty (r := true) (by decide +kernel)⟩
  | num i => exact ⟨_, .base (.int i), kit_ty (r := false) (by decide +kernel)⟩
  | str x => exact ⟨_, .base (.str x), kit_ty (r := false) (by decide +kernel)⟩
  | lst n e => exact ⟨_, .base (.lst e), kit_ty (r := false) (by decide +kernel)⟩
  | tup n e => exact ⟨_, .base (.tup e), kit_ty (r := false) (by decide +kernel)⟩
  | dic n e => exact ⟨_, .base (.dK e), kit_ty (r := false) (by decide +kernel)⟩
theorem kit2 {t a b : String} {x y : Bool} (h1 : kitB t a = some x) (h2 : kitB t b = some y) : PySem.W.kitAny K (.type t) [.type a, .type b] = some (x || y) := by
  refine kitAny_cons (kit_ty h1) (fun e => ?_) (fun e => by rw [e]; rfl)
  rw [e]
  refine kitAny_cons (kit_ty h2) (fun e => ?_) (fun e => by rw [e]; rfl)
  rw [e]
  exact kitAny_nil
theorem row_seq (h : RowV q H v o) : ∃ t : Value, TyX K H v t ∧ PySem.W.kitAny K t [.type "list", .type "tuple"] = some o.isSome := by
  cases h with
  | non => exact ⟨_, .base .non, kit2 (x := false) (y := false) (by decide +kernel) (by decide +kernel)⟩
  | bl b => exact ⟨_, .base (.bl b), kit2 (x := false) (y := false) (by decide +kernel) (by decide +kernel)⟩
  | num i => exact ⟨_, .base (.int i), kit2 (x := false) (y := false) (by decide +kernel) (by decide +kernel)⟩
  | str x => exact ⟨_, .base (.str x), kit2 (x := false) (y := false) (by decide +kernel) (by decide +kernel)⟩
  | lst n e => exact ⟨_, .base (.lst e), kit2 (x := true) (y := false) (by decide +kernel) (by decide +kernel)⟩
  | tup n e => exact ⟨_, .base (.tup e), kit2 (x := false) (y := true) (by decide +kernel) (by decide +kernel)⟩
  | dic n e => exact ⟨_, .base (.dK e), kit2 (x := false) (y := false) (by decide +kernel) (by decide +kernel)⟩
end
/-- any value is, is not a truth -/
def rIsAny (neg : Bool) : R2 := fun x y H Q => ∃ b, y = .bl b ∧ Q (.bl (if neg then !decide (x = .bl b) else decide (x = .bl b))) H
section
variable {X : Cx}
theorem bl_ne {x : V} {v : Value} {b : Bool} (rx : RelV x v) (ne : x ≠ .bl b) : v ≠ Value.bool b := by
  intro e
  subst e
  cases x with
  | bl c => exact ne (by rw [Value.bool.inj (show Value.bool b = Value.bool c from rx)])
  | non => cases (show Value.bool b = Value.none from rx)
  | int i => obtain ⟨t, z⟩ := rx; cases z
  | str y => obtain ⟨t, z⟩ := rx; cases z
  | byt y => obtain ⟨t, z⟩ := rx; cases z
  | flt y => obtain ⟨t, z⟩ := rx; cases z
  | ref a => cases (show Value.bool b = Value.ref a from rx)
  | ty n => cases (show Value.bool b = Value.type n from rx)
theorem plain_bl {x : V} {v : Value} {b : Bool} (rx : RelV x v) : plainIs v (.bool b) = true := by
  cases x with
  | bl c => cases rx; rfl
  | non => cases rx; rfl
  | int i => obtain ⟨t, rfl⟩ := rx; rfl
  | str y => obtain ⟨t, rfl⟩ := rx; rfl
  | byt y => obtain ⟨t, rfl⟩ := rx; rfl
  | flt y => obtain ⟨t, rfl⟩ := rx; rfl
  | ref a => cases rx; rfl
  | ty n => cases rx; rfl
theorem op_is_any : OpR X (compareOp .Is) (rIsAny false) := by
  intro pins s σ H x y v u Q I rx ry h
  obtain ⟨b, rfl, q⟩ := h
  cases (show u = Value.bool b from ry)
  by_cases e : x = .bl b
  · subst e
    cases (show v = Value.bool b from rx)
    exact wpAny_is_self rfl ⟨.bl true, H, I, rfl, by simpa using q⟩
  · exact wpAny_is_other (plain_bl rx) (bl_ne rx e) ⟨.bl false, H, I, rfl, by simpa [e] using q⟩
theorem op_isnot_any : OpR X (compareOp .IsNot) (rIsAny true) := by
  intro pins s σ H x y v u Q I rx ry h
  obtain ⟨b, rfl, q⟩ := h
  cases (show u = Value.bool b from ry)
  by_cases e : x = .bl b
  · subst e
    cases (show v = Value.bool b from rx)
    exact wpAny_isNot_self rfl ⟨.bl false, H, I, rfl, by simpa using q⟩
  · exact wpAny_isNot_other (plain_bl rx) (bl_ne rx e) ⟨.bl true, H, I, rfl, by simpa [e] using q⟩
end
end Rp
namespace Rp
open PySem PySem.Spec PyProof.Rows L2
section
variable {K : PySem.W.Frag} {H : Hp} {Q : VK} {x v : V} {t : Value} {b : Bool} {q : Addr}
theorem r_isi {n : String} (ty : TyX K H x t) (k : PySem.W.kitOne K t (.type n) = some b) (h : Q (.bl b) H) : rIsi K [x, .ty n] H Q := ⟨x, _, t, _, b, rfl, .ty n, ty, k, h⟩
theorem r_isiT {p : Addr} {n m : String} (e : H p = some (.tup [.ty n, .ty m])) (ty : TyX K H x t) (k : PySem.W.kitAny K t [.type n, .type m] = some b) (h : Q (.bl b) H) : rIsiT K [x, .ref p] H Q :=
  ⟨x, p, _, t, _, b, rfl, e, .cons (.ty n) (.cons (.ty m) .nil), ty, k, h⟩
theorem r_isAny {neg : Bool} {c : Bool} (h : Q (.bl (if neg then !decide (x = .bl c) else decide (x = .bl c))) H) : rIsAny neg x (.bl c) H Q := ⟨c, rfl, h⟩
@[reducible] def oV : Option Int → V
  | none => .non
  | some i => .int i
/-- an integer from lo to hi -/
def inB (v : V) (lo hi : Option Int) : Bool :=
  match v with
  | .int i => (match lo with | none => true | some l => decide (l ≤ i)) && (match hi with | none => true | some u => decide (i ≤ u))
  | _ => false
def clocks : List Int := [3, 5, 7, 11, 13, 17, 19, 23, 29, 31]
def clk (v : V) : Bool :=
  match v with
  | .int i => clocks.contains i
  | _ => false
def rowB (o : Option (List V)) (clock size : Int) : Bool :=
  match o with
  | none => false
  | some xs => decide ((xs.length : Int) = size) && xs.all fun x => inB x (some 0) (some (clock - 1))
def spIsInt : Sp := fun vs H Q _ => ∃ q v, vs = [v] ∧ Any q H v ∧ Q (.bl (isI v)) H
def spWithin : Sp := fun vs H Q _ => ∃ q v lo hi, vs = [v, oV lo, oV hi] ∧ Any q H v ∧ Q (.bl (inB v lo hi)) H
def spClock : Sp := fun vs H Q _ => ∃ q v, vs = [v] ∧ Any q H v ∧ Q (.bl (clk v)) H
def spRow : Sp := fun vs H Q _ => ∃ q v o clock size, vs = [v, .int clock, .int size] ∧ RowV q H v o ∧ clk (.int clock) = true ∧ (∀ xs, o = some xs → xs.length < sizeLine) ∧ ∀ H', Same H H' → Q (.bl (rowB o clock size)) H'
end
end Rp
namespace Rp
open PySem PySem.Spec PyProof.Rows L2
/-! ### steps at the box -/
section
variable {K : PySem.W.Frag} {q c p : Addr} {ns : List Int} {lap : Nat} {H0 H G : Hp} {o : HO} {Q : VK} {σ : L2.St} {x y v : V} {te tk tv : TE} {b : Bool}
theorem alloc (hG : upd H p o = G) (D : Dr q c ns lap H) (B : But q H0 H) (hp : H p = none) : Dr q c ns lap G ∧ But q H0 G ∧ But q H G ∧ p ≠ q ∧ G p = some o := by
  subst hG
  refine ⟨D.neu hp, B.neu hp, (But.refl q H).neu hp, ?_, upd_same⟩
  intro e
  obtain ⟨_, ⟨_, h⟩, _⟩ := D
  rw [e, h] at hp
  cases hp
/-- what stood at p is exchanged -/
theorem stored {u : HO} (hG : upd H p o = G) (D : Dr q c ns lap H) (np : p ≠ q) (ep : H p = some u) (d : ∀ xs, u ≠ .lst xs) : Dr q c ns lap G ∧ G p = some o := by
  subst hG
  obtain ⟨ne, ⟨rest, h⟩, hc, hl⟩ := D
  exact ⟨⟨ne, ⟨rest, by rw [upd_ne np.symm]; exact h⟩, by rw [upd_ne (ne_of hc ep (d _).symm)]; exact hc, hl⟩, upd_same⟩
theorem but_put {H1 : Hp} (hG : upd H p o = G) (B : But q H1 H) (hp : H1 p = none) : But q H1 G := by
  subst hG
  intro b u n e
  rw [upd_ne (ne_of_none e hp)]
  exact B b u n e
/-- a fact of each item -/
inductive EachP (F : V → Prop) : List V → Prop
  | nil : EachP F []
  | cons {x : V} {r : List V} (h : F x) (t : EachP F r) : EachP F (x :: r)
theorem EachP.get {F : V → Prop} {v : V} : ∀ {xs : List V} {i : Nat}, EachP F xs → xs[i]? = some v → F v
  | _, i, .nil, h => by simp at h
  | _, 0, .cons h _, e => by
    have e' := Option.some.inj e
    rw [← e']
    exact h
  | _, i + 1, .cons _ t, e => EachP.get (i := i) t (by simpa using e)
theorem EachP.mem {F : V → Prop} {xs : List V} (h : EachP F xs) : ∀ x ∈ xs, F x := fun x m => by
  obtain ⟨i, hi⟩ := List.mem_iff_getElem?.mp m
  exact h.get hi
theorem EachP.imp {F F' : V → Prop} (f : ∀ v, F v → F' v) : ∀ {xs : List V}, EachP F xs → EachP F' xs
  | _, .nil => .nil
  | _, .cons h t => .cons (f _ h) (EachP.imp f t)
theorem lt_ok {n m : Nat} (h : Nat.ble (n + 1) m = true) : n < m := Nat.le_of_ble_eq_true h
theorem le_ok {n m : Nat} (h : Nat.ble n m = true) : n ≤ m := Nat.le_of_ble_eq_true h
/-- an int within bounds -/
def IntIn (lo hi : Int) (v : V) : Prop := ∃ i, v = .int i ∧ lo ≤ i ∧ i ≤ hi
theorem log_ok {i : Int} (h : i.natAbs < 2 ^ 80) : i.natAbs.log2 < 1920 := by
  by_cases e : i.natAbs = 0
  · rw [e]
    decide
  · exact Nat.lt_of_lt_of_le ((Nat.log2_lt e).mpr h) (by decide)
theorem r_disp {trs : List (TE × TE)} (h : ∀ p, H p = none → tPairs trs σ (upd H p (.dK [])) fun ps G => G p = some (.dK []) ∧ ∃ kvs : List (Key × V), ps = kvs.map (fun kv => (kV kv.1, kv.2)) ∧ kvs.length ≤ 15 ∧ Q (.ref p) (upd G p (.dK (mergeK [] kvs)))) : tDisp trs σ H Q := h
theorem r_pair {r : List (TE × TE)} {R : List (V × V) → Hp → Prop} (h : tk σ H fun x G => tv σ G fun y G2 => tPairs r σ G2 fun ps G3 => R ((x, y) :: ps) G3) : tPairs ((tk, tv) :: r) σ H R := h
theorem r_pair0 {R : List (V × V) → Hp → Prop} (h : R [] H) : tPairs [] σ H R := h
theorem r_chain {r r' : R2} {ta tb tc : TE} (h : ta σ H fun x G => tb σ G fun y G2 => r x y G2 fun z G3 => ∃ k, z = .bl k ∧ (if k = true then tc σ G3 fun w G4 => r' y w G4 Q else Q (.bl false) G3)) : tChain r r' ta tb tc σ H Q := h
theorem r_U {g : Int → V} {i : Int} (h : Q (g i) H) : rU g (.int i) H Q := ⟨i, rfl, h⟩
theorem r_gtup {n : Nat} {t : TGs} {R : L2.St → Hp → Prop} (h : ∃ a xs, v = .ref a ∧ SqT K H a xs ∧ xs.length = n ∧ t xs σ H R) : gTup K n t v σ H R := h
end
end Rp
namespace Rp
open PySem PySem.Spec PyProof.Rows L2
section
variable {K : PySem.W.Frag} {q c p : Addr} {ns : List Int} {lap : Nat} {H0 H G : Hp} {o : HO} {Q : VK} {σ : L2.St} {x y v : V} {b : Bool} {F : V → Prop}
theorem eq_nil {nums : List Int} (hc : H c = some (.lst (nums.map V.int))) (hp : H p = some (.lst [])) (h : Q (.bl nums.isEmpty) H) : rEqD K (.ref c) (.ref p) H Q :=
  ⟨_, _, .lst (SqL.of hc) (dp_ints nums), .lst (SqL.of hp) .nil, shaped_ints nums, shaped_ints [], by rw [eqv_nil_ints]; exact h⟩
theorem bools_len (a b : Bool) : (PyData.list [.bool a, .bool b]).shown.length ≤ sizeLine := by
  cases a <;> cases b <;> exact Nat.le_trans (m := 100) (by decide +kernel) (by decide)
/-- repr of two truths -/
theorem r_bools {a b : Bool} (e : H p = some (.lst [.bl a, .bl b])) (h : Q (.str (PyData.list [.bool a, .bool b]).shown) H) : rRepr K [.ref p] H Q :=
  ⟨p, _, rfl, .lst (SqL.of e) (.cons (.bl a) (.cons (.bl b) .nil)), by simp [PyData.showable, PyData.showableAll], by simp [PyData.depth, PyData.depthAll], bools_len a b, h⟩
theorem r_ne_same {s : Str} (h : Q (.bl false) H) : rNe (.str s) (.str s) H Q := ⟨rfl, by rw [decide_eq_true rfl]; exact h⟩
theorem r_eq_same {s : Str} (h : Q (.bl true) H) : rEq (.str s) (.str s) H Q := ⟨rfl, by rw [decide_eq_true rfl]; exact h⟩
theorem inB_no {lo hi : Option Int} (h : isI v = false) : inB v lo hi = false := by cases v <;> first | rfl | cases h
theorem clk_no (h : isI v = false) : clk v = false := by cases v <;> first | rfl | cases h
/-- prime, as the law reckons it -/
def prB (n : Int) : Bool := (((List.range (n - 2).toNat).filter fun j : Nat => decide (n.fmod (2 + (j : Int)) = 0)).map fun j : Nat => 2 + (j : Int)).isEmpty
theorem clk_pr {n : Int} (h0 : 3 ≤ n) (h1 : n ≤ 31) : clk (.int n) = prB n := by
  have key : ∀ k : _root_.Fin 29, clk (.int (3 + (k.val : Int))) = prB (3 + (k.val : Int)) := by decide +kernel
  have e : n = 3 + (((n - 3).toNat : Nat) : Int) := by omega
  have z := key ⟨(n - 3).toNat, by omega⟩
  rw [e]
  exact z
theorem clk_out {n : Int} (h : n < 3 ∨ 31 < n) : clk (.int n) = false := by
  simp only [clk, clocks, List.contains_cons, List.contains_nil, Bool.or_false, Bool.or_eq_false_iff, beq_eq_false_iff_ne]
  omega
theorem EachP.append {xs ys : List V} (h : EachP F xs) (k : EachP F ys) : EachP F (xs ++ ys) := by
  induction h with
  | nil => exact k
  | cons a _ ih => exact .cons a ih
theorem EachP.of {xs : List V} (h : ∀ x ∈ xs, F x) : EachP F xs := by
  induction xs with
  | nil => exact .nil
  | cons a r ih => exact .cons (h a (List.mem_cons_self ..)) (ih fun x m => h x (List.mem_cons_of_mem _ m))
theorem EachP.sub {xs ys : List V} (h : EachP F ys) (s : ∀ x ∈ xs, x ∈ ys) : EachP F xs := .of fun x m => h.mem x (s x m)
theorem cut_lo {xs : List V} {n : Nat} (h : n ≤ xs.length) : cutV xs none (some (n : Int)) = xs.take n := by
  unfold cutV
  rw [HT.sIx_nat, HT.sIx_none, Nat.sub_zero, Nat.min_eq_left h, List.drop_zero]
theorem cut_hi {xs : List V} {n : Nat} (h : n ≤ xs.length) : cutV xs (some (n : Int)) none = xs.drop n := by
  unfold cutV
  rw [HT.sIx_nat, HT.sIx_none, Nat.min_eq_left h]
  exact List.take_of_length_le (by rw [List.length_drop]; omega)
theorem row_yes {xs : List V} {clock : Int} (h : EachP (IntIn 0 (clock - 1)) xs) : rowB (some xs) clock (xs.length : Int) = true := by
  simp only [rowB, decide_true, Bool.true_and, List.all_eq_true]
  intro x m
  obtain ⟨i, rfl, h0, h1⟩ := h.mem x m
  simp [inB, h0, h1]
theorem row_no {xs : List V} {clock size : Int} (m : x ∈ xs) (h : inB x (some 0) (some (clock - 1)) = false) : rowB (some xs) clock size = false := by
  simp only [rowB, Bool.and_eq_false_iff, List.all_eq_false]
  exact .inr ⟨x, m, by rw [h]; exact Bool.false_ne_true⟩
theorem row_size {xs : List V} {clock size : Int} (h : (xs.length : Int) ≠ size) : rowB (some xs) clock size = false := by simp [rowB, h]
theorem Dr.same (d : Dr q c ns lap H) (s : Same H G) : Dr q c ns lap G := by
  obtain ⟨ne, ⟨rest, h⟩, hc, hl⟩ := d
  exact ⟨ne, ⟨rest, s _ _ h⟩, s _ _ hc, hl⟩
theorem same_but (s : Same H G) : But q H G := fun b u _ e => s b u e
theorem IntIn.any {lo hi : Int} (h : IntIn lo hi v) : Any q H v := by
  obtain ⟨i, rfl, _⟩ := h
  exact .num i
end
end Rp
namespace Rp
open PySem PySem.Spec PyProof.Rows L2
/-- (value, many, due) with due what is_row tells of value -/
def RowItem (q : Addr) (clock : Int) (H : Hp) (v : V) : Prop := ∃ (t a : Addr) (m : Int) (d : Bool) (xs : List V), v = .ref t ∧ t ≠ q ∧ H t = some (.tup [.ref a, .int m, .bl d]) ∧ RowV q H (.ref a) (some xs) ∧ xs.length < 1000 ∧ rowB (some xs) clock m = d
section
variable {q : Addr} {clock : Int} {H H' : Hp} {v : V}
theorem RowItem.but (h : RowItem q clock H v) (b : But q H H') : RowItem q clock H' v := by
  obtain ⟨t, a, m, d, xs, e, n, ht, hr, hl, hd⟩ := h
  exact ⟨t, a, m, d, xs, e, n, b _ _ n ht, hr.but b, hl, hd⟩
theorem any_all {xs : List V} (h : EachP (Any q H) xs) : ∀ x ∈ xs, Any q H x := h.mem
theorem rep_one {n : Nat} {x : V} : (List.replicate n [x]).flatten = List.replicate n x := by
  induction n with
  | zero => rfl
  | succ n ih => rw [List.replicate_succ, List.flatten_cons, ih, List.replicate_succ]; rfl
theorem all_rep {F : V → Prop} {n : Nat} {x : V} (h : F x) : EachP F (List.replicate n x) := .of fun y m => by
  rw [(List.mem_replicate.mp m).2]
  exact h
theorem r_catA {K : PySem.W.Frag} {a b : Addr} {xs ys : List V} {Q : VK} (ha : SqT K H a xs) (hb : H b = some (.tup ys)) (hz : xs.length + ys.length ≤ sizeLine) (ny : ys ≠ [])
    (h : ∀ p G, G p = some (.tup (xs ++ ys)) → (G = H ∧ p = b ∨ H p = none ∧ G = upd H p (.tup (xs ++ ys))) → Q (.ref p) G) : rCatA K (.ref a) (.ref b) H Q := by
  refine ⟨a, b, xs, ys, rfl, rfl, ha, SqT.of hb, hz, fun e => ?_, fun _ e => absurd e ny, fun _ _ p hp => h p _ upd_same (.inr ⟨hp, rfl⟩)⟩
  subst e
  exact h b H hb (.inl ⟨rfl, rfl⟩)
theorem alloc_or {c p b : Addr} {ns : List Int} {lap : Nat} {H0 G : Hp} {o : HO} (z : G = H ∧ p = b ∨ H p = none ∧ G = upd H p o) (D : Dr q c ns lap H) (B : But q H0 H) (nb : b ≠ q) : Dr q c ns lap G ∧ But q H0 G ∧ But q H G ∧ p ≠ q := by
  rcases z with ⟨rfl, rfl⟩ | ⟨hp, rfl⟩
  · exact ⟨D, B, But.refl _ _, nb⟩
  · obtain ⟨a1, a2, a3, a4, _⟩ := alloc rfl D B hp
    exact ⟨a1, a2, a3, a4⟩
end
end Rp
namespace Rp
open PySem PySem.Spec PyProof.Rows L2
section
variable {K : PySem.W.Frag} {c p : Addr} {H : Hp} {Q : VK}
/-- two int lists that are the same -/
theorem eq_nums {nums : List Int} (hc : H c = some (.lst (nums.map V.int))) (hp : H p = some (.lst (nums.map V.int))) (h : Q (.bl true) H) : rEqD K (.ref c) (.ref p) H Q :=
  ⟨_, _, .lst (SqL.of hc) (dp_ints nums), .lst (SqL.of hp) (dp_ints nums), shaped_ints nums, shaped_ints nums, by
    rw [SeqAt.eqv_refl _ (by rw [PyData.canLay0]; exact canLay_ints nums)]
    exact h⟩
end
/-- the law: True, whatever the script -/
def spLaw (K : PySem.W.Frag) : Sp := fun vs H Q _ => ∃ (a : Addr) (ns : List Int), vs = [.ref a] ∧ SqL K H a (ns.map V.int) ∧ ∀ H', Q (.bl true) H'
end Rp
namespace Rp
open PySem PySem.Spec PyProof.Rows L2
/-! ### data off some places -/
/-- the heap without what stands at S -/
def hid (S : List Addr) (H : Hp) : Hp := fun b => if b ∈ S then none else H b
/-- all but what stands at S is as it was -/
def Keep (S : List Addr) (H H' : Hp) : Prop := ∀ b o, b ∉ S → H b = some o → H' b = some o
section
variable {K : PySem.W.Frag} {S S' : List Addr} {H H' H2 : Hp} {q p b : Addr} {o : HO} {v : V} {d : PyData}
theorem hid_in (h : b ∈ S) : hid S H b = none := by unfold hid; rw [if_pos h]
theorem hid_out (h : b ∉ S) : hid S H b = H b := by unfold hid; rw [if_neg h]
theorem hid_some (h : hid S H b = some o) : b ∉ S ∧ H b = some o := by
  by_cases m : b ∈ S
  · rw [hid_in m] at h
    cases h
  · rw [hid_out m] at h
    exact ⟨m, h⟩
theorem Keep.refl (S : List Addr) (H : Hp) : Keep S H H := fun _ _ _ h => h
theorem Keep.trans (a : Keep S H H') (c : Keep S H' H2) : Keep S H H2 := fun b o n h => c b o n (a b o n h)
theorem Keep.of (s : Same H H') : Keep S H H' := fun b o _ h => s b o h
theorem Keep.but (B : But q H H') : Keep [q] H H' := fun b o n h => B b o (fun e => n (by simp [e])) h
theorem Keep.toBut (k : Keep [q] H H') : But q H H' := fun b o n h => k b o (by simp [n]) h
theorem Keep.sub (k : Keep S H H') (s : ∀ b ∈ S, b ∈ S') : Keep S' H H' := fun b o n h => k b o (fun m => n (s b m)) h
theorem Keep.neu (k : Keep S H H') (h : H' p = none) : Keep S H (upd H' p o) := fun b u n e => by
  have e' := k b u n e
  rw [upd_ne (ne_of_none e' h)]
  exact e'
theorem Keep.put (k : Keep S H H') (h : H p = none) : Keep S H (upd H' p o) := fun b u n e => by
  rw [upd_ne (ne_of_none e h)]
  exact k b u n e
theorem Keep.hid (k : Keep S H H') : Same (hid S H) (hid S H') := fun b u e => by
  obtain ⟨n, e'⟩ := hid_some e
  rw [hid_out n]
  exact k b u n e'
theorem hid_up : Same (hid S H) H := fun b u e => (hid_some e).2
theorem hid_less (s : ∀ b ∈ S, b ∈ S') : Same (hid S' H) (hid S H) := fun b u e => by
  obtain ⟨n, e'⟩ := hid_some e
  rw [hid_out fun m => n (s b m)]
  exact e'
theorem hid_nil : hid [] H = H := by
  funext b
  exact hid_out (by simp)
theorem hid_upd (h : p ∈ S) : hid S (upd H p o) = hid S H := by
  funext b
  by_cases m : b ∈ S
  · rw [hid_in m, hid_in m]
  · rw [hid_out m, hid_out m, upd_ne fun e => m (by rw [e]; exact h)]
theorem Same.tupS {xs : List V} (s : Same H H') (h : SqT K H p xs) : SqT K H' p xs := by
  rcases h with (h | ⟨o, h⟩) | h
  · exact .inl (.inl (s _ _ h))
  · exact .inl (.inr ⟨o, s _ _ h⟩)
  · exact .inr h
mutual
theorem dd_same (s : Same H H') : ∀ {v : V} {d : PyData}, Dd K H v d → Dd K H' v d
  | _, _, .non => .non
  | _, _, .bl b => .bl b
  | _, _, .num i => .num i
  | _, _, .str x => .str x
  | _, _, .lst e h => .lst (s.seq e) (dd_sameAll s h)
  | _, _, .tup e h => .tup (Same.tupS s e) (dd_sameAll s h)
  | _, _, .dic e h => .dic (s _ _ e) (dd_sameKv s h)
theorem dd_sameAll (s : Same H H') : ∀ {vs : List V} {ds : List PyData}, DdAll K H vs ds → DdAll K H' vs ds
  | _, _, .nil => .nil
  | _, _, .cons h t => .cons (dd_same s h) (dd_sameAll s t)
theorem dd_sameKv (s : Same H H') : ∀ {kvs : List (Key × V)} {ds : List (PyData × PyData)}, DdKv K H kvs ds → DdKv K H' kvs ds
  | _, _, .nil => .nil
  | _, _, .cons h t => .cons (dd_same s h) (dd_sameKv s t)
end
theorem DdAll.append {xs ys : List V} {ds es : List PyData} (h : DdAll K H xs ds) (k : DdAll K H ys es) : DdAll K H (xs ++ ys) (ds ++ es) := by
  match xs, ds, h with
  | [], [], .nil => exact k
  | _ :: _, _ :: _, .cons a t => exact .cons a (DdAll.append t k)
theorem DdAll.len : ∀ {xs : List V} {ds : List PyData}, DdAll K H xs ds → xs.length = ds.length
  | _, _, .nil => rfl
  | _, _, .cons _ t => congrArg Nat.succ (DdAll.len t)
theorem DdAll.at : ∀ {xs : List V} {ds : List PyData} {i : Nat} {x : V}, DdAll K H xs ds → xs[i]? = some x → ∃ d, ds[i]? = some d ∧ Dd K H x d
  | _, _, i, _, .nil, e => by simp at e
  | _, _, 0, x, .cons (d := d) h _, e => by
    have e' := Option.some.inj e
    rw [← e']
    exact ⟨d, rfl, h⟩
  | _, _, i + 1, x, .cons _ t, e => DdAll.at (i := i) t (by simpa using e)
end
/-! ### a tuple for each list, all the way in -/
mutual
def fixD : PyData → PyData
  | .list xs => .tuple (fixAll xs)
  | .tuple xs => .tuple (fixAll xs)
  | d => d
def fixAll : List PyData → List PyData
  | [] => []
  | x :: r => fixD x :: fixAll r
end
theorem fixAll_map : ∀ xs : List PyData, fixAll xs = xs.map fixD
  | [] => by simp [fixAll]
  | x :: r => by simp [fixAll, fixAll_map r]
mutual
theorem fix_fix : ∀ d : PyData, fixD (fixD d) = fixD d
  | .list xs => by simp only [fixD]; rw [fix_fixAll xs]
  | .tuple xs => by simp only [fixD]; rw [fix_fixAll xs]
  | .none => by simp only [fixD]
  | .bool _ => by simp only [fixD]
  | .int _ => by simp only [fixD]
  | .str _ => by simp only [fixD]
  | .dict _ => by simp only [fixD]
theorem fix_fixAll : ∀ xs : List PyData, fixAll (fixAll xs) = fixAll xs
  | [] => by simp only [fixAll]
  | x :: r => by simp only [fixAll]; rw [fix_fix x, fix_fixAll r]
end
/-! ### how long it is shown -/
mutual
def cost : PyData → Nat
  | .list xs => 3 + costAll xs
  | .tuple xs => 3 + costAll xs
  | d => d.shown.length
def costAll : List PyData → Nat
  | [] => 0
  | x :: r => cost x + 2 + costAll r
end
mutual
theorem cost_fix : ∀ d : PyData, cost (fixD d) = cost d
  | .list xs => by simp only [fixD, cost]; rw [cost_fixAll xs]
  | .tuple xs => by simp only [fixD, cost]; rw [cost_fixAll xs]
  | .none => by simp only [fixD]
  | .bool _ => by simp only [fixD]
  | .int _ => by simp only [fixD]
  | .str _ => by simp only [fixD]
  | .dict _ => by simp only [fixD]
theorem cost_fixAll : ∀ xs : List PyData, costAll (fixAll xs) = costAll xs
  | [] => by simp only [fixAll]
  | x :: r => by simp only [fixAll, costAll]; rw [cost_fix x, cost_fixAll r]
end
mutual
theorem shown_cost : ∀ d : PyData, d.shown.length ≤ cost d
  | .list xs => by
    simp only [PyData.shown, cost]
    have h1 := listText_len_le (PyData.shownAll xs)
    have h2 := shown_costAll xs
    rw [PyData.shownAll_length] at h1
    omega
  | .tuple xs => by
    simp only [PyData.shown, cost]
    have h1 := tupleText_len_le (PyData.shownAll xs)
    have h2 := shown_costAll xs
    rw [PyData.shownAll_length] at h1
    omega
  | .none => by simp only [cost]; exact Nat.le_refl _
  | .bool _ => by simp only [cost]; exact Nat.le_refl _
  | .int _ => by simp only [cost]; exact Nat.le_refl _
  | .str _ => by simp only [cost]; exact Nat.le_refl _
  | .dict _ => by simp only [cost]; exact Nat.le_refl _
theorem shown_costAll : ∀ xs : List PyData, ((PyData.shownAll xs).map (·.length)).sum + 2 * xs.length ≤ costAll xs
  | [] => by simp [PyData.shownAll, costAll]
  | x :: r => by
    have h1 := shown_cost x
    have h2 := shown_costAll r
    simp only [PyData.shownAll, costAll, List.map_cons, List.sum_cons, List.length_cons]
    omega
end
mutual
theorem fix_showable : ∀ d : PyData, (fixD d).showable = d.showable
  | .list xs => by simp only [fixD, PyData.showable]; rw [fix_showableAll xs]
  | .tuple xs => by simp only [fixD, PyData.showable]; rw [fix_showableAll xs]
  | .none => by simp only [fixD]
  | .bool _ => by simp only [fixD]
  | .int _ => by simp only [fixD]
  | .str _ => by simp only [fixD]
  | .dict _ => by simp only [fixD]
theorem fix_showableAll : ∀ xs : List PyData, PyData.showableAll (fixAll xs) = PyData.showableAll xs
  | [] => by simp only [fixAll]
  | x :: r => by simp only [fixAll, PyData.showableAll]; rw [fix_showable x, fix_showableAll r]
end
mutual
theorem fix_depth : ∀ d : PyData, (fixD d).depth = d.depth
  | .list xs => by simp only [fixD, PyData.depth]; rw [fix_depthAll xs]
  | .tuple xs => by simp only [fixD, PyData.depth]; rw [fix_depthAll xs]
  | .none => by simp only [fixD]
  | .bool _ => by simp only [fixD]
  | .int _ => by simp only [fixD]
  | .str _ => by simp only [fixD]
  | .dict _ => by simp only [fixD]
theorem fix_depthAll : ∀ xs : List PyData, PyData.depthAll (fixAll xs) = PyData.depthAll xs
  | [] => by simp only [fixAll]
  | x :: r => by simp only [fixAll, PyData.depthAll]; rw [fix_depth x, fix_depthAll r]
end
/-- fit to be shown: not deep, not long -/
structure Fit (n c : Nat) (d : PyData) : Prop where
  sh : d.showable = true
  dp : d.depth ≤ n
  co : cost d ≤ c
theorem Fit.fix {n c : Nat} {d : PyData} (f : Fit n c d) : Fit n c (fixD d) := ⟨by rw [fix_showable]; exact f.sh, by rw [fix_depth]; exact f.dp, by rw [cost_fix]; exact f.co⟩
theorem Fit.le {n c m e : Nat} {d : PyData} (f : Fit n c d) (h : n ≤ m) (k : c ≤ e) : Fit m e d := ⟨f.sh, Nat.le_trans f.dp h, Nat.le_trans f.co k⟩
inductive FitAll (n : Nat) : Nat → List PyData → Prop
  | nil : FitAll n 0 []
  | cons {c e : Nat} {d : PyData} {ds : List PyData} (h : Fit n c d) (t : FitAll n e ds) : FitAll n (c + 2 + e) (d :: ds)
theorem FitAll.facts {n c : Nat} {ds : List PyData} (h : FitAll n c ds) : PyData.showableAll ds = true ∧ PyData.depthAll ds ≤ n ∧ costAll ds ≤ c := by
  induction h with
  | nil => exact ⟨by simp only [PyData.showableAll], by simp only [PyData.depthAll]; exact Nat.zero_le _, by simp only [costAll]; exact Nat.le_refl _⟩
  | cons h t ih =>
    obtain ⟨a, b, e⟩ := ih
    refine ⟨by simp only [PyData.showableAll, h.sh, a]; rfl, ?_, ?_⟩
    · simp only [PyData.depthAll]
      exact Nat.max_le.mpr ⟨h.dp, b⟩
    · simp only [costAll]
      have := h.co
      omega
theorem FitAll.list {n c : Nat} {ds : List PyData} (h : FitAll n c ds) : Fit (n + 1) (3 + c) (.list ds) := by
  obtain ⟨a, b, e⟩ := h.facts
  exact ⟨by simp only [PyData.showable]; exact a, by simp only [PyData.depth]; omega, by simp only [cost]; omega⟩
theorem FitAll.tuple {n c : Nat} {ds : List PyData} (h : FitAll n c ds) : Fit (n + 1) (3 + c) (.tuple ds) := by
  obtain ⟨a, b, e⟩ := h.facts
  exact ⟨by simp only [PyData.showable]; exact a, by simp only [PyData.depth]; omega, by simp only [cost]; omega⟩
theorem costAll_len : ∀ xs : List PyData, 2 * xs.length ≤ costAll xs
  | [] => by simp [costAll]
  | x :: r => by
    have := costAll_len r
    simp only [costAll, List.length_cons]
    omega
theorem costAll_mem : ∀ {xs : List PyData} {d : PyData}, d ∈ xs → cost d ≤ costAll xs
  | [], d, m => by cases m
  | x :: r, d, m => by
    simp only [costAll]
    rcases List.mem_cons.mp m with e | m
    · rw [e]
      omega
    · have := costAll_mem m
      omega
theorem depthAll_mem : ∀ {xs : List PyData} {d : PyData}, d ∈ xs → d.depth ≤ PyData.depthAll xs
  | [], d, m => by cases m
  | x :: r, d, m => by
    simp only [PyData.depthAll]
    rcases List.mem_cons.mp m with e | m
    · rw [e]
      exact Nat.le_max_left _ _
    · exact Nat.le_trans (depthAll_mem m) (Nat.le_max_right _ _)
theorem showableAll_mem : ∀ {xs : List PyData} {d : PyData}, PyData.showableAll xs = true → d ∈ xs → d.showable = true
  | [], d, _, m => by cases m
  | x :: r, d, h, m => by
    simp only [PyData.showableAll, Bool.and_eq_true] at h
    rcases List.mem_cons.mp m with e | m
    · rw [e]
      exact h.1
    · exact showableAll_mem h.2 m
/-- a list's or a tuple's item -/
theorem Fit.item {n c : Nat} {xs : List PyData} {d : PyData} (f : Fit (n + 1) c (.list xs) ∨ Fit (n + 1) c (.tuple xs)) (m : d ∈ xs) : Fit n c d := by
  rcases f with f | f
  · obtain ⟨a, b, e⟩ := f
    simp only [PyData.showable, PyData.depth, cost] at a b e
    have h1 := depthAll_mem m
    have h2 := costAll_mem m
    exact ⟨showableAll_mem a m, by omega, by omega⟩
  · obtain ⟨a, b, e⟩ := f
    simp only [PyData.showable, PyData.depth, cost] at a b e
    have h1 := depthAll_mem m
    have h2 := costAll_mem m
    exact ⟨showableAll_mem a m, by omega, by omega⟩
/-! ### repr of any data -/
/-- repr of a value that is data: its text -/
def rReprA (K : PySem.W.Frag) : List V → Hp → VK → Prop := fun xs H Q => ∃ (v : V) (d : PyData), xs = [v] ∧ Dd K H v d ∧ Fit 64 15000000 d ∧ Q (.str d.shown) H
section
variable {X : Cx}
theorem call_reprA {k : Nat} (hr : Room k X.A) (g : X.A.guards = some []) (M : HasMods X.base) : CallR X (.builtin "repr") (rReprA X.K) := by
  intro pins s σ H xs us Q I r h
  obtain ⟨v, d, rfl, dd, ⟨hs, hdp, hco⟩, q⟩ := h
  have hsz : d.shown.length ≤ sizeLine := Nat.le_trans (shown_cost d) (Nat.le_trans hco (by decide))
  cases dd with
  | non =>
    obtain ⟨u, rfl, r1⟩ := vals1 r
    cases (show u = Value.none from r1)
    exact PySem.P.repr_of_none ⟨.str _, H, I.tok _, ⟨_, rfl⟩, by rw [PyData.shown_none] at q; exact q⟩
  | bl b =>
    obtain ⟨u, rfl, r1⟩ := vals1 r
    cases (show u = Value.bool b from r1)
    refine PySem.P.repr_of_bool ⟨.str _, H, I.tok _, ⟨_, rfl⟩, ?_⟩
    rw [PyData.shown_bool] at q
    cases b <;> exact q
  | num i =>
    obtain ⟨u, rfl, t, rfl⟩ := vals1 r
    refine PySem.P.repr_of_int (by simpa [PyData.showable] using hs) ⟨.str _, H, I.tok _, ⟨_, rfl⟩, ?_⟩
    rw [PyData.shown_int] at q
    exact q
  | str x =>
    obtain ⟨u, rfl, t, rfl⟩ := vals1 r
    rw [PyData.shown_str] at hsz q
    exact PySem.P.repr_of_str ⟨.str _, H, I.tok _, ⟨_, rfl⟩, q⟩ hsz
  | lst e h => exact call_reprD hr g M pins s σ H _ us Q I r ⟨_, _, rfl, .lst e h, hs, hdp, hsz, q⟩
  | tup e h => exact call_reprD hr g M pins s σ H _ us Q I r ⟨_, _, rfl, .tup e h, hs, hdp, hsz, q⟩
  | dic e h => exact call_reprD hr g M pins s σ H _ us Q I r ⟨_, _, rfl, .dic e h, hs, hdp, hsz, q⟩
end
theorem r_reprA {K : PySem.W.Frag} {H : Hp} {Q : VK} {v : V} {d : PyData} (e : Dd K H v d) (f : Fit 64 15000000 d) (h : Q (.str d.shown) H) : rReprA K [v] H Q := ⟨v, d, rfl, e, f, h⟩
/-- what isinstance tells of data -/
def seqD : PyData → Bool
  | .list _ => true
  | .tuple _ => true
  | _ => false
theorem dd_seq {K : PySem.W.Frag} {H : Hp} {v : V} {d : PyData} (h : Dd K H v d) : ∃ t : Value, TyX K H v t ∧ PySem.W.kitAny K t [.type "list", .type "tuple"] = some (seqD d) := by
  cases h with
  | non => exact ⟨_, .base .non, kit2 (x := false) (y := false) (by decide +kernel) (by decide +kernel)⟩
  | bl b => exact ⟨_, .base (.bl b), kit2 (x := false) (y := false) (by decide +kernel) (by decide +kernel)⟩
  | num i => exact ⟨_, .base (.int i), kit2 (x := false) (y := false) (by decide +kernel) (by decide +kernel)⟩
  | str x => exact ⟨_, .base (.str x), kit2 (x := false) (y := false) (by decide +kernel) (by decide +kernel)⟩
  | lst e _ =>
    have k := kit2 (K := K) (t := "list") (a := "list") (b := "tuple") (x := true) (y := false) (by decide +kernel) (by decide +kernel)
    rcases e with (e | ⟨o, e⟩) | ⟨o, _, _, e, c, _⟩
    · exact ⟨_, .base (.lst e), k⟩
    · exact ⟨_, .base (.frz e), k⟩
    · exact ⟨_, .kList e c, k⟩
  | tup e _ =>
    have k := kit2 (K := K) (t := "tuple") (a := "list") (b := "tuple") (x := false) (y := true) (by decide +kernel) (by decide +kernel)
    rcases e with (e | ⟨o, e⟩) | ⟨o, _, _, e, c, _⟩
    · exact ⟨_, .base (.tup e), k⟩
    · exact ⟨_, .fTuple e, k⟩
    · exact ⟨_, .kTuple e c, k⟩
  | dic e _ => exact ⟨_, .base (.dK e), kit2 (x := false) (y := false) (by decide +kernel) (by decide +kernel)⟩
def isLst : PyData → Bool
  | .list _ => true
  | _ => false
def isTup : PyData → Bool
  | .tuple _ => true
  | _ => false
theorem dd_list {K : PySem.W.Frag} {H : Hp} {v : V} {d : PyData} (h : Dd K H v d) : ∃ t : Value, TyX K H v t ∧ PySem.W.kitOne K t (.type "list") = some (isLst d) ∧ PySem.W.kitOne K t (.type "tuple") = some (isTup d) := by
  cases h with
  | non => exact ⟨_, .base .non, kit_ty (r := false) (by decide +kernel), kit_ty (r := false) (by decide +kernel)⟩
  | bl b => exact ⟨_, .base (.bl b), kit_ty (r := false) (by decide +kernel), kit_ty (r := false) (by decide +kernel)⟩
  | num i => exact ⟨_, .base (.int i), kit_ty (r := false) (by decide +kernel), kit_ty (r := false) (by decide +kernel)⟩
  | str x => exact ⟨_, .base (.str x), kit_ty (r := false) (by decide +kernel), kit_ty (r := false) (by decide +kernel)⟩
  | lst e _ =>
    have k1 := kit_ty (K := K) (a := "list") (b := "list") (r := true) (by decide +kernel)
    have k2 := kit_ty (K := K) (a := "list") (b := "tuple") (r := false) (by decide +kernel)
    rcases e with (e | ⟨o, e⟩) | ⟨o, _, _, e, c, _⟩
    · exact ⟨_, .base (.lst e), k1, k2⟩
    · exact ⟨_, .base (.frz e), k1, k2⟩
    · exact ⟨_, .kList e c, k1, k2⟩
  | tup e _ =>
    have k1 := kit_ty (K := K) (a := "tuple") (b := "list") (r := false) (by decide +kernel)
    have k2 := kit_ty (K := K) (a := "tuple") (b := "tuple") (r := true) (by decide +kernel)
    rcases e with (e | ⟨o, e⟩) | ⟨o, _, _, e, c, _⟩
    · exact ⟨_, .base (.tup e), k1, k2⟩
    · exact ⟨_, .fTuple e, k1, k2⟩
    · exact ⟨_, .kTuple e c, k1, k2⟩
  | dic e _ => exact ⟨_, .base (.dK e), kit_ty (r := false) (by decide +kernel), kit_ty (r := false) (by decide +kernel)⟩
end Rp
namespace Rp
open PySem PySem.Spec PyProof.Rows L2
/-- data, with tuples for lists; S: what may change meanwhile -/
def spFix (K : PySem.W.Frag) (n : Nat) : Sp := fun vs H Q _ => ∃ (S : List Addr) (v : V) (d : PyData), vs = [v] ∧ (∀ b ∈ S, H b ≠ none) ∧ Dd K (hid S H) v d ∧ d.depth < n ∧ cost d ≤ 15000000 ∧
  ∀ (H' : Hp) (v' : V), Same H H' → Dd K (hid S H') v' (fixD d) → Q v' H'
section
variable {S : List Addr} {H H1 G : Hp} {D p b : Addr} {o : HO}
theorem Keep.own : Keep [D] H (upd H D o) := fun b u n e => by
  rw [upd_ne fun z => n (by simp [z])]
  exact e
theorem Keep.own2 (k : Keep [D] H G) : Keep [D] H (upd G D o) := fun b u n e => by
  rw [upd_ne fun z => n (by simp [z])]
  exact k b u n e
theorem hid_new (hD : H1 D = none) (k : Keep [D] H1 G) : Same (hid S H1) (hid (D :: S) G) := fun b u e => by
  obtain ⟨n, e'⟩ := hid_some e
  have nb : b ≠ D := ne_of_none e' hD
  rw [hid_out (by simp [nb, n])]
  exact k b u (by simp [nb]) e'
theorem live_new {o : HO} (hS : ∀ b ∈ S, H1 b ≠ none) (hD : H1 D = none) (k : Keep [D] H1 G) (e : G D = some o) : ∀ b ∈ D :: S, G b ≠ none := fun b m => by
  rcases List.mem_cons.mp m with z | m
  · rw [z, e]
    exact fun q => nomatch q
  · intro q
    cases z : H1 b with
    | none => exact hS b m z
    | some u =>
      have nb : b ≠ D := ne_of_none z hD
      rw [k b u (by simp [nb]) z] at q
      cases q
theorem live_same (hS : ∀ b ∈ S, H b ≠ none) (s : Same H G) : ∀ b ∈ S, G b ≠ none := fun b m q => by
  cases z : H b with
  | none => exact hS b m z
  | some u =>
    rw [s b u z] at q
    cases q
theorem live_not (hS : ∀ b ∈ S, H b ≠ none) (h : H p = none) : p ∉ S := fun m => hS p m h
theorem fixAll_take {ds : List PyData} {i : Nat} {d : PyData} (h : ds[i]? = some d) : fixAll (ds.take (i + 1)) = fixAll (ds.take i) ++ [fixD d] := by
  rw [fixAll_map, fixAll_map, List.take_succ, h, Option.toList_some, List.map_append]
  rfl
theorem len_cost {ds : List PyData} {c : Nat} (h : costAll ds ≤ c) (hc : c ≤ 15000000) : ds.length < sizeLine := by
  have := costAll_len ds
  exact Nat.lt_of_lt_of_le (m := 8000000) (by omega) (len_ok rfl)
end
end Rp
namespace Rp
open PySem PySem.Spec PyProof.Rows L2
section
variable {K : PySem.W.Frag} {S : List Addr} {H H1 G : Hp} {q p b l : Addr} {o u : HO} {v : V} {d : PyData} {n c : Nat}
theorem notin (hS : ∀ b ∈ S, H b ≠ none) (B : But q H G) (np : p ≠ q) (hp : G p = none) : p ∉ S := fun m => by
  cases z : H p with
  | none => exact hS p m z
  | some o =>
    rw [B p o np z] at hp
    cases hp
theorem dd_but (hq : q ∈ S) (B : But q H G) (h : Dd K (hid S H) v d) : Dd K (hid S G) v d := dd_same ((Keep.but B).sub fun b m => by rw [List.mem_singleton.mp m]; exact hq).hid h
theorem live_but {c0 : Addr} {nums : List Int} {lap : Nat} (hS : ∀ b ∈ S, H b ≠ none) (B : But q H G) (D : Dr q c0 nums lap G) : ∀ b ∈ S, G b ≠ none := fun b m z => by
  by_cases e : b = q
  · obtain ⟨_, ⟨_, h⟩, _⟩ := D
    rw [e, h] at z
    cases z
  · cases y : H b with
    | none => exact hS b m y
    | some o =>
      rw [B b o e y] at z
      cases z
theorem at_put (hG : upd H p o = G) (n : l ≠ p) : G l = H l := by rw [← hG, upd_ne n]
/-- data in a row, fit to be shown -/
def FitA (n c : Nat) (ds : List PyData) : Prop := PyData.showableAll ds = true ∧ PyData.depthAll ds ≤ n ∧ costAll ds ≤ c
theorem FitA.nil : FitA n c [] := ⟨by simp only [PyData.showableAll], by simp only [PyData.depthAll]; exact Nat.zero_le _, by simp only [costAll]; exact Nat.zero_le _⟩
theorem FitA.cons {e : Nat} {ds : List PyData} (h : Fit n c d) (t : FitA n e ds) : FitA n (c + 2 + e) (d :: ds) := by
  obtain ⟨a, b, f⟩ := t
  refine ⟨by simp only [PyData.showableAll, h.sh, a]; rfl, ?_, ?_⟩
  · simp only [PyData.depthAll]
    exact Nat.max_le.mpr ⟨h.dp, b⟩
  · simp only [costAll]
    have := h.co
    omega
theorem FitA.app {e : Nat} : ∀ {ds : List PyData} {m : Nat}, FitA n m ds → Fit n e d → FitA n (m + (e + 2)) (ds ++ [d])
  | [], m, _, f => by
    obtain ⟨a, b, g⟩ := FitA.cons (e := 0) f FitA.nil
    exact ⟨a, b, by show costAll [d] ≤ _; omega⟩
  | x :: r, m, ⟨a, b, g⟩, f => by
    simp only [PyData.showableAll, Bool.and_eq_true] at a
    simp only [PyData.depthAll] at b
    simp only [costAll] at g
    obtain ⟨a', b', g'⟩ := FitA.app (ds := r) (m := m - (cost x + 2)) ⟨a.2, by omega, by omega⟩ f
    refine ⟨?_, ?_, ?_⟩
    · show PyData.showableAll (x :: (r ++ [d])) = true
      simp only [PyData.showableAll, a.1, a']
      rfl
    · show PyData.depthAll (x :: (r ++ [d])) ≤ n
      simp only [PyData.depthAll]
      omega
    · show costAll (x :: (r ++ [d])) ≤ _
      simp only [costAll]
      omega
theorem FitA.le {m e : Nat} {ds : List PyData} (f : FitA n c ds) (h : n ≤ m) (k : c ≤ e) : FitA m e ds := ⟨f.1, Nat.le_trans f.2.1 h, Nat.le_trans f.2.2 k⟩
theorem FitA.list {ds : List PyData} (f : FitA n c ds) : Fit (n + 1) (3 + c) (.list ds) := by
  obtain ⟨a, b, e⟩ := f
  exact ⟨by simp only [PyData.showable]; exact a, by simp only [PyData.depth]; omega, by simp only [cost]; omega⟩
theorem FitA.tuple {ds : List PyData} (f : FitA n c ds) : Fit (n + 1) (3 + c) (.tuple ds) := by
  obtain ⟨a, b, e⟩ := f
  exact ⟨by simp only [PyData.showable]; exact a, by simp only [PyData.depth]; omega, by simp only [cost]; omega⟩
theorem fit_int {i : Int} (h : i.natAbs < 10 ^ 12) : Fit n 13 (.int i) :=
  ⟨by simp only [PyData.showable, decide_eq_true_eq]; exact log_ok (Nat.lt_of_lt_of_le h (by decide)), by simp only [PyData.depth]; exact Nat.zero_le _, by simp only [cost]; exact PyData.shown_int_le h⟩
end
end Rp
namespace Rp
open PySem
theorem leaf_fit {n c : Nat} {d : PyData} (a : d.showable = true) (b : d.depth ≤ n) (e : cost d ≤ c) : Fit n c d := ⟨a, b, e⟩
end Rp
namespace Rp
open PySem PySem.Spec PyProof.Rows L2
section
variable {K : PySem.W.Frag} {H : Hp} {q c p : Addr} {ns : List Int} {lap : Nat} {Q : VK} {xs : List V} {i : Int} {v : V}
theorem live_q (D : Dr q c ns lap H) : ∀ b ∈ [q], H b ≠ none := fun b m z => by
  obtain ⟨_, ⟨_, h⟩, _⟩ := D
  rw [List.mem_singleton.mp m, h] at z
  cases z
theorem r_ixT (hs : SqT K H p xs) (ha : atI xs i = some v) (h : Q v H) : rIxT K (.ref p) (.int i) H Q := ⟨p, xs, i, v, rfl, rfl, hs, ha, h⟩
end
end Rp
namespace Rp
open PySem PySem.Spec PyProof.Rows L2
/-! ### a caught error that outlives its suite -/
/-- the error at a: its class, its own dict -/
def ErO (a : Addr) (cls : Value) (d : Option Addr) : HO := .ext fun h => ∃ (oe : Obj) (vs : Array Value), h.get? a = some oe ∧ Zc cls d oe ∧ oe.data = .fields vs
theorem erO_ok {P : Program} {w : World} {H : Hp} {h : Heap} {a : Addr} {cls : Value} {d : Option Addr} {oe : Obj} {vs : Array Value} (e : h.get? a = some oe) (z : Zc cls d oe) (f : oe.data = .fields vs) : ObjOk P w H h a (ErO a cls d) :=
  ⟨⟨oe, vs, e, z, f⟩, ⟨oe, e⟩, fun _ _ ⟨o, us, e1, z1, f1⟩ st => ⟨o, us, st _ e1, z1, f1⟩⟩
theorem inv_track {X : Cx} {pins : List (Addr × Obj)} {σ : L2.St} {H : Hp} {s : Shared} {a : Addr} {o : HO} (I : Inv X pins σ H s) (n : H a = none) (new : ObjOk X.prog X.w (upd H a o) s.heap a o) (fresh : X.s_0.heap.get? a = none)
    (nL : a ≠ X.env.locals) (nC : ∀ x c, X.env.cells.lookup x = some c → c ≠ a) (np : ∀ p ∈ X.pn ++ pins, p.1 ≠ a) : Inv X pins σ (upd H a o) s := by
  have some_ : ∀ {b u}, H b = some u → b ≠ a := fun e => ne_of_none e n
  have keep_ : ∀ {b u}, H b = some u → upd H a o b = some u := fun e => by rw [upd_ne (some_ e)]; exact e
  refine ⟨I.ok, I.os, I.bare, ⟨I.base.keep, I.base.slot, fun b ob e n0 hx => ?_, I.base.there, fun b xs e => keep_ (I.base.tups b xs e), fun b ob u e => keep_ (I.base.frzs b ob u e), fun b ps e => ?_⟩, I.loc, I.cell, ?_, fun y c e => ?_, fun p hp => ?_, fun b u e => ?_, I.len⟩
  · rw [upd_ne (fun z => by rw [z, fresh] at e; cases e)]
    exact I.base.free b ob e n0 hx
  · obtain ⟨more, z⟩ := I.base.tbls b ps e
    exact ⟨more, keep_ z⟩
  · rw [upd_ne (Ne.symm nL)]
    exact I.free
  · rw [upd_ne (nC y c e)]
    exact I.freeC y c e
  · obtain ⟨h1, h2, h3⟩ := I.pin p hp
    exact ⟨h1, by rw [upd_ne (np p hp)]; exact h2, h3⟩
  · by_cases hb : b = a
    · subst hb
      rw [upd_same] at e
      cases e
      exact new
    · rw [upd_ne hb] at e
      exact (I.hok b u e).stay (fun _ _ _ q => q) (fun _ q => keep_ q) fun _ _ q => keep_ q
/-- what 'except x as n' wishes where the error is held on: as wAs, and behind the suite the error is tracked -/
def wAsT (K : PySem.W.Frag) (c : Value) (i : Nat) (ts : Addr → Value → Option Addr → TS) (Wout : WX) (D : Ends) : WX := fun cls d σ H =>
  ∃ b, PySem.W.exmOne K cls c = some b ∧ (b = true → ∀ a, H a = none → ts a cls d { nx := fun σ' H' => D.nx (σ'.set i none) (upd H' a (ErO a cls d)), rt := D.rt, bk := fun σ' H' => D.bk (σ'.set i none) H', ct := fun σ' H' => D.ct (σ'.set i none) H' } (σ.set i (some (.ref a))) H) ∧
    (b = false → Wout cls d σ H)
/-- a place that nothing of the state before knows -/
structure Unseen (X : Cx) (pins : List (Addr × Obj)) (a : Addr) : Prop where
  old : X.s_0.heap.get? a = none
  loc : a ≠ X.env.locals
  fs : a ∉ X.fs
  cel : ∀ x c, X.env.cells.lookup x = some c → c ≠ a
  pin : ∀ p ∈ X.pn ++ pins, p.1 ≠ a
/-- an error in flight stands where nothing stood -/
theorem unseen {X : Cx} {pins : List (Addr × Obj)} {σ : L2.St} {H : Hp} {s : Shared} {B h : Heap} {a : Addr} {o : Obj} {vs : Array Value} (I : Inv X pins σ H s) (st : X.stack = X.env :: X.outer) (fr : X.env.frame = some X.env.locals) (ex : X.ex = [])
    (sub : ∀ b u, s.heap.get? b = some u → b ∉ frs X.stack → B.get? b = some u) (new : B.get? a = none) (ff : h.FunFrames B (X.env :: X.outer)) (at_ : h.get? a = some o) (dt : o.data = .fields vs) : Unseen X pins a := by
  have off : a ∉ frs (X.env :: X.outer) := by
    intro m
    obtain ⟨_, u, eu, no⟩ := ff.mem m
    cases at_.symm.trans eu
    exact no vs dt
  have none_ : ∀ u, s.heap.get? a = some u → False := by
    intro u e
    have z := sub a u e (st ▸ off)
    cases new.symm.trans z
  constructor
  · cases e : X.s_0.heap.get? a with
    | none => rfl
    | some u =>
      obtain ⟨u', e'⟩ := I.base.there a u e (by rw [ex]; simp)
      exact (none_ u' e').elim
  · rintro rfl
    exact off (List.mem_filterMap.mpr ⟨X.env, .head _, fr⟩)
  · intro m
    obtain ⟨e, me, q⟩ := List.mem_filterMap.mp m
    exact off (List.mem_filterMap.mpr ⟨e, .tail _ me, q⟩)
  · rintro y c e rfl
    obtain ⟨_, u, eu, _⟩ := I.cell y c e
    exact none_ u eu
  · rintro p m rfl
    exact none_ _ (I.pin p m).1
section
variable {X : Cx} {x n : Str} {c : Value} {i : Nat} {body suite : List Stmt} {b₀ : Stmt} {np pos pos' : Pos} {tb : WX → TS} {ts : Addr → Value → Option Addr → TS} {Wout : WX}
/-- the clause's name goes, and the error is tracked from then on -/
theorem hold_on {pins : List (Addr × Obj)} {σ : L2.St} {H : Hp} {s : Shared} {a : Addr} {oe : Obj} {vs : Array Value} {cls : Value} {d : Option Addr} {Q : Unit → Shared → Prop} {Z : Value → Shared → Prop} (ok : X.Ok) (u : Unseen X pins a) (nd : X.N.Nodup) (at_ : X.N[i]? = some n) (lc : X.env.kindOf n = some .local)
    (z : Zc cls d oe) (dt : oe.data = .fields vs) (S : Inv (X.suite a ((a, oe) :: (X.pn ++ pins))) [] σ H s) (k : ∀ t, Inv X pins (σ.set i none) (upd H a (ErO a cls d)) t → Q () t) :
    wpAny (model X.prog X.w) X.A (do bindName X.env n .none; unbindBehindTheSuite X.env n pos) Q Z s := by
  apply gone_ok (X := X.suite a ((a, oe) :: (X.pn ++ pins))) S nd at_ lc
  intro t S'
  have pa := S'.pin (a, oe) (List.mem_append_left _ (.head _))
  exact k t (inv_track (S'.unsuite ok) pa.2.1 (erO_ok pa.1 z dt) u.old u.loc u.cel u.pin)
theorem ps_tryT (st : X.stack = X.env :: X.outer) (fr : X.env.frame = some X.env.locals) (ex : X.ex = []) (nd : X.N.Nodup) (at_ : X.N[i]? = some n) (lc : X.env.kindOf n = some .local) (nm : Names X x c) (tk : Takes X Wout)
    (B : ∀ (W : WX) (pn : List (Addr × Obj)) (xe : Value → Shared → Prop), Takes (X.tr pn xe) W → PassesOwn (model X.prog X.w) X.A X.env xe → PSs (X.tr pn xe) body (tb W))
    (S : ∀ (a : Addr) (oe : Obj) (cls : Value) (d : Option Addr) (pn : List (Addr × Obj)), Zc cls d oe → (∃ vs, oe.data = .fields vs) → PSs (X.suite a ((a, oe) :: pn)) (b₀ :: suite) (ts a cls d)) :
    PS X (.Try body [.ExceptHandler (some (.Name x np)) (some n) (b₀ :: suite) pos'] [] [] pos) (fun D σ H => tb (wAsT X.K c i ts Wout D) D σ H) := by
  constructor
  intro pins s σ H D I q
  have ok := I.ok
  have top : X.A.frames = some (X.env :: X.outer) := ok.frames.trans (congrArg some st)
  have own := B (wAsT X.K c i ts Wout D) (X.pn ++ pins) (fun e s1 => wpAny (model X.prog X.w) X.A (noteFrame e X.env) (fun _ s2 => wpAny (model X.prog X.w) X.A (setFlight e none) (fun _ s3 =>
    wpAny (model X.prog X.w) X.A (handleBy e X.env [.ExceptHandler (some (.Name x np)) (some n) (b₀ :: suite) pos']) (SP X pins D) X.xe s3) X.xe s2) X.xe s1) ?_ PassesOwn.looking
  · apply wpAny_Try_except
    apply wpAny_mono (own.run [] s σ H D (I.toTry _) q)
    · intro fl t z
      rcases fl with _ | _ | _ | v
      · obtain ⟨σ', G, J, r⟩ := z
        exact wpAny_execs_nil ⟨σ', G, J.ofTry ok, r⟩
      · obtain ⟨σ', G, J, r⟩ := z
        exact ⟨σ', G, J.ofTry ok, r⟩
      · obtain ⟨σ', G, J, r⟩ := z
        exact ⟨σ', G, J.ofTry ok, r⟩
      · obtain ⟨v', σ', G, J, r⟩ := z
        exact ⟨v', σ', G, J.ofTry ok, r⟩
    · intro e t z
      exact z
  -- an error comes out of the body
  rintro u t ⟨a, B0, sI, pI, σI, G, cls, d, rfl, JI, sub, up, sky, nG, os, bare, b, eb, yes, no⟩
  have J := JI.ofTry (pins := pins) ok
  rw [st] at sky
  show wpAny (model X.prog X.w) X.A (noteFrame (.ref a) X.env) _ _ _
  apply Sky.land Zc.steady top fr sky
  intro h1 fly1 up1
  obtain ⟨o1, v1, e1, z1, d1⟩ := fly1.there
  have un := unseen J st fr ex sub fly1.2.1 fly1.2.2.1 e1 d1
  have J1 : Inv X pins σI G { t with heap := h1 } := J.landed sub fly1.1 (up.trans up1) os bare
  have T1 := J1.suite e1 d1 nG un.loc un.fs
  refine wpAny_handleBy_cons (codeAny_handlers_test ?_) (fun z => nomatch z)
  -- the clause's class
  have ty : PySem.W.Looks (model X.prog X.w) h1 (typeOf (.ref a)) cls := fun _ _ _ _ k z => wpAny_typeOf_ref (k _ _ e1) (z1.1.symm ▸ z)
  have is_ := PySem.W.exm_one (M := model X.prog X.w) J1.kIn ty eb
  have named : ∀ {Q E : Value → Shared → Prop}, Q c { t with heap := h1 } → wpAny (model X.prog X.w) (X.A.mark (some (.ref a))) (eval (.Name x np) X.env) Q E { t with heap := h1 } := by
    intro Q E z
    rcases nm with ⟨g, db, m | ⟨m, v, nn⟩⟩
    · exact ld_glob (X := X.suite a ((a, o1) :: (X.pn ++ pins))) T1 g m z db
    · exact ld_blt (X := X.suite a ((a, o1) :: (X.pn ++ pins))) T1 g m v z nn db
  refine named (is_.here ?_)
  cases b with
  | false =>
    show wpAny _ X.A (handleBy (.ref a) X.env []) _ _ _
    apply wpAny_handleBy_nil
    obtain ⟨_, _, _, o2, v2, T, _, _, e2, _, d2, w2, _⟩ := id fly1
    have away : wpAny (model X.prog X.w) X.A (setFlight (.ref a) X.env.frame) (fun _ s4 => wpAny (model X.prog X.w) X.A (throw (.ref a) : Sem Flow) (SP X pins D) X.xe s4) X.xe { t with heap := h1 } := by
      rw [fr]
      apply HandSPX.setFlight_upZ fly1
      intro h2 sky2 up2
      apply wpAny_throw
      apply tk
      exact ⟨a, B0, sI, pins, σI, G, cls, d, rfl, J, sub, (up.trans up1).trans up2, .inr (.inr (st.symm ▸ sky2)), nG, os, bare, no rfl⟩
    unfold PySem.passOn
    apply wpAny_bind
    apply wpAny_field e2 d2 w2
    have ne : ¬ ((Value.ref T == Value.none) = true) := by simp
    rw [if_neg ne]
    first
      | exact wpAny_bind (wpAny_pure (wpAny_bind away))
      | exact wpAny_bind away
  | true =>
    apply codeAny_handlers_suite_as
    apply HandSPX.lands_againZ fly1
    intro h2 fly2 up2
    obtain ⟨o2, v2, e2, z2, d2⟩ := fly2.there
    have J2 : Inv X pins σI G { t with heap := h2 } := J.landed sub fly2.1 ((up.trans up1).trans up2) os bare
    have T2 := J2.suite e2 d2 nG un.loc un.fs
    refine store_ok (X := X.suite a ((a, o2) :: (X.pn ++ pins))) (v := .ref a) T2 nd at_ (.inl lc) rfl (fun t5 T5 => ?_) (.inr lc)
    apply wpAny_mono ((S a o2 cls d (X.pn ++ pins) z2 ⟨_, d2⟩).run [] t5 _ G _ T5 (yes rfl a nG))
    · intro fl t6 z
      rcases fl with _ | _ | _ | v
      · obtain ⟨σ6, G6, T6, r⟩ := z
        exact hold_on ok un nd at_ lc z2 d2 T6 fun t7 J7 => ⟨_, _, J7, r⟩
      · obtain ⟨σ6, G6, T6, r⟩ := z
        exact gone_ok (T6.unsuite ok) nd at_ lc fun t7 J7 => ⟨_, _, J7, r⟩
      · obtain ⟨σ6, G6, T6, r⟩ := z
        exact gone_ok (T6.unsuite ok) nd at_ lc fun t7 J7 => ⟨_, _, J7, r⟩
      · obtain ⟨w6, σ6, G6, T6, r6, r⟩ := z
        exact gone_ok (T6.unsuite ok) nd at_ lc fun t7 J7 => ⟨_, _, _, J7, r6, r⟩
    · intro e t6 z
      exact z.elim
end
/-! ### what is asked of a tracked error -/
/-- isinstance(e, c), e a tracked error -/
def rIsT (K : PySem.W.Frag) : List V → Hp → VK → Prop := fun xs H Q => ∃ (a D dx : Addr) (fs : List (Str × V)) (c : V) (cv : Value) (b : Bool), xs = [.ref a, c] ∧ ExcC K D ∧ H a = some (ErO a (.ref D) (some dx)) ∧ H dx = some (.xd fs) ∧
  (∀ u, RelV c u → u = cv) ∧ PySem.W.kitOne K (.ref D) cv = some b ∧ Q (.bl b) H
theorem erO_at {X : Cx} {pins : List (Addr × Obj)} {σ : L2.St} {H : Hp} {s : Shared} {a D dx : Addr} {fs : List (Str × V)} (I : Inv X pins σ H s) (h : H a = some (ErO a (.ref D) (some dx))) (hx : H dx = some (.xd fs)) :
    ∃ oe od, PySem.W.InstAt s.heap a oe D (some od) ∧ s.heap.get? dx = some od := by
  obtain ⟨⟨oe, vs, e, z, f⟩, _, _⟩ := I.hok a _ h
  obtain ⟨mA, hns, hr⟩ := I.hok dx _ hx
  obtain ⟨od, ho, _⟩ := lookIn_ns hns
  exact ⟨oe, od, ⟨e, z.1, by unfold PySem.W.notCls; rw [f] <;> rfl, by rw [z.2]; exact ho⟩, ho⟩
theorem call_isT {X : Cx} : CallR X (.builtin "isinstance") (rIsT X.K) := by
  intro pins s σ H xs us Q I r h
  obtain ⟨a, D, dx, fs, c, cv, b, rfl, C, ha, hd, hcv, e, q⟩ := h
  cases r with
  | cons rx rr =>
    cases rr with
    | cons rt rr =>
      cases rr
      cases rx
      have ec := hcv _ rt
      subst ec
      obtain ⟨oe, od, J, _⟩ := erO_at I ha hd
      have hcl : (PySem.W.clsIn X.K D).isSome = true := by
        obtain ⟨cd, hc, _⟩ := PySem.W.any_some C.hd
        rw [hc]
        rfl
      exact PySem.W.kia_one (PySem.W.kitx_exc (od := some od) hcl C.hg C.hk C.hs C.ha C.hn C.ht C.hm) I.kIn J e (fun z => nomatch z) fun tk => ⟨.bl b, H, I.kept (t' := tk) fun _ _ z => z, rfl, q⟩
/-- e.n, e a tracked error -/
def tXt (K : PySem.W.Frag) (f : Str) (te : TE) : TE := fun σ H Q => te σ H fun x H1 => ∃ (a C dd : Addr) (fs : List (Str × V)) (v : V), x = .ref a ∧ XfC K C ∧ PySem.W.findIn K (.ref C) f = some none ∧ H1 a = some (ErO a (.ref C) (some dd)) ∧ H1 dd = some (.xd fs) ∧ fs.lookup f = some v ∧ Q v H1
theorem pe_xt {X : Cx} {e : Expr} {te : TE} {pos : Pos} {n : Str} (he : PE X e te) (hb : attributeBase e n X.env (eval e X.env) = eval e X.env := by rfl) : PE X (.Attribute e n pos) (tXt X.K n te) := by
  refine ⟨fun pins s σ H Q I h => ?_⟩
  refine attr_of hb (thn (he.run pins s σ H _ I h) fun u s1 hh => ?_)
  obtain ⟨x, H1, I1, rx, a, C, dd, fs, v, ex, T, hno, ha, hd, l, q⟩ := hh
  subst ex
  obtain rfl : u = Value.ref a := rx
  obtain ⟨oe, od, J, ho⟩ := erO_at I1 ha hd
  obtain ⟨mA, hns, hr⟩ := I1.hok dd _ hd
  obtain ⟨od', ho', hl⟩ := lookIn_ns hns
  rw [ho] at ho'
  cases ho'
  obtain ⟨w', hu, ru⟩ := RelO.some_of (v := v) (o := mA n) (by rw [← l]; exact hr n)
  exact HandSPX.exc_get I1.kIn J T.ga T.gg T.exC (PySem.W.findObj_own T.hdC hno rfl (by rw [hl, hu])) (handed_of ru) ⟨v, H1, I1.tok _, ru, q⟩
end Rp
namespace Rp
open PySem PySem.Spec PyProof.Rows L2 LamX
/-! ### lambdas with given values, handed to a def -/
/-- where a lambda's given values stand -/
def DvOk (dV : Value) (us : List Value) (H : Hp) (stk : List Env) (h : Heap) : Prop := (us = [] ∧ dV = .none) ∨ (us ≠ [] ∧ ∃ t, dV = .ref t ∧ h.get? t = some (PySem.W.kdv_tup us) ∧ H t = none ∧ t ∉ frs stk)
abbrev lamObj (X : Cx) (params : Arguments) (body : Expr) (scope : Scope) (dV doc pm : Value) (c' : Addr) (ctv : Value) : Obj := PySem.W.kdv_obj "<lambda>" (X.env.qual ++ "<lambda>") params (.expr body) scope (cloFrom X.env.cells scope.names []) dV doc pm c' ctv
section
variable {X : Cx} {pins : List (Addr × Obj)} {σ : L2.St} {H : Hp} {s : Shared}
/-- a place that is not there yet is no frame's -/
theorem unframed (I : Inv X pins σ H s) {f : Addr} (h : s.heap.objs.size ≤ f) : f ∉ frs X.stack := by
  intro m
  cases I.stkSub _ m with
  | head => exact absurd I.lt (Nat.not_lt.mpr h)
  | tail _ z => exact I.nofs h z
theorem lam_tail {T : List (Addr × Str)} {c P : Addr} {params : Arguments} {body : Expr} {scope : Scope} {pos : Pos} {line : Nat} {dV : Value} {us : List Value} {Z : Value → Shared → Prop} {Q : Value → Shared → Prop} (I : Inv X pins σ H s) (TB : TabB X.base X.mg c P) (cd : X.env.code = .ref c)
    (mem : (P, X.env.qual ++ "<lambda>") ∈ T) (one : ∀ p ∈ T, p.1 = P → p.2 = X.env.qual ++ "<lambda>") (tabs : Tabs T H) (cap : ∀ y ∈ scope.names, y.2 = .free → ∃ c, X.env.cells.lookup y.1 = some c) (dv : DvOk dV us H X.stack s.heap)
    (k : ∀ (f c' : Addr) (doc pm ctv : Value) (G : Hp) (t : Shared), Inv X pins σ G t → ExtN H G → Tabs T G → t.heap.get? f = some (lamObj X params body scope dV doc pm c' ctv) → G f = none → f ∉ frs X.stack → DvOk dV us G X.stack t.heap → G c' = some (CodeO c' (X.env.qual ++ "<lambda>")) → Q (.ref f) t) :
    wpAny (model X.prog X.w) X.A (makeTail "<lambda>" (X.env.qual ++ "<lambda>") params (.expr body) scope X.env dV .none none pos line) Q Z s := by
  obtain ⟨ps, isP, trip, told⟩ := tabs _ mem
  have atP : s.heap.get? P = some { cls := .none, data := .fields ps } := I.hok P _ isP
  have clo := closure_ok cap
  have names := I.mod.glob.keeps I.bk
  have code := TB.code.keeps I.bk
  have blt : s.heap.BuiltinsAt X.mg P := TB.bm.keeps I.bk
  rcases found : codeAmong pos ps.toList with _ | cv
  · -- a code object is made, and noted in the table
    apply PySem.W.kdv_makeTail clo I.ok.glob names cd code atP trip found TB.gP blt
    rintro c' ctv doc h tk other fresh lt ⟨c2, oc, vs, t, rfl', hoc, dat, nm⟩ tab
    cases rfl'
    have nc : H c' = none := I.hok.fresh fresh
    have le : s.heap.objs.size ≤ h.objs.size := Nat.le_trans fresh (Nat.le_of_lt lt)
    have cP : P ≠ c' := ne_of_none isP nc
    have J := inv_table (q := X.env.qual ++ "<lambda>") (t' := tk) (h' := h.push (lamObj X params body scope dV doc ((X.mg "__name__").getD .none) c' ctv)) I isP (fun b o n e => Heap.get?_push_of_some _ (other b o n e)) (Heap.get?_push_of_some _ tab) fresh ⟨oc, vs, t, Heap.get?_push_of_some _ hoc, dat, nm⟩
    generalize hG : upd (upd H P _) c' _ = G at J
    have Gc : G c' = some (CodeO c' (X.env.qual ++ "<lambda>")) := by rw [← hG, upd_same]
    have GP : G P = some (.tbl (ps ++ #[rawInt pos.line, rawInt pos.col, .ref c'])) := by rw [← hG, upd_ne cP, upd_same]
    have Go : ∀ b, b ≠ P → b ≠ c' → G b = H b := fun b n1 n2 => by rw [← hG, upd_ne n2, upd_ne n1]
    have grow : ExtN H G := by
      intro b o e n
      rw [Go b (by rintro rfl; exact n ps (Option.some.inj (e.symm.trans isP))) (ne_of_none e nc)]
      exact e
    have snoc : (ps ++ #[rawInt pos.line, rawInt pos.col, Value.ref c']).toList = ps.toList ++ [rawInt pos.line, rawInt pos.col, .ref c'] := by simp
    refine k h.objs.size c' doc _ ctv G _ J grow ?_ (Heap.get?_push_size _ rfl) ?_ (unframed I le) ?_ Gc
    · intro p mp
      by_cases eP : p.1 = P
      · rw [one p mp eP, eP]
        refine ⟨_, GP, snoc ▸ PySem.TriplesOk_snoc _ _ _ _ trip, ?_⟩
        intro at_ cv z
        rw [snoc] at z
        rcases among_app _ trip z with z | rfl
        · obtain ⟨c0, rfl, z0⟩ := told at_ cv z
          exact ⟨c0, rfl, grow _ _ z0 codeO_ne⟩
        · exact ⟨c', rfl, Gc⟩
      · obtain ⟨ps2, t1, t2, t3⟩ := tabs p mp
        refine ⟨ps2, (Go _ eP (ne_of_none t1 nc)).trans t1, t2, ?_⟩
        intro at_ cv z
        obtain ⟨c0, rfl, z0⟩ := t3 at_ cv z
        exact ⟨c0, rfl, grow _ _ z0 codeO_ne⟩
    · rw [Go _ (Nat.ne_of_gt (Nat.lt_of_lt_of_le (Heap.lt_size atP) le)) (Nat.ne_of_gt lt)]
      exact I.hok.fresh le
    · rcases dv with z | ⟨nz, t, rfl, et, nt, ft⟩
      · exact .inl z
      · have tP : t ≠ P := by
          rintro rfl
          cases nt.symm.trans isP
        exact .inr ⟨nz, t, rfl, Heap.get?_push_of_some _ (other _ _ tP et), (Go t tP (Nat.ne_of_lt (Nat.lt_of_lt_of_le (Heap.lt_size et) fresh))).trans nt, ft⟩
  · -- it is there already
    obtain ⟨c', rfl, isC⟩ := told pos cv found
    apply PySem.W.kdv_makeTailHit clo I.ok.glob names cd code atP trip found blt
    intro ctv doc h tk all le
    refine k h.objs.size c' doc _ ctv H _ (I.kept fun b o e => Heap.get?_push_of_some _ (all b o e)) (ExtN.refl H) tabs (Heap.get?_push_size _ rfl) (I.hok.fresh le) (unframed I le) ?_ isC
    exact dv.imp id fun ⟨nz, t, e1, e2, e3⟩ => ⟨nz, t, e1, Heap.get?_push_of_some _ (all _ _ e2), e3⟩
/-- what comes of a lambda's expression -/
def LamMade (X : Cx) (pins : List (Addr × Obj)) (σ : L2.St) (H : Hp) (T : List (Addr × Str)) (params : Arguments) (body : Expr) (scope : Scope) (dvs : List V) (f : Addr) (s' : Shared) : Prop := ∃ (c' : Addr) (dV doc pm ctv : Value) (us : List Value) (H1 : Hp), Inv X pins σ H1 s' ∧ ExtN H H1 ∧ Tabs T H1 ∧
  s'.heap.get? f = some (lamObj X params body scope dV doc pm c' ctv) ∧ H1 f = none ∧ f ∉ frs X.stack ∧ DvOk dV us H1 X.stack s'.heap ∧ Vals dvs us ∧ H1 c' = some (CodeO c' (X.env.qual ++ "<lambda>"))
theorem lam_make0 {T : List (Addr × Str)} {c P : Addr} {params : Arguments} {body : Expr} {scope : Scope} {pos : Pos} {E : Value → Shared → Prop} {Q : Value → Shared → Prop} (I : Inv X pins σ H s) (TB : TabB X.base X.mg c P) (hcode : X.env.code = .ref c)
    (hm : (P, X.env.qual ++ "<lambda>") ∈ T) (hu : ∀ p ∈ T, p.1 = P → p.2 = X.env.qual ++ "<lambda>") (hT : Tabs T H) (hdef : defaultsOf params X.env = ([], [])) (hfree : ∀ y ∈ scope.names, y.2 = .free → ∃ c, X.env.cells.lookup y.1 = some c)
    (h : ∀ (f : Addr) (s' : Shared), LamMade X pins σ H T params body scope [] f s' → Q (.ref f) s') :
    wpAny (model X.prog X.w) X.A (eval (.Lambda params body scope pos) X.env) Q E s := by
  refine PySem.W.kla_eval hdef ?_
  rw [makeFunction_eq]
  simp only [List.zip_nil_right, List.filterMap_nil, List.isEmpty_nil, if_true, pure_bind]
  exact lam_tail I TB hcode hm hu hT hfree (.inl ⟨rfl, rfl⟩) fun f c' doc pm ctv H1 s' I1 e T1 h1 h2 h3 h4 h5 => h f s' ⟨c', _, doc, pm, ctv, [], H1, I1, e, T1, h1, h2, h3, h4, .nil, h5⟩
theorem lam_make1 {T : List (Addr × Str)} {c P : Addr} {params : Arguments} {body : Expr} {scope : Scope} {pos : Pos} {i : Int} {j : Nat} {dp : Pos} {E : Value → Shared → Prop} {Q : Value → Shared → Prop} (I : Inv X pins σ H s) (TB : TabB X.base X.mg c P) (hcode : X.env.code = .ref c)
    (hm : (P, X.env.qual ++ "<lambda>") ∈ T) (hu : ∀ p ∈ T, p.1 = P → p.2 = X.env.qual ++ "<lambda>") (hT : Tabs T H) (hdef : params.defaults = [.Constant (.int i) j dp]) (hkd : params.kw_defaults = []) (hfree : ∀ y ∈ scope.names, y.2 = .free → ∃ c, X.env.cells.lookup y.1 = some c)
    (h : ∀ (f : Addr) (s' : Shared), LamMade X pins σ H T params body scope [.int i] f s' → Q (.ref f) s') :
    wpAny (model X.prog X.w) X.A (eval (.Lambda params body scope pos) X.env) Q E s := by
  refine PySem.W.kdv_lam (by rw [hdef]; rfl) hkd ?_
  rw [hdef]
  refine PySem.W.kdv_all1 (wpAny_Constant_int ?_)
  refine PySem.W.kdv_all0 ?_
  generalize hv : (Value.int i _) = v
  have rv : L2.RelV (.int i) v := by rw [← hv]; exact ⟨_, rfl⟩
  rw [makeFunction_eq]
  simp only [List.zip_nil_right, List.filterMap_nil, List.isEmpty_nil, if_true, pure_bind, List.isEmpty_cons, Bool.false_eq_true, if_false]
  refine wpAny_bind (wpAny_newTextTuple ?_)
  have I1 := (I.tok (s.toks + 1)).kept (t' := s.toks + 1) (h' := s.heap.push (PySem.W.kdv_tup [v])) fun b u e => Heap.get?_push_of_some _ e
  exact lam_tail I1 TB hcode hm hu hT hfree (.inr ⟨by simp, _, rfl, Heap.get?_push_size _ rfl, I.hok.fresh (Nat.le_refl _), unframed I (Nat.le_refl _)⟩) fun f c' doc pm ctv H1 s' I1 e T1 h1 h2 h3 h4 h5 => h f s' ⟨c', _, doc, pm, ctv, [v], H1, I1, e, T1, h1, h2, h3, h4, .cons rv .nil, h5⟩
end
/-- a lambda's names: its parameters (no slot is called so), captured ones and globals -/
structure LamT (N : List Str) (sc scope : Scope) : Prop where
  kind : scope.kind = .function
  co : scope.isCoroutine = false
  gen : scope.isGenerator = false
  each : ∀ y ∈ scope.names, y.2 ≠ .cell ∧ (y.2 = .local → y.1 ∉ N) ∧ (y.2 = .free → sc.names.lookup y.1 = some .cell ∨ sc.names.lookup y.1 = some .free)
def lamTB (N : List Str) (sc scope : Scope) : Bool :=
  (scope.kind == .function) && (!scope.isCoroutine && (!scope.isGenerator && scope.names.all fun y => decide (y.2 ≠ .cell ∧ (y.2 = .local → y.1 ∉ N) ∧ (y.2 = .free → sc.names.lookup y.1 = some .cell ∨ sc.names.lookup y.1 = some .free))))
theorem lamT_by {N : List Str} {sc scope : Scope} (h : lamTB N sc scope = true) : LamT N sc scope := by
  obtain ⟨h1, h⟩ := Bool.and_eq_true_iff.mp h
  obtain ⟨h2, h⟩ := Bool.and_eq_true_iff.mp h
  obtain ⟨h3, h4⟩ := Bool.and_eq_true_iff.mp h
  exact ⟨by simpa using h1, by simpa using h2, by simpa using h3, fun y m => of_decide_eq_true (List.all_eq_true.mp h4 y m)⟩
theorem LamT.has {X : Cx} {scope : Scope} (L : LamT X.N X.env.scope scope) (ok : X.Ok) : ∀ y ∈ scope.names, y.2 = .free → ∃ c, X.env.cells.lookup y.1 = some c :=
  fun y m e => ok.has _ ((L.each y m).2.2 e)
section
variable {X : Cx} {pins : List (Addr × Obj)} {σ : L2.St} {H HZ : Hp} {s s1 : Shared}
/-- what a lambda captures, it captures of its maker's cells -/
theorem clo_of {scope : Scope} (cap : ∀ y ∈ scope.names, y.2 = .free → ∃ c, X.env.cells.lookup y.1 = some c) {y : Str} {c : Addr} (e : (cloFrom X.env.cells scope.names []).lookup y = some c) : X.env.cells.lookup y = some c := by
  rcases cloFrom_mem (PySem.mem_of_lookup e) with m | ⟨m, q⟩
  · cases m
  · obtain ⟨c', e'⟩ := cap _ m rfl
    have e2 : X.env.cells.lookup y = some c' := e'
    rw [e2] at q
    rw [e2, q] <;> rfl
theorem to_clo {scope : Scope} {y : Str} (m : scope.names.lookup y = some .free) : ∃ c, (cloFrom X.env.cells scope.names []).lookup y = some c :=
  mem_lookup (cloFrom_has (cells := X.env.cells) (acc := []) (PySem.mem_of_lookup m))
/-- the state as the lambda's body finds it -/
theorem lam_start3 {A : Around} {outer : List Env} {E : XK} {scope : Scope} {f c' : Addr} {h₁ : Heap} {tk : Nat} {m : Str → Option Value} (I : Inv X pins σ H s) (L : LamT X.N X.env.scope scope) (e0 : Env0 X.prog X.w X.K X.mg X.base A outer s1 HZ) (calm : A.handled = none)
    (un : Un (frs X.stack) [] H HZ s.heap s1.heap) (ns : h₁.Ns s1.heap.objs.size m) (kp : ∀ b o, s1.heap.get? b = some o → h₁.get? b = some o) :
    Inv (lamCx X A outer s1 HZ E scope f c') [] σ HZ { s1 with heap := h₁, toks := tk } := by
  have cap := L.has I.ok
  have cells : ∀ {y c}, (cloFrom X.env.cells scope.names []).lookup y = some c → X.env.cells.lookup y = some c := fun e => clo_of cap e
  have noCell : ∀ {y}, scope.names.lookup y = some .cell → False := fun e => (L.each _ (PySem.mem_of_lookup e)).1 rfl
  have cell_ : ∀ {c : Addr} {v : Option Value}, H c = none → s.heap.IsCell c v → h₁.IsCell c v := by
    rintro c v n ⟨o, e, d⟩
    obtain ⟨sl, e'⟩ := un.any e n (by simp)
    exact ⟨_, kp _ _ e', d⟩
  have nil_ : ∀ b : Addr, b ∉ ([] : List Addr) := by simp
  constructor
  case ok =>
    refine ⟨e0.mod, L.kind, rfl, rfl, Nat.le_refl _, fun y z c a b => I.ok.inj y z c (cells a) (cells b), ?_, ?_, fun _ => calm, Around.frames_deeper e0.frames, .inr ⟨rfl, rfl⟩, fun b z => (nil_ b z).elim, e0.bs, e0.bsz, fun b _ _ => nil_ b, fun b z => (nil_ b z).elim, e0.funs, e0.frf⟩
    · rintro y (z | z)
      · exact (noCell z).elim
      · exact to_clo z
    · intro y c z
      cases (show false = true from z)
  case os => rfl
  case bare => exact e0.bare
  case base => exact Un.kept kp
  case loc =>
    refine ⟨_, ns, ?_⟩
    rintro i y v at_ val (z | z | z)
    · exact ((L.each _ (PySem.mem_of_lookup z)).2.1 rfl (List.mem_of_getElem? at_)).elim
    · exact (noCell z).elim
    · obtain ⟨m', _, look⟩ := I.loc
      have seen := (L.each _ (PySem.mem_of_lookup z)).2.2 rfl
      obtain ⟨u, r, l⟩ := look i y v at_ val (.inr seen)
      obtain ⟨c, ec⟩ := to_clo (X := X) z
      refine ⟨u, r, .inr ⟨.inr z, c, ec, ?_⟩⟩
      rcases l with ⟨l, _⟩ | ⟨_, c2, e2, isc⟩
      · have l' : X.env.scope.names.lookup y = some .local := l
        rcases seen with k | k <;> cases l'.symm.trans k
      · cases (cells ec).symm.trans e2
        exact cell_ (I.freeC y _ e2) isc
  case cell =>
    intro y c e
    obtain ⟨v, z⟩ := I.cell y c (cells e)
    exact ⟨v, cell_ (I.freeC y c (cells e)) z⟩
  case free => exact e0.hok.fresh (Nat.le_refl _)
  case freeC =>
    intro y c e
    obtain ⟨v, o, at_, _⟩ := I.cell y c (cells e)
    exact un.free c o at_ (I.freeC y c (cells e)) (by simp)
  case pin =>
    intro p m
    exact absurd (show p ∈ ([] : List (Addr × Obj)) from m) (by simp)
  case hok => exact e0.hok.kept kp
  case len => exact I.len
/-- the parameters are bound by the given values -/
def LamBinds (params : Arguments) (body : Expr) (scope : Scope) (ps : List Str) (dvs : List V) : Prop := ∀ (q : Str) (cl : List (Str × Addr)) (dV doc pm cv ctv : Value) (us : List Value) (H : Hp) (stk : List Env) (s : Shared), Vals dvs us → DvOk dV us H stk s.heap →
  BindsTo s (PySem.W.kdv_fn "<lambda>" q params (.expr body) scope cl dV doc pm cv ctv) ⟨[], []⟩ (ps.zip us)
/-- the lambda called, from where its taker stands -/
theorem lam_runs {A : Around} {outer : List Env} {ps : List Str} {dvs : List V} {f c' : Addr} {dV doc pm ctv : Value} {us : List Value} {params : Arguments} {body : Expr} {scope : Scope} {k : Nat} {Q : VK} {E : XK} {tb : TE} (I : Inv X pins σ H s) (L : LamT X.N X.env.scope scope)
    (isF : s1.heap.get? f = some (lamObj X params body scope dV doc pm c' ctv)) (isC : HZ c' = some (CodeO c' (X.env.qual ++ "<lambda>"))) (dv : DvOk dV us H X.stack s1.heap) (rv : Vals dvs us) (bind : LamBinds params body scope ps dvs) (par : ∀ p ∈ ps, scope.names.lookup p = some .local)
    (e0 : Env0 X.prog X.w X.K X.mg X.base A outer s1 HZ) (lim : s1.heap.NoLimit) (un : Un (frs X.stack) [] H HZ s.heap s1.heap) (room : Room (k + 1) A)
    (B : ∀ (A : Around) (outer : List Env) (s : Shared) (H : Hp), Room k (A.deeper (lamEnv X scope s.heap.objs.size f c')) → PE (lamCx X A outer s H E scope f c') body tb) (q : tb σ HZ Q) :
    codeAny (model X.prog X.w) A (.call (.ref f) ⟨[], []⟩) (CR (L2.CX X.prog X.w) outer X.prog X.w HZ s1 Q E) s1 := by
  obtain ⟨⟨oc, vs, t, eo, ed, en⟩, _, _⟩ := e0.hok c' _ isC
  apply PySem.W.kla_callFunE room.depth isF rfl L.co L.gen rfl ⟨c', oc, vs, t, rfl, eo, ed, en⟩
  apply bind _ _ _ _ _ _ _ _ _ _ _ rv dv
  apply wpAny_newFunctionEnv (fun y m => (L.each y m).1) (fun p m => par p.1 (List.of_mem_zip (a := p.1) (b := p.2) m).1) ?_ L.kind
  intro h₁ ns but
  refine ⟨lim.fresh _ but, ?_⟩
  have kp : ∀ b o, s1.heap.get? b = some o → h₁.get? b = some o := fun b o e => but.extBut b o (Nat.ne_of_lt (Heap.lt_size e)) (Heap.get?_push_of_some _ e)
  apply PySem.W.kla_codeExpr
  apply wpAny_mono ((B A outer s1 HZ (room.deeper _)).run [] _ _ HZ Q (lam_start3 (f := f) (c' := c') I L e0 room.hd un ns kp) q)
  · rintro v t ⟨w', G, J, r, z⟩
    exact ⟨w', G, J.os, J.bare, J.base, J.hok, r, z⟩
  · intro e t z
    exact z
/-- x(), in the def that got the lambda -/
theorem pe_act3 {Eg : XK} {Ng ps : List Str} {dvs : List V} {qg : Str} {sg : Scope} {g f c' : Addr} {cdg dV doc pm ctv : Value} {us : List Value} {params : Arguments} {body : Expr} {scope : Scope} {k i : Nat} {a : Str} {pn : List (Addr × Obj)} {xe : Value → Shared → Prop} {W : WX} {E : XK} {tb : TE} {p1 p2 : Pos}
    (I : Inv X pins σ H s) (L : LamT X.N X.env.scope scope) (isF : s.heap.get? f = some (lamObj X params body scope dV doc pm c' ctv)) (nF : H f = none) (oF : f ∉ frs X.stack) (dv : DvOk dV us H X.stack s.heap) (rv : Vals dvs us)
    (bind : LamBinds params body scope ps dvs) (par : ∀ p ∈ ps, scope.names.lookup p = some .local)
    (tk : Takes ((cxOf CX0 X.prog X.w X.K X.mg X.base Ng qg sg g cdg X.A X.stack s H Eg).tr pn xe) W) (sub : ∀ cls d σ' H', E cls d H' → W cls d σ' H') (room : Room (k + 1) (X.A.deeper (envOfC qg sg s.heap.objs.size g cdg)))
    (B : ∀ (A : Around) (outer : List Env) (s : Shared) (H : Hp), Room k (A.deeper (lamEnv X scope s.heap.objs.size f c')) → PE (lamCx X A outer s H E scope f c') body tb)
    (at_ : Ng[i]? = some a) (vis : Vis sg a) (d1 : (a == ("__debug__" : Str)) = false := by decide) (d2 : (a == ("__classdict__" : Str)) = false := by decide) :
    PE ((cxOf CX0 X.prog X.w X.K X.mg X.base Ng qg sg g cdg X.A X.stack s H Eg).tr pn xe) (.Call (.Name a p1) [] [] p2)
      (fun σZ HZ Q => σZ[i]? = some (some (.ref f)) ∧ HZ c' = some (CodeO c' (X.env.qual ++ "<lambda>")) ∧ tb σ HZ Q) := by
  constructor
  rintro pinsZ sZ σZ HZ Q IZ ⟨slot, isC, q⟩
  apply wpAny_Call_Name_kw
  apply thn ((pe_var (pos := p1) (i := i) at_ vis d1 d2).run pinsZ sZ σZ HZ (fun v G => v = .ref f ∧ G = HZ) IZ ⟨.ref f, slot, rfl, rfl⟩)
  rintro u t ⟨_, _, J, r, rfl, rfl⟩
  cases (show u = Value.ref f from r)
  have old : ∀ {b o}, s.heap.get? b = some o → H b = none → b ∉ frs X.stack → t.heap.get? b = some o := fun e n nf => J.base.keep _ _ e n nf (by simp [cxOf])
  have isF1 := old isF nF oF
  have dv1 : DvOk dV us H X.stack t.heap := dv.imp id fun ⟨nz, b, e1, e2, e3, e4⟩ => ⟨nz, b, e1, old e2 e3 e4, e3, e4⟩
  apply PySem.W.callWith_F0 ⟨_, _, _, _, isF1⟩
  apply wpAny_call
  apply codeAny_mono (lam_runs I L isF1 isC dv1 rv bind par J.env0 J.nolimit J.base room B q)
  rintro (e | fl) t2 z
  · exact passes_call tk sub pinsZ σZ _ t e t2 J z
  · cases fl with
    | ret u => exact J.after z
    | next => exact z.elim
    | brk => exact z.elim
    | cont => exact z.elim
end
/-- lambda: .. -/
theorem lamBinds0 {body : Expr} {scope : Scope} : LamBinds { posonlyargs := [], args := [], vararg := none, kwonlyargs := [], kw_defaults := [], kwarg := none, defaults := [] } body scope [] [] := by
  intro q cl dV doc pm cv ctv us H stk s r d
  cases r
  rcases d with ⟨_, rfl⟩ | ⟨z, _⟩
  · exact .of_eq rfl
  · exact (z rfl).elim
/-! lambda a1=i: .. (and so on: the name must be written) -/
theorem lamBinds_a0 {i : Int} {j : Nat} {ap dp : Pos} {body : Expr} {scope : Scope} : LamBinds { posonlyargs := [], args := [{ arg := "a0", annotation := none, pos := ap }], vararg := none, kwonlyargs := [], kw_defaults := [], kwarg := none, defaults := [.Constant (.int i) j dp] } body scope ["a0"] [.int i] := by
  intro q cl dV doc pm cv ctv us H stk s r d
  cases r with
  | cons rx rr =>
    cases rr
    rcases d with ⟨z, _⟩ | ⟨_, t, rfl, e, _⟩
    · cases z
    · refine BindsTo.of_defaults (k := ?k) rfl e rfl ?h1 ?h2
      case h1 => exact rfl
      case h2 => exact rfl
theorem lamBinds_a1 {i : Int} {j : Nat} {ap dp : Pos} {body : Expr} {scope : Scope} : LamBinds { posonlyargs := [], args := [{ arg := "a1", annotation := none, pos := ap }], vararg := none, kwonlyargs := [], kw_defaults := [], kwarg := none, defaults := [.Constant (.int i) j dp] } body scope ["a1"] [.int i] := by
  intro q cl dV doc pm cv ctv us H stk s r d
  cases r with
  | cons rx rr =>
    cases rr
    rcases d with ⟨z, _⟩ | ⟨_, t, rfl, e, _⟩
    · cases z
    · refine BindsTo.of_defaults (k := ?k) rfl e rfl ?h1 ?h2
      case h1 => exact rfl
      case h2 => exact rfl
theorem lamBinds_a2 {i : Int} {j : Nat} {ap dp : Pos} {body : Expr} {scope : Scope} : LamBinds { posonlyargs := [], args := [{ arg := "a2", annotation := none, pos := ap }], vararg := none, kwonlyargs := [], kw_defaults := [], kwarg := none, defaults := [.Constant (.int i) j dp] } body scope ["a2"] [.int i] := by
  intro q cl dV doc pm cv ctv us H stk s r d
  cases r with
  | cons rx rr =>
    cases rr
    rcases d with ⟨z, _⟩ | ⟨_, t, rfl, e, _⟩
    · cases z
    · refine BindsTo.of_defaults (k := ?k) rfl e rfl ?h1 ?h2
      case h1 => exact rfl
      case h2 => exact rfl
theorem lamBinds_a3 {i : Int} {j : Nat} {ap dp : Pos} {body : Expr} {scope : Scope} : LamBinds { posonlyargs := [], args := [{ arg := "a3", annotation := none, pos := ap }], vararg := none, kwonlyargs := [], kw_defaults := [], kwarg := none, defaults := [.Constant (.int i) j dp] } body scope ["a3"] [.int i] := by
  intro q cl dV doc pm cv ctv us H stk s r d
  cases r with
  | cons rx rr =>
    cases rr
    rcases d with ⟨z, _⟩ | ⟨_, t, rfl, e, _⟩
    · cases z
    · refine BindsTo.of_defaults (k := ?k) rfl e rfl ?h1 ?h2
      case h1 => exact rfl
      case h2 => exact rfl
theorem lamBinds_a4 {i : Int} {j : Nat} {ap dp : Pos} {body : Expr} {scope : Scope} : LamBinds { posonlyargs := [], args := [{ arg := "a4", annotation := none, pos := ap }], vararg := none, kwonlyargs := [], kw_defaults := [], kwarg := none, defaults := [.Constant (.int i) j dp] } body scope ["a4"] [.int i] := by
  intro q cl dV doc pm cv ctv us H stk s r d
  cases r with
  | cons rx rr =>
    cases rr
    rcases d with ⟨z, _⟩ | ⟨_, t, rfl, e, _⟩
    · cases z
    · refine BindsTo.of_defaults (k := ?k) rfl e rfl ?h1 ?h2
      case h1 => exact rfl
      case h2 => exact rfl
theorem lamBinds_a5 {i : Int} {j : Nat} {ap dp : Pos} {body : Expr} {scope : Scope} : LamBinds { posonlyargs := [], args := [{ arg := "a5", annotation := none, pos := ap }], vararg := none, kwonlyargs := [], kw_defaults := [], kwarg := none, defaults := [.Constant (.int i) j dp] } body scope ["a5"] [.int i] := by
  intro q cl dV doc pm cv ctv us H stk s r d
  cases r with
  | cons rx rr =>
    cases rr
    rcases d with ⟨z, _⟩ | ⟨_, t, rfl, e, _⟩
    · cases z
    · refine BindsTo.of_defaults (k := ?k) rfl e rfl ?h1 ?h2
      case h1 => exact rfl
      case h2 => exact rfl
theorem lamBinds_a6 {i : Int} {j : Nat} {ap dp : Pos} {body : Expr} {scope : Scope} : LamBinds { posonlyargs := [], args := [{ arg := "a6", annotation := none, pos := ap }], vararg := none, kwonlyargs := [], kw_defaults := [], kwarg := none, defaults := [.Constant (.int i) j dp] } body scope ["a6"] [.int i] := by
  intro q cl dV doc pm cv ctv us H stk s r d
  cases r with
  | cons rx rr =>
    cases rr
    rcases d with ⟨z, _⟩ | ⟨_, t, rfl, e, _⟩
    · cases z
    · refine BindsTo.of_defaults (k := ?k) rfl e rfl ?h1 ?h2
      case h1 => exact rfl
      case h2 => exact rfl
theorem lamBinds_a7 {i : Int} {j : Nat} {ap dp : Pos} {body : Expr} {scope : Scope} : LamBinds { posonlyargs := [], args := [{ arg := "a7", annotation := none, pos := ap }], vararg := none, kwonlyargs := [], kw_defaults := [], kwarg := none, defaults := [.Constant (.int i) j dp] } body scope ["a7"] [.int i] := by
  intro q cl dV doc pm cv ctv us H stk s r d
  cases r with
  | cons rx rr =>
    cases rr
    rcases d with ⟨z, _⟩ | ⟨_, t, rfl, e, _⟩
    · cases z
    · refine BindsTo.of_defaults (k := ?k) rfl e rfl ?h1 ?h2
      case h1 => exact rfl
      case h2 => exact rfl
theorem lamBinds_a8 {i : Int} {j : Nat} {ap dp : Pos} {body : Expr} {scope : Scope} : LamBinds { posonlyargs := [], args := [{ arg := "a8", annotation := none, pos := ap }], vararg := none, kwonlyargs := [], kw_defaults := [], kwarg := none, defaults := [.Constant (.int i) j dp] } body scope ["a8"] [.int i] := by
  intro q cl dV doc pm cv ctv us H stk s r d
  cases r with
  | cons rx rr =>
    cases rr
    rcases d with ⟨z, _⟩ | ⟨_, t, rfl, e, _⟩
    · cases z
    · refine BindsTo.of_defaults (k := ?k) rfl e rfl ?h1 ?h2
      case h1 => exact rfl
      case h2 => exact rfl
theorem lamBinds_a9 {i : Int} {j : Nat} {ap dp : Pos} {body : Expr} {scope : Scope} : LamBinds { posonlyargs := [], args := [{ arg := "a9", annotation := none, pos := ap }], vararg := none, kwonlyargs := [], kw_defaults := [], kwarg := none, defaults := [.Constant (.int i) j dp] } body scope ["a9"] [.int i] := by
  intro q cl dV doc pm cv ctv us H stk s r d
  cases r with
  | cons rx rr =>
    cases rr
    rcases d with ⟨z, _⟩ | ⟨_, t, rfl, e, _⟩
    · cases z
    · refine BindsTo.of_defaults (k := ?k) rfl e rfl ?h1 ?h2
      case h1 => exact rfl
      case h2 => exact rfl
theorem lamBinds_a10 {i : Int} {j : Nat} {ap dp : Pos} {body : Expr} {scope : Scope} : LamBinds { posonlyargs := [], args := [{ arg := "a10", annotation := none, pos := ap }], vararg := none, kwonlyargs := [], kw_defaults := [], kwarg := none, defaults := [.Constant (.int i) j dp] } body scope ["a10"] [.int i] := by
  intro q cl dV doc pm cv ctv us H stk s r d
  cases r with
  | cons rx rr =>
    cases rr
    rcases d with ⟨z, _⟩ | ⟨_, t, rfl, e, _⟩
    · cases z
    · refine BindsTo.of_defaults (k := ?k) rfl e rfl ?h1 ?h2
      case h1 => exact rfl
      case h2 => exact rfl
theorem lamBinds_a11 {i : Int} {j : Nat} {ap dp : Pos} {body : Expr} {scope : Scope} : LamBinds { posonlyargs := [], args := [{ arg := "a11", annotation := none, pos := ap }], vararg := none, kwonlyargs := [], kw_defaults := [], kwarg := none, defaults := [.Constant (.int i) j dp] } body scope ["a11"] [.int i] := by
  intro q cl dV doc pm cv ctv us H stk s r d
  cases r with
  | cons rx rr =>
    cases rr
    rcases d with ⟨z, _⟩ | ⟨_, t, rfl, e, _⟩
    · cases z
    · refine BindsTo.of_defaults (k := ?k) rfl e rfl ?h1 ?h2
      case h1 => exact rfl
      case h2 => exact rfl
theorem lamBinds_a12 {i : Int} {j : Nat} {ap dp : Pos} {body : Expr} {scope : Scope} : LamBinds { posonlyargs := [], args := [{ arg := "a12", annotation := none, pos := ap }], vararg := none, kwonlyargs := [], kw_defaults := [], kwarg := none, defaults := [.Constant (.int i) j dp] } body scope ["a12"] [.int i] := by
  intro q cl dV doc pm cv ctv us H stk s r d
  cases r with
  | cons rx rr =>
    cases rr
    rcases d with ⟨z, _⟩ | ⟨_, t, rfl, e, _⟩
    · cases z
    · refine BindsTo.of_defaults (k := ?k) rfl e rfl ?h1 ?h2
      case h1 => exact rfl
      case h2 => exact rfl
/-! ### the def that a lambda is handed to -/
/-- the taker's context: the def x at g, entered at s with H -/
abbrev takerCx (X : Cx) (Ng : List Str) (x : Str) (sg : Scope) (g : Addr) (cdg : Value) (s : Shared) (H : Hp) : Cx := cxOf CX0 X.prog X.w X.K X.mg X.base Ng x sg g cdg X.A X.stack s H E0
/-- the taker keeps TT: what it makes of the lambda's reading; a is the name by which it calls what it got -/
def GivesG (X : Cx) (Ng : List Str) (x : Str) (sg : Scope) (g : Addr) (cdg : Value) (bg : List Stmt) (a : Str) (q : Str) (TT : (XK → Hp → VK → Prop) → Hp → VK → Prop) : Prop :=
  ∀ (f c' : Addr) (s : Shared) (H : Hp) (Q : VK) (tl : XK → Hp → VK → Prop),
    (∀ (W : WX) (pn : List (Addr × Obj)) (xe : Value → Shared → Prop) (E : XK) (p1 p2 : Pos), Takes ((takerCx X Ng x sg g cdg s H).tr pn xe) W → (∀ cls d σ' H', E cls d H' → W cls d σ' H') →
      PE ((takerCx X Ng x sg g cdg s H).tr pn xe) (.Call (.Name a p1) [] [] p2) (fun σZ HZ Q => σZ[0]? = some (some (.ref f)) ∧ HZ c' = some (CodeO c' q) ∧ tl E HZ Q)) →
    H c' = some (CodeO c' q) → TT tl H Q → ∃ t, PSs (takerCx X Ng x sg g cdg s H).nox bg t ∧ t ⟨fun _ G => Q .non G, Q, fun _ _ => False, fun _ _ => False⟩ (L2.start Ng [.ref f]) H
section
variable {X : Cx}
/-- a lambda's call, as the def that got it knows it -/
structure LamGo (X : Cx) (T : List (Addr × Str)) (c P : Addr) (params : Arguments) (body : Expr) (scope : Scope) (ps : List Str) (dvs : List V) : Prop where
  TB : TabB X.base X.mg c P
  code : X.env.code = .ref c
  mem : (P, X.env.qual ++ "<lambda>") ∈ T
  one : ∀ p ∈ T, p.1 = P → p.2 = X.env.qual ++ "<lambda>"
  L : LamT X.N X.env.scope scope
  binds : LamBinds params body scope ps dvs
  pl : ∀ p ∈ ps, scope.names.lookup p = some .local
/-- the given values: none, or one integer -/
def DefsOk (X : Cx) (params : Arguments) (dvs : List V) : Prop := (dvs = [] ∧ defaultsOf params X.env = ([], [])) ∨ (∃ i j dp, dvs = [.int i] ∧ params.defaults = [.Constant (.int i) j dp] ∧ params.kw_defaults = [])
theorem lam_make {pins : List (Addr × Obj)} {σ : L2.St} {H : Hp} {s : Shared} {T : List (Addr × Str)} {c P : Addr} {params : Arguments} {body : Expr} {scope : Scope} {ps : List Str} {dvs : List V} {pos : Pos} {E : Value → Shared → Prop} {Q : Value → Shared → Prop} (I : Inv X pins σ H s) (G : LamGo X T c P params body scope ps dvs) (D : DefsOk X params dvs) (hT : Tabs T H)
    (h : ∀ (f : Addr) (s' : Shared), LamMade X pins σ H T params body scope dvs f s' → Q (.ref f) s') : wpAny (model X.prog X.w) X.A (eval (.Lambda params body scope pos) X.env) Q E s := by
  rcases D with ⟨rfl, d⟩ | ⟨i, j, dp, rfl, d, kd⟩
  · exact lam_make0 I G.TB G.code G.mem G.one hT d (G.L.has I.ok) h
  · exact lam_make1 I G.TB G.code G.mem G.one hT d kd (G.L.has I.ok) h
/-- a def whose object is known: its call, where its body's reading is told of the very state -/
theorem taken {P : Program} {w : World} {K : PySem.W.Frag} {mg : Str → Option Value} {base : Heap} {k : Nat} {f : Addr} {x qual : Str} {pg : Arguments} {bg : List Stmt} {sg : Scope} {dV kV dc pm cdv ct oc : Value} {an od : Option Addr} {sl : Array (Option Value)} {N : List Str} {a : Str} (look : K.lookup f = some ⟨oc, od, .func (PySem.W.fnOf x qual pg bg sg dV kV dc pm an cdv ct), sl⟩)
    (code : PySem.W.codeIn K cdv qual = true) (S : FnScope N [a] sg) {A : Around} {fr : List Env} {s : Shared} {H : Hp} {args : Args} {u : Value} {v : V} {Q : VK} (room : Room (k + 1) A) (env : Env0 P w K mg base A fr s H) (bind : BindsTo s (PySem.W.fnOf x qual pg bg sg dV kV dc pm an cdv ct) args [(a, u)]) (rel : L2.RelV v u)
    (body : Room k (A.deeper (envOfC qual sg s.heap.objs.size f cdv)) → ∃ t, PSs (cxOf CX0 P w K mg base N qual sg f cdv A fr s H E0).nox bg t ∧ t ⟨fun _ G => Q .non G, Q, fun _ _ => False, fun _ _ => False⟩ (L2.start N [v]) H) :
    codeAny (model P w) A (.call (.ref f) args) (CR CX0 fr P w H s Q E0) s :=
  run_ofS (CX := CX0) (ps := [a]) (us := [u]) (vs := [v]) look code S room env bind (.cons rel .nil) rfl fun r => (body r).imp fun _ z => ⟨z.1.nox, z.2⟩
/-- x(lambda ..: body) -/
theorem pe_lamX {T : List (Addr × Str)} {TT : (XK → Hp → VK → Prop) → Hp → VK → Prop} {x a : Str} {g c P : Addr} {k : Nat} {pg : Arguments} {bg : List Stmt} {sg : Scope} {dV kV dc pm cdv ct oc : Value} {an od : Option Addr} {sl : Array (Option Value)} {Ng ps : List Str} {dvs : List V} {params : Arguments} {body : Expr} {scope : Scope} {t : XK → TE} {p lp pos : Pos}
    (glob : Gl X x) (mgx : X.mg x = some (.ref g)) (kp : PySem.W.keepIn X.K (.ref g) = true) (look : X.K.lookup g = some ⟨oc, od, .func (PySem.W.fnOf x x pg bg sg dV kV dc pm an cdv ct), sl⟩) (code : PySem.W.codeIn X.K cdv x = true)
    (b : L2.Binds X.K (PySem.W.fnOf x x pg bg sg dV kV dc pm an cdv ct) [a] []) (S : FnScope Ng [a] sg) (first : Ng[0]? = some a) (vis : Vis sg a) (give : GivesG X Ng x sg g cdv bg a (X.env.qual ++ "<lambda>") TT) (room : Room (k + 2) X.A) (G : LamGo X T c P params body scope ps dvs) (D : DefsOk X params dvs)
    (B : ∀ (A : Around) (outer : List Env) (s : Shared) (H : Hp) (E : XK) (f c' : Addr), Room k (A.deeper (lamEnv X scope s.heap.objs.size f c')) → PE (lamCx X A outer s H E scope f c') body (t E))
    (d0 : (x == ("__debug__" : Str)) = false := by decide) (d1 : (a == ("__debug__" : Str)) = false := by decide) (d2 : (a == ("__classdict__" : Str)) = false := by decide) :
    PE X (.Call (.Name x p) [.Lambda params body scope lp] [] pos) (tLam T TT t) := by
  constructor
  rintro pins s σ H Q I ⟨tabs, q⟩
  apply wpAny_Call_Name_kw (ld_glob I glob mgx ?_ d0)
  refine PySem.W.callWith_K (h₀ := X.base) I.ok.mod.kin kp ?_ (by rfl) (by rfl)
  refine Calls.spliced_cons (lam_make I G D tabs ?_)
  rintro f t1 ⟨c', dV', dc', pm', ctv, us, H1, J, grow, T1, isF, nF, oF, dv, rv, isC⟩
  refine Calls.spliced_nil ⟨J.kIn, wpAny_call ?_⟩
  have go := taken (Q := Q) look code S room J.env0 (b t1 [.ref f] J.kIn rfl) (show L2.RelV (.ref f) (.ref f) from rfl) fun r =>
    give f c' t1 H1 Q (fun E G Q' => t E σ G Q') (fun W pn xe E p1 p2 tk sub => pe_act3 (i := 0) J G.L isF nF oF dv rv G.binds G.pl tk sub r (fun A outer s H r2 => B A outer s H E f c' r2) first vis d1 d2) isC (q H1 grow T1)
  apply codeAny_mono go
  rintro (e | fl) t2 z
  · exact (show False from z).elim
  · cases fl with
    | ret u => exact J.after z
    | next => exact z.elim
    | brk => exact z.elim
    | cont => exact z.elim
end
end Rp
namespace Rp
open PySem PySem.Spec PyProof.Rows L2 LamX
/-! ### defs that errors may leave -/
theorem pass0X {X : Cx} {σ : L2.St} : PassesAt (L2.CX X.prog X.w) X σ E0 := fun _ _ _ _ _ _ c => by
  obtain ⟨_, _, _, _, _, _, _, _, _, _, _, _, z⟩ := c
  exact z.elim
/-- a def that errors may leave, as its callers know it -/
structure CalX (P : Program) (w : World) (K : PySem.W.Frag) (mg : Str → Option Value) (base : Heap) (x : Str) (k : Nat) (f : Addr) (fd : FuncData) (ps : List Str) (sp : Sp) : Prop where
  F : FnOk P w K mg base (L2.CX P w) k f fd ps sp
  mgf : mg x = some (.ref f)
  kp : PySem.W.keepIn K (.ref f) = true
  b : Binds K fd ps []
def tGoE (sp : Sp) (E : XK) (t : TA) : TE := fun σ H Q => t σ H fun vs G => sp vs G Q E
theorem r_goE {sp : Sp} {E : XK} {t : TA} {σ : L2.St} {H : Hp} {Q : VK} (h : t σ H fun vs G => sp vs G Q E) : tGoE sp E t σ H Q := h
section
variable {X : Cx} {k : Nat} {f : Addr} {fd : FuncData} {ps ks : List Str} {sp : Sp} {x : Str} {p pos : Pos} {e : Expr} {es : List Expr} {t tk : TA} {kws : List Keyword} {E : XK}
/-- called where no error may come -/
theorem pe_goX (c : CalX X.prog X.w X.K X.mg X.base x k f fd ps sp) (r : Room k X.A) (hg : Gl X x) (ha : PA X (e :: es) t) (d1 : (x == ("__debug__" : Str)) = false := by decide)
    (d2 : starEach (e :: es) X.env = (false, eval e X.env) :: starEach es X.env := by rfl) (d3 : (backTo pos (starEach es X.env)).any (·.1) = false := by rfl) : PE X (.Call (.Name x p) (e :: es) [] pos) (tGo sp t) :=
  pe_callS (E := fun _ => E0) c.F r hg c.mgf c.kp c.b (fun _ => pass0X) ha d1 d2 d3
/-- called where an error is E's -/
theorem pe_goE (c : CalX X.prog X.w X.K X.mg X.base x k f fd ps sp) (r : Room k X.A) (tk : Takes X (fun cls d _ H => E cls d H)) (hg : Gl X x) (ha : PA X (e :: es) t) (d1 : (x == ("__debug__" : Str)) = false := by decide)
    (d2 : starEach (e :: es) X.env = (false, eval e X.env) :: starEach es X.env := by rfl) (d3 : (backTo pos (starEach es X.env)).any (·.1) = false := by rfl) : PE X (.Call (.Name x p) (e :: es) [] pos) (tGoE sp E t) :=
  pe_callS (E := WE fun cls d _ H => E cls d H) c.F r hg c.mgf c.kp c.b (fun σ => passAt tk σ) ha d1 d2 d3
/-- what the callee does, from the caller's state -/
theorem goesX {pins : List (Addr × Obj)} {σ : L2.St} {H : Hp} {s : Shared} {Q : VK} {args : Args} {us : List Value} {vs : List V} (F : FnOk X.prog X.w X.K X.mg X.base (L2.CX X.prog X.w) k f fd ps sp) (r : Room k X.A)
    (I : Inv X pins σ H s) (b : BindsTo s fd args (ps.zip us)) (rel : Vals vs us) (q : sp vs H Q E0) : codeAny (model X.prog X.w) X.A (.call (.ref f) args) (fun a s2 => ∃ u, a = .ok (.ret u) ∧ EP X pins σ Q u s2) s := by
  apply codeAny_mono (F.run X.A X.stack s H args us vs Q E0 r I.env0 b rel q)
  intro a s2 h
  rcases a with er | fl
  · obtain ⟨_, _, _, _, _, _, _, _, _, _, _, _, z⟩ := h
    exact z.elim
  · cases fl with
    | ret u => exact ⟨u, rfl, I.after h⟩
    | next => exact h.elim
    | brk => exact h.elim
    | cont => exact h.elim
theorem pe_kwX {ix : List Nat} (c : CalX X.prog X.w X.K X.mg X.base x k f fd ps sp) (hb : KBx X.K fd ps 0 ks ix) (r : Room k X.A) (hg : Gl X x) (hkw : PK X kws tk)
    (d4 : (backToKw pos (keywordEach kws X.env)).all (·.1.isSome) = true := by rfl) (d5 : (backToKw pos (keywordEach kws X.env)).filterMap (·.1) = ks := by rfl) (d1 : (x == ("__debug__" : Str)) = false := by decide)
    (d3 : (backToKw pos (keywordEach kws X.env)).any (·.1.isNone) = false := by rfl) : PE X (.Call (.Name x p) [] kws pos) (tKw sp 0 ks.length ix E0 L2.tNil tk) := by
  constructor
  intro pins s σ H Q I h
  apply wpAny_Call_Name_kw (ld_glob I hg c.mgf ?_ d1)
  apply PySem.W.callWith_KW0 (h₀ := X.base) I.ok.mod.kin c.kp d4 ?_ d3
  apply thn (hkw.run pos pins s σ H _ I h)
  rintro ws s2 ⟨zs, H2, I2, rz, _, lz, q⟩
  refine ⟨I2.kIn, ?_⟩
  rw [d5]
  apply wpAny_call
  have lw : ws.length = ks.length := by rw [← rz.length]; exact lz
  apply codeAny_mono (goesX c.F r I2 (hb.to s2 [] ws rfl lw) (vals_ix (.append .nil rz) ix) q)
  rintro a s3 ⟨u, rfl, z⟩
  exact z
end
/-! ### own errors with one field -/
def spIni1 (C : Addr) (f : Str) : Sp := fun vs H Q _ => ∃ a v, vs = [.ref a, v] ∧ H a = some (exo a C none) ∧ ∀ dx, H dx = none → dx ≠ a → Q .non (upd (upd H dx (exd dx [(f, v)])) a (exo a C (some dx)))
/-- what the written part says of an error's class x at C, whose __init__ at fI keeps its one argument as f -/
structure Err1 (P : Program) (w : World) (K : PySem.W.Frag) (mg : Str → Option Value) (base : Heap) (x : Str) (C : Addr) (f : Str) : Prop where
  g : mg x = some (.ref C)
  oex : OexC K C
  no : PySem.W.findIn K (.ref C) f = some none
  xf : XfC K C
  ini : ∃ (fI : Addr) (fd : FuncData) (ps : List Str), PySem.W.findIn K (.ref C) "__init__" = some (some (.ref fI)) ∧ PySem.W.typeIn K (.ref fI) = some (.type "function") ∧ Binds K fd ps [] ∧
    FnOk P w K mg base CX0 1 fI fd ps (spIni1 C f)
/-- x(e), raised: the error's own dict is new -/
def tErr (C : Addr) (f : Str) (te : TE) : L2.St → Hp → XK → Prop := fun σ H Q => te σ H fun v H1 => ∀ d, H1 d = none → Q (.ref C) (some d) (upd H1 d (.xd [(f, v)]))
theorem del_put {H : Hp} {a d : Addr} {o u o2 : HO} {fs : List (Str × V)} (na : H a = none) (ne : d ≠ a) : upd (del (upd (upd (upd H a o) d u) a o2) a) d (.xd fs) = upd H d (.xd fs) := by
  funext b
  by_cases hd : b = d
  · rw [hd, upd_same, upd_same]
  · rw [upd_ne hd, upd_ne hd]
    by_cases ha : b = a
    · rw [ha, del_same, na]
    · rw [del_ne ha, upd_ne ha, upd_ne hd, upd_ne ha]
/-- a reading with room: weaker ends follow -/
def tMono (te : TE) : TE := fun σ H R => ∃ R0 : VK, te σ H R0 ∧ ∀ v G, R0 v G → R v G
theorem pe_mono {X : Cx} {e : Expr} {te : TE} (he : PE X e te) : PE X e (tMono te) :=
  ⟨fun pins s σ H Q I ⟨R0, h, m⟩ => wpAny_mono (he.run pins s σ H R0 I h) (fun u s1 ⟨v, G, J, r, q⟩ => ⟨v, G, J, r, m v G q⟩) fun _ _ z => z⟩
theorem pmk_err1 {X : Cx} {x f : Str} {C : Addr} {e : Expr} {te : TE} {p pos : Pos} (T : Err1 X.prog X.w X.K X.mg X.base x C f) (hr : Room 2 X.A) (hg : Gl X x) (he : PE X e te) (d1 : (x == ("__debug__" : Str)) = false := by decide)
    (d2 : starEach (e :: []) X.env = (false, eval e X.env) :: starEach [] X.env := by rfl) (d3 : (backTo pos (starEach [] X.env)).any (·.1) = false := by rfl) : PMk X (.Call (.Name x p) [e] [] pos) (tErr C f te) := by
  obtain ⟨fI, fd, ps, h1, h2, h3, h4⟩ := T.ini
  intro pins s σ H Q I h
  refine pmk_oex T.oex h1 h2 h4 hr h3 .nil (fun _ _ _ _ _ _ _ z => z.elim) hg T.g (pa_cons (pe_mono he) pa_nil d2) d1 d2 d3 pins s σ H Q I ?_
  refine ⟨_, h, fun v H1 k => ⟨by show 1 ≤ 1000; decide, fun a na => ⟨a, v, rfl, upd_same, fun dx nd ne => ⟨rfl, dx, [(f, v)], upd_same, ?_, ?_, ?_⟩⟩⟩⟩
  · rw [upd_ne ne, upd_same]
  · rw [upd_ne ne] at nd
    exact nd
  · rw [upd_ne ne] at nd
    rw [del_put na ne]
    exact k dx nd
/-! ### a def whose code object is known -/
structure FunC (K : PySem.W.Frag) (x qual : Str) (st : Stmt) (f : Addr) (fd : FuncData) (c : Addr) : Prop where
  ex : ∃ (oc : Value) (od : Option Addr) (kV doc pm : Value) (an : Option Addr) (ct : Value) (osl : Array (Option Value)),
    fd = PySem.W.fnOf x qual (defArgs st) (defBody st) (defScope st) .none kV doc pm an (.ref c) ct ∧ K.lookup f = some ⟨oc, od, .func fd, osl⟩ ∧ PySem.W.codeIn K (.ref c) qual = true
section
variable {P : Program} {w : World} {K : PySem.W.Frag} {mg : Str → Option Value} {base : Heap} {k : Nat} {f : Addr} {fd : FuncData} {ps : List Str} {sp : Sp}
theorem fngC {x qual : Str} {st : Stmt} {N : List Str} {c : Addr} (F : FunC K x qual st f fd c) (S : FnScope N ps (defScope st)) (ar : ∀ {vs H Q E}, sp vs H Q E → vs.length = ps.length)
    (body : ∀ {A : Around} {fr : List Env} {s : Shared} {H : Hp} {vs : List V} {Q : VK} {E : XK}, A.guards = some [] → Room k (A.deeper (envOfC qual (defScope st) s.heap.objs.size f (.ref c))) → sp vs H Q E →
      ∃ t, PSs (cxOf CX0 P w K mg base N qual (defScope st) f (.ref c) A fr s H E).nox (defBody st) t ∧ t ⟨fun _ G => Q .non G, Q, fun _ _ => False, fun _ _ => False⟩ (L2.start N vs) H) : FnG P w K mg base (k + 1) f fd ps sp := by
  generalize hcd : Value.ref c = cdv at body
  obtain ⟨oc, od, kV, dc, pm, an, ct, sl, e, look, code⟩ := F.ex
  rw [hcd] at e code
  subst e
  constructor
  · exact ar
  intro A fr s H args us vs Q E hg room env bind rel q
  have size := ar q
  have kin := env.mod.kin.keeps fun b o z => (env.bs b o z).1
  have nolim := env.mod.nolimit.keeps fun b o z => (env.bs b o z).1
  have knd : ∀ p ∈ ps.zip us, (defScope st).names.lookup p.1 = some .local ∨ ((defScope st).names.lookup p.1 = some .cell ∧ ((cellsFrom (s.heap.objs.size + 1) (defScope st).names []).lookup p.1).isSome = true) := by
    rintro ⟨n, v⟩ hp
    exact (S.par n (List.of_mem_zip hp).1).imp id fun z => ⟨z, PySem.W.cellsFrom_some _ _ _ (.inl z)⟩
  apply codeAny_call_function room.depth (kin _ _ look) rfl S.co S.gen rfl (PySem.W.codeRec_of kin code)
  apply bind
  apply wpAny_newFunctionEnv_cells S.kind knd
  intro en he s1 ic
  subst he
  refine ⟨nolim.keeps ic.toInCall.keep, codeAny_func ?_⟩
  obtain ⟨t, pt, rd⟩ := body (fr := fr) (E := E) hg (room.deeper _) q
  have inv : Inv (cxOf CX0 P w K mg base N qual (defScope st) f cdv A fr s H E) [] (L2.start N vs) H s1 := inv_start S room.hd env size rel ic
  apply wpAny_mono (pt.nox.run [] s1 (L2.start N vs) H _ inv rd)
  · intro fl s2 hs
    cases fl with
    | ret u => obtain ⟨v, τ, G, J, r, z⟩ := hs; exact ⟨v, G, J.os, J.bare, J.base, J.hok, r, z⟩
    | next => obtain ⟨τ, G, J, z⟩ := hs; exact ⟨.non, G, J.os, J.bare, J.base, J.hok, rfl, z⟩
    | brk => obtain ⟨_, _, _, z⟩ := hs; exact z.elim
    | cont => obtain ⟨_, _, _, z⟩ := hs; exact z.elim
  · intro er s2 hs
    exact hs
end
/-! ### the law's call, with tables of code objects -/

/-- what is tracked as the law begins: the tables, empty, and the script, if it is not written -/
def begun (cs : List (Addr × Addr)) (own : Option (Addr × HO)) : Hp := fun b => match own with
  | some (a, o) => if b = a then some o else if b ∈ cs.map (·.2) then some (.tbl #[]) else none
  | none => if b ∈ cs.map (·.2) then some (.tbl #[]) else none
theorem law_goTs {P : Program} {w : World} {K : PySem.W.Frag} {mg mb : Str → Option Value} {k : Nat} {fa a : Addr} {cs : List (Addr × Addr)} {fd : FuncData} {x : Str} {sp : Sp} {s : Shared} {us : List Value} {ns : List Int}
    (kin : K.In s.heap) (gl : s.heap.Ns mainGlobals mg) (bl : s.heap.Ns builtinsNs mb) (boot : ∀ y : Str, y ≠ "__name__" → mb y = bootBuiltins y) (nolim : s.heap.NoLimit) (mods : HasMods s.heap) (gen : s.gens = #[])
    (tab : ∀ p ∈ cs, s.heap.get? p.2 = some { cls := .none, data := .fields #[] }) (unw : ∀ p ∈ cs, K.lookup p.2 = none) (code : ∀ p ∈ cs, PySem.W.CodeHd s.heap p.1 p.2)
    (bmod : ∃ (bm : Addr) (ob : Obj), mg "__builtins__" = some (.ref bm) ∧ bm ≠ builtinsNs ∧ s.heap.get? bm = some ob ∧ ob.cls = .type "module" ∧ ob.dict = some builtinsNs ∧ ob.data = .plain)
    (ob : s.heap.get? a = some { cls := .type "list", data := .seq us.toArray }) (nums : IntsAre us ns) (size : ns.length ≤ sizeLine) (room : Room k callerA)
    (F : ∀ base : Heap, K.In base → base.Ns mainGlobals mg → HasMods base → (∀ p ∈ cs, TabB base mg p.1 p.2) → FnG P w K mg base k fa fd [x] sp) (bind : ∀ (t : Shared) (u : Value), BindsTo t fd ⟨[u], []⟩ [(x, u)])
    (prom : ∀ H : Hp, (∀ p ∈ cs, H p.2 = some (.tbl #[])) → SqL K H a (ns.map V.int) → sp [.ref a] H (fun v _ => v = .bl true) fun _ _ _ => False) :
    codeAny (model P w) callerA (.call (.ref fa) ⟨[.ref a], []⟩) (fun r t => r = .ok (.ret (.bool true)) ∧ OldK s.heap t.heap ∧ t.os = s.os ∧ AllBare t.gens) s := by
  have rel := vals_ints nums
  have seen : ∀ p ∈ cs, p.2 ∈ cs.map (·.2) := fun p m => List.mem_map_of_mem m
  have isTab : ∀ b ∈ cs.map (·.2), s.heap.get? b = some { cls := .none, data := .fields #[] } := by
    intro b m
    obtain ⟨p, mp, rfl⟩ := List.mem_map.mp m
    exact tab p mp
  have notA : a ∉ cs.map (·.2) := fun m => by
    have z := congrArg (Option.map Obj.data) (ob.symm.trans (isTab a m))
    cases z
  -- H tracks the tables, and the script, or not the script
  suffices main : ∀ own : Option (Addr × HO), (∀ b o, own = some (b, o) → b = a ∧ K.lookup a = none ∧ o = .frz { cls := .type "list", data := .seq us.toArray } (.lst (ns.map V.int))) → SqL K (begun cs own) a (ns.map V.int) →
      codeAny (model P w) callerA (.call (.ref fa) ⟨[.ref a], []⟩) (fun r t => r = .ok (.ret (.bool true)) ∧ OldK s.heap t.heap ∧ t.os = s.os ∧ AllBare t.gens) s by
    cases written : K.lookup a with
    | none => exact main (some (a, .frz { cls := .type "list", data := .seq us.toArray } (.lst (ns.map V.int)))) (fun b o z => by cases z; exact ⟨rfl, written, rfl⟩) (.inl (.inr ⟨_, if_pos rfl⟩))
    | some o =>
      cases ob.symm.trans (kin a o written)
      exact main none (fun b o z => nomatch z) (.inr ⟨_, us.toArray, _, written, rfl, rfl, rfl, by rw [List.size_toArray, nums.length]; exact size, by simpa using rel⟩)
  intro own isOwn seq
  generalize hH : begun cs own = H at seq
  -- what H tracks
  have kinds : ∀ b u, H b = some u → (b = a ∧ K.lookup a = none ∧ u = .frz { cls := .type "list", data := .seq us.toArray } (.lst (ns.map V.int))) ∨ (b ∈ cs.map (·.2) ∧ u = .tbl #[]) := by
    intro b u e
    rw [← hH] at e
    rcases own with _ | ⟨a', o⟩
    · have e' : (if b ∈ cs.map (·.2) then some (HO.tbl #[]) else none) = some u := e
      split at e'
      · exact .inr ⟨‹_›, (Option.some.inj e').symm⟩
      · cases e'
    · obtain ⟨rfl, n, rfl⟩ := isOwn a' o rfl
      have e' : (if b = a' then some _ else if b ∈ cs.map (·.2) then some (HO.tbl #[]) else none) = some u := e
      split at e'
      · exact .inl ⟨‹_›, n, (Option.some.inj e').symm⟩
      · split at e'
        · exact .inr ⟨‹_›, (Option.some.inj e').symm⟩
        · cases e'
  have tabs : ∀ b ∈ cs.map (·.2), H b = some (.tbl #[]) := by
    intro b m
    rw [← hH]
    rcases own with _ | ⟨a', o⟩
    · exact if_pos m
    · obtain ⟨rfl, _⟩ := isOwn a' o rfl
      exact (if_neg (by rintro rfl; exact notA m)).trans (if_pos m)
  have hok : HOk P w H s.heap := by
    intro b u e
    rcases kinds b u e with ⟨rfl, _, rfl⟩ | ⟨m, rfl⟩
    · exact ⟨ob, by rw [List.length_map]; exact size, us, _, rel, ob⟩
    · exact isTab b m
  have clear_ : ∀ {b o}, s.heap.get? b = some o → (∀ us n, o.data ≠ .seq us n) → o.data ≠ .fields #[] → H b = none := by
    intro b o e n1 n2
    cases z : H b with
    | none => rfl
    | some u =>
      rcases kinds b u z with ⟨rfl, _⟩ | ⟨m, _⟩
      · cases ob.symm.trans e
        exact (n1 _ _ rfl).elim
      · cases (isTab b m).symm.trans e
        exact (n2 rfl).elim
  have names : ∀ {b} {m : Str → Option Value}, s.heap.Ns b m → (hidT s.heap H).Ns b m := by
    rintro b m ⟨o, es, n, e, d, z⟩
    exact ⟨o, es, n, hidT_get e (clear_ e (by rw [d]; intro _ _ q; cases q) (by rw [d]; intro q; cases q)), d, z⟩
  have kin' : K.In (hidT s.heap H) := by
    intro b o e
    refine hidT_get (kin b o e) ?_
    cases z : H b with
    | none => rfl
    | some u =>
      rcases kinds b u z with ⟨rfl, n, _⟩ | ⟨m, _⟩
      · cases n.symm.trans e
      · obtain ⟨p, mp, rfl⟩ := List.mem_map.mp m
        cases (unw p mp).symm.trans e
  obtain ⟨mc, l1, l2⟩ := nolim
  have mod : L2.Mod K mg (hidT s.heap H) := ⟨kin', names gl, ⟨mb, names bl, boot⟩, ⟨mc, names l1, l2⟩⟩
  have TB : ∀ p ∈ cs, TabB (hidT s.heap H) mg p.1 p.2 := by
    intro p mp
    constructor
    · obtain ⟨o, vs, f1, t1, f2, t2, b3, i4, t4, e, kc, dt, tb, more⟩ := code p mp
      refine ⟨o, vs, f1, t1, f2, t2, b3, i4, t4, hidT_get e (clear_ e (by rw [dt]; intro _ _ q; cases q) ?_), kc, dt, tb, more⟩
      rw [dt]
      intro q
      cases q
      cases (show (none : Option Value) = some _ from tb)
    · obtain ⟨bm, o, g1, g2, g3, g4, g5, g6⟩ := bmod
      have apart : ∀ {b u}, s.heap.get? b = some u → u.data ≠ .plain → bm ≠ b := by
        rintro b u e n rfl
        cases g3.symm.trans e
        exact n g6
      refine ⟨bm, o, g1, g2, ?_, ?_, hidT_get g3 (clear_ g3 (by rw [g6]; intro _ _ q; cases q) (by rw [g6]; intro q; cases q)), g4, g5, g6⟩
      · obtain ⟨u, _, _, e, d, _⟩ := gl
        exact apart e (by rw [d]; intro q; cases q)
      · exact apart (tab p mp) (by intro q; cases q)
    · obtain ⟨u, _, _, e, d, _⟩ := gl
      intro q
      rw [q] at e
      cases (tab p mp).symm.trans e
      cases d
  have env : Env0 P w K mg (hidT s.heap H) callerA [] s H := ⟨rfl, mod, fun b o e => of_hidT e, Nat.le_of_eq (hidT_size _ _), trivial, fun b h => absurd (show b ∈ ([] : List Addr) from h) (by simp), hok, .of_eq gen⟩
  apply codeAny_mono ((F _ kin' (names gl) (mods.imp fun _ z => names z) TB).go (us := [.ref a]) (vs := [.ref a]) rfl room env (bind s (.ref a)) (.cons rfl .nil) (prom H (fun p mp => tabs _ (seen p mp)) seq))
  rintro (e | fl) t z
  · exact z.elim
  cases fl with
  | next => exact z.elim
  | brk => exact z.elim
  | cont => exact z.elim
  | ret u =>
    obtain ⟨v, G, os, bare, un, hok', rl, q⟩ := z
    cases (show v = .bl true from q)
    cases (show u = Value.bool true from rl)
    refine ⟨rfl, ?_, os, bare⟩
    have stay : ∀ b o, b ∉ cs.map (·.2) → s.heap.get? b = some o → t.heap.get? b = some o := by
      intro b o n e
      cases z : H b with
      | none => exact un.keep b o e z (by simp [frs]) (by simp)
      | some u =>
        rcases kinds b u z with ⟨rfl, _, rfl⟩ | ⟨m, _⟩
        · cases ob.symm.trans e
          exact (hok' b _ (un.frzs b _ _ z)).1
        · exact (n m).elim
    have grown : ∀ p ∈ cs, ∃ more : Array Value, t.heap.get? p.2 = some { cls := .none, data := .fields more } := by
      intro p mp
      obtain ⟨more, z⟩ := un.tbls p.2 #[] (tabs _ (seen p mp))
      exact ⟨_, hok' p.2 _ z⟩
    constructor
    · intro b o e
      by_cases m : b ∈ cs.map (·.2)
      · obtain ⟨p, mp, rfl⟩ := List.mem_map.mp m
        obtain ⟨more, z⟩ := grown p mp
        cases (tab p mp).symm.trans e
        exact .inr (.inl ⟨((code p mp).tab (tab p mp)).isCodeTable, rfl, #[], more, rfl, by rw [Array.empty_append]; exact z⟩)
      · exact .inl (stay b o m e)
    · intro b o e
      by_cases m : b ∈ cs.map (·.2)
      · obtain ⟨p, mp, rfl⟩ := List.mem_map.mp m
        obtain ⟨more, z⟩ := grown p mp
        exact ⟨_, z⟩
      · exact ⟨o, stay b o m e⟩
/-- what k_head leaves, from the law's promise, with tables -/
theorem walk_GT {l : PySem.W.OpenLaw} {n k : Nat} {q : Program} {loose : List Str} {XP : (Str → Option Value) → Heap → Prop} {YP : World → Heap → Prop} {d : DefRec} {K : Params → PySem.W.Frag} {cs : List (Addr × Addr)} {sp : PySem.W.Frag → Sp} {x : Str}
    (none : importsNone q = true) (hn : l.most = some n) (hn2 : n ≤ sizeLine) (hdf : d.params.defaults = []) (room : Room k callerA) (hY : ∀ (w : World) (h : Heap), YP w h → (K w.params).In h)
    (hT : ∀ (w : World) (h : Heap), YP w h → ∀ p ∈ cs, h.get? p.2 = some { cls := .none, data := .fields #[] }) (hC : ∀ (w : World) (h : Heap), YP w h → ∀ p ∈ cs, PySem.W.CodeHd h p.1 p.2) (nT : ∀ w : World, ∀ p ∈ cs, (K w.params).lookup p.2 = .none)
    (F : ∀ (w : World) (mg : Str → Option Value) (fa : Addr) (h : Heap), (K w.params).In h → h.Ns mainGlobals mg → mg d.name = some (.ref fa) →
      ∃ fd : FuncData, (∀ (t : Shared) (u : Value), BindsTo t fd ⟨[u], []⟩ [(x, u)]) ∧ ∀ base : Heap, (K w.params).In base → base.Ns mainGlobals mg → HasMods base → (∀ p ∈ cs, TabB base mg p.1 p.2) → FnG l.prog w (K w.params) mg base k fa fd [x] (sp (K w.params)))
    (prom : ∀ (K : PySem.W.Frag) (H : Hp) (a : Addr) (ns : List Int), ns.length ≤ n → (∀ p ∈ cs, H p.2 = some (.tbl #[])) → SqL K H a (ns.map V.int) → sp K [.ref a] H (fun v _ => v = .bl true) fun _ _ _ => False) :
    PySem.W.WalkO q loose XP YP l.row.toRowW d [] (fun f vs => PySem.call f vs) := by
  apply Att.attach_call hn hdf
  intro w s0 s1 mg mb fa o pm cd dc a us ns G Y _ _ _ hmg hobj nums hlen hg
  have md : HasMods s1.heap := let ⟨mm, z, _⟩ := (G.T.seer none).mods; ⟨mm, z⟩
  obtain ⟨fd, hb, hF⟩ := F w mg fa _ (hY w _ Y) G.T.g hmg
  exact law_goTs (hY w _ Y) G.T.g G.T.b G.T.builtins G.T.nolimit md hg (hT w _ Y) (nT w) (hC w _ Y) G.T.bmain hobj nums (Nat.le_trans hlen hn2) room hF hb fun H hH hS => prom _ H a ns hlen hH hS
end Rp
namespace Rp
open PySem PySem.Spec PyProof.Rows L2
/-- the rule for a def that errors may leave -/
theorem fnx {P : Program} {w : World} {K : PySem.W.Frag} {mg : Str → Option Value} {base : Heap} {k : Nat} {f : Addr} {fd : FuncData} {ps : List Str} {sp : Sp} {x qual : Str} {st : Stmt} {N : List Str} (F : Fun K x qual st f fd) (S : FnScope N ps (defScope st)) (ar : ∀ {vs H Q E}, sp vs H Q E → vs.length = ps.length)
    (body : ∀ {cdv : Value} {A : Around} {fr : List Env} {s : Shared} {H : Hp} {vs : List V} {Q : VK} {E : XK}, Room k (A.deeper (envOfC qual (defScope st) s.heap.objs.size f cdv)) → sp vs H Q E →
      ∃ t, PSs (cxOf (L2.CX P w) P w K mg base N qual (defScope st) f cdv A fr s H E) (defBody st) t ∧ t ⟨fun _ G => Q .non G, Q, fun _ _ => False, fun _ _ => False⟩ (L2.start N vs) H) : FnOk P w K mg base (L2.CX P w) (k + 1) f fd ps sp :=
  F.okX S (fun _ _ _ _ h => ar h) fun _ _ _ _ _ _ _ _ r h => body r h
/-- an error of one field is E's -/
def errAt (E : XK) (C : Addr) (f : Str) (v : V) (H : Hp) : Prop := ∀ d, H d = none → E (.ref C) (some d) (upd H d (.xd [(f, v)]))
def spDemClock (C : Addr) : Sp := fun vs H Q E => ∃ q v, vs = [v] ∧ Any q H v ∧ (clk v = true → Q .non H) ∧ (clk v = false → errAt E C "part" (.str "clock") H)
def spDemWithin (C : Addr) : Sp := fun vs H Q E => ∃ q v lo hi part, vs = [v, oV lo, oV hi, .str part] ∧ Any q H v ∧ (inB v lo hi = true → Q .non H) ∧ (inB v lo hi = false → errAt E C "part" (.str part) H)
/-- a row of the clock, of lo to hi numbers -/
def rowOk (o : Option (List V)) (clock lo hi : Int) : Bool :=
  match o with
  | none => false
  | some xs => (decide (lo ≤ (xs.length : Int)) && decide ((xs.length : Int) ≤ hi)) && xs.all fun x => inB x (some 0) (some (clock - 1))
def spDemRow (C : Addr) : Sp := fun vs H Q E => ∃ q v o clock lo hi part, vs = [v, .int clock, .int lo, .int hi, .str part] ∧ RowV q H v o ∧ clk (.int clock) = true ∧ (∀ xs, o = some xs → xs.length < sizeLine) ∧
  ∀ H', Same H H' → (rowOk o clock lo hi = true → Q .non H') ∧ (rowOk o clock lo hi = false → errAt E C "part" (.str part) H')
section
variable {K : PySem.W.Frag} {σ : L2.St} {H : Hp} {Q : XK} {W : WX} {D : Ends} {te : TE} {C : Addr} {f : Str} {sp : Sp} {t : TA} {E : XK} {Q' : VK} {tm : L2.St → Hp → XK → Prop}
theorem r_izipA {K : PySem.W.Frag} {ta : TA} {σ : L2.St} {H : Hp} {R : It → Hp → Prop} (h : ta σ H fun vs H1 => ∃ a b xs ys, vs = [.ref a, .ref b] ∧ ((SqL K H1 a xs ∧ SqL K H1 b ys ∧ R (Itz K a b) H1) ∨ (SqT K H1 a xs ∧ SqT K H1 b ys ∧ R (RZ.ItzT K a b) H1))) : RZ.iZipA K ta σ H R := h
theorem r_izip {K : PySem.W.Frag} {ta : TA} {σ : L2.St} {H : Hp} {R : It → Hp → Prop} (h : ta σ H fun vs H1 => ∃ a b xs ys, vs = [.ref a, .ref b] ∧ SqL K H1 a xs ∧ SqL K H1 b ys ∧ R (Itz K a b) H1) : iZip K ta σ H R := h
theorem r_err (h : te σ H fun v H1 => ∀ d, H1 d = none → Q (.ref C) (some d) (upd H1 d (.xd [(f, v)]))) : tErr C f te σ H Q := h
theorem r_raise (h : tm σ H fun cls d H' => E cls d H') : (fun (_ : Ends) σ H => tm σ H fun cls d H' => (fun cls d (_ : L2.St) H => E cls d H) cls d σ H') D σ H := h
end
end Rp
namespace Rp
open PySem PySem.Spec PyProof.Rows L2
/-! ### what a caught error is asked -/
/-- isinstance(e, C): e a tracked error, or any value of a kind that is known -/
def rIsO (K : PySem.W.Frag) : List V → Hp → VK → Prop := fun xs H Q => rIsT K xs H Q ∨ rIsi K xs H Q
theorem call_isO {X : Cx} : CallR X (.builtin "isinstance") (rIsO X.K) := by
  intro pins s σ H xs us Q I r h
  rcases h with h | h
  · exact call_isT pins s σ H xs us Q I r h
  · exact call_isi pins s σ H xs us Q I r h
/-- an error's class, as a clause and isinstance see it -/
structure ErrK (K : PySem.W.Frag) (C top : Addr) (f : Str) : Prop where
  ex : ExcC K C
  xf : XfC K C
  no : PySem.W.findIn K (.ref C) f = some none
  up : PySem.W.exmOne K (.ref C) (.ref top) = some true
  nn : PySem.W.kitOne K (.type "NoneType") (.ref C) = some false
section
variable {K : PySem.W.Frag} {H : Hp} {Q : VK} {a C D top dx : Addr} {fs : List (Str × V)} {f : Str} {b : Bool} {σ : L2.St} {te : TE}
theorem r_isE (T : ErrK K C top f) (ha : H a = some (ErO a (.ref C) (some dx))) (hd : H dx = some (.xd fs)) (k : PySem.W.kitOne K (.ref C) (.ref D) = some b) (h : Q (.bl b) H) : rIsO K [.ref a, .ref D] H Q :=
  .inl ⟨a, C, dx, fs, .ref D, .ref D, b, rfl, T.ex, ha, hd, fun _ r => r, k, h⟩
theorem r_isNo (T : ErrK K D top f) (h : Q (.bl false) H) : rIsO K [.non, .ref D] H Q := .inr ⟨.non, .ref D, _, .ref D, false, rfl, .own D, .base .non, T.nn, h⟩
theorem r_xt {n : Str} (h : te σ H fun x H1 => ∃ (a C dd : Addr) (fs : List (Str × V)) (v : V), x = .ref a ∧ XfC K C ∧ PySem.W.findIn K (.ref C) n = some none ∧ H1 a = some (ErO a (.ref C) (some dd)) ∧ H1 dd = some (.xd fs) ∧ fs.lookup n = some v ∧ Q v H1) : tXt K n te σ H Q := h
end
/-- the slots are as many as the names -/
theorem takes_len {X : Cx} {W : WX} (h : Takes X W) : Takes X (fun cls d σ H => σ.length = X.N.length → W cls d σ H) := by
  rintro u s' ⟨a, B, sI, pins, σ, H, cls, d, e1, I, e2, e3, e4, e5, e6, e7, w⟩
  exact h u s' ⟨a, B, sI, pins, σ, H, cls, d, e1, I, e2, e3, e4, e5, e6, e7, w I.len⟩
/-- the try's body, where what was got is called -/
def tTake (f c' : Addr) (q : Str) (n : Nat) (tl : XK → Hp → VK → Prop) (W : WX) : TS := fun D σ H => ∃ (Ech : XK) (R0 : VK), (∀ cls d σ' H', Ech cls d H' → σ'.length = n → W cls d σ' H') ∧ σ[0]? = some (some (.ref f)) ∧ H c' = some (LamX.CodeO c' q) ∧ tl Ech H R0 ∧ ∀ v G, R0 v G → D.nx σ G
theorem pss_take {X : Cx} {f c' : Addr} {q a : Str} {n : Nat} {tl : XK → Hp → VK → Prop} {W : WX} {p1 p2 p3 : Pos} (ln : X.N.length = n) (tk : Takes X W)
    (act : ∀ E : XK, Takes X (fun cls d σ H => σ.length = X.N.length → W cls d σ H) → (∀ cls d σ' H', E cls d H' → σ'.length = X.N.length → W cls d σ' H') → PE X (.Call (.Name a p1) [] [] p2) (fun σZ HZ Q => σZ[0]? = some (some (.ref f)) ∧ HZ c' = some (LamX.CodeO c' q) ∧ tl E HZ Q))
    (sw : swapsWith (.Call (.Name a p1) [] [] p2) none p3.line X.env = pure false := by rfl) : PSs X [.Expr (.Call (.Name a p1) [] [] p2) p3] (tTake f c' q n tl W) := by
  constructor
  rintro pins s σ H D I ⟨Ech, R0, h1, h2, h3, h4, h5⟩
  have hp := act Ech (takes_len tk) fun cls d σ' H' e l => h1 cls d σ' H' e (l.trans ln)
  exact (pss_one (ps_expr (pe_mono hp) sw)).run pins s σ H D I ⟨R0, ⟨h2, h3, h4⟩, h5⟩
end Rp
namespace Rp
open PySem PySem.Spec PyProof.Rows L2 LamX
section
variable {K : PySem.W.Frag} {σ : L2.St} {H : Hp} {Q : VK} {T : List (Addr × Str)} {TT : (XK → Hp → VK → Prop) → Hp → VK → Prop} {t : XK → TE}
theorem r_lam (h : Tabs T H ∧ ∀ H1, ExtN H H1 → Tabs T H1 → TT (fun E H' Q' => t E σ H' Q') H1 Q) : tLam T TT t σ H Q := h
end
theorem any_ext {q : Addr} {H H' : Hp} {v : V} (h : Any q H v) (x : ExtN H H') : Any q H' v := by
  cases h with
  | non => exact .non
  | bl b => exact .bl b
  | num i => exact .num i
  | str z => exact .str z
  | lst n e => exact .lst n (x _ _ e fun _ z => by cases z)
  | tup n e => exact .tup n (x _ _ e fun _ z => by cases z)
  | dic n e => exact .dic n (x _ _ e fun _ z => by cases z)
theorem row_ext {q : Addr} {H H' : Hp} {v : V} {o : Option (List V)} (h : RowV q H v o) (x : ExtN H H') : RowV q H' v o := by
  cases h with
  | non => exact .non
  | bl b => exact .bl b
  | num i => exact .num i
  | str z => exact .str z
  | lst n e it => exact .lst n (x _ _ e fun _ z => by cases z) fun v m => any_ext (it v m) x
  | tup n e it => exact .tup n (x _ _ e fun _ z => by cases z) fun v m => any_ext (it v m) x
  | dic n e => exact .dic n (x _ _ e fun _ z => by cases z)
theorem ext_same {H H1 H2 : Hp} (x : ExtN H H1) (s : Same H1 H2) : ExtN H H2 := x.trans (ExtN.of s)
theorem ext_neu {H H1 : Hp} {p : Addr} {o : HO} (x : ExtN H H1) (hp : H1 p = none) : ExtN H (upd H1 p o) := ext_same x (same_neu (Same.refl _) hp)
theorem tabs_same {T : List (Addr × Str)} {H H' : Hp} (t : Tabs T H) (s : Same H H') : Tabs T H' := t.ext s
end Rp
local macro_rules | `(tactic| walk_at "re") => `(tactic| with_reducible first
  | refine Rp.r_op ?_ | refine Rp.r_test ?_ | refine Rp.r_if ?_ | refine Rp.r_asg ?_ | refine Rp.r_ret ?_
  | refine Rp.r_cb ?_ | refine Rp.r_cons ?_ | refine Rp.r_nil ?_ | refine Rp.r_c ?_ | refine Rp.r_gname ?_ | refine Rp.r_gsub ?_ | refine Rp.r_next ?_ | refine Rp.r_drop ?_
  | refine Rp.r_I0 ?_ | refine Rp.r_tb ?_ | refine Rp.r_not ?_ | refine Rp.r_and ?_ | refine Rp.r_or ?_ | refine Rp.r_sl ?_ | refine Rp.r_pnone ?_ | refine Rp.r_pint ?_
  | refine Rp.r_lst ?_ | refine Rp.r_tup ?_ | refine Rp.r_lc ?_ | refine Rp.r_ilist ?_ | refine Rp.r_itup ?_ | refine Rp.r_irng1 ?_ | refine Rp.r_irng2 ?_ | refine Rp.r_for ?_ | refine Rp.r_par ?_ | refine Rp.r_go ?_ | refine Rp.r_kw ?_ | refine Rp.r_disp ?_ | refine Rp.r_pair ?_ | refine Rp.r_pair0 ?_ | refine Rp.r_chain ?_ | refine Rp.r_U ?_ | refine Rp.r_gtup ?_ | refine Rp.r_un ?_ | refine Rp.r_ifx ?_ | refine Rp.r_bl ?_ | refine Rp.r_andV ?_ | refine Rp.r_orV ?_ | refine Rp.r_notV ?_ | refine Rp.r_call ?_ | refine Rp.r_yes ?_ | refine Rp.r_true ?_ | refine Rp.r_false ?_ | refine Rp.r_truen ?_ | refine Rp.r_falsen ?_ | refine Rp.r_goE ?_ | refine Rp.r_err ?_ | refine Rp.r_izipA ?_ | refine Rp.r_izip ?_ | refine Rp.r_lam ?_ | refine Rp.r_xt ?_)
local macro_rules | `(tactic| walk_at "ex") => `(tactic| with_reducible first | refine Rp.r_op ?_ | refine Rp.r_test ?_ | refine Rp.r_cb ?_ | refine Rp.r_cons ?_ | refine Rp.r_nil ?_ | refine Rp.r_c ?_ | refine Rp.r_gname ?_ | refine Rp.r_gsub ?_ | refine Rp.r_I0 ?_ | refine Rp.r_tb ?_ | refine Rp.r_not ?_ | refine Rp.r_and ?_ | refine Rp.r_or ?_ | refine Rp.r_sl ?_ | refine Rp.r_pnone ?_ | refine Rp.r_pint ?_ | refine Rp.r_lst ?_ | refine Rp.r_tup ?_ | refine Rp.r_lc ?_ | refine Rp.r_ilist ?_ | refine Rp.r_itup ?_ | refine Rp.r_irng1 ?_ | refine Rp.r_irng2 ?_ | refine Rp.r_go ?_ | refine Rp.r_kw ?_ | refine Rp.r_disp ?_ | refine Rp.r_pair ?_ | refine Rp.r_pair0 ?_ | refine Rp.r_chain ?_ | refine Rp.r_U ?_ | refine Rp.r_gtup ?_ | refine Rp.r_un ?_ | refine Rp.r_ifx ?_ | refine Rp.r_bl ?_ | refine Rp.r_andV ?_ | refine Rp.r_orV ?_ | refine Rp.r_notV ?_ | refine Rp.r_call ?_ | refine Rp.r_yes ?_ | refine Rp.r_true ?_ | refine Rp.r_false ?_ | refine Rp.r_truen ?_ | refine Rp.r_falsen ?_ | refine Rp.r_goE ?_ | refine Rp.r_err ?_ | refine Rp.r_izipA ?_ | refine Rp.r_izip ?_ | refine Rp.r_lam ?_ | refine Rp.r_xt ?_)
local macro_rules | `(tactic| walk_at "v") => `(tactic| ((with_reducible refine Rp.r_varE ?_); refine ⟨_, rfl, ?_⟩))
local macro_rules | `(tactic| walk_at "rex") => `(tactic| repeat (first | walk_at "ex" | walk_at "v"))
local macro_rules | `(tactic| walk_at "rd") => `(tactic| first | with_reducible refine Rp.r_seq ?_ | walk_at "re")
local macro_rules | `(tactic| walk_at "res") => `(tactic| repeat (first | walk_at "re" | walk_at "v"))
local macro_rules | `(tactic| walk_at "rds") => `(tactic| repeat (first | walk_at "rd" | walk_at "v"))
local macro_rules | `(tactic| walk_at "T") => `(tactic| (walk_at "rds"; refine L2.iteT ?_; walk_at "rds"))
local macro_rules | `(tactic| walk_at "F") => `(tactic| (walk_at "rds"; refine L2.iteF ?_; walk_at "rds"))
namespace K06
open PySem PySem.Spec PyProof.Rows L2 Rp LamX
def top (i : Nat) : Stmt := PySem.Challenge.pw_ropesays_k06_numbers_round_the_clock.main.body.getD i (.Pass ⟨0, 0, 0, 0⟩)
structure Ad where
  tp : Addr
  tM : Tok
  cN : Addr
  cC : Addr
  cR : Addr
  cM : Addr
  cE : Addr
structure Txt (K : PySem.W.Frag) (mg : Str → Option Value) (ad : Ad) : Prop where
  g_CLOCKS : mg "CLOCKS" = some (.ref ad.tp)
  o_CLOCKS : ∀ {H : Hp}, SqT K H ad.tp [.int 3, .int 5, .int 7, .int 11, .int 13, .int 17, .int 19, .int 23, .int 29, .int 31]
  g_MOST : mg "MOST_NUMBERS" = some (.int 400 ad.tM)
  g_BadNumber : mg "BadNumber" = some (.ref ad.cN)
  g_BadClock : mg "BadClock" = some (.ref ad.cC)
  g_BadRow : mg "BadRow" = some (.ref ad.cR)
  g_Misfit : mg "Misfit" = some (.ref ad.cM)
  g_RopeError : mg "RopeError" = some (.ref ad.cE)
  z_abs : mg "abs" = none
  z_all : mg "all" = none
  z_bool : mg "bool" = none
  z_int : mg "int" = none
  z_isinstance : mg "isinstance" = none
  z_len : mg "len" = none
  z_list : mg "list" = none
  z_range : mg "range" = none
  z_repr : mg "repr" = none
  z_tuple : mg "tuple" = none
  z_zip : mg "zip" = none

section
variable {P : Program} {w : World} {K : PySem.W.Frag} {mg : Str → Option Value} {base : Heap} {ad : Ad}
abbrev sIsInteger : Stmt := top 2
theorem scIsInteger : FnScope ["value"] ["value"] (defScope sIsInteger) := ⟨rfl, rfl, rfl, by decide +kernel, rfl, by decide +kernel, by decide +kernel⟩
theorem ok_IsInteger {f : Addr} {fd : FuncData} (F : Fun K "is_integer" "is_integer" sIsInteger f fd) (T : Txt K mg ad)  : FnOk P w K mg base (L2.CX P w) 1 f fd ["value"] spIsInt := by
  refine fnx F scIsInteger (fun {vs H Q E} h => ?_) (fun {cdv A fr s H vs Q E} hr h => ?_)
  · obtain ⟨q, v, rfl, ha, k⟩ := h
    rfl
  · obtain ⟨q, v, rfl, ha, k⟩ := h
    refine ⟨_, (PSs.nox (pss_one (ps_ret (pe_and (pe_callB call_isi (by rfl) T.z_isinstance (by decide +kernel) (pa_cons (pv 0) (pa_cons (pe_bltn (by rfl) T.z_int (by decide +kernel) (v := .ty "int") rfl) pa_nil))) (pe_one (pe_not (pe_callB call_isi (by rfl) T.z_isinstance (by decide +kernel) (pa_cons (pv 0) (pa_cons (pe_bltn (by rfl) T.z_bool (by decide +kernel) (v := .ty "bool") rfl) pa_nil))))))))), ?_⟩
    refine r_start (l := [some (v)]) rfl ?_
    walk_at "rds"
    obtain ⟨t, ty, kt⟩ := any_int (K := K) ha
    refine r_isi ty kt ?_
    walk_at "rds"
    have e0 := isI_eq v
    cases e : isIB v
    · walk_at "rds"
      rw [e] at e0
      rw [← e0] at k
      exact k
    · walk_at "rds"
      obtain ⟨t, ty, kt⟩ := any_bool (K := K) ha
      refine r_isi ty kt ?_
      walk_at "rds"
      rw [e, Bool.true_and] at e0
      rw [e0]
      exact k
abbrev sIsWithin : Stmt := top 3
theorem scIsWithin : FnScope ["value", "least", "most"] ["value", "least", "most"] (defScope sIsWithin) := ⟨rfl, rfl, rfl, by decide +kernel, rfl, by decide +kernel, by decide +kernel⟩
theorem ok_IsWithin {f : Addr} {fd : FuncData} (F : Fun K "is_within" "is_within" sIsWithin f fd) (T : Txt K mg ad) {f0 : Addr} {fd0 : FuncData} (cIsInteger : CalX P w K mg base "is_integer" 1 f0 fd0 ["value"] spIsInt) : FnOk P w K mg base (L2.CX P w) 2 f fd ["value", "least", "most"] spWithin := by
  refine fnx F scIsWithin (fun {vs H Q E} h => ?_) (fun {cdv A fr s H vs Q E} hr h => ?_)
  · obtain ⟨q, v, lo, hi, rfl, ha, k⟩ := h
    rfl
  · obtain ⟨q, v, lo, hi, rfl, ha, k⟩ := h
    refine ⟨_, (PSs.nox (pss_cons (ps_if (pt_not (pt_val (pe_goX cIsInteger (hr.mono (by decide)) (by rfl) (pa_cons (pv 0) pa_nil))))
  (pss_one (ps_ret pe_bl))
  pss_nil)
  (pss_one (ps_ret (pe_and (pe_or (pe_cmpR op_isN (pv 1) pe_non (nomark _)) (pe_one (pe_cmpR op_le (pv 1) (pv 0) (nomark _)))) (pe_one (pe_or (pe_cmpR op_isN (pv 2) pe_non (nomark _)) (pe_one (pe_cmpR op_le (pv 0) (pv 2) (nomark _)))))))))), ?_⟩
    refine r_start (l := [some (v), some (oV lo), some (oV hi)]) rfl ?_
    walk_at "rds"
    refine ⟨q, v, rfl, ha, ?_⟩
    walk_at "rds"
    cases v with
    | int i =>
      walk_at "F"
      refine ⟨rfl, ?_⟩
      cases lo with
      | none =>
        walk_at "rds"
        walk_at "T"
        refine ⟨rfl, ?_⟩
        cases hi with
        | none => walk_at "rds"; walk_at "T"; exact k
        | some u => walk_at "rds"; walk_at "F"; exact k
      | some l =>
        walk_at "rds"
        walk_at "F"
        have k' : Q (.bl (decide (l ≤ i) && inB (.int i) none hi)) H := by
          have e : inB (.int i) (some l) hi = (decide (l ≤ i) && inB (.int i) none hi) := by simp [inB]
          rw [← e]
          exact k
        revert k'
        cases decide (l ≤ i) with
        | false =>
          intro k'
          walk_at "rds"
          exact k'
        | true =>
          intro k'
          rw [Bool.true_and] at k'
          walk_at "rds"
          refine ⟨rfl, ?_⟩
          cases hi with
          | none => walk_at "rds"; walk_at "T"; exact k'
          | some u => walk_at "rds"; walk_at "F"; exact k'
    | non => walk_at "T"; exact k
    | bl b => walk_at "T"; exact k
    | str x => walk_at "T"; exact k
    | byt x => walk_at "T"; exact k
    | flt x => walk_at "T"; exact k
    | ref a => walk_at "T"; exact k
    | ty n => walk_at "T"; exact k
abbrev sIsClock : Stmt := top 4
theorem scIsClock : FnScope ["value"] ["value"] (defScope sIsClock) := ⟨rfl, rfl, rfl, by decide +kernel, rfl, by decide +kernel, by decide +kernel⟩
theorem ok_IsClock {f : Addr} {fd : FuncData} (F : Fun K "is_clock" "is_clock" sIsClock f fd) (T : Txt K mg ad) {f0 : Addr} {fd0 : FuncData} (cIsInteger : CalX P w K mg base "is_integer" 1 f0 fd0 ["value"] spIsInt) : FnOk P w K mg base (L2.CX P w) 2 f fd ["value"] spClock := by
  refine fnx F scIsClock (fun {vs H Q E} h => ?_) (fun {cdv A fr s H vs Q E} hr h => ?_)
  · obtain ⟨q, v, rfl, ha, k⟩ := h
    rfl
  · obtain ⟨q, v, rfl, ha, k⟩ := h
    refine ⟨_, (PSs.nox (pss_one (ps_ret (pe_and (pe_goX cIsInteger (hr.mono (by decide)) (by rfl) (pa_cons (pv 0) pa_nil)) (pe_one (pe_cmpR op_in_seq (pv 0) (pe_glob (v := .ref ad.tp) (by rfl) T.g_CLOCKS rfl) rfl)))))), ?_⟩
    refine r_start (l := [some (v)]) rfl ?_
    walk_at "rds"
    refine ⟨q, v, rfl, ha, ?_⟩
    walk_at "rds"
    cases v with
    | int i =>
      walk_at "T"
      refine ⟨_, _, rfl, .inr T.o_CLOCKS, rfl, rfl, ?_⟩
      have e : inV (.int i) [.int 3, .int 5, .int 7, .int 11, .int 13, .int 17, .int 19, .int 23, .int 29, .int 31] = clk (.int i) := by
        simp only [inV, clk, clocks, List.any_cons, List.any_nil, eqV, List.contains_cons, List.contains_nil, Bool.beq_comm (a := i)]
      show Q (.bl (inV (.int i) [.int 3, .int 5, .int 7, .int 11, .int 13, .int 17, .int 19, .int 23, .int 29, .int 31])) H
      rw [e]
      exact k
    | non => walk_at "F"; exact k
    | bl b => walk_at "F"; exact k
    | str x => walk_at "F"; exact k
    | byt x => walk_at "F"; exact k
    | flt x => walk_at "F"; exact k
    | ref a => walk_at "F"; exact k
    | ty n => walk_at "F"; exact k
abbrev sIsRow : Stmt := top 5
theorem scIsRow : FnScope ["value", "clock", "size", "number"] ["value", "clock", "size"] (defScope sIsRow) := ⟨rfl, rfl, rfl, by decide +kernel, rfl, by decide +kernel, by decide +kernel⟩
theorem ok_IsRow {f : Addr} {fd : FuncData} (F : Fun K "is_row" "is_row" sIsRow f fd) (T : Txt K mg ad) {f0 : Addr} {fd0 : FuncData} (cIsClock : CalX P w K mg base "is_clock" 2 f0 fd0 ["value"] spClock) {f1 : Addr} {fd1 : FuncData} (cIsWithin : CalX P w K mg base "is_within" 2 f1 fd1 ["value", "least", "most"] spWithin) : FnOk P w K mg base (L2.CX P w) 3 f fd ["value", "clock", "size"] spRow := by
  refine fnx F scIsRow (fun {vs H Q E} h => ?_) (fun {cdv A fr s H vs Q E} hr h => ?_)
  · obtain ⟨q, v, o, clock, size, rfl, _⟩ := h
    rfl
  · obtain ⟨q, v, o, clock, size, rfl, hv, hck, hln, k⟩ := h
    cases hv with
    | non =>
      refine ⟨_, (PSs.nox (pss_cons (ps_if (PW.pt (pw_or (pt_not (pt_val (pe_goX cIsClock (hr.mono (by decide)) (by rfl) (pa_cons (pv 1) pa_nil)))) (pw_or (pt_not (pt_val (pe_callB call_isiT (by rfl) T.z_isinstance (by decide +kernel) (pa_cons (pv 0) (pa_cons (pe_tup (pa_cons (pe_bltn (by rfl) T.z_list (by decide +kernel) (v := .ty "list") rfl) (pa_cons (pe_bltn (by rfl) T.z_tuple (by decide +kernel) (v := .ty "tuple") rfl) pa_nil))) pa_nil))))) (pw_or1 (pt_cmpR op_ne (pe_callB call_len_seq (by rfl) T.z_len PySem.boot_len (pa_cons (pv 0) pa_nil)) (pv 2) (nomark _))))))
      (pss_one (ps_ret pe_bl))
      pss_nil)
      (pss_one (ps_ret (pe_callB (cr_all rfl) (by rfl) T.z_all (by decide +kernel) (pa_cons (pe_lc (own := [("number", 3)]) (g := gName 3) (tt := tYes) rfl scIsRow.nd (pi_list (pv 0)) (blkOk_by (own := [("number", 3)]) (N := ["value", "clock", "size", "number"]) (sc := defScope sIsRow) (by decide +kernel)) (fun _ _ _ _ _ => (pg_name (i := 3) scIsRow.nd rfl (Or.inl rfl))) (fun _ _ _ _ _ => pts_nil) (fun _ _ _ _ _ => (pe_goX cIsWithin (hr.mono (by decide)) (by rfl) (pa_cons (pv 3) (pa_cons pe_int (pa_cons (pe_op op_sub (pv 1) pe_int) pa_nil)))))) pa_nil)))))), ?_⟩
      refine r_start (l := [some (V.non), some (.int clock), some (.int size), none]) rfl ?_
      have hv : RowV q H (V.non) none := by constructor <;> assumption
      walk_at "rds"
      refine ⟨q, .int clock, rfl, .num _, ?_⟩
      rw [hck]
      walk_at "rds"
      refine ⟨len_ok rfl, fun p hp => ?_⟩
      have s1 : Same H (upd H p (.tup [.ty "list", .ty "tuple"])) := same_neu (Same.refl H) hp
      have b1 : But q H (upd H p (.tup [.ty "list", .ty "tuple"])) := (But.refl q H).neu hp
      walk_at "rds"
      obtain ⟨t, ty, kt⟩ := row_seq (K := K) (hv.but b1)
      refine r_isiT upd_same ty kt ?_
      walk_at "T"
      exact k _ s1
    | bl b =>
      refine ⟨_, (PSs.nox (pss_cons (ps_if (PW.pt (pw_or (pt_not (pt_val (pe_goX cIsClock (hr.mono (by decide)) (by rfl) (pa_cons (pv 1) pa_nil)))) (pw_or (pt_not (pt_val (pe_callB call_isiT (by rfl) T.z_isinstance (by decide +kernel) (pa_cons (pv 0) (pa_cons (pe_tup (pa_cons (pe_bltn (by rfl) T.z_list (by decide +kernel) (v := .ty "list") rfl) (pa_cons (pe_bltn (by rfl) T.z_tuple (by decide +kernel) (v := .ty "tuple") rfl) pa_nil))) pa_nil))))) (pw_or1 (pt_cmpR op_ne (pe_callB call_len_seq (by rfl) T.z_len PySem.boot_len (pa_cons (pv 0) pa_nil)) (pv 2) (nomark _))))))
      (pss_one (ps_ret pe_bl))
      pss_nil)
      (pss_one (ps_ret (pe_callB (cr_all rfl) (by rfl) T.z_all (by decide +kernel) (pa_cons (pe_lc (own := [("number", 3)]) (g := gName 3) (tt := tYes) rfl scIsRow.nd (pi_list (pv 0)) (blkOk_by (own := [("number", 3)]) (N := ["value", "clock", "size", "number"]) (sc := defScope sIsRow) (by decide +kernel)) (fun _ _ _ _ _ => (pg_name (i := 3) scIsRow.nd rfl (Or.inl rfl))) (fun _ _ _ _ _ => pts_nil) (fun _ _ _ _ _ => (pe_goX cIsWithin (hr.mono (by decide)) (by rfl) (pa_cons (pv 3) (pa_cons pe_int (pa_cons (pe_op op_sub (pv 1) pe_int) pa_nil)))))) pa_nil)))))), ?_⟩
      refine r_start (l := [some (V.bl b), some (.int clock), some (.int size), none]) rfl ?_
      have hv : RowV q H (V.bl b) none := by constructor <;> assumption
      walk_at "rds"
      refine ⟨q, .int clock, rfl, .num _, ?_⟩
      rw [hck]
      walk_at "rds"
      refine ⟨len_ok rfl, fun p hp => ?_⟩
      have s1 : Same H (upd H p (.tup [.ty "list", .ty "tuple"])) := same_neu (Same.refl H) hp
      have b1 : But q H (upd H p (.tup [.ty "list", .ty "tuple"])) := (But.refl q H).neu hp
      walk_at "rds"
      obtain ⟨t, ty, kt⟩ := row_seq (K := K) (hv.but b1)
      refine r_isiT upd_same ty kt ?_
      walk_at "T"
      exact k _ s1
    | num i =>
      refine ⟨_, (PSs.nox (pss_cons (ps_if (PW.pt (pw_or (pt_not (pt_val (pe_goX cIsClock (hr.mono (by decide)) (by rfl) (pa_cons (pv 1) pa_nil)))) (pw_or (pt_not (pt_val (pe_callB call_isiT (by rfl) T.z_isinstance (by decide +kernel) (pa_cons (pv 0) (pa_cons (pe_tup (pa_cons (pe_bltn (by rfl) T.z_list (by decide +kernel) (v := .ty "list") rfl) (pa_cons (pe_bltn (by rfl) T.z_tuple (by decide +kernel) (v := .ty "tuple") rfl) pa_nil))) pa_nil))))) (pw_or1 (pt_cmpR op_ne (pe_callB call_len_seq (by rfl) T.z_len PySem.boot_len (pa_cons (pv 0) pa_nil)) (pv 2) (nomark _))))))
      (pss_one (ps_ret pe_bl))
      pss_nil)
      (pss_one (ps_ret (pe_callB (cr_all rfl) (by rfl) T.z_all (by decide +kernel) (pa_cons (pe_lc (own := [("number", 3)]) (g := gName 3) (tt := tYes) rfl scIsRow.nd (pi_list (pv 0)) (blkOk_by (own := [("number", 3)]) (N := ["value", "clock", "size", "number"]) (sc := defScope sIsRow) (by decide +kernel)) (fun _ _ _ _ _ => (pg_name (i := 3) scIsRow.nd rfl (Or.inl rfl))) (fun _ _ _ _ _ => pts_nil) (fun _ _ _ _ _ => (pe_goX cIsWithin (hr.mono (by decide)) (by rfl) (pa_cons (pv 3) (pa_cons pe_int (pa_cons (pe_op op_sub (pv 1) pe_int) pa_nil)))))) pa_nil)))))), ?_⟩
      refine r_start (l := [some (V.int i), some (.int clock), some (.int size), none]) rfl ?_
      have hv : RowV q H (V.int i) none := by constructor <;> assumption
      walk_at "rds"
      refine ⟨q, .int clock, rfl, .num _, ?_⟩
      rw [hck]
      walk_at "rds"
      refine ⟨len_ok rfl, fun p hp => ?_⟩
      have s1 : Same H (upd H p (.tup [.ty "list", .ty "tuple"])) := same_neu (Same.refl H) hp
      have b1 : But q H (upd H p (.tup [.ty "list", .ty "tuple"])) := (But.refl q H).neu hp
      walk_at "rds"
      obtain ⟨t, ty, kt⟩ := row_seq (K := K) (hv.but b1)
      refine r_isiT upd_same ty kt ?_
      walk_at "T"
      exact k _ s1
    | str x =>
      refine ⟨_, (PSs.nox (pss_cons (ps_if (PW.pt (pw_or (pt_not (pt_val (pe_goX cIsClock (hr.mono (by decide)) (by rfl) (pa_cons (pv 1) pa_nil)))) (pw_or (pt_not (pt_val (pe_callB call_isiT (by rfl) T.z_isinstance (by decide +kernel) (pa_cons (pv 0) (pa_cons (pe_tup (pa_cons (pe_bltn (by rfl) T.z_list (by decide +kernel) (v := .ty "list") rfl) (pa_cons (pe_bltn (by rfl) T.z_tuple (by decide +kernel) (v := .ty "tuple") rfl) pa_nil))) pa_nil))))) (pw_or1 (pt_cmpR op_ne (pe_callB call_len_seq (by rfl) T.z_len PySem.boot_len (pa_cons (pv 0) pa_nil)) (pv 2) (nomark _))))))
      (pss_one (ps_ret pe_bl))
      pss_nil)
      (pss_one (ps_ret (pe_callB (cr_all rfl) (by rfl) T.z_all (by decide +kernel) (pa_cons (pe_lc (own := [("number", 3)]) (g := gName 3) (tt := tYes) rfl scIsRow.nd (pi_list (pv 0)) (blkOk_by (own := [("number", 3)]) (N := ["value", "clock", "size", "number"]) (sc := defScope sIsRow) (by decide +kernel)) (fun _ _ _ _ _ => (pg_name (i := 3) scIsRow.nd rfl (Or.inl rfl))) (fun _ _ _ _ _ => pts_nil) (fun _ _ _ _ _ => (pe_goX cIsWithin (hr.mono (by decide)) (by rfl) (pa_cons (pv 3) (pa_cons pe_int (pa_cons (pe_op op_sub (pv 1) pe_int) pa_nil)))))) pa_nil)))))), ?_⟩
      refine r_start (l := [some (V.str x), some (.int clock), some (.int size), none]) rfl ?_
      have hv : RowV q H (V.str x) none := by constructor <;> assumption
      walk_at "rds"
      refine ⟨q, .int clock, rfl, .num _, ?_⟩
      rw [hck]
      walk_at "rds"
      refine ⟨len_ok rfl, fun p hp => ?_⟩
      have s1 : Same H (upd H p (.tup [.ty "list", .ty "tuple"])) := same_neu (Same.refl H) hp
      have b1 : But q H (upd H p (.tup [.ty "list", .ty "tuple"])) := (But.refl q H).neu hp
      walk_at "rds"
      obtain ⟨t, ty, kt⟩ := row_seq (K := K) (hv.but b1)
      refine r_isiT upd_same ty kt ?_
      walk_at "T"
      exact k _ s1
    | @dic a kvs n e =>
      refine ⟨_, (PSs.nox (pss_cons (ps_if (PW.pt (pw_or (pt_not (pt_val (pe_goX cIsClock (hr.mono (by decide)) (by rfl) (pa_cons (pv 1) pa_nil)))) (pw_or (pt_not (pt_val (pe_callB call_isiT (by rfl) T.z_isinstance (by decide +kernel) (pa_cons (pv 0) (pa_cons (pe_tup (pa_cons (pe_bltn (by rfl) T.z_list (by decide +kernel) (v := .ty "list") rfl) (pa_cons (pe_bltn (by rfl) T.z_tuple (by decide +kernel) (v := .ty "tuple") rfl) pa_nil))) pa_nil))))) (pw_or1 (pt_cmpR op_ne (pe_callB call_len_seq (by rfl) T.z_len PySem.boot_len (pa_cons (pv 0) pa_nil)) (pv 2) (nomark _))))))
      (pss_one (ps_ret pe_bl))
      pss_nil)
      (pss_one (ps_ret (pe_callB (cr_all rfl) (by rfl) T.z_all (by decide +kernel) (pa_cons (pe_lc (own := [("number", 3)]) (g := gName 3) (tt := tYes) rfl scIsRow.nd (pi_list (pv 0)) (blkOk_by (own := [("number", 3)]) (N := ["value", "clock", "size", "number"]) (sc := defScope sIsRow) (by decide +kernel)) (fun _ _ _ _ _ => (pg_name (i := 3) scIsRow.nd rfl (Or.inl rfl))) (fun _ _ _ _ _ => pts_nil) (fun _ _ _ _ _ => (pe_goX cIsWithin (hr.mono (by decide)) (by rfl) (pa_cons (pv 3) (pa_cons pe_int (pa_cons (pe_op op_sub (pv 1) pe_int) pa_nil)))))) pa_nil)))))), ?_⟩
      refine r_start (l := [some (V.ref a), some (.int clock), some (.int size), none]) rfl ?_
      have hv : RowV q H (V.ref a) none := by constructor <;> assumption
      walk_at "rds"
      refine ⟨q, .int clock, rfl, .num _, ?_⟩
      rw [hck]
      walk_at "rds"
      refine ⟨len_ok rfl, fun p hp => ?_⟩
      have s1 : Same H (upd H p (.tup [.ty "list", .ty "tuple"])) := same_neu (Same.refl H) hp
      have b1 : But q H (upd H p (.tup [.ty "list", .ty "tuple"])) := (But.refl q H).neu hp
      walk_at "rds"
      obtain ⟨t, ty, kt⟩ := row_seq (K := K) (hv.but b1)
      refine r_isiT upd_same ty kt ?_
      walk_at "T"
      exact k _ s1
    | @lst a xs n e it =>
      refine ⟨_, (PSs.nox (pss_cons (ps_if (PW.pt (pw_or (pt_not (pt_val (pe_goX cIsClock (hr.mono (by decide)) (by rfl) (pa_cons (pv 1) pa_nil)))) (pw_or (pt_not (pt_val (pe_callB call_isiT (by rfl) T.z_isinstance (by decide +kernel) (pa_cons (pv 0) (pa_cons (pe_tup (pa_cons (pe_bltn (by rfl) T.z_list (by decide +kernel) (v := .ty "list") rfl) (pa_cons (pe_bltn (by rfl) T.z_tuple (by decide +kernel) (v := .ty "tuple") rfl) pa_nil))) pa_nil))))) (pw_or1 (pt_cmpR op_ne (pe_callB call_len_seq (by rfl) T.z_len PySem.boot_len (pa_cons (pv 0) pa_nil)) (pv 2) (nomark _))))))
      (pss_one (ps_ret pe_bl))
      pss_nil)
      (pss_one (ps_ret (pe_callB (cr_all rfl) (by rfl) T.z_all (by decide +kernel) (pa_cons (pe_lc (own := [("number", 3)]) (g := gName 3) (tt := tYes) rfl scIsRow.nd (pi_list (pv 0)) (blkOk_by (own := [("number", 3)]) (N := ["value", "clock", "size", "number"]) (sc := defScope sIsRow) (by decide +kernel)) (fun _ _ _ _ _ => (pg_name (i := 3) scIsRow.nd rfl (Or.inl rfl))) (fun _ _ _ _ _ => pts_nil) (fun _ _ _ _ _ => (pe_goX cIsWithin (hr.mono (by decide)) (by rfl) (pa_cons (pv 3) (pa_cons pe_int (pa_cons (pe_op op_sub (pv 1) pe_int) pa_nil)))))) pa_nil)))))), ?_⟩
      refine r_start (l := [some (V.ref a), some (.int clock), some (.int size), none]) rfl ?_
      walk_at "rds"
      refine ⟨q, .int clock, rfl, .num _, ?_⟩
      rw [hck]
      walk_at "rds"
      refine ⟨len_ok rfl, fun p hp => ?_⟩
      have s1 : Same H (upd H p (.tup [.ty "list", .ty "tuple"])) := same_neu (Same.refl H) hp
      have b1 : But q H (upd H p (.tup [.ty "list", .ty "tuple"])) := (But.refl q H).neu hp
      walk_at "rds"
      obtain ⟨t, ty, kt⟩ := row_seq (K := K) ((RowV.lst n e it).but b1)
      refine r_isiT upd_same ty kt ?_
      generalize upd H p _ = H1 at s1 b1
      clear ty
      walk_at "F"
      have e1 := b1 _ _ n e
      refine ⟨_, _, rfl, .inl (SqL.of e1), ?_⟩
      walk_at "rds"
      refine ⟨rfl, ?_⟩
      walk_at "rds"
      by_cases hlen : (xs.length : Int) = size
      · rw [show decide (V.int (xs.length : Int) = V.int size) = true from decide_eq_true (by rw [hlen])]
        walk_at "rds"
        refine ⟨a, rfl, ⟨_, SqL.of e1⟩, fun D hD => ?_⟩
        have D0 : D ≠ a := (ne_of_none e1 hD).symm
        refine lc_list (K := K) (a := a) (xs := xs) (fun i H' => H' D = some (.lst (((xs.take i).map fun x => inB x (some 0) (some (clock - 1))).map V.bl)) ∧ ∀ b o, b ≠ D → H1 b = some o → H' b = some o)
          ⟨upd_same, fun b o n e => by rw [upd_ne n]; exact e⟩ (fun i H' _ ⟨_, s2⟩ => SqL.of (s2 a _ D0.symm e1)) ?_ ?_
        · rintro i x H' hx ⟨hD', s2⟩
          have mx : x ∈ xs := List.mem_of_getElem? hx
          have hi : i < xs.length := (List.getElem?_eq_some_iff.mp hx).1
          have bH : But q H H' := fun b o nb eb => s2 b o (ne_of_none (b1 b o nb eb) hD) (b1 b o nb eb)
          walk_at "rds"
          refine ⟨rfl, ?_⟩
          walk_at "rds"
          refine ⟨q, x, some 0, some (clock - 1), rfl, (it x mx).but bH, ?_⟩
          refine ⟨_, hD', ?_, ?_, fun b o nb eb => by rw [upd_ne nb]; exact s2 b o nb eb⟩
          · rw [List.length_map, List.length_map, List.length_take]
            exact Nat.lt_of_le_of_lt (Nat.min_le_right _ _) (hln xs rfl)
          · rw [upd_same, List.take_succ, hx, Option.toList_some, List.map_append, List.map_append]
            rfl
        · rintro H' ⟨hD', s2⟩
          rw [List.take_length] at hD'
          walk_at "rds"
          refine ⟨D, _, rfl, SqL.of hD', ?_⟩
          have key : rowB (some xs) clock size = (xs.map fun x => inB x (some 0) (some (clock - 1))).all id := by
            simp only [rowB, hlen, decide_true, Bool.true_and, List.all_map]
            rfl
          rw [← key]
          exact k _ fun b o eb => s2 b o (ne_of_none (s1 b o eb) hD) (s1 b o eb)
      · rw [show decide (V.int (xs.length : Int) = V.int size) = false from decide_eq_false (fun z => hlen (V.int.inj z))]
        walk_at "rds"
        have key : rowB (some xs) clock size = false := by simp [rowB, hlen]
        rw [← key]
        exact k _ s1
    | @tup a xs n e it =>
      refine ⟨_, (PSs.nox (pss_cons (ps_if (PW.pt (pw_or (pt_not (pt_val (pe_goX cIsClock (hr.mono (by decide)) (by rfl) (pa_cons (pv 1) pa_nil)))) (pw_or (pt_not (pt_val (pe_callB call_isiT (by rfl) T.z_isinstance (by decide +kernel) (pa_cons (pv 0) (pa_cons (pe_tup (pa_cons (pe_bltn (by rfl) T.z_list (by decide +kernel) (v := .ty "list") rfl) (pa_cons (pe_bltn (by rfl) T.z_tuple (by decide +kernel) (v := .ty "tuple") rfl) pa_nil))) pa_nil))))) (pw_or1 (pt_cmpR op_ne (pe_callB call_len_seq (by rfl) T.z_len PySem.boot_len (pa_cons (pv 0) pa_nil)) (pv 2) (nomark _))))))
      (pss_one (ps_ret pe_bl))
      pss_nil)
      (pss_one (ps_ret (pe_callB (cr_all rfl) (by rfl) T.z_all (by decide +kernel) (pa_cons (pe_lc (own := [("number", 3)]) (g := gName 3) (tt := tYes) rfl scIsRow.nd (pi_tup (pv 0)) (blkOk_by (own := [("number", 3)]) (N := ["value", "clock", "size", "number"]) (sc := defScope sIsRow) (by decide +kernel)) (fun _ _ _ _ _ => (pg_name (i := 3) scIsRow.nd rfl (Or.inl rfl))) (fun _ _ _ _ _ => pts_nil) (fun _ _ _ _ _ => (pe_goX cIsWithin (hr.mono (by decide)) (by rfl) (pa_cons (pv 3) (pa_cons pe_int (pa_cons (pe_op op_sub (pv 1) pe_int) pa_nil)))))) pa_nil)))))), ?_⟩
      refine r_start (l := [some (V.ref a), some (.int clock), some (.int size), none]) rfl ?_
      walk_at "rds"
      refine ⟨q, .int clock, rfl, .num _, ?_⟩
      rw [hck]
      walk_at "rds"
      refine ⟨len_ok rfl, fun p hp => ?_⟩
      have s1 : Same H (upd H p (.tup [.ty "list", .ty "tuple"])) := same_neu (Same.refl H) hp
      have b1 : But q H (upd H p (.tup [.ty "list", .ty "tuple"])) := (But.refl q H).neu hp
      walk_at "rds"
      obtain ⟨t, ty, kt⟩ := row_seq (K := K) ((RowV.tup n e it).but b1)
      refine r_isiT upd_same ty kt ?_
      generalize upd H p _ = H1 at s1 b1
      clear ty
      walk_at "F"
      have e1 := b1 _ _ n e
      refine ⟨_, _, rfl, .inr (SqT.of e1), ?_⟩
      walk_at "rds"
      refine ⟨rfl, ?_⟩
      walk_at "rds"
      by_cases hlen : (xs.length : Int) = size
      · rw [show decide (V.int (xs.length : Int) = V.int size) = true from decide_eq_true (by rw [hlen])]
        walk_at "rds"
        refine ⟨a, rfl, ⟨_, SqT.of e1⟩, fun D hD => ?_⟩
        have D0 : D ≠ a := (ne_of_none e1 hD).symm
        refine lc_tup (K := K) (a := a) (xs := xs) (fun i H' => H' D = some (.lst (((xs.take i).map fun x => inB x (some 0) (some (clock - 1))).map V.bl)) ∧ ∀ b o, b ≠ D → H1 b = some o → H' b = some o)
          ⟨upd_same, fun b o n e => by rw [upd_ne n]; exact e⟩ (fun i H' _ ⟨_, s2⟩ => SqT.of (s2 a _ D0.symm e1)) ?_ ?_
        · rintro i x H' hx ⟨hD', s2⟩
          have mx : x ∈ xs := List.mem_of_getElem? hx
          have hi : i < xs.length := (List.getElem?_eq_some_iff.mp hx).1
          have bH : But q H H' := fun b o nb eb => s2 b o (ne_of_none (b1 b o nb eb) hD) (b1 b o nb eb)
          walk_at "rds"
          refine ⟨rfl, ?_⟩
          walk_at "rds"
          refine ⟨q, x, some 0, some (clock - 1), rfl, (it x mx).but bH, ?_⟩
          refine ⟨_, hD', ?_, ?_, fun b o nb eb => by rw [upd_ne nb]; exact s2 b o nb eb⟩
          · rw [List.length_map, List.length_map, List.length_take]
            exact Nat.lt_of_le_of_lt (Nat.min_le_right _ _) (hln xs rfl)
          · rw [upd_same, List.take_succ, hx, Option.toList_some, List.map_append, List.map_append]
            rfl
        · rintro H' ⟨hD', s2⟩
          rw [List.take_length] at hD'
          walk_at "rds"
          refine ⟨D, _, rfl, SqL.of hD', ?_⟩
          have key : rowB (some xs) clock size = (xs.map fun x => inB x (some 0) (some (clock - 1))).all id := by
            simp only [rowB, hlen, decide_true, Bool.true_and, List.all_map]
            rfl
          rw [← key]
          exact k _ fun b o eb => s2 b o (ne_of_none (s1 b o eb) hD) (s1 b o eb)
      · rw [show decide (V.int (xs.length : Int) = V.int size) = false from decide_eq_false (fun z => hlen (V.int.inj z))]
        walk_at "rds"
        have key : rowB (some xs) clock size = false := by simp [rowB, hlen]
        rw [← key]
        exact k _ s1
end
end K06
namespace K06
open PySem PySem.Spec PyProof.Rows L2 Rp LamX RZ

section
variable {P : Program} {w : World} {K : PySem.W.Frag} {mg : Str → Option Value} {base : Heap} {ad : Ad}
abbrev sDemandClock : Stmt := top 13
theorem scDemandClock : FnScope ["clock"] ["clock"] (defScope sDemandClock) := ⟨rfl, rfl, rfl, by decide +kernel, rfl, by decide +kernel, by decide +kernel⟩
theorem ok_DemandClock {f : Addr} {fd : FuncData} (F : Fun K "demand_clock" "demand_clock" sDemandClock f fd) (T : Txt K mg ad) {f0 : Addr} {fd0 : FuncData} (cIsClock : CalX P w K mg base "is_clock" 2 f0 fd0 ["value"] spClock) (eBadClock : Err1 P w K mg base "BadClock" ad.cC "part") : FnOk P w K mg base (L2.CX P w) 3 f fd ["clock"] (spDemClock ad.cC) := by
  refine fnx F scDemandClock (fun {vs H Q E} h => ?_) (fun {cdv A fr s H vs Q E} hr h => ?_)
  · obtain ⟨q, v, rfl, ha, k1, k2⟩ := h
    rfl
  · obtain ⟨q, v, rfl, ha, k1, k2⟩ := h
    refine ⟨_, (pss_one (ps_if (pt_not (pt_val (pe_goX cIsClock (hr.mono (by decide)) (by rfl) (pa_cons (pv 0) pa_nil))))
  (pss_one (ps_raise rfl (takes_of rfl rfl rfl rfl) (pmk_err1 eBadClock (hr.mono (by decide)) (by rfl) pe_str)))
  pss_nil)), ?_⟩
    refine r_start (l := [some (v)]) rfl ?_
    walk_at "rds"
    refine ⟨q, v, rfl, ha, ?_⟩
    walk_at "rds"
    cases e : clk v with
    | true =>
      walk_at "rds"
      exact k1 e
    | false =>
      walk_at "rds"
      exact k2 e
abbrev sDemandWithin : Stmt := top 14
theorem scDemandWithin : FnScope ["value", "least", "most", "part"] ["value", "least", "most", "part"] (defScope sDemandWithin) := ⟨rfl, rfl, rfl, by decide +kernel, rfl, by decide +kernel, by decide +kernel⟩
theorem ok_DemandWithin {f : Addr} {fd : FuncData} (F : Fun K "demand_within" "demand_within" sDemandWithin f fd) (T : Txt K mg ad) {f0 : Addr} {fd0 : FuncData} (cIsWithin : CalX P w K mg base "is_within" 2 f0 fd0 ["value", "least", "most"] spWithin) (eBadNumber : Err1 P w K mg base "BadNumber" ad.cN "part") : FnOk P w K mg base (L2.CX P w) 3 f fd ["value", "least", "most", "part"] (spDemWithin ad.cN) := by
  refine fnx F scDemandWithin (fun {vs H Q E} h => ?_) (fun {cdv A fr s H vs Q E} hr h => ?_)
  · obtain ⟨q, v, lo, hi, part, rfl, ha, k1, k2⟩ := h
    rfl
  · obtain ⟨q, v, lo, hi, part, rfl, ha, k1, k2⟩ := h
    refine ⟨_, (pss_one (ps_if (pt_not (pt_val (pe_goX cIsWithin (hr.mono (by decide)) (by rfl) (pa_cons (pv 0) (pa_cons (pv 1) (pa_cons (pv 2) pa_nil))))))
  (pss_one (ps_raise rfl (takes_of rfl rfl rfl rfl) (pmk_err1 eBadNumber (hr.mono (by decide)) (by rfl) (pv 3))))
  pss_nil)), ?_⟩
    refine r_start (l := [some (v), some (oV lo), some (oV hi), some (.str part)]) rfl ?_
    walk_at "rds"
    refine ⟨q, v, lo, hi, rfl, ha, ?_⟩
    walk_at "rds"
    cases e : inB v lo hi with
    | true =>
      walk_at "rds"
      exact k1 e
    | false =>
      walk_at "rds"
      exact k2 e
abbrev sDemandRow : Stmt := top 15
theorem scDemandRow : FnScope ["row", "clock", "least", "most", "part"] ["row", "clock", "least", "most", "part"] (defScope sDemandRow) := ⟨rfl, rfl, rfl, by decide +kernel, rfl, by decide +kernel, by decide +kernel⟩
theorem ok_DemandRow {f : Addr} {fd : FuncData} (F : Fun K "demand_row" "demand_row" sDemandRow f fd) (T : Txt K mg ad) {f0 : Addr} {fd0 : FuncData} (cIsRow : CalX P w K mg base "is_row" 3 f0 fd0 ["value", "clock", "size"] spRow) (eBadRow : Err1 P w K mg base "BadRow" ad.cR "part") : FnOk P w K mg base (L2.CX P w) 4 f fd ["row", "clock", "least", "most", "part"] (spDemRow ad.cR) := by
  refine fnx F scDemandRow (fun {vs H Q E} h => ?_) (fun {cdv A fr s H vs Q E} hr h => ?_)
  · obtain ⟨q, v, o, clock, lo, hi, part, rfl, _⟩ := h
    rfl
  · obtain ⟨q, v, o, clock, lo, hi, part, rfl, hv, hck, hln, k⟩ := h
    refine ⟨_, (pss_cons (ps_if (PW.pt (pw_or (pt_not (pt_val (pe_callB call_isiT (by rfl) T.z_isinstance (by decide +kernel) (pa_cons (pv 0) (pa_cons (pe_tup (pa_cons (pe_bltn (by rfl) T.z_list (by decide +kernel) (v := .ty "list") rfl) (pa_cons (pe_bltn (by rfl) T.z_tuple (by decide +kernel) (v := .ty "tuple") rfl) pa_nil))) pa_nil))))) (pw_or1 (pt_not (pt_chain op_le op_le (pv 2) (pe_callB call_len_seq (by rfl) T.z_len PySem.boot_len (pa_cons (pv 0) pa_nil)) (pv 3))))))
    (pss_one (ps_raise rfl (takes_of rfl rfl rfl rfl) (pmk_err1 eBadRow (hr.mono (by decide)) (by rfl) (pv 4))))
    pss_nil)
    (pss_one (ps_if (pt_not (pt_val (pe_goX cIsRow (hr.mono (by decide)) (by rfl) (pa_cons (pv 0) (pa_cons (pv 1) (pa_cons (pe_callB call_len_seq (by rfl) T.z_len PySem.boot_len (pa_cons (pv 0) pa_nil)) pa_nil))))))
    (pss_one (ps_raise rfl (takes_of rfl rfl rfl rfl) (pmk_err1 eBadRow (hr.mono (by decide)) (by rfl) (pv 4))))
    pss_nil))), ?_⟩
    refine r_start (l := [some (v), some (.int clock), some (.int lo), some (.int hi), some (.str part)]) rfl ?_
    cases hv with
    | non =>
      have hv : RowV q H (V.non) none := by constructor <;> assumption
      walk_at "rds"
      refine ⟨len_ok rfl, fun p hp => ?_⟩
      have s1 : Same H (upd H p (.tup [.ty "list", .ty "tuple"])) := same_neu (Same.refl H) hp
      have b1 : But q H (upd H p (.tup [.ty "list", .ty "tuple"])) := (But.refl q H).neu hp
      walk_at "rds"
      have hv1 := hv.but b1
      obtain ⟨t, ty, kt⟩ := row_seq (K := K) hv1
      refine r_isiT upd_same ty kt ?_
      generalize upd H p _ = H1 at s1 b1 hv1
      clear ty

      walk_at "T"
      exact (k _ s1).2 rfl
    | bl b =>
      have hv : RowV q H (V.bl b) none := by constructor <;> assumption
      walk_at "rds"
      refine ⟨len_ok rfl, fun p hp => ?_⟩
      have s1 : Same H (upd H p (.tup [.ty "list", .ty "tuple"])) := same_neu (Same.refl H) hp
      have b1 : But q H (upd H p (.tup [.ty "list", .ty "tuple"])) := (But.refl q H).neu hp
      walk_at "rds"
      have hv1 := hv.but b1
      obtain ⟨t, ty, kt⟩ := row_seq (K := K) hv1
      refine r_isiT upd_same ty kt ?_
      generalize upd H p _ = H1 at s1 b1 hv1
      clear ty

      walk_at "T"
      exact (k _ s1).2 rfl
    | num i =>
      have hv : RowV q H (V.int i) none := by constructor <;> assumption
      walk_at "rds"
      refine ⟨len_ok rfl, fun p hp => ?_⟩
      have s1 : Same H (upd H p (.tup [.ty "list", .ty "tuple"])) := same_neu (Same.refl H) hp
      have b1 : But q H (upd H p (.tup [.ty "list", .ty "tuple"])) := (But.refl q H).neu hp
      walk_at "rds"
      have hv1 := hv.but b1
      obtain ⟨t, ty, kt⟩ := row_seq (K := K) hv1
      refine r_isiT upd_same ty kt ?_
      generalize upd H p _ = H1 at s1 b1 hv1
      clear ty

      walk_at "T"
      exact (k _ s1).2 rfl
    | str x =>
      have hv : RowV q H (V.str x) none := by constructor <;> assumption
      walk_at "rds"
      refine ⟨len_ok rfl, fun p hp => ?_⟩
      have s1 : Same H (upd H p (.tup [.ty "list", .ty "tuple"])) := same_neu (Same.refl H) hp
      have b1 : But q H (upd H p (.tup [.ty "list", .ty "tuple"])) := (But.refl q H).neu hp
      walk_at "rds"
      have hv1 := hv.but b1
      obtain ⟨t, ty, kt⟩ := row_seq (K := K) hv1
      refine r_isiT upd_same ty kt ?_
      generalize upd H p _ = H1 at s1 b1 hv1
      clear ty

      walk_at "T"
      exact (k _ s1).2 rfl
    | @dic a kvs n e =>
      have hv : RowV q H (V.ref a) none := by constructor <;> assumption
      walk_at "rds"
      refine ⟨len_ok rfl, fun p hp => ?_⟩
      have s1 : Same H (upd H p (.tup [.ty "list", .ty "tuple"])) := same_neu (Same.refl H) hp
      have b1 : But q H (upd H p (.tup [.ty "list", .ty "tuple"])) := (But.refl q H).neu hp
      walk_at "rds"
      have hv1 := hv.but b1
      obtain ⟨t, ty, kt⟩ := row_seq (K := K) hv1
      refine r_isiT upd_same ty kt ?_
      generalize upd H p _ = H1 at s1 b1 hv1
      clear ty

      walk_at "T"
      exact (k _ s1).2 rfl
    | @lst a xs n e it =>
      have hv : RowV q H (V.ref a) (some xs) := .lst n e it
      walk_at "rds"
      refine ⟨len_ok rfl, fun p hp => ?_⟩
      have s1 : Same H (upd H p (.tup [.ty "list", .ty "tuple"])) := same_neu (Same.refl H) hp
      have b1 : But q H (upd H p (.tup [.ty "list", .ty "tuple"])) := (But.refl q H).neu hp
      walk_at "rds"
      have hv1 := hv.but b1
      obtain ⟨t, ty, kt⟩ := row_seq (K := K) hv1
      refine r_isiT upd_same ty kt ?_
      generalize upd H p _ = H1 at s1 b1 hv1
      clear ty

      have e1 := b1 _ _ n e
      walk_at "F"
      refine ⟨_, _, rfl, .inl (SqL.of e1), ?_⟩
      walk_at "rds"
      have kk := k _ s1
      cases c1 : decide (lo ≤ (xs.length : Int)) with
      | false =>
        have r0 : rowOk (some xs) clock lo hi = false := by simp only [rowOk, c1, Bool.false_and]
        walk_at "rds"
        exact kk.2 r0
      | true =>
        walk_at "rds"
        cases c2 : decide ((xs.length : Int) ≤ hi) with
        | false =>
          have r0 : rowOk (some xs) clock lo hi = false := by simp only [rowOk, c1, c2, Bool.true_and, Bool.false_and]
          walk_at "rds"
          exact kk.2 r0
        | true =>
          walk_at "rds"
          refine ⟨_, _, rfl, .inl (SqL.of e1), ?_⟩
          walk_at "rds"
          refine ⟨q, _, _, clock, _, rfl, hv1, hck, hln, fun H2 s2 => ?_⟩
          have k2 := k _ (s1.trans s2)
          have er : rowB (some xs) clock (xs.length : Int) = rowOk (some xs) clock lo hi := by simp only [rowB, rowOk, c1, c2, Bool.true_and, decide_true]
          rw [er]
          cases c3 : rowOk (some xs) clock lo hi with
          | false =>
            walk_at "rds"
            exact k2.2 c3
          | true =>
            walk_at "rds"
            exact k2.1 c3
    | @tup a xs n e it =>
      have hv : RowV q H (V.ref a) (some xs) := .tup n e it
      walk_at "rds"
      refine ⟨len_ok rfl, fun p hp => ?_⟩
      have s1 : Same H (upd H p (.tup [.ty "list", .ty "tuple"])) := same_neu (Same.refl H) hp
      have b1 : But q H (upd H p (.tup [.ty "list", .ty "tuple"])) := (But.refl q H).neu hp
      walk_at "rds"
      have hv1 := hv.but b1
      obtain ⟨t, ty, kt⟩ := row_seq (K := K) hv1
      refine r_isiT upd_same ty kt ?_
      generalize upd H p _ = H1 at s1 b1 hv1
      clear ty

      have e1 := b1 _ _ n e
      walk_at "F"
      refine ⟨_, _, rfl, .inr (SqT.of e1), ?_⟩
      walk_at "rds"
      have kk := k _ s1
      cases c1 : decide (lo ≤ (xs.length : Int)) with
      | false =>
        have r0 : rowOk (some xs) clock lo hi = false := by simp only [rowOk, c1, Bool.false_and]
        walk_at "rds"
        exact kk.2 r0
      | true =>
        walk_at "rds"
        cases c2 : decide ((xs.length : Int) ≤ hi) with
        | false =>
          have r0 : rowOk (some xs) clock lo hi = false := by simp only [rowOk, c1, c2, Bool.true_and, Bool.false_and]
          walk_at "rds"
          exact kk.2 r0
        | true =>
          walk_at "rds"
          refine ⟨_, _, rfl, .inr (SqT.of e1), ?_⟩
          walk_at "rds"
          refine ⟨q, _, _, clock, _, rfl, hv1, hck, hln, fun H2 s2 => ?_⟩
          have k2 := k _ (s1.trans s2)
          have er : rowB (some xs) clock (xs.length : Int) = rowOk (some xs) clock lo hi := by simp only [rowB, rowOk, c1, c2, Bool.true_and, decide_true]
          rw [er]
          cases c3 : rowOk (some xs) clock lo hi with
          | false =>
            walk_at "rds"
            exact k2.2 c3
          | true =>
            walk_at "rds"
            exact k2.1 c3
end
end K06
namespace K06
open PySem PySem.Spec PyProof.Rows L2 Rp LamX RZ
/-- what is a clock -/
theorem clk_int {v : V} (h : clk v = true) : ∃ cl : Int, v = .int cl ∧ 3 ≤ cl ∧ cl ≤ 31 := by
  cases v with
  | int i =>
    refine ⟨i, rfl, ?_⟩
    have m := List.contains_iff_mem.mp (show clocks.contains i = true from h)
    revert m
    simp only [clocks, List.mem_cons, List.not_mem_nil, or_false]
    omega
  | _ => cases h
theorem inB_int {v : V} {lo hi : Option Int} (h : inB v lo hi = true) : ∃ i : Int, v = .int i := by
  cases v with
  | int i => exact ⟨i, rfl⟩
  | _ => cases h
theorem inB_of {i : Int} {l u : Int} (h : inB (.int i) (some l) (some u) = true) : l ≤ i ∧ i ≤ u := by
  have z := Bool.and_eq_true_iff.mp (show (decide (l ≤ i) && decide (i ≤ u)) = true from h)
  exact ⟨of_decide_eq_true z.1, of_decide_eq_true z.2⟩
/-- the power by clock - 2, round the clock -/
def powF (cl n : Int) : Nat → Int
  | 0 => 1
  | k + 1 => (powF cl n k * n).fmod cl
theorem powF_in {cl n : Int} (h : 2 ≤ cl) : ∀ k, 0 ≤ powF cl n k ∧ powF cl n k < cl
  | 0 => ⟨by show (0 : Int) ≤ 1; decide, by show (1 : Int) < cl; omega⟩
  | k + 1 => ⟨(fmod_in (by omega)).1, (fmod_in (by omega)).2⟩
def spNumberOf (ad : Ad) : Sp := fun vs H Q E => ∃ q c v, vs = [c, v] ∧ Any q H c ∧ Any q H v ∧ (clk c = false → errAt E ad.cC "part" (.str "clock") H) ∧
  ∀ cl, c = .int cl → clk c = true → (inB v none none = false → errAt E ad.cN "part" (.str "value") H) ∧ ∀ i, v = .int i → Q (.int (i.fmod cl)) H
def spInverse (ad : Ad) : Sp := fun vs H Q E => ∃ q c v, vs = [c, v] ∧ Any q H c ∧ Any q H v ∧ (clk c = false → errAt E ad.cC "part" (.str "clock") H) ∧
  ∀ cl, c = .int cl → clk c = true → (inB v (some 0) (some (cl - 1)) = false → errAt E ad.cN "part" (.str "number") H) ∧ (v = .int 0 → errAt E ad.cM "part" (.str "number") H) ∧
    ∀ i, v = .int i → 0 < i → i < cl → Q (.int (powF cl i (cl - 2).toNat)) H
/-- two rows of one kind -/
def Both (H : Hp) (a b : V) (xs ys : List V) : Prop := ∃ p r, a = .ref p ∧ b = .ref r ∧ ((H p = some (.lst xs) ∧ H r = some (.lst ys)) ∨ (H p = some (.tup xs) ∧ H r = some (.tup ys)))
def intOf : V → Int
  | .int i => i
  | _ => 0
def addRow (cl : Int) (xs ys : List V) : List V := (xs.zip ys).map fun z => .int ((intOf z.1 + intOf z.2).fmod cl)
def mulRow (cl n : Int) (xs : List V) : List V := xs.map fun x => .int ((n * intOf x).fmod cl)
def spRowSum (ad : Ad) : Sp := fun vs H Q E => ∃ q c a b oa ob, vs = [c, a, b] ∧ Any q H c ∧ RowV q H a oa ∧ RowV q H b ob ∧ (∀ xs, oa = some xs → xs.length < sizeLine) ∧ (∀ xs, ob = some xs → xs.length < sizeLine) ∧ (clk c = false → errAt E ad.cC "part" (.str "clock") H) ∧
  ∀ cl, c = .int cl → clk c = true → ∀ H', Same H H' → (rowOk oa cl 1 400 = false → errAt E ad.cR "part" (.str "one") H') ∧ (rowOk oa cl 1 400 = true → (rowOk ob cl 1 400 = false → errAt E ad.cR "part" (.str "other") H') ∧
    (rowOk ob cl 1 400 = true → ∀ xs ys, oa = some xs → ob = some ys → (xs.length ≠ ys.length → errAt E ad.cM "part" (.str "other") H') ∧ (xs.length = ys.length → Both H a b xs ys ∧ ∀ H2 p, Same H H2 → H p = none → H2 p = some (.tup (addRow cl xs ys)) → Q (.ref p) H2)))
def spRowTimes (ad : Ad) : Sp := fun vs H Q E => ∃ q c v a oa, vs = [c, v, a] ∧ Any q H c ∧ Any q H v ∧ RowV q H a oa ∧ (∀ xs, oa = some xs → xs.length < sizeLine) ∧ (clk c = false → errAt E ad.cC "part" (.str "clock") H) ∧
  ∀ cl, c = .int cl → clk c = true → (inB v (some 0) (some (cl - 1)) = false → errAt E ad.cN "part" (.str "number") H) ∧ (inB v (some 0) (some (cl - 1)) = true → ∀ H', Same H H' → (rowOk oa cl 1 400 = false → errAt E ad.cR "part" (.str "row") H') ∧
    (rowOk oa cl 1 400 = true → ∀ n xs, v = .int n → oa = some xs → ∀ H2 p, Same H H2 → H p = none → H2 p = some (.tup (mulRow cl n xs)) → Q (.ref p) H2))

section
variable {P : Program} {w : World} {K : PySem.W.Frag} {mg : Str → Option Value} {base : Heap} {ad : Ad}
abbrev sNumberOf : Stmt := top 18
theorem scNumberOf : FnScope ["clock", "value"] ["clock", "value"] (defScope sNumberOf) := ⟨rfl, rfl, rfl, by decide +kernel, rfl, by decide +kernel, by decide +kernel⟩
theorem ok_NumberOf {f : Addr} {fd : FuncData} (F : Fun K "number_of" "number_of" sNumberOf f fd) (T : Txt K mg ad) {f0 : Addr} {fd0 : FuncData} (cDemandClock : CalX P w K mg base "demand_clock" 3 f0 fd0 ["clock"] (spDemClock ad.cC)) {f1 : Addr} {fd1 : FuncData} (cDemandWithin : CalX P w K mg base "demand_within" 3 f1 fd1 ["value", "least", "most", "part"] (spDemWithin ad.cN)) : FnOk P w K mg base (L2.CX P w) 4 f fd ["clock", "value"] (spNumberOf ad) := by
  refine fnx F scNumberOf (fun {vs H Q E} h => ?_) (fun {cdv A fr s H vs Q E} hr h => ?_)
  · obtain ⟨q, c, v, rfl, hc, hv, k1, k⟩ := h
    rfl
  · obtain ⟨q, c, v, rfl, hc, hv, k1, k⟩ := h
    refine ⟨_, (pss_cons (ps_expr (pe_goE cDemandClock (hr.mono (by decide)) (takes_of rfl rfl rfl rfl) (by rfl) (pa_cons (pv 0) pa_nil)))
  (pss_cons (ps_expr (pe_goE cDemandWithin (hr.mono (by decide)) (takes_of rfl rfl rfl rfl) (by rfl) (pa_cons (pv 1) (pa_cons pe_non (pa_cons pe_non (pa_cons pe_str pa_nil))))))
  (PSs.nox (pss_one (ps_ret (pe_op op_modN (pv 1) (pv 0))))))), ?_⟩
    refine r_start (l := [some (c), some (v)]) rfl ?_
    walk_at "rds"
    refine ⟨q, c, rfl, hc, fun e => ?_, fun e => k1 e⟩
    obtain ⟨cl, rfl, h3, h31⟩ := clk_int e
    obtain ⟨k2, k3⟩ := k cl rfl e
    walk_at "rds"
    refine ⟨q, v, none, none, _, rfl, hv, fun e2 => ?_, fun e2 => k2 e2⟩
    obtain ⟨i, rfl⟩ := inB_int e2
    walk_at "rds"
    refine r_I (by omega) ?_
    exact k3 i rfl
abbrev sInverse : Stmt := top 19
theorem scInverse : FnScope ["clock", "number", "power", "_"] ["clock", "number"] (defScope sInverse) := ⟨rfl, rfl, rfl, by decide +kernel, rfl, by decide +kernel, by decide +kernel⟩
theorem ok_Inverse {f : Addr} {fd : FuncData} (F : Fun K "inverse" "inverse" sInverse f fd) (T : Txt K mg ad) {f0 : Addr} {fd0 : FuncData} (cDemandClock : CalX P w K mg base "demand_clock" 3 f0 fd0 ["clock"] (spDemClock ad.cC)) {f1 : Addr} {fd1 : FuncData} (cDemandWithin : CalX P w K mg base "demand_within" 3 f1 fd1 ["value", "least", "most", "part"] (spDemWithin ad.cN)) (eMisfit : Err1 P w K mg base "Misfit" ad.cM "part") : FnOk P w K mg base (L2.CX P w) 4 f fd ["clock", "number"] (spInverse ad) := by
  refine fnx F scInverse (fun {vs H Q E} h => ?_) (fun {cdv A fr s H vs Q E} hr h => ?_)
  · obtain ⟨q, c, v, rfl, hc, hv, k1, k⟩ := h
    rfl
  · obtain ⟨q, c, v, rfl, hc, hv, k1, k⟩ := h
    refine ⟨_, (pss_cons (ps_expr (pe_goE cDemandClock (hr.mono (by decide)) (takes_of rfl rfl rfl rfl) (by rfl) (pa_cons (pv 0) pa_nil)))
  (pss_cons (ps_expr (pe_goE cDemandWithin (hr.mono (by decide)) (takes_of rfl rfl rfl rfl) (by rfl) (pa_cons (pv 1) (pa_cons pe_int (pa_cons (pe_op op_sub (pv 0) pe_int) (pa_cons pe_str pa_nil))))))
  (pss_cons (ps_if (pt_cmpR op_eq (pv 1) pe_int (nomark _))
  (pss_one (ps_raise rfl (takes_of rfl rfl rfl rfl) (pmk_err1 eMisfit (hr.mono (by decide)) (by rfl) pe_str)))
  pss_nil)
  (PSs.nox (pss_cons (ps_set (i := 2) scInverse.nd rfl (Or.inl rfl) pe_int)
  (pss_cons (ps_for PassesOwn.never rfl (pi_range1 (by rfl) T.z_range (pa_cons (pe_op op_sub (pv 0) pe_int) pa_nil)) (pg_name (i := 3) scInverse.nd rfl (Or.inl rfl))
  (pss_one (ps_set (i := 2) scInverse.nd rfl (Or.inl rfl) (pe_op op_modN (pe_op op_mul (pv 2) (pv 1)) (pv 0)))))
  (pss_one (ps_ret (pv 2))))))))), ?_⟩
    refine r_start (l := [some (c), some (v), none, none]) rfl ?_
    walk_at "rds"
    refine ⟨q, c, rfl, hc, fun e => ?_, fun e => k1 e⟩
    obtain ⟨cl, rfl, h3, h31⟩ := clk_int e
    obtain ⟨k2, k3, k4⟩ := k cl rfl e
    walk_at "rds"
    refine ⟨q, v, some 0, some (cl - 1), _, rfl, hv, fun e2 => ?_, fun e2 => k2 e2⟩
    obtain ⟨i, rfl⟩ := inB_int e2
    obtain ⟨b1, b2⟩ := inB_of e2
    walk_at "rds"
    refine ⟨rfl, ?_⟩
    by_cases z : i = 0
    · subst z
      walk_at "rds"
      exact k3 rfl
    · rw [show decide (V.int i = V.int 0) = false from decide_eq_false (fun w => z (V.int.inj w))]
      walk_at "rds"
      refine ⟨cl - 2, rfl, by omega, by omega, ?_⟩
      refine for_range (lo := 0) (n := (cl - 2).toNat) (fun j σ G => ∃ x : Option V, σ = [some (.int cl), some (.int i), some (.int (powF cl i j)), x] ∧ G = H) ⟨_, rfl, rfl⟩ ?_ ?_
      · rintro j σ G hj ⟨x, rfl, rfl⟩
        have pj := powF_in (cl := cl) (n := i) (by omega) j
        walk_at "rds"
        refine r_I (.inl ⟨by omega, by omega⟩) ?_
        walk_at "rds"
        refine r_I (by omega) ?_
        exact ⟨_, rfl, rfl⟩
      · rintro σ G ⟨x, rfl, rfl⟩
        walk_at "rds"
        exact k4 i rfl (by omega) (by omega)
end
end K06
namespace K06
open PySem PySem.Spec PyProof.Rows L2 Rp LamX RZ
theorem rowOk_some {o : Option (List V)} {c l h : Int} (e : rowOk o c l h = true) : ∃ xs, o = some xs ∧ xs.length ≤ h.toNat ∧ ∀ x ∈ xs, ∃ i : Int, x = .int i ∧ 0 ≤ i ∧ i ≤ c - 1 := by
  cases o with
  | none => cases e
  | some xs =>
    obtain ⟨e1, e2⟩ := Bool.and_eq_true_iff.mp (show ((decide (l ≤ (xs.length : Int)) && decide ((xs.length : Int) ≤ h)) && xs.all fun x => inB x (some 0) (some (c - 1))) = true from e)
    have e3 := of_decide_eq_true (Bool.and_eq_true_iff.mp e1).2
    refine ⟨xs, rfl, by omega, fun x m => ?_⟩
    have z := List.all_eq_true.mp e2 x m
    obtain ⟨i, rfl⟩ := inB_int z
    exact ⟨i, rfl, inB_of z⟩
theorem row_ref {K : PySem.W.Frag} {q : Addr} {H : Hp} {v : V} {xs : List V} (h : RowV q H v (some xs)) : ∃ p, v = .ref p ∧ (SqL K H p xs ∨ SqT K H p xs) := by
  cases h with
  | lst n e _ => exact ⟨_, rfl, .inl (SqL.of e)⟩
  | tup n e _ => exact ⟨_, rfl, .inr (SqT.of e)⟩
theorem row_same {q : Addr} {H H' : Hp} {v : V} {o : Option (List V)} (h : RowV q H v o) (s : Same H H') : RowV q H' v o := h.but fun b o _ e => s b o e
theorem any_same {q : Addr} {H H' : Hp} {v : V} (h : Any q H v) (s : Same H H') : Any q H' v := h.but fun b o _ e => s b o e
/-- zip of two tuples -/
theorem walk_zipT {K : PySem.W.Frag} {a b : Addr} {xs ys : List V} {n : Nat} (hn : n = min xs.length ys.length) : Walk (ItzT K a b) n (fun H => SqT K H a xs ∧ SqT K H b ys) (YPair (fun i => xs[i]?) (fun i => ys[i]?)) := by
  subst hn
  constructor
  · intro i H hi q
    have h1 : i < xs.length := by omega
    have h2 : i < ys.length := by omega
    exact ⟨xs, ys, xs[i], ys[i], q.1, q.2, by simp [h1], by simp [h2]⟩
  · intro H q
    exact ⟨xs, ys, q.1, q.2, by omega⟩
  · rintro i H v H' _ q ⟨T, x, z, h1, h2, h3, h4, h5⟩
    exact ⟨T, x, z, h1, h2, h3, h4 xs q.1, h5 ys q.2⟩
theorem zip_at {α β γ : Type} {xs : List α} {ys : List β} {f : α × β → γ} {i : Nat} {x : α} {y : β} (hx : xs[i]? = some x) (hy : ys[i]? = some y) : ((xs.zip ys).take (i + 1)).map f = ((xs.zip ys).take i).map f ++ [f (x, y)] := by
  have z : (xs.zip ys)[i]? = some (x, y) := by
    rw [List.getElem?_zip_eq_some]
    exact ⟨hx, hy⟩
  rw [List.take_succ, z, List.map_append]
  rfl

section
variable {P : Program} {w : World} {K : PySem.W.Frag} {mg : Str → Option Value} {base : Heap} {ad : Ad}
abbrev sRowSum : Stmt := top 20
theorem scRowSum : FnScope ["clock", "one", "other", "left", "right"] ["clock", "one", "other"] (defScope sRowSum) := ⟨rfl, rfl, rfl, by decide +kernel, rfl, by decide +kernel, by decide +kernel⟩
theorem ok_RowSum {f : Addr} {fd : FuncData} (F : Fun K "row_sum" "row_sum" sRowSum f fd) (T : Txt K mg ad) {f0 : Addr} {fd0 : FuncData} (cDemandClock : CalX P w K mg base "demand_clock" 3 f0 fd0 ["clock"] (spDemClock ad.cC)) {f1 : Addr} {fd1 : FuncData} (cDemandRow : CalX P w K mg base "demand_row" 4 f1 fd1 ["row", "clock", "least", "most", "part"] (spDemRow ad.cR)) (eMisfit : Err1 P w K mg base "Misfit" ad.cM "part") : FnOk P w K mg base (L2.CX P w) 5 f fd ["clock", "one", "other"] (spRowSum ad) := by
  refine fnx F scRowSum (fun {vs H Q E} h => ?_) (fun {cdv A fr s H vs Q E} hr h => ?_)
  · obtain ⟨q, c, a, b, oa, ob, rfl, hc, ha, hb, hla, hlb, k1, k⟩ := h
    rfl
  · obtain ⟨q, c, a, b, oa, ob, rfl, hc, ha, hb, hla, hlb, k1, k⟩ := h
    refine ⟨_, (pss_cons (ps_expr (pe_goE cDemandClock (hr.mono (by decide)) (takes_of rfl rfl rfl rfl) (by rfl) (pa_cons (pv 0) pa_nil)))
  (pss_cons (ps_expr (pe_goE cDemandRow (hr.mono (by decide)) (takes_of rfl rfl rfl rfl) (by rfl) (pa_cons (pv 1) (pa_cons (pv 0) (pa_cons pe_int (pa_cons (pe_glob (v := .int 400) (by rfl) T.g_MOST ⟨_, rfl⟩) (pa_cons pe_str pa_nil)))))))
  (pss_cons (ps_expr (pe_goE cDemandRow (hr.mono (by decide)) (takes_of rfl rfl rfl rfl) (by rfl) (pa_cons (pv 2) (pa_cons (pv 0) (pa_cons pe_int (pa_cons (pe_glob (v := .int 400) (by rfl) T.g_MOST ⟨_, rfl⟩) (pa_cons pe_str pa_nil)))))))
  (pss_cons (ps_if (pt_cmpR op_ne (pe_callB call_len_seq (by rfl) T.z_len PySem.boot_len (pa_cons (pv 1) pa_nil)) (pe_callB call_len_seq (by rfl) T.z_len PySem.boot_len (pa_cons (pv 2) pa_nil)) (nomark _))
  (pss_one (ps_raise rfl (takes_of rfl rfl rfl rfl) (pmk_err1 eMisfit (hr.mono (by decide)) (by rfl) pe_str)))
  pss_nil)
  (PSs.nox (pss_one (ps_ret (pe_callTy call_tuple_of (by rfl) T.z_tuple (by decide +kernel) (pa_cons (pe_lc (own := [("left", 3), ("right", 4)]) (g := gTup K 2 (gCons (gName 3) (gCons (gName 4) gNil))) (tt := tYes) rfl scRowSum.nd (pi_zipA (by rfl) T.z_zip (pa_cons (pv 1) (pa_cons (pv 2) pa_nil))) (blkOk_by (own := [("left", 3), ("right", 4)]) (N := ["clock", "one", "other", "left", "right"]) (sc := defScope sRowSum) (by decide +kernel)) (fun _ _ _ _ _ => (pg_tup rfl (pgs_cons (pg_name (i := 3) scRowSum.nd rfl (Or.inl rfl)) (pgs_cons (pg_name (i := 4) scRowSum.nd rfl (Or.inl rfl)) pgs_nil)))) (fun _ _ _ _ _ => pts_nil) (fun _ _ _ _ _ => (pe_op op_modN (pe_op op_add (pv 3) (pv 4)) (pv 0)))) pa_nil))))))))), ?_⟩
    refine r_start (l := [some (c), some (a), some (b), none, none]) rfl ?_
    walk_at "rds"
    refine ⟨q, c, rfl, hc, fun e => ?_, fun e => k1 e⟩
    obtain ⟨cl, rfl, h3, h31⟩ := clk_int e
    have kk := k cl rfl e
    walk_at "rds"
    refine ⟨q, a, oa, cl, 1, 400, _, rfl, ha, e, hla, fun H1 s1 => ⟨fun e1 => ?_, fun e1 => (kk H1 s1).1 e1⟩⟩
    walk_at "rds"
    refine ⟨q, b, ob, cl, 1, 400, _, rfl, row_same hb s1, e, hlb, fun H2 s2 => ⟨fun e2 => ?_, fun e2 => ((kk H2 (s1.trans s2)).2 e1).1 e2⟩⟩
    have s12 := s1.trans s2
    obtain ⟨xs, rfl, l1, m1⟩ := rowOk_some e1
    obtain ⟨ys, rfl, l2, m2⟩ := rowOk_some e2
    obtain ⟨g1, g2⟩ := ((kk H2 s12).2 e1).2 e2 xs ys rfl rfl
    obtain ⟨p, rfl, pa⟩ := row_ref (K := K) (row_same ha s12)
    obtain ⟨r, rfl, ra⟩ := row_ref (K := K) (row_same hb s12)
    walk_at "rds"
    refine ⟨_, _, rfl, pa, ?_⟩
    walk_at "rds"
    refine ⟨_, _, rfl, ra, ?_⟩
    walk_at "rds"
    refine ⟨rfl, ?_⟩
    by_cases hlen : xs.length = ys.length
    rotate_left
    · rw [decide_eq_false (fun z => hlen (by have := V.int.inj z; omega))]
      walk_at "rds"
      exact g1 hlen
    rw [decide_eq_true (by rw [hlen])]
    obtain ⟨bo, gg⟩ := g2 hlen
    walk_at "rds"
    have l3 : xs.length ≤ 400 := l1
    obtain ⟨p', r', ep, er, bo⟩ := bo
    cases ep
    cases er
    rcases bo with ⟨yA, yB⟩ | ⟨yA, yB⟩
    · have xA := s12 _ _ yA
      have xB := s12 _ _ yB
      refine ⟨p, r, xs, ys, rfl, .inl ⟨SqL.of xA, SqL.of xB, ?_⟩⟩
      refine ?_
      intro D hD
      have nA : p ≠ D := ne_of_none xA hD
      have nB : r ≠ D := ne_of_none xB hD
      refine lc_it (walk_zip (K := K) (xs := xs) (ys := ys) (n := xs.length) (by omega)) (fun i G => G D = some (.lst (((xs.zip ys).take i).map fun z => .int ((intOf z.1 + intOf z.2).fmod cl))) ∧ ∀ b o, b ≠ D → H2 b = some o → G b = some o)
        ⟨upd_same, fun b o nb eb => by rw [upd_ne nb]; exact eb⟩ (fun i G _ ⟨_, s⟩ => ⟨SqL.of (s p _ nA xA), SqL.of (s r _ nB xB)⟩) ?_ ?_
      · rintro i v G G' hi ⟨hG, s⟩ ⟨t, x, y, rfl, ht, rfl, hx, hy⟩
        obtain ⟨ix, rfl, ix0, ix1⟩ := m1 x (List.mem_of_getElem? hx)
        obtain ⟨iy, rfl, iy0, iy1⟩ := m2 y (List.mem_of_getElem? hy)
        walk_at "rds"
        refine r_gtup ⟨_, _, rfl, SqT.of upd_same, rfl, ?_⟩
        refine ⟨_, _, rfl, ?_⟩
        walk_at "rds"
        refine ⟨_, _, rfl, ?_⟩
        walk_at "rds"
        refine ⟨rfl, ?_⟩
        refine ⟨rfl, ?_⟩
        walk_at "rds"
        refine r_I (by omega) ?_
        have nD : D ≠ t := ne_of_none hG ht
        refine ⟨_, by rw [upd_ne nD]; exact hG, ?_, ?_, fun b o nb eb => ?_⟩
        · rw [List.length_map]
          refine Nat.lt_of_le_of_lt (List.length_take_le _ _) (small1000 ?_)
          omega
        · rw [upd_same, zip_at hx hy]
          rfl
        · rw [upd_ne nb, upd_ne (ne_of_none (s b o nb eb) ht)]
          exact s b o nb eb
      · rintro G ⟨hG, s⟩
        walk_at "rds"
        rw [List.take_of_length_le (by rw [List.length_zip]; omega)] at hG
        refine ⟨D, _, rfl, .inl ⟨SqL.of hG, fun l hl => ?_⟩⟩
        have sD : ∀ b o, H2 b = some o → G b = some o := fun b o eb => s b o (ne_of_none eb hD) eb
        refine gg _ l (fun b o eb => ?_) ?_ upd_same
        · rw [upd_ne (ne_of_none (sD b o (s12 b o eb)) hl)]
          exact sD b o (s12 b o eb)
        · cases z : H l with
          | none => rfl
          | some o => cases hl.symm.trans (sD l o (s12 l o z))
    · have xA := s12 _ _ yA
      have xB := s12 _ _ yB
      refine ⟨p, r, xs, ys, rfl, .inr ⟨SqT.of xA, SqT.of xB, ?_⟩⟩
      refine ?_
      intro D hD
      have nA : p ≠ D := ne_of_none xA hD
      have nB : r ≠ D := ne_of_none xB hD
      refine lc_it (walk_zipT (K := K) (xs := xs) (ys := ys) (n := xs.length) (by omega)) (fun i G => G D = some (.lst (((xs.zip ys).take i).map fun z => .int ((intOf z.1 + intOf z.2).fmod cl))) ∧ ∀ b o, b ≠ D → H2 b = some o → G b = some o)
        ⟨upd_same, fun b o nb eb => by rw [upd_ne nb]; exact eb⟩ (fun i G _ ⟨_, s⟩ => ⟨SqT.of (s p _ nA xA), SqT.of (s r _ nB xB)⟩) ?_ ?_
      · rintro i v G G' hi ⟨hG, s⟩ ⟨t, x, y, rfl, ht, rfl, hx, hy⟩
        obtain ⟨ix, rfl, ix0, ix1⟩ := m1 x (List.mem_of_getElem? hx)
        obtain ⟨iy, rfl, iy0, iy1⟩ := m2 y (List.mem_of_getElem? hy)
        walk_at "rds"
        refine r_gtup ⟨_, _, rfl, SqT.of upd_same, rfl, ?_⟩
        refine ⟨_, _, rfl, ?_⟩
        walk_at "rds"
        refine ⟨_, _, rfl, ?_⟩
        walk_at "rds"
        refine ⟨rfl, ?_⟩
        refine ⟨rfl, ?_⟩
        walk_at "rds"
        refine r_I (by omega) ?_
        have nD : D ≠ t := ne_of_none hG ht
        refine ⟨_, by rw [upd_ne nD]; exact hG, ?_, ?_, fun b o nb eb => ?_⟩
        · rw [List.length_map]
          refine Nat.lt_of_le_of_lt (List.length_take_le _ _) (small1000 ?_)
          omega
        · rw [upd_same, zip_at hx hy]
          rfl
        · rw [upd_ne nb, upd_ne (ne_of_none (s b o nb eb) ht)]
          exact s b o nb eb
      · rintro G ⟨hG, s⟩
        walk_at "rds"
        rw [List.take_of_length_le (by rw [List.length_zip]; omega)] at hG
        refine ⟨D, _, rfl, .inl ⟨SqL.of hG, fun l hl => ?_⟩⟩
        have sD : ∀ b o, H2 b = some o → G b = some o := fun b o eb => s b o (ne_of_none eb hD) eb
        refine gg _ l (fun b o eb => ?_) ?_ upd_same
        · rw [upd_ne (ne_of_none (sD b o (s12 b o eb)) hl)]
          exact sD b o (s12 b o eb)
        · cases z : H l with
          | none => rfl
          | some o => cases hl.symm.trans (sD l o (s12 l o z))
end
end K06
namespace K06
open PySem PySem.Spec PyProof.Rows L2 Rp LamX RZ

section
variable {P : Program} {w : World} {K : PySem.W.Frag} {mg : Str → Option Value} {base : Heap} {ad : Ad}
abbrev sRowTimes : Stmt := top 21
theorem scRowTimes : FnScope ["clock", "number", "row", "each"] ["clock", "number", "row"] (defScope sRowTimes) := ⟨rfl, rfl, rfl, by decide +kernel, rfl, by decide +kernel, by decide +kernel⟩
theorem ok_RowTimes {f : Addr} {fd : FuncData} (F : Fun K "row_times" "row_times" sRowTimes f fd) (T : Txt K mg ad) {f0 : Addr} {fd0 : FuncData} (cDemandClock : CalX P w K mg base "demand_clock" 3 f0 fd0 ["clock"] (spDemClock ad.cC)) {f1 : Addr} {fd1 : FuncData} (cDemandWithin : CalX P w K mg base "demand_within" 3 f1 fd1 ["value", "least", "most", "part"] (spDemWithin ad.cN)) {f2 : Addr} {fd2 : FuncData} (cDemandRow : CalX P w K mg base "demand_row" 4 f2 fd2 ["row", "clock", "least", "most", "part"] (spDemRow ad.cR)) : FnOk P w K mg base (L2.CX P w) 5 f fd ["clock", "number", "row"] (spRowTimes ad) := by
  refine fnx F scRowTimes (fun {vs H Q E} h => ?_) (fun {cdv A fr s H vs Q E} hr h => ?_)
  · obtain ⟨q, c, v, a, oa, rfl, _⟩ := h
    rfl
  · obtain ⟨q, c, v, a, oa, rfl, hc, hv, ha, hla, k1, k⟩ := h
    cases ha with
    | non =>
      refine ⟨_, (pss_cons (ps_expr (pe_goE cDemandClock (hr.mono (by decide)) (takes_of rfl rfl rfl rfl) (by rfl) (pa_cons (pv 0) pa_nil)))
      (pss_cons (ps_expr (pe_goE cDemandWithin (hr.mono (by decide)) (takes_of rfl rfl rfl rfl) (by rfl) (pa_cons (pv 1) (pa_cons pe_int (pa_cons (pe_op op_sub (pv 0) pe_int) (pa_cons pe_str pa_nil))))))
      (pss_cons (ps_expr (pe_goE cDemandRow (hr.mono (by decide)) (takes_of rfl rfl rfl rfl) (by rfl) (pa_cons (pv 2) (pa_cons (pv 0) (pa_cons pe_int (pa_cons (pe_glob (v := .int 400) (by rfl) T.g_MOST ⟨_, rfl⟩) (pa_cons pe_str pa_nil)))))))
      (PSs.nox (pss_one (ps_ret (pe_callTy call_tuple_of (by rfl) T.z_tuple (by decide +kernel) (pa_cons (pe_lc (own := [("each", 3)]) (g := gName 3) (tt := tYes) rfl scRowTimes.nd (pi_list (pv 2)) (blkOk_by (own := [("each", 3)]) (N := ["clock", "number", "row", "each"]) (sc := defScope sRowTimes) (by decide +kernel)) (fun _ _ _ _ _ => (pg_name (i := 3) scRowTimes.nd rfl (Or.inl rfl))) (fun _ _ _ _ _ => pts_nil) (fun _ _ _ _ _ => (pe_op op_modN (pe_op op_mul (pv 1) (pv 3)) (pv 0)))) pa_nil)))))))), ?_⟩
      refine r_start (l := [some (c), some (v), some (V.non), none]) rfl ?_
      have ha : RowV q H (V.non) none := by constructor <;> assumption
      walk_at "rds"
      refine ⟨q, c, rfl, hc, fun e => ?_, fun e => k1 e⟩
      obtain ⟨cl, rfl, h3, h31⟩ := clk_int e
      obtain ⟨k2, k3⟩ := k cl rfl e
      walk_at "rds"
      refine ⟨q, v, some 0, some (cl - 1), _, rfl, hv, fun e1 => ?_, fun e1 => k2 e1⟩
      obtain ⟨n, rfl⟩ := inB_int e1
      obtain ⟨n0, n1⟩ := inB_of e1
      walk_at "rds"
      refine ⟨q, _, none, cl, 1, 400, _, rfl, ha, e, hla, fun H2 s2 => ⟨fun e2 => ?_, fun e2 => (k3 e1 H2 s2).1 e2⟩⟩

      cases e2

    | bl b =>
      refine ⟨_, (pss_cons (ps_expr (pe_goE cDemandClock (hr.mono (by decide)) (takes_of rfl rfl rfl rfl) (by rfl) (pa_cons (pv 0) pa_nil)))
      (pss_cons (ps_expr (pe_goE cDemandWithin (hr.mono (by decide)) (takes_of rfl rfl rfl rfl) (by rfl) (pa_cons (pv 1) (pa_cons pe_int (pa_cons (pe_op op_sub (pv 0) pe_int) (pa_cons pe_str pa_nil))))))
      (pss_cons (ps_expr (pe_goE cDemandRow (hr.mono (by decide)) (takes_of rfl rfl rfl rfl) (by rfl) (pa_cons (pv 2) (pa_cons (pv 0) (pa_cons pe_int (pa_cons (pe_glob (v := .int 400) (by rfl) T.g_MOST ⟨_, rfl⟩) (pa_cons pe_str pa_nil)))))))
      (PSs.nox (pss_one (ps_ret (pe_callTy call_tuple_of (by rfl) T.z_tuple (by decide +kernel) (pa_cons (pe_lc (own := [("each", 3)]) (g := gName 3) (tt := tYes) rfl scRowTimes.nd (pi_list (pv 2)) (blkOk_by (own := [("each", 3)]) (N := ["clock", "number", "row", "each"]) (sc := defScope sRowTimes) (by decide +kernel)) (fun _ _ _ _ _ => (pg_name (i := 3) scRowTimes.nd rfl (Or.inl rfl))) (fun _ _ _ _ _ => pts_nil) (fun _ _ _ _ _ => (pe_op op_modN (pe_op op_mul (pv 1) (pv 3)) (pv 0)))) pa_nil)))))))), ?_⟩
      refine r_start (l := [some (c), some (v), some (V.bl b), none]) rfl ?_
      have ha : RowV q H (V.bl b) none := by constructor <;> assumption
      walk_at "rds"
      refine ⟨q, c, rfl, hc, fun e => ?_, fun e => k1 e⟩
      obtain ⟨cl, rfl, h3, h31⟩ := clk_int e
      obtain ⟨k2, k3⟩ := k cl rfl e
      walk_at "rds"
      refine ⟨q, v, some 0, some (cl - 1), _, rfl, hv, fun e1 => ?_, fun e1 => k2 e1⟩
      obtain ⟨n, rfl⟩ := inB_int e1
      obtain ⟨n0, n1⟩ := inB_of e1
      walk_at "rds"
      refine ⟨q, _, none, cl, 1, 400, _, rfl, ha, e, hla, fun H2 s2 => ⟨fun e2 => ?_, fun e2 => (k3 e1 H2 s2).1 e2⟩⟩

      cases e2

    | num i =>
      refine ⟨_, (pss_cons (ps_expr (pe_goE cDemandClock (hr.mono (by decide)) (takes_of rfl rfl rfl rfl) (by rfl) (pa_cons (pv 0) pa_nil)))
      (pss_cons (ps_expr (pe_goE cDemandWithin (hr.mono (by decide)) (takes_of rfl rfl rfl rfl) (by rfl) (pa_cons (pv 1) (pa_cons pe_int (pa_cons (pe_op op_sub (pv 0) pe_int) (pa_cons pe_str pa_nil))))))
      (pss_cons (ps_expr (pe_goE cDemandRow (hr.mono (by decide)) (takes_of rfl rfl rfl rfl) (by rfl) (pa_cons (pv 2) (pa_cons (pv 0) (pa_cons pe_int (pa_cons (pe_glob (v := .int 400) (by rfl) T.g_MOST ⟨_, rfl⟩) (pa_cons pe_str pa_nil)))))))
      (PSs.nox (pss_one (ps_ret (pe_callTy call_tuple_of (by rfl) T.z_tuple (by decide +kernel) (pa_cons (pe_lc (own := [("each", 3)]) (g := gName 3) (tt := tYes) rfl scRowTimes.nd (pi_list (pv 2)) (blkOk_by (own := [("each", 3)]) (N := ["clock", "number", "row", "each"]) (sc := defScope sRowTimes) (by decide +kernel)) (fun _ _ _ _ _ => (pg_name (i := 3) scRowTimes.nd rfl (Or.inl rfl))) (fun _ _ _ _ _ => pts_nil) (fun _ _ _ _ _ => (pe_op op_modN (pe_op op_mul (pv 1) (pv 3)) (pv 0)))) pa_nil)))))))), ?_⟩
      refine r_start (l := [some (c), some (v), some (V.int i), none]) rfl ?_
      have ha : RowV q H (V.int i) none := by constructor <;> assumption
      walk_at "rds"
      refine ⟨q, c, rfl, hc, fun e => ?_, fun e => k1 e⟩
      obtain ⟨cl, rfl, h3, h31⟩ := clk_int e
      obtain ⟨k2, k3⟩ := k cl rfl e
      walk_at "rds"
      refine ⟨q, v, some 0, some (cl - 1), _, rfl, hv, fun e1 => ?_, fun e1 => k2 e1⟩
      obtain ⟨n, rfl⟩ := inB_int e1
      obtain ⟨n0, n1⟩ := inB_of e1
      walk_at "rds"
      refine ⟨q, _, none, cl, 1, 400, _, rfl, ha, e, hla, fun H2 s2 => ⟨fun e2 => ?_, fun e2 => (k3 e1 H2 s2).1 e2⟩⟩

      cases e2

    | str x =>
      refine ⟨_, (pss_cons (ps_expr (pe_goE cDemandClock (hr.mono (by decide)) (takes_of rfl rfl rfl rfl) (by rfl) (pa_cons (pv 0) pa_nil)))
      (pss_cons (ps_expr (pe_goE cDemandWithin (hr.mono (by decide)) (takes_of rfl rfl rfl rfl) (by rfl) (pa_cons (pv 1) (pa_cons pe_int (pa_cons (pe_op op_sub (pv 0) pe_int) (pa_cons pe_str pa_nil))))))
      (pss_cons (ps_expr (pe_goE cDemandRow (hr.mono (by decide)) (takes_of rfl rfl rfl rfl) (by rfl) (pa_cons (pv 2) (pa_cons (pv 0) (pa_cons pe_int (pa_cons (pe_glob (v := .int 400) (by rfl) T.g_MOST ⟨_, rfl⟩) (pa_cons pe_str pa_nil)))))))
      (PSs.nox (pss_one (ps_ret (pe_callTy call_tuple_of (by rfl) T.z_tuple (by decide +kernel) (pa_cons (pe_lc (own := [("each", 3)]) (g := gName 3) (tt := tYes) rfl scRowTimes.nd (pi_list (pv 2)) (blkOk_by (own := [("each", 3)]) (N := ["clock", "number", "row", "each"]) (sc := defScope sRowTimes) (by decide +kernel)) (fun _ _ _ _ _ => (pg_name (i := 3) scRowTimes.nd rfl (Or.inl rfl))) (fun _ _ _ _ _ => pts_nil) (fun _ _ _ _ _ => (pe_op op_modN (pe_op op_mul (pv 1) (pv 3)) (pv 0)))) pa_nil)))))))), ?_⟩
      refine r_start (l := [some (c), some (v), some (V.str x), none]) rfl ?_
      have ha : RowV q H (V.str x) none := by constructor <;> assumption
      walk_at "rds"
      refine ⟨q, c, rfl, hc, fun e => ?_, fun e => k1 e⟩
      obtain ⟨cl, rfl, h3, h31⟩ := clk_int e
      obtain ⟨k2, k3⟩ := k cl rfl e
      walk_at "rds"
      refine ⟨q, v, some 0, some (cl - 1), _, rfl, hv, fun e1 => ?_, fun e1 => k2 e1⟩
      obtain ⟨n, rfl⟩ := inB_int e1
      obtain ⟨n0, n1⟩ := inB_of e1
      walk_at "rds"
      refine ⟨q, _, none, cl, 1, 400, _, rfl, ha, e, hla, fun H2 s2 => ⟨fun e2 => ?_, fun e2 => (k3 e1 H2 s2).1 e2⟩⟩

      cases e2

    | @dic a kvs n e =>
      refine ⟨_, (pss_cons (ps_expr (pe_goE cDemandClock (hr.mono (by decide)) (takes_of rfl rfl rfl rfl) (by rfl) (pa_cons (pv 0) pa_nil)))
      (pss_cons (ps_expr (pe_goE cDemandWithin (hr.mono (by decide)) (takes_of rfl rfl rfl rfl) (by rfl) (pa_cons (pv 1) (pa_cons pe_int (pa_cons (pe_op op_sub (pv 0) pe_int) (pa_cons pe_str pa_nil))))))
      (pss_cons (ps_expr (pe_goE cDemandRow (hr.mono (by decide)) (takes_of rfl rfl rfl rfl) (by rfl) (pa_cons (pv 2) (pa_cons (pv 0) (pa_cons pe_int (pa_cons (pe_glob (v := .int 400) (by rfl) T.g_MOST ⟨_, rfl⟩) (pa_cons pe_str pa_nil)))))))
      (PSs.nox (pss_one (ps_ret (pe_callTy call_tuple_of (by rfl) T.z_tuple (by decide +kernel) (pa_cons (pe_lc (own := [("each", 3)]) (g := gName 3) (tt := tYes) rfl scRowTimes.nd (pi_list (pv 2)) (blkOk_by (own := [("each", 3)]) (N := ["clock", "number", "row", "each"]) (sc := defScope sRowTimes) (by decide +kernel)) (fun _ _ _ _ _ => (pg_name (i := 3) scRowTimes.nd rfl (Or.inl rfl))) (fun _ _ _ _ _ => pts_nil) (fun _ _ _ _ _ => (pe_op op_modN (pe_op op_mul (pv 1) (pv 3)) (pv 0)))) pa_nil)))))))), ?_⟩
      refine r_start (l := [some (c), some (v), some (V.ref a), none]) rfl ?_
      have ha : RowV q H (V.ref a) none := by constructor <;> assumption
      walk_at "rds"
      refine ⟨q, c, rfl, hc, fun e => ?_, fun e => k1 e⟩
      obtain ⟨cl, rfl, h3, h31⟩ := clk_int e
      obtain ⟨k2, k3⟩ := k cl rfl e
      walk_at "rds"
      refine ⟨q, v, some 0, some (cl - 1), _, rfl, hv, fun e1 => ?_, fun e1 => k2 e1⟩
      obtain ⟨n, rfl⟩ := inB_int e1
      obtain ⟨n0, n1⟩ := inB_of e1
      walk_at "rds"
      refine ⟨q, _, none, cl, 1, 400, _, rfl, ha, e, hla, fun H2 s2 => ⟨fun e2 => ?_, fun e2 => (k3 e1 H2 s2).1 e2⟩⟩

      cases e2
    | @lst p xs np xA0 it =>
      refine ⟨_, (pss_cons (ps_expr (pe_goE cDemandClock (hr.mono (by decide)) (takes_of rfl rfl rfl rfl) (by rfl) (pa_cons (pv 0) pa_nil)))
      (pss_cons (ps_expr (pe_goE cDemandWithin (hr.mono (by decide)) (takes_of rfl rfl rfl rfl) (by rfl) (pa_cons (pv 1) (pa_cons pe_int (pa_cons (pe_op op_sub (pv 0) pe_int) (pa_cons pe_str pa_nil))))))
      (pss_cons (ps_expr (pe_goE cDemandRow (hr.mono (by decide)) (takes_of rfl rfl rfl rfl) (by rfl) (pa_cons (pv 2) (pa_cons (pv 0) (pa_cons pe_int (pa_cons (pe_glob (v := .int 400) (by rfl) T.g_MOST ⟨_, rfl⟩) (pa_cons pe_str pa_nil)))))))
      (PSs.nox (pss_one (ps_ret (pe_callTy call_tuple_of (by rfl) T.z_tuple (by decide +kernel) (pa_cons (pe_lc (own := [("each", 3)]) (g := gName 3) (tt := tYes) rfl scRowTimes.nd (pi_list (pv 2)) (blkOk_by (own := [("each", 3)]) (N := ["clock", "number", "row", "each"]) (sc := defScope sRowTimes) (by decide +kernel)) (fun _ _ _ _ _ => (pg_name (i := 3) scRowTimes.nd rfl (Or.inl rfl))) (fun _ _ _ _ _ => pts_nil) (fun _ _ _ _ _ => (pe_op op_modN (pe_op op_mul (pv 1) (pv 3)) (pv 0)))) pa_nil)))))))), ?_⟩
      refine r_start (l := [some (c), some (v), some (V.ref p), none]) rfl ?_
      walk_at "rds"
      refine ⟨q, c, rfl, hc, fun e => ?_, fun e => k1 e⟩
      obtain ⟨cl, rfl, h3, h31⟩ := clk_int e
      obtain ⟨k2, k3⟩ := k cl rfl e
      walk_at "rds"
      refine ⟨q, v, some 0, some (cl - 1), _, rfl, hv, fun e1 => ?_, fun e1 => k2 e1⟩
      obtain ⟨n, rfl⟩ := inB_int e1
      obtain ⟨n0, n1⟩ := inB_of e1
      walk_at "rds"
      refine ⟨q, _, some xs, cl, 1, 400, _, rfl, .lst np xA0 it, e, hla, fun H2 s2 => ⟨fun e2 => ?_, fun e2 => (k3 e1 H2 s2).1 e2⟩⟩
      have gg := (k3 e1 H2 s2).2 e2
      obtain ⟨ys, ex, l1, m1⟩ := rowOk_some e2
      cases ex
      have l3 : xs.length ≤ 400 := l1
      replace gg := gg n xs rfl rfl

      have xA := s2 _ _ xA0
      walk_at "rds"

      refine ⟨p, rfl, ⟨_, SqL.of xA⟩, fun D hD => ?_⟩
      have nA : p ≠ D := ne_of_none xA hD
      refine lc_it (walk_list (K := K) (xs := xs)) (fun i G => G D = some (.lst ((xs.take i).map fun x => .int ((n * intOf x).fmod cl))) ∧ ∀ b o, b ≠ D → H2 b = some o → G b = some o)
        ⟨upd_same, fun b o nb eb => by rw [upd_ne nb]; exact eb⟩ (fun i G _ ⟨_, s⟩ => SqL.of (s p _ nA xA)) ?_ ?_
      · rintro i v G G' hi ⟨hG, s⟩ ⟨rfl, hx⟩
        obtain ⟨ix, rfl, ix0, ix1⟩ := m1 v (List.mem_of_getElem? hx)
        walk_at "rds"
        refine ⟨rfl, ?_⟩
        walk_at "rds"
        refine r_I (.inl ⟨by omega, by omega⟩) ?_
        walk_at "rds"
        refine r_I (by omega) ?_
        refine ⟨_, hG, ?_, ?_, fun b o nb eb => by rw [upd_ne nb]; exact s b o nb eb⟩
        · rw [List.length_map]
          refine Nat.lt_of_le_of_lt (List.length_take_le _ _) (small1000 ?_)
          omega
        · rw [upd_same, List.take_succ, hx, Option.toList_some, List.map_append]
          rfl
      · rintro G ⟨hG, s⟩
        walk_at "rds"
        rw [List.take_length] at hG
        refine ⟨D, _, rfl, .inl ⟨SqL.of hG, fun l hl => ?_⟩⟩
        have sD : ∀ b o, H2 b = some o → G b = some o := fun b o eb => s b o (ne_of_none eb hD) eb
        refine gg _ l (fun b o eb => ?_) ?_ upd_same
        · rw [upd_ne (ne_of_none (sD b o (s2 b o eb)) hl)]
          exact sD b o (s2 b o eb)
        · cases z : H l with
          | none => rfl
          | some o => cases hl.symm.trans (sD l o (s2 l o z))
    | @tup p xs np xA0 it =>
      refine ⟨_, (pss_cons (ps_expr (pe_goE cDemandClock (hr.mono (by decide)) (takes_of rfl rfl rfl rfl) (by rfl) (pa_cons (pv 0) pa_nil)))
      (pss_cons (ps_expr (pe_goE cDemandWithin (hr.mono (by decide)) (takes_of rfl rfl rfl rfl) (by rfl) (pa_cons (pv 1) (pa_cons pe_int (pa_cons (pe_op op_sub (pv 0) pe_int) (pa_cons pe_str pa_nil))))))
      (pss_cons (ps_expr (pe_goE cDemandRow (hr.mono (by decide)) (takes_of rfl rfl rfl rfl) (by rfl) (pa_cons (pv 2) (pa_cons (pv 0) (pa_cons pe_int (pa_cons (pe_glob (v := .int 400) (by rfl) T.g_MOST ⟨_, rfl⟩) (pa_cons pe_str pa_nil)))))))
      (PSs.nox (pss_one (ps_ret (pe_callTy call_tuple_of (by rfl) T.z_tuple (by decide +kernel) (pa_cons (pe_lc (own := [("each", 3)]) (g := gName 3) (tt := tYes) rfl scRowTimes.nd (pi_tup (pv 2)) (blkOk_by (own := [("each", 3)]) (N := ["clock", "number", "row", "each"]) (sc := defScope sRowTimes) (by decide +kernel)) (fun _ _ _ _ _ => (pg_name (i := 3) scRowTimes.nd rfl (Or.inl rfl))) (fun _ _ _ _ _ => pts_nil) (fun _ _ _ _ _ => (pe_op op_modN (pe_op op_mul (pv 1) (pv 3)) (pv 0)))) pa_nil)))))))), ?_⟩
      refine r_start (l := [some (c), some (v), some (V.ref p), none]) rfl ?_
      walk_at "rds"
      refine ⟨q, c, rfl, hc, fun e => ?_, fun e => k1 e⟩
      obtain ⟨cl, rfl, h3, h31⟩ := clk_int e
      obtain ⟨k2, k3⟩ := k cl rfl e
      walk_at "rds"
      refine ⟨q, v, some 0, some (cl - 1), _, rfl, hv, fun e1 => ?_, fun e1 => k2 e1⟩
      obtain ⟨n, rfl⟩ := inB_int e1
      obtain ⟨n0, n1⟩ := inB_of e1
      walk_at "rds"
      refine ⟨q, _, some xs, cl, 1, 400, _, rfl, .tup np xA0 it, e, hla, fun H2 s2 => ⟨fun e2 => ?_, fun e2 => (k3 e1 H2 s2).1 e2⟩⟩
      have gg := (k3 e1 H2 s2).2 e2
      obtain ⟨ys, ex, l1, m1⟩ := rowOk_some e2
      cases ex
      have l3 : xs.length ≤ 400 := l1
      replace gg := gg n xs rfl rfl

      have xA := s2 _ _ xA0
      walk_at "rds"

      refine ⟨p, rfl, ⟨_, SqT.of xA⟩, fun D hD => ?_⟩
      have nA : p ≠ D := ne_of_none xA hD
      refine lc_it (walk_tup (K := K) (xs := xs)) (fun i G => G D = some (.lst ((xs.take i).map fun x => .int ((n * intOf x).fmod cl))) ∧ ∀ b o, b ≠ D → H2 b = some o → G b = some o)
        ⟨upd_same, fun b o nb eb => by rw [upd_ne nb]; exact eb⟩ (fun i G _ ⟨_, s⟩ => SqT.of (s p _ nA xA)) ?_ ?_
      · rintro i v G G' hi ⟨hG, s⟩ ⟨rfl, hx⟩
        obtain ⟨ix, rfl, ix0, ix1⟩ := m1 v (List.mem_of_getElem? hx)
        walk_at "rds"
        refine ⟨rfl, ?_⟩
        walk_at "rds"
        refine r_I (.inl ⟨by omega, by omega⟩) ?_
        walk_at "rds"
        refine r_I (by omega) ?_
        refine ⟨_, hG, ?_, ?_, fun b o nb eb => by rw [upd_ne nb]; exact s b o nb eb⟩
        · rw [List.length_map]
          refine Nat.lt_of_le_of_lt (List.length_take_le _ _) (small1000 ?_)
          omega
        · rw [upd_same, List.take_succ, hx, Option.toList_some, List.map_append]
          rfl
      · rintro G ⟨hG, s⟩
        walk_at "rds"
        rw [List.take_length] at hG
        refine ⟨D, _, rfl, .inl ⟨SqL.of hG, fun l hl => ?_⟩⟩
        have sD : ∀ b o, H2 b = some o → G b = some o := fun b o eb => s b o (ne_of_none eb hD) eb
        refine gg _ l (fun b o eb => ?_) ?_ upd_same
        · rw [upd_ne (ne_of_none (sD b o (s2 b o eb)) hl)]
          exact sD b o (s2 b o eb)
        · cases z : H l with
          | none => rfl
          | some o => cases hl.symm.trans (sD l o (s2 l o z))
end
end K06
namespace K06
open PySem PySem.Spec PyProof.Rows L2 Rp LamX RZ
abbrev sLawHeard : Stmt := top 28
theorem scLawHeard : FnScope ["ask", "caught", "error", "kinds", "words", "word", "is_so"] ["ask"] (defScope sLawHeard) := ⟨rfl, rfl, rfl, by decide +kernel, rfl, by decide +kernel, by decide +kernel⟩
/-- what is told of an error: its word, its field -/
def hearE (ad : Ad) (Q : VK) : XK := fun cls d G => ∃ (C dd : Addr) (word : Str) (v : V), cls = .ref C ∧ d = some dd ∧ G dd = some (.xd [("part", v)]) ∧ (C, word) ∈ ([(ad.cC, "clock"), (ad.cN, "number"), (ad.cR, "row"), (ad.cM, "misfit")] : List (Addr × Str)) ∧ ∀ G2 p, Same G G2 → G p = none → G2 p = some (.tup [.str word, v]) → Q (.ref p) G2
def TTh (ad : Ad) : (XK → Hp → VK → Prop) → Hp → VK → Prop := fun tl H Q => ∃ (Ech : XK) (R0 : VK), tl Ech H R0 ∧ (∀ v G, R0 v G → ∀ G2, Same G G2 → Q .non G2) ∧ ∀ cls d G, Ech cls d G → hearE ad Q cls d G
structure HdT (K : PySem.W.Frag) (ad : Ad) : Prop where
  e_cC : ErrK K ad.cC ad.cE "part"
  e_cN : ErrK K ad.cN ad.cE "part"
  e_cR : ErrK K ad.cR ad.cE "part"
  e_cM : ErrK K ad.cM ad.cE "part"
  k_cC_cC : PySem.W.kitOne K (.ref ad.cC) (.ref ad.cC) = some true
  k_cC_cN : PySem.W.kitOne K (.ref ad.cC) (.ref ad.cN) = some false
  k_cC_cR : PySem.W.kitOne K (.ref ad.cC) (.ref ad.cR) = some false
  k_cC_cM : PySem.W.kitOne K (.ref ad.cC) (.ref ad.cM) = some false
  k_cN_cC : PySem.W.kitOne K (.ref ad.cN) (.ref ad.cC) = some false
  k_cN_cN : PySem.W.kitOne K (.ref ad.cN) (.ref ad.cN) = some true
  k_cN_cR : PySem.W.kitOne K (.ref ad.cN) (.ref ad.cR) = some false
  k_cN_cM : PySem.W.kitOne K (.ref ad.cN) (.ref ad.cM) = some false
  k_cR_cC : PySem.W.kitOne K (.ref ad.cR) (.ref ad.cC) = some false
  k_cR_cN : PySem.W.kitOne K (.ref ad.cR) (.ref ad.cN) = some false
  k_cR_cR : PySem.W.kitOne K (.ref ad.cR) (.ref ad.cR) = some true
  k_cR_cM : PySem.W.kitOne K (.ref ad.cR) (.ref ad.cM) = some false
  k_cM_cC : PySem.W.kitOne K (.ref ad.cM) (.ref ad.cC) = some false
  k_cM_cN : PySem.W.kitOne K (.ref ad.cM) (.ref ad.cN) = some false
  k_cM_cR : PySem.W.kitOne K (.ref ad.cM) (.ref ad.cR) = some false
  k_cM_cM : PySem.W.kitOne K (.ref ad.cM) (.ref ad.cM) = some true
section
theorem heard_gives {X : Cx} {g : Addr} {cdv : Value} {q : Str} {ad : Ad} (T : Txt X.K X.mg ad) (T2 : HdT X.K ad) : GivesG X ["ask", "caught", "error", "kinds", "words", "word", "is_so"] "_law_heard" (defScope sLawHeard) g cdv (defBody sLawHeard) "ask" q (TTh ad) := by
  intro f c' s H Q tl act hc h
  obtain ⟨Ech, R0, ht, h1, h2⟩ := h
  refine ⟨_, (pss_cons (ps_set (i := 1) scLawHeard.nd rfl (Or.inl rfl) pe_non)
  (pss_cons (ps_tryT (i := 2) (tb := fun W => tTake f c' q 7 tl W) (ts := fun _ _ _ => tAsg (tVar 2) (gName 1)) (Wout := fun _ _ _ _ => False) rfl rfl rfl scLawHeard.nd rfl rfl ⟨by rfl, by decide, Or.inl T.g_RopeError⟩ L2.takes0 (fun W pn xe tk _ => pss_take rfl tk fun E t2 w2 => act _ pn xe E _ _ t2 w2) (fun a oe cls d pn _ _ => pss_one (ps_set (i := 1) scLawHeard.nd rfl (Or.inl rfl) (pv 2))))
  (pss_cons (ps_set (i := 3) scLawHeard.nd rfl (Or.inl rfl) (pe_lst (pa_cons (pe_tup (pa_cons pe_str (pa_cons (pe_callB call_isO (by rfl) T.z_isinstance (by decide +kernel) (pa_cons (pv 1) (pa_cons (pe_glob (v := .ref ad.cC) (by rfl) T.g_BadClock rfl) pa_nil))) pa_nil))) (pa_cons (pe_tup (pa_cons pe_str (pa_cons (pe_callB call_isO (by rfl) T.z_isinstance (by decide +kernel) (pa_cons (pv 1) (pa_cons (pe_glob (v := .ref ad.cN) (by rfl) T.g_BadNumber rfl) pa_nil))) pa_nil))) (pa_cons (pe_tup (pa_cons pe_str (pa_cons (pe_callB call_isO (by rfl) T.z_isinstance (by decide +kernel) (pa_cons (pv 1) (pa_cons (pe_glob (v := .ref ad.cR) (by rfl) T.g_BadRow rfl) pa_nil))) pa_nil))) (pa_cons (pe_tup (pa_cons pe_str (pa_cons (pe_callB call_isO (by rfl) T.z_isinstance (by decide +kernel) (pa_cons (pv 1) (pa_cons (pe_glob (v := .ref ad.cM) (by rfl) T.g_Misfit rfl) pa_nil))) pa_nil))) pa_nil))))))
  (pss_cons (ps_setLc (i := 4) (own := [("word", 5), ("is_so", 6)]) (g := gTup X.K 2 (gCons (gName 5) (gCons (gName 6) gNil)))  rfl scLawHeard.nd rfl rfl (sw_true rfl rfl rfl (by decide +kernel)) (pi_list (pv 3)) (blkOk_by (own := [("word", 5), ("is_so", 6)]) (N := ["ask", "caught", "error", "kinds", "words", "word", "is_so"]) (sc := defScope sLawHeard) (by decide +kernel)) (fun _ _ _ _ _ => (pg_tup rfl (pgs_cons (pg_name (i := 5) scLawHeard.nd rfl (Or.inl rfl)) (pgs_cons (pg_name (i := 6) scLawHeard.nd rfl (Or.inl rfl)) pgs_nil)))) (fun _ _ _ _ _ => (pts_one (pt_val (pv 6)))) (fun _ _ _ _ _ => (pv 5)))
  (pss_cons (ps_if (pt_cmpR op_eq (pe_callB call_len_seq (by rfl) T.z_len PySem.boot_len (pa_cons (pv 4) pa_nil)) pe_int (nomark _))
  (pss_one (ps_ret (pe_tup (pa_cons (pe_ix ix_list (pv 4) pe_int (fun _ _ => rfl)) (pa_cons (pe_xt (pv 1)) pa_nil)))))
  pss_nil)
  (pss_one (ps_ret (pe_ifExp (pt_cmpR op_isN (pv 1) pe_non (nomark _)) pe_non (pe_tup (pa_cons pe_str (pa_cons pe_non pa_nil))))))))))), ?_⟩
  refine r_start (l := [some (.ref f), none, none, none, none, none, none]) rfl ?_
  walk_at "rds"
  refine ⟨Ech, R0, fun cls d σ' Ga he hl => ?_, rfl, hc, ht, fun v G r0 => ?_⟩
  · obtain ⟨C, dd, word, v, rfl, rfl, hd, mem, k⟩ := h2 _ _ _ he
    obtain ⟨a0, a1, a2, a3, a4, a5, a6, rfl⟩ : ∃ a0 a1 a2 a3 a4 a5 a6, σ' = [a0, a1, a2, a3, a4, a5, a6] := match σ', hl with | [a0, a1, a2, a3, a4, a5, a6], _ => ⟨a0, a1, a2, a3, a4, a5, a6, rfl⟩
    simp only [List.mem_cons, Prod.mk.injEq, List.not_mem_nil, or_false] at mem
    rcases mem with ⟨rfl, rfl⟩ | ⟨rfl, rfl⟩ | ⟨rfl, rfl⟩ | ⟨rfl, rfl⟩
    · refine ⟨true, T2.e_cC.up, fun _ a na => ?_, fun z => by cases z⟩
      walk_at "rds"
      generalize hG : upd Ga a _ = Ge
      have sG : Same Ga Ge := by rw [← hG]; exact same_neu (Same.refl _) na
      have ea : Ge a = some (ErO a (.ref ad.cC) (some dd)) := by rw [← hG]; exact upd_same
      have ed := sG _ _ hd
      clear hG
      walk_at "rds"
      refine r_isE T2.e_cC ea ed T2.k_cC_cC ?_
      walk_at "rds"
      refine ⟨len_ok rfl, fun p0 hp0 => ?_⟩
      generalize hG0 : upd Ge p0 _ = G0
      have s0 : Same Ge G0 := by rw [← hG0]; exact same_neu (Same.refl _) hp0
      have ep0 : G0 p0 = some (.tup [.str "clock", .bl true]) := by rw [← hG0]; exact upd_same
      replace ea := s0 _ _ ea
      replace ed := s0 _ _ ed
      clear hG0
      walk_at "rds"
      refine r_isE T2.e_cC ea ed T2.k_cC_cN ?_
      walk_at "rds"
      refine ⟨len_ok rfl, fun p1 hp1 => ?_⟩
      generalize hG1 : upd G0 p1 _ = G1
      have s1 : Same G0 G1 := by rw [← hG1]; exact same_neu (Same.refl _) hp1
      have ep1 : G1 p1 = some (.tup [.str "number", .bl false]) := by rw [← hG1]; exact upd_same
      replace ep0 := s1 _ _ ep0
      replace ea := s1 _ _ ea
      replace ed := s1 _ _ ed
      clear hG1
      walk_at "rds"
      refine r_isE T2.e_cC ea ed T2.k_cC_cR ?_
      walk_at "rds"
      refine ⟨len_ok rfl, fun p2 hp2 => ?_⟩
      generalize hG2 : upd G1 p2 _ = G2
      have s2 : Same G1 G2 := by rw [← hG2]; exact same_neu (Same.refl _) hp2
      have ep2 : G2 p2 = some (.tup [.str "row", .bl false]) := by rw [← hG2]; exact upd_same
      replace ep0 := s2 _ _ ep0
      replace ep1 := s2 _ _ ep1
      replace ea := s2 _ _ ea
      replace ed := s2 _ _ ed
      clear hG2
      walk_at "rds"
      refine r_isE T2.e_cC ea ed T2.k_cC_cM ?_
      walk_at "rds"
      refine ⟨len_ok rfl, fun p3 hp3 => ?_⟩
      generalize hG3 : upd G2 p3 _ = G3
      have s3 : Same G2 G3 := by rw [← hG3]; exact same_neu (Same.refl _) hp3
      have ep3 : G3 p3 = some (.tup [.str "misfit", .bl false]) := by rw [← hG3]; exact upd_same
      replace ep0 := s3 _ _ ep0
      replace ep1 := s3 _ _ ep1
      replace ep2 := s3 _ _ ep2
      replace ea := s3 _ _ ea
      replace ed := s3 _ _ ed
      clear hG3
      walk_at "rds"
      refine ⟨len_ok rfl, fun pl hpl => ?_⟩
      generalize hGl : upd G3 pl _ = Gl
      have sl : Same G3 Gl := by rw [← hGl]; exact same_neu (Same.refl _) hpl
      have el : Gl pl = some (.lst [.ref p0, .ref p1, .ref p2, .ref p3]) := by rw [← hGl]; exact upd_same
      replace ep0 := sl _ _ ep0
      replace ep1 := sl _ _ ep1
      replace ep2 := sl _ _ ep2
      replace ep3 := sl _ _ ep3
      replace ea := sl _ _ ea
      replace ed := sl _ _ ed
      clear hGl
      walk_at "rds"
      refine ⟨pl, rfl, ⟨_, SqL.of el⟩, fun D hD => ?_⟩
      refine lc_list (K := X.K) (a := pl) (xs := [.ref p0, .ref p1, .ref p2, .ref p3]) (fun i G => G D = some (.lst (if 0 < i then [V.str "clock"] else [])) ∧ ∀ b o, b ≠ D → Gl b = some o → G b = some o)
        ⟨upd_same, fun b o nb eb => by rw [upd_ne nb]; exact eb⟩ (fun i G _ ⟨_, s⟩ => SqL.of (s pl _ (ne_of_none el hD) el)) ?_ ?_
      · rintro i x G hx ⟨hG, s⟩
        match i, hx with
        | 0, hx =>
          cases Option.some.inj hx
          walk_at "rds"
          refine r_gtup ⟨_, _, rfl, SqT.of (s _ _ (ne_of_none ep0 hD) ep0), rfl, ?_⟩
          refine ⟨_, _, rfl, ?_⟩
          walk_at "rds"
          refine ⟨_, _, rfl, ?_⟩
          walk_at "rds"
          refine ⟨rfl, ?_⟩
          refine ⟨rfl, ?_⟩
          walk_at "rds"
          refine ⟨_, hG, lt_ok rfl, upd_same, fun b o nb eb => by rw [upd_ne nb]; exact s b o nb eb⟩
        | 1, hx =>
          cases Option.some.inj hx
          walk_at "rds"
          refine r_gtup ⟨_, _, rfl, SqT.of (s _ _ (ne_of_none ep1 hD) ep1), rfl, ?_⟩
          refine ⟨_, _, rfl, ?_⟩
          walk_at "rds"
          refine ⟨_, _, rfl, ?_⟩
          walk_at "rds"
          refine ⟨rfl, ?_⟩
          refine ⟨rfl, ?_⟩
          walk_at "rds"
          exact ⟨hG, s⟩
        | 2, hx =>
          cases Option.some.inj hx
          walk_at "rds"
          refine r_gtup ⟨_, _, rfl, SqT.of (s _ _ (ne_of_none ep2 hD) ep2), rfl, ?_⟩
          refine ⟨_, _, rfl, ?_⟩
          walk_at "rds"
          refine ⟨_, _, rfl, ?_⟩
          walk_at "rds"
          refine ⟨rfl, ?_⟩
          refine ⟨rfl, ?_⟩
          walk_at "rds"
          exact ⟨hG, s⟩
        | 3, hx =>
          cases Option.some.inj hx
          walk_at "rds"
          refine r_gtup ⟨_, _, rfl, SqT.of (s _ _ (ne_of_none ep3 hD) ep3), rfl, ?_⟩
          refine ⟨_, _, rfl, ?_⟩
          walk_at "rds"
          refine ⟨_, _, rfl, ?_⟩
          walk_at "rds"
          refine ⟨rfl, ?_⟩
          refine ⟨rfl, ?_⟩
          walk_at "rds"
          exact ⟨hG, s⟩
        | i + 4, hx => simp at hx
      · rintro Gz ⟨hG, s⟩
        replace ea := s _ _ (ne_of_none ea hD) ea
        replace ed := s _ _ (ne_of_none ed hD) ed
        have all : ∀ b o, Ga b = some o → Gz b = some o := fun b o e => s b o (ne_of_none (sl _ _ (s3 _ _ (s2 _ _ (s1 _ _ (s0 _ _ (sG _ _ e)))))) hD) (sl _ _ (s3 _ _ (s2 _ _ (s1 _ _ (s0 _ _ (sG _ _ e))))))
        replace hG : Gz D = some (.lst [.str "clock"]) := hG
        walk_at "rds"
        refine ⟨_, _, rfl, .inl (SqL.of hG), ?_⟩
        walk_at "rds"
        refine ⟨rfl, ?_⟩
        rw [decide_eq_true (by rfl)]
        walk_at "rds"
        refine r_ixL (SqL.of hG) rfl ?_
        walk_at "rds"
        refine ⟨a, _, dd, _, v, rfl, T2.e_cC.xf, T2.e_cC.no, ea, ed, by simp [List.lookup], ?_⟩
        walk_at "rds"
        refine ⟨len_ok rfl, fun pr hpr => ?_⟩
        refine k _ pr (fun b o e => ?_) ?_ upd_same
        · rw [upd_ne (ne_of_none (all b o e) hpr)]
          exact all b o e
        · cases z : Ga pr with
          | none => rfl
          | some o => cases hpr.symm.trans (all pr o z)
    · refine ⟨true, T2.e_cN.up, fun _ a na => ?_, fun z => by cases z⟩
      walk_at "rds"
      generalize hG : upd Ga a _ = Ge
      have sG : Same Ga Ge := by rw [← hG]; exact same_neu (Same.refl _) na
      have ea : Ge a = some (ErO a (.ref ad.cN) (some dd)) := by rw [← hG]; exact upd_same
      have ed := sG _ _ hd
      clear hG
      walk_at "rds"
      refine r_isE T2.e_cN ea ed T2.k_cN_cC ?_
      walk_at "rds"
      refine ⟨len_ok rfl, fun p0 hp0 => ?_⟩
      generalize hG0 : upd Ge p0 _ = G0
      have s0 : Same Ge G0 := by rw [← hG0]; exact same_neu (Same.refl _) hp0
      have ep0 : G0 p0 = some (.tup [.str "clock", .bl false]) := by rw [← hG0]; exact upd_same
      replace ea := s0 _ _ ea
      replace ed := s0 _ _ ed
      clear hG0
      walk_at "rds"
      refine r_isE T2.e_cN ea ed T2.k_cN_cN ?_
      walk_at "rds"
      refine ⟨len_ok rfl, fun p1 hp1 => ?_⟩
      generalize hG1 : upd G0 p1 _ = G1
      have s1 : Same G0 G1 := by rw [← hG1]; exact same_neu (Same.refl _) hp1
      have ep1 : G1 p1 = some (.tup [.str "number", .bl true]) := by rw [← hG1]; exact upd_same
      replace ep0 := s1 _ _ ep0
      replace ea := s1 _ _ ea
      replace ed := s1 _ _ ed
      clear hG1
      walk_at "rds"
      refine r_isE T2.e_cN ea ed T2.k_cN_cR ?_
      walk_at "rds"
      refine ⟨len_ok rfl, fun p2 hp2 => ?_⟩
      generalize hG2 : upd G1 p2 _ = G2
      have s2 : Same G1 G2 := by rw [← hG2]; exact same_neu (Same.refl _) hp2
      have ep2 : G2 p2 = some (.tup [.str "row", .bl false]) := by rw [← hG2]; exact upd_same
      replace ep0 := s2 _ _ ep0
      replace ep1 := s2 _ _ ep1
      replace ea := s2 _ _ ea
      replace ed := s2 _ _ ed
      clear hG2
      walk_at "rds"
      refine r_isE T2.e_cN ea ed T2.k_cN_cM ?_
      walk_at "rds"
      refine ⟨len_ok rfl, fun p3 hp3 => ?_⟩
      generalize hG3 : upd G2 p3 _ = G3
      have s3 : Same G2 G3 := by rw [← hG3]; exact same_neu (Same.refl _) hp3
      have ep3 : G3 p3 = some (.tup [.str "misfit", .bl false]) := by rw [← hG3]; exact upd_same
      replace ep0 := s3 _ _ ep0
      replace ep1 := s3 _ _ ep1
      replace ep2 := s3 _ _ ep2
      replace ea := s3 _ _ ea
      replace ed := s3 _ _ ed
      clear hG3
      walk_at "rds"
      refine ⟨len_ok rfl, fun pl hpl => ?_⟩
      generalize hGl : upd G3 pl _ = Gl
      have sl : Same G3 Gl := by rw [← hGl]; exact same_neu (Same.refl _) hpl
      have el : Gl pl = some (.lst [.ref p0, .ref p1, .ref p2, .ref p3]) := by rw [← hGl]; exact upd_same
      replace ep0 := sl _ _ ep0
      replace ep1 := sl _ _ ep1
      replace ep2 := sl _ _ ep2
      replace ep3 := sl _ _ ep3
      replace ea := sl _ _ ea
      replace ed := sl _ _ ed
      clear hGl
      walk_at "rds"
      refine ⟨pl, rfl, ⟨_, SqL.of el⟩, fun D hD => ?_⟩
      refine lc_list (K := X.K) (a := pl) (xs := [.ref p0, .ref p1, .ref p2, .ref p3]) (fun i G => G D = some (.lst (if 1 < i then [V.str "number"] else [])) ∧ ∀ b o, b ≠ D → Gl b = some o → G b = some o)
        ⟨upd_same, fun b o nb eb => by rw [upd_ne nb]; exact eb⟩ (fun i G _ ⟨_, s⟩ => SqL.of (s pl _ (ne_of_none el hD) el)) ?_ ?_
      · rintro i x G hx ⟨hG, s⟩
        match i, hx with
        | 0, hx =>
          cases Option.some.inj hx
          walk_at "rds"
          refine r_gtup ⟨_, _, rfl, SqT.of (s _ _ (ne_of_none ep0 hD) ep0), rfl, ?_⟩
          refine ⟨_, _, rfl, ?_⟩
          walk_at "rds"
          refine ⟨_, _, rfl, ?_⟩
          walk_at "rds"
          refine ⟨rfl, ?_⟩
          refine ⟨rfl, ?_⟩
          walk_at "rds"
          exact ⟨hG, s⟩
        | 1, hx =>
          cases Option.some.inj hx
          walk_at "rds"
          refine r_gtup ⟨_, _, rfl, SqT.of (s _ _ (ne_of_none ep1 hD) ep1), rfl, ?_⟩
          refine ⟨_, _, rfl, ?_⟩
          walk_at "rds"
          refine ⟨_, _, rfl, ?_⟩
          walk_at "rds"
          refine ⟨rfl, ?_⟩
          refine ⟨rfl, ?_⟩
          walk_at "rds"
          refine ⟨_, hG, lt_ok rfl, upd_same, fun b o nb eb => by rw [upd_ne nb]; exact s b o nb eb⟩
        | 2, hx =>
          cases Option.some.inj hx
          walk_at "rds"
          refine r_gtup ⟨_, _, rfl, SqT.of (s _ _ (ne_of_none ep2 hD) ep2), rfl, ?_⟩
          refine ⟨_, _, rfl, ?_⟩
          walk_at "rds"
          refine ⟨_, _, rfl, ?_⟩
          walk_at "rds"
          refine ⟨rfl, ?_⟩
          refine ⟨rfl, ?_⟩
          walk_at "rds"
          exact ⟨hG, s⟩
        | 3, hx =>
          cases Option.some.inj hx
          walk_at "rds"
          refine r_gtup ⟨_, _, rfl, SqT.of (s _ _ (ne_of_none ep3 hD) ep3), rfl, ?_⟩
          refine ⟨_, _, rfl, ?_⟩
          walk_at "rds"
          refine ⟨_, _, rfl, ?_⟩
          walk_at "rds"
          refine ⟨rfl, ?_⟩
          refine ⟨rfl, ?_⟩
          walk_at "rds"
          exact ⟨hG, s⟩
        | i + 4, hx => simp at hx
      · rintro Gz ⟨hG, s⟩
        replace ea := s _ _ (ne_of_none ea hD) ea
        replace ed := s _ _ (ne_of_none ed hD) ed
        have all : ∀ b o, Ga b = some o → Gz b = some o := fun b o e => s b o (ne_of_none (sl _ _ (s3 _ _ (s2 _ _ (s1 _ _ (s0 _ _ (sG _ _ e)))))) hD) (sl _ _ (s3 _ _ (s2 _ _ (s1 _ _ (s0 _ _ (sG _ _ e))))))
        replace hG : Gz D = some (.lst [.str "number"]) := hG
        walk_at "rds"
        refine ⟨_, _, rfl, .inl (SqL.of hG), ?_⟩
        walk_at "rds"
        refine ⟨rfl, ?_⟩
        rw [decide_eq_true (by rfl)]
        walk_at "rds"
        refine r_ixL (SqL.of hG) rfl ?_
        walk_at "rds"
        refine ⟨a, _, dd, _, v, rfl, T2.e_cN.xf, T2.e_cN.no, ea, ed, by simp [List.lookup], ?_⟩
        walk_at "rds"
        refine ⟨len_ok rfl, fun pr hpr => ?_⟩
        refine k _ pr (fun b o e => ?_) ?_ upd_same
        · rw [upd_ne (ne_of_none (all b o e) hpr)]
          exact all b o e
        · cases z : Ga pr with
          | none => rfl
          | some o => cases hpr.symm.trans (all pr o z)
    · refine ⟨true, T2.e_cR.up, fun _ a na => ?_, fun z => by cases z⟩
      walk_at "rds"
      generalize hG : upd Ga a _ = Ge
      have sG : Same Ga Ge := by rw [← hG]; exact same_neu (Same.refl _) na
      have ea : Ge a = some (ErO a (.ref ad.cR) (some dd)) := by rw [← hG]; exact upd_same
      have ed := sG _ _ hd
      clear hG
      walk_at "rds"
      refine r_isE T2.e_cR ea ed T2.k_cR_cC ?_
      walk_at "rds"
      refine ⟨len_ok rfl, fun p0 hp0 => ?_⟩
      generalize hG0 : upd Ge p0 _ = G0
      have s0 : Same Ge G0 := by rw [← hG0]; exact same_neu (Same.refl _) hp0
      have ep0 : G0 p0 = some (.tup [.str "clock", .bl false]) := by rw [← hG0]; exact upd_same
      replace ea := s0 _ _ ea
      replace ed := s0 _ _ ed
      clear hG0
      walk_at "rds"
      refine r_isE T2.e_cR ea ed T2.k_cR_cN ?_
      walk_at "rds"
      refine ⟨len_ok rfl, fun p1 hp1 => ?_⟩
      generalize hG1 : upd G0 p1 _ = G1
      have s1 : Same G0 G1 := by rw [← hG1]; exact same_neu (Same.refl _) hp1
      have ep1 : G1 p1 = some (.tup [.str "number", .bl false]) := by rw [← hG1]; exact upd_same
      replace ep0 := s1 _ _ ep0
      replace ea := s1 _ _ ea
      replace ed := s1 _ _ ed
      clear hG1
      walk_at "rds"
      refine r_isE T2.e_cR ea ed T2.k_cR_cR ?_
      walk_at "rds"
      refine ⟨len_ok rfl, fun p2 hp2 => ?_⟩
      generalize hG2 : upd G1 p2 _ = G2
      have s2 : Same G1 G2 := by rw [← hG2]; exact same_neu (Same.refl _) hp2
      have ep2 : G2 p2 = some (.tup [.str "row", .bl true]) := by rw [← hG2]; exact upd_same
      replace ep0 := s2 _ _ ep0
      replace ep1 := s2 _ _ ep1
      replace ea := s2 _ _ ea
      replace ed := s2 _ _ ed
      clear hG2
      walk_at "rds"
      refine r_isE T2.e_cR ea ed T2.k_cR_cM ?_
      walk_at "rds"
      refine ⟨len_ok rfl, fun p3 hp3 => ?_⟩
      generalize hG3 : upd G2 p3 _ = G3
      have s3 : Same G2 G3 := by rw [← hG3]; exact same_neu (Same.refl _) hp3
      have ep3 : G3 p3 = some (.tup [.str "misfit", .bl false]) := by rw [← hG3]; exact upd_same
      replace ep0 := s3 _ _ ep0
      replace ep1 := s3 _ _ ep1
      replace ep2 := s3 _ _ ep2
      replace ea := s3 _ _ ea
      replace ed := s3 _ _ ed
      clear hG3
      walk_at "rds"
      refine ⟨len_ok rfl, fun pl hpl => ?_⟩
      generalize hGl : upd G3 pl _ = Gl
      have sl : Same G3 Gl := by rw [← hGl]; exact same_neu (Same.refl _) hpl
      have el : Gl pl = some (.lst [.ref p0, .ref p1, .ref p2, .ref p3]) := by rw [← hGl]; exact upd_same
      replace ep0 := sl _ _ ep0
      replace ep1 := sl _ _ ep1
      replace ep2 := sl _ _ ep2
      replace ep3 := sl _ _ ep3
      replace ea := sl _ _ ea
      replace ed := sl _ _ ed
      clear hGl
      walk_at "rds"
      refine ⟨pl, rfl, ⟨_, SqL.of el⟩, fun D hD => ?_⟩
      refine lc_list (K := X.K) (a := pl) (xs := [.ref p0, .ref p1, .ref p2, .ref p3]) (fun i G => G D = some (.lst (if 2 < i then [V.str "row"] else [])) ∧ ∀ b o, b ≠ D → Gl b = some o → G b = some o)
        ⟨upd_same, fun b o nb eb => by rw [upd_ne nb]; exact eb⟩ (fun i G _ ⟨_, s⟩ => SqL.of (s pl _ (ne_of_none el hD) el)) ?_ ?_
      · rintro i x G hx ⟨hG, s⟩
        match i, hx with
        | 0, hx =>
          cases Option.some.inj hx
          walk_at "rds"
          refine r_gtup ⟨_, _, rfl, SqT.of (s _ _ (ne_of_none ep0 hD) ep0), rfl, ?_⟩
          refine ⟨_, _, rfl, ?_⟩
          walk_at "rds"
          refine ⟨_, _, rfl, ?_⟩
          walk_at "rds"
          refine ⟨rfl, ?_⟩
          refine ⟨rfl, ?_⟩
          walk_at "rds"
          exact ⟨hG, s⟩
        | 1, hx =>
          cases Option.some.inj hx
          walk_at "rds"
          refine r_gtup ⟨_, _, rfl, SqT.of (s _ _ (ne_of_none ep1 hD) ep1), rfl, ?_⟩
          refine ⟨_, _, rfl, ?_⟩
          walk_at "rds"
          refine ⟨_, _, rfl, ?_⟩
          walk_at "rds"
          refine ⟨rfl, ?_⟩
          refine ⟨rfl, ?_⟩
          walk_at "rds"
          exact ⟨hG, s⟩
        | 2, hx =>
          cases Option.some.inj hx
          walk_at "rds"
          refine r_gtup ⟨_, _, rfl, SqT.of (s _ _ (ne_of_none ep2 hD) ep2), rfl, ?_⟩
          refine ⟨_, _, rfl, ?_⟩
          walk_at "rds"
          refine ⟨_, _, rfl, ?_⟩
          walk_at "rds"
          refine ⟨rfl, ?_⟩
          refine ⟨rfl, ?_⟩
          walk_at "rds"
          refine ⟨_, hG, lt_ok rfl, upd_same, fun b o nb eb => by rw [upd_ne nb]; exact s b o nb eb⟩
        | 3, hx =>
          cases Option.some.inj hx
          walk_at "rds"
          refine r_gtup ⟨_, _, rfl, SqT.of (s _ _ (ne_of_none ep3 hD) ep3), rfl, ?_⟩
          refine ⟨_, _, rfl, ?_⟩
          walk_at "rds"
          refine ⟨_, _, rfl, ?_⟩
          walk_at "rds"
          refine ⟨rfl, ?_⟩
          refine ⟨rfl, ?_⟩
          walk_at "rds"
          exact ⟨hG, s⟩
        | i + 4, hx => simp at hx
      · rintro Gz ⟨hG, s⟩
        replace ea := s _ _ (ne_of_none ea hD) ea
        replace ed := s _ _ (ne_of_none ed hD) ed
        have all : ∀ b o, Ga b = some o → Gz b = some o := fun b o e => s b o (ne_of_none (sl _ _ (s3 _ _ (s2 _ _ (s1 _ _ (s0 _ _ (sG _ _ e)))))) hD) (sl _ _ (s3 _ _ (s2 _ _ (s1 _ _ (s0 _ _ (sG _ _ e))))))
        replace hG : Gz D = some (.lst [.str "row"]) := hG
        walk_at "rds"
        refine ⟨_, _, rfl, .inl (SqL.of hG), ?_⟩
        walk_at "rds"
        refine ⟨rfl, ?_⟩
        rw [decide_eq_true (by rfl)]
        walk_at "rds"
        refine r_ixL (SqL.of hG) rfl ?_
        walk_at "rds"
        refine ⟨a, _, dd, _, v, rfl, T2.e_cR.xf, T2.e_cR.no, ea, ed, by simp [List.lookup], ?_⟩
        walk_at "rds"
        refine ⟨len_ok rfl, fun pr hpr => ?_⟩
        refine k _ pr (fun b o e => ?_) ?_ upd_same
        · rw [upd_ne (ne_of_none (all b o e) hpr)]
          exact all b o e
        · cases z : Ga pr with
          | none => rfl
          | some o => cases hpr.symm.trans (all pr o z)
    · refine ⟨true, T2.e_cM.up, fun _ a na => ?_, fun z => by cases z⟩
      walk_at "rds"
      generalize hG : upd Ga a _ = Ge
      have sG : Same Ga Ge := by rw [← hG]; exact same_neu (Same.refl _) na
      have ea : Ge a = some (ErO a (.ref ad.cM) (some dd)) := by rw [← hG]; exact upd_same
      have ed := sG _ _ hd
      clear hG
      walk_at "rds"
      refine r_isE T2.e_cM ea ed T2.k_cM_cC ?_
      walk_at "rds"
      refine ⟨len_ok rfl, fun p0 hp0 => ?_⟩
      generalize hG0 : upd Ge p0 _ = G0
      have s0 : Same Ge G0 := by rw [← hG0]; exact same_neu (Same.refl _) hp0
      have ep0 : G0 p0 = some (.tup [.str "clock", .bl false]) := by rw [← hG0]; exact upd_same
      replace ea := s0 _ _ ea
      replace ed := s0 _ _ ed
      clear hG0
      walk_at "rds"
      refine r_isE T2.e_cM ea ed T2.k_cM_cN ?_
      walk_at "rds"
      refine ⟨len_ok rfl, fun p1 hp1 => ?_⟩
      generalize hG1 : upd G0 p1 _ = G1
      have s1 : Same G0 G1 := by rw [← hG1]; exact same_neu (Same.refl _) hp1
      have ep1 : G1 p1 = some (.tup [.str "number", .bl false]) := by rw [← hG1]; exact upd_same
      replace ep0 := s1 _ _ ep0
      replace ea := s1 _ _ ea
      replace ed := s1 _ _ ed
      clear hG1
      walk_at "rds"
      refine r_isE T2.e_cM ea ed T2.k_cM_cR ?_
      walk_at "rds"
      refine ⟨len_ok rfl, fun p2 hp2 => ?_⟩
      generalize hG2 : upd G1 p2 _ = G2
      have s2 : Same G1 G2 := by rw [← hG2]; exact same_neu (Same.refl _) hp2
      have ep2 : G2 p2 = some (.tup [.str "row", .bl false]) := by rw [← hG2]; exact upd_same
      replace ep0 := s2 _ _ ep0
      replace ep1 := s2 _ _ ep1
      replace ea := s2 _ _ ea
      replace ed := s2 _ _ ed
      clear hG2
      walk_at "rds"
      refine r_isE T2.e_cM ea ed T2.k_cM_cM ?_
      walk_at "rds"
      refine ⟨len_ok rfl, fun p3 hp3 => ?_⟩
      generalize hG3 : upd G2 p3 _ = G3
      have s3 : Same G2 G3 := by rw [← hG3]; exact same_neu (Same.refl _) hp3
      have ep3 : G3 p3 = some (.tup [.str "misfit", .bl true]) := by rw [← hG3]; exact upd_same
      replace ep0 := s3 _ _ ep0
      replace ep1 := s3 _ _ ep1
      replace ep2 := s3 _ _ ep2
      replace ea := s3 _ _ ea
      replace ed := s3 _ _ ed
      clear hG3
      walk_at "rds"
      refine ⟨len_ok rfl, fun pl hpl => ?_⟩
      generalize hGl : upd G3 pl _ = Gl
      have sl : Same G3 Gl := by rw [← hGl]; exact same_neu (Same.refl _) hpl
      have el : Gl pl = some (.lst [.ref p0, .ref p1, .ref p2, .ref p3]) := by rw [← hGl]; exact upd_same
      replace ep0 := sl _ _ ep0
      replace ep1 := sl _ _ ep1
      replace ep2 := sl _ _ ep2
      replace ep3 := sl _ _ ep3
      replace ea := sl _ _ ea
      replace ed := sl _ _ ed
      clear hGl
      walk_at "rds"
      refine ⟨pl, rfl, ⟨_, SqL.of el⟩, fun D hD => ?_⟩
      refine lc_list (K := X.K) (a := pl) (xs := [.ref p0, .ref p1, .ref p2, .ref p3]) (fun i G => G D = some (.lst (if 3 < i then [V.str "misfit"] else [])) ∧ ∀ b o, b ≠ D → Gl b = some o → G b = some o)
        ⟨upd_same, fun b o nb eb => by rw [upd_ne nb]; exact eb⟩ (fun i G _ ⟨_, s⟩ => SqL.of (s pl _ (ne_of_none el hD) el)) ?_ ?_
      · rintro i x G hx ⟨hG, s⟩
        match i, hx with
        | 0, hx =>
          cases Option.some.inj hx
          walk_at "rds"
          refine r_gtup ⟨_, _, rfl, SqT.of (s _ _ (ne_of_none ep0 hD) ep0), rfl, ?_⟩
          refine ⟨_, _, rfl, ?_⟩
          walk_at "rds"
          refine ⟨_, _, rfl, ?_⟩
          walk_at "rds"
          refine ⟨rfl, ?_⟩
          refine ⟨rfl, ?_⟩
          walk_at "rds"
          exact ⟨hG, s⟩
        | 1, hx =>
          cases Option.some.inj hx
          walk_at "rds"
          refine r_gtup ⟨_, _, rfl, SqT.of (s _ _ (ne_of_none ep1 hD) ep1), rfl, ?_⟩
          refine ⟨_, _, rfl, ?_⟩
          walk_at "rds"
          refine ⟨_, _, rfl, ?_⟩
          walk_at "rds"
          refine ⟨rfl, ?_⟩
          refine ⟨rfl, ?_⟩
          walk_at "rds"
          exact ⟨hG, s⟩
        | 2, hx =>
          cases Option.some.inj hx
          walk_at "rds"
          refine r_gtup ⟨_, _, rfl, SqT.of (s _ _ (ne_of_none ep2 hD) ep2), rfl, ?_⟩
          refine ⟨_, _, rfl, ?_⟩
          walk_at "rds"
          refine ⟨_, _, rfl, ?_⟩
          walk_at "rds"
          refine ⟨rfl, ?_⟩
          refine ⟨rfl, ?_⟩
          walk_at "rds"
          exact ⟨hG, s⟩
        | 3, hx =>
          cases Option.some.inj hx
          walk_at "rds"
          refine r_gtup ⟨_, _, rfl, SqT.of (s _ _ (ne_of_none ep3 hD) ep3), rfl, ?_⟩
          refine ⟨_, _, rfl, ?_⟩
          walk_at "rds"
          refine ⟨_, _, rfl, ?_⟩
          walk_at "rds"
          refine ⟨rfl, ?_⟩
          refine ⟨rfl, ?_⟩
          walk_at "rds"
          refine ⟨_, hG, lt_ok rfl, upd_same, fun b o nb eb => by rw [upd_ne nb]; exact s b o nb eb⟩
        | i + 4, hx => simp at hx
      · rintro Gz ⟨hG, s⟩
        replace ea := s _ _ (ne_of_none ea hD) ea
        replace ed := s _ _ (ne_of_none ed hD) ed
        have all : ∀ b o, Ga b = some o → Gz b = some o := fun b o e => s b o (ne_of_none (sl _ _ (s3 _ _ (s2 _ _ (s1 _ _ (s0 _ _ (sG _ _ e)))))) hD) (sl _ _ (s3 _ _ (s2 _ _ (s1 _ _ (s0 _ _ (sG _ _ e))))))
        replace hG : Gz D = some (.lst [.str "misfit"]) := hG
        walk_at "rds"
        refine ⟨_, _, rfl, .inl (SqL.of hG), ?_⟩
        walk_at "rds"
        refine ⟨rfl, ?_⟩
        rw [decide_eq_true (by rfl)]
        walk_at "rds"
        refine r_ixL (SqL.of hG) rfl ?_
        walk_at "rds"
        refine ⟨a, _, dd, _, v, rfl, T2.e_cM.xf, T2.e_cM.no, ea, ed, by simp [List.lookup], ?_⟩
        walk_at "rds"
        refine ⟨len_ok rfl, fun pr hpr => ?_⟩
        refine k _ pr (fun b o e => ?_) ?_ upd_same
        · rw [upd_ne (ne_of_none (all b o e) hpr)]
          exact all b o e
        · cases z : Ga pr with
          | none => rfl
          | some o => cases hpr.symm.trans (all pr o z)
  · walk_at "rds"
    refine r_isNo T2.e_cC ?_
    walk_at "rds"
    refine ⟨len_ok rfl, fun p0 hp0 => ?_⟩
    generalize hG0 : upd G p0 _ = G0
    have s0 : Same G G0 := by rw [← hG0]; exact same_neu (Same.refl _) hp0
    have ep0 : G0 p0 = some (.tup [.str "clock", .bl false]) := by rw [← hG0]; exact upd_same
    clear hG0
    walk_at "rds"
    refine r_isNo T2.e_cN ?_
    walk_at "rds"
    refine ⟨len_ok rfl, fun p1 hp1 => ?_⟩
    generalize hG1 : upd G0 p1 _ = G1
    have s1 : Same G0 G1 := by rw [← hG1]; exact same_neu (Same.refl _) hp1
    have ep1 : G1 p1 = some (.tup [.str "number", .bl false]) := by rw [← hG1]; exact upd_same
    replace ep0 := s1 _ _ ep0
    clear hG1
    walk_at "rds"
    refine r_isNo T2.e_cR ?_
    walk_at "rds"
    refine ⟨len_ok rfl, fun p2 hp2 => ?_⟩
    generalize hG2 : upd G1 p2 _ = G2
    have s2 : Same G1 G2 := by rw [← hG2]; exact same_neu (Same.refl _) hp2
    have ep2 : G2 p2 = some (.tup [.str "row", .bl false]) := by rw [← hG2]; exact upd_same
    replace ep0 := s2 _ _ ep0
    replace ep1 := s2 _ _ ep1
    clear hG2
    walk_at "rds"
    refine r_isNo T2.e_cM ?_
    walk_at "rds"
    refine ⟨len_ok rfl, fun p3 hp3 => ?_⟩
    generalize hG3 : upd G2 p3 _ = G3
    have s3 : Same G2 G3 := by rw [← hG3]; exact same_neu (Same.refl _) hp3
    have ep3 : G3 p3 = some (.tup [.str "misfit", .bl false]) := by rw [← hG3]; exact upd_same
    replace ep0 := s3 _ _ ep0
    replace ep1 := s3 _ _ ep1
    replace ep2 := s3 _ _ ep2
    clear hG3
    walk_at "rds"
    refine ⟨len_ok rfl, fun pl hpl => ?_⟩
    generalize hGl : upd G3 pl _ = Gl
    have sl : Same G3 Gl := by rw [← hGl]; exact same_neu (Same.refl _) hpl
    have el : Gl pl = some (.lst [.ref p0, .ref p1, .ref p2, .ref p3]) := by rw [← hGl]; exact upd_same
    replace ep0 := sl _ _ ep0
    replace ep1 := sl _ _ ep1
    replace ep2 := sl _ _ ep2
    replace ep3 := sl _ _ ep3
    clear hGl
    walk_at "rds"
    refine ⟨pl, rfl, ⟨_, SqL.of el⟩, fun D hD => ?_⟩
    refine lc_list (K := X.K) (a := pl) (xs := [.ref p0, .ref p1, .ref p2, .ref p3]) (fun i G => G D = some (.lst ([] : List V)) ∧ ∀ b o, b ≠ D → Gl b = some o → G b = some o)
      ⟨upd_same, fun b o nb eb => by rw [upd_ne nb]; exact eb⟩ (fun i G _ ⟨_, s⟩ => SqL.of (s pl _ (ne_of_none el hD) el)) ?_ ?_
    · rintro i x G hx ⟨hG, s⟩
      match i, hx with
      | 0, hx =>
        cases Option.some.inj hx
        walk_at "rds"
        refine r_gtup ⟨_, _, rfl, SqT.of (s _ _ (ne_of_none ep0 hD) ep0), rfl, ?_⟩
        refine ⟨_, _, rfl, ?_⟩
        walk_at "rds"
        refine ⟨_, _, rfl, ?_⟩
        walk_at "rds"
        refine ⟨rfl, ?_⟩
        refine ⟨rfl, ?_⟩
        walk_at "rds"
        exact ⟨hG, s⟩
      | 1, hx =>
        cases Option.some.inj hx
        walk_at "rds"
        refine r_gtup ⟨_, _, rfl, SqT.of (s _ _ (ne_of_none ep1 hD) ep1), rfl, ?_⟩
        refine ⟨_, _, rfl, ?_⟩
        walk_at "rds"
        refine ⟨_, _, rfl, ?_⟩
        walk_at "rds"
        refine ⟨rfl, ?_⟩
        refine ⟨rfl, ?_⟩
        walk_at "rds"
        exact ⟨hG, s⟩
      | 2, hx =>
        cases Option.some.inj hx
        walk_at "rds"
        refine r_gtup ⟨_, _, rfl, SqT.of (s _ _ (ne_of_none ep2 hD) ep2), rfl, ?_⟩
        refine ⟨_, _, rfl, ?_⟩
        walk_at "rds"
        refine ⟨_, _, rfl, ?_⟩
        walk_at "rds"
        refine ⟨rfl, ?_⟩
        refine ⟨rfl, ?_⟩
        walk_at "rds"
        exact ⟨hG, s⟩
      | 3, hx =>
        cases Option.some.inj hx
        walk_at "rds"
        refine r_gtup ⟨_, _, rfl, SqT.of (s _ _ (ne_of_none ep3 hD) ep3), rfl, ?_⟩
        refine ⟨_, _, rfl, ?_⟩
        walk_at "rds"
        refine ⟨_, _, rfl, ?_⟩
        walk_at "rds"
        refine ⟨rfl, ?_⟩
        refine ⟨rfl, ?_⟩
        walk_at "rds"
        exact ⟨hG, s⟩
      | i + 4, hx => simp at hx
    · rintro Gz ⟨hG, s⟩
      have all : ∀ b o, G b = some o → Gz b = some o := fun b o e => s b o (ne_of_none (sl _ _ (s3 _ _ (s2 _ _ (s1 _ _ (s0 _ _ e))))) hD) (sl _ _ (s3 _ _ (s2 _ _ (s1 _ _ (s0 _ _ e)))))
      replace hG : Gz D = some (.lst []) := hG
      walk_at "rds"
      refine ⟨_, _, rfl, .inl (SqL.of hG), ?_⟩
      walk_at "rds"
      refine ⟨rfl, ?_⟩
      rw [decide_eq_false (by intro z; cases z)]
      walk_at "rds"
      refine ⟨rfl, ?_⟩
      rw [decide_eq_true rfl]
      walk_at "rds"
      exact h1 v G r0 Gz all
end
end K06
namespace K06
open PySem PySem.Spec PyProof.Rows L2 Rp LamX RZ
theorem dr_put {q c D : Addr} {ns : List Int} {lap : Nat} {H : Hp} {o : HO} (d : Dr q c ns lap H) (n1 : D ≠ q) (n2 : D ≠ c) : Dr q c ns lap (upd H D o) := by
  obtain ⟨ne, ⟨rest, hb⟩, hc, hl⟩ := d
  exact ⟨ne, ⟨rest, by rw [upd_ne n1.symm]; exact hb⟩, by rw [upd_ne n2.symm]; exact hc, hl⟩
theorem dr_off {q c D : Addr} {ns : List Int} {lap : Nat} {H : Hp} (d : Dr q c ns lap H) (h : H D = none) : D ≠ q ∧ D ≠ c := by
  obtain ⟨ne, ⟨rest, hb⟩, hc, hl⟩ := d
  exact ⟨(ne_of_none hb h).symm, (ne_of_none hc h).symm⟩
def spRound : Sp := fun vs H Q _ => ∃ n c : Int, vs = [.int n, .int c] ∧ 3 ≤ c ∧ c ≤ 31 ∧ Q (.int (n.fmod c)) H
/-- a drawn row -/
def spDrawn : Sp := fun vs H Q _ => ∃ (q c : Addr) (ns : List Int) (lap : Nat) (cl : Int) (n : Nat), vs = [.ref q, .int cl, .int (n : Int)] ∧ 3 ≤ cl ∧ cl ≤ 31 ∧ n ≤ 400 ∧ lap + 2 * n + 2 < 2 ^ 20 ∧ Dr q c ns lap H ∧
  ∀ (H' : Hp) (lap' : Nat) (p : Addr) (xs : List Int), lap' ≤ lap + 2 * n → Dr q c ns lap' H' → But q H H' → p ≠ q → H p = none → H' p = some (.lst (xs.map V.int)) → xs.length = n → (∀ x ∈ xs, 0 ≤ x ∧ x ≤ cl - 1) → Q (.ref p) H'

section
variable {P : Program} {w : World} {K : PySem.W.Frag} {mg : Str → Option Value} {base : Heap} {ad : Ad}
abbrev sLawSundial : Stmt := top 23
theorem scLawSundial : FnScope ["script", "cell"] ["script"] (defScope sLawSundial) := ⟨rfl, rfl, rfl, by decide +kernel, rfl, by decide +kernel, by decide +kernel⟩
theorem ok_LawSundial {f : Addr} {fd : FuncData} (F : Fun K "_law_sundial" "_law_sundial" sLawSundial f fd) (T : Txt K mg ad) (hM : HasMods base)   : FnG P w K mg base 1 f fd ["script"] (spBox K) := by
  refine fng F scLawSundial (fun {vs H Q E} h => ?_) (fun {cdv A fr s H vs Q E} hg hr h => ?_)
  · obtain ⟨a, ns, rfl, hS, k⟩ := h
    rfl
  · obtain ⟨a, ns, rfl, hS, k⟩ := h
    refine ⟨_, (pss_one (ps_ret (pe_lst (pa_cons (pe_lc (own := [("cell", 1)]) (g := gName 1) (tt := tYes) rfl scLawSundial.nd (pi_list (pe_slice sl_list (pv 0) po_none (po_some pe_int))) (blkOk_by (own := [("cell", 1)]) (N := ["script", "cell"]) (sc := defScope sLawSundial) (by decide +kernel)) (fun _ _ _ _ _ => (pg_name (i := 1) scLawSundial.nd rfl (Or.inl rfl))) (fun _ _ _ _ _ => pts_nil) (fun _ _ _ _ _ => (pe_callTy call_int1 (by rfl) T.z_int (by decide +kernel) (pa_cons (pv 1) pa_nil)))) (pa_cons pe_int (pa_cons pe_int pa_nil)))))), ?_⟩
    refine r_start (l := [some (.ref a), none]) rfl ?_
    walk_at "rds"
    refine ⟨_, rfl, ?_⟩
    refine ⟨_, _, rfl, hS, fun p hp => ?_⟩
    have s1 : Same H (upd H p (.lst (cutV (ns.map V.int) none (some 60)))) := same_neu (Same.refl H) hp
    obtain ⟨ns', ec, el⟩ := cut60 ns
    rw [ec] at s1 ⊢
    generalize hH1 : upd H p _ = H1
    rw [hH1] at s1
    have hp1 : H1 p = some (.lst (ns'.map V.int)) := by rw [← hH1]; exact upd_same
    refine ⟨p, rfl, ⟨_, SqL.of hp1⟩, fun D hD => ?_⟩
    refine lc_list (K := K) (a := p) (xs := ns'.map V.int) (fun i H' => H' D = some (.lst ((ns'.take i).map V.int)) ∧ ∀ b o, b ≠ D → H1 b = some o → H' b = some o)
      ⟨upd_same, fun b o n e => by rw [upd_ne n]; exact e⟩ (fun i H' _ ⟨_, s2⟩ => SqL.of (s2 p _ (ne_of_none hp1 hD) hp1)) ?_ ?_
    · rintro i x H' hi ⟨hD', s2⟩
      have hi' : i < ns'.length := by
        have q := (List.getElem?_eq_some_iff.mp hi).1
        rw [List.length_map] at q
        exact q
      obtain ⟨n, en, rfl⟩ : ∃ n, ns'[i]? = some n ∧ x = V.int n := by
        rw [List.getElem?_map] at hi
        cases e : ns'[i]? with
        | none => rw [e] at hi; cases hi
        | some u => rw [e] at hi; exact ⟨u, rfl, (Option.some.inj hi).symm⟩
      walk_at "rds"
      refine ⟨rfl, ?_⟩
      walk_at "rds"
      refine .inl ⟨_, rfl, ?_⟩
      refine ⟨_, hD', ?_, ?_, fun b o n e => by rw [upd_ne n]; exact s2 b o n e⟩
      · rw [List.length_map, List.length_take]
        exact small1000 (by omega)
      · rw [upd_same, List.take_succ, en, Option.toList_some, List.map_append]
        rfl
    · rintro H' ⟨hD', s2⟩
      rw [List.length_map, List.take_length] at hD'
      walk_at "rds"
      refine ⟨len_ok rfl, fun q hq => ?_⟩
      have nD : H D = none := s1.free hD
      refine k _ q D ns' ⟨ne_of_none hD' hq, ⟨0, upd_same⟩, by rw [upd_ne (ne_of_none hD' hq)]; exact hD', el⟩ (fun b o e => ?_) ?_
      · have e1 := s1 b o e
        have e2 := s2 b o (ne_of_none e nD) e1
        rw [upd_ne (ne_of_none e2 hq)]
        exact e2
      · cases e : H q with
        | none => rfl
        | some o =>
          have e2 := s2 q o (ne_of_none e nD) (s1 q o e)
          rw [hq] at e2
          cases e2
abbrev sLawGnomon : Stmt := top 24
theorem scLawGnomon : FnScope ["sundial", "many", "left", "turn", "cell", "mixed"] ["sundial", "many"] (defScope sLawGnomon) := ⟨rfl, rfl, rfl, by decide +kernel, rfl, by decide +kernel, by decide +kernel⟩
theorem ok_LawGnomon {f : Addr} {fd : FuncData} (F : Fun K "_law_gnomon" "_law_gnomon" sLawGnomon f fd) (T : Txt K mg ad) (hM : HasMods base)   : FnG P w K mg base 1 f fd ["sundial", "many"] spDraw := by
  refine fng F scLawGnomon (fun {vs H Q E} h => ?_) (fun {cdv A fr s H vs Q E} hg hr h => ?_)
  · obtain ⟨q, c, ns, lap, many, rfl, hm, hm2, hlap, ⟨ne, ⟨rest, hb⟩, hc, hl⟩, k⟩ := h
    rfl
  · obtain ⟨q, c, ns, lap, many, rfl, hm, hm2, hlap, ⟨ne, ⟨rest, hb⟩, hc, hl⟩, k⟩ := h
    refine ⟨_, (pss_cons (ps_if (pt_cmpR op_gt (pe_ix ix_list (pv 0) pe_int (fun _ _ => rfl)) pe_int (nomark _))
  (pss_cons (ps_set (i := 2) scLawGnomon.nd rfl (Or.inl rfl) (pe_callTy call_int1 (by rfl) T.z_int (by decide +kernel) (pa_cons (pe_ix ix_list (pv 0) pe_int (fun _ _ => rfl)) pa_nil)))
  (pss_cons (ps_asg (pe_op op_fdivN (pv 2) (pv 1)) (pg_sub (pv 0) pe_int set_list))
  (pss_one (ps_ret (pe_op op_modN (pe_callTy call_int1 (by rfl) T.z_int (by decide +kernel) (pa_cons (pv 2) pa_nil)) (pv 1))))))
  pss_nil)
  (pss_cons (ps_set (i := 3) scLawGnomon.nd rfl (Or.inl rfl) (pe_ix ix_list (pv 0) pe_int (fun _ _ => rfl)))
  (pss_cons (ps_asg (pe_op op_add (pv 3) pe_int) (pg_sub (pv 0) pe_int set_list))
  (pss_cons (ps_set (i := 4) scLawGnomon.nd rfl (Or.inl rfl) (pe_op op_add (pe_op op_mul pe_int (pv 3)) pe_int))
  (pss_cons (ps_if (pt_cmpR (op_neD hr.units) (pe_ix ix_list (pv 0) pe_int (fun _ _ => rfl)) (pe_lst pa_nil) (nomark _))
  (pss_one (ps_set (i := 4) scLawGnomon.nd rfl (Or.inl rfl) (pe_ix ix_list (pe_ix ix_list (pv 0) pe_int (fun _ _ => rfl)) (pe_op op_modN (pe_callTy call_int1 (by rfl) T.z_int (by decide +kernel) (pa_cons (pv 3) pa_nil)) (pe_callB call_len_seq (by rfl) T.z_len PySem.boot_len (pa_cons (pe_ix ix_list (pv 0) pe_int (fun _ _ => rfl)) pa_nil))) (fun _ _ => rfl))))
  pss_nil)
  (pss_cons (ps_if (PW.pt (pw_and (pt_cmpR op_lt (pv 3) (pe_callB call_len_seq (by rfl) T.z_len PySem.boot_len (pa_cons (pe_ix ix_list (pv 0) pe_int (fun _ _ => rfl)) pa_nil)) (nomark _)) (pw_and1 (pt_cmpR op_ge (pe_callB call_abs (by rfl) T.z_abs (by decide +kernel) (pa_cons (pv 4) pa_nil)) (pe_op op_pow pe_int pe_int) (nomark _)))))
  (pss_cons (ps_set (i := 2) scLawGnomon.nd rfl (Or.inl rfl) (pe_op op_add (pe_op op_mul pe_int (pe_op op_sub (pe_callB call_abs (by rfl) T.z_abs (by decide +kernel) (pa_cons (pe_callTy call_int1 (by rfl) T.z_int (by decide +kernel) (pa_cons (pv 4) pa_nil)) pa_nil)) (pe_op op_pow pe_int pe_int))) (pe_callTy call_int1 (by rfl) T.z_int (by decide +kernel) (pa_cons (pe_cmpR op_lt (pv 4) pe_int (nomark _)) pa_nil))))
  (pss_cons (ps_asg (pe_op op_fdivN (pv 2) (pv 1)) (pg_sub (pv 0) pe_int set_list))
  (pss_one (ps_ret (pe_op op_modN (pe_callTy call_int1 (by rfl) T.z_int (by decide +kernel) (pa_cons (pv 2) pa_nil)) (pv 1))))))
  pss_nil)
  (pss_cons (ps_set (i := 5) scLawGnomon.nd rfl (Or.inl rfl) (pe_op op_modN (pe_callTy call_int1 (by rfl) T.z_int (by decide +kernel) (pa_cons (pe_op op_pow (pe_op op_add (pe_op op_add (pe_op op_modN (pe_callTy call_int1 (by rfl) T.z_int (by decide +kernel) (pa_cons (pv 4) pa_nil)) pe_int) (pe_op op_mul pe_int (pv 3))) pe_int) pe_int) pa_nil)) pe_int))
  (pss_cons (ps_set (i := 5) scLawGnomon.nd rfl (Or.inl rfl) (pe_op op_modN (pe_callTy call_int1 (by rfl) T.z_int (by decide +kernel) (pa_cons (pe_op op_pow (pe_op op_add (pe_op op_add (pe_op op_mul (pv 5) (pe_op op_add (pe_op op_mul pe_int (pv 3)) pe_int)) (pe_op op_mul (pe_op op_mul pe_int (pv 3)) (pv 3))) pe_int) pe_int) pa_nil)) pe_int))
  (pss_one (ps_ret (pe_op op_modN (pe_callTy call_int1 (by rfl) T.z_int (by decide +kernel) (pa_cons (pe_op op_fdivN (pv 5) pe_int) pa_nil)) (pv 1)))))))))))), ?_⟩
    refine r_start (l := [some (.ref q), some (.int many), none, none, none, none]) rfl ?_
    have hmN : many.natAbs < 1073741824 := by omega
    have hm0 : many ≠ 0 := by omega
    have bq : ∀ {o : HO}, But q H (upd H q o) := fun {o} => But.upd o
    -- if quay[2] > 0
    walk_at "rds"
    refine r_ixL (SqL.of hb) at2 ?_
    walk_at "rds"
    refine ite2 (fun hpos => ?_) (fun _ => ?_)
    · walk_at "rds"
      refine r_ixL (SqL.of hb) at2 ?_
      walk_at "rds"
      refine .inl ⟨_, rfl, ?_⟩
      walk_at "rds"
      refine r_I ⟨hm0, hmN⟩ ?_
      walk_at "rds"
      refine r_setL hb (k := 2) rfl ?_
      walk_at "rds"
      refine .inl ⟨_, rfl, ?_⟩
      walk_at "rds"
      refine r_I hm0 ?_
      exact k _ lap _ (by omega) ⟨ne, ⟨_, upd_same⟩, by rw [upd_ne ne]; exact hc, hl⟩ bq (fmod_in hm).1 (fmod_in hm).2
    -- lap = quay[1]; quay[1] = lap + 1; cell = ..
    walk_at "rds"
    refine r_ixL (SqL.of hb) at1 ?_
    walk_at "rds"
    refine r_setL hb (k := 1) rfl ?_
    walk_at "rds"
    refine r_I (.inl ⟨by decide, by decide⟩) ?_
    generalize hH1 : upd H q _ = H1
    have hb1 : H1 q = some (.lst [.ref c, .int ((lap + 1 : Nat) : Int), .int rest]) := by rw [← hH1]; exact upd_same
    have hc1 : H1 c = some (.lst (ns.map V.int)) := by rw [← hH1, upd_ne ne]; exact hc
    have q1 : But q H H1 := by rw [← hH1]; exact bq
    clear hH1 hb hc bq
    walk_at "res"
    with_reducible refine r_cut (fun σ H' => ∃ cell : Int, σ = [some (.ref q), some (.int many), none, some (.int (lap : Int)), some (.int cell), none] ∧ H' q = some (.lst [.ref c, .int ((lap + 1 : Nat) : Int), .int rest]) ∧ H' c = some (.lst (ns.map V.int)) ∧ But q H H') ?_ fun go => ?_
    rotate_left
    · -- if quay[0] != []
      walk_at "rds"
      refine r_ixL (SqL.of hb1) at0 ?_
      walk_at "rds"
      refine ⟨len_ok rfl, fun p hp => ?_⟩
      have hb2 : upd H1 p (.lst []) q = some (.lst [.ref c, .int ((lap + 1 : Nat) : Int), .int rest]) := by rw [upd_ne (ne_of_none hb1 hp)]; exact hb1
      have hc2 : upd H1 p (.lst []) c = some (.lst (ns.map V.int)) := by rw [upd_ne (ne_of_none hc1 hp)]; exact hc1
      have q2 : But q H (upd H1 p (.lst [])) := q1.neu hp
      refine ne_nil hc2 upd_same ?_
      walk_at "rds"
      cases hns : ns.isEmpty with
      | true =>
        walk_at "res"
        exact go _ _ ⟨_, rfl, hb2, hc2, q2⟩
      | false =>
        have hlen : (0 : Int) < (ns.length : Int) := by
          cases ns with
          | nil => cases hns
          | cons n0 nr => simp <;> omega
        walk_at "rds"
        refine r_ixL (SqL.of hb2) at0 ?_
        walk_at "rds"
        refine .inl ⟨_, rfl, ?_⟩
        walk_at "rds"
        refine r_ixL (SqL.of hb2) at0 ?_
        walk_at "rds"
        refine ⟨_, _, rfl, .inl (SqL.of hc2), ?_⟩
        walk_at "rds"
        rw [map_len]
        refine r_I (by omega) ?_
        obtain ⟨cell, hcell⟩ := at_ints (ns := ns) (fmod_in (i := (lap : Int)) hlen).1 (fmod_in hlen).2
        refine r_ixL (SqL.of hc2) hcell ?_
        walk_at "res"
        exact go _ _ ⟨_, rfl, hb2, hc2, q2⟩
    clear hb1 hc1 q1 H1
    rintro σ H1 ⟨cell, rfl, hb1, hc1, q1⟩
    have D1 : Dr q c ns (lap + 1) H1 := ⟨ne, ⟨_, hb1⟩, hc1, hl⟩
    -- if lap < len(quay[0]) and abs(cell) >= 10 ** 18
    with_reducible refine r_cut (fun σ H' => σ = [some (.ref q), some (.int many), none, some (.int (lap : Int)), some (.int cell), none] ∧ H' = H1) ?_ fun go => ?_
    rotate_left
    · walk_at "rds"
      refine r_ixL (SqL.of hb1) at0 ?_
      walk_at "rds"
      refine ⟨_, _, rfl, .inl (SqL.of hc1), ?_⟩
      walk_at "rds"
      refine ite2 (fun _ => ?_) (fun _ => ?_)
      · walk_at "rds"
        refine ⟨_, rfl, ?_⟩
        walk_at "rds"
        refine r_I ⟨by decide, by decide, by decide⟩ ?_
        walk_at "rds"
        refine ite2 (fun _ => ?_) (fun _ => ?_)
        · walk_at "rds"
          refine .inl ⟨_, rfl, ?_⟩
          walk_at "rds"
          refine ⟨_, rfl, ?_⟩
          walk_at "rds"
          refine r_I ⟨by decide, by decide, by decide⟩ ?_
          walk_at "rds"
          refine r_I (.inl ⟨by decide, by decide⟩) ?_
          walk_at "rds"
          refine .inr ⟨_, rfl, ?_⟩
          walk_at "rds"
          refine r_I ⟨hm0, hmN⟩ ?_
          walk_at "rds"
          refine r_setL hb1 (k := 2) rfl ?_
          walk_at "rds"
          refine .inl ⟨_, rfl, ?_⟩
          walk_at "rds"
          refine r_I hm0 ?_
          exact k _ (lap + 1) _ (by omega) ⟨ne, ⟨_, upd_same⟩, by rw [upd_ne ne]; exact hc1, hl⟩ (q1.upd2 _) (fmod_in hm).1 (fmod_in hm).2
        · walk_at "res"
          exact go _ _ ⟨rfl, rfl⟩
      · walk_at "res"
        exact go _ _ ⟨rfl, rfl⟩
    rintro σ H' ⟨rfl, rfl⟩
    -- mixed
    walk_at "rds"
    refine .inl ⟨_, rfl, ?_⟩
    walk_at "rds"
    refine r_I (by decide) ?_
    walk_at "rds"
    refine r_I (.inl ⟨by decide, by decide⟩) ?_
    walk_at "rds"
    have f1 := fmod_in (i := cell) (j := 2147483629) (by decide)
    refine r_I ⟨by decide, by decide, by omega⟩ ?_
    generalize (_ : Int) ^ (_ : Nat) = big1
    walk_at "rds"
    refine .inl ⟨_, rfl, ?_⟩
    walk_at "rds"
    refine r_I (by decide) ?_
    have f2 := fmod_in (i := big1) (j := 2147483563) (by decide)
    revert f2
    generalize big1.fmod _ = mixed
    intro f2
    walk_at "rds"
    refine r_I (.inl ⟨by decide, by decide⟩) ?_
    walk_at "rds"
    refine r_I (.inl ⟨by omega, by omega⟩) ?_
    walk_at "rds"
    refine r_I (.inl ⟨by decide, by decide⟩) ?_
    walk_at "rds"
    refine r_I (.inl ⟨by omega, by omega⟩) ?_
    walk_at "rds"
    refine r_I ⟨by decide, by decide, fits3 f2.1 (by omega) hlap (by decide) (by decide) (by decide) (by decide) (by decide) (by decide)⟩ ?_
    generalize (_ : Int) ^ (_ : Nat) = big2
    walk_at "rds"
    refine .inl ⟨_, rfl, ?_⟩
    walk_at "rds"
    refine r_I (by decide) ?_
    generalize big2.fmod _ = mixed2
    walk_at "rds"
    refine r_I ⟨by decide, by decide⟩ ?_
    walk_at "rds"
    refine .inl ⟨_, rfl, ?_⟩
    walk_at "rds"
    refine r_I hm0 ?_
    exact k _ (lap + 1) _ (by omega) D1 q1 (fmod_in hm).1 (fmod_in hm).2
abbrev sLawOne : Stmt := top 25
theorem scLawOne : FnScope ["sundial", "some"] ["sundial", "some"] (defScope sLawOne) := ⟨rfl, rfl, rfl, by decide +kernel, rfl, by decide +kernel, by decide +kernel⟩
theorem ok_LawOne {f : Addr} {fd : FuncData} (F : Fun K "_law_one" "_law_one" sLawOne f fd) (T : Txt K mg ad) (hM : HasMods base) {f0 : Addr} {fd0 : FuncData} (cLawGnomon : Cal P w K mg base "_law_gnomon" 1 f0 fd0 ["sundial", "many"] spDraw)  : FnG P w K mg base 2 f fd ["sundial", "some"] (spOf K) := by
  refine fng F scLawOne (fun {vs H Q E} h => ?_) (fun {cdv A fr s H vs Q E} hg hr h => ?_)
  · obtain ⟨q, c, a, ns, lap, xs, rfl, hS, h0, h1, hlap, hne, hD, k⟩ := h
    rfl
  · obtain ⟨q, c, a, ns, lap, xs, rfl, hS, h0, h1, hlap, hne, hD, k⟩ := h
    refine ⟨_, (pss_one (ps_ret (pe_ix ix_list (pv 1) (pe_go cLawGnomon hg (hr.mono (by decide)) (by rfl) (pa_cons (pv 0) (pa_cons (pe_callB call_len_seq (by rfl) T.z_len PySem.boot_len (pa_cons (pv 1) pa_nil)) pa_nil))) (fun _ _ => rfl)))), ?_⟩
    refine r_start (l := [some (.ref q), some (.ref a)]) rfl ?_
    walk_at "rds"
    refine ⟨_, _, rfl, .inl hS, ?_⟩
    walk_at "rds"
    refine ⟨q, c, ns, lap, _, rfl, by omega, by omega, hlap, hD, fun H' lap' r hl D' B r0 r1 => ?_⟩
    obtain ⟨i, v, e1, e2⟩ := at_some r0 r1
    refine r_ixL (B.seq hne hS) e1 ?_
    exact k _ _ i v hl D' B e2
abbrev sLawRound : Stmt := top 26
theorem scLawRound : FnScope ["number", "clock"] ["number", "clock"] (defScope sLawRound) := ⟨rfl, rfl, rfl, by decide +kernel, rfl, by decide +kernel, by decide +kernel⟩
theorem ok_LawRound {f : Addr} {fd : FuncData} (F : Fun K "_law_round" "_law_round" sLawRound f fd) (T : Txt K mg ad) (hM : HasMods base)   : FnG P w K mg base 1 f fd ["number", "clock"] spRound := by
  refine fng F scLawRound (fun {vs H Q E} h => ?_) (fun {cdv A fr s H vs Q E} hg hr h => ?_)
  · obtain ⟨n, c, rfl, h3, h31, k⟩ := h
    rfl
  · obtain ⟨n, c, rfl, h3, h31, k⟩ := h
    refine ⟨_, (pss_one (ps_ret (pe_op op_sub (pv 0) (pe_op op_mul (pe_op op_fdivN (pv 0) (pv 1)) (pv 1))))), ?_⟩
    refine r_start (l := [some (.int n), some (.int c)]) rfl ?_
    walk_at "rds"
    refine r_I ⟨by omega, by omega⟩ ?_
    walk_at "rds"
    refine r_I (.inr ⟨by omega, by omega⟩) ?_
    walk_at "rds"
    have e : n - n.fdiv c * c = n.fmod c := by rw [Int.fmod_def, Int.mul_comm]
    rw [e]
    exact k
abbrev sLawRow : Stmt := top 27
theorem scLawRow : FnScope ["sundial", "clock", "size", "place"] ["sundial", "clock", "size"] (defScope sLawRow) := ⟨rfl, rfl, rfl, by decide +kernel, rfl, by decide +kernel, by decide +kernel⟩
theorem ok_LawRow {f : Addr} {fd : FuncData} (F : Fun K "_law_row" "_law_row" sLawRow f fd) (T : Txt K mg ad) (hM : HasMods base) {f0 : Addr} {fd0 : FuncData} (cLawOne : Cal P w K mg base "_law_one" 2 f0 fd0 ["sundial", "some"] (spOf K)) {f1 : Addr} {fd1 : FuncData} (cLawGnomon : Cal P w K mg base "_law_gnomon" 1 f1 fd1 ["sundial", "many"] spDraw)  : FnG P w K mg base 3 f fd ["sundial", "clock", "size"] spDrawn := by
  refine fng F scLawRow (fun {vs H Q E} h => ?_) (fun {cdv A fr s H vs Q E} hg hr h => ?_)
  · obtain ⟨q, c, ns, lap, cl, n, rfl, h3, h31, hn, hlap, hDr0, k⟩ := h
    rfl
  · obtain ⟨q, c, ns, lap, cl, n, rfl, h3, h31, hn, hlap, hDr0, k⟩ := h
    refine ⟨_, (pss_one (ps_ret (pe_lc (own := [("place", 3)]) (g := gName 3) (tt := tYes) rfl scLawRow.nd (pi_range1 (by rfl) T.z_range (pa_cons (pv 2) pa_nil)) (blkOk_by (own := [("place", 3)]) (N := ["sundial", "clock", "size", "place"]) (sc := defScope sLawRow) (by decide +kernel)) (fun _ _ _ _ _ => (pg_name (i := 3) scLawRow.nd rfl (Or.inl rfl))) (fun _ _ _ _ _ => pts_nil) (fun _ _ _ _ _ => (pe_go cLawOne hg (hr.mono (by decide)) (by rfl) (pa_cons (pv 0) (pa_cons (pe_lst (pa_cons (pe_go cLawGnomon hg (hr.mono (by decide)) (by rfl) (pa_cons (pv 0) (pa_cons (pv 1) pa_nil))) (pa_cons pe_int (pa_cons (pe_op op_sub (pv 1) pe_int) pa_nil)))) pa_nil))))))), ?_⟩
    refine r_start (l := [some (.ref q), some (.int cl), some (.int (n : Int)), none]) rfl ?_
    walk_at "rds"
    refine ⟨(n : Int), rfl, by omega, by omega, fun D hD => ?_⟩
    obtain ⟨hDq, hDc⟩ := dr_off hDr0 hD
    refine lc_range (lo := 0) (n := (n : Int).toNat) (fun i G => ∃ (lp : Nat) (xs : List Int), lp ≤ lap + 2 * i ∧ Dr q c ns lp G ∧ D ≠ q ∧ But q H G ∧ G D = some (.lst (xs.map V.int)) ∧ xs.length = i ∧ ∀ x ∈ xs, 0 ≤ x ∧ x ≤ cl - 1)
      ⟨lap, [], by omega, hDr0.neu hD, hDq, (But.refl q H).neu hD, upd_same, rfl, by simp⟩ ?_ ?_
    · rintro i G hi ⟨lp, xs, hlp, hDr, _, B, hG, hx, hxs⟩
      have hi2 : i < n := by omega
      walk_at "rds"
      refine ⟨rfl, ?_⟩
      walk_at "rds"
      refine ⟨_, _, _, _, _, rfl, by omega, by omega, by omega, hDr, fun H1 l1 r1 hl1 D1 b1 m1 n1 => ?_⟩
      walk_at "rds"
      refine ⟨len_ok rfl, fun p hp => ?_⟩
      generalize hG2 : upd H1 p _ = G2
      obtain ⟨D2, B2, b2, np, ep⟩ := alloc hG2 D1 (B.trans b1) hp
      clear hG2
      walk_at "rds"
      refine ⟨_, _, _, _, _, _, rfl, SqL.of ep, Nat.zero_lt_succ _, lt_ok rfl, by omega, np, D2, fun H3 l3 i3 v3 hl3 D3 b3 e3 => ?_⟩
      have pv := EachP.get (F := IntIn 0 (cl - 1)) (.cons ⟨_, rfl, by omega, by omega⟩ (.cons ⟨_, rfl, by omega, by omega⟩ (.cons ⟨_, rfl, by omega, by omega⟩ .nil))) e3
      obtain ⟨z, rfl, z0, z1⟩ := pv
      have hG3 : H3 D = some (.lst (xs.map V.int)) := b3 _ _ hDq (b2 _ _ hDq (b1 _ _ hDq hG))
      refine ⟨_, hG3, ?_, l3, xs ++ [z], by omega, ?_, hDq, ?_, ?_, ?_, ?_⟩
      · rw [List.length_map, hx]
        exact small1000 (by omega)
      · exact dr_put D3 hDq hDc
      · exact fun b o nb eb => by
          have e := (B2.trans b3) b o nb eb
          by_cases hb : b = D
          · rw [hb] at eb
            cases eb.symm.trans hD
          · rw [upd_ne hb]
            exact e
      · rw [upd_same, List.map_append]
        rfl
      · rw [List.length_append, hx]
        rfl
      · intro x m
        rcases List.mem_append.mp m with m | m
        · exact hxs x m
        · rw [List.mem_singleton.mp m]
          exact ⟨z0, z1⟩
    · rintro G ⟨lp, xs, hlp, hDr, _, B, hG, hx, hxs⟩
      exact k G lp D xs (by omega) hDr B hDq hD hG (by omega) hxs
end
end K06
namespace K06
open PySem PySem.Spec PyProof.Rows L2 Rp LamX RZ
/-- the def that hears, its object known -/
structure HrdC (K : PySem.W.Frag) (mg : Str → Option Value) (g : Addr) (cdv : Value) : Prop where
  mgf : mg "_law_heard" = some (.ref g)
  kp : PySem.W.keepIn K (.ref g) = true
  code : PySem.W.codeIn K cdv "_law_heard" = true
  ex : ∃ (oc : Value) (od : Option Addr) (kV dc pm : Value) (an : Option Addr) (ct : Value) (sl : Array (Option Value)), K.lookup g = some ⟨oc, od, .func (PySem.W.fnOf "_law_heard" "_law_heard" (defArgs sLawHeard) (defBody sLawHeard) (defScope sLawHeard) .none kV dc pm an cdv ct), sl⟩ ∧
    Binds K (PySem.W.fnOf "_law_heard" "_law_heard" (defArgs sLawHeard) (defBody sLawHeard) (defScope sLawHeard) .none kV dc pm an cdv ct) ["ask"] []
theorem pe_hear {X : Cx} {g c P : Addr} {cdv : Value} {ad : Ad} {k : Nat} {Tt : List (Addr × Str)} {params : Arguments} {body : Expr} {scope : Scope} {ps : List Str} {dvs : List V} {t : XK → TE} {p lp pos : Pos} (hH : HrdC X.K X.mg g cdv) (T : Txt X.K X.mg ad) (T2 : HdT X.K ad)
    (glob : Gl X "_law_heard") (room : Room (k + 2) X.A) (G : LamGo X Tt c P params body scope ps dvs) (D : DefsOk X params dvs)
    (B : ∀ (A : Around) (outer : List Env) (s : Shared) (H : Hp) (E : XK) (f c' : Addr), Room k (A.deeper (lamEnv X scope s.heap.objs.size f c')) → PE (lamCx X A outer s H E scope f c') body (t E)) :
    PE X (.Call (.Name "_law_heard" p) [.Lambda params body scope lp] [] pos) (tLam Tt (TTh ad) t) := by
  obtain ⟨oc, od, kV, dc, pm, an, ct, sl, look, b⟩ := hH.ex
  exact pe_lamX glob hH.mgf hH.kp look hH.code b scLawHeard rfl (.inl rfl) (heard_gives T T2) room G D B
theorem inB_out {i l u : Int} (h : i < l ∨ u < i) : inB (.int i) (some l) (some u) = false := by
  show (decide (l ≤ i) && decide (i ≤ u)) = false
  rcases h with h | h
  · rw [decide_eq_false (by omega), Bool.false_and]
  · rw [decide_eq_false (p := i ≤ u) (by omega), Bool.and_false]
theorem rowOk_bad {xs : List V} {x : V} {cl : Int} (m : x ∈ xs) (h : inB x (some 0) (some (cl - 1)) = false) : rowOk (some xs) cl 1 400 = false := by
  have e : (xs.all fun x => inB x (some 0) (some (cl - 1))) = false := by
    rw [List.all_eq_false]
    exact ⟨x, m, by rw [h]; decide⟩
  show (_ && (xs.all fun x => inB x (some 0) (some (cl - 1)))) = false
  rw [e, Bool.and_false]
theorem rowOk_long {xs : List V} {cl : Int} (h : 400 < xs.length) : rowOk (some xs) cl 1 400 = false := by
  show ((_ && decide ((xs.length : Int) ≤ 400)) && _) = false
  rw [decide_eq_false (p := (xs.length : Int) ≤ 400) (by omega), Bool.and_false, Bool.false_and]
theorem inB_yes {i l u : Int} (a : l ≤ i) (b : i ≤ u) : inB (.int i) (some l) (some u) = true := by
  show (decide (l ≤ i) && decide (i ≤ u)) = true
  rw [decide_eq_true a, decide_eq_true b]
  rfl
theorem rowOk_zero {cl : Int} (h : 3 ≤ cl) : rowOk (some [.int 0]) cl 1 400 = true := by
  show ((true && true) && (inB (.int 0) (some 0) (some (cl - 1)) && true)) = true
  rw [inB_yes (by omega) (by omega)]
  rfl
theorem rowOk_two {cl : Int} (h : 3 ≤ cl) : rowOk (some [.int 0, .int 0]) cl 1 400 = true := by
  show ((true && true) && (inB (.int 0) (some 0) (some (cl - 1)) && (inB (.int 0) (some 0) (some (cl - 1)) && true))) = true
  rw [inB_yes (by omega) (by omega)]
  rfl
theorem tabs_but {q : Addr} {T : List (Addr × Str)} {H H' : Hp} {xs : List V} (B : But q H H') (hq : H q = some (.lst xs)) (t : Tabs T H) : Tabs T H' := by
  intro p m
  obtain ⟨ps, h1, h2, h3⟩ := t p m
  have off : ∀ {b o}, H b = some o → (∀ xs, o ≠ .lst xs) → b ≠ q := by
    rintro b o e n rfl
    exact n xs (Option.some.inj (e.symm.trans hq))
  refine ⟨ps, B _ _ (off h1 fun _ z => by cases z) h1, h2, fun pos cv hc => ?_⟩
  obtain ⟨c, e1, e2⟩ := h3 pos cv hc
  exact ⟨c, e1, B _ _ (off e2 fun _ z => by unfold CodeO at z; cases z) e2⟩
theorem dr_ext {q c : Addr} {ns : List Int} {lap : Nat} {H H' : Hp} (d : Dr q c ns lap H) (x : ExtN H H') : Dr q c ns lap H' := by
  obtain ⟨ne, ⟨rest, hb⟩, hc, hl⟩ := d
  exact ⟨ne, ⟨rest, x _ _ hb (fun _ z => by cases z)⟩, x _ _ hc (fun _ z => by cases z), hl⟩
abbrev qLam : Str := ("_law_refused_right" : Str) ++ ".<locals>." ++ "<lambda>"
def spRefused (P : Addr) : Sp := fun vs H Q _ => ∃ (q c : Addr) (ns : List Int) (lap : Nat) (cl : Int), vs = [.ref q, .int cl] ∧ clk (.int cl) = true ∧ 3 ≤ cl ∧ cl ≤ 31 ∧ lap + 8 < 2 ^ 20 ∧ Dr q c ns lap H ∧ Tabs [(P, qLam)] H ∧
  ∀ (H' : Hp) (lap' : Nat), lap' ≤ lap + 4 → Dr q c ns lap' H' → Tabs [(P, qLam)] H' → Q (.bl true) H'
section
variable {P : Program} {w : World} {K : PySem.W.Frag} {mg : Str → Option Value} {base : Heap} {ad : Ad}
abbrev sLawRefusedRight : Stmt := top 30
theorem scLawRefusedRight : FnScope ["sundial", "clock", "heard", "due", "bad", "far", "none", "odd"] ["sundial", "clock"] (defScope sLawRefusedRight) := ⟨rfl, rfl, rfl, by decide +kernel, rfl, by decide +kernel, by decide +kernel⟩
theorem ok_LawRefusedRight {f cc P0 gH : Addr} {cdH : Value} {fd : FuncData} (F : FunC K "_law_refused_right" "_law_refused_right" sLawRefusedRight f fd cc) (T : Txt K mg ad) (T2 : HdT K ad) (hM : HasMods base) (hH : HrdC K mg gH cdH) (TB : TabB base mg cc P0) {f0 : Addr} {fd0 : FuncData} (cLawOne : Cal P w K mg base "_law_one" 2 f0 fd0 ["sundial", "some"] (spOf K)) {f1 : Addr} {fd1 : FuncData} (cNumberOf : CalX P w K mg base "number_of" 4 f1 fd1 ["clock", "value"] (spNumberOf ad)) {f2 : Addr} {fd2 : FuncData} (cInverse : CalX P w K mg base "inverse" 4 f2 fd2 ["clock", "number"] (spInverse ad)) {f3 : Addr} {fd3 : FuncData} (cRowSum : CalX P w K mg base "row_sum" 5 f3 fd3 ["clock", "one", "other"] (spRowSum ad)) {f4 : Addr} {fd4 : FuncData} (cRowTimes : CalX P w K mg base "row_times" 5 f4 fd4 ["clock", "number", "row"] (spRowTimes ad)) : FnG P w K mg base 14 f fd ["sundial", "clock"] (spRefused P0) := by
  refine fngC F scLawRefusedRight (fun {vs H Q E} h => ?_) (fun {A fr s H vs Q E} hg hr h => ?_)
  · obtain ⟨q, c, ns, lap, cl, rfl, hck, h3, h31, hlap, hD, hT, k⟩ := h
    rfl
  · obtain ⟨q, c, ns, lap, cl, rfl, hck, h3, h31, hlap, hD, hT, k⟩ := h
    refine ⟨_, (pss_cons (ps_asg (pe_tup (pa_cons (pe_go cLawOne hg (hr.mono (by decide)) (by rfl) (pa_cons (pv 0) (pa_cons (pe_lst (pa_cons pe_non (pa_cons pe_int (pa_cons pe_int (pa_cons pe_int (pa_cons pe_int (pa_cons pe_int (pa_cons pe_int (pa_cons (pe_un un_neg pe_int) (pa_cons pe_bl (pa_cons pe_str (pa_cons (pe_tup (pa_cons pe_int pa_nil)) (pa_cons (pe_op op_pow pe_int pe_int) pa_nil))))))))))))) pa_nil))) (pa_cons (pe_go cLawOne hg (hr.mono (by decide)) (by rfl) (pa_cons (pv 0) (pa_cons (pe_lst (pa_cons pe_non (pa_cons pe_bl (pa_cons pe_str (pa_cons (pe_lst (pa_cons pe_int pa_nil)) (pa_cons (pe_tup (pa_cons pe_int (pa_cons pe_int pa_nil))) (pa_cons pe_dnewK pa_nil))))))) pa_nil))) pa_nil))) (pg_tup rfl (pgs_cons (pg_name (i := 6) scLawRefusedRight.nd rfl (Or.inr rfl)) (pgs_cons (pg_name (i := 7) scLawRefusedRight.nd rfl (Or.inr rfl)) pgs_nil))))
  (pss_cons (ps_set (i := 5) scLawRefusedRight.nd rfl (Or.inr rfl) (pe_go cLawOne hg (hr.mono (by decide)) (by rfl) (pa_cons (pv 0) (pa_cons (pe_lst (pa_cons pe_non (pa_cons (pe_un un_neg pe_int) (pa_cons (pv 1) (pa_cons pe_bl (pa_cons pe_str (pa_cons (pe_lst (pa_cons pe_int pa_nil)) (pa_cons (pe_op op_pow pe_int pe_int) pa_nil)))))))) pa_nil))))
  (pss_cons (ps_set (i := 4) scLawRefusedRight.nd rfl (Or.inr rfl) (pe_go cLawOne hg (hr.mono (by decide)) (by rfl) (pa_cons (pv 0) (pa_cons (pe_lst (pa_cons pe_non (pa_cons pe_int (pa_cons (pe_lst pa_nil) (pa_cons pe_str (pa_cons pe_dnewK (pa_cons (pe_lst (pa_cons (pv 1) pa_nil)) (pa_cons (pe_lst (pa_cons pe_int (pa_cons (pe_un un_neg pe_int) pa_nil))) (pa_cons (pe_lst (pa_cons pe_bl pa_nil)) (pa_cons (pe_lst (pa_cons pe_int (pa_cons pe_non pa_nil))) (pa_cons (pe_lst (pa_cons (pe_lst (pa_cons pe_int pa_nil)) pa_nil)) (pa_cons (pe_op op_rep (pe_lst (pa_cons pe_int pa_nil)) pe_int) (pa_cons (pe_lst (pa_cons pe_str pa_nil)) (pa_cons (pe_disp (pps_cons pe_int pe_int pps_nil) (by rfl) (by rfl) (fun z => by cases z) (by decide)) pa_nil)))))))))))))) pa_nil))))
  (pss_cons (ps_set (i := 2) scLawRefusedRight.nd rfl (Or.inl rfl) (pe_lst (pa_cons (pe_hear hH T T2 (k := 10) (by rfl) (hr.mono (by decide)) ⟨TB, rfl, List.mem_singleton.mpr rfl, fun p z _ => by rw [List.mem_singleton.mp z], lamT_by (N := ["sundial", "clock", "heard", "due", "bad", "far", "none", "odd"]) (sc := defScope sLawRefusedRight) (by decide +kernel), lamBinds0, (fun _ z => nomatch z)⟩ (dvs := []) (ps := []) (Or.inl ⟨rfl, rfl⟩) (fun A outer s H E f c' hr2 => (pe_goE cNumberOf (hr2.mono (by decide)) (takes_of rfl rfl rfl rfl) (by rfl) (pa_cons (pv 6) (pa_cons (pv 7) pa_nil))))) (pa_cons (pe_hear hH T T2 (k := 10) (by rfl) (hr.mono (by decide)) ⟨TB, rfl, List.mem_singleton.mpr rfl, fun p z _ => by rw [List.mem_singleton.mp z], lamT_by (N := ["sundial", "clock", "heard", "due", "bad", "far", "none", "odd"]) (sc := defScope sLawRefusedRight) (by decide +kernel), lamBinds_a1, (fun p (z : p ∈ (["a1"] : List Str)) => (by rw [List.mem_singleton.mp z]; rfl))⟩ (dvs := [.int 0]) (ps := ["a1"]) (Or.inr ⟨_, _, _, rfl, rfl, rfl⟩) (fun A outer s H E f c' hr2 => (pe_goE cNumberOf (hr2.mono (by decide)) (takes_of rfl rfl rfl rfl) (by rfl) (pa_cons (pv 1) (pa_cons (pv 7) pa_nil))))) (pa_cons (pe_hear hH T T2 (k := 10) (by rfl) (hr.mono (by decide)) ⟨TB, rfl, List.mem_singleton.mpr rfl, fun p z _ => by rw [List.mem_singleton.mp z], lamT_by (N := ["sundial", "clock", "heard", "due", "bad", "far", "none", "odd"]) (sc := defScope sLawRefusedRight) (by decide +kernel), lamBinds_a2, (fun p (z : p ∈ (["a2"] : List Str)) => (by rw [List.mem_singleton.mp z]; rfl))⟩ (dvs := [.int 0]) (ps := ["a2"]) (Or.inr ⟨_, _, _, rfl, rfl, rfl⟩) (fun A outer s H E f c' hr2 => (pe_goE cInverse (hr2.mono (by decide)) (takes_of rfl rfl rfl rfl) (by rfl) (pa_cons (pv 6) (pa_cons (pv 5) pa_nil))))) pa_nil)))))
  (pss_cons (ps_set (i := 2) scLawRefusedRight.nd rfl (Or.inl rfl) (pe_op op_cat (pv 2) (pe_lst (pa_cons (pe_hear hH T T2 (k := 10) (by rfl) (hr.mono (by decide)) ⟨TB, rfl, List.mem_singleton.mpr rfl, fun p z _ => by rw [List.mem_singleton.mp z], lamT_by (N := ["sundial", "clock", "heard", "due", "bad", "far", "none", "odd"]) (sc := defScope sLawRefusedRight) (by decide +kernel), lamBinds0, (fun _ z => nomatch z)⟩ (dvs := []) (ps := []) (Or.inl ⟨rfl, rfl⟩) (fun A outer s H E f c' hr2 => (pe_goE cInverse (hr2.mono (by decide)) (takes_of rfl rfl rfl rfl) (by rfl) (pa_cons (pv 1) (pa_cons (pv 5) pa_nil))))) (pa_cons (pe_hear hH T T2 (k := 10) (by rfl) (hr.mono (by decide)) ⟨TB, rfl, List.mem_singleton.mpr rfl, fun p z _ => by rw [List.mem_singleton.mp z], lamT_by (N := ["sundial", "clock", "heard", "due", "bad", "far", "none", "odd"]) (sc := defScope sLawRefusedRight) (by decide +kernel), lamBinds_a1, (fun p (z : p ∈ (["a1"] : List Str)) => (by rw [List.mem_singleton.mp z]; rfl))⟩ (dvs := [.int 0]) (ps := ["a1"]) (Or.inr ⟨_, _, _, rfl, rfl, rfl⟩) (fun A outer s H E f c' hr2 => (pe_goE cInverse (hr2.mono (by decide)) (takes_of rfl rfl rfl rfl) (by rfl) (pa_cons (pv 1) (pa_cons pe_int pa_nil))))) (pa_cons (pe_hear hH T T2 (k := 10) (by rfl) (hr.mono (by decide)) ⟨TB, rfl, List.mem_singleton.mpr rfl, fun p z _ => by rw [List.mem_singleton.mp z], lamT_by (N := ["sundial", "clock", "heard", "due", "bad", "far", "none", "odd"]) (sc := defScope sLawRefusedRight) (by decide +kernel), lamBinds_a2, (fun p (z : p ∈ (["a2"] : List Str)) => (by rw [List.mem_singleton.mp z]; rfl))⟩ (dvs := [.int 0]) (ps := ["a2"]) (Or.inr ⟨_, _, _, rfl, rfl, rfl⟩) (fun A outer s H E f c' hr2 => (pe_goE cRowSum (hr2.mono (by decide)) (takes_of rfl rfl rfl rfl) (by rfl) (pa_cons (pv 6) (pa_cons (pv 4) (pa_cons (pv 4) pa_nil)))))) pa_nil))))))
  (pss_cons (ps_set (i := 2) scLawRefusedRight.nd rfl (Or.inl rfl) (pe_op op_cat (pv 2) (pe_lst (pa_cons (pe_hear hH T T2 (k := 10) (by rfl) (hr.mono (by decide)) ⟨TB, rfl, List.mem_singleton.mpr rfl, fun p z _ => by rw [List.mem_singleton.mp z], lamT_by (N := ["sundial", "clock", "heard", "due", "bad", "far", "none", "odd"]) (sc := defScope sLawRefusedRight) (by decide +kernel), lamBinds0, (fun _ z => nomatch z)⟩ (dvs := []) (ps := []) (Or.inl ⟨rfl, rfl⟩) (fun A outer s H E f c' hr2 => (pe_goE cRowSum (hr2.mono (by decide)) (takes_of rfl rfl rfl rfl) (by rfl) (pa_cons (pv 1) (pa_cons (pv 4) (pa_cons (pv 4) pa_nil)))))) (pa_cons (pe_hear hH T T2 (k := 10) (by rfl) (hr.mono (by decide)) ⟨TB, rfl, List.mem_singleton.mpr rfl, fun p z _ => by rw [List.mem_singleton.mp z], lamT_by (N := ["sundial", "clock", "heard", "due", "bad", "far", "none", "odd"]) (sc := defScope sLawRefusedRight) (by decide +kernel), lamBinds_a1, (fun p (z : p ∈ (["a1"] : List Str)) => (by rw [List.mem_singleton.mp z]; rfl))⟩ (dvs := [.int 0]) (ps := ["a1"]) (Or.inr ⟨_, _, _, rfl, rfl, rfl⟩) (fun A outer s H E f c' hr2 => (pe_goE cRowSum (hr2.mono (by decide)) (takes_of rfl rfl rfl rfl) (by rfl) (pa_cons (pv 1) (pa_cons (pe_lst (pa_cons pe_int pa_nil)) (pa_cons (pv 4) pa_nil)))))) (pa_cons (pe_hear hH T T2 (k := 10) (by rfl) (hr.mono (by decide)) ⟨TB, rfl, List.mem_singleton.mpr rfl, fun p z _ => by rw [List.mem_singleton.mp z], lamT_by (N := ["sundial", "clock", "heard", "due", "bad", "far", "none", "odd"]) (sc := defScope sLawRefusedRight) (by decide +kernel), lamBinds_a2, (fun p (z : p ∈ (["a2"] : List Str)) => (by rw [List.mem_singleton.mp z]; rfl))⟩ (dvs := [.int 0]) (ps := ["a2"]) (Or.inr ⟨_, _, _, rfl, rfl, rfl⟩) (fun A outer s H E f c' hr2 => (pe_goE cRowSum (hr2.mono (by decide)) (takes_of rfl rfl rfl rfl) (by rfl) (pa_cons (pv 1) (pa_cons (pe_lst (pa_cons pe_int pa_nil)) (pa_cons (pe_lst (pa_cons pe_int (pa_cons pe_int pa_nil))) pa_nil)))))) pa_nil))))))
  (pss_cons (ps_set (i := 2) scLawRefusedRight.nd rfl (Or.inl rfl) (pe_op op_cat (pv 2) (pe_lst (pa_cons (pe_hear hH T T2 (k := 10) (by rfl) (hr.mono (by decide)) ⟨TB, rfl, List.mem_singleton.mpr rfl, fun p z _ => by rw [List.mem_singleton.mp z], lamT_by (N := ["sundial", "clock", "heard", "due", "bad", "far", "none", "odd"]) (sc := defScope sLawRefusedRight) (by decide +kernel), lamBinds0, (fun _ z => nomatch z)⟩ (dvs := []) (ps := []) (Or.inl ⟨rfl, rfl⟩) (fun A outer s H E f c' hr2 => (pe_goE cRowTimes (hr2.mono (by decide)) (takes_of rfl rfl rfl rfl) (by rfl) (pa_cons (pv 6) (pa_cons (pv 5) (pa_cons (pv 4) pa_nil)))))) (pa_cons (pe_hear hH T T2 (k := 10) (by rfl) (hr.mono (by decide)) ⟨TB, rfl, List.mem_singleton.mpr rfl, fun p z _ => by rw [List.mem_singleton.mp z], lamT_by (N := ["sundial", "clock", "heard", "due", "bad", "far", "none", "odd"]) (sc := defScope sLawRefusedRight) (by decide +kernel), lamBinds_a1, (fun p (z : p ∈ (["a1"] : List Str)) => (by rw [List.mem_singleton.mp z]; rfl))⟩ (dvs := [.int 0]) (ps := ["a1"]) (Or.inr ⟨_, _, _, rfl, rfl, rfl⟩) (fun A outer s H E f c' hr2 => (pe_goE cRowTimes (hr2.mono (by decide)) (takes_of rfl rfl rfl rfl) (by rfl) (pa_cons (pv 1) (pa_cons (pv 5) (pa_cons (pv 4) pa_nil)))))) (pa_cons (pe_hear hH T T2 (k := 10) (by rfl) (hr.mono (by decide)) ⟨TB, rfl, List.mem_singleton.mpr rfl, fun p z _ => by rw [List.mem_singleton.mp z], lamT_by (N := ["sundial", "clock", "heard", "due", "bad", "far", "none", "odd"]) (sc := defScope sLawRefusedRight) (by decide +kernel), lamBinds_a2, (fun p (z : p ∈ (["a2"] : List Str)) => (by rw [List.mem_singleton.mp z]; rfl))⟩ (dvs := [.int 0]) (ps := ["a2"]) (Or.inr ⟨_, _, _, rfl, rfl, rfl⟩) (fun A outer s H E f c' hr2 => (pe_goE cRowTimes (hr2.mono (by decide)) (takes_of rfl rfl rfl rfl) (by rfl) (pa_cons (pv 1) (pa_cons pe_int (pa_cons (pv 4) pa_nil)))))) pa_nil))))))
  (pss_cons (ps_set (i := 3) scLawRefusedRight.nd rfl (Or.inl rfl) (pe_lst (pa_cons (pe_tup (pa_cons pe_str (pa_cons pe_str pa_nil))) (pa_cons (pe_tup (pa_cons pe_str (pa_cons pe_str pa_nil))) (pa_cons (pe_tup (pa_cons pe_str (pa_cons pe_str pa_nil))) (pa_cons (pe_tup (pa_cons pe_str (pa_cons pe_str pa_nil))) (pa_cons (pe_tup (pa_cons pe_str (pa_cons pe_str pa_nil))) (pa_cons (pe_tup (pa_cons pe_str (pa_cons pe_str pa_nil))) (pa_cons (pe_tup (pa_cons pe_str (pa_cons pe_str pa_nil))) (pa_cons (pe_tup (pa_cons pe_str (pa_cons pe_str pa_nil))) pa_nil))))))))))
  (pss_one (ps_ret (pe_cmpR (op_eqD hr.units) (pv 2) (pe_op op_cat (pv 3) (pe_lst (pa_cons (pe_tup (pa_cons pe_str (pa_cons pe_str pa_nil))) (pa_cons (pe_tup (pa_cons pe_str (pa_cons pe_str pa_nil))) (pa_cons (pe_tup (pa_cons pe_str (pa_cons pe_str pa_nil))) (pa_cons (pe_tup (pa_cons pe_str (pa_cons pe_str pa_nil))) pa_nil)))))) (nomark _)))))))))))), ?_⟩
    refine r_start (l := [some (.ref q), some (.int cl), none, none, none, none, none, none]) rfl ?_
    have B0 : But q H H := But.refl _ _
    have e20 : (10 : Int) ^ Int.toNat 20 = 100000000000000000000 := by decide +kernel
    walk_at "rds"
    refine ⟨len_ok rfl, fun p1 hp1 => ?_⟩
    generalize hG1 : upd H p1 _ = H1
    obtain ⟨D1, B1, b1, np1, ep1⟩ := alloc hG1 hD B0 hp1
    clear hG1
    have a1 : Any q H1 (.ref p1) := .tup np1 ep1
    walk_at "rds"
    refine r_I ⟨by decide, by decide, by decide⟩ ?_
    walk_at "rds"
    refine ⟨len_ok rfl, fun p2 hp2 => ?_⟩
    generalize hG2 : upd H1 p2 _ = H2
    obtain ⟨D2, B2, b2, np2, ep2⟩ := alloc hG2 D1 B1 hp2
    clear hG2
    replace a1 := a1.but b2
    replace ep1 := b2 _ _ np1 ep1
    walk_at "rds"
    refine ⟨_, _, _, _, _, _, rfl, SqL.of ep2, Nat.zero_lt_succ _, lt_ok rfl, by omega, np2, D2, fun H3 l3 i3 v3 hl3 D3 b3 e3 => ?_⟩
    have pv3 := EachP.get (F := fun v => clk v = false ∧ Any q H2 v) (.cons ⟨rfl, .non⟩ (.cons ⟨by decide +kernel, .num _⟩ (.cons ⟨by decide +kernel, .num _⟩ (.cons ⟨by decide +kernel, .num _⟩ (.cons ⟨by decide +kernel, .num _⟩ (.cons ⟨by decide +kernel, .num _⟩ (.cons ⟨by decide +kernel, .num _⟩ (.cons ⟨by decide +kernel, .num _⟩ (.cons ⟨rfl, .bl _⟩ (.cons ⟨rfl, .str _⟩ (.cons ⟨rfl, a1⟩ (.cons ⟨by decide +kernel, .num _⟩ .nil)))))))))))) e3
    have B3 := B2.trans b3
    replace a1 := a1.but b3
    replace ep1 := b3 _ _ np1 ep1
    replace ep2 := b3 _ _ np2 ep2
    obtain ⟨f_none, w_none⟩ := pv3
    replace w_none := w_none.but b3
    walk_at "rds"
    refine ⟨len_ok rfl, fun p4 hp4 => ?_⟩
    generalize hG4 : upd H3 p4 _ = H4
    obtain ⟨D4, B4, b4, np4, ep4⟩ := alloc hG4 D3 B3 hp4
    clear hG4
    replace a1 := a1.but b4
    replace w_none := w_none.but b4
    replace ep1 := b4 _ _ np1 ep1
    replace ep2 := b4 _ _ np2 ep2
    have a4 : Any q H4 (.ref p4) := .lst np4 ep4
    walk_at "rds"
    refine ⟨len_ok rfl, fun p5 hp5 => ?_⟩
    generalize hG5 : upd H4 p5 _ = H5
    obtain ⟨D5, B5, b5, np5, ep5⟩ := alloc hG5 D4 B4 hp5
    clear hG5
    replace a1 := a1.but b5
    replace w_none := w_none.but b5
    replace a4 := a4.but b5
    replace ep1 := b5 _ _ np1 ep1
    replace ep2 := b5 _ _ np2 ep2
    replace ep4 := b5 _ _ np4 ep4
    have a5 : Any q H5 (.ref p5) := .tup np5 ep5
    walk_at "rds"
    intro p6 hp6
    generalize hG6 : upd H5 p6 _ = H6
    obtain ⟨D6, B6, b6, np6, ep6⟩ := alloc hG6 D5 B5 hp6
    clear hG6
    replace a1 := a1.but b6
    replace w_none := w_none.but b6
    replace a4 := a4.but b6
    replace a5 := a5.but b6
    replace ep1 := b6 _ _ np1 ep1
    replace ep2 := b6 _ _ np2 ep2
    replace ep4 := b6 _ _ np4 ep4
    replace ep5 := b6 _ _ np5 ep5
    have a6 : Any q H6 (.ref p6) := .dic np6 ep6
    walk_at "rds"
    refine ⟨len_ok rfl, fun p7 hp7 => ?_⟩
    generalize hG7 : upd H6 p7 _ = H7
    obtain ⟨D7, B7, b7, np7, ep7⟩ := alloc hG7 D6 B6 hp7
    clear hG7
    replace a1 := a1.but b7
    replace w_none := w_none.but b7
    replace a4 := a4.but b7
    replace a5 := a5.but b7
    replace a6 := a6.but b7
    replace ep1 := b7 _ _ np1 ep1
    replace ep2 := b7 _ _ np2 ep2
    replace ep4 := b7 _ _ np4 ep4
    replace ep5 := b7 _ _ np5 ep5
    replace ep6 := b7 _ _ np6 ep6
    walk_at "rds"
    refine ⟨_, _, _, _, _, _, rfl, SqL.of ep7, Nat.zero_lt_succ _, lt_ok rfl, by omega, np7, D7, fun H8 l8 i8 v8 hl8 D8 b8 e8 => ?_⟩
    have pv8 := EachP.get (F := fun v => inB v none none = false ∧ Any q H7 v) (.cons ⟨rfl, .non⟩ (.cons ⟨rfl, .bl _⟩ (.cons ⟨rfl, .str _⟩ (.cons ⟨rfl, a4⟩ (.cons ⟨rfl, a5⟩ (.cons ⟨rfl, a6⟩ .nil)))))) e8
    have B8 := B7.trans b8
    replace a1 := a1.but b8
    replace w_none := w_none.but b8
    replace a4 := a4.but b8
    replace a5 := a5.but b8
    replace a6 := a6.but b8
    replace ep1 := b8 _ _ np1 ep1
    replace ep2 := b8 _ _ np2 ep2
    replace ep4 := b8 _ _ np4 ep4
    replace ep5 := b8 _ _ np5 ep5
    replace ep6 := b8 _ _ np6 ep6
    replace ep7 := b8 _ _ np7 ep7
    obtain ⟨f_odd, w_odd⟩ := pv8
    replace w_odd := w_odd.but b8
    walk_at "rds"
    refine ⟨len_ok rfl, fun p9 hp9 => ?_⟩
    generalize hG9 : upd H8 p9 _ = H9
    obtain ⟨D9, B9, b9, np9, ep9⟩ := alloc hG9 D8 B8 hp9
    clear hG9
    replace a1 := a1.but b9
    replace w_none := w_none.but b9
    replace a4 := a4.but b9
    replace a5 := a5.but b9
    replace a6 := a6.but b9
    replace w_odd := w_odd.but b9
    replace ep1 := b9 _ _ np1 ep1
    replace ep2 := b9 _ _ np2 ep2
    replace ep4 := b9 _ _ np4 ep4
    replace ep5 := b9 _ _ np5 ep5
    replace ep6 := b9 _ _ np6 ep6
    replace ep7 := b9 _ _ np7 ep7
    walk_at "rds"
    refine r_gtup ⟨_, _, rfl, SqT.of ep9, rfl, ?_⟩
    refine ⟨_, _, rfl, ?_⟩
    walk_at "rds"
    refine ⟨_, _, rfl, ?_⟩
    walk_at "rds"
    refine ⟨rfl, ?_⟩
    walk_at "rds"
    refine ⟨len_ok rfl, fun p10 hp10 => ?_⟩
    generalize hG10 : upd H9 p10 _ = H10
    obtain ⟨D10, B10, b10, np10, ep10⟩ := alloc hG10 D9 B9 hp10
    clear hG10
    replace a1 := a1.but b10
    replace w_none := w_none.but b10
    replace a4 := a4.but b10
    replace a5 := a5.but b10
    replace a6 := a6.but b10
    replace w_odd := w_odd.but b10
    replace ep1 := b10 _ _ np1 ep1
    replace ep2 := b10 _ _ np2 ep2
    replace ep4 := b10 _ _ np4 ep4
    replace ep5 := b10 _ _ np5 ep5
    replace ep6 := b10 _ _ np6 ep6
    replace ep7 := b10 _ _ np7 ep7
    replace ep9 := b10 _ _ np9 ep9
    have a10 : Any q H10 (.ref p10) := .lst np10 ep10
    walk_at "rds"
    refine r_I ⟨by decide, by decide, by decide⟩ ?_
    walk_at "rds"
    refine ⟨len_ok rfl, fun p11 hp11 => ?_⟩
    generalize hG11 : upd H10 p11 _ = H11
    obtain ⟨D11, B11, b11, np11, ep11⟩ := alloc hG11 D10 B10 hp11
    clear hG11
    replace a1 := a1.but b11
    replace w_none := w_none.but b11
    replace a4 := a4.but b11
    replace a5 := a5.but b11
    replace a6 := a6.but b11
    replace w_odd := w_odd.but b11
    replace a10 := a10.but b11
    replace ep1 := b11 _ _ np1 ep1
    replace ep2 := b11 _ _ np2 ep2
    replace ep4 := b11 _ _ np4 ep4
    replace ep5 := b11 _ _ np5 ep5
    replace ep6 := b11 _ _ np6 ep6
    replace ep7 := b11 _ _ np7 ep7
    replace ep9 := b11 _ _ np9 ep9
    replace ep10 := b11 _ _ np10 ep10
    walk_at "rds"
    refine ⟨_, _, _, _, _, _, rfl, SqL.of ep11, Nat.zero_lt_succ _, lt_ok rfl, by omega, np11, D11, fun H12 l12 i12 v12 hl12 D12 b12 e12 => ?_⟩
    have pv12 := EachP.get (F := fun v => inB v (some 0) (some (cl - 1)) = false ∧ Any q H11 v) (.cons ⟨rfl, .non⟩ (.cons ⟨inB_out (.inl (by omega)), .num _⟩ (.cons ⟨inB_out (.inr (by omega)), .num _⟩ (.cons ⟨rfl, .bl _⟩ (.cons ⟨rfl, .str _⟩ (.cons ⟨rfl, a10⟩ (.cons ⟨inB_out (.inr (by omega)), .num _⟩ .nil))))))) e12
    have B12 := B11.trans b12
    replace a1 := a1.but b12
    replace w_none := w_none.but b12
    replace a4 := a4.but b12
    replace a5 := a5.but b12
    replace a6 := a6.but b12
    replace w_odd := w_odd.but b12
    replace a10 := a10.but b12
    replace ep1 := b12 _ _ np1 ep1
    replace ep2 := b12 _ _ np2 ep2
    replace ep4 := b12 _ _ np4 ep4
    replace ep5 := b12 _ _ np5 ep5
    replace ep6 := b12 _ _ np6 ep6
    replace ep7 := b12 _ _ np7 ep7
    replace ep9 := b12 _ _ np9 ep9
    replace ep10 := b12 _ _ np10 ep10
    replace ep11 := b12 _ _ np11 ep11
    obtain ⟨f_far, w_far⟩ := pv12
    replace w_far := w_far.but b12
    walk_at "rds"
    refine ⟨len_ok rfl, fun p13 hp13 => ?_⟩
    generalize hG13 : upd H12 p13 _ = H13
    obtain ⟨D13, B13, b13, np13, ep13⟩ := alloc hG13 D12 B12 hp13
    clear hG13
    replace a1 := a1.but b13
    replace w_none := w_none.but b13
    replace a4 := a4.but b13
    replace a5 := a5.but b13
    replace a6 := a6.but b13
    replace w_odd := w_odd.but b13
    replace a10 := a10.but b13
    replace w_far := w_far.but b13
    replace ep1 := b13 _ _ np1 ep1
    replace ep2 := b13 _ _ np2 ep2
    replace ep4 := b13 _ _ np4 ep4
    replace ep5 := b13 _ _ np5 ep5
    replace ep6 := b13 _ _ np6 ep6
    replace ep7 := b13 _ _ np7 ep7
    replace ep9 := b13 _ _ np9 ep9
    replace ep10 := b13 _ _ np10 ep10
    replace ep11 := b13 _ _ np11 ep11
    walk_at "rds"
    intro p14 hp14
    generalize hG14 : upd H13 p14 _ = H14
    obtain ⟨D14, B14, b14, np14, ep14⟩ := alloc hG14 D13 B13 hp14
    clear hG14
    replace a1 := a1.but b14
    replace w_none := w_none.but b14
    replace a4 := a4.but b14
    replace a5 := a5.but b14
    replace a6 := a6.but b14
    replace w_odd := w_odd.but b14
    replace a10 := a10.but b14
    replace w_far := w_far.but b14
    replace ep1 := b14 _ _ np1 ep1
    replace ep2 := b14 _ _ np2 ep2
    replace ep4 := b14 _ _ np4 ep4
    replace ep5 := b14 _ _ np5 ep5
    replace ep6 := b14 _ _ np6 ep6
    replace ep7 := b14 _ _ np7 ep7
    replace ep9 := b14 _ _ np9 ep9
    replace ep10 := b14 _ _ np10 ep10
    replace ep11 := b14 _ _ np11 ep11
    replace ep13 := b14 _ _ np13 ep13
    walk_at "rds"
    refine ⟨len_ok rfl, fun p15 hp15 => ?_⟩
    generalize hG15 : upd H14 p15 _ = H15
    obtain ⟨D15, B15, b15, np15, ep15⟩ := alloc hG15 D14 B14 hp15
    clear hG15
    replace a1 := a1.but b15
    replace w_none := w_none.but b15
    replace a4 := a4.but b15
    replace a5 := a5.but b15
    replace a6 := a6.but b15
    replace w_odd := w_odd.but b15
    replace a10 := a10.but b15
    replace w_far := w_far.but b15
    replace ep1 := b15 _ _ np1 ep1
    replace ep2 := b15 _ _ np2 ep2
    replace ep4 := b15 _ _ np4 ep4
    replace ep5 := b15 _ _ np5 ep5
    replace ep6 := b15 _ _ np6 ep6
    replace ep7 := b15 _ _ np7 ep7
    replace ep9 := b15 _ _ np9 ep9
    replace ep10 := b15 _ _ np10 ep10
    replace ep11 := b15 _ _ np11 ep11
    replace ep13 := b15 _ _ np13 ep13
    replace ep14 := b15 _ _ np14 ep14
    walk_at "rds"
    refine ⟨len_ok rfl, fun p16 hp16 => ?_⟩
    generalize hG16 : upd H15 p16 _ = H16
    obtain ⟨D16, B16, b16, np16, ep16⟩ := alloc hG16 D15 B15 hp16
    clear hG16
    replace a1 := a1.but b16
    replace w_none := w_none.but b16
    replace a4 := a4.but b16
    replace a5 := a5.but b16
    replace a6 := a6.but b16
    replace w_odd := w_odd.but b16
    replace a10 := a10.but b16
    replace w_far := w_far.but b16
    replace ep1 := b16 _ _ np1 ep1
    replace ep2 := b16 _ _ np2 ep2
    replace ep4 := b16 _ _ np4 ep4
    replace ep5 := b16 _ _ np5 ep5
    replace ep6 := b16 _ _ np6 ep6
    replace ep7 := b16 _ _ np7 ep7
    replace ep9 := b16 _ _ np9 ep9
    replace ep10 := b16 _ _ np10 ep10
    replace ep11 := b16 _ _ np11 ep11
    replace ep13 := b16 _ _ np13 ep13
    replace ep14 := b16 _ _ np14 ep14
    replace ep15 := b16 _ _ np15 ep15
    walk_at "rds"
    refine ⟨len_ok rfl, fun p17 hp17 => ?_⟩
    generalize hG17 : upd H16 p17 _ = H17
    obtain ⟨D17, B17, b17, np17, ep17⟩ := alloc hG17 D16 B16 hp17
    clear hG17
    replace a1 := a1.but b17
    replace w_none := w_none.but b17
    replace a4 := a4.but b17
    replace a5 := a5.but b17
    replace a6 := a6.but b17
    replace w_odd := w_odd.but b17
    replace a10 := a10.but b17
    replace w_far := w_far.but b17
    replace ep1 := b17 _ _ np1 ep1
    replace ep2 := b17 _ _ np2 ep2
    replace ep4 := b17 _ _ np4 ep4
    replace ep5 := b17 _ _ np5 ep5
    replace ep6 := b17 _ _ np6 ep6
    replace ep7 := b17 _ _ np7 ep7
    replace ep9 := b17 _ _ np9 ep9
    replace ep10 := b17 _ _ np10 ep10
    replace ep11 := b17 _ _ np11 ep11
    replace ep13 := b17 _ _ np13 ep13
    replace ep14 := b17 _ _ np14 ep14
    replace ep15 := b17 _ _ np15 ep15
    replace ep16 := b17 _ _ np16 ep16
    walk_at "rds"
    refine ⟨len_ok rfl, fun p18 hp18 => ?_⟩
    generalize hG18 : upd H17 p18 _ = H18
    obtain ⟨D18, B18, b18, np18, ep18⟩ := alloc hG18 D17 B17 hp18
    clear hG18
    replace a1 := a1.but b18
    replace w_none := w_none.but b18
    replace a4 := a4.but b18
    replace a5 := a5.but b18
    replace a6 := a6.but b18
    replace w_odd := w_odd.but b18
    replace a10 := a10.but b18
    replace w_far := w_far.but b18
    replace ep1 := b18 _ _ np1 ep1
    replace ep2 := b18 _ _ np2 ep2
    replace ep4 := b18 _ _ np4 ep4
    replace ep5 := b18 _ _ np5 ep5
    replace ep6 := b18 _ _ np6 ep6
    replace ep7 := b18 _ _ np7 ep7
    replace ep9 := b18 _ _ np9 ep9
    replace ep10 := b18 _ _ np10 ep10
    replace ep11 := b18 _ _ np11 ep11
    replace ep13 := b18 _ _ np13 ep13
    replace ep14 := b18 _ _ np14 ep14
    replace ep15 := b18 _ _ np15 ep15
    replace ep16 := b18 _ _ np16 ep16
    replace ep17 := b18 _ _ np17 ep17
    walk_at "rds"
    refine ⟨len_ok rfl, fun p19 hp19 => ?_⟩
    generalize hG19 : upd H18 p19 _ = H19
    obtain ⟨D19, B19, b19, np19, ep19⟩ := alloc hG19 D18 B18 hp19
    clear hG19
    replace a1 := a1.but b19
    replace w_none := w_none.but b19
    replace a4 := a4.but b19
    replace a5 := a5.but b19
    replace a6 := a6.but b19
    replace w_odd := w_odd.but b19
    replace a10 := a10.but b19
    replace w_far := w_far.but b19
    replace ep1 := b19 _ _ np1 ep1
    replace ep2 := b19 _ _ np2 ep2
    replace ep4 := b19 _ _ np4 ep4
    replace ep5 := b19 _ _ np5 ep5
    replace ep6 := b19 _ _ np6 ep6
    replace ep7 := b19 _ _ np7 ep7
    replace ep9 := b19 _ _ np9 ep9
    replace ep10 := b19 _ _ np10 ep10
    replace ep11 := b19 _ _ np11 ep11
    replace ep13 := b19 _ _ np13 ep13
    replace ep14 := b19 _ _ np14 ep14
    replace ep15 := b19 _ _ np15 ep15
    replace ep16 := b19 _ _ np16 ep16
    replace ep17 := b19 _ _ np17 ep17
    replace ep18 := b19 _ _ np18 ep18
    walk_at "rds"
    refine ⟨len_ok rfl, fun p20 hp20 => ?_⟩
    generalize hG20 : upd H19 p20 _ = H20
    obtain ⟨D20, B20, b20, np20, ep20⟩ := alloc hG20 D19 B19 hp20
    clear hG20
    replace a1 := a1.but b20
    replace w_none := w_none.but b20
    replace a4 := a4.but b20
    replace a5 := a5.but b20
    replace a6 := a6.but b20
    replace w_odd := w_odd.but b20
    replace a10 := a10.but b20
    replace w_far := w_far.but b20
    replace ep1 := b20 _ _ np1 ep1
    replace ep2 := b20 _ _ np2 ep2
    replace ep4 := b20 _ _ np4 ep4
    replace ep5 := b20 _ _ np5 ep5
    replace ep6 := b20 _ _ np6 ep6
    replace ep7 := b20 _ _ np7 ep7
    replace ep9 := b20 _ _ np9 ep9
    replace ep10 := b20 _ _ np10 ep10
    replace ep11 := b20 _ _ np11 ep11
    replace ep13 := b20 _ _ np13 ep13
    replace ep14 := b20 _ _ np14 ep14
    replace ep15 := b20 _ _ np15 ep15
    replace ep16 := b20 _ _ np16 ep16
    replace ep17 := b20 _ _ np17 ep17
    replace ep18 := b20 _ _ np18 ep18
    replace ep19 := b20 _ _ np19 ep19
    walk_at "rds"
    refine ⟨len_ok rfl, fun p21 hp21 => ?_⟩
    generalize hG21 : upd H20 p21 _ = H21
    obtain ⟨D21, B21, b21, np21, ep21⟩ := alloc hG21 D20 B20 hp21
    clear hG21
    replace a1 := a1.but b21
    replace w_none := w_none.but b21
    replace a4 := a4.but b21
    replace a5 := a5.but b21
    replace a6 := a6.but b21
    replace w_odd := w_odd.but b21
    replace a10 := a10.but b21
    replace w_far := w_far.but b21
    replace ep1 := b21 _ _ np1 ep1
    replace ep2 := b21 _ _ np2 ep2
    replace ep4 := b21 _ _ np4 ep4
    replace ep5 := b21 _ _ np5 ep5
    replace ep6 := b21 _ _ np6 ep6
    replace ep7 := b21 _ _ np7 ep7
    replace ep9 := b21 _ _ np9 ep9
    replace ep10 := b21 _ _ np10 ep10
    replace ep11 := b21 _ _ np11 ep11
    replace ep13 := b21 _ _ np13 ep13
    replace ep14 := b21 _ _ np14 ep14
    replace ep15 := b21 _ _ np15 ep15
    replace ep16 := b21 _ _ np16 ep16
    replace ep17 := b21 _ _ np17 ep17
    replace ep18 := b21 _ _ np18 ep18
    replace ep19 := b21 _ _ np19 ep19
    replace ep20 := b21 _ _ np20 ep20
    walk_at "rds"
    refine ⟨_, _, _, rfl, rfl, ep21, by decide, by decide, le_ok rfl, ?_⟩
    intro p22 hp22
    generalize hG22 : upd H21 p22 _ = H22
    obtain ⟨D22, B22, b22, np22, ep22⟩ := alloc hG22 D21 B21 hp22
    clear hG22
    replace a1 := a1.but b22
    replace w_none := w_none.but b22
    replace a4 := a4.but b22
    replace a5 := a5.but b22
    replace a6 := a6.but b22
    replace w_odd := w_odd.but b22
    replace a10 := a10.but b22
    replace w_far := w_far.but b22
    replace ep1 := b22 _ _ np1 ep1
    replace ep2 := b22 _ _ np2 ep2
    replace ep4 := b22 _ _ np4 ep4
    replace ep5 := b22 _ _ np5 ep5
    replace ep6 := b22 _ _ np6 ep6
    replace ep7 := b22 _ _ np7 ep7
    replace ep9 := b22 _ _ np9 ep9
    replace ep10 := b22 _ _ np10 ep10
    replace ep11 := b22 _ _ np11 ep11
    replace ep13 := b22 _ _ np13 ep13
    replace ep14 := b22 _ _ np14 ep14
    replace ep15 := b22 _ _ np15 ep15
    replace ep16 := b22 _ _ np16 ep16
    replace ep17 := b22 _ _ np17 ep17
    replace ep18 := b22 _ _ np18 ep18
    replace ep19 := b22 _ _ np19 ep19
    replace ep20 := b22 _ _ np20 ep20
    replace ep21 := b22 _ _ np21 ep21
    walk_at "rds"
    refine ⟨len_ok rfl, fun p23 hp23 => ?_⟩
    generalize hG23 : upd H22 p23 _ = H23
    obtain ⟨D23, B23, b23, np23, ep23⟩ := alloc hG23 D22 B22 hp23
    clear hG23
    replace a1 := a1.but b23
    replace w_none := w_none.but b23
    replace a4 := a4.but b23
    replace a5 := a5.but b23
    replace a6 := a6.but b23
    replace w_odd := w_odd.but b23
    replace a10 := a10.but b23
    replace w_far := w_far.but b23
    replace ep1 := b23 _ _ np1 ep1
    replace ep2 := b23 _ _ np2 ep2
    replace ep4 := b23 _ _ np4 ep4
    replace ep5 := b23 _ _ np5 ep5
    replace ep6 := b23 _ _ np6 ep6
    replace ep7 := b23 _ _ np7 ep7
    replace ep9 := b23 _ _ np9 ep9
    replace ep10 := b23 _ _ np10 ep10
    replace ep11 := b23 _ _ np11 ep11
    replace ep13 := b23 _ _ np13 ep13
    replace ep14 := b23 _ _ np14 ep14
    replace ep15 := b23 _ _ np15 ep15
    replace ep16 := b23 _ _ np16 ep16
    replace ep17 := b23 _ _ np17 ep17
    replace ep18 := b23 _ _ np18 ep18
    replace ep19 := b23 _ _ np19 ep19
    replace ep20 := b23 _ _ np20 ep20
    replace ep21 := b23 _ _ np21 ep21
    replace ep22 := b23 _ _ np22 ep22
    walk_at "rds"
    have B24 : But q H23 H23 := But.refl _ _
    intro p25 hp25
    generalize hG25 : upd H23 p25 _ = H25
    obtain ⟨D25, B25, b25, np25, ep25⟩ := alloc hG25 D23 B24 hp25
    clear hG25
    walk_at "rds"
    refine ⟨ep25, [(Sum.inl 0, .int 1)], rfl, le_ok rfl, ?_⟩
    generalize hG26 : upd H25 p25 _ = H26
    obtain ⟨D26, ed25⟩ := stored hG26 D25 np25 ep25 (fun _ z => by cases z)
    have b26 := but_put hG26 B25 hp25
    clear hG26
    have B26 := B23.trans b26
    replace a1 := a1.but b26
    replace w_none := w_none.but b26
    replace a4 := a4.but b26
    replace a5 := a5.but b26
    replace a6 := a6.but b26
    replace w_odd := w_odd.but b26
    replace a10 := a10.but b26
    replace w_far := w_far.but b26
    replace ep1 := b26 _ _ np1 ep1
    replace ep2 := b26 _ _ np2 ep2
    replace ep4 := b26 _ _ np4 ep4
    replace ep5 := b26 _ _ np5 ep5
    replace ep6 := b26 _ _ np6 ep6
    replace ep7 := b26 _ _ np7 ep7
    replace ep9 := b26 _ _ np9 ep9
    replace ep10 := b26 _ _ np10 ep10
    replace ep11 := b26 _ _ np11 ep11
    replace ep13 := b26 _ _ np13 ep13
    replace ep14 := b26 _ _ np14 ep14
    replace ep15 := b26 _ _ np15 ep15
    replace ep16 := b26 _ _ np16 ep16
    replace ep17 := b26 _ _ np17 ep17
    replace ep18 := b26 _ _ np18 ep18
    replace ep19 := b26 _ _ np19 ep19
    replace ep20 := b26 _ _ np20 ep20
    replace ep21 := b26 _ _ np21 ep21
    replace ep22 := b26 _ _ np22 ep22
    replace ep23 := b26 _ _ np23 ep23
    have a25 : Any q H26 (.ref p25) := .dic np25 ed25
    walk_at "rds"
    refine ⟨len_ok rfl, fun p27 hp27 => ?_⟩
    generalize hG27 : upd H26 p27 _ = H27
    obtain ⟨D27, B27, b27, np27, ep27⟩ := alloc hG27 D26 B26 hp27
    clear hG27
    replace a1 := a1.but b27
    replace w_none := w_none.but b27
    replace a4 := a4.but b27
    replace a5 := a5.but b27
    replace a6 := a6.but b27
    replace w_odd := w_odd.but b27
    replace a10 := a10.but b27
    replace w_far := w_far.but b27
    replace a25 := a25.but b27
    replace ep1 := b27 _ _ np1 ep1
    replace ep2 := b27 _ _ np2 ep2
    replace ep4 := b27 _ _ np4 ep4
    replace ep5 := b27 _ _ np5 ep5
    replace ep6 := b27 _ _ np6 ep6
    replace ep7 := b27 _ _ np7 ep7
    replace ep9 := b27 _ _ np9 ep9
    replace ep10 := b27 _ _ np10 ep10
    replace ep11 := b27 _ _ np11 ep11
    replace ep13 := b27 _ _ np13 ep13
    replace ep14 := b27 _ _ np14 ep14
    replace ep15 := b27 _ _ np15 ep15
    replace ep16 := b27 _ _ np16 ep16
    replace ep17 := b27 _ _ np17 ep17
    replace ep18 := b27 _ _ np18 ep18
    replace ep19 := b27 _ _ np19 ep19
    replace ep20 := b27 _ _ np20 ep20
    replace ep21 := b27 _ _ np21 ep21
    replace ep22 := b27 _ _ np22 ep22
    replace ep23 := b27 _ _ np23 ep23
    replace ed25 := b27 _ _ np25 ed25
    walk_at "rds"
    refine ⟨_, _, _, _, _, _, rfl, SqL.of ep27, Nat.zero_lt_succ _, lt_ok rfl, by omega, np27, D27, fun H28 l28 i28 v28 hl28 D28 b28 e28 => ?_⟩
    have pv28 := EachP.get (F := fun v => ∃ o, RowV q H27 v o ∧ rowOk o cl 1 400 = false ∧ ∀ xs, o = some xs → xs.length < sizeLine) (.cons ⟨none, .non, rfl, fun _ z => by cases z⟩ (.cons ⟨none, .num _, rfl, fun _ z => by cases z⟩ (.cons ⟨some _, .lst np13 ep13 (EachP.mem (F := Any q H27) .nil), rfl, fun xs z => by cases z; exact lt_ok rfl⟩ (.cons ⟨none, .str _, rfl, fun _ z => by cases z⟩ (.cons ⟨none, .dic np14 ep14, rfl, fun _ z => by cases z⟩ (.cons ⟨some _, .lst np15 ep15 (EachP.mem (F := Any q H27) (.cons (.num _) .nil)), rowOk_bad (x := .int cl) (by simp) (inB_out (.inr (by omega))), fun xs z => by cases z; exact lt_ok rfl⟩ (.cons ⟨some _, .lst np16 ep16 (EachP.mem (F := Any q H27) (.cons (.num _) (.cons (.num _) .nil))), rowOk_bad (x := .int (-1)) (by simp) (inB_out (.inl (by omega))), fun xs z => by cases z; exact lt_ok rfl⟩ (.cons ⟨some _, .lst np17 ep17 (EachP.mem (F := Any q H27) (.cons (.bl _) .nil)), rowOk_bad (x := .bl true) (by simp) rfl, fun xs z => by cases z; exact lt_ok rfl⟩ (.cons ⟨some _, .lst np18 ep18 (EachP.mem (F := Any q H27) (.cons (.num _) (.cons .non .nil))), rowOk_bad (x := .non) (by simp) rfl, fun xs z => by cases z; exact lt_ok rfl⟩ (.cons ⟨some _, .lst np20 ep20 (EachP.mem (F := Any q H27) (.cons (.lst np19 ep19) .nil)), rowOk_bad (x := .ref p19) (by simp) rfl, fun xs z => by cases z; exact lt_ok rfl⟩ (.cons ⟨some _, .lst np22 ep22 (fun x m => by obtain ⟨l, hl, hx⟩ := List.mem_flatten.mp m; rw [List.eq_of_mem_replicate hl] at hx; rw [List.mem_singleton.mp hx]; exact .num _), rowOk_long (by decide +kernel), fun xs z => by cases z; exact small1000 (by decide +kernel)⟩ (.cons ⟨some _, .lst np23 ep23 (EachP.mem (F := Any q H27) (.cons (.str _) .nil)), rowOk_bad (x := .str "0") (by simp) rfl, fun xs z => by cases z; exact lt_ok rfl⟩ (.cons ⟨none, .dic np25 ed25, rfl, fun _ z => by cases z⟩ .nil))))))))))))) e28
    have B28 := B27.trans b28
    replace a1 := a1.but b28
    replace w_none := w_none.but b28
    replace a4 := a4.but b28
    replace a5 := a5.but b28
    replace a6 := a6.but b28
    replace w_odd := w_odd.but b28
    replace a10 := a10.but b28
    replace w_far := w_far.but b28
    replace a25 := a25.but b28
    replace ep1 := b28 _ _ np1 ep1
    replace ep2 := b28 _ _ np2 ep2
    replace ep4 := b28 _ _ np4 ep4
    replace ep5 := b28 _ _ np5 ep5
    replace ep6 := b28 _ _ np6 ep6
    replace ep7 := b28 _ _ np7 ep7
    replace ep9 := b28 _ _ np9 ep9
    replace ep10 := b28 _ _ np10 ep10
    replace ep11 := b28 _ _ np11 ep11
    replace ep13 := b28 _ _ np13 ep13
    replace ep14 := b28 _ _ np14 ep14
    replace ep15 := b28 _ _ np15 ep15
    replace ep16 := b28 _ _ np16 ep16
    replace ep17 := b28 _ _ np17 ep17
    replace ep18 := b28 _ _ np18 ep18
    replace ep19 := b28 _ _ np19 ep19
    replace ep20 := b28 _ _ np20 ep20
    replace ep21 := b28 _ _ np21 ep21
    replace ep22 := b28 _ _ np22 ep22
    replace ep23 := b28 _ _ np23 ep23
    replace ed25 := b28 _ _ np25 ed25
    replace ep27 := b28 _ _ np27 ep27
    obtain ⟨o_bad, w_bad, f_bad, z_bad⟩ := pv28
    replace w_bad := w_bad.but b28
    walk_at "rds"
    obtain ⟨_, ⟨_, hqb⟩, _, _⟩ := id hD
    have tb := tabs_but B28 hqb hT
    have dR := D28
    refine ⟨tb, fun X x t => ?_⟩
    refine ⟨_, _, ?_, fun _ _ h => h, fun _ _ _ h => h⟩
    walk_at "rds"
    refine ⟨q, _, _, rfl, any_ext w_none x, any_ext w_odd x, fun _ => ?_, fun cl2 e1 e2 => (by cases f_none.symm.trans e2)⟩
    intro d hd
    refine ⟨_, d, "clock", _, rfl, rfl, upd_same, by simp, fun G101 p101 s hp ep101 => ?_⟩
    have y := ext_same (ext_neu x hd) s
    replace tb := tabs_same (tabs_same t (same_neu (Same.refl _) hd)) s
    replace w_none := any_ext w_none y
    replace w_odd := any_ext w_odd y
    replace w_far := any_ext w_far y
    replace w_bad := row_ext w_bad y
    replace dR := dr_ext dR y
    clear y s hp hd x t
    walk_at "rds"
    refine ⟨tb, fun X x t => ?_⟩
    refine ⟨_, _, ?_, fun _ _ h => h, fun _ _ _ h => h⟩
    walk_at "rds"
    refine ⟨q, _, _, rfl, .num _, any_ext w_odd x, fun e => (by cases e.symm.trans hck), fun cl2 e1 e2 => ?_⟩
    cases e1
    refine ⟨fun _ => ?_, fun i ei => by rw [ei] at f_odd; cases f_odd⟩
    intro d hd
    refine ⟨_, d, "number", _, rfl, rfl, upd_same, by simp, fun G102 p102 s hp ep102 => ?_⟩
    have y := ext_same (ext_neu x hd) s
    replace tb := tabs_same (tabs_same t (same_neu (Same.refl _) hd)) s
    replace w_none := any_ext w_none y
    replace w_odd := any_ext w_odd y
    replace w_far := any_ext w_far y
    replace w_bad := row_ext w_bad y
    replace dR := dr_ext dR y
    replace ep101 := y _ _ ep101 (fun _ z => by cases z)
    clear y s hp hd x t
    walk_at "rds"
    refine ⟨tb, fun X x t => ?_⟩
    refine ⟨_, _, ?_, fun _ _ h => h, fun _ _ _ h => h⟩
    walk_at "rds"
    refine ⟨q, _, _, rfl, any_ext w_none x, any_ext w_far x, fun _ => ?_, fun cl2 e1 e2 => (by cases f_none.symm.trans e2)⟩
    intro d hd
    refine ⟨_, d, "clock", _, rfl, rfl, upd_same, by simp, fun G103 p103 s hp ep103 => ?_⟩
    have y := ext_same (ext_neu x hd) s
    replace tb := tabs_same (tabs_same t (same_neu (Same.refl _) hd)) s
    replace w_none := any_ext w_none y
    replace w_odd := any_ext w_odd y
    replace w_far := any_ext w_far y
    replace w_bad := row_ext w_bad y
    replace dR := dr_ext dR y
    replace ep101 := y _ _ ep101 (fun _ z => by cases z)
    replace ep102 := y _ _ ep102 (fun _ z => by cases z)
    clear y s hp hd x t
    walk_at "rds"
    refine ⟨len_ok rfl, fun p_l1 hp_l1 => ?_⟩
    have y := same_neu (o := HO.lst [.ref p101, .ref p102, .ref p103]) (Same.refl _) hp_l1
    generalize hG : upd _ p_l1 _ = G_l1 at y ⊢
    have l1 : G_l1 p_l1 = some (.lst [.ref p101, .ref p102, .ref p103]) := by rw [← hG]; exact upd_same
    clear hG
    replace tb := tabs_same tb y
    replace y := ExtN.of y
    replace w_none := any_ext w_none y
    replace w_odd := any_ext w_odd y
    replace w_far := any_ext w_far y
    replace w_bad := row_ext w_bad y
    replace dR := dr_ext dR y
    replace ep101 := y _ _ ep101 (fun _ z => by cases z)
    replace ep102 := y _ _ ep102 (fun _ z => by cases z)
    replace ep103 := y _ _ ep103 (fun _ z => by cases z)
    clear hp_l1 y
    walk_at "rds"
    refine ⟨tb, fun X x t => ?_⟩
    refine ⟨_, _, ?_, fun _ _ h => h, fun _ _ _ h => h⟩
    walk_at "rds"
    refine ⟨q, _, _, rfl, .num _, any_ext w_far x, fun e => (by cases e.symm.trans hck), fun cl2 e1 e2 => ?_⟩
    cases e1
    refine ⟨fun _ => ?_, fun z => (by rw [z] at f_far; cases (inB_yes (by omega) (by omega)).symm.trans f_far), fun i z i0 i1 => (by rw [z] at f_far; cases (inB_yes (by omega) (by omega)).symm.trans f_far)⟩
    intro d hd
    refine ⟨_, d, "number", _, rfl, rfl, upd_same, by simp, fun G104 p104 s hp ep104 => ?_⟩
    have y := ext_same (ext_neu x hd) s
    replace tb := tabs_same (tabs_same t (same_neu (Same.refl _) hd)) s
    replace w_none := any_ext w_none y
    replace w_odd := any_ext w_odd y
    replace w_far := any_ext w_far y
    replace w_bad := row_ext w_bad y
    replace dR := dr_ext dR y
    replace ep101 := y _ _ ep101 (fun _ z => by cases z)
    replace ep102 := y _ _ ep102 (fun _ z => by cases z)
    replace ep103 := y _ _ ep103 (fun _ z => by cases z)
    replace l1 := y _ _ l1 (fun _ z => by cases z)
    clear y s hp hd x t
    walk_at "rds"
    refine ⟨tb, fun X x t => ?_⟩
    refine ⟨_, _, ?_, fun _ _ h => h, fun _ _ _ h => h⟩
    walk_at "rds"
    refine ⟨q, _, _, rfl, .num _, .num _, fun e => (by cases e.symm.trans hck), fun cl2 e1 e2 => ?_⟩
    cases e1
    refine ⟨fun z => (by cases (inB_yes (by omega) (by omega)).symm.trans z), fun _ => ?_, fun i ei i0 i1 => (by cases ei; omega)⟩
    intro d hd
    refine ⟨_, d, "misfit", _, rfl, rfl, upd_same, by simp, fun G105 p105 s hp ep105 => ?_⟩
    have y := ext_same (ext_neu x hd) s
    replace tb := tabs_same (tabs_same t (same_neu (Same.refl _) hd)) s
    replace w_none := any_ext w_none y
    replace w_odd := any_ext w_odd y
    replace w_far := any_ext w_far y
    replace w_bad := row_ext w_bad y
    replace dR := dr_ext dR y
    replace ep101 := y _ _ ep101 (fun _ z => by cases z)
    replace ep102 := y _ _ ep102 (fun _ z => by cases z)
    replace ep103 := y _ _ ep103 (fun _ z => by cases z)
    replace l1 := y _ _ l1 (fun _ z => by cases z)
    replace ep104 := y _ _ ep104 (fun _ z => by cases z)
    clear y s hp hd x t
    walk_at "rds"
    refine ⟨tb, fun X x t => ?_⟩
    refine ⟨_, _, ?_, fun _ _ h => h, fun _ _ _ h => h⟩
    walk_at "rds"
    refine ⟨q, _, _, _, _, _, rfl, any_ext w_none x, row_ext w_bad x, row_ext w_bad x, z_bad, z_bad, fun _ => ?_, fun cl2 e1 e2 => (by cases f_none.symm.trans e2)⟩
    intro d hd
    refine ⟨_, d, "clock", _, rfl, rfl, upd_same, by simp, fun G106 p106 s hp ep106 => ?_⟩
    have y := ext_same (ext_neu x hd) s
    replace tb := tabs_same (tabs_same t (same_neu (Same.refl _) hd)) s
    replace w_none := any_ext w_none y
    replace w_odd := any_ext w_odd y
    replace w_far := any_ext w_far y
    replace w_bad := row_ext w_bad y
    replace dR := dr_ext dR y
    replace ep101 := y _ _ ep101 (fun _ z => by cases z)
    replace ep102 := y _ _ ep102 (fun _ z => by cases z)
    replace ep103 := y _ _ ep103 (fun _ z => by cases z)
    replace l1 := y _ _ l1 (fun _ z => by cases z)
    replace ep104 := y _ _ ep104 (fun _ z => by cases z)
    replace ep105 := y _ _ ep105 (fun _ z => by cases z)
    clear y s hp hd x t
    walk_at "rds"
    refine ⟨len_ok rfl, fun p_l2 hp_l2 => ?_⟩
    have y := same_neu (o := HO.lst [.ref p104, .ref p105, .ref p106]) (Same.refl _) hp_l2
    generalize hG : upd _ p_l2 _ = G_l2 at y ⊢
    have l2 : G_l2 p_l2 = some (.lst [.ref p104, .ref p105, .ref p106]) := by rw [← hG]; exact upd_same
    clear hG
    replace tb := tabs_same tb y
    replace y := ExtN.of y
    replace w_none := any_ext w_none y
    replace w_odd := any_ext w_odd y
    replace w_far := any_ext w_far y
    replace w_bad := row_ext w_bad y
    replace dR := dr_ext dR y
    replace ep101 := y _ _ ep101 (fun _ z => by cases z)
    replace ep102 := y _ _ ep102 (fun _ z => by cases z)
    replace ep103 := y _ _ ep103 (fun _ z => by cases z)
    replace l1 := y _ _ l1 (fun _ z => by cases z)
    replace ep104 := y _ _ ep104 (fun _ z => by cases z)
    replace ep105 := y _ _ ep105 (fun _ z => by cases z)
    replace ep106 := y _ _ ep106 (fun _ z => by cases z)
    clear hp_l2 y
    walk_at "rds"
    refine ⟨_, _, _, _, rfl, rfl, l1, l2, len_ok rfl, fun p_l3 hp_l3 => ?_⟩
    rw [show ([.ref p101, .ref p102, .ref p103] : List V) ++ [.ref p104, .ref p105, .ref p106] = [.ref p101, .ref p102, .ref p103, .ref p104, .ref p105, .ref p106] from rfl]
    have y := same_neu (o := HO.lst [.ref p101, .ref p102, .ref p103, .ref p104, .ref p105, .ref p106]) (Same.refl _) hp_l3
    generalize hG : upd _ p_l3 _ = G_l3 at y ⊢
    have l3 : G_l3 p_l3 = some (.lst [.ref p101, .ref p102, .ref p103, .ref p104, .ref p105, .ref p106]) := by rw [← hG]; exact upd_same
    clear hG
    replace tb := tabs_same tb y
    replace y := ExtN.of y
    replace w_none := any_ext w_none y
    replace w_odd := any_ext w_odd y
    replace w_far := any_ext w_far y
    replace w_bad := row_ext w_bad y
    replace dR := dr_ext dR y
    replace ep101 := y _ _ ep101 (fun _ z => by cases z)
    replace ep102 := y _ _ ep102 (fun _ z => by cases z)
    replace ep103 := y _ _ ep103 (fun _ z => by cases z)
    replace l1 := y _ _ l1 (fun _ z => by cases z)
    replace ep104 := y _ _ ep104 (fun _ z => by cases z)
    replace ep105 := y _ _ ep105 (fun _ z => by cases z)
    replace ep106 := y _ _ ep106 (fun _ z => by cases z)
    replace l2 := y _ _ l2 (fun _ z => by cases z)
    clear hp_l3 y
    walk_at "rds"
    refine ⟨tb, fun X x t => ?_⟩
    refine ⟨_, _, ?_, fun _ _ h => h, fun _ _ _ h => h⟩
    walk_at "rds"
    refine ⟨q, _, _, _, _, _, rfl, .num _, row_ext w_bad x, row_ext w_bad x, z_bad, z_bad, fun e => (by cases e.symm.trans hck), fun cl2 e1 e2 H2 s2 => ?_⟩
    cases e1
    refine ⟨fun _ => ?_, fun z => (by cases f_bad.symm.trans z)⟩
    intro d hd
    refine ⟨_, d, "row", _, rfl, rfl, upd_same, by simp, fun G107 p107 s hp ep107 => ?_⟩
    have y := ext_same (ext_neu (ext_same x s2) hd) s
    replace tb := tabs_same (tabs_same (tabs_same t s2) (same_neu (Same.refl _) hd)) s
    replace w_none := any_ext w_none y
    replace w_odd := any_ext w_odd y
    replace w_far := any_ext w_far y
    replace w_bad := row_ext w_bad y
    replace dR := dr_ext dR y
    replace ep101 := y _ _ ep101 (fun _ z => by cases z)
    replace ep102 := y _ _ ep102 (fun _ z => by cases z)
    replace ep103 := y _ _ ep103 (fun _ z => by cases z)
    replace l1 := y _ _ l1 (fun _ z => by cases z)
    replace ep104 := y _ _ ep104 (fun _ z => by cases z)
    replace ep105 := y _ _ ep105 (fun _ z => by cases z)
    replace ep106 := y _ _ ep106 (fun _ z => by cases z)
    replace l2 := y _ _ l2 (fun _ z => by cases z)
    replace l3 := y _ _ l3 (fun _ z => by cases z)
    clear y s hp hd x t
    walk_at "rds"
    refine ⟨tb, fun X x t => ?_⟩
    refine ⟨_, _, ?_, fun _ _ h => h, fun _ _ _ h => h⟩
    walk_at "rds"
    refine ⟨len_ok rfl, fun pz hz => ?_⟩
    have nz := (dr_off (dr_ext dR x) hz).1
    walk_at "rds"
    refine ⟨q, _, _, _, some [.int 0], _, rfl, .num _, .lst nz upd_same (EachP.mem (.cons (.num _) .nil)), row_ext w_bad (ext_neu x hz), fun xs z => (by cases z; exact lt_ok rfl), z_bad, fun e => (by cases e.symm.trans hck), fun cl2 e1 e2 H2 s2 => ?_⟩
    cases e1
    refine ⟨fun z => (by cases (rowOk_zero h3).symm.trans z), fun _ => ⟨fun _ => ?_, fun z => (by cases f_bad.symm.trans z)⟩⟩
    intro d hd
    refine ⟨_, d, "row", _, rfl, rfl, upd_same, by simp, fun G108 p108 s hp ep108 => ?_⟩
    have y := ext_same (ext_neu (ext_same (ext_neu x hz) s2) hd) s
    replace tb := tabs_same (tabs_same (tabs_same (tabs_same t (same_neu (Same.refl _) hz)) s2) (same_neu (Same.refl _) hd)) s
    replace w_none := any_ext w_none y
    replace w_odd := any_ext w_odd y
    replace w_far := any_ext w_far y
    replace w_bad := row_ext w_bad y
    replace dR := dr_ext dR y
    replace ep101 := y _ _ ep101 (fun _ z => by cases z)
    replace ep102 := y _ _ ep102 (fun _ z => by cases z)
    replace ep103 := y _ _ ep103 (fun _ z => by cases z)
    replace l1 := y _ _ l1 (fun _ z => by cases z)
    replace ep104 := y _ _ ep104 (fun _ z => by cases z)
    replace ep105 := y _ _ ep105 (fun _ z => by cases z)
    replace ep106 := y _ _ ep106 (fun _ z => by cases z)
    replace l2 := y _ _ l2 (fun _ z => by cases z)
    replace l3 := y _ _ l3 (fun _ z => by cases z)
    replace ep107 := y _ _ ep107 (fun _ z => by cases z)
    clear y s hp hd x t
    walk_at "rds"
    refine ⟨tb, fun X x t => ?_⟩
    refine ⟨_, _, ?_, fun _ _ h => h, fun _ _ _ h => h⟩
    walk_at "rds"
    refine ⟨len_ok rfl, fun pz hz => ?_⟩
    have nz := (dr_off (dr_ext dR x) hz).1
    walk_at "rds"
    refine ⟨len_ok rfl, fun pw hw => ?_⟩
    have nw := (dr_off (dr_ext dR (ext_neu x hz)) hw).1
    walk_at "rds"
    refine ⟨q, _, _, _, some [.int 0], some [.int 0, .int 0], rfl, .num _, .lst nz (by rw [upd_ne (ne_of_none upd_same hw)]; exact upd_same) (EachP.mem (.cons (.num _) .nil)), .lst nw upd_same (EachP.mem (.cons (.num _) (.cons (.num _) .nil))), fun xs z => (by cases z; exact lt_ok rfl), fun xs z => (by cases z; exact lt_ok rfl), fun e => (by cases e.symm.trans hck), fun cl2 e1 e2 H2 s2 => ?_⟩
    cases e1
    refine ⟨fun z => (by cases (rowOk_zero h3).symm.trans z), fun _ => ⟨fun z => (by cases (rowOk_two h3).symm.trans z), fun _ xs ys ex ey => ⟨fun _ => ?_, fun z => (by cases ex; cases ey; cases z)⟩⟩⟩
    intro d hd
    refine ⟨_, d, "misfit", _, rfl, rfl, upd_same, by simp, fun G109 p109 s hp ep109 => ?_⟩
    have y := ext_same (ext_neu (ext_same (ext_neu (ext_neu x hz) hw) s2) hd) s
    replace tb := tabs_same (tabs_same (tabs_same (tabs_same (tabs_same t (same_neu (Same.refl _) hz)) (same_neu (Same.refl _) hw)) s2) (same_neu (Same.refl _) hd)) s
    replace w_none := any_ext w_none y
    replace w_odd := any_ext w_odd y
    replace w_far := any_ext w_far y
    replace w_bad := row_ext w_bad y
    replace dR := dr_ext dR y
    replace ep101 := y _ _ ep101 (fun _ z => by cases z)
    replace ep102 := y _ _ ep102 (fun _ z => by cases z)
    replace ep103 := y _ _ ep103 (fun _ z => by cases z)
    replace l1 := y _ _ l1 (fun _ z => by cases z)
    replace ep104 := y _ _ ep104 (fun _ z => by cases z)
    replace ep105 := y _ _ ep105 (fun _ z => by cases z)
    replace ep106 := y _ _ ep106 (fun _ z => by cases z)
    replace l2 := y _ _ l2 (fun _ z => by cases z)
    replace l3 := y _ _ l3 (fun _ z => by cases z)
    replace ep107 := y _ _ ep107 (fun _ z => by cases z)
    replace ep108 := y _ _ ep108 (fun _ z => by cases z)
    clear y s hp hd x t
    walk_at "rds"
    refine ⟨len_ok rfl, fun p_l4 hp_l4 => ?_⟩
    have y := same_neu (o := HO.lst [.ref p107, .ref p108, .ref p109]) (Same.refl _) hp_l4
    generalize hG : upd _ p_l4 _ = G_l4 at y ⊢
    have l4 : G_l4 p_l4 = some (.lst [.ref p107, .ref p108, .ref p109]) := by rw [← hG]; exact upd_same
    clear hG
    replace tb := tabs_same tb y
    replace y := ExtN.of y
    replace w_none := any_ext w_none y
    replace w_odd := any_ext w_odd y
    replace w_far := any_ext w_far y
    replace w_bad := row_ext w_bad y
    replace dR := dr_ext dR y
    replace ep101 := y _ _ ep101 (fun _ z => by cases z)
    replace ep102 := y _ _ ep102 (fun _ z => by cases z)
    replace ep103 := y _ _ ep103 (fun _ z => by cases z)
    replace l1 := y _ _ l1 (fun _ z => by cases z)
    replace ep104 := y _ _ ep104 (fun _ z => by cases z)
    replace ep105 := y _ _ ep105 (fun _ z => by cases z)
    replace ep106 := y _ _ ep106 (fun _ z => by cases z)
    replace l2 := y _ _ l2 (fun _ z => by cases z)
    replace l3 := y _ _ l3 (fun _ z => by cases z)
    replace ep107 := y _ _ ep107 (fun _ z => by cases z)
    replace ep108 := y _ _ ep108 (fun _ z => by cases z)
    replace ep109 := y _ _ ep109 (fun _ z => by cases z)
    clear hp_l4 y
    walk_at "rds"
    refine ⟨_, _, _, _, rfl, rfl, l3, l4, len_ok rfl, fun p_l5 hp_l5 => ?_⟩
    rw [show ([.ref p101, .ref p102, .ref p103, .ref p104, .ref p105, .ref p106] : List V) ++ [.ref p107, .ref p108, .ref p109] = [.ref p101, .ref p102, .ref p103, .ref p104, .ref p105, .ref p106, .ref p107, .ref p108, .ref p109] from rfl]
    have y := same_neu (o := HO.lst [.ref p101, .ref p102, .ref p103, .ref p104, .ref p105, .ref p106, .ref p107, .ref p108, .ref p109]) (Same.refl _) hp_l5
    generalize hG : upd _ p_l5 _ = G_l5 at y ⊢
    have l5 : G_l5 p_l5 = some (.lst [.ref p101, .ref p102, .ref p103, .ref p104, .ref p105, .ref p106, .ref p107, .ref p108, .ref p109]) := by rw [← hG]; exact upd_same
    clear hG
    replace tb := tabs_same tb y
    replace y := ExtN.of y
    replace w_none := any_ext w_none y
    replace w_odd := any_ext w_odd y
    replace w_far := any_ext w_far y
    replace w_bad := row_ext w_bad y
    replace dR := dr_ext dR y
    replace ep101 := y _ _ ep101 (fun _ z => by cases z)
    replace ep102 := y _ _ ep102 (fun _ z => by cases z)
    replace ep103 := y _ _ ep103 (fun _ z => by cases z)
    replace l1 := y _ _ l1 (fun _ z => by cases z)
    replace ep104 := y _ _ ep104 (fun _ z => by cases z)
    replace ep105 := y _ _ ep105 (fun _ z => by cases z)
    replace ep106 := y _ _ ep106 (fun _ z => by cases z)
    replace l2 := y _ _ l2 (fun _ z => by cases z)
    replace l3 := y _ _ l3 (fun _ z => by cases z)
    replace ep107 := y _ _ ep107 (fun _ z => by cases z)
    replace ep108 := y _ _ ep108 (fun _ z => by cases z)
    replace ep109 := y _ _ ep109 (fun _ z => by cases z)
    replace l4 := y _ _ l4 (fun _ z => by cases z)
    clear hp_l5 y
    walk_at "rds"
    refine ⟨tb, fun X x t => ?_⟩
    refine ⟨_, _, ?_, fun _ _ h => h, fun _ _ _ h => h⟩
    walk_at "rds"
    refine ⟨q, _, _, _, _, rfl, any_ext w_none x, any_ext w_far x, row_ext w_bad x, z_bad, fun _ => ?_, fun cl2 e1 e2 => (by cases f_none.symm.trans e2)⟩
    intro d hd
    refine ⟨_, d, "clock", _, rfl, rfl, upd_same, by simp, fun G110 p110 s hp ep110 => ?_⟩
    have y := ext_same (ext_neu x hd) s
    replace tb := tabs_same (tabs_same t (same_neu (Same.refl _) hd)) s
    replace w_none := any_ext w_none y
    replace w_odd := any_ext w_odd y
    replace w_far := any_ext w_far y
    replace w_bad := row_ext w_bad y
    replace dR := dr_ext dR y
    replace ep101 := y _ _ ep101 (fun _ z => by cases z)
    replace ep102 := y _ _ ep102 (fun _ z => by cases z)
    replace ep103 := y _ _ ep103 (fun _ z => by cases z)
    replace l1 := y _ _ l1 (fun _ z => by cases z)
    replace ep104 := y _ _ ep104 (fun _ z => by cases z)
    replace ep105 := y _ _ ep105 (fun _ z => by cases z)
    replace ep106 := y _ _ ep106 (fun _ z => by cases z)
    replace l2 := y _ _ l2 (fun _ z => by cases z)
    replace l3 := y _ _ l3 (fun _ z => by cases z)
    replace ep107 := y _ _ ep107 (fun _ z => by cases z)
    replace ep108 := y _ _ ep108 (fun _ z => by cases z)
    replace ep109 := y _ _ ep109 (fun _ z => by cases z)
    replace l4 := y _ _ l4 (fun _ z => by cases z)
    replace l5 := y _ _ l5 (fun _ z => by cases z)
    clear y s hp hd x t
    walk_at "rds"
    refine ⟨tb, fun X x t => ?_⟩
    refine ⟨_, _, ?_, fun _ _ h => h, fun _ _ _ h => h⟩
    walk_at "rds"
    refine ⟨q, _, _, _, _, rfl, .num _, any_ext w_far x, row_ext w_bad x, z_bad, fun e => (by cases e.symm.trans hck), fun cl2 e1 e2 => ?_⟩
    cases e1
    refine ⟨fun _ => ?_, fun z => (by cases f_far.symm.trans z)⟩
    intro d hd
    refine ⟨_, d, "number", _, rfl, rfl, upd_same, by simp, fun G111 p111 s hp ep111 => ?_⟩
    have y := ext_same (ext_neu x hd) s
    replace tb := tabs_same (tabs_same t (same_neu (Same.refl _) hd)) s
    replace w_none := any_ext w_none y
    replace w_odd := any_ext w_odd y
    replace w_far := any_ext w_far y
    replace w_bad := row_ext w_bad y
    replace dR := dr_ext dR y
    replace ep101 := y _ _ ep101 (fun _ z => by cases z)
    replace ep102 := y _ _ ep102 (fun _ z => by cases z)
    replace ep103 := y _ _ ep103 (fun _ z => by cases z)
    replace l1 := y _ _ l1 (fun _ z => by cases z)
    replace ep104 := y _ _ ep104 (fun _ z => by cases z)
    replace ep105 := y _ _ ep105 (fun _ z => by cases z)
    replace ep106 := y _ _ ep106 (fun _ z => by cases z)
    replace l2 := y _ _ l2 (fun _ z => by cases z)
    replace l3 := y _ _ l3 (fun _ z => by cases z)
    replace ep107 := y _ _ ep107 (fun _ z => by cases z)
    replace ep108 := y _ _ ep108 (fun _ z => by cases z)
    replace ep109 := y _ _ ep109 (fun _ z => by cases z)
    replace l4 := y _ _ l4 (fun _ z => by cases z)
    replace l5 := y _ _ l5 (fun _ z => by cases z)
    replace ep110 := y _ _ ep110 (fun _ z => by cases z)
    clear y s hp hd x t
    walk_at "rds"
    refine ⟨tb, fun X x t => ?_⟩
    refine ⟨_, _, ?_, fun _ _ h => h, fun _ _ _ h => h⟩
    walk_at "rds"
    refine ⟨q, _, _, _, _, rfl, .num _, .num _, row_ext w_bad x, z_bad, fun e => (by cases e.symm.trans hck), fun cl2 e1 e2 => ?_⟩
    cases e1
    refine ⟨fun z => (by cases (inB_yes (by omega) (by omega)).symm.trans z), fun _ H2 s2 => ⟨fun _ => ?_, fun z => (by cases f_bad.symm.trans z)⟩⟩
    intro d hd
    refine ⟨_, d, "row", _, rfl, rfl, upd_same, by simp, fun G112 p112 s hp ep112 => ?_⟩
    have y := ext_same (ext_neu (ext_same x s2) hd) s
    replace tb := tabs_same (tabs_same (tabs_same t s2) (same_neu (Same.refl _) hd)) s
    replace w_none := any_ext w_none y
    replace w_odd := any_ext w_odd y
    replace w_far := any_ext w_far y
    replace w_bad := row_ext w_bad y
    replace dR := dr_ext dR y
    replace ep101 := y _ _ ep101 (fun _ z => by cases z)
    replace ep102 := y _ _ ep102 (fun _ z => by cases z)
    replace ep103 := y _ _ ep103 (fun _ z => by cases z)
    replace l1 := y _ _ l1 (fun _ z => by cases z)
    replace ep104 := y _ _ ep104 (fun _ z => by cases z)
    replace ep105 := y _ _ ep105 (fun _ z => by cases z)
    replace ep106 := y _ _ ep106 (fun _ z => by cases z)
    replace l2 := y _ _ l2 (fun _ z => by cases z)
    replace l3 := y _ _ l3 (fun _ z => by cases z)
    replace ep107 := y _ _ ep107 (fun _ z => by cases z)
    replace ep108 := y _ _ ep108 (fun _ z => by cases z)
    replace ep109 := y _ _ ep109 (fun _ z => by cases z)
    replace l4 := y _ _ l4 (fun _ z => by cases z)
    replace l5 := y _ _ l5 (fun _ z => by cases z)
    replace ep110 := y _ _ ep110 (fun _ z => by cases z)
    replace ep111 := y _ _ ep111 (fun _ z => by cases z)
    clear y s hp hd x t
    walk_at "rds"
    refine ⟨len_ok rfl, fun p_l6 hp_l6 => ?_⟩
    have y := same_neu (o := HO.lst [.ref p110, .ref p111, .ref p112]) (Same.refl _) hp_l6
    generalize hG : upd _ p_l6 _ = G_l6 at y ⊢
    have l6 : G_l6 p_l6 = some (.lst [.ref p110, .ref p111, .ref p112]) := by rw [← hG]; exact upd_same
    clear hG
    replace tb := tabs_same tb y
    replace y := ExtN.of y
    replace w_none := any_ext w_none y
    replace w_odd := any_ext w_odd y
    replace w_far := any_ext w_far y
    replace w_bad := row_ext w_bad y
    replace dR := dr_ext dR y
    replace ep101 := y _ _ ep101 (fun _ z => by cases z)
    replace ep102 := y _ _ ep102 (fun _ z => by cases z)
    replace ep103 := y _ _ ep103 (fun _ z => by cases z)
    replace l1 := y _ _ l1 (fun _ z => by cases z)
    replace ep104 := y _ _ ep104 (fun _ z => by cases z)
    replace ep105 := y _ _ ep105 (fun _ z => by cases z)
    replace ep106 := y _ _ ep106 (fun _ z => by cases z)
    replace l2 := y _ _ l2 (fun _ z => by cases z)
    replace l3 := y _ _ l3 (fun _ z => by cases z)
    replace ep107 := y _ _ ep107 (fun _ z => by cases z)
    replace ep108 := y _ _ ep108 (fun _ z => by cases z)
    replace ep109 := y _ _ ep109 (fun _ z => by cases z)
    replace l4 := y _ _ l4 (fun _ z => by cases z)
    replace l5 := y _ _ l5 (fun _ z => by cases z)
    replace ep110 := y _ _ ep110 (fun _ z => by cases z)
    replace ep111 := y _ _ ep111 (fun _ z => by cases z)
    replace ep112 := y _ _ ep112 (fun _ z => by cases z)
    clear hp_l6 y
    walk_at "rds"
    refine ⟨_, _, _, _, rfl, rfl, l5, l6, len_ok rfl, fun p_l7 hp_l7 => ?_⟩
    rw [show ([.ref p101, .ref p102, .ref p103, .ref p104, .ref p105, .ref p106, .ref p107, .ref p108, .ref p109] : List V) ++ [.ref p110, .ref p111, .ref p112] = [.ref p101, .ref p102, .ref p103, .ref p104, .ref p105, .ref p106, .ref p107, .ref p108, .ref p109, .ref p110, .ref p111, .ref p112] from rfl]
    have y := same_neu (o := HO.lst [.ref p101, .ref p102, .ref p103, .ref p104, .ref p105, .ref p106, .ref p107, .ref p108, .ref p109, .ref p110, .ref p111, .ref p112]) (Same.refl _) hp_l7
    generalize hG : upd _ p_l7 _ = G_l7 at y ⊢
    have l7 : G_l7 p_l7 = some (.lst [.ref p101, .ref p102, .ref p103, .ref p104, .ref p105, .ref p106, .ref p107, .ref p108, .ref p109, .ref p110, .ref p111, .ref p112]) := by rw [← hG]; exact upd_same
    clear hG
    replace tb := tabs_same tb y
    replace y := ExtN.of y
    replace w_none := any_ext w_none y
    replace w_odd := any_ext w_odd y
    replace w_far := any_ext w_far y
    replace w_bad := row_ext w_bad y
    replace dR := dr_ext dR y
    replace ep101 := y _ _ ep101 (fun _ z => by cases z)
    replace ep102 := y _ _ ep102 (fun _ z => by cases z)
    replace ep103 := y _ _ ep103 (fun _ z => by cases z)
    replace l1 := y _ _ l1 (fun _ z => by cases z)
    replace ep104 := y _ _ ep104 (fun _ z => by cases z)
    replace ep105 := y _ _ ep105 (fun _ z => by cases z)
    replace ep106 := y _ _ ep106 (fun _ z => by cases z)
    replace l2 := y _ _ l2 (fun _ z => by cases z)
    replace l3 := y _ _ l3 (fun _ z => by cases z)
    replace ep107 := y _ _ ep107 (fun _ z => by cases z)
    replace ep108 := y _ _ ep108 (fun _ z => by cases z)
    replace ep109 := y _ _ ep109 (fun _ z => by cases z)
    replace l4 := y _ _ l4 (fun _ z => by cases z)
    replace l5 := y _ _ l5 (fun _ z => by cases z)
    replace ep110 := y _ _ ep110 (fun _ z => by cases z)
    replace ep111 := y _ _ ep111 (fun _ z => by cases z)
    replace ep112 := y _ _ ep112 (fun _ z => by cases z)
    replace l6 := y _ _ l6 (fun _ z => by cases z)
    clear hp_l7 y
    walk_at "rds"
    refine ⟨len_ok rfl, fun p_t0 hp_t0 => ?_⟩
    have y := same_neu (o := HO.tup [.str "clock", .str "clock"]) (Same.refl _) hp_t0
    generalize hG : upd _ p_t0 _ = G_t0 at y ⊢
    have t0 : G_t0 p_t0 = some (.tup [.str "clock", .str "clock"]) := by rw [← hG]; exact upd_same
    clear hG
    replace tb := tabs_same tb y
    replace y := ExtN.of y
    replace w_none := any_ext w_none y
    replace w_odd := any_ext w_odd y
    replace w_far := any_ext w_far y
    replace w_bad := row_ext w_bad y
    replace dR := dr_ext dR y
    replace ep101 := y _ _ ep101 (fun _ z => by cases z)
    replace ep102 := y _ _ ep102 (fun _ z => by cases z)
    replace ep103 := y _ _ ep103 (fun _ z => by cases z)
    replace l1 := y _ _ l1 (fun _ z => by cases z)
    replace ep104 := y _ _ ep104 (fun _ z => by cases z)
    replace ep105 := y _ _ ep105 (fun _ z => by cases z)
    replace ep106 := y _ _ ep106 (fun _ z => by cases z)
    replace l2 := y _ _ l2 (fun _ z => by cases z)
    replace l3 := y _ _ l3 (fun _ z => by cases z)
    replace ep107 := y _ _ ep107 (fun _ z => by cases z)
    replace ep108 := y _ _ ep108 (fun _ z => by cases z)
    replace ep109 := y _ _ ep109 (fun _ z => by cases z)
    replace l4 := y _ _ l4 (fun _ z => by cases z)
    replace l5 := y _ _ l5 (fun _ z => by cases z)
    replace ep110 := y _ _ ep110 (fun _ z => by cases z)
    replace ep111 := y _ _ ep111 (fun _ z => by cases z)
    replace ep112 := y _ _ ep112 (fun _ z => by cases z)
    replace l6 := y _ _ l6 (fun _ z => by cases z)
    replace l7 := y _ _ l7 (fun _ z => by cases z)
    clear hp_t0 y
    walk_at "rds"
    refine ⟨len_ok rfl, fun p_t1 hp_t1 => ?_⟩
    have y := same_neu (o := HO.tup [.str "number", .str "value"]) (Same.refl _) hp_t1
    generalize hG : upd _ p_t1 _ = G_t1 at y ⊢
    have t1 : G_t1 p_t1 = some (.tup [.str "number", .str "value"]) := by rw [← hG]; exact upd_same
    clear hG
    replace tb := tabs_same tb y
    replace y := ExtN.of y
    replace w_none := any_ext w_none y
    replace w_odd := any_ext w_odd y
    replace w_far := any_ext w_far y
    replace w_bad := row_ext w_bad y
    replace dR := dr_ext dR y
    replace ep101 := y _ _ ep101 (fun _ z => by cases z)
    replace ep102 := y _ _ ep102 (fun _ z => by cases z)
    replace ep103 := y _ _ ep103 (fun _ z => by cases z)
    replace l1 := y _ _ l1 (fun _ z => by cases z)
    replace ep104 := y _ _ ep104 (fun _ z => by cases z)
    replace ep105 := y _ _ ep105 (fun _ z => by cases z)
    replace ep106 := y _ _ ep106 (fun _ z => by cases z)
    replace l2 := y _ _ l2 (fun _ z => by cases z)
    replace l3 := y _ _ l3 (fun _ z => by cases z)
    replace ep107 := y _ _ ep107 (fun _ z => by cases z)
    replace ep108 := y _ _ ep108 (fun _ z => by cases z)
    replace ep109 := y _ _ ep109 (fun _ z => by cases z)
    replace l4 := y _ _ l4 (fun _ z => by cases z)
    replace l5 := y _ _ l5 (fun _ z => by cases z)
    replace ep110 := y _ _ ep110 (fun _ z => by cases z)
    replace ep111 := y _ _ ep111 (fun _ z => by cases z)
    replace ep112 := y _ _ ep112 (fun _ z => by cases z)
    replace l6 := y _ _ l6 (fun _ z => by cases z)
    replace l7 := y _ _ l7 (fun _ z => by cases z)
    replace t0 := y _ _ t0 (fun _ z => by cases z)
    clear hp_t1 y
    walk_at "rds"
    refine ⟨len_ok rfl, fun p_t2 hp_t2 => ?_⟩
    have y := same_neu (o := HO.tup [.str "clock", .str "clock"]) (Same.refl _) hp_t2
    generalize hG : upd _ p_t2 _ = G_t2 at y ⊢
    have t2 : G_t2 p_t2 = some (.tup [.str "clock", .str "clock"]) := by rw [← hG]; exact upd_same
    clear hG
    replace tb := tabs_same tb y
    replace y := ExtN.of y
    replace w_none := any_ext w_none y
    replace w_odd := any_ext w_odd y
    replace w_far := any_ext w_far y
    replace w_bad := row_ext w_bad y
    replace dR := dr_ext dR y
    replace ep101 := y _ _ ep101 (fun _ z => by cases z)
    replace ep102 := y _ _ ep102 (fun _ z => by cases z)
    replace ep103 := y _ _ ep103 (fun _ z => by cases z)
    replace l1 := y _ _ l1 (fun _ z => by cases z)
    replace ep104 := y _ _ ep104 (fun _ z => by cases z)
    replace ep105 := y _ _ ep105 (fun _ z => by cases z)
    replace ep106 := y _ _ ep106 (fun _ z => by cases z)
    replace l2 := y _ _ l2 (fun _ z => by cases z)
    replace l3 := y _ _ l3 (fun _ z => by cases z)
    replace ep107 := y _ _ ep107 (fun _ z => by cases z)
    replace ep108 := y _ _ ep108 (fun _ z => by cases z)
    replace ep109 := y _ _ ep109 (fun _ z => by cases z)
    replace l4 := y _ _ l4 (fun _ z => by cases z)
    replace l5 := y _ _ l5 (fun _ z => by cases z)
    replace ep110 := y _ _ ep110 (fun _ z => by cases z)
    replace ep111 := y _ _ ep111 (fun _ z => by cases z)
    replace ep112 := y _ _ ep112 (fun _ z => by cases z)
    replace l6 := y _ _ l6 (fun _ z => by cases z)
    replace l7 := y _ _ l7 (fun _ z => by cases z)
    replace t0 := y _ _ t0 (fun _ z => by cases z)
    replace t1 := y _ _ t1 (fun _ z => by cases z)
    clear hp_t2 y
    walk_at "rds"
    refine ⟨len_ok rfl, fun p_t3 hp_t3 => ?_⟩
    have y := same_neu (o := HO.tup [.str "number", .str "number"]) (Same.refl _) hp_t3
    generalize hG : upd _ p_t3 _ = G_t3 at y ⊢
    have t3 : G_t3 p_t3 = some (.tup [.str "number", .str "number"]) := by rw [← hG]; exact upd_same
    clear hG
    replace tb := tabs_same tb y
    replace y := ExtN.of y
    replace w_none := any_ext w_none y
    replace w_odd := any_ext w_odd y
    replace w_far := any_ext w_far y
    replace w_bad := row_ext w_bad y
    replace dR := dr_ext dR y
    replace ep101 := y _ _ ep101 (fun _ z => by cases z)
    replace ep102 := y _ _ ep102 (fun _ z => by cases z)
    replace ep103 := y _ _ ep103 (fun _ z => by cases z)
    replace l1 := y _ _ l1 (fun _ z => by cases z)
    replace ep104 := y _ _ ep104 (fun _ z => by cases z)
    replace ep105 := y _ _ ep105 (fun _ z => by cases z)
    replace ep106 := y _ _ ep106 (fun _ z => by cases z)
    replace l2 := y _ _ l2 (fun _ z => by cases z)
    replace l3 := y _ _ l3 (fun _ z => by cases z)
    replace ep107 := y _ _ ep107 (fun _ z => by cases z)
    replace ep108 := y _ _ ep108 (fun _ z => by cases z)
    replace ep109 := y _ _ ep109 (fun _ z => by cases z)
    replace l4 := y _ _ l4 (fun _ z => by cases z)
    replace l5 := y _ _ l5 (fun _ z => by cases z)
    replace ep110 := y _ _ ep110 (fun _ z => by cases z)
    replace ep111 := y _ _ ep111 (fun _ z => by cases z)
    replace ep112 := y _ _ ep112 (fun _ z => by cases z)
    replace l6 := y _ _ l6 (fun _ z => by cases z)
    replace l7 := y _ _ l7 (fun _ z => by cases z)
    replace t0 := y _ _ t0 (fun _ z => by cases z)
    replace t1 := y _ _ t1 (fun _ z => by cases z)
    replace t2 := y _ _ t2 (fun _ z => by cases z)
    clear hp_t3 y
    walk_at "rds"
    refine ⟨len_ok rfl, fun p_t4 hp_t4 => ?_⟩
    have y := same_neu (o := HO.tup [.str "misfit", .str "number"]) (Same.refl _) hp_t4
    generalize hG : upd _ p_t4 _ = G_t4 at y ⊢
    have t4 : G_t4 p_t4 = some (.tup [.str "misfit", .str "number"]) := by rw [← hG]; exact upd_same
    clear hG
    replace tb := tabs_same tb y
    replace y := ExtN.of y
    replace w_none := any_ext w_none y
    replace w_odd := any_ext w_odd y
    replace w_far := any_ext w_far y
    replace w_bad := row_ext w_bad y
    replace dR := dr_ext dR y
    replace ep101 := y _ _ ep101 (fun _ z => by cases z)
    replace ep102 := y _ _ ep102 (fun _ z => by cases z)
    replace ep103 := y _ _ ep103 (fun _ z => by cases z)
    replace l1 := y _ _ l1 (fun _ z => by cases z)
    replace ep104 := y _ _ ep104 (fun _ z => by cases z)
    replace ep105 := y _ _ ep105 (fun _ z => by cases z)
    replace ep106 := y _ _ ep106 (fun _ z => by cases z)
    replace l2 := y _ _ l2 (fun _ z => by cases z)
    replace l3 := y _ _ l3 (fun _ z => by cases z)
    replace ep107 := y _ _ ep107 (fun _ z => by cases z)
    replace ep108 := y _ _ ep108 (fun _ z => by cases z)
    replace ep109 := y _ _ ep109 (fun _ z => by cases z)
    replace l4 := y _ _ l4 (fun _ z => by cases z)
    replace l5 := y _ _ l5 (fun _ z => by cases z)
    replace ep110 := y _ _ ep110 (fun _ z => by cases z)
    replace ep111 := y _ _ ep111 (fun _ z => by cases z)
    replace ep112 := y _ _ ep112 (fun _ z => by cases z)
    replace l6 := y _ _ l6 (fun _ z => by cases z)
    replace l7 := y _ _ l7 (fun _ z => by cases z)
    replace t0 := y _ _ t0 (fun _ z => by cases z)
    replace t1 := y _ _ t1 (fun _ z => by cases z)
    replace t2 := y _ _ t2 (fun _ z => by cases z)
    replace t3 := y _ _ t3 (fun _ z => by cases z)
    clear hp_t4 y
    walk_at "rds"
    refine ⟨len_ok rfl, fun p_t5 hp_t5 => ?_⟩
    have y := same_neu (o := HO.tup [.str "clock", .str "clock"]) (Same.refl _) hp_t5
    generalize hG : upd _ p_t5 _ = G_t5 at y ⊢
    have t5 : G_t5 p_t5 = some (.tup [.str "clock", .str "clock"]) := by rw [← hG]; exact upd_same
    clear hG
    replace tb := tabs_same tb y
    replace y := ExtN.of y
    replace w_none := any_ext w_none y
    replace w_odd := any_ext w_odd y
    replace w_far := any_ext w_far y
    replace w_bad := row_ext w_bad y
    replace dR := dr_ext dR y
    replace ep101 := y _ _ ep101 (fun _ z => by cases z)
    replace ep102 := y _ _ ep102 (fun _ z => by cases z)
    replace ep103 := y _ _ ep103 (fun _ z => by cases z)
    replace l1 := y _ _ l1 (fun _ z => by cases z)
    replace ep104 := y _ _ ep104 (fun _ z => by cases z)
    replace ep105 := y _ _ ep105 (fun _ z => by cases z)
    replace ep106 := y _ _ ep106 (fun _ z => by cases z)
    replace l2 := y _ _ l2 (fun _ z => by cases z)
    replace l3 := y _ _ l3 (fun _ z => by cases z)
    replace ep107 := y _ _ ep107 (fun _ z => by cases z)
    replace ep108 := y _ _ ep108 (fun _ z => by cases z)
    replace ep109 := y _ _ ep109 (fun _ z => by cases z)
    replace l4 := y _ _ l4 (fun _ z => by cases z)
    replace l5 := y _ _ l5 (fun _ z => by cases z)
    replace ep110 := y _ _ ep110 (fun _ z => by cases z)
    replace ep111 := y _ _ ep111 (fun _ z => by cases z)
    replace ep112 := y _ _ ep112 (fun _ z => by cases z)
    replace l6 := y _ _ l6 (fun _ z => by cases z)
    replace l7 := y _ _ l7 (fun _ z => by cases z)
    replace t0 := y _ _ t0 (fun _ z => by cases z)
    replace t1 := y _ _ t1 (fun _ z => by cases z)
    replace t2 := y _ _ t2 (fun _ z => by cases z)
    replace t3 := y _ _ t3 (fun _ z => by cases z)
    replace t4 := y _ _ t4 (fun _ z => by cases z)
    clear hp_t5 y
    walk_at "rds"
    refine ⟨len_ok rfl, fun p_t6 hp_t6 => ?_⟩
    have y := same_neu (o := HO.tup [.str "row", .str "one"]) (Same.refl _) hp_t6
    generalize hG : upd _ p_t6 _ = G_t6 at y ⊢
    have t6 : G_t6 p_t6 = some (.tup [.str "row", .str "one"]) := by rw [← hG]; exact upd_same
    clear hG
    replace tb := tabs_same tb y
    replace y := ExtN.of y
    replace w_none := any_ext w_none y
    replace w_odd := any_ext w_odd y
    replace w_far := any_ext w_far y
    replace w_bad := row_ext w_bad y
    replace dR := dr_ext dR y
    replace ep101 := y _ _ ep101 (fun _ z => by cases z)
    replace ep102 := y _ _ ep102 (fun _ z => by cases z)
    replace ep103 := y _ _ ep103 (fun _ z => by cases z)
    replace l1 := y _ _ l1 (fun _ z => by cases z)
    replace ep104 := y _ _ ep104 (fun _ z => by cases z)
    replace ep105 := y _ _ ep105 (fun _ z => by cases z)
    replace ep106 := y _ _ ep106 (fun _ z => by cases z)
    replace l2 := y _ _ l2 (fun _ z => by cases z)
    replace l3 := y _ _ l3 (fun _ z => by cases z)
    replace ep107 := y _ _ ep107 (fun _ z => by cases z)
    replace ep108 := y _ _ ep108 (fun _ z => by cases z)
    replace ep109 := y _ _ ep109 (fun _ z => by cases z)
    replace l4 := y _ _ l4 (fun _ z => by cases z)
    replace l5 := y _ _ l5 (fun _ z => by cases z)
    replace ep110 := y _ _ ep110 (fun _ z => by cases z)
    replace ep111 := y _ _ ep111 (fun _ z => by cases z)
    replace ep112 := y _ _ ep112 (fun _ z => by cases z)
    replace l6 := y _ _ l6 (fun _ z => by cases z)
    replace l7 := y _ _ l7 (fun _ z => by cases z)
    replace t0 := y _ _ t0 (fun _ z => by cases z)
    replace t1 := y _ _ t1 (fun _ z => by cases z)
    replace t2 := y _ _ t2 (fun _ z => by cases z)
    replace t3 := y _ _ t3 (fun _ z => by cases z)
    replace t4 := y _ _ t4 (fun _ z => by cases z)
    replace t5 := y _ _ t5 (fun _ z => by cases z)
    clear hp_t6 y
    walk_at "rds"
    refine ⟨len_ok rfl, fun p_t7 hp_t7 => ?_⟩
    have y := same_neu (o := HO.tup [.str "row", .str "other"]) (Same.refl _) hp_t7
    generalize hG : upd _ p_t7 _ = G_t7 at y ⊢
    have t7 : G_t7 p_t7 = some (.tup [.str "row", .str "other"]) := by rw [← hG]; exact upd_same
    clear hG
    replace tb := tabs_same tb y
    replace y := ExtN.of y
    replace w_none := any_ext w_none y
    replace w_odd := any_ext w_odd y
    replace w_far := any_ext w_far y
    replace w_bad := row_ext w_bad y
    replace dR := dr_ext dR y
    replace ep101 := y _ _ ep101 (fun _ z => by cases z)
    replace ep102 := y _ _ ep102 (fun _ z => by cases z)
    replace ep103 := y _ _ ep103 (fun _ z => by cases z)
    replace l1 := y _ _ l1 (fun _ z => by cases z)
    replace ep104 := y _ _ ep104 (fun _ z => by cases z)
    replace ep105 := y _ _ ep105 (fun _ z => by cases z)
    replace ep106 := y _ _ ep106 (fun _ z => by cases z)
    replace l2 := y _ _ l2 (fun _ z => by cases z)
    replace l3 := y _ _ l3 (fun _ z => by cases z)
    replace ep107 := y _ _ ep107 (fun _ z => by cases z)
    replace ep108 := y _ _ ep108 (fun _ z => by cases z)
    replace ep109 := y _ _ ep109 (fun _ z => by cases z)
    replace l4 := y _ _ l4 (fun _ z => by cases z)
    replace l5 := y _ _ l5 (fun _ z => by cases z)
    replace ep110 := y _ _ ep110 (fun _ z => by cases z)
    replace ep111 := y _ _ ep111 (fun _ z => by cases z)
    replace ep112 := y _ _ ep112 (fun _ z => by cases z)
    replace l6 := y _ _ l6 (fun _ z => by cases z)
    replace l7 := y _ _ l7 (fun _ z => by cases z)
    replace t0 := y _ _ t0 (fun _ z => by cases z)
    replace t1 := y _ _ t1 (fun _ z => by cases z)
    replace t2 := y _ _ t2 (fun _ z => by cases z)
    replace t3 := y _ _ t3 (fun _ z => by cases z)
    replace t4 := y _ _ t4 (fun _ z => by cases z)
    replace t5 := y _ _ t5 (fun _ z => by cases z)
    replace t6 := y _ _ t6 (fun _ z => by cases z)
    clear hp_t7 y
    walk_at "rds"
    refine ⟨len_ok rfl, fun p_u1 hp_u1 => ?_⟩
    have y := same_neu (o := HO.lst [.ref p_t0, .ref p_t1, .ref p_t2, .ref p_t3, .ref p_t4, .ref p_t5, .ref p_t6, .ref p_t7]) (Same.refl _) hp_u1
    generalize hG : upd _ p_u1 _ = G_u1 at y ⊢
    have u1 : G_u1 p_u1 = some (.lst [.ref p_t0, .ref p_t1, .ref p_t2, .ref p_t3, .ref p_t4, .ref p_t5, .ref p_t6, .ref p_t7]) := by rw [← hG]; exact upd_same
    clear hG
    replace tb := tabs_same tb y
    replace y := ExtN.of y
    replace w_none := any_ext w_none y
    replace w_odd := any_ext w_odd y
    replace w_far := any_ext w_far y
    replace w_bad := row_ext w_bad y
    replace dR := dr_ext dR y
    replace ep101 := y _ _ ep101 (fun _ z => by cases z)
    replace ep102 := y _ _ ep102 (fun _ z => by cases z)
    replace ep103 := y _ _ ep103 (fun _ z => by cases z)
    replace l1 := y _ _ l1 (fun _ z => by cases z)
    replace ep104 := y _ _ ep104 (fun _ z => by cases z)
    replace ep105 := y _ _ ep105 (fun _ z => by cases z)
    replace ep106 := y _ _ ep106 (fun _ z => by cases z)
    replace l2 := y _ _ l2 (fun _ z => by cases z)
    replace l3 := y _ _ l3 (fun _ z => by cases z)
    replace ep107 := y _ _ ep107 (fun _ z => by cases z)
    replace ep108 := y _ _ ep108 (fun _ z => by cases z)
    replace ep109 := y _ _ ep109 (fun _ z => by cases z)
    replace l4 := y _ _ l4 (fun _ z => by cases z)
    replace l5 := y _ _ l5 (fun _ z => by cases z)
    replace ep110 := y _ _ ep110 (fun _ z => by cases z)
    replace ep111 := y _ _ ep111 (fun _ z => by cases z)
    replace ep112 := y _ _ ep112 (fun _ z => by cases z)
    replace l6 := y _ _ l6 (fun _ z => by cases z)
    replace l7 := y _ _ l7 (fun _ z => by cases z)
    replace t0 := y _ _ t0 (fun _ z => by cases z)
    replace t1 := y _ _ t1 (fun _ z => by cases z)
    replace t2 := y _ _ t2 (fun _ z => by cases z)
    replace t3 := y _ _ t3 (fun _ z => by cases z)
    replace t4 := y _ _ t4 (fun _ z => by cases z)
    replace t5 := y _ _ t5 (fun _ z => by cases z)
    replace t6 := y _ _ t6 (fun _ z => by cases z)
    replace t7 := y _ _ t7 (fun _ z => by cases z)
    clear hp_u1 y
    walk_at "rds"
    refine ⟨len_ok rfl, fun p_t8 hp_t8 => ?_⟩
    have y := same_neu (o := HO.tup [.str "misfit", .str "other"]) (Same.refl _) hp_t8
    generalize hG : upd _ p_t8 _ = G_t8 at y ⊢
    have t8 : G_t8 p_t8 = some (.tup [.str "misfit", .str "other"]) := by rw [← hG]; exact upd_same
    clear hG
    replace tb := tabs_same tb y
    replace y := ExtN.of y
    replace w_none := any_ext w_none y
    replace w_odd := any_ext w_odd y
    replace w_far := any_ext w_far y
    replace w_bad := row_ext w_bad y
    replace dR := dr_ext dR y
    replace ep101 := y _ _ ep101 (fun _ z => by cases z)
    replace ep102 := y _ _ ep102 (fun _ z => by cases z)
    replace ep103 := y _ _ ep103 (fun _ z => by cases z)
    replace l1 := y _ _ l1 (fun _ z => by cases z)
    replace ep104 := y _ _ ep104 (fun _ z => by cases z)
    replace ep105 := y _ _ ep105 (fun _ z => by cases z)
    replace ep106 := y _ _ ep106 (fun _ z => by cases z)
    replace l2 := y _ _ l2 (fun _ z => by cases z)
    replace l3 := y _ _ l3 (fun _ z => by cases z)
    replace ep107 := y _ _ ep107 (fun _ z => by cases z)
    replace ep108 := y _ _ ep108 (fun _ z => by cases z)
    replace ep109 := y _ _ ep109 (fun _ z => by cases z)
    replace l4 := y _ _ l4 (fun _ z => by cases z)
    replace l5 := y _ _ l5 (fun _ z => by cases z)
    replace ep110 := y _ _ ep110 (fun _ z => by cases z)
    replace ep111 := y _ _ ep111 (fun _ z => by cases z)
    replace ep112 := y _ _ ep112 (fun _ z => by cases z)
    replace l6 := y _ _ l6 (fun _ z => by cases z)
    replace l7 := y _ _ l7 (fun _ z => by cases z)
    replace t0 := y _ _ t0 (fun _ z => by cases z)
    replace t1 := y _ _ t1 (fun _ z => by cases z)
    replace t2 := y _ _ t2 (fun _ z => by cases z)
    replace t3 := y _ _ t3 (fun _ z => by cases z)
    replace t4 := y _ _ t4 (fun _ z => by cases z)
    replace t5 := y _ _ t5 (fun _ z => by cases z)
    replace t6 := y _ _ t6 (fun _ z => by cases z)
    replace t7 := y _ _ t7 (fun _ z => by cases z)
    replace u1 := y _ _ u1 (fun _ z => by cases z)
    clear hp_t8 y
    walk_at "rds"
    refine ⟨len_ok rfl, fun p_t9 hp_t9 => ?_⟩
    have y := same_neu (o := HO.tup [.str "clock", .str "clock"]) (Same.refl _) hp_t9
    generalize hG : upd _ p_t9 _ = G_t9 at y ⊢
    have t9 : G_t9 p_t9 = some (.tup [.str "clock", .str "clock"]) := by rw [← hG]; exact upd_same
    clear hG
    replace tb := tabs_same tb y
    replace y := ExtN.of y
    replace w_none := any_ext w_none y
    replace w_odd := any_ext w_odd y
    replace w_far := any_ext w_far y
    replace w_bad := row_ext w_bad y
    replace dR := dr_ext dR y
    replace ep101 := y _ _ ep101 (fun _ z => by cases z)
    replace ep102 := y _ _ ep102 (fun _ z => by cases z)
    replace ep103 := y _ _ ep103 (fun _ z => by cases z)
    replace l1 := y _ _ l1 (fun _ z => by cases z)
    replace ep104 := y _ _ ep104 (fun _ z => by cases z)
    replace ep105 := y _ _ ep105 (fun _ z => by cases z)
    replace ep106 := y _ _ ep106 (fun _ z => by cases z)
    replace l2 := y _ _ l2 (fun _ z => by cases z)
    replace l3 := y _ _ l3 (fun _ z => by cases z)
    replace ep107 := y _ _ ep107 (fun _ z => by cases z)
    replace ep108 := y _ _ ep108 (fun _ z => by cases z)
    replace ep109 := y _ _ ep109 (fun _ z => by cases z)
    replace l4 := y _ _ l4 (fun _ z => by cases z)
    replace l5 := y _ _ l5 (fun _ z => by cases z)
    replace ep110 := y _ _ ep110 (fun _ z => by cases z)
    replace ep111 := y _ _ ep111 (fun _ z => by cases z)
    replace ep112 := y _ _ ep112 (fun _ z => by cases z)
    replace l6 := y _ _ l6 (fun _ z => by cases z)
    replace l7 := y _ _ l7 (fun _ z => by cases z)
    replace t0 := y _ _ t0 (fun _ z => by cases z)
    replace t1 := y _ _ t1 (fun _ z => by cases z)
    replace t2 := y _ _ t2 (fun _ z => by cases z)
    replace t3 := y _ _ t3 (fun _ z => by cases z)
    replace t4 := y _ _ t4 (fun _ z => by cases z)
    replace t5 := y _ _ t5 (fun _ z => by cases z)
    replace t6 := y _ _ t6 (fun _ z => by cases z)
    replace t7 := y _ _ t7 (fun _ z => by cases z)
    replace u1 := y _ _ u1 (fun _ z => by cases z)
    replace t8 := y _ _ t8 (fun _ z => by cases z)
    clear hp_t9 y
    walk_at "rds"
    refine ⟨len_ok rfl, fun p_t10 hp_t10 => ?_⟩
    have y := same_neu (o := HO.tup [.str "number", .str "number"]) (Same.refl _) hp_t10
    generalize hG : upd _ p_t10 _ = G_t10 at y ⊢
    have t10 : G_t10 p_t10 = some (.tup [.str "number", .str "number"]) := by rw [← hG]; exact upd_same
    clear hG
    replace tb := tabs_same tb y
    replace y := ExtN.of y
    replace w_none := any_ext w_none y
    replace w_odd := any_ext w_odd y
    replace w_far := any_ext w_far y
    replace w_bad := row_ext w_bad y
    replace dR := dr_ext dR y
    replace ep101 := y _ _ ep101 (fun _ z => by cases z)
    replace ep102 := y _ _ ep102 (fun _ z => by cases z)
    replace ep103 := y _ _ ep103 (fun _ z => by cases z)
    replace l1 := y _ _ l1 (fun _ z => by cases z)
    replace ep104 := y _ _ ep104 (fun _ z => by cases z)
    replace ep105 := y _ _ ep105 (fun _ z => by cases z)
    replace ep106 := y _ _ ep106 (fun _ z => by cases z)
    replace l2 := y _ _ l2 (fun _ z => by cases z)
    replace l3 := y _ _ l3 (fun _ z => by cases z)
    replace ep107 := y _ _ ep107 (fun _ z => by cases z)
    replace ep108 := y _ _ ep108 (fun _ z => by cases z)
    replace ep109 := y _ _ ep109 (fun _ z => by cases z)
    replace l4 := y _ _ l4 (fun _ z => by cases z)
    replace l5 := y _ _ l5 (fun _ z => by cases z)
    replace ep110 := y _ _ ep110 (fun _ z => by cases z)
    replace ep111 := y _ _ ep111 (fun _ z => by cases z)
    replace ep112 := y _ _ ep112 (fun _ z => by cases z)
    replace l6 := y _ _ l6 (fun _ z => by cases z)
    replace l7 := y _ _ l7 (fun _ z => by cases z)
    replace t0 := y _ _ t0 (fun _ z => by cases z)
    replace t1 := y _ _ t1 (fun _ z => by cases z)
    replace t2 := y _ _ t2 (fun _ z => by cases z)
    replace t3 := y _ _ t3 (fun _ z => by cases z)
    replace t4 := y _ _ t4 (fun _ z => by cases z)
    replace t5 := y _ _ t5 (fun _ z => by cases z)
    replace t6 := y _ _ t6 (fun _ z => by cases z)
    replace t7 := y _ _ t7 (fun _ z => by cases z)
    replace u1 := y _ _ u1 (fun _ z => by cases z)
    replace t8 := y _ _ t8 (fun _ z => by cases z)
    replace t9 := y _ _ t9 (fun _ z => by cases z)
    clear hp_t10 y
    walk_at "rds"
    refine ⟨len_ok rfl, fun p_t11 hp_t11 => ?_⟩
    have y := same_neu (o := HO.tup [.str "row", .str "row"]) (Same.refl _) hp_t11
    generalize hG : upd _ p_t11 _ = G_t11 at y ⊢
    have t11 : G_t11 p_t11 = some (.tup [.str "row", .str "row"]) := by rw [← hG]; exact upd_same
    clear hG
    replace tb := tabs_same tb y
    replace y := ExtN.of y
    replace w_none := any_ext w_none y
    replace w_odd := any_ext w_odd y
    replace w_far := any_ext w_far y
    replace w_bad := row_ext w_bad y
    replace dR := dr_ext dR y
    replace ep101 := y _ _ ep101 (fun _ z => by cases z)
    replace ep102 := y _ _ ep102 (fun _ z => by cases z)
    replace ep103 := y _ _ ep103 (fun _ z => by cases z)
    replace l1 := y _ _ l1 (fun _ z => by cases z)
    replace ep104 := y _ _ ep104 (fun _ z => by cases z)
    replace ep105 := y _ _ ep105 (fun _ z => by cases z)
    replace ep106 := y _ _ ep106 (fun _ z => by cases z)
    replace l2 := y _ _ l2 (fun _ z => by cases z)
    replace l3 := y _ _ l3 (fun _ z => by cases z)
    replace ep107 := y _ _ ep107 (fun _ z => by cases z)
    replace ep108 := y _ _ ep108 (fun _ z => by cases z)
    replace ep109 := y _ _ ep109 (fun _ z => by cases z)
    replace l4 := y _ _ l4 (fun _ z => by cases z)
    replace l5 := y _ _ l5 (fun _ z => by cases z)
    replace ep110 := y _ _ ep110 (fun _ z => by cases z)
    replace ep111 := y _ _ ep111 (fun _ z => by cases z)
    replace ep112 := y _ _ ep112 (fun _ z => by cases z)
    replace l6 := y _ _ l6 (fun _ z => by cases z)
    replace l7 := y _ _ l7 (fun _ z => by cases z)
    replace t0 := y _ _ t0 (fun _ z => by cases z)
    replace t1 := y _ _ t1 (fun _ z => by cases z)
    replace t2 := y _ _ t2 (fun _ z => by cases z)
    replace t3 := y _ _ t3 (fun _ z => by cases z)
    replace t4 := y _ _ t4 (fun _ z => by cases z)
    replace t5 := y _ _ t5 (fun _ z => by cases z)
    replace t6 := y _ _ t6 (fun _ z => by cases z)
    replace t7 := y _ _ t7 (fun _ z => by cases z)
    replace u1 := y _ _ u1 (fun _ z => by cases z)
    replace t8 := y _ _ t8 (fun _ z => by cases z)
    replace t9 := y _ _ t9 (fun _ z => by cases z)
    replace t10 := y _ _ t10 (fun _ z => by cases z)
    clear hp_t11 y
    walk_at "rds"
    refine ⟨len_ok rfl, fun p_u2 hp_u2 => ?_⟩
    have y := same_neu (o := HO.lst [.ref p_t8, .ref p_t9, .ref p_t10, .ref p_t11]) (Same.refl _) hp_u2
    generalize hG : upd _ p_u2 _ = G_u2 at y ⊢
    have u2 : G_u2 p_u2 = some (.lst [.ref p_t8, .ref p_t9, .ref p_t10, .ref p_t11]) := by rw [← hG]; exact upd_same
    clear hG
    replace tb := tabs_same tb y
    replace y := ExtN.of y
    replace w_none := any_ext w_none y
    replace w_odd := any_ext w_odd y
    replace w_far := any_ext w_far y
    replace w_bad := row_ext w_bad y
    replace dR := dr_ext dR y
    replace ep101 := y _ _ ep101 (fun _ z => by cases z)
    replace ep102 := y _ _ ep102 (fun _ z => by cases z)
    replace ep103 := y _ _ ep103 (fun _ z => by cases z)
    replace l1 := y _ _ l1 (fun _ z => by cases z)
    replace ep104 := y _ _ ep104 (fun _ z => by cases z)
    replace ep105 := y _ _ ep105 (fun _ z => by cases z)
    replace ep106 := y _ _ ep106 (fun _ z => by cases z)
    replace l2 := y _ _ l2 (fun _ z => by cases z)
    replace l3 := y _ _ l3 (fun _ z => by cases z)
    replace ep107 := y _ _ ep107 (fun _ z => by cases z)
    replace ep108 := y _ _ ep108 (fun _ z => by cases z)
    replace ep109 := y _ _ ep109 (fun _ z => by cases z)
    replace l4 := y _ _ l4 (fun _ z => by cases z)
    replace l5 := y _ _ l5 (fun _ z => by cases z)
    replace ep110 := y _ _ ep110 (fun _ z => by cases z)
    replace ep111 := y _ _ ep111 (fun _ z => by cases z)
    replace ep112 := y _ _ ep112 (fun _ z => by cases z)
    replace l6 := y _ _ l6 (fun _ z => by cases z)
    replace l7 := y _ _ l7 (fun _ z => by cases z)
    replace t0 := y _ _ t0 (fun _ z => by cases z)
    replace t1 := y _ _ t1 (fun _ z => by cases z)
    replace t2 := y _ _ t2 (fun _ z => by cases z)
    replace t3 := y _ _ t3 (fun _ z => by cases z)
    replace t4 := y _ _ t4 (fun _ z => by cases z)
    replace t5 := y _ _ t5 (fun _ z => by cases z)
    replace t6 := y _ _ t6 (fun _ z => by cases z)
    replace t7 := y _ _ t7 (fun _ z => by cases z)
    replace u1 := y _ _ u1 (fun _ z => by cases z)
    replace t8 := y _ _ t8 (fun _ z => by cases z)
    replace t9 := y _ _ t9 (fun _ z => by cases z)
    replace t10 := y _ _ t10 (fun _ z => by cases z)
    replace t11 := y _ _ t11 (fun _ z => by cases z)
    clear hp_u2 y
    walk_at "rds"
    refine ⟨_, _, _, _, rfl, rfl, u1, u2, len_ok rfl, fun p_u3 hp_u3 => ?_⟩
    rw [show ([.ref p_t0, .ref p_t1, .ref p_t2, .ref p_t3, .ref p_t4, .ref p_t5, .ref p_t6, .ref p_t7] : List V) ++ [.ref p_t8, .ref p_t9, .ref p_t10, .ref p_t11] = [.ref p_t0, .ref p_t1, .ref p_t2, .ref p_t3, .ref p_t4, .ref p_t5, .ref p_t6, .ref p_t7, .ref p_t8, .ref p_t9, .ref p_t10, .ref p_t11] from rfl]
    have y := same_neu (o := HO.lst [.ref p_t0, .ref p_t1, .ref p_t2, .ref p_t3, .ref p_t4, .ref p_t5, .ref p_t6, .ref p_t7, .ref p_t8, .ref p_t9, .ref p_t10, .ref p_t11]) (Same.refl _) hp_u3
    generalize hG : upd _ p_u3 _ = G_u3 at y ⊢
    have u3 : G_u3 p_u3 = some (.lst [.ref p_t0, .ref p_t1, .ref p_t2, .ref p_t3, .ref p_t4, .ref p_t5, .ref p_t6, .ref p_t7, .ref p_t8, .ref p_t9, .ref p_t10, .ref p_t11]) := by rw [← hG]; exact upd_same
    clear hG
    replace tb := tabs_same tb y
    replace y := ExtN.of y
    replace w_none := any_ext w_none y
    replace w_odd := any_ext w_odd y
    replace w_far := any_ext w_far y
    replace w_bad := row_ext w_bad y
    replace dR := dr_ext dR y
    replace ep101 := y _ _ ep101 (fun _ z => by cases z)
    replace ep102 := y _ _ ep102 (fun _ z => by cases z)
    replace ep103 := y _ _ ep103 (fun _ z => by cases z)
    replace l1 := y _ _ l1 (fun _ z => by cases z)
    replace ep104 := y _ _ ep104 (fun _ z => by cases z)
    replace ep105 := y _ _ ep105 (fun _ z => by cases z)
    replace ep106 := y _ _ ep106 (fun _ z => by cases z)
    replace l2 := y _ _ l2 (fun _ z => by cases z)
    replace l3 := y _ _ l3 (fun _ z => by cases z)
    replace ep107 := y _ _ ep107 (fun _ z => by cases z)
    replace ep108 := y _ _ ep108 (fun _ z => by cases z)
    replace ep109 := y _ _ ep109 (fun _ z => by cases z)
    replace l4 := y _ _ l4 (fun _ z => by cases z)
    replace l5 := y _ _ l5 (fun _ z => by cases z)
    replace ep110 := y _ _ ep110 (fun _ z => by cases z)
    replace ep111 := y _ _ ep111 (fun _ z => by cases z)
    replace ep112 := y _ _ ep112 (fun _ z => by cases z)
    replace l6 := y _ _ l6 (fun _ z => by cases z)
    replace l7 := y _ _ l7 (fun _ z => by cases z)
    replace t0 := y _ _ t0 (fun _ z => by cases z)
    replace t1 := y _ _ t1 (fun _ z => by cases z)
    replace t2 := y _ _ t2 (fun _ z => by cases z)
    replace t3 := y _ _ t3 (fun _ z => by cases z)
    replace t4 := y _ _ t4 (fun _ z => by cases z)
    replace t5 := y _ _ t5 (fun _ z => by cases z)
    replace t6 := y _ _ t6 (fun _ z => by cases z)
    replace t7 := y _ _ t7 (fun _ z => by cases z)
    replace u1 := y _ _ u1 (fun _ z => by cases z)
    replace t8 := y _ _ t8 (fun _ z => by cases z)
    replace t9 := y _ _ t9 (fun _ z => by cases z)
    replace t10 := y _ _ t10 (fun _ z => by cases z)
    replace t11 := y _ _ t11 (fun _ z => by cases z)
    replace u2 := y _ _ u2 (fun _ z => by cases z)
    clear hp_u3 y
    walk_at "rds"
    refine ⟨_, _, .lst (SqL.of l7) (.cons (.tup (SqT.of ep101) (.cons (.str _) (.cons (.str _) .nil))) (.cons (.tup (SqT.of ep102) (.cons (.str _) (.cons (.str _) .nil))) (.cons (.tup (SqT.of ep103) (.cons (.str _) (.cons (.str _) .nil))) (.cons (.tup (SqT.of ep104) (.cons (.str _) (.cons (.str _) .nil))) (.cons (.tup (SqT.of ep105) (.cons (.str _) (.cons (.str _) .nil))) (.cons (.tup (SqT.of ep106) (.cons (.str _) (.cons (.str _) .nil))) (.cons (.tup (SqT.of ep107) (.cons (.str _) (.cons (.str _) .nil))) (.cons (.tup (SqT.of ep108) (.cons (.str _) (.cons (.str _) .nil))) (.cons (.tup (SqT.of ep109) (.cons (.str _) (.cons (.str _) .nil))) (.cons (.tup (SqT.of ep110) (.cons (.str _) (.cons (.str _) .nil))) (.cons (.tup (SqT.of ep111) (.cons (.str _) (.cons (.str _) .nil))) (.cons (.tup (SqT.of ep112) (.cons (.str _) (.cons (.str _) .nil))) .nil)))))))))))), .lst (SqL.of u3) (.cons (.tup (SqT.of t0) (.cons (.str _) (.cons (.str _) .nil))) (.cons (.tup (SqT.of t1) (.cons (.str _) (.cons (.str _) .nil))) (.cons (.tup (SqT.of t2) (.cons (.str _) (.cons (.str _) .nil))) (.cons (.tup (SqT.of t3) (.cons (.str _) (.cons (.str _) .nil))) (.cons (.tup (SqT.of t4) (.cons (.str _) (.cons (.str _) .nil))) (.cons (.tup (SqT.of t5) (.cons (.str _) (.cons (.str _) .nil))) (.cons (.tup (SqT.of t6) (.cons (.str _) (.cons (.str _) .nil))) (.cons (.tup (SqT.of t7) (.cons (.str _) (.cons (.str _) .nil))) (.cons (.tup (SqT.of t8) (.cons (.str _) (.cons (.str _) .nil))) (.cons (.tup (SqT.of t9) (.cons (.str _) (.cons (.str _) .nil))) (.cons (.tup (SqT.of t10) (.cons (.str _) (.cons (.str _) .nil))) (.cons (.tup (SqT.of t11) (.cons (.str _) (.cons (.str _) .nil))) .nil)))))))))))), by decide +kernel, by decide +kernel, ?_⟩
    rw [SeqAt.eqv_refl _ (by decide +kernel)]
    exact k _ _ (by omega) dR tb
end
end K06
namespace K06
open PySem PySem.Spec PyProof.Rows L2 Rp LamX RZ

theorem fit_ints {xs : List Int} {lo hi : Int} (h : ∀ x ∈ xs, lo ≤ x ∧ x ≤ hi) (l0 : -(10 ^ 6) ≤ lo) (h0 : hi ≤ 10 ^ 6) : FitA 0 (15 * xs.length) (xs.map PyData.int) := by
  induction xs with
  | nil => exact FitA.nil
  | cons x r ih =>
    have z := h x (List.mem_cons_self ..)
    have f := FitA.cons (n := 0) (c := 13) (d := .int x) (fit_int (by omega)) (ih fun y m => h y (List.mem_cons_of_mem _ m))
    refine f.le (Nat.le_refl _) ?_
    rw [List.length_cons]
    omega
theorem dd_ints {K : PySem.W.Frag} {H : Hp} : ∀ (ns : List Int), DdAll K H (ns.map V.int) (ns.map PyData.int)
  | [] => .nil
  | n :: r => .cons (.num n) (dd_ints r)
theorem vint_of {xs : List Int} {cl : Int} (h : ∀ x ∈ xs, 0 ≤ x ∧ x ≤ cl - 1) : EachP (IntIn 0 (cl - 1)) (xs.map V.int) := .of fun v m => by
  obtain ⟨i, mi, rfl⟩ := List.mem_map.mp m
  exact ⟨i, rfl, (h i mi).1, (h i mi).2⟩
theorem rowOk_ints {xs : List Int} {cl : Int} (h : ∀ x ∈ xs, 0 ≤ x ∧ x ≤ cl - 1) (l1 : 1 ≤ xs.length) (l2 : xs.length ≤ 400) : rowOk (some (xs.map V.int)) cl 1 400 = true := by
  have r := row_yes (vint_of h)
  show (decide ((1 : Int) ≤ ((xs.map V.int).length : Int)) && decide (((xs.map V.int).length : Int) ≤ 400) && _) = true
  have e : (xs.map V.int).all (fun x => inB x (some 0) (some (cl - 1))) = true := (Bool.and_eq_true_iff.mp r).2
  rw [e, List.length_map, decide_eq_true (show (1 : Int) ≤ (xs.length : Int) by omega), decide_eq_true (show (xs.length : Int) ≤ 400 by omega)]
  rfl
/-- the two rows, and how they are passed -/
def RA (q : Addr) (H : Hp) (pa pb pp a b : Addr) (xs ys : List Int) : Prop := H pa = some (.lst (xs.map V.int)) ∧ H pb = some (.lst (ys.map V.int)) ∧ H pp = some (.lst [.ref a, .ref b]) ∧ a ≠ q ∧ b ≠ q ∧
  ((H a = some (.lst (xs.map V.int)) ∧ H b = some (.lst (ys.map V.int))) ∨ (H a = some (.tup (xs.map V.int)) ∧ H b = some (.tup (ys.map V.int))))
theorem RA.same {q : Addr} {H H' : Hp} {pa pb pp a b : Addr} {xs ys : List Int} (r : RA q H pa pb pp a b xs ys) (s : Same H H') : RA q H' pa pb pp a b xs ys := by
  obtain ⟨h1, h2, h3, n1, n2, h4⟩ := r
  exact ⟨s _ _ h1, s _ _ h2, s _ _ h3, n1, n2, h4.imp (fun z => ⟨s _ _ z.1, s _ _ z.2⟩) (fun z => ⟨s _ _ z.1, s _ _ z.2⟩)⟩
theorem RA.both {q : Addr} {H : Hp} {pa pb pp a b : Addr} {xs ys : List Int} (r : RA q H pa pb pp a b xs ys) : Both H (.ref a) (.ref b) (xs.map V.int) (ys.map V.int) := ⟨a, b, rfl, rfl, r.2.2.2.2.2⟩
theorem RA.rowA {q : Addr} {H : Hp} {pa pb pp a b : Addr} {xs ys : List Int} (r : RA q H pa pb pp a b xs ys) : RowV q H (.ref a) (some (xs.map V.int)) := by
  have it : ∀ x ∈ xs.map V.int, Any q H x := fun x m => by obtain ⟨i, _, rfl⟩ := List.mem_map.mp m; exact .num _
  rcases r.2.2.2.2.2 with z | z
  · exact .lst r.2.2.2.1 z.1 it
  · exact .tup r.2.2.2.1 z.1 it
theorem RA.rowB {q : Addr} {H : Hp} {pa pb pp a b : Addr} {xs ys : List Int} (r : RA q H pa pb pp a b xs ys) : RowV q H (.ref b) (some (ys.map V.int)) := by
  have it : ∀ x ∈ ys.map V.int, Any q H x := fun x m => by obtain ⟨i, _, rfl⟩ := List.mem_map.mp m; exact .num _
  rcases r.2.2.2.2.2 with z | z
  · exact .lst r.2.2.2.2.1 z.2 it
  · exact .tup r.2.2.2.2.1 z.2 it
theorem add_ints {cl : Int} (h : 2 ≤ cl) (xs ys : List Int) : ∃ zs : List Int, addRow cl (xs.map V.int) (ys.map V.int) = zs.map V.int ∧ zs.length = min xs.length ys.length ∧ ∀ z ∈ zs, 0 ≤ z ∧ z ≤ cl - 1 := by
  refine ⟨(xs.zip ys).map fun z => (z.1 + z.2).fmod cl, ?_, ?_, ?_⟩
  · unfold addRow
    rw [List.zip_map, List.map_map, List.map_map]
    rfl
  · rw [List.length_map, List.length_zip]
  · intro z m
    obtain ⟨y, _, rfl⟩ := List.mem_map.mp m
    have := fmod_in (i := y.1 + y.2) (j := cl) (by omega)
    omega
theorem mul_ints {cl n : Int} (h : 2 ≤ cl) (xs : List Int) : ∃ zs : List Int, mulRow cl n (xs.map V.int) = zs.map V.int ∧ zs.length = xs.length ∧ ∀ z ∈ zs, 0 ≤ z ∧ z ≤ cl - 1 := by
  refine ⟨xs.map fun x => (n * x).fmod cl, ?_, ?_, ?_⟩
  · unfold mulRow
    rw [List.map_map, List.map_map]
    rfl
  · rw [List.length_map]
  · intro z m
    obtain ⟨y, _, rfl⟩ := List.mem_map.mp m
    have := fmod_in (i := n * y) (j := cl) (by omega)
    omega
/-- what is shown of two rows -/
theorem pair_fit {t : Bool} {xs ys : List Int} {cl : Int} (hx : ∀ x ∈ xs, 0 ≤ x ∧ x ≤ cl - 1) (hy : ∀ x ∈ ys, 0 ≤ x ∧ x ≤ cl - 1) (h : cl ≤ 31) (lx : xs.length ≤ 400) (ly : ys.length ≤ 400) :
    Fit 64 15000000 (.list (if t then [.tuple (xs.map PyData.int), .tuple (ys.map PyData.int)] else [.list (xs.map PyData.int), .list (ys.map PyData.int)])) := by
  have f1 := fit_ints hx (by decide) (by omega)
  have f2 := fit_ints hy (by decide) (by omega)
  cases t
  · exact (FitA.list (FitA.cons f1.list (FitA.cons f2.list (FitA.nil (c := 0))))).le (by decide) (by omega)
  · exact (FitA.list (FitA.cons f1.tuple (FitA.cons f2.tuple (FitA.nil (c := 0))))).le (by decide) (by omega)
theorem neu {H G : Hp} {p : Addr} {o : HO} (hG : upd H p o = G) (hp : H p = none) : Same H G ∧ G p = some o := by
  subst hG
  exact ⟨same_neu (Same.refl H) hp, upd_same⟩
def spRowsRight : Sp := fun vs H Q _ => ∃ (q c : Addr) (ns : List Int) (lap : Nat) (cl : Int), vs = [.ref q, .int cl] ∧ clk (.int cl) = true ∧ 3 ≤ cl ∧ cl ≤ 31 ∧ lap + 2000 < 2 ^ 20 ∧ Dr q c ns lap H ∧
  ∀ (H' : Hp) (lap' : Nat), lap' ≤ lap + 1700 → Dr q c ns lap' H' → But q H H' → Q (.bl true) H'

section
variable {P : Program} {w : World} {K : PySem.W.Frag} {mg : Str → Option Value} {base : Heap} {ad : Ad}
abbrev sLawRowsRight : Stmt := top 29
theorem scLawRowsRight : FnScope ["sundial", "clock", "size", "one", "other", "number", "passed", "kept", "due", "each", "more"] ["sundial", "clock"] (defScope sLawRowsRight) := ⟨rfl, rfl, rfl, by decide +kernel, rfl, by decide +kernel, by decide +kernel⟩
theorem ok_LawRowsRight {f : Addr} {fd : FuncData} (F : Fun K "_law_rows_right" "_law_rows_right" sLawRowsRight f fd) (T : Txt K mg ad) (hM : HasMods base) {f0 : Addr} {fd0 : FuncData} (cLawRow : Cal P w K mg base "_law_row" 3 f0 fd0 ["sundial", "clock", "size"] spDrawn) {f1 : Addr} {fd1 : FuncData} (cLawGnomon : Cal P w K mg base "_law_gnomon" 1 f1 fd1 ["sundial", "many"] spDraw) {f2 : Addr} {fd2 : FuncData} (cLawOne : Cal P w K mg base "_law_one" 2 f2 fd2 ["sundial", "some"] (spOf K)) {f3 : Addr} {fd3 : FuncData} (cLawRound : Cal P w K mg base "_law_round" 1 f3 fd3 ["number", "clock"] spRound) {f4 : Addr} {fd4 : FuncData} (cRowSum : CalX P w K mg base "row_sum" 5 f4 fd4 ["clock", "one", "other"] (spRowSum ad)) (kRowSum_other_one_clock : KBx K fd4 ["clock", "one", "other"] 0 ["other", "one", "clock"] [2, 1, 0]) {f5 : Addr} {fd5 : FuncData} (cRowTimes : CalX P w K mg base "row_times" 5 f5 fd5 ["clock", "number", "row"] (spRowTimes ad)) (kRowTimes_row_number_clock : KBx K fd5 ["clock", "number", "row"] 0 ["row", "number", "clock"] [2, 1, 0])  : FnG P w K mg base 8 f fd ["sundial", "clock"] spRowsRight := by
  refine fng F scLawRowsRight (fun {vs H Q E} h => ?_) (fun {cdv A fr s H vs Q E} hg hr h => ?_)
  · obtain ⟨q, c, ns, lap, cl, rfl, hck, h3, h31, hlap, hD, k⟩ := h
    rfl
  · obtain ⟨q, c, ns, lap, cl, rfl, hck, h3, h31, hlap, hD, k⟩ := h
    refine ⟨_, (pss_cons (ps_set (i := 2) scLawRowsRight.nd rfl (Or.inl rfl) (pe_ifExp (pt_cmpR op_eq (pe_go cLawGnomon hg (hr.mono (by decide)) (by rfl) (pa_cons (pv 0) (pa_cons pe_int pa_nil))) pe_int (nomark _)) pe_int (pe_op op_add pe_int (pe_go cLawGnomon hg (hr.mono (by decide)) (by rfl) (pa_cons (pv 0) (pa_cons pe_int pa_nil))))))
  (pss_cons (ps_asg (pe_tup (pa_cons (pe_go cLawRow hg (hr.mono (by decide)) (by rfl) (pa_cons (pv 0) (pa_cons (pv 1) (pa_cons (pv 2) pa_nil)))) (pa_cons (pe_go cLawRow hg (hr.mono (by decide)) (by rfl) (pa_cons (pv 0) (pa_cons (pv 1) (pa_cons (pv 2) pa_nil)))) (pa_cons (pe_go cLawGnomon hg (hr.mono (by decide)) (by rfl) (pa_cons (pv 0) (pa_cons (pv 1) pa_nil))) pa_nil)))) (pg_tup rfl (pgs_cons (pg_name (i := 3) scLawRowsRight.nd rfl (Or.inl rfl)) (pgs_cons (pg_name (i := 4) scLawRowsRight.nd rfl (Or.inl rfl)) (pgs_cons (pg_name (i := 5) scLawRowsRight.nd rfl (Or.inr rfl)) pgs_nil)))))
  (pss_cons (ps_par (i := 6) (j := 7) (by rfl) scLawRowsRight.nd rfl rfl (by decide) rfl rfl (pa_cons (pe_go cLawOne hg (hr.mono (by decide)) (by rfl) (pa_cons (pv 0) (pa_cons (pe_lst (pa_cons (pe_lst (pa_cons (pv 3) (pa_cons (pv 4) pa_nil))) (pa_cons (pe_lst (pa_cons (pe_callTy call_tuple_of (by rfl) T.z_tuple (by decide +kernel) (pa_cons (pv 3) pa_nil)) (pa_cons (pe_callTy call_tuple_of (by rfl) T.z_tuple (by decide +kernel) (pa_cons (pv 4) pa_nil)) pa_nil))) pa_nil))) pa_nil))) (pa_cons (pe_callB (call_reprA hr hg hM) (by rfl) T.z_repr (by decide +kernel) (pa_cons (pe_lst (pa_cons (pv 3) (pa_cons (pv 4) pa_nil))) pa_nil)) pa_nil)) (by rfl))
  (pss_cons (ps_set (i := 8) scLawRowsRight.nd rfl (Or.inl rfl) (pe_callTy call_tuple_of (by rfl) T.z_tuple (by decide +kernel) (pa_cons (pe_lc (own := [("each", 9), ("more", 10)]) (g := gTup K 2 (gCons (gName 9) (gCons (gName 10) gNil))) (tt := tYes) rfl scLawRowsRight.nd (pi_zip (by rfl) T.z_zip (pa_cons (pv 3) (pa_cons (pv 4) pa_nil))) (blkOk_by (own := [("each", 9), ("more", 10)]) (N := ["sundial", "clock", "size", "one", "other", "number", "passed", "kept", "due", "each", "more"]) (sc := defScope sLawRowsRight) (by decide +kernel)) (fun _ _ _ _ _ => (pg_tup rfl (pgs_cons (pg_name (i := 9) scLawRowsRight.nd rfl (Or.inl rfl)) (pgs_cons (pg_name (i := 10) scLawRowsRight.nd rfl (Or.inl rfl)) pgs_nil)))) (fun _ _ _ _ _ => pts_nil) (fun _ _ _ _ _ => (pe_go cLawRound hg (hr.mono (by decide)) (by rfl) (pa_cons (pe_op op_add (pv 9) (pv 10)) (pa_cons (pv 1) pa_nil))))) pa_nil)))
  (pss_cons (ps_if (pt_cmpR op_ne (pe_callB (call_reprA hr hg hM) (by rfl) T.z_repr (by decide +kernel) (pa_cons (pe_lst (pa_cons (pe_goX cRowSum (hr.mono (by decide)) (by rfl) (pa_cons (pv 1) (pa_cons (pe_ix ix_list (pv 6) pe_int (fun _ _ => rfl)) (pa_cons (pe_ix ix_list (pv 6) pe_int (fun _ _ => rfl)) pa_nil)))) (pa_cons (pe_kwX cRowSum kRowSum_other_one_clock (hr.mono (by decide)) (by rfl) (pk_cons (pe_ix ix_list (pv 6) pe_int (fun _ _ => rfl)) (pk_cons (pe_ix ix_list (pv 6) pe_int (fun _ _ => rfl)) (pk_cons (pv 1) pk_nil)))) pa_nil))) pa_nil)) (pe_callB (call_reprA hr hg hM) (by rfl) T.z_repr (by decide +kernel) (pa_cons (pe_lst (pa_cons (pv 8) (pa_cons (pv 8) pa_nil))) pa_nil)) (nomark _))
  (pss_one (ps_ret pe_bl))
  pss_nil)
  (pss_cons (ps_set (i := 8) scLawRowsRight.nd rfl (Or.inl rfl) (pe_callTy call_tuple_of (by rfl) T.z_tuple (by decide +kernel) (pa_cons (pe_lc (own := [("each", 9)]) (g := gName 9) (tt := tYes) rfl scLawRowsRight.nd (pi_list (pv 3)) (blkOk_by (own := [("each", 9)]) (N := ["sundial", "clock", "size", "one", "other", "number", "passed", "kept", "due", "each", "more"]) (sc := defScope sLawRowsRight) (by decide +kernel)) (fun _ _ _ _ _ => (pg_name (i := 9) scLawRowsRight.nd rfl (Or.inl rfl))) (fun _ _ _ _ _ => pts_nil) (fun _ _ _ _ _ => (pe_go cLawRound hg (hr.mono (by decide)) (by rfl) (pa_cons (pe_op op_mul (pv 5) (pv 9)) (pa_cons (pv 1) pa_nil))))) pa_nil)))
  (pss_cons (ps_if (pt_cmpR op_ne (pe_callB (call_reprA hr hg hM) (by rfl) T.z_repr (by decide +kernel) (pa_cons (pe_lst (pa_cons (pe_goX cRowTimes (hr.mono (by decide)) (by rfl) (pa_cons (pv 1) (pa_cons (pv 5) (pa_cons (pe_ix ix_list (pv 6) pe_int (fun _ _ => rfl)) pa_nil)))) (pa_cons (pe_kwX cRowTimes kRowTimes_row_number_clock (hr.mono (by decide)) (by rfl) (pk_cons (pe_ix ix_list (pv 6) pe_int (fun _ _ => rfl)) (pk_cons (pv 5) (pk_cons (pv 1) pk_nil)))) pa_nil))) pa_nil)) (pe_callB (call_reprA hr hg hM) (by rfl) T.z_repr (by decide +kernel) (pa_cons (pe_lst (pa_cons (pv 8) (pa_cons (pv 8) pa_nil))) pa_nil)) (nomark _))
  (pss_one (ps_ret pe_bl))
  pss_nil)
  (pss_one (ps_ret (pe_cmpR op_eq (pe_callB (call_reprA hr hg hM) (by rfl) T.z_repr (by decide +kernel) (pa_cons (pe_lst (pa_cons (pv 3) (pa_cons (pv 4) pa_nil))) pa_nil)) (pv 7) (nomark _))))))))))), ?_⟩
    refine r_start (l := [some (.ref q), some (.int cl), none, none, none, none, none, none, none, none, none]) rfl ?_
    with_reducible refine r_cut (fun σ G => ∃ (n lp : Nat), σ = [some (.ref q), some (.int cl), some (.int (n : Int)), none, none, none, none, none, none, none, none] ∧ 1 ≤ n ∧ n ≤ 400 ∧ lp ≤ lap + 2 ∧ Dr q c ns lp G ∧ But q H G) ?_ fun go => ?_
    rotate_left
    · walk_at "rds"
      refine ⟨_, _, _, _, _, rfl, by decide, by decide, by omega, hD, fun H1 l1 r1 hl1 D1 b1 m1 n1 => ?_⟩
      walk_at "rds"
      refine ⟨rfl, ?_⟩
      walk_at "rds"
      refine ite2 (fun _ => ?_) (fun _ => ?_)
      · walk_at "res"
        exact go _ _ ⟨400, l1, rfl, by decide, by decide, by omega, D1, b1⟩
      · walk_at "res"
        refine ⟨_, _, _, _, _, rfl, by decide, by decide, by omega, D1, fun H2 l2 r2 hl2 D2 b2 m2 n2 => ?_⟩
        walk_at "res"
        obtain ⟨n, en⟩ : ∃ n : Nat, 1 + r2 = (n : Int) := ⟨(1 + r2).toNat, by omega⟩
        rw [en]
        exact go _ _ ⟨n, l2, rfl, by omega, by omega, by omega, D2, b1.trans b2⟩
    rintro σ G ⟨n, lp, rfl, n1, n400, hlp, D0, B0⟩
    walk_at "rds"
    refine ⟨_, _, _, _, _, _, rfl, h3, h31, n400, by omega, D0, fun H1 l1 pa xs hl1 D1 b1 na fa ea lx mx => ?_⟩
    walk_at "rds"
    refine ⟨_, _, _, _, _, _, rfl, h3, h31, n400, by omega, D1, fun H2 l2 pb ys hl2 D2 b2 nb fb eb ly my => ?_⟩
    replace ea := b2 _ _ na ea
    walk_at "rds"
    refine ⟨_, _, _, _, _, rfl, by omega, by omega, by omega, D2, fun H3 l3 nu hl3 D3 b3 u0 u1 => ?_⟩
    replace ea := b3 _ _ na ea
    replace eb := b3 _ _ nb eb
    have B3 := ((B0.trans b1).trans b2).trans b3
    walk_at "rds"
    refine ⟨len_ok rfl, fun p4 hp4 => ?_⟩
    generalize hG4 : upd H3 p4 _ = H4
    obtain ⟨D4, B4, b4, np4, ep4⟩ := alloc hG4 D3 B3 hp4
    clear hG4
    replace ea := b4 _ _ na ea
    replace eb := b4 _ _ nb eb
    refine r_gtup ⟨_, _, rfl, SqT.of ep4, rfl, ?_⟩
    refine ⟨_, _, rfl, ?_⟩
    walk_at "rds"
    refine ⟨_, _, rfl, ?_⟩
    walk_at "rds"
    refine ⟨_, _, rfl, ?_⟩
    walk_at "rds"
    refine ⟨rfl, ?_⟩
    walk_at "rds"
    refine ⟨len_ok rfl, fun p5 hp5 => ?_⟩
    generalize hG5 : upd H4 p5 _ = H5
    obtain ⟨D5, B5, b5, np5, ep5⟩ := alloc hG5 D4 B4 hp5
    clear hG5
    replace ea := b5 _ _ na ea
    replace eb := b5 _ _ nb eb
    replace ep4 := b5 _ _ np4 ep4
    walk_at "rds"
    refine ⟨_, _, rfl, .inl ⟨SqL.of ea, ?_⟩⟩
    intro p6 hp6
    generalize hG6 : upd H5 p6 _ = H6
    obtain ⟨D6, B6, b6, np6, ep6⟩ := alloc hG6 D5 B5 hp6
    clear hG6
    replace ea := b6 _ _ na ea
    replace eb := b6 _ _ nb eb
    replace ep4 := b6 _ _ np4 ep4
    replace ep5 := b6 _ _ np5 ep5
    walk_at "rds"
    refine ⟨_, _, rfl, .inl ⟨SqL.of eb, ?_⟩⟩
    intro p7 hp7
    generalize hG7 : upd H6 p7 _ = H7
    obtain ⟨D7, B7, b7, np7, ep7⟩ := alloc hG7 D6 B6 hp7
    clear hG7
    replace ea := b7 _ _ na ea
    replace eb := b7 _ _ nb eb
    replace ep4 := b7 _ _ np4 ep4
    replace ep5 := b7 _ _ np5 ep5
    replace ep6 := b7 _ _ np6 ep6
    walk_at "rds"
    refine ⟨len_ok rfl, fun p8 hp8 => ?_⟩
    generalize hG8 : upd H7 p8 _ = H8
    obtain ⟨D8, B8, b8, np8, ep8⟩ := alloc hG8 D7 B7 hp8
    clear hG8
    replace ea := b8 _ _ na ea
    replace eb := b8 _ _ nb eb
    replace ep4 := b8 _ _ np4 ep4
    replace ep5 := b8 _ _ np5 ep5
    replace ep6 := b8 _ _ np6 ep6
    replace ep7 := b8 _ _ np7 ep7
    walk_at "rds"
    refine ⟨len_ok rfl, fun p9 hp9 => ?_⟩
    generalize hG9 : upd H8 p9 _ = H9
    obtain ⟨D9, B9, b9, np9, ep9⟩ := alloc hG9 D8 B8 hp9
    clear hG9
    replace ea := b9 _ _ na ea
    replace eb := b9 _ _ nb eb
    replace ep4 := b9 _ _ np4 ep4
    replace ep5 := b9 _ _ np5 ep5
    replace ep6 := b9 _ _ np6 ep6
    replace ep7 := b9 _ _ np7 ep7
    replace ep8 := b9 _ _ np8 ep8
    walk_at "rds"
    refine ⟨_, _, _, _, _, _, rfl, SqL.of ep9, Nat.zero_lt_succ _, lt_ok rfl, by omega, np9, D9, fun H10 l10 i10 v10 hl10 D10 b10 e10 => ?_⟩
    have pv10 := EachP.get (F := fun v => ∃ pp a b, v = .ref pp ∧ pp ≠ q ∧ a ≠ q ∧ b ≠ q ∧ H9 pp = some (.lst [.ref a, .ref b]) ∧ ((H9 a = some (.lst (xs.map V.int)) ∧ H9 b = some (.lst (ys.map V.int))) ∨ (H9 a = some (.tup (xs.map V.int)) ∧ H9 b = some (.tup (ys.map V.int))))) (.cons ⟨_, _, _, rfl, np5, na, nb, ep5, .inl ⟨ea, eb⟩⟩ (.cons ⟨_, _, _, rfl, np8, np6, np7, ep8, .inr ⟨ep6, ep7⟩⟩ .nil)) e10
    have B10 := B9.trans b10
    replace ea := b10 _ _ na ea
    replace eb := b10 _ _ nb eb
    replace ep4 := b10 _ _ np4 ep4
    replace ep5 := b10 _ _ np5 ep5
    replace ep6 := b10 _ _ np6 ep6
    replace ep7 := b10 _ _ np7 ep7
    replace ep8 := b10 _ _ np8 ep8
    replace ep9 := b10 _ _ np9 ep9
    obtain ⟨pp, a, b, rfl, npp, nA, nB, epp, hab⟩ := pv10
    replace epp := b10 _ _ npp epp
    replace hab := hab.imp (fun z => And.intro (b10 _ _ nA z.1) (b10 _ _ nB z.2)) (fun z => And.intro (b10 _ _ nA z.1) (b10 _ _ nB z.2))
    have ra : RA q H10 pa pb pp a b xs ys := ⟨ea, eb, epp, nA, nB, hab⟩
    have dF := D10
    have BF := B10
    walk_at "rds"
    clear ep4 ep5 ep6 ep7 ep8 ep9
    refine ⟨len_ok rfl, fun k1 hk1 => ?_⟩
    generalize hG : upd H10 k1 _ = G1
    obtain ⟨s1, e1⟩ := neu hG hk1
    clear hG
    replace ra := ra.same s1
    have ss := s1
    walk_at "rds"
    refine r_reprA (d := .list [.list (xs.map PyData.int), .list (ys.map PyData.int)]) (.lst (SqL.of e1) (.cons (.lst (SqL.of ra.1) (dd_ints xs)) (.cons (.lst (SqL.of ra.2.1) (dd_ints ys)) .nil))) (pair_fit (t := false) mx my h31 (by omega) (by omega)) ?_
    clear e1 e10 epp hab
    walk_at "rds"
    refine ⟨_, _, rfl, ?_⟩
    walk_at "rds"
    refine ⟨_, _, _, _, rfl, SqL.of ra.1, SqL.of ra.2.1, ?_⟩
    intro D hD
    have nA : pa ≠ D := ne_of_none ra.1 hD
    have nB : pb ≠ D := ne_of_none ra.2.1 hD
    refine lc_it (walk_zip (K := K) (xs := xs.map V.int) (ys := ys.map V.int) (n := n) (by rw [List.length_map, List.length_map]; omega)) (fun i G => G D = some (.lst ((((xs.map V.int).zip (ys.map V.int)).take i).map fun z => .int ((intOf z.1 + intOf z.2).fmod cl))) ∧ ∀ b o, b ≠ D → G1 b = some o → G b = some o)
      ⟨upd_same, fun b o nb eb => by rw [upd_ne nb]; exact eb⟩ (fun i G _ z => ⟨SqL.of (z.2 pa _ nA ra.1), SqL.of (z.2 pb _ nB ra.2.1)⟩) ?_ ?_
    · rintro i v G G' hi ⟨hG, s⟩ ⟨t, x, y, rfl, ht, rfl, hx, hy⟩
      obtain ⟨ix, ix', rfl⟩ := List.mem_map.mp (List.mem_of_getElem? hx)
      obtain ⟨iy, iy', rfl⟩ := List.mem_map.mp (List.mem_of_getElem? hy)
      walk_at "rds"
      refine r_gtup ⟨_, _, rfl, SqT.of upd_same, rfl, ?_⟩
      refine ⟨_, _, rfl, ?_⟩
      walk_at "rds"
      refine ⟨_, _, rfl, ?_⟩
      walk_at "rds"
      refine ⟨rfl, ?_⟩
      refine ⟨rfl, ?_⟩
      walk_at "rds"
      refine ⟨_, _, rfl, h3, h31, ?_⟩
      have nD : D ≠ t := ne_of_none hG ht
      refine ⟨_, by rw [upd_ne nD]; exact hG, ?_, ?_, fun b o nb eb => ?_⟩
      · rw [List.length_map]
        refine Nat.lt_of_le_of_lt (List.length_take_le _ _) (small1000 ?_)
        omega
      · rw [upd_same, zip_at hx hy]
        rfl
      · rw [upd_ne nb, upd_ne (ne_of_none (s b o nb eb) ht)]
        exact s b o nb eb
    rintro G2 ⟨hG2, s2⟩
    rw [List.take_of_length_le (by rw [List.length_zip, List.length_map]; omega)] at hG2
    replace s2 : Same G1 G2 := fun b o eb => s2 b o (ne_of_none eb hD) eb
    obtain ⟨zs, ez, lz, mz⟩ := add_ints (by omega : 2 ≤ cl) xs ys
    replace hG2 : G2 D = some (.lst (zs.map V.int)) := by rw [← ez]; exact hG2
    replace ra := ra.same s2
    replace ss := ss.trans s2
    walk_at "rds"
    refine ⟨_, _, rfl, .inl ⟨SqL.of hG2, fun dd hdd => ?_⟩⟩
    generalize hG : upd G2 dd _ = G3
    obtain ⟨s3, e3⟩ := neu hG hdd
    clear hG
    replace ra := ra.same s3
    replace ss := ss.trans s3
    clear s1 s2 hD hG2 nA nB
    walk_at "rds"
    have lX : ∀ l, some (xs.map V.int) = some l → l.length < sizeLine := fun l e => by cases e; rw [List.length_map]; exact small1000 (by omega)
    have lY : ∀ l, some (ys.map V.int) = some l → l.length < sizeLine := fun l e => by cases e; rw [List.length_map]; exact small1000 (by omega)
    have okX : rowOk (some (xs.map V.int)) cl 1 400 = true := rowOk_ints mx (by omega) (by omega)
    have okY : rowOk (some (ys.map V.int)) cl 1 400 = true := rowOk_ints my (by omega) (by omega)
    have lxy : (xs.map V.int).length = (ys.map V.int).length := by rw [List.length_map, List.length_map]; omega
    refine r_ixL (SqL.of ra.2.2.1) rfl ?_
    walk_at "rds"
    refine r_ixL (SqL.of ra.2.2.1) rfl ?_
    walk_at "rds"
    refine ⟨q, _, _, _, _, _, rfl, .num _, ra.rowA, ra.rowB, lX, lY, fun e => (by cases e.symm.trans hck), fun cl2 y1 y2 G' sG => ?_⟩
    cases y1
    refine ⟨fun z => (by cases okX.symm.trans z), fun _ => ⟨fun z => (by cases okY.symm.trans z), fun _ xs2 ys2 ex ey => ⟨fun z => (by cases ex; cases ey; exact absurd lxy z), fun _ => ?_⟩⟩⟩
    cases ex
    cases ey
    refine ⟨ra.both, fun G4 r1 s4 hr1 er1 => ?_⟩
    clear y2 sG G' 
    rw [ez] at er1
    replace ra := ra.same s4
    replace ss := ss.trans s4
    replace e3 := s4 _ _ e3
    walk_at "rds"
    refine r_ixL (SqL.of ra.2.2.1) rfl ?_
    walk_at "rds"
    refine r_ixL (SqL.of ra.2.2.1) rfl ?_
    walk_at "rds"
    refine ⟨rfl, rfl, q, _, _, _, _, _, rfl, .num _, ra.rowA, ra.rowB, lX, lY, fun e => (by cases e.symm.trans hck), fun cl2 y1 y2 G' sG => ?_⟩
    cases y1
    refine ⟨fun z => (by cases okX.symm.trans z), fun _ => ⟨fun z => (by cases okY.symm.trans z), fun _ xs2 ys2 ex ey => ⟨fun z => (by cases ex; cases ey; exact absurd lxy z), fun _ => ?_⟩⟩⟩
    cases ex
    cases ey
    refine ⟨ra.both, fun G5 r2 s5 hr2 er2 => ?_⟩
    clear y2 sG G'
    rw [ez] at er2
    replace ra := ra.same s5
    replace ss := ss.trans s5
    replace e3 := s5 _ _ e3
    replace er1 := s5 _ _ er1
    walk_at "rds"
    refine ⟨len_ok rfl, fun k2 hk2 => ?_⟩
    generalize hG : upd G5 k2 _ = G6
    obtain ⟨s6, e6⟩ := neu hG hk2
    clear hG
    replace ra := ra.same s6
    replace ss := ss.trans s6
    replace e3 := s6 _ _ e3
    replace er1 := s6 _ _ er1
    replace er2 := s6 _ _ er2
    have fz : Fit 64 15000000 (.list [.tuple (zs.map PyData.int), .tuple (zs.map PyData.int)]) := pair_fit (t := true) mz mz h31 (by omega) (by omega)
    walk_at "rds"
    refine r_reprA (.lst (SqL.of e6) (.cons (.tup (SqT.of er1) (dd_ints zs)) (.cons (.tup (SqT.of er2) (dd_ints zs)) .nil))) fz ?_
    walk_at "rds"
    refine ⟨len_ok rfl, fun k3 hk3 => ?_⟩
    generalize hG : upd G6 k3 _ = G7
    obtain ⟨s7, e7⟩ := neu hG hk3
    clear hG
    replace ra := ra.same s7
    replace ss := ss.trans s7
    replace e3 := s7 _ _ e3
    walk_at "rds"
    refine r_reprA (.lst (SqL.of e7) (.cons (.tup (SqT.of e3) (dd_ints zs)) (.cons (.tup (SqT.of e3) (dd_ints zs)) .nil))) fz ?_
    walk_at "rds"
    refine r_ne_same ?_
    clear e3 er1 er2 e6 e7 fz ez
    walk_at "rds"
    refine ⟨pa, rfl, ⟨_, SqL.of ra.1⟩, fun D hD => ?_⟩
    have nA : pa ≠ D := ne_of_none ra.1 hD
    refine lc_list (K := K) (a := pa) (xs := xs.map V.int) (fun i G => G D = some (.lst (((xs.map V.int).take i).map fun x => .int ((nu * intOf x).fmod cl))) ∧ ∀ b o, b ≠ D → G7 b = some o → G b = some o)
      ⟨upd_same, fun b o nb eb => by rw [upd_ne nb]; exact eb⟩ (fun i G _ z => SqL.of (z.2 pa _ nA ra.1)) ?_ ?_
    · rintro i x G hi ⟨hG, s⟩
      obtain ⟨ix, ix', rfl⟩ := List.mem_map.mp (List.mem_of_getElem? hi)
      have zi : i < (xs.map V.int).length := (List.getElem?_eq_some_iff.mp hi).1
      have mi := mx ix ix'
      walk_at "rds"
      refine ⟨rfl, ?_⟩
      walk_at "rds"
      refine r_I (.inl ⟨by omega, by omega⟩) ?_
      walk_at "rds"
      refine ⟨_, _, rfl, h3, h31, ?_⟩
      refine ⟨_, hG, ?_, ?_, fun b o nb eb => ?_⟩
      · rw [List.length_map]
        refine Nat.lt_of_le_of_lt (List.length_take_le _ _) (small1000 ?_)
        rw [List.length_map] at zi
        omega
      · rw [upd_same, List.take_succ, hi, List.map_append]
        rfl
      · rw [upd_ne nb]
        exact s b o nb eb
    rintro G8 ⟨hG8, s8⟩
    rw [List.take_length] at hG8
    replace s8 : Same G7 G8 := fun b o eb => s8 b o (ne_of_none eb hD) eb
    obtain ⟨ws, ew, lw, mw⟩ := mul_ints (n := nu) (by omega : 2 ≤ cl) xs
    replace hG8 : G8 D = some (.lst (ws.map V.int)) := by rw [← ew]; exact hG8
    replace ra := ra.same s8
    replace ss := ss.trans s8
    walk_at "rds"
    refine ⟨_, _, rfl, .inl ⟨SqL.of hG8, fun d2 hd2 => ?_⟩⟩
    generalize hG : upd G8 d2 _ = G9
    obtain ⟨s9, e9⟩ := neu hG hd2
    clear hG
    replace ra := ra.same s9
    replace ss := ss.trans s9
    clear s8 hD hG8 nA
    walk_at "rds"
    refine r_ixL (SqL.of ra.2.2.1) rfl ?_
    walk_at "rds"
    refine ⟨q, _, _, _, _, rfl, .num _, .num _, ra.rowA, lX, fun e => (by cases e.symm.trans hck), fun cl2 y1 y2 => ?_⟩
    cases y1
    refine ⟨fun z => (by cases (inB_yes (by omega) (by omega)).symm.trans z), fun _ G' sG => ⟨fun z => (by cases okX.symm.trans z), fun _ n2 xs2 en ex G10 r1 s10 hr1 er1 => ?_⟩⟩
    cases en
    cases ex
    rw [ew] at er1
    replace e9 := s10 _ _ e9
    replace ra := ra.same s10
    replace ss := ss.trans s10
    clear y2
    walk_at "rds"
    refine r_ixL (SqL.of ra.2.2.1) rfl ?_
    walk_at "rds"
    refine ⟨rfl, rfl, q, _, _, _, _, rfl, .num _, .num _, ra.rowA, lX, fun e => (by cases e.symm.trans hck), fun cl2 y1 y2 => ?_⟩
    cases y1
    refine ⟨fun z => (by cases (inB_yes (by omega) (by omega)).symm.trans z), fun _ G'' sG' => ⟨fun z => (by cases okX.symm.trans z), fun _ n2 xs2 en ex G11 r2 s11 hr2 er2 => ?_⟩⟩
    cases en
    cases ex
    rw [ew] at er2
    replace e9 := s11 _ _ e9
    replace er1 := s11 _ _ er1
    replace ra := ra.same s11
    replace ss := ss.trans s11
    clear y2
    walk_at "rds"
    refine ⟨len_ok rfl, fun k4 hk4 => ?_⟩
    generalize hG : upd G11 k4 _ = G12
    obtain ⟨s12, e12⟩ := neu hG hk4
    clear hG
    replace ra := ra.same s12
    replace ss := ss.trans s12
    replace e9 := s12 _ _ e9
    replace er1 := s12 _ _ er1
    replace er2 := s12 _ _ er2
    have fz : Fit 64 15000000 (.list [.tuple (ws.map PyData.int), .tuple (ws.map PyData.int)]) := pair_fit (t := true) mw mw h31 (by omega) (by omega)
    walk_at "rds"
    refine r_reprA (.lst (SqL.of e12) (.cons (.tup (SqT.of er1) (dd_ints ws)) (.cons (.tup (SqT.of er2) (dd_ints ws)) .nil))) fz ?_
    walk_at "rds"
    refine ⟨len_ok rfl, fun k5 hk5 => ?_⟩
    generalize hG : upd G12 k5 _ = G13
    obtain ⟨s13, e13⟩ := neu hG hk5
    clear hG
    replace ra := ra.same s13
    replace ss := ss.trans s13
    replace e9 := s13 _ _ e9
    walk_at "rds"
    refine r_reprA (.lst (SqL.of e13) (.cons (.tup (SqT.of e9) (dd_ints ws)) (.cons (.tup (SqT.of e9) (dd_ints ws)) .nil))) fz ?_
    walk_at "rds"
    refine r_ne_same ?_
    walk_at "rds"
    refine ⟨len_ok rfl, fun k6 hk6 => ?_⟩
    generalize hG : upd G13 k6 _ = G14
    obtain ⟨s14, e14⟩ := neu hG hk6
    clear hG
    replace ra := ra.same s14
    replace ss := ss.trans s14
    walk_at "rds"
    refine r_reprA (d := .list [.list (xs.map PyData.int), .list (ys.map PyData.int)]) (.lst (SqL.of e14) (.cons (.lst (SqL.of ra.1) (dd_ints xs)) (.cons (.lst (SqL.of ra.2.1) (dd_ints ys)) .nil))) (pair_fit (t := false) mx my h31 (by omega) (by omega)) ?_
    walk_at "rds"
    refine r_eq_same ?_
    exact k _ _ (by omega) (dF.same ss) (BF.trans (same_but ss))
end
end K06
namespace K06
open PySem PySem.Spec PyProof.Rows L2 Rp LamX RZ

/-- the partners of a number -/
def mates (cl nu : Int) (n : Nat) : List Int := ((List.range n).map fun j : Nat => 1 + (j : Int)).filter fun j => decide ((nu * j).fmod cl = 1)
theorem mates_succ (cl nu : Int) (n : Nat) : mates cl nu (n + 1) = mates cl nu n ++ (if (nu * (1 + (n : Int))).fmod cl = 1 then [1 + (n : Int)] else []) := by
  unfold mates
  rw [List.range_succ, List.map_append, List.filter_append]
  congr 1
  by_cases h : (nu * (1 + (n : Int))).fmod cl = 1 <;> simp [h]
theorem mates_len (cl nu : Int) (n : Nat) : (mates cl nu n).length ≤ n := by
  unfold mates
  refine Nat.le_trans (List.length_filter_le _ _) ?_
  rw [List.length_map, List.length_range]
  exact Nat.le_refl _
theorem mates_all : ∀ cl ∈ clocks, ∀ k ∈ List.range (cl - 1).toNat, (mates cl (1 + (k : Int)) (cl - 1).toNat = [powF cl (1 + (k : Int)) (cl - 2).toNat]) ∧ powF cl (powF cl (1 + (k : Int)) (cl - 2).toNat) (cl - 2).toNat = 1 + (k : Int) ∧ 0 < powF cl (1 + (k : Int)) (cl - 2).toNat := by
  decide +kernel
theorem mates_one {cl nu : Int} (h : clk (.int cl) = true) (h0 : 1 ≤ nu) (h1 : nu ≤ cl - 1) : mates cl nu (cl - 1).toNat = [powF cl nu (cl - 2).toNat] ∧ powF cl (powF cl nu (cl - 2).toNat) (cl - 2).toNat = nu ∧ 0 < powF cl nu (cl - 2).toNat := by
  have m := List.contains_iff_mem.mp (show clocks.contains cl = true from h)
  have z := mates_all cl m (nu - 1).toNat (List.mem_range.mpr (by omega))
  rw [show (1 : Int) + ((nu - 1).toNat : Int) = nu by omega] at z
  exact z
theorem ints_fit : ∀ {xs : List Int}, (∀ x ∈ xs, 0 ≤ x ∧ x ≤ 31) → xs.length ≤ 400 → Fit 64 15000000 (.list (xs.map PyData.int)) := fun h l => (fit_ints h (by decide) (by decide)).list.le (by decide) (by omega)
def spLaw6 (P : Addr) (K : PySem.W.Frag) : Sp := fun vs H Q _ => ∃ (a : Addr) (ns : List Int), vs = [.ref a] ∧ SqL K H a (ns.map V.int) ∧ Tabs [(P, qLam)] H ∧ ∀ H', Q (.bl true) H'

section
variable {P : Program} {w : World} {K : PySem.W.Frag} {mg : Str → Option Value} {base : Heap} {ad : Ad}
abbrev sLaw : Stmt := top 31
theorem scLaw : FnScope ["script", "sundial", "turn", "clock", "some", "value", "due", "number", "partner", "each"] ["script"] (defScope sLaw) := ⟨rfl, rfl, rfl, by decide +kernel, rfl, by decide +kernel, by decide +kernel⟩
theorem ok_Law {P0 f : Addr} {fd : FuncData} (F : Fun K "law" "law" sLaw f fd) (T : Txt K mg ad) (hM : HasMods base) {f0 : Addr} {fd0 : FuncData} (cLawSundial : Cal P w K mg base "_law_sundial" 1 f0 fd0 ["script"] (spBox K)) {f1 : Addr} {fd1 : FuncData} (cLawOne : Cal P w K mg base "_law_one" 2 f1 fd1 ["sundial", "some"] (spOf K)) {f2 : Addr} {fd2 : FuncData} (cLawRound : Cal P w K mg base "_law_round" 1 f2 fd2 ["number", "clock"] spRound) {f3 : Addr} {fd3 : FuncData} (cLawGnomon : Cal P w K mg base "_law_gnomon" 1 f3 fd3 ["sundial", "many"] spDraw) {f4 : Addr} {fd4 : FuncData} (cLawRowsRight : Cal P w K mg base "_law_rows_right" 8 f4 fd4 ["sundial", "clock"] spRowsRight) {f5 : Addr} {fd5 : FuncData} (cLawRefusedRight : Cal P w K mg base "_law_refused_right" 14 f5 fd5 ["sundial", "clock"] (spRefused P0)) {f6 : Addr} {fd6 : FuncData} (cNumberOf : CalX P w K mg base "number_of" 4 f6 fd6 ["clock", "value"] (spNumberOf ad)) (kNumberOf_value_clock : KBx K fd6 ["clock", "value"] 0 ["value", "clock"] [1, 0]) {f7 : Addr} {fd7 : FuncData} (cInverse : CalX P w K mg base "inverse" 4 f7 fd7 ["clock", "number"] (spInverse ad)) (kInverse_number_clock : KBx K fd7 ["clock", "number"] 0 ["number", "clock"] [1, 0])  : FnG P w K mg base 15 f fd ["script"] (spLaw6 P0 K) := by
  refine fng F scLaw (fun {vs H Q E} h => ?_) (fun {cdv A fr s H vs Q E} hg hr h => ?_)
  · obtain ⟨a, ns, rfl, hS, tb, k⟩ := h
    rfl
  · obtain ⟨a, ns, rfl, hS, tb, k⟩ := h
    refine ⟨_, (pss_cons (ps_set (i := 1) scLaw.nd rfl (Or.inl rfl) (pe_go cLawSundial hg (hr.mono (by decide)) (by rfl) (pa_cons (pv 0) pa_nil)))
  (pss_cons (ps_for PassesOwn.never rfl (pi_range1 (by rfl) T.z_range (pa_cons pe_int pa_nil)) (pg_name (i := 2) scLaw.nd rfl (Or.inl rfl))
  (pss_cons (ps_set (i := 3) scLaw.nd rfl (Or.inr rfl) (pe_go cLawOne hg (hr.mono (by decide)) (by rfl) (pa_cons (pv 1) (pa_cons (pe_lst (pa_cons pe_int (pa_cons pe_int (pa_cons pe_int (pa_cons pe_int (pa_cons pe_int (pa_cons pe_int (pa_cons pe_int (pa_cons pe_int (pa_cons pe_int (pa_cons pe_int pa_nil))))))))))) pa_nil))))
  (pss_cons (ps_set (i := 4) scLaw.nd rfl (Or.inl rfl) (pe_lst (pa_cons (pe_op op_sub (pe_go cLawGnomon hg (hr.mono (by decide)) (by rfl) (pa_cons (pv 1) (pa_cons pe_int pa_nil))) pe_int) (pa_cons (pe_op op_sub (pe_op op_pow pe_int pe_int) (pe_go cLawGnomon hg (hr.mono (by decide)) (by rfl) (pa_cons (pv 1) (pa_cons pe_int pa_nil)))) (pa_cons (pe_op op_mul (pv 3) (pe_go cLawGnomon hg (hr.mono (by decide)) (by rfl) (pa_cons (pv 1) (pa_cons pe_int pa_nil)))) (pa_cons (pe_un un_neg (pv 3)) (pa_cons (pv 3) (pa_cons (pe_op op_sub (pe_go cLawGnomon hg (hr.mono (by decide)) (by rfl) (pa_cons (pv 1) (pa_cons pe_int pa_nil))) (pe_op op_pow pe_int pe_int)) pa_nil))))))))
  (pss_cons (ps_set (i := 5) scLaw.nd rfl (Or.inl rfl) (pe_go cLawOne hg (hr.mono (by decide)) (by rfl) (pa_cons (pv 1) (pa_cons (pv 4) pa_nil))))
  (pss_cons (ps_set (i := 6) scLaw.nd rfl (Or.inl rfl) (pe_go cLawRound hg (hr.mono (by decide)) (by rfl) (pa_cons (pv 5) (pa_cons (pv 3) pa_nil))))
  (pss_cons (ps_if (pt_cmpR op_ne (pe_callB (call_reprA hr hg hM) (by rfl) T.z_repr (by decide +kernel) (pa_cons (pe_lst (pa_cons (pe_goX cNumberOf (hr.mono (by decide)) (by rfl) (pa_cons (pv 3) (pa_cons (pv 5) pa_nil))) (pa_cons (pe_kwX cNumberOf kNumberOf_value_clock (hr.mono (by decide)) (by rfl) (pk_cons (pv 5) (pk_cons (pv 3) pk_nil))) pa_nil))) pa_nil)) (pe_callB (call_reprA hr hg hM) (by rfl) T.z_repr (by decide +kernel) (pa_cons (pe_lst (pa_cons (pv 6) (pa_cons (pv 6) pa_nil))) pa_nil)) (nomark _))
  (pss_one (ps_ret pe_bl))
  pss_nil)
  (pss_cons (ps_set (i := 7) scLaw.nd rfl (Or.inr rfl) (pe_go cLawOne hg (hr.mono (by decide)) (by rfl) (pa_cons (pv 1) (pa_cons (pe_lst (pa_cons (pe_op op_add pe_int (pe_go cLawGnomon hg (hr.mono (by decide)) (by rfl) (pa_cons (pv 1) (pa_cons (pe_op op_sub (pv 3) pe_int) pa_nil)))) (pa_cons pe_int (pa_cons (pe_op op_sub (pv 3) pe_int) pa_nil)))) pa_nil))))
  (pss_cons (ps_set (i := 8) scLaw.nd rfl (Or.inl rfl) (pe_ix ix_list (pe_lc (own := [("each", 9)]) (g := gName 9)  rfl scLaw.nd (pi_range2 (by rfl) T.z_range (pa_cons pe_int (pa_cons (pv 3) pa_nil))) (blkOk_by (own := [("each", 9)]) (N := ["script", "sundial", "turn", "clock", "some", "value", "due", "number", "partner", "each"]) (sc := defScope sLaw) (by decide +kernel)) (fun _ _ _ _ _ => (pg_name (i := 9) scLaw.nd rfl (Or.inl rfl))) (fun _ _ _ _ _ => (pts_one (pt_cmpR op_eq (pe_go cLawRound hg (hr.mono (by decide)) (by rfl) (pa_cons (pe_op op_mul (pv 7) (pv 9)) (pa_cons (pv 3) pa_nil))) pe_int (nomark _)))) (fun _ _ _ _ _ => (pv 9))) pe_int (fun _ _ => rfl)))
  (pss_cons (ps_if (pt_cmpR op_ne (pe_callB (call_reprA hr hg hM) (by rfl) T.z_repr (by decide +kernel) (pa_cons (pe_lst (pa_cons (pe_goX cInverse (hr.mono (by decide)) (by rfl) (pa_cons (pv 3) (pa_cons (pv 7) pa_nil))) (pa_cons (pe_kwX cInverse kInverse_number_clock (hr.mono (by decide)) (by rfl) (pk_cons (pv 7) (pk_cons (pv 3) pk_nil))) (pa_cons (pe_goX cInverse (hr.mono (by decide)) (by rfl) (pa_cons (pv 3) (pa_cons (pv 8) pa_nil))) pa_nil)))) pa_nil)) (pe_callB (call_reprA hr hg hM) (by rfl) T.z_repr (by decide +kernel) (pa_cons (pe_lst (pa_cons (pv 8) (pa_cons (pv 8) (pa_cons (pv 7) pa_nil)))) pa_nil)) (nomark _))
  (pss_one (ps_ret pe_bl))
  pss_nil)
  (pss_one (ps_if (PW.pt (pw_or (pt_not (pt_val (pe_go cLawRowsRight hg (hr.mono (by decide)) (by rfl) (pa_cons (pv 1) (pa_cons (pv 3) pa_nil))))) (pw_or1 (pt_not (pt_val (pe_go cLawRefusedRight hg (hr.mono (by decide)) (by rfl) (pa_cons (pv 1) (pa_cons (pv 3) pa_nil))))))))
  (pss_one (ps_ret pe_bl))
  pss_nil)))))))))))
  (pss_one (ps_ret pe_bl)))), ?_⟩
    refine r_start (l := [some (.ref a), none, none, none, none, none, none, none, none, none]) rfl ?_
    walk_at "rds"
    refine ⟨a, ns, rfl, hS, fun H1 q c ns' D1 s1 nq => ?_⟩
    replace tb := tabs_same tb s1
    walk_at "rds"
    refine ⟨_, rfl, by decide, by decide, ?_⟩
    refine for_range (lo := 0) (n := 4) (fun i σ G => ∃ (x2 x3 x4 x5 x6 x7 x8 x9 : Option V) (lp : Nat), σ = [some (.ref a), some (.ref q), x2, x3, x4, x5, x6, x7, x8, x9] ∧ lp ≤ 2000 * i ∧ Dr q c ns' lp G ∧ Tabs [(P0, qLam)] G) ⟨_, _, _, _, _, _, _, _, _, rfl, Nat.zero_le _, D1, tb⟩ ?_ ?_
    rotate_left
    · rintro σ G ⟨x2, x3, x4, x5, x6, x7, x8, x9, lp, rfl, hlp, D0, tb⟩
      walk_at "rds"
      exact k _
    rintro i σ G hi ⟨x2, x3, x4, x5, x6, x7, x8, x9, lap, rfl, hlp, D0, tb⟩
    have hlap : lap < 2 ^ 20 - 4000 := by omega
    have hD := D0
    have hD0 := D0
    clear D1 s1 hS
    have B0 : But q G G := But.refl _ _
    walk_at "rds"
    refine ⟨len_ok rfl, fun p1 hp1 => ?_⟩
    generalize hG1 : upd G p1 _ = H1
    obtain ⟨D1, B1, b1, np1, ep1⟩ := alloc hG1 D0 B0 hp1
    clear hG1
    walk_at "rds"
    refine ⟨_, _, _, _, _, _, rfl, SqL.of ep1, Nat.zero_lt_succ _, lt_ok rfl, by omega, np1, D1, fun H2 l2 i2 v2 hl2 D2 b2 e2 => ?_⟩
    have pv2 := EachP.get (F := fun v => ∃ cl : Int, v = .int cl ∧ clk (.int cl) = true ∧ 3 ≤ cl ∧ cl ≤ 31) (.cons ⟨_, rfl, by decide +kernel, by decide, by decide⟩ (.cons ⟨_, rfl, by decide +kernel, by decide, by decide⟩ (.cons ⟨_, rfl, by decide +kernel, by decide, by decide⟩ (.cons ⟨_, rfl, by decide +kernel, by decide, by decide⟩ (.cons ⟨_, rfl, by decide +kernel, by decide, by decide⟩ (.cons ⟨_, rfl, by decide +kernel, by decide, by decide⟩ (.cons ⟨_, rfl, by decide +kernel, by decide, by decide⟩ (.cons ⟨_, rfl, by decide +kernel, by decide, by decide⟩ (.cons ⟨_, rfl, by decide +kernel, by decide, by decide⟩ (.cons ⟨_, rfl, by decide +kernel, by decide, by decide⟩ .nil)))))))))) e2
    have B2 := B1.trans b2
    replace ep1 := b2 _ _ np1 ep1
    obtain ⟨cl, rfl, hck, h3, h31⟩ := pv2
    walk_at "rds"
    refine ⟨_, _, _, _, _, rfl, by decide, by decide, by omega, D2, fun H3 l3 r3 hl3 D3 b3 m3 n3 => ?_⟩
    have B3 := B2.trans b3
    replace ep1 := b3 _ _ np1 ep1
    walk_at "rds"
    refine r_I ⟨by decide, by decide, by decide⟩ ?_
    walk_at "rds"
    refine ⟨_, _, _, _, _, rfl, by decide, by decide, by omega, D3, fun H4 l4 r4 hl4 D4 b4 m4 n4 => ?_⟩
    have B4 := B3.trans b4
    replace ep1 := b4 _ _ np1 ep1
    walk_at "rds"
    refine ⟨_, _, _, _, _, rfl, by omega, by omega, by omega, D4, fun H5 l5 r5 hl5 D5 b5 m5 n5 => ?_⟩
    have B5 := B4.trans b5
    replace ep1 := b5 _ _ np1 ep1
    walk_at "rds"
    refine r_I (.inl ⟨by omega, by omega⟩) ?_
    walk_at "rds"
    refine ⟨_, _, _, _, _, rfl, by decide, by decide, by omega, D5, fun H6 l6 r6 hl6 D6 b6 m6 n6 => ?_⟩
    have B6 := B5.trans b6
    replace ep1 := b6 _ _ np1 ep1
    walk_at "rds"
    refine r_I ⟨by decide, by decide, by decide⟩ ?_
    walk_at "rds"
    refine ⟨len_ok rfl, fun p7 hp7 => ?_⟩
    generalize hG7 : upd H6 p7 _ = H7
    obtain ⟨D7, B7, b7, np7, ep7⟩ := alloc hG7 D6 B6 hp7
    clear hG7
    replace ep1 := b7 _ _ np1 ep1
    walk_at "rds"
    refine ⟨_, _, _, _, _, _, rfl, SqL.of ep7, Nat.zero_lt_succ _, lt_ok rfl, by omega, np7, D7, fun H8 l8 i8 v8 hl8 D8 b8 e8 => ?_⟩
    have pv8 := EachP.get (F := fun v => ∃ i : Int, v = .int i) (.cons ⟨_, rfl⟩ (.cons ⟨_, rfl⟩ (.cons ⟨_, rfl⟩ (.cons ⟨_, rfl⟩ (.cons ⟨_, rfl⟩ (.cons ⟨_, rfl⟩ .nil)))))) e8
    have B8 := B7.trans b8
    replace ep1 := b8 _ _ np1 ep1
    replace ep7 := b8 _ _ np7 ep7
    obtain ⟨val, rfl⟩ := pv8
    walk_at "rds"
    refine ⟨_, _, rfl, h3, h31, ?_⟩
    walk_at "rds"
    have DA := D8
    have BA := B8
    generalize hHA : H8 = HA at DA BA ⊢
    clear e8 ep7 ep1 hHA
    have fr0 := fmod_in (i := val) (j := cl) (by omega)
    refine ⟨q, _, _, rfl, .num _, .num _, fun e => (by cases e.symm.trans hck), fun cl2 y1 y2 => ⟨fun z => (by cases z), fun i2 z => ?_⟩⟩
    cases y1
    cases z
    clear y2
    walk_at "rds"
    refine ⟨rfl, rfl, q, _, _, rfl, .num _, .num _, fun e => (by cases e.symm.trans hck), fun cl2 y1 y2 => ⟨fun z => (by cases z), fun i2 z => ?_⟩⟩
    cases y1
    cases z
    clear y2
    walk_at "rds"
    refine ⟨len_ok rfl, fun k1 hk1 => ?_⟩
    generalize hG : upd HA k1 _ = G1
    obtain ⟨s1, e1⟩ := neu hG hk1
    clear hG
    walk_at "rds"
    have fv : ∀ x ∈ [val.fmod cl, val.fmod cl], 0 ≤ x ∧ x ≤ 31 := by
      intro x m
      simp only [List.mem_cons, List.not_mem_nil, or_false, or_self] at m
      omega
    refine r_reprA (d := .list ([val.fmod cl, val.fmod cl].map PyData.int)) (.lst (SqL.of e1) (dd_ints [val.fmod cl, val.fmod cl])) (ints_fit fv (le_ok rfl)) ?_
    walk_at "rds"
    refine ⟨len_ok rfl, fun k2 hk2 => ?_⟩
    generalize hG : upd G1 k2 _ = G2
    obtain ⟨s2, e2⟩ := neu hG hk2
    clear hG
    walk_at "rds"
    refine r_reprA (d := .list ([val.fmod cl, val.fmod cl].map PyData.int)) (.lst (SqL.of e2) (dd_ints [val.fmod cl, val.fmod cl])) (ints_fit fv (le_ok rfl)) ?_
    walk_at "rds"
    refine r_ne_same ?_
    have DB := DA.same (s1.trans s2)
    have BB := BA.trans (same_but (s1.trans s2))
    clear s1 s2 e1 e2 hk1 hk2 fv fr0 DA BA
    walk_at "rds"
    refine ⟨_, _, _, _, _, rfl, by omega, by omega, by omega, DB, fun H9 l9 r9 hl9 D9 b9 m9 n9 => ?_⟩
    have B9 := BB.trans b9
    walk_at "rds"
    refine ⟨len_ok rfl, fun p10 hp10 => ?_⟩
    generalize hG10 : upd H9 p10 _ = H10
    obtain ⟨D10, B10, b10, np10, ep10⟩ := alloc hG10 D9 B9 hp10
    clear hG10
    walk_at "rds"
    refine ⟨_, _, _, _, _, _, rfl, SqL.of ep10, Nat.zero_lt_succ _, lt_ok rfl, by omega, np10, D10, fun H11 l11 i11 v11 hl11 D11 b11 e11 => ?_⟩
    have pv11 := EachP.get (F := IntIn 1 (cl - 1)) (.cons ⟨_, rfl, by omega, by omega⟩ (.cons ⟨_, rfl, by omega, by omega⟩ (.cons ⟨_, rfl, by omega, by omega⟩ .nil))) e11
    have B11 := B10.trans b11
    replace ep10 := b11 _ _ np10 ep10
    obtain ⟨nu, rfl, nu0, nu1⟩ := pv11
    walk_at "rds"
    have DC := D11
    have BC := B11
    generalize hHA : H11 = HC at DC BC ⊢
    clear hHA ep10
    clear e11
    obtain ⟨m1, m2, m3⟩ := mates_one hck nu0 nu1
    refine ⟨1, cl, rfl, ⟨by omega, by omega, by omega, by omega⟩, fun D hD => ?_⟩
    refine lc_range (lo := 1) (n := (cl - 1).toNat) (fun i G => G D = some (.lst ((mates cl nu i).map V.int)) ∧ ∀ b o, b ≠ D → HC b = some o → G b = some o) ⟨upd_same, fun b o nb eb => by rw [upd_ne nb]; exact eb⟩ ?_ ?_
    · rintro j G hj ⟨hG, s⟩
      walk_at "rds"
      refine ⟨rfl, ?_⟩
      walk_at "rds"
      refine r_I (.inl ⟨by omega, by omega⟩) ?_
      walk_at "rds"
      refine ⟨_, _, rfl, h3, h31, ?_⟩
      walk_at "rds"
      refine ⟨rfl, ?_⟩
      walk_at "rds"
      by_cases hm : (nu * (1 + (j : Int))).fmod cl = 1
      · rw [hm, decide_eq_true rfl]
        walk_at "rds"
        refine ⟨_, hG, ?_, ?_, fun b o nb eb => ?_⟩
        · rw [List.length_map]
          exact Nat.lt_of_le_of_lt (mates_len _ _ _) (small1000 (by omega))
        · rw [upd_same, mates_succ, if_pos hm, List.map_append]
          rfl
        · rw [upd_ne nb]
          exact s b o nb eb
      · rw [decide_eq_false (fun z => hm (V.int.inj z))]
        walk_at "rds"
        refine ⟨?_, s⟩
        rw [mates_succ, if_neg hm, List.append_nil]
        exact hG
    rintro G3 ⟨hG3, s3⟩
    rw [m1] at hG3
    replace s3 : Same HC G3 := fun b o eb => s3 b o (ne_of_none eb hD) eb
    walk_at "rds"
    refine r_ixL (SqL.of hG3) rfl ?_
    walk_at "rds"
    have m4 := (powF_in (cl := cl) (n := nu) (by omega) (cl - 2).toNat).2
    generalize hpt : powF cl nu (cl - 2).toNat = pt at m2 m3 m4 hG3 ⊢
    refine ⟨q, _, _, rfl, .num _, .num _, fun e => (by cases e.symm.trans hck), fun cl2 y1 y2 => ?_⟩
    cases y1
    refine ⟨fun z => (by cases (inB_yes (by omega) (by omega)).symm.trans z), fun z => (by have := V.int.inj z; omega), fun i2 y3 y4 y5 => ?_⟩
    cases y3
    rw [hpt]
    clear y2 y4 y5
    walk_at "rds"
    refine ⟨rfl, rfl, q, _, _, rfl, .num _, .num _, fun e => (by cases e.symm.trans hck), fun cl2 y1 y2 => ?_⟩
    cases y1
    refine ⟨fun z => (by cases (inB_yes (by omega) (by omega)).symm.trans z), fun z => (by have := V.int.inj z; omega), fun i2 y3 y4 y5 => ?_⟩
    cases y3
    rw [hpt]
    clear y2 y4 y5
    walk_at "rds"
    refine ⟨q, _, _, rfl, .num _, .num _, fun e => (by cases e.symm.trans hck), fun cl2 y1 y2 => ?_⟩
    cases y1
    refine ⟨fun z => (by cases (inB_yes (by omega) (by omega)).symm.trans z), fun z => (by have := V.int.inj z; omega), fun i2 y3 y4 y5 => ?_⟩
    cases y3
    rw [m2]
    clear y2 y4 y5
    walk_at "rds"
    refine ⟨len_ok rfl, fun k1 hk1 => ?_⟩
    generalize hG : upd G3 k1 _ = G4
    obtain ⟨s4, e4⟩ := neu hG hk1
    clear hG
    walk_at "rds"
    have fv : ∀ x ∈ [pt, pt, nu], 0 ≤ x ∧ x ≤ 31 := by
      intro x m
      simp only [List.mem_cons, List.not_mem_nil, or_false] at m
      omega
    refine r_reprA (d := .list ([pt, pt, nu].map PyData.int)) (.lst (SqL.of e4) (dd_ints [pt, pt, nu])) (ints_fit fv (le_ok rfl)) ?_
    walk_at "rds"
    refine ⟨len_ok rfl, fun k2 hk2 => ?_⟩
    generalize hG : upd G4 k2 _ = G5
    obtain ⟨s5, e5⟩ := neu hG hk2
    clear hG
    walk_at "rds"
    refine r_reprA (d := .list ([pt, pt, nu].map PyData.int)) (.lst (SqL.of e5) (dd_ints [pt, pt, nu])) (ints_fit fv (le_ok rfl)) ?_
    walk_at "rds"
    refine r_ne_same ?_
    have ss := (s3.trans s4).trans s5
    have DE := DC.same ss
    have BE := BC.trans (same_but ss)
    clear s3 s4 s5 e4 e5 hk1 hk2 fv hG3 hD ss DC BC m1 m2 m3 m4 hpt
    obtain ⟨_, ⟨_, hqb⟩, _, _⟩ := id hD0
    replace tb := tabs_but BE hqb tb
    walk_at "rds"
    refine ⟨q, c, ns', _, cl, rfl, hck, h3, h31, by omega, DE, fun H' lap' hl' D' B' => ?_⟩
    obtain ⟨_, ⟨_, hqb⟩, _, _⟩ := id DE
    replace tb := tabs_but B' hqb tb
    walk_at "rds"
    refine ⟨q, c, ns', _, cl, rfl, hck, h3, h31, by omega, D', tb, fun H2 lap2 hl2 D2 tb2 => ?_⟩
    walk_at "rds"
    exact ⟨_, _, _, _, _, _, _, _, _, rfl, by omega, D2, tb2⟩
end
end K06
namespace K06
open PySem PySem.Spec PyProof.Rows L2 Rp LamX RZ
def clsBody (i : Nat) : List Stmt := match top i with | .ClassDef (body := b) .. => b | _ => []
abbrev sIniBadNumber : Stmt := (clsBody 8).getD 0 (.Pass ⟨0, 0, 0, 0⟩)
theorem scIniBadNumber : FnScope ["self", "part"] ["self", "part"] (defScope sIniBadNumber) := ⟨rfl, rfl, rfl, by decide +kernel, rfl, by decide +kernel, by decide +kernel⟩
theorem ok_IniBadNumber {P : Program} {w : World} {K : PySem.W.Frag} {mg : Str → Option Value} {base : Heap} {C f : Addr} {fd : FuncData} (F : Fun K "__init__" "BadNumber.__init__" sIniBadNumber f fd) (O : OexC K C) (no : PySem.W.findIn K (.ref C) "part" = some none) : FnOk P w K mg base CX0 1 f fd ["self", "part"] (spIni1 C "part") := by
  refine F.ok scIniBadNumber (fun vs H Q E h => ?_) fun cdv A outer s H vs Q E hr h => ?_
  · obtain ⟨a, v, rfl, _⟩ := h
    rfl
  · obtain ⟨a, v, rfl, ha, k⟩ := h
    refine ⟨_, pss_one (ps_ost (pv 0) (pv 1)), ?_⟩
    refine r_start (l := [some (.ref a), some v]) rfl ?_
    refine ⟨_, rfl, ?_⟩
    refine ⟨_, rfl, ?_⟩
    exact ⟨a, C, rfl, O, no, .inl ⟨ha, fun dx n ne => k dx n ne⟩⟩
abbrev sIniBadClock : Stmt := (clsBody 9).getD 0 (.Pass ⟨0, 0, 0, 0⟩)
theorem scIniBadClock : FnScope ["self", "part"] ["self", "part"] (defScope sIniBadClock) := ⟨rfl, rfl, rfl, by decide +kernel, rfl, by decide +kernel, by decide +kernel⟩
theorem ok_IniBadClock {P : Program} {w : World} {K : PySem.W.Frag} {mg : Str → Option Value} {base : Heap} {C f : Addr} {fd : FuncData} (F : Fun K "__init__" "BadClock.__init__" sIniBadClock f fd) (O : OexC K C) (no : PySem.W.findIn K (.ref C) "part" = some none) : FnOk P w K mg base CX0 1 f fd ["self", "part"] (spIni1 C "part") := by
  refine F.ok scIniBadClock (fun vs H Q E h => ?_) fun cdv A outer s H vs Q E hr h => ?_
  · obtain ⟨a, v, rfl, _⟩ := h
    rfl
  · obtain ⟨a, v, rfl, ha, k⟩ := h
    refine ⟨_, pss_one (ps_ost (pv 0) (pv 1)), ?_⟩
    refine r_start (l := [some (.ref a), some v]) rfl ?_
    refine ⟨_, rfl, ?_⟩
    refine ⟨_, rfl, ?_⟩
    exact ⟨a, C, rfl, O, no, .inl ⟨ha, fun dx n ne => k dx n ne⟩⟩
abbrev sIniBadRow : Stmt := (clsBody 10).getD 0 (.Pass ⟨0, 0, 0, 0⟩)
theorem scIniBadRow : FnScope ["self", "part"] ["self", "part"] (defScope sIniBadRow) := ⟨rfl, rfl, rfl, by decide +kernel, rfl, by decide +kernel, by decide +kernel⟩
theorem ok_IniBadRow {P : Program} {w : World} {K : PySem.W.Frag} {mg : Str → Option Value} {base : Heap} {C f : Addr} {fd : FuncData} (F : Fun K "__init__" "BadRow.__init__" sIniBadRow f fd) (O : OexC K C) (no : PySem.W.findIn K (.ref C) "part" = some none) : FnOk P w K mg base CX0 1 f fd ["self", "part"] (spIni1 C "part") := by
  refine F.ok scIniBadRow (fun vs H Q E h => ?_) fun cdv A outer s H vs Q E hr h => ?_
  · obtain ⟨a, v, rfl, _⟩ := h
    rfl
  · obtain ⟨a, v, rfl, ha, k⟩ := h
    refine ⟨_, pss_one (ps_ost (pv 0) (pv 1)), ?_⟩
    refine r_start (l := [some (.ref a), some v]) rfl ?_
    refine ⟨_, rfl, ?_⟩
    refine ⟨_, rfl, ?_⟩
    exact ⟨a, C, rfl, O, no, .inl ⟨ha, fun dx n ne => k dx n ne⟩⟩
abbrev sIniMisfit : Stmt := (clsBody 11).getD 0 (.Pass ⟨0, 0, 0, 0⟩)
theorem scIniMisfit : FnScope ["self", "part"] ["self", "part"] (defScope sIniMisfit) := ⟨rfl, rfl, rfl, by decide +kernel, rfl, by decide +kernel, by decide +kernel⟩
theorem ok_IniMisfit {P : Program} {w : World} {K : PySem.W.Frag} {mg : Str → Option Value} {base : Heap} {C f : Addr} {fd : FuncData} (F : Fun K "__init__" "Misfit.__init__" sIniMisfit f fd) (O : OexC K C) (no : PySem.W.findIn K (.ref C) "part" = some none) : FnOk P w K mg base CX0 1 f fd ["self", "part"] (spIni1 C "part") := by
  refine F.ok scIniMisfit (fun vs H Q E h => ?_) fun cdv A outer s H vs Q E hr h => ?_
  · obtain ⟨a, v, rfl, _⟩ := h
    rfl
  · obtain ⟨a, v, rfl, ha, k⟩ := h
    refine ⟨_, pss_one (ps_ost (pv 0) (pv 1)), ?_⟩
    refine r_start (l := [some (.ref a), some v]) rfl ?_
    refine ⟨_, rfl, ?_⟩
    refine ⟨_, rfl, ?_⟩
    exact ⟨a, C, rfl, O, no, .inl ⟨ha, fun dx n ne => k dx n ne⟩⟩
theorem all_mk {l : PySem.W.OpenLaw} {w : World} {K : PySem.W.Frag} {h : Heap} {mg : Str → Option Value} {fa : Addr} {P0 : Addr} (X : K.In h) (G : h.Ns mainGlobals mg) (hfa : mg "law" = some (.ref fa))
    {f0 : Addr} {od0 an0 : Option Addr} {sl0 : Array (Option Value)} {oc0 kV0 dc0 pm0 cd0 ct0 : Value}
    {f1 : Addr} {od1 an1 : Option Addr} {sl1 : Array (Option Value)} {oc1 kV1 dc1 pm1 cd1 ct1 : Value}
    {f2 : Addr} {od2 an2 : Option Addr} {sl2 : Array (Option Value)} {oc2 kV2 dc2 pm2 cd2 ct2 : Value}
    {f3 : Addr} {od3 an3 : Option Addr} {sl3 : Array (Option Value)} {oc3 kV3 dc3 pm3 cd3 ct3 : Value}
    {f4 : Addr} {od4 an4 : Option Addr} {sl4 : Array (Option Value)} {oc4 kV4 dc4 pm4 cd4 ct4 : Value}
    {f5 : Addr} {od5 an5 : Option Addr} {sl5 : Array (Option Value)} {oc5 kV5 dc5 pm5 cd5 ct5 : Value}
    {f6 : Addr} {od6 an6 : Option Addr} {sl6 : Array (Option Value)} {oc6 kV6 dc6 pm6 cd6 ct6 : Value}
    {f7 : Addr} {od7 an7 : Option Addr} {sl7 : Array (Option Value)} {oc7 kV7 dc7 pm7 cd7 ct7 : Value}
    {f8 : Addr} {od8 an8 : Option Addr} {sl8 : Array (Option Value)} {oc8 kV8 dc8 pm8 cd8 ct8 : Value}
    {f9 : Addr} {od9 an9 : Option Addr} {sl9 : Array (Option Value)} {oc9 kV9 dc9 pm9 cd9 ct9 : Value}
    {f10 : Addr} {od10 an10 : Option Addr} {sl10 : Array (Option Value)} {oc10 kV10 dc10 pm10 cd10 ct10 : Value}
    {f11 : Addr} {od11 an11 : Option Addr} {sl11 : Array (Option Value)} {oc11 kV11 dc11 pm11 cd11 ct11 : Value}
    {f12 : Addr} {od12 an12 : Option Addr} {sl12 : Array (Option Value)} {oc12 kV12 dc12 pm12 cd12 ct12 : Value}
    {f13 : Addr} {od13 an13 : Option Addr} {sl13 : Array (Option Value)} {oc13 kV13 dc13 pm13 cd13 ct13 : Value}
    {f14 : Addr} {od14 an14 : Option Addr} {sl14 : Array (Option Value)} {oc14 kV14 dc14 pm14 cd14 ct14 : Value}
    {f15 : Addr} {od15 an15 : Option Addr} {sl15 : Array (Option Value)} {oc15 kV15 dc15 pm15 cd15 ct15 : Value}
    {f16 : Addr} {od16 an16 : Option Addr} {sl16 : Array (Option Value)} {oc16 kV16 dc16 pm16 cd16 ct16 : Value}
    {f17 : Addr} {od17 an17 : Option Addr} {sl17 : Array (Option Value)} {oc17 kV17 dc17 pm17 cd17 ct17 : Value}
    {f18 cc18 : Addr} {od18 an18 : Option Addr} {sl18 : Array (Option Value)} {oc18 kV18 dc18 pm18 ct18 : Value}
    {f19 : Addr} {od19 an19 : Option Addr} {sl19 : Array (Option Value)} {oc19 kV19 dc19 pm19 cd19 ct19 : Value}
    {A_cN fi_cN : Addr} {nm_cN q_cN : Str} {N_cN : Addr} {bs_cN bm_cN : List Value} {sn_cN : List Str} {sub_cN : List Value} {ab_cN : Bool} {col_cN : Option Bool} {dd_cN : Option Addr} {k0_cN k1_cN k2_cN k3_cN k5_cN : Option Value} {od_cN an_cN : Option Addr} {sl_cN : Array (Option Value)} {oc_cN kV_cN dc_cN pm_cN cd_cN ct_cN : Value}
    {A_cC fi_cC : Addr} {nm_cC q_cC : Str} {N_cC : Addr} {bs_cC bm_cC : List Value} {sn_cC : List Str} {sub_cC : List Value} {ab_cC : Bool} {col_cC : Option Bool} {dd_cC : Option Addr} {k0_cC k1_cC k2_cC k3_cC k5_cC : Option Value} {od_cC an_cC : Option Addr} {sl_cC : Array (Option Value)} {oc_cC kV_cC dc_cC pm_cC cd_cC ct_cC : Value}
    {A_cR fi_cR : Addr} {nm_cR q_cR : Str} {N_cR : Addr} {bs_cR bm_cR : List Value} {sn_cR : List Str} {sub_cR : List Value} {ab_cR : Bool} {col_cR : Option Bool} {dd_cR : Option Addr} {k0_cR k1_cR k2_cR k3_cR k5_cR : Option Value} {od_cR an_cR : Option Addr} {sl_cR : Array (Option Value)} {oc_cR kV_cR dc_cR pm_cR cd_cR ct_cR : Value}
    {A_cM fi_cM : Addr} {nm_cM q_cM : Str} {N_cM : Addr} {bs_cM bm_cM : List Value} {sn_cM : List Str} {sub_cM : List Value} {ab_cM : Bool} {col_cM : Option Bool} {dd_cM : Option Addr} {k0_cM k1_cM k2_cM k3_cM k5_cM : Option Value} {od_cM an_cM : Option Addr} {sl_cM : Array (Option Value)} {oc_cM kV_cM dc_cM pm_cM cd_cM ct_cM : Value}
    {A_cE : Addr}
    {tp : Addr} {odC : Option Addr} {nC : Nat} {slC : Array (Option Value)} {t0 t1 t2 t3 t4 t5 t6 t7 t8 t9 tM : Tok}
    (g_cE : PySem.W.nsIn K mainGlobals "RopeError" = some (some (.ref A_cE)))
    (a0 : PySem.W.nsIn K mainGlobals "is_integer" = some (some (.ref f0))) (l0 : K.lookup f0 = some ⟨oc0, od0, .func (PySem.W.fnOf "is_integer" "is_integer" (defArgs sIsInteger) (defBody sIsInteger) (defScope sIsInteger) .none kV0 dc0 pm0 an0 cd0 ct0), sl0⟩) (c0 : PySem.W.codeIn K cd0 "is_integer" = true) (k0 : PySem.W.keepIn K (.ref f0) = true)
    (a1 : PySem.W.nsIn K mainGlobals "is_within" = some (some (.ref f1))) (l1 : K.lookup f1 = some ⟨oc1, od1, .func (PySem.W.fnOf "is_within" "is_within" (defArgs sIsWithin) (defBody sIsWithin) (defScope sIsWithin) .none kV1 dc1 pm1 an1 cd1 ct1), sl1⟩) (c1 : PySem.W.codeIn K cd1 "is_within" = true) (k1 : PySem.W.keepIn K (.ref f1) = true)
    (a2 : PySem.W.nsIn K mainGlobals "is_clock" = some (some (.ref f2))) (l2 : K.lookup f2 = some ⟨oc2, od2, .func (PySem.W.fnOf "is_clock" "is_clock" (defArgs sIsClock) (defBody sIsClock) (defScope sIsClock) .none kV2 dc2 pm2 an2 cd2 ct2), sl2⟩) (c2 : PySem.W.codeIn K cd2 "is_clock" = true) (k2 : PySem.W.keepIn K (.ref f2) = true)
    (a3 : PySem.W.nsIn K mainGlobals "is_row" = some (some (.ref f3))) (l3 : K.lookup f3 = some ⟨oc3, od3, .func (PySem.W.fnOf "is_row" "is_row" (defArgs sIsRow) (defBody sIsRow) (defScope sIsRow) .none kV3 dc3 pm3 an3 cd3 ct3), sl3⟩) (c3 : PySem.W.codeIn K cd3 "is_row" = true) (k3 : PySem.W.keepIn K (.ref f3) = true)
    (a4 : PySem.W.nsIn K mainGlobals "demand_clock" = some (some (.ref f4))) (l4 : K.lookup f4 = some ⟨oc4, od4, .func (PySem.W.fnOf "demand_clock" "demand_clock" (defArgs sDemandClock) (defBody sDemandClock) (defScope sDemandClock) .none kV4 dc4 pm4 an4 cd4 ct4), sl4⟩) (c4 : PySem.W.codeIn K cd4 "demand_clock" = true) (k4 : PySem.W.keepIn K (.ref f4) = true)
    (a5 : PySem.W.nsIn K mainGlobals "demand_within" = some (some (.ref f5))) (l5 : K.lookup f5 = some ⟨oc5, od5, .func (PySem.W.fnOf "demand_within" "demand_within" (defArgs sDemandWithin) (defBody sDemandWithin) (defScope sDemandWithin) .none kV5 dc5 pm5 an5 cd5 ct5), sl5⟩) (c5 : PySem.W.codeIn K cd5 "demand_within" = true) (k5 : PySem.W.keepIn K (.ref f5) = true)
    (a6 : PySem.W.nsIn K mainGlobals "demand_row" = some (some (.ref f6))) (l6 : K.lookup f6 = some ⟨oc6, od6, .func (PySem.W.fnOf "demand_row" "demand_row" (defArgs sDemandRow) (defBody sDemandRow) (defScope sDemandRow) .none kV6 dc6 pm6 an6 cd6 ct6), sl6⟩) (c6 : PySem.W.codeIn K cd6 "demand_row" = true) (k6 : PySem.W.keepIn K (.ref f6) = true)
    (a7 : PySem.W.nsIn K mainGlobals "number_of" = some (some (.ref f7))) (l7 : K.lookup f7 = some ⟨oc7, od7, .func (PySem.W.fnOf "number_of" "number_of" (defArgs sNumberOf) (defBody sNumberOf) (defScope sNumberOf) .none kV7 dc7 pm7 an7 cd7 ct7), sl7⟩) (c7 : PySem.W.codeIn K cd7 "number_of" = true) (k7 : PySem.W.keepIn K (.ref f7) = true)
    (a8 : PySem.W.nsIn K mainGlobals "inverse" = some (some (.ref f8))) (l8 : K.lookup f8 = some ⟨oc8, od8, .func (PySem.W.fnOf "inverse" "inverse" (defArgs sInverse) (defBody sInverse) (defScope sInverse) .none kV8 dc8 pm8 an8 cd8 ct8), sl8⟩) (c8 : PySem.W.codeIn K cd8 "inverse" = true) (k8 : PySem.W.keepIn K (.ref f8) = true)
    (a9 : PySem.W.nsIn K mainGlobals "row_sum" = some (some (.ref f9))) (l9 : K.lookup f9 = some ⟨oc9, od9, .func (PySem.W.fnOf "row_sum" "row_sum" (defArgs sRowSum) (defBody sRowSum) (defScope sRowSum) .none kV9 dc9 pm9 an9 cd9 ct9), sl9⟩) (c9 : PySem.W.codeIn K cd9 "row_sum" = true) (k9 : PySem.W.keepIn K (.ref f9) = true)
    (a10 : PySem.W.nsIn K mainGlobals "row_times" = some (some (.ref f10))) (l10 : K.lookup f10 = some ⟨oc10, od10, .func (PySem.W.fnOf "row_times" "row_times" (defArgs sRowTimes) (defBody sRowTimes) (defScope sRowTimes) .none kV10 dc10 pm10 an10 cd10 ct10), sl10⟩) (c10 : PySem.W.codeIn K cd10 "row_times" = true) (k10 : PySem.W.keepIn K (.ref f10) = true)
    (a11 : PySem.W.nsIn K mainGlobals "_law_sundial" = some (some (.ref f11))) (l11 : K.lookup f11 = some ⟨oc11, od11, .func (PySem.W.fnOf "_law_sundial" "_law_sundial" (defArgs sLawSundial) (defBody sLawSundial) (defScope sLawSundial) .none kV11 dc11 pm11 an11 cd11 ct11), sl11⟩) (c11 : PySem.W.codeIn K cd11 "_law_sundial" = true) (k11 : PySem.W.keepIn K (.ref f11) = true)
    (a12 : PySem.W.nsIn K mainGlobals "_law_gnomon" = some (some (.ref f12))) (l12 : K.lookup f12 = some ⟨oc12, od12, .func (PySem.W.fnOf "_law_gnomon" "_law_gnomon" (defArgs sLawGnomon) (defBody sLawGnomon) (defScope sLawGnomon) .none kV12 dc12 pm12 an12 cd12 ct12), sl12⟩) (c12 : PySem.W.codeIn K cd12 "_law_gnomon" = true) (k12 : PySem.W.keepIn K (.ref f12) = true)
    (a13 : PySem.W.nsIn K mainGlobals "_law_one" = some (some (.ref f13))) (l13 : K.lookup f13 = some ⟨oc13, od13, .func (PySem.W.fnOf "_law_one" "_law_one" (defArgs sLawOne) (defBody sLawOne) (defScope sLawOne) .none kV13 dc13 pm13 an13 cd13 ct13), sl13⟩) (c13 : PySem.W.codeIn K cd13 "_law_one" = true) (k13 : PySem.W.keepIn K (.ref f13) = true)
    (a14 : PySem.W.nsIn K mainGlobals "_law_round" = some (some (.ref f14))) (l14 : K.lookup f14 = some ⟨oc14, od14, .func (PySem.W.fnOf "_law_round" "_law_round" (defArgs sLawRound) (defBody sLawRound) (defScope sLawRound) .none kV14 dc14 pm14 an14 cd14 ct14), sl14⟩) (c14 : PySem.W.codeIn K cd14 "_law_round" = true) (k14 : PySem.W.keepIn K (.ref f14) = true)
    (a15 : PySem.W.nsIn K mainGlobals "_law_row" = some (some (.ref f15))) (l15 : K.lookup f15 = some ⟨oc15, od15, .func (PySem.W.fnOf "_law_row" "_law_row" (defArgs sLawRow) (defBody sLawRow) (defScope sLawRow) .none kV15 dc15 pm15 an15 cd15 ct15), sl15⟩) (c15 : PySem.W.codeIn K cd15 "_law_row" = true) (k15 : PySem.W.keepIn K (.ref f15) = true)
    (a16 : PySem.W.nsIn K mainGlobals "_law_heard" = some (some (.ref f16))) (l16 : K.lookup f16 = some ⟨oc16, od16, .func (PySem.W.fnOf "_law_heard" "_law_heard" (defArgs sLawHeard) (defBody sLawHeard) (defScope sLawHeard) .none kV16 dc16 pm16 an16 cd16 ct16), sl16⟩) (c16 : PySem.W.codeIn K cd16 "_law_heard" = true) (k16 : PySem.W.keepIn K (.ref f16) = true)
    (a17 : PySem.W.nsIn K mainGlobals "_law_rows_right" = some (some (.ref f17))) (l17 : K.lookup f17 = some ⟨oc17, od17, .func (PySem.W.fnOf "_law_rows_right" "_law_rows_right" (defArgs sLawRowsRight) (defBody sLawRowsRight) (defScope sLawRowsRight) .none kV17 dc17 pm17 an17 cd17 ct17), sl17⟩) (c17 : PySem.W.codeIn K cd17 "_law_rows_right" = true) (k17 : PySem.W.keepIn K (.ref f17) = true)
    (a18 : PySem.W.nsIn K mainGlobals "_law_refused_right" = some (some (.ref f18))) (l18 : K.lookup f18 = some ⟨oc18, od18, .func (PySem.W.fnOf "_law_refused_right" "_law_refused_right" (defArgs sLawRefusedRight) (defBody sLawRefusedRight) (defScope sLawRefusedRight) .none kV18 dc18 pm18 an18 (.ref cc18) ct18), sl18⟩) (c18 : PySem.W.codeIn K (.ref cc18) "_law_refused_right" = true) (k18 : PySem.W.keepIn K (.ref f18) = true)
    (a19 : PySem.W.nsIn K mainGlobals "law" = some (some (.ref f19))) (l19 : K.lookup f19 = some ⟨oc19, od19, .func (PySem.W.fnOf "law" "law" (defArgs sLaw) (defBody sLaw) (defScope sLaw) .none kV19 dc19 pm19 an19 cd19 ct19), sl19⟩) (c19 : PySem.W.codeIn K cd19 "law" = true) (k19 : PySem.W.keepIn K (.ref f19) = true)
    (z_abs : PySem.W.nsIn K mainGlobals "abs" = some none)
    (z_all : PySem.W.nsIn K mainGlobals "all" = some none)
    (z_bool : PySem.W.nsIn K mainGlobals "bool" = some none)
    (z_int : PySem.W.nsIn K mainGlobals "int" = some none)
    (z_isinstance : PySem.W.nsIn K mainGlobals "isinstance" = some none)
    (z_len : PySem.W.nsIn K mainGlobals "len" = some none)
    (z_list : PySem.W.nsIn K mainGlobals "list" = some none)
    (z_range : PySem.W.nsIn K mainGlobals "range" = some none)
    (z_repr : PySem.W.nsIn K mainGlobals "repr" = some none)
    (z_tuple : PySem.W.nsIn K mainGlobals "tuple" = some none)
    (z_zip : PySem.W.nsIn K mainGlobals "zip" = some none)
    (g_cN : PySem.W.nsIn K mainGlobals "BadNumber" = some (some (.ref A_cN)))
    (o_cN : K.lookup A_cN = some (excClassObj nm_cN q_cN A_cN N_cN bs_cN bm_cN true sn_cN sub_cN ab_cN col_cN dd_cN k0_cN k1_cN k2_cN k3_cN k5_cN "ValueError.__new__"))
    (r_cN : PySem.HandSPX.refsVE bm_cN = true)
    (sa_cN : PySem.W.findIn K (.ref A_cN) "__setattr__" = some (some (.builtin "object.__setattr__")))
    (ex_cN : PySem.W.subIn K (.ref A_cN) (.type "BaseException") = some true)
    (ty_cN : PySem.W.typeIn K (.ref A_cN) = some (.type "type"))
    (kc_cN : PySem.W.keepIn K (.ref A_cN) = true)
    (no_cN : PySem.W.findIn K (.ref A_cN) "part" = some none)
    (ga_cN : PySem.W.findIn K (.ref A_cN) "__getattribute__" = some (some (.builtin "BaseException.__getattribute__")))
    (gg_cN : PySem.W.findIn K (.ref A_cN) "__getattr__" = some none)
    (hd_cN : PySem.W.hasDictIn K A_cN = true)
    (ha_cN : PySem.W.findIn K (.ref A_cN) "__class__" = some (some (.builtin "object.__class__")))
    (hm_cN : PySem.W.mroIn K A_cN (.type "object") = some true)
    (in_cN : PySem.W.findIn K (.ref A_cN) "__init__" = some (some (.ref fi_cN)))
    (it_cN : PySem.W.typeIn K (.ref fi_cN) = some (.type "function"))
    (il_cN : K.lookup fi_cN = some ⟨oc_cN, od_cN, .func (PySem.W.fnOf "__init__" "BadNumber.__init__" (defArgs sIniBadNumber) (defBody sIniBadNumber) (defScope sIniBadNumber) .none kV_cN dc_cN pm_cN an_cN cd_cN ct_cN), sl_cN⟩)
    (ic_cN : PySem.W.codeIn K cd_cN "BadNumber.__init__" = true)
    (ik_cN : PySem.W.keepIn K (.ref fi_cN) = true)
    (up_cN : PySem.W.exmOne K (.ref A_cN) (.ref A_cE) = some true)
    (nn_cN : PySem.W.kitOne K (.type "NoneType") (.ref A_cN) = some false)
    (g_cC : PySem.W.nsIn K mainGlobals "BadClock" = some (some (.ref A_cC)))
    (o_cC : K.lookup A_cC = some (excClassObj nm_cC q_cC A_cC N_cC bs_cC bm_cC true sn_cC sub_cC ab_cC col_cC dd_cC k0_cC k1_cC k2_cC k3_cC k5_cC "ValueError.__new__"))
    (r_cC : PySem.HandSPX.refsVE bm_cC = true)
    (sa_cC : PySem.W.findIn K (.ref A_cC) "__setattr__" = some (some (.builtin "object.__setattr__")))
    (ex_cC : PySem.W.subIn K (.ref A_cC) (.type "BaseException") = some true)
    (ty_cC : PySem.W.typeIn K (.ref A_cC) = some (.type "type"))
    (kc_cC : PySem.W.keepIn K (.ref A_cC) = true)
    (no_cC : PySem.W.findIn K (.ref A_cC) "part" = some none)
    (ga_cC : PySem.W.findIn K (.ref A_cC) "__getattribute__" = some (some (.builtin "BaseException.__getattribute__")))
    (gg_cC : PySem.W.findIn K (.ref A_cC) "__getattr__" = some none)
    (hd_cC : PySem.W.hasDictIn K A_cC = true)
    (ha_cC : PySem.W.findIn K (.ref A_cC) "__class__" = some (some (.builtin "object.__class__")))
    (hm_cC : PySem.W.mroIn K A_cC (.type "object") = some true)
    (in_cC : PySem.W.findIn K (.ref A_cC) "__init__" = some (some (.ref fi_cC)))
    (it_cC : PySem.W.typeIn K (.ref fi_cC) = some (.type "function"))
    (il_cC : K.lookup fi_cC = some ⟨oc_cC, od_cC, .func (PySem.W.fnOf "__init__" "BadClock.__init__" (defArgs sIniBadClock) (defBody sIniBadClock) (defScope sIniBadClock) .none kV_cC dc_cC pm_cC an_cC cd_cC ct_cC), sl_cC⟩)
    (ic_cC : PySem.W.codeIn K cd_cC "BadClock.__init__" = true)
    (ik_cC : PySem.W.keepIn K (.ref fi_cC) = true)
    (up_cC : PySem.W.exmOne K (.ref A_cC) (.ref A_cE) = some true)
    (nn_cC : PySem.W.kitOne K (.type "NoneType") (.ref A_cC) = some false)
    (g_cR : PySem.W.nsIn K mainGlobals "BadRow" = some (some (.ref A_cR)))
    (o_cR : K.lookup A_cR = some (excClassObj nm_cR q_cR A_cR N_cR bs_cR bm_cR true sn_cR sub_cR ab_cR col_cR dd_cR k0_cR k1_cR k2_cR k3_cR k5_cR "ValueError.__new__"))
    (r_cR : PySem.HandSPX.refsVE bm_cR = true)
    (sa_cR : PySem.W.findIn K (.ref A_cR) "__setattr__" = some (some (.builtin "object.__setattr__")))
    (ex_cR : PySem.W.subIn K (.ref A_cR) (.type "BaseException") = some true)
    (ty_cR : PySem.W.typeIn K (.ref A_cR) = some (.type "type"))
    (kc_cR : PySem.W.keepIn K (.ref A_cR) = true)
    (no_cR : PySem.W.findIn K (.ref A_cR) "part" = some none)
    (ga_cR : PySem.W.findIn K (.ref A_cR) "__getattribute__" = some (some (.builtin "BaseException.__getattribute__")))
    (gg_cR : PySem.W.findIn K (.ref A_cR) "__getattr__" = some none)
    (hd_cR : PySem.W.hasDictIn K A_cR = true)
    (ha_cR : PySem.W.findIn K (.ref A_cR) "__class__" = some (some (.builtin "object.__class__")))
    (hm_cR : PySem.W.mroIn K A_cR (.type "object") = some true)
    (in_cR : PySem.W.findIn K (.ref A_cR) "__init__" = some (some (.ref fi_cR)))
    (it_cR : PySem.W.typeIn K (.ref fi_cR) = some (.type "function"))
    (il_cR : K.lookup fi_cR = some ⟨oc_cR, od_cR, .func (PySem.W.fnOf "__init__" "BadRow.__init__" (defArgs sIniBadRow) (defBody sIniBadRow) (defScope sIniBadRow) .none kV_cR dc_cR pm_cR an_cR cd_cR ct_cR), sl_cR⟩)
    (ic_cR : PySem.W.codeIn K cd_cR "BadRow.__init__" = true)
    (ik_cR : PySem.W.keepIn K (.ref fi_cR) = true)
    (up_cR : PySem.W.exmOne K (.ref A_cR) (.ref A_cE) = some true)
    (nn_cR : PySem.W.kitOne K (.type "NoneType") (.ref A_cR) = some false)
    (g_cM : PySem.W.nsIn K mainGlobals "Misfit" = some (some (.ref A_cM)))
    (o_cM : K.lookup A_cM = some (excClassObj nm_cM q_cM A_cM N_cM bs_cM bm_cM true sn_cM sub_cM ab_cM col_cM dd_cM k0_cM k1_cM k2_cM k3_cM k5_cM "ValueError.__new__"))
    (r_cM : PySem.HandSPX.refsVE bm_cM = true)
    (sa_cM : PySem.W.findIn K (.ref A_cM) "__setattr__" = some (some (.builtin "object.__setattr__")))
    (ex_cM : PySem.W.subIn K (.ref A_cM) (.type "BaseException") = some true)
    (ty_cM : PySem.W.typeIn K (.ref A_cM) = some (.type "type"))
    (kc_cM : PySem.W.keepIn K (.ref A_cM) = true)
    (no_cM : PySem.W.findIn K (.ref A_cM) "part" = some none)
    (ga_cM : PySem.W.findIn K (.ref A_cM) "__getattribute__" = some (some (.builtin "BaseException.__getattribute__")))
    (gg_cM : PySem.W.findIn K (.ref A_cM) "__getattr__" = some none)
    (hd_cM : PySem.W.hasDictIn K A_cM = true)
    (ha_cM : PySem.W.findIn K (.ref A_cM) "__class__" = some (some (.builtin "object.__class__")))
    (hm_cM : PySem.W.mroIn K A_cM (.type "object") = some true)
    (in_cM : PySem.W.findIn K (.ref A_cM) "__init__" = some (some (.ref fi_cM)))
    (it_cM : PySem.W.typeIn K (.ref fi_cM) = some (.type "function"))
    (il_cM : K.lookup fi_cM = some ⟨oc_cM, od_cM, .func (PySem.W.fnOf "__init__" "Misfit.__init__" (defArgs sIniMisfit) (defBody sIniMisfit) (defScope sIniMisfit) .none kV_cM dc_cM pm_cM an_cM cd_cM ct_cM), sl_cM⟩)
    (ic_cM : PySem.W.codeIn K cd_cM "Misfit.__init__" = true)
    (ik_cM : PySem.W.keepIn K (.ref fi_cM) = true)
    (up_cM : PySem.W.exmOne K (.ref A_cM) (.ref A_cE) = some true)
    (nn_cM : PySem.W.kitOne K (.type "NoneType") (.ref A_cM) = some false)
    (k_cN_cN : PySem.W.kitOne K (.ref A_cN) (.ref A_cN) = some true)
    (k_cN_cC : PySem.W.kitOne K (.ref A_cN) (.ref A_cC) = some false)
    (k_cN_cR : PySem.W.kitOne K (.ref A_cN) (.ref A_cR) = some false)
    (k_cN_cM : PySem.W.kitOne K (.ref A_cN) (.ref A_cM) = some false)
    (k_cC_cN : PySem.W.kitOne K (.ref A_cC) (.ref A_cN) = some false)
    (k_cC_cC : PySem.W.kitOne K (.ref A_cC) (.ref A_cC) = some true)
    (k_cC_cR : PySem.W.kitOne K (.ref A_cC) (.ref A_cR) = some false)
    (k_cC_cM : PySem.W.kitOne K (.ref A_cC) (.ref A_cM) = some false)
    (k_cR_cN : PySem.W.kitOne K (.ref A_cR) (.ref A_cN) = some false)
    (k_cR_cC : PySem.W.kitOne K (.ref A_cR) (.ref A_cC) = some false)
    (k_cR_cR : PySem.W.kitOne K (.ref A_cR) (.ref A_cR) = some true)
    (k_cR_cM : PySem.W.kitOne K (.ref A_cR) (.ref A_cM) = some false)
    (k_cM_cN : PySem.W.kitOne K (.ref A_cM) (.ref A_cN) = some false)
    (k_cM_cC : PySem.W.kitOne K (.ref A_cM) (.ref A_cC) = some false)
    (k_cM_cR : PySem.W.kitOne K (.ref A_cM) (.ref A_cR) = some false)
    (k_cM_cM : PySem.W.kitOne K (.ref A_cM) (.ref A_cM) = some true)
    (hn_ : PySem.W.specialIn K (.builtin "object.__class__") "__get__" = some (some (.builtin "getset_descriptor.__get__")))
    (ht_ : PySem.W.takesIn K (.builtin "object.__class__") = some true)
    (aC : PySem.W.nsIn K mainGlobals "CLOCKS" = some (some (.ref tp)))
    (lC : K.lookup tp = some ⟨.type "tuple", odC, .seq #[.int 3 t0, .int 5 t1, .int 7 t2, .int 11 t3, .int 13 t4, .int 17 t5, .int 19 t6, .int 23 t7, .int 29 t8, .int 31 t9] nC, slC⟩)
    (aM : PySem.W.nsIn K mainGlobals "MOST_NUMBERS" = some (some (.int 400 tM))) :
    ∃ fd : FuncData, (∀ (t : Shared) (v : Value), BindsTo t fd ⟨[v], []⟩ [("script", v)]) ∧ ∀ base : Heap, K.In base → base.Ns mainGlobals mg → HasMods base → (∀ p ∈ [(cc18, P0)], TabB base mg p.1 p.2) → FnG l.prog w K mg base 15 fa fd ["script"] (spLaw6 P0 K) := by
  have e := hfa.symm.trans (PySem.W.mg_of X G a19)
  cases e
  have CLK : ∀ {H : Hp}, SqT K H tp [.int 3, .int 5, .int 7, .int 11, .int 13, .int 17, .int 19, .int 23, .int 29, .int 31] := .inr ⟨_, _, _, lC, rfl, rfl, len_ok rfl,
    .cons ⟨_, rfl⟩ (.cons ⟨_, rfl⟩ (.cons ⟨_, rfl⟩ (.cons ⟨_, rfl⟩ (.cons ⟨_, rfl⟩ (.cons ⟨_, rfl⟩ (.cons ⟨_, rfl⟩ (.cons ⟨_, rfl⟩ (.cons ⟨_, rfl⟩ (.cons ⟨_, rfl⟩ .nil)))))))))⟩
  have T : Txt K mg (Ad.mk tp tM A_cN A_cC A_cR A_cM A_cE) := ⟨PySem.W.mg_of X G aC, CLK, PySem.W.mg_of X G aM, PySem.W.mg_of X G g_cN, PySem.W.mg_of X G g_cC, PySem.W.mg_of X G g_cR, PySem.W.mg_of X G g_cM, PySem.W.mg_of X G g_cE, PySem.W.mg_none_of X G z_abs, PySem.W.mg_none_of X G z_all, PySem.W.mg_none_of X G z_bool, PySem.W.mg_none_of X G z_int, PySem.W.mg_none_of X G z_isinstance, PySem.W.mg_none_of X G z_len, PySem.W.mg_none_of X G z_list, PySem.W.mg_none_of X G z_range, PySem.W.mg_none_of X G z_repr, PySem.W.mg_none_of X G z_tuple, PySem.W.mg_none_of X G z_zip⟩
  have O_cN : OexC K A_cN := ⟨⟨_, _, _, _, _, _, _, _, _, _, _, _, _, _, _, o_cN, r_cN⟩, sa_cN, ex_cN, ty_cN, kc_cN⟩
  have xf_cN : XfC K A_cN := ⟨ga_cN, gg_cN, ex_cN, hd_cN⟩
  have ec_cN : ExcC K A_cN := ⟨ga_cN, gg_cN, ex_cN, hd_cN, ha_cN, hn_, ht_, hm_cN⟩
  have FI_cN := fun_mk (st := sIniBadNumber) il_cN ic_cN ik_cN
  have bI_cN := FI_cN.binds (ps := ["self", "part"]) fun _ _ _ _ _ _ us hl => match us, hl with | [_, _], _ => rfl
  have O_cC : OexC K A_cC := ⟨⟨_, _, _, _, _, _, _, _, _, _, _, _, _, _, _, o_cC, r_cC⟩, sa_cC, ex_cC, ty_cC, kc_cC⟩
  have xf_cC : XfC K A_cC := ⟨ga_cC, gg_cC, ex_cC, hd_cC⟩
  have ec_cC : ExcC K A_cC := ⟨ga_cC, gg_cC, ex_cC, hd_cC, ha_cC, hn_, ht_, hm_cC⟩
  have FI_cC := fun_mk (st := sIniBadClock) il_cC ic_cC ik_cC
  have bI_cC := FI_cC.binds (ps := ["self", "part"]) fun _ _ _ _ _ _ us hl => match us, hl with | [_, _], _ => rfl
  have O_cR : OexC K A_cR := ⟨⟨_, _, _, _, _, _, _, _, _, _, _, _, _, _, _, o_cR, r_cR⟩, sa_cR, ex_cR, ty_cR, kc_cR⟩
  have xf_cR : XfC K A_cR := ⟨ga_cR, gg_cR, ex_cR, hd_cR⟩
  have ec_cR : ExcC K A_cR := ⟨ga_cR, gg_cR, ex_cR, hd_cR, ha_cR, hn_, ht_, hm_cR⟩
  have FI_cR := fun_mk (st := sIniBadRow) il_cR ic_cR ik_cR
  have bI_cR := FI_cR.binds (ps := ["self", "part"]) fun _ _ _ _ _ _ us hl => match us, hl with | [_, _], _ => rfl
  have O_cM : OexC K A_cM := ⟨⟨_, _, _, _, _, _, _, _, _, _, _, _, _, _, _, o_cM, r_cM⟩, sa_cM, ex_cM, ty_cM, kc_cM⟩
  have xf_cM : XfC K A_cM := ⟨ga_cM, gg_cM, ex_cM, hd_cM⟩
  have ec_cM : ExcC K A_cM := ⟨ga_cM, gg_cM, ex_cM, hd_cM, ha_cM, hn_, ht_, hm_cM⟩
  have FI_cM := fun_mk (st := sIniMisfit) il_cM ic_cM ik_cM
  have bI_cM := FI_cM.binds (ps := ["self", "part"]) fun _ _ _ _ _ _ us hl => match us, hl with | [_, _], _ => rfl
  have T2 : HdT K (Ad.mk tp tM A_cN A_cC A_cR A_cM A_cE) := ⟨⟨ec_cC, xf_cC, no_cC, up_cC, nn_cC⟩, ⟨ec_cN, xf_cN, no_cN, up_cN, nn_cN⟩, ⟨ec_cR, xf_cR, no_cR, up_cR, nn_cR⟩, ⟨ec_cM, xf_cM, no_cM, up_cM, nn_cM⟩, k_cC_cC, k_cC_cN, k_cC_cR, k_cC_cM, k_cN_cC, k_cN_cN, k_cN_cR, k_cN_cM, k_cR_cC, k_cR_cN, k_cR_cR, k_cR_cM, k_cM_cC, k_cM_cN, k_cM_cR, k_cM_cM⟩
  have F0 := fun_mk (st := sIsInteger) l0 c0 k0
  have b0 := F0.binds (ps := ["value"]) fun _ _ _ _ _ _ us hl => match us, hl with | [_], _ => rfl
  have F1 := fun_mk (st := sIsWithin) l1 c1 k1
  have b1 := F1.binds (ps := ["value", "least", "most"]) fun _ _ _ _ _ _ us hl => match us, hl with | [_, _, _], _ => rfl
  have F2 := fun_mk (st := sIsClock) l2 c2 k2
  have b2 := F2.binds (ps := ["value"]) fun _ _ _ _ _ _ us hl => match us, hl with | [_], _ => rfl
  have F3 := fun_mk (st := sIsRow) l3 c3 k3
  have b3 := F3.binds (ps := ["value", "clock", "size"]) fun _ _ _ _ _ _ us hl => match us, hl with | [_, _, _], _ => rfl
  have F4 := fun_mk (st := sDemandClock) l4 c4 k4
  have b4 := F4.binds (ps := ["clock"]) fun _ _ _ _ _ _ us hl => match us, hl with | [_], _ => rfl
  have F5 := fun_mk (st := sDemandWithin) l5 c5 k5
  have b5 := F5.binds (ps := ["value", "least", "most", "part"]) fun _ _ _ _ _ _ us hl => match us, hl with | [_, _, _, _], _ => rfl
  have F6 := fun_mk (st := sDemandRow) l6 c6 k6
  have b6 := F6.binds (ps := ["row", "clock", "least", "most", "part"]) fun _ _ _ _ _ _ us hl => match us, hl with | [_, _, _, _, _], _ => rfl
  have F7 := fun_mk (st := sNumberOf) l7 c7 k7
  have b7 := F7.binds (ps := ["clock", "value"]) fun _ _ _ _ _ _ us hl => match us, hl with | [_, _], _ => rfl
  have kNumberOf_value_clock : KBx K _ ["clock", "value"] 0 ["value", "clock"] [1, 0] := kb_of F7 fun _ _ _ _ _ _ us ws h1 h2 => match us, ws, h1, h2 with | [], [_, _], _, _ => rfl
  have F8 := fun_mk (st := sInverse) l8 c8 k8
  have b8 := F8.binds (ps := ["clock", "number"]) fun _ _ _ _ _ _ us hl => match us, hl with | [_, _], _ => rfl
  have kInverse_number_clock : KBx K _ ["clock", "number"] 0 ["number", "clock"] [1, 0] := kb_of F8 fun _ _ _ _ _ _ us ws h1 h2 => match us, ws, h1, h2 with | [], [_, _], _, _ => rfl
  have F9 := fun_mk (st := sRowSum) l9 c9 k9
  have b9 := F9.binds (ps := ["clock", "one", "other"]) fun _ _ _ _ _ _ us hl => match us, hl with | [_, _, _], _ => rfl
  have kRowSum_other_one_clock : KBx K _ ["clock", "one", "other"] 0 ["other", "one", "clock"] [2, 1, 0] := kb_of F9 fun _ _ _ _ _ _ us ws h1 h2 => match us, ws, h1, h2 with | [], [_, _, _], _, _ => rfl
  have F10 := fun_mk (st := sRowTimes) l10 c10 k10
  have b10 := F10.binds (ps := ["clock", "number", "row"]) fun _ _ _ _ _ _ us hl => match us, hl with | [_, _, _], _ => rfl
  have kRowTimes_row_number_clock : KBx K _ ["clock", "number", "row"] 0 ["row", "number", "clock"] [2, 1, 0] := kb_of F10 fun _ _ _ _ _ _ us ws h1 h2 => match us, ws, h1, h2 with | [], [_, _, _], _, _ => rfl
  have F11 := fun_mk (st := sLawSundial) l11 c11 k11
  have b11 := F11.binds (ps := ["script"]) fun _ _ _ _ _ _ us hl => match us, hl with | [_], _ => rfl
  have F12 := fun_mk (st := sLawGnomon) l12 c12 k12
  have b12 := F12.binds (ps := ["sundial", "many"]) fun _ _ _ _ _ _ us hl => match us, hl with | [_, _], _ => rfl
  have F13 := fun_mk (st := sLawOne) l13 c13 k13
  have b13 := F13.binds (ps := ["sundial", "some"]) fun _ _ _ _ _ _ us hl => match us, hl with | [_, _], _ => rfl
  have F14 := fun_mk (st := sLawRound) l14 c14 k14
  have b14 := F14.binds (ps := ["number", "clock"]) fun _ _ _ _ _ _ us hl => match us, hl with | [_, _], _ => rfl
  have F15 := fun_mk (st := sLawRow) l15 c15 k15
  have b15 := F15.binds (ps := ["sundial", "clock", "size"]) fun _ _ _ _ _ _ us hl => match us, hl with | [_, _, _], _ => rfl
  have F16 := fun_mk (st := sLawHeard) l16 c16 k16
  have b16 := F16.binds (ps := ["ask"]) fun _ _ _ _ _ _ us hl => match us, hl with | [_], _ => rfl
  have F17 := fun_mk (st := sLawRowsRight) l17 c17 k17
  have b17 := F17.binds (ps := ["sundial", "clock"]) fun _ _ _ _ _ _ us hl => match us, hl with | [_, _], _ => rfl
  have F18 : FunC K "_law_refused_right" "_law_refused_right" sLawRefusedRight f18 _ cc18 := ⟨⟨_, _, _, _, _, _, _, _, rfl, l18, c18⟩⟩
  have F18' := fun_mk (st := sLawRefusedRight) l18 c18 k18
  have b18 := F18'.binds (ps := ["sundial", "clock"]) fun _ _ _ _ _ _ us hl => match us, hl with | [_, _], _ => rfl
  have F19 := fun_mk (st := sLaw) l19 c19 k19
  have b19 := F19.binds (ps := ["script"]) fun _ _ _ _ _ _ us hl => match us, hl with | [_], _ => rfl
  refine ⟨PySem.W.fnOf "law" "law" (defArgs sLaw) (defBody sLaw) (defScope sLaw) .none kV19 dc19 pm19 an19 cd19 ct19, fun t v => .of_eq rfl, fun base kin gl hM TBs => ?_⟩
  have TB : TabB base mg cc18 P0 := TBs _ (List.mem_singleton.mpr rfl)
  have hH : HrdC K mg f16 cd16 := ⟨PySem.W.mg_of X G a16, k16, c16, ⟨_, _, _, _, _, _, _, _, l16, b16⟩⟩
  have eBadNumber : Err1 l.prog w K mg base "BadNumber" A_cN "part" := ⟨PySem.W.mg_of X G g_cN, O_cN, no_cN, xf_cN, ⟨_, _, _, in_cN, it_cN, bI_cN, ok_IniBadNumber FI_cN O_cN no_cN⟩⟩
  have eBadClock : Err1 l.prog w K mg base "BadClock" A_cC "part" := ⟨PySem.W.mg_of X G g_cC, O_cC, no_cC, xf_cC, ⟨_, _, _, in_cC, it_cC, bI_cC, ok_IniBadClock FI_cC O_cC no_cC⟩⟩
  have eBadRow : Err1 l.prog w K mg base "BadRow" A_cR "part" := ⟨PySem.W.mg_of X G g_cR, O_cR, no_cR, xf_cR, ⟨_, _, _, in_cR, it_cR, bI_cR, ok_IniBadRow FI_cR O_cR no_cR⟩⟩
  have eMisfit : Err1 l.prog w K mg base "Misfit" A_cM "part" := ⟨PySem.W.mg_of X G g_cM, O_cM, no_cM, xf_cM, ⟨_, _, _, in_cM, it_cM, bI_cM, ok_IniMisfit FI_cM O_cM no_cM⟩⟩
  have cIsInteger : CalX l.prog w K mg base "is_integer" 1 f0 _ ["value"] spIsInt := ⟨ok_IsInteger F0 T  , PySem.W.mg_of X G a0, k0, b0⟩
  have cLawSundial : Cal l.prog w K mg base "_law_sundial" 1 f11 _ ["script"] (spBox K) := ⟨ok_LawSundial F11 T hM , PySem.W.mg_of X G a11, k11, b11⟩
  have cLawGnomon : Cal l.prog w K mg base "_law_gnomon" 1 f12 _ ["sundial", "many"] spDraw := ⟨ok_LawGnomon F12 T hM , PySem.W.mg_of X G a12, k12, b12⟩
  have cLawRound : Cal l.prog w K mg base "_law_round" 1 f14 _ ["number", "clock"] spRound := ⟨ok_LawRound F14 T hM , PySem.W.mg_of X G a14, k14, b14⟩
  have cIsWithin : CalX l.prog w K mg base "is_within" 2 f1 _ ["value", "least", "most"] spWithin := ⟨ok_IsWithin F1 T  cIsInteger, PySem.W.mg_of X G a1, k1, b1⟩
  have cIsClock : CalX l.prog w K mg base "is_clock" 2 f2 _ ["value"] spClock := ⟨ok_IsClock F2 T  cIsInteger, PySem.W.mg_of X G a2, k2, b2⟩
  have cLawOne : Cal l.prog w K mg base "_law_one" 2 f13 _ ["sundial", "some"] (spOf K) := ⟨ok_LawOne F13 T hM cLawGnomon, PySem.W.mg_of X G a13, k13, b13⟩
  have cIsRow : CalX l.prog w K mg base "is_row" 3 f3 _ ["value", "clock", "size"] spRow := ⟨ok_IsRow F3 T  cIsClock cIsWithin, PySem.W.mg_of X G a3, k3, b3⟩
  have cDemandClock : CalX l.prog w K mg base "demand_clock" 3 f4 _ ["clock"] (spDemClock A_cC) := ⟨ok_DemandClock F4 T  cIsClock eBadClock, PySem.W.mg_of X G a4, k4, b4⟩
  have cDemandWithin : CalX l.prog w K mg base "demand_within" 3 f5 _ ["value", "least", "most", "part"] (spDemWithin A_cN) := ⟨ok_DemandWithin F5 T  cIsWithin eBadNumber, PySem.W.mg_of X G a5, k5, b5⟩
  have cLawRow : Cal l.prog w K mg base "_law_row" 3 f15 _ ["sundial", "clock", "size"] spDrawn := ⟨ok_LawRow F15 T hM cLawOne cLawGnomon, PySem.W.mg_of X G a15, k15, b15⟩
  have cDemandRow : CalX l.prog w K mg base "demand_row" 4 f6 _ ["row", "clock", "least", "most", "part"] (spDemRow A_cR) := ⟨ok_DemandRow F6 T  cIsRow eBadRow, PySem.W.mg_of X G a6, k6, b6⟩
  have cNumberOf : CalX l.prog w K mg base "number_of" 4 f7 _ ["clock", "value"] (spNumberOf (Ad.mk tp tM A_cN A_cC A_cR A_cM A_cE)) := ⟨ok_NumberOf F7 T  cDemandClock cDemandWithin, PySem.W.mg_of X G a7, k7, b7⟩
  have cInverse : CalX l.prog w K mg base "inverse" 4 f8 _ ["clock", "number"] (spInverse (Ad.mk tp tM A_cN A_cC A_cR A_cM A_cE)) := ⟨ok_Inverse F8 T  cDemandClock cDemandWithin eMisfit, PySem.W.mg_of X G a8, k8, b8⟩
  have cRowSum : CalX l.prog w K mg base "row_sum" 5 f9 _ ["clock", "one", "other"] (spRowSum (Ad.mk tp tM A_cN A_cC A_cR A_cM A_cE)) := ⟨ok_RowSum F9 T  cDemandClock cDemandRow eMisfit, PySem.W.mg_of X G a9, k9, b9⟩
  have cRowTimes : CalX l.prog w K mg base "row_times" 5 f10 _ ["clock", "number", "row"] (spRowTimes (Ad.mk tp tM A_cN A_cC A_cR A_cM A_cE)) := ⟨ok_RowTimes F10 T  cDemandClock cDemandWithin cDemandRow, PySem.W.mg_of X G a10, k10, b10⟩
  have cLawRowsRight : Cal l.prog w K mg base "_law_rows_right" 8 f17 _ ["sundial", "clock"] spRowsRight := ⟨ok_LawRowsRight F17 T hM cLawRow cLawGnomon cLawOne cLawRound cRowSum kRowSum_other_one_clock cRowTimes kRowTimes_row_number_clock, PySem.W.mg_of X G a17, k17, b17⟩
  have cLawRefusedRight : Cal l.prog w K mg base "_law_refused_right" 14 f18 _ ["sundial", "clock"] (spRefused P0) := ⟨ok_LawRefusedRight F18 T T2 hM hH TB cLawOne cNumberOf cInverse cRowSum cRowTimes, PySem.W.mg_of X G a18, k18, b18⟩
  exact ok_Law F19 T hM cLawSundial cLawOne cLawRound cLawGnomon cLawRowsRight cLawRefusedRight cNumberOf kNumberOf_value_clock cInverse kInverse_number_clock
theorem walk {l : PySem.W.OpenLaw} {q : Program} {loose : List Str} {XP : (Str → Option Value) → Heap → Prop} {YP : World → Heap → Prop} {d : DefRec} {K : Params → PySem.W.Frag} {cc P0 : Addr} (none : importsNone q = true) (hn : l.most = some 63) (hdf : d.params.defaults = [])
    (hY : ∀ (w : World) (h : Heap), YP w h → (K w.params).In h) (hT : ∀ (w : World) (h : Heap), YP w h → h.get? P0 = some (PySem.W.tabObj #[])) (hC : ∀ w : World, PySem.W.codeHdIn (K w.params) cc P0 = true) (nT : ∀ w : World, (K w.params).lookup P0 = .none)
    (F : ∀ (w : World) (mg : Str → Option Value) (fa : Addr) (h : Heap), (K w.params).In h → h.Ns mainGlobals mg → mg d.name = some (.ref fa) →
      ∃ fd : FuncData, (∀ (t : Shared) (u : Value), BindsTo t fd ⟨[u], []⟩ [("script", u)]) ∧ ∀ base : Heap, (K w.params).In base → base.Ns mainGlobals mg → HasMods base → (∀ p ∈ [(cc, P0)], TabB base mg p.1 p.2) → FnG l.prog w (K w.params) mg base 15 fa fd ["script"] (spLaw6 P0 (K w.params))) :
    PySem.W.WalkO q loose XP YP l.row.toRowW d [] (fun f vs => PySem.call f vs) :=
  Rp.walk_GT (n := 63) (k := 15) (x := "script") (cs := [(cc, P0)]) (sp := spLaw6 P0) none hn (by decide) hdf ⟨rfl, by decide, by decide⟩ hY
    (fun w h y p m => by rw [List.mem_singleton.mp m]; exact hT w h y) (fun w h y p m => by rw [List.mem_singleton.mp m]; exact PySem.W.codeHd_of_K (hY w h y) (hC w)) (fun w p m => by rw [List.mem_singleton.mp m]; exact nT w) F
    (fun _ H a ns _ ht hS => ⟨a, ns, rfl, hS, fun p m => by
      rw [List.mem_singleton.mp m]
      exact ⟨#[], ht _ (List.mem_singleton.mpr rfl), trivial, fun pos cv hc => by cases hc⟩, fun _ => rfl⟩)
end K06
open PySem PySem.W PyProof.Rows in
set_option maxRecDepth 100000 in
set_option maxHeartbeats 0 in
theorem PySem.Challenge.cw_ropesays_k06_numbers_round_the_clock_holds : PySem.Challenge.rw_ropesays_k06_numbers_round_the_clock.Holds := by
  w_on; o_law; k_head; (case hw => w_witness2)
  k_fill
  refine' K06.walk (l := PySem.Challenge.rw_ropesays_k06_numbers_round_the_clock) (cc := ?cc) (P0 := 218) (by decide +kernel) rfl rfl (fun w h Y => PySem.W.km_in_of Y) (fun w h Y => PySem.W.km_tabs_of Y _ (by k_mem)) ?hC (fun w => by kernel_rfl) ?F
  case F =>
    intro w mg fa h KX G hmg
    refine' K06.all_mk KX G hmg ?g_cE ?a0 ?l0 ?c0 ?k0 ?a1 ?l1 ?c1 ?k1 ?a2 ?l2 ?c2 ?k2 ?a3 ?l3 ?c3 ?k3 ?a4 ?l4 ?c4 ?k4 ?a5 ?l5 ?c5 ?k5 ?a6 ?l6 ?c6 ?k6 ?a7 ?l7 ?c7 ?k7 ?a8 ?l8 ?c8 ?k8 ?a9 ?l9 ?c9 ?k9 ?a10 ?l10 ?c10 ?k10 ?a11 ?l11 ?c11 ?k11 ?a12 ?l12 ?c12 ?k12 ?a13 ?l13 ?c13 ?k13 ?a14 ?l14 ?c14 ?k14 ?a15 ?l15 ?c15 ?k15 ?a16 ?l16 ?c16 ?k16 ?a17 ?l17 ?c17 ?k17 ?a18 ?l18 ?c18 ?k18 ?a19 ?l19 ?c19 ?k19 ?z_abs ?z_all ?z_bool ?z_int ?z_isinstance ?z_len ?z_list ?z_range ?z_repr ?z_tuple ?z_zip ?g_cN ?o_cN ?r_cN ?sa_cN ?ex_cN ?ty_cN ?kc_cN ?no_cN ?ga_cN ?gg_cN ?hd_cN ?ha_cN ?hm_cN ?in_cN ?it_cN ?il_cN ?ic_cN ?ik_cN ?up_cN ?nn_cN ?g_cC ?o_cC ?r_cC ?sa_cC ?ex_cC ?ty_cC ?kc_cC ?no_cC ?ga_cC ?gg_cC ?hd_cC ?ha_cC ?hm_cC ?in_cC ?it_cC ?il_cC ?ic_cC ?ik_cC ?up_cC ?nn_cC ?g_cR ?o_cR ?r_cR ?sa_cR ?ex_cR ?ty_cR ?kc_cR ?no_cR ?ga_cR ?gg_cR ?hd_cR ?ha_cR ?hm_cR ?in_cR ?it_cR ?il_cR ?ic_cR ?ik_cR ?up_cR ?nn_cR ?g_cM ?o_cM ?r_cM ?sa_cM ?ex_cM ?ty_cM ?kc_cM ?no_cM ?ga_cM ?gg_cM ?hd_cM ?ha_cM ?hm_cM ?in_cM ?it_cM ?il_cM ?ic_cM ?ik_cM ?up_cM ?nn_cM ?k_cN_cN ?k_cN_cC ?k_cN_cR ?k_cN_cM ?k_cC_cN ?k_cC_cC ?k_cC_cR ?k_cC_cM ?k_cR_cN ?k_cR_cC ?k_cR_cR ?k_cR_cM ?k_cM_cN ?k_cM_cC ?k_cM_cR ?k_cM_cM ?hn_ ?ht_ ?aC ?lC ?aM
    (case g_cE => k_is)
    (case a0 => k_is)
    (case l0 => k_is)
    (case c0 => k_is)
    (case k0 => k_is)
    (case a1 => k_is)
    (case l1 => k_is)
    (case c1 => k_is)
    (case k1 => k_is)
    (case a2 => k_is)
    (case l2 => k_is)
    (case c2 => k_is)
    (case k2 => k_is)
    (case a3 => k_is)
    (case l3 => k_is)
    (case c3 => k_is)
    (case k3 => k_is)
    (case a4 => k_is)
    (case l4 => k_is)
    (case c4 => k_is)
    (case k4 => k_is)
    (case a5 => k_is)
    (case l5 => k_is)
    (case c5 => k_is)
    (case k5 => k_is)
    (case a6 => k_is)
    (case l6 => k_is)
    (case c6 => k_is)
    (case k6 => k_is)
    (case a7 => k_is)
    (case l7 => k_is)
    (case c7 => k_is)
    (case k7 => k_is)
    (case a8 => k_is)
    (case l8 => k_is)
    (case c8 => k_is)
    (case k8 => k_is)
    (case a9 => k_is)
    (case l9 => k_is)
    (case c9 => k_is)
    (case k9 => k_is)
    (case a10 => k_is)
    (case l10 => k_is)
    (case c10 => k_is)
    (case k10 => k_is)
    (case a11 => k_is)
    (case l11 => k_is)
    (case c11 => k_is)
    (case k11 => k_is)
    (case a12 => k_is)
    (case l12 => k_is)
    (case c12 => k_is)
    (case k12 => k_is)
    (case a13 => k_is)
    (case l13 => k_is)
    (case c13 => k_is)
    (case k13 => k_is)
    (case a14 => k_is)
    (case l14 => k_is)
    (case c14 => k_is)
    (case k14 => k_is)
    (case a15 => k_is)
    (case l15 => k_is)
    (case c15 => k_is)
    (case k15 => k_is)
    (case a16 => k_is)
    (case l16 => k_is)
    (case c16 => k_is)
    (case k16 => k_is)
    (case a17 => k_is)
    (case l17 => k_is)
    (case c17 => k_is)
    (case k17 => k_is)
    (case a18 => k_is)
    (case l18 => k_is)
    (case c18 => k_is)
    (case k18 => k_is)
    (case a19 => k_is)
    (case l19 => k_is)
    (case c19 => k_is)
    (case k19 => k_is)
    (case z_abs => k_is)
    (case z_all => k_is)
    (case z_bool => k_is)
    (case z_int => k_is)
    (case z_isinstance => k_is)
    (case z_len => k_is)
    (case z_list => k_is)
    (case z_range => k_is)
    (case z_repr => k_is)
    (case z_tuple => k_is)
    (case z_zip => k_is)
    (case g_cN => k_is)
    (case o_cN => k_is)
    (case r_cN => kernel_rfl)
    (case sa_cN => k_is)
    (case ex_cN => k_is)
    (case ty_cN => k_is)
    (case kc_cN => k_is)
    (case no_cN => k_is)
    (case ga_cN => k_is)
    (case gg_cN => k_is)
    (case hd_cN => k_is)
    (case ha_cN => k_is)
    (case hm_cN => k_is)
    (case in_cN => k_is)
    (case it_cN => k_is)
    (case il_cN => k_is)
    (case ic_cN => k_is)
    (case ik_cN => k_is)
    (case up_cN => kernel_rfl)
    (case nn_cN => kernel_rfl)
    (case g_cC => k_is)
    (case o_cC => k_is)
    (case r_cC => kernel_rfl)
    (case sa_cC => k_is)
    (case ex_cC => k_is)
    (case ty_cC => k_is)
    (case kc_cC => k_is)
    (case no_cC => k_is)
    (case ga_cC => k_is)
    (case gg_cC => k_is)
    (case hd_cC => k_is)
    (case ha_cC => k_is)
    (case hm_cC => k_is)
    (case in_cC => k_is)
    (case it_cC => k_is)
    (case il_cC => k_is)
    (case ic_cC => k_is)
    (case ik_cC => k_is)
    (case up_cC => kernel_rfl)
    (case nn_cC => kernel_rfl)
    (case g_cR => k_is)
    (case o_cR => k_is)
    (case r_cR => kernel_rfl)
    (case sa_cR => k_is)
    (case ex_cR => k_is)
    (case ty_cR => k_is)
    (case kc_cR => k_is)
    (case no_cR => k_is)
    (case ga_cR => k_is)
    (case gg_cR => k_is)
    (case hd_cR => k_is)
    (case ha_cR => k_is)
    (case hm_cR => k_is)
    (case in_cR => k_is)
    (case it_cR => k_is)
    (case il_cR => k_is)
    (case ic_cR => k_is)
    (case ik_cR => k_is)
    (case up_cR => kernel_rfl)
    (case nn_cR => kernel_rfl)
    (case g_cM => k_is)
    (case o_cM => k_is)
    (case r_cM => kernel_rfl)
    (case sa_cM => k_is)
    (case ex_cM => k_is)
    (case ty_cM => k_is)
    (case kc_cM => k_is)
    (case no_cM => k_is)
    (case ga_cM => k_is)
    (case gg_cM => k_is)
    (case hd_cM => k_is)
    (case ha_cM => k_is)
    (case hm_cM => k_is)
    (case in_cM => k_is)
    (case it_cM => k_is)
    (case il_cM => k_is)
    (case ic_cM => k_is)
    (case ik_cM => k_is)
    (case up_cM => kernel_rfl)
    (case nn_cM => kernel_rfl)
    (case k_cN_cN => kernel_rfl)
    (case k_cN_cC => kernel_rfl)
    (case k_cN_cR => kernel_rfl)
    (case k_cN_cM => kernel_rfl)
    (case k_cC_cN => kernel_rfl)
    (case k_cC_cC => kernel_rfl)
    (case k_cC_cR => kernel_rfl)
    (case k_cC_cM => kernel_rfl)
    (case k_cR_cN => kernel_rfl)
    (case k_cR_cC => kernel_rfl)
    (case k_cR_cR => kernel_rfl)
    (case k_cR_cM => kernel_rfl)
    (case k_cM_cN => kernel_rfl)
    (case k_cM_cC => kernel_rfl)
    (case k_cM_cR => kernel_rfl)
    (case k_cM_cM => kernel_rfl)
    (case hn_ => k_is)
    (case ht_ => k_is)
    (case aC => k_is)
    (case lC => k_is)
    (case aM => k_is)
  case hC => intro w; kernel_rfl
