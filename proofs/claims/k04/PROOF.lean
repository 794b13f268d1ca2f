import PyProof.Rows.All
import Wide.All
import OpenK.AllK
import Wide.FinOn
import HandS.Base
import HandS.Call
import HandS.List
import HandS.Comp
import HandS.Ends
import HandS.Dict
import HandS.Iter
import HandS.Text
import HandS.Words
import HandS.IsInst
import HandS.TupAny
import PySem.Challenge.RW_ropesays_k04_lists_and_tuples_all_the_wa
set_option Elab.async false
set_option linter.all false
set_option maxRecDepth 100000
set_option maxHeartbeats 4000000
namespace Rp
open PySem PySem.Spec PyProof.Rows L2

/-! ### readings, a step each -/
section
variable {t u : TS} {D : Ends} {σ : L2.St} {H : Hp} {Q : VK} {v x y : V} {ta tb te : TE} {r : R2} {i j : Int} {g : Int → Int → V} {tt tt' : TT} {tl tr : TA}
theorem r_start {N : List Str} {vs : List V} {l : L2.St} (e : L2.start N vs = l) (h : t D l H) : t D (L2.start N vs) H := e ▸ h
theorem r_seq (h : t { D with nx := u D } σ H) : tSeq t u D σ H := h
/-- the ways meet: M -/
theorem r_cut (M : L2.St → Hp → Prop) (hu : ∀ σ H, M σ H → u D σ H) (h : (∀ σ H, M σ H → u D σ H) → t { D with nx := u D } σ H) : tSeq t u D σ H := h hu
theorem r_next (h : D.nx σ H) : tNext D σ H := h
theorem r_drop (h : te σ H fun _ H1 => D.nx σ H1) : tDrop te D σ H := h
theorem r_var {k : Nat} (h : σ[k]? = some (some v)) (q : Q v H) : tVar k σ H Q := ⟨v, h, q⟩
theorem r_varE {k : Nat} (h : ∃ v, σ[k]? = some (some v) ∧ Q v H) : tVar k σ H Q := h
theorem r_c (q : Q v H) : tC v σ H Q := q
theorem r_op (h : ta σ H fun x H1 => tb σ H1 fun y H2 => r x y H2 Q) : tOp r ta tb σ H Q := h
theorem r_I0 (q : Q (g i j) H) : rI0 g (.int i) (.int j) H Q := ⟨i, j, rfl, rfl, q⟩
theorem r_I {C : Int → Int → Prop} (c : C i j) (q : Q (g i j) H) : rI C g (.int i) (.int j) H Q := ⟨i, j, rfl, rfl, c, q⟩
theorem r_test {Q : Bool → Hp → Prop} (h : te σ H fun x H' => ∃ k, x = .bl k ∧ Q k H') : tTest te σ H Q := h
theorem r_tb {Q : Bool → Hp → Prop} (h : te σ H fun x H' => ∃ k, x = .bl k ∧ Q k H') : tB te σ H Q := h
theorem r_bl {k : Bool} {P : Bool → Prop} (q : P k) : ∃ k', V.bl k = .bl k' ∧ P k' := ⟨k, rfl, q⟩
theorem r_if (h : tt σ H fun b H1 => if b = true then t D σ H1 else u D σ H1) : tIfS tt t u D σ H := h
theorem r_not {Q : Bool → Hp → Prop} (h : tt σ H fun c H1 => Q (!c) H1) : tNot tt σ H Q := h
theorem r_and {Q : Bool → Hp → Prop} (h : tt σ H fun c H1 => if c = true then tt' σ H1 Q else Q false H1) : tAnd tt tt' σ H Q := h
theorem r_or {Q : Bool → Hp → Prop} (h : tt σ H fun c H1 => if c = true then Q true H1 else tt' σ H1 Q) : tOr tt tt' σ H Q := h
theorem r_andV (h : ta σ H fun x H1 => ∃ c, x = .bl c ∧ if c = true then tb σ H1 Q else Q (.bl false) H1) : tAndV ta tb σ H Q := h
theorem r_orV (h : ta σ H fun x H1 => ∃ c, x = .bl c ∧ if c = true then Q (.bl true) H1 else tb σ H1 Q) : tOrV ta tb σ H Q := h
theorem r_notV (h : ta σ H fun x H1 => ∃ c, x = .bl c ∧ Q (.bl (!c)) H1) : tNotV ta σ H Q := h
theorem r_ifx (h : tt σ H fun c H1 => if c = true then ta σ H1 Q else tb σ H1 Q) : tIf tt ta tb σ H Q := h
theorem r_asg {g : TG} (h : te σ H fun x H1 => g x σ H1 D.nx) : tAsg te g D σ H := h
theorem r_gname {k : Nat} {Q : L2.St → Hp → Prop} (h : Q (List.set σ k (some v)) H) : gName k v σ H Q := h
theorem r_gsub {to ti : TE} {ts : TSet} {Q : L2.St → Hp → Prop} (h : to σ H fun o H1 => ti σ H1 fun i H2 => ts o i v H2 fun H3 => Q σ H3) : gSub to ti ts v σ H Q := h
theorem r_ret (h : te σ H D.rt) : tRet te D σ H := h
theorem r_cb {r : List V → Hp → VK → Prop} (h : tl σ H fun vs H1 => r vs H1 Q) : tCB r tl σ H Q := h
theorem r_cons {Q : List V → Hp → Prop} (h : ta σ H fun x H1 => tr σ H1 fun xs H2 => Q (x :: xs) H2) : tCons ta tr σ H Q := h
theorem r_nil {Q : List V → Hp → Prop} (h : Q [] H) : tNil σ H Q := h
theorem r_ixL {K : PySem.W.Frag} {p : Addr} {xs : List V} (hs : SqL K H p xs) (ha : atI xs i = some v) (q : Q v H) : rIxL K (.ref p) (.int i) H Q := ⟨p, xs, i, v, rfl, rfl, hs, ha, q⟩
theorem r_setL {p : Addr} {xs : List V} {k : Nat} {Q : Hp → Prop} (hs : H p = some (.lst xs)) (hi : ixN xs.length i = some k) (q : Q (upd H p (.lst (xs.set k v)))) : rSetL (.ref p) (.int i) v H Q := ⟨p, xs, i, k, rfl, rfl, hs, hi, q⟩
theorem r_sl {r : V → Option Int → Option Int → Hp → VK → Prop} {tlo thi : TO} (h : te σ H fun x H1 => tlo σ H1 fun l H2 => thi σ H2 fun u H3 => r x l u H3 Q) : tSl r te tlo thi σ H Q := h
theorem r_pnone {Q : Option Int → Hp → Prop} (h : Q none H) : tNoPart σ H Q := h
theorem r_pint {Q : Option Int → Hp → Prop} (h : te σ H fun x H1 => ∃ i, x = .int i ∧ Q (some i) H1) : tPart te σ H Q := h
theorem r_un {ru : V → Hp → VK → Prop} (h : ta σ H fun x H1 => ru x H1 Q) : tUn ru ta σ H Q := h
theorem r_lst (h : tl σ H fun xs H1 => xs.length ≤ sizeLine ∧ ∀ p, H1 p = none → Q (.ref p) (upd H1 p (.lst xs))) : tLst tl σ H Q := h
theorem r_tup (h : tl σ H fun xs H1 => xs.length ≤ sizeLine ∧ ∀ p, H1 p = none → Q (.ref p) (upd H1 p (.tup xs))) : tTup tl σ H Q := h
theorem len_ok {n : Nat} (h : Nat.ble n sizeLine = true) : n ≤ sizeLine := Nat.le_of_ble_eq_true h
theorem r_lc {wi : TI} {g : TG} {vs : List Nat} (h : wi σ H fun J G => ∀ L, G L = none → ∃ M : Nat → Nat → Hp → Prop, (∃ n, M 0 n (upd G L (.lst []))) ∧ ∀ k n G, M k n G →
    (J.stop k G ∧ Q (.ref L) G) ∨ (J.go k G ∧ ∃ Z : Hp → Prop, (∀ G', Z G' → ∃ n', n' < n ∧ M (k + 1) n' G') ∧
      ∀ e G', J.yld k G e G' → g e (wipe σ vs) G' fun τ G2 => wipe τ vs = wipe σ vs ∧ tt τ G2 fun b G3 =>
        if b = true then te τ G3 fun y G4 => ∃ ac, G4 L = some (.lst ac) ∧ ac.length < sizeLine ∧ Z (upd G4 L (.lst (ac ++ [y]))) else Z G3)) : tLc wi g tt te vs σ H Q := h
theorem r_ilist {K : PySem.W.Frag} {R : It → Hp → Prop} (h : te σ H fun x G => ∃ a, x = .ref a ∧ (∃ xs, SqL K G a xs) ∧ R (Itl K a) G) : iList K te σ H R := h
theorem r_itup {K : PySem.W.Frag} {R : It → Hp → Prop} (h : te σ H fun x G => ∃ a, x = .ref a ∧ (∃ xs, SqT K G a xs) ∧ R (Itt K a) G) : iTup K te σ H R := h
theorem r_irng1 {R : It → Hp → Prop} (h : tl σ H fun vs G => ∃ j : Int, vs = [.int j] ∧ -(2 ^ 62) ≤ j ∧ j < 2 ^ 62 ∧ R (Itr 0 j.toNat) G) : iRng1 tl σ H R := h
theorem r_irng2 {R : It → Hp → Prop} (h : tl σ H fun vs G => ∃ i j : Int, vs = [.int i, .int j] ∧ (-(2 ^ 62) ≤ i ∧ i < 2 ^ 62 ∧ -(2 ^ 62) ≤ j ∧ j < 2 ^ 62) ∧ R (Itr i (j - i).toNat) G) : iRng2 tl σ H R := h
theorem r_for {wi : TI} {g : TG} {tb : TS} (h : wi σ H fun J G => ∃ M : Nat → Nat → L2.St → Hp → Prop, (∃ n, M 0 n σ G) ∧ ∀ k n τ G, M k n τ G →
    (J.stop k G ∧ D.nx τ G) ∨ (J.go k G ∧ ∃ Z : L2.St → Hp → Prop, (∀ τ' G', Z τ' G' → ∃ n', n' < n ∧ M (k + 1) n' τ' G') ∧
      ∀ e G', J.yld k G e G' → g e τ G' fun τ2 G2 => tb { D with nx := Z, ct := Z, bk := D.nx } τ2 G2)) : tFor wi g tb D σ H := h
theorem r_par {m n : Nat} (h : tl σ H fun vs G => ∃ v w, vs = [v, w] ∧ D.nx ((σ.set m (some v)).set n (some w)) G) : tPar m n tl D σ H := h
theorem r_isN (q : Q (.bl (decide (x = .non))) H) : (fun (x y : V) (H : Hp) (Q : VK) => y = .non ∧ Q (.bl (decide (x = .non))) H) x .non H Q := ⟨rfl, q⟩
theorem r_notN (q : Q (.bl (!decide (x = .non))) H) : (fun (x y : V) (H : Hp) (Q : VK) => y = .non ∧ Q (.bl (!decide (x = .non))) H) x .non H Q := ⟨rfl, q⟩
theorem r_call {sp : Sp} {dvs : List V} {E : XK} (h : tl σ H fun vs H1 => sp (vs ++ dvs) H1 Q E) : tCall sp dvs E tl σ H Q := h
theorem r_yes {Q : Bool → Hp → Prop} (h : Q true H) : tYes σ H Q := h
theorem r_true {A B : Prop} (h : A) : if true = true then A else B := iteT h
theorem r_false {A B : Prop} (h : B) : if false = true then A else B := iteF h
theorem r_truen {A B : Prop} (h : B) : if (!true) = true then A else B := iteF h
theorem r_falsen {A B : Prop} (h : A) : if (!false) = true then A else B := iteT h
/-- int(x) -/
theorem r_int (q : Q (.int i) H) : (fun (xs : List V) (H : Hp) (Q : VK) => (∃ i, xs = [.int i] ∧ Q (.int i) H) ∨ ∃ k, xs = [.bl k] ∧ Q (.int (if k then 1 else 0)) H) [.int i] H Q := .inl ⟨i, rfl, q⟩
end
end Rp
namespace Rp
open PySem PySem.Spec PyProof.Rows L2
/-! ### what draws: a box [cells, laps, rest] at q, its cells at c -/
/-- all but what stands at q stays -/
def But (q : Addr) (H H' : Hp) : Prop := ∀ b o, b ≠ q → H b = some o → H' b = some o
theorem But.refl (q : Addr) (H : Hp) : But q H H := fun _ _ _ h => h
theorem But.trans {q : Addr} {H H1 H2 : Hp} (a : But q H H1) (b : But q H1 H2) : But q H H2 := fun c o n h => b c o n (a c o n h)
theorem But.upd {q : Addr} {H : Hp} (o : HO) : But q H (upd H q o) := fun b u n h => by rw [upd_ne n]; exact h
theorem But.upd2 {q : Addr} {H H' : Hp} (e : But q H H') (o : HO) : But q H (L2.upd H' q o) := fun b u n h => by rw [upd_ne n]; exact e b u n h
theorem But.neu {q : Addr} {H H' : Hp} (e : But q H H') {p : Addr} {o : HO} (h : H' p = none) (hq : H p = none ∨ True := .inr True.intro) : But q H (L2.upd H' p o) := fun b u n k => by
  have k' := e b u n k
  rw [upd_ne (ne_of_none k' h)]
  exact k'
structure Dr (q c : Addr) (ns : List Int) (lap : Nat) (H : Hp) : Prop where
  ne : c ≠ q
  box : ∃ rest : Int, H q = some (.lst [.ref c, .int (lap : Int), .int rest])
  cells : H c = some (.lst (ns.map V.int))
  len : ns.length ≤ 60
theorem Dr.neu {q c : Addr} {ns : List Int} {lap : Nat} {H : Hp} (d : Dr q c ns lap H) {p : Addr} {o : HO} (h : H p = none) : Dr q c ns lap (upd H p o) := by
  obtain ⟨ne, ⟨rest, b⟩, cl, ln⟩ := d
  exact ⟨ne, ⟨rest, by rw [upd_ne (ne_of_none b h)]; exact b⟩, by rw [upd_ne (ne_of_none cl h)]; exact cl, ln⟩
/-- a number is drawn -/
def spDraw : Sp := fun vs H Q _ => ∃ (q c : Addr) (ns : List Int) (lap : Nat) (many : Int), vs = [.ref q, .int many] ∧ 0 < many ∧ many < 1073741824 ∧ lap < 2 ^ 20 ∧ Dr q c ns lap H ∧
  ∀ (H' : Hp) (lap' : Nat) (r : Int), lap' ≤ lap + 1 → Dr q c ns lap' H' → But q H H' → 0 ≤ r → r < many → Q (.int r) H'
theorem at0 {a b c : V} : atI [a, b, c] 0 = some a := rfl
theorem at1 {a b c : V} : atI [a, b, c] 1 = some b := rfl
theorem at2 {a b c : V} : atI [a, b, c] 2 = some c := rfl
theorem box_at {q c : Addr} {ns : List Int} {lap : Nat} {H : Hp} {rest : Int} (ne : c ≠ q) (b : H q = some (.lst [.ref c, .int (lap : Int), .int rest])) (cl : H c = some (.lst (ns.map V.int))) (ln : ns.length ≤ 60) : Dr q c ns lap H := ⟨ne, ⟨rest, b⟩, cl, ln⟩
theorem fmod_in {i j : Int} (h : 0 < j) : 0 ≤ i.fmod j ∧ i.fmod j < j := by
  rw [Int.fmod_eq_emod_of_nonneg i (by omega)]
  exact ⟨Int.emod_nonneg _ (by omega), Int.emod_lt_of_pos _ h⟩
theorem fits3 {m a b c : Int} {lap : Nat} (h0 : 0 ≤ m) (h1 : m < 2147483648) (hl : lap < 2 ^ 20) (ha : 0 ≤ a) (ha' : a < 131072) (hb : 0 ≤ b) (hb' : b < 131072) (hc : 0 ≤ c) (hc' : c < 131072) :
    (m * (2 * (lap : Int) + a) + b * (lap : Int) * (lap : Int) + c).natAbs < 2 ^ 64 := by
  have l0 : (0 : Int) ≤ (lap : Int) := by omega
  have l1 : (lap : Int) ≤ 1048576 := by omega
  have e1 : 0 ≤ m * (2 * (lap : Int) + a) := Int.mul_nonneg h0 (by omega)
  have e2 : m * (2 * (lap : Int) + a) ≤ 2147483648 * 2228224 := Int.mul_le_mul (by omega) (by omega) (by omega) (by omega)
  have e3 : 0 ≤ b * (lap : Int) := Int.mul_nonneg hb l0
  have e4 : b * (lap : Int) ≤ 131072 * 1048576 := Int.mul_le_mul (by omega) l1 l0 (by omega)
  have e5 : 0 ≤ b * (lap : Int) * (lap : Int) := Int.mul_nonneg e3 l0
  have e6 : b * (lap : Int) * (lap : Int) ≤ (131072 * 1048576) * 1048576 := Int.mul_le_mul e4 l1 l0 (by omega)
  omega
theorem fits1 {m b : Int} {lap : Nat} (hb : 0 ≤ b) (hb' : b < 131072) (hl : lap < 2 ^ 20) : -(2 ^ 64) < b * (lap : Int) ∧ b * (lap : Int) < 2 ^ 64 := by
  have e3 : 0 ≤ b * (lap : Int) := Int.mul_nonneg hb (by omega)
  have e4 : b * (lap : Int) ≤ 131072 * 1048576 := Int.mul_le_mul (by omega) (by omega) (by omega) (by omega)
  omega
theorem dp_ints {K : PySem.W.Frag} {H : Hp} : ∀ (ns : List Int), DpAll K H (ns.map V.int) (ns.map PyData.int)
  | [] => .nil
  | n :: r => .cons (.int n) (dp_ints r)
theorem canLay_ints : ∀ (ns : List Int), PyData.canLayAll0 (ns.map PyData.int) = true
  | [] => by simp [PyData.canLayAll0]
  | n :: r => by simp [PyData.canLayAll0, PyData.canLay0, canLay_ints r]
theorem depth_ints : ∀ (ns : List Int), PyData.depthAll (ns.map PyData.int) = 0
  | [] => by simp [PyData.depthAll]
  | n :: r => by simp [PyData.depthAll, PyData.depth, depth_ints r]
theorem shaped_ints (ns : List Int) : SeqAt.shaped (.list (ns.map PyData.int)) = true := by
  simp [SeqAt.shaped, PyData.canLay0, PyData.depth, canLay_ints, depth_ints]
theorem eqv_nil_ints (ns : List Int) : PyData.eqv (.list (ns.map PyData.int)) (.list []) = ns.isEmpty := by
  cases ns <;> simp [PyData.eqv, PyData.eqvAll]
/-- an int list, compared with a new [] -/
theorem ne_nil {K : PySem.W.Frag} {H : Hp} {c p : Addr} {ns : List Int} {Q : VK} (hc : H c = some (.lst (ns.map V.int))) (hp : H p = some (.lst [])) (q : Q (.bl (!ns.isEmpty)) H) : rNeD K (.ref c) (.ref p) H Q :=
  ⟨_, _, .lst (SqL.of hc) (dp_ints ns), .lst (SqL.of hp) .nil, shaped_ints ns, (shaped_ints []), by rw [eqv_nil_ints]; exact q⟩
theorem map_len {ns : List Int} : (ns.map V.int).length = ns.length := List.length_map ..
theorem at_ints {ns : List Int} {k : Int} (h0 : 0 ≤ k) (h1 : k < (ns.length : Int)) : ∃ n, atI (ns.map V.int) k = some (.int n) := by
  obtain ⟨j, rfl⟩ : ∃ j : Nat, k = (j : Int) := ⟨k.toNat, by omega⟩
  have hk : j < ns.length := by omega
  refine ⟨ns[j], atI_nat ?_⟩
  rw [List.getElem?_map, List.getElem?_eq_getElem hk]
  rfl
/-- the box of cells is made -/
def spBox (K : PySem.W.Frag) : Sp := fun vs H Q _ => ∃ (a : Addr) (ns : List Int), vs = [.ref a] ∧ SqL K H a (ns.map V.int) ∧ ∀ (H' : Hp) (q c : Addr) (ns' : List Int), Dr q c ns' 0 H' → Same H H' → H q = none → Q (.ref q) H'
/-- one of some things -/
def spOf (K : PySem.W.Frag) : Sp := fun vs H Q _ => ∃ (q c a : Addr) (ns : List Int) (lap : Nat) (xs : List V), vs = [.ref q, .ref a] ∧ SqL K H a xs ∧ 0 < xs.length ∧ xs.length < 1000000 ∧ lap < 2 ^ 20 ∧ a ≠ q ∧ Dr q c ns lap H ∧
  ∀ (H' : Hp) (lap' : Nat) (i : Nat) (v : V), lap' ≤ lap + 1 → Dr q c ns lap' H' → But q H H' → xs[i]? = some v → Q v H'
theorem cut60 (ns : List Int) : ∃ ns' : List Int, cutV (ns.map V.int) none (some 60) = ns'.map V.int ∧ ns'.length ≤ 60 := by
  refine ⟨((ns.drop (HT.sIx (ns.map V.int).length 0 none)).take (HT.sIx (ns.map V.int).length (ns.map V.int).length (some 60) - HT.sIx (ns.map V.int).length 0 none)), ?_, ?_⟩
  · unfold cutV
    rw [List.map_take, List.map_drop]
  · refine Nat.le_trans (List.length_take_le _ _) ?_
    have e : (60 : Int) = ((60 : Nat) : Int) := rfl
    rw [e, HT.sIx_nat]
    omega
theorem same_neu {H H' : Hp} (e : Same H H') {p : Addr} {o : HO} (h : H' p = none) : Same H (upd H' p o) := fun b u k => by
  have k' := e b u k
  rw [upd_ne (ne_of_none k' h)]
  exact k'
theorem But.seq {K : PySem.W.Frag} {q : Addr} {H H' : Hp} {a : Addr} {xs : List V} (e : But q H H') (n : a ≠ q) (h : SqL K H a xs) : SqL K H' a xs := by
  rcases h with (h | ⟨o, h⟩) | h
  · exact .inl (.inl (e _ _ n h))
  · exact .inl (.inr ⟨o, e _ _ n h⟩)
  · exact .inr h
theorem at_some {xs : List V} {k : Int} (h0 : 0 ≤ k) (h1 : k < (xs.length : Int)) : ∃ (i : Nat) (v : V), atI xs k = some v ∧ xs[i]? = some v := by
  obtain ⟨j, rfl⟩ : ∃ j : Nat, k = (j : Int) := ⟨k.toNat, by omega⟩
  have hk : j < xs.length := by omega
  exact ⟨j, xs[j], atI_nat (List.getElem?_eq_getElem hk), List.getElem?_eq_getElem hk⟩
end Rp
namespace Rp
open PySem PySem.Spec PyProof.Rows L2
/-! ### defs that are called while no builtin of containers runs: what repr asks -/
/-- the def at f keeps the promise sp, called where nothing is being shown -/
structure FnG (P : Program) (w : World) (K : PySem.W.Frag) (mg : Str → Option Value) (base : Heap) (k : Nat) (f : Addr) (fd : FuncData) (ps : List Str) (sp : Sp) : Prop where
  arity : ∀ {vs H Q E}, sp vs H Q E → vs.length = ps.length
  go : ∀ {A : Around} {fr : List Env} {s : Shared} {H : Hp} {args : Args} {us : List Value} {vs : List V} {Q : VK} {E : XK}, A.guards = some [] → Room k A → Env0 P w K mg base A fr s H →
    BindsTo s fd args (ps.zip us) → Vals vs us → sp vs H Q E → codeAny (model P w) A (.call (.ref f) args) (CR CX0 fr P w H s Q E) s
section
variable {P : Program} {w : World} {K : PySem.W.Frag} {mg : Str → Option Value} {base : Heap} {k j : Nat} {f : Addr} {fd : FuncData} {ps : List Str} {sp : Sp}
theorem FnG.of (F : FnOk P w K mg base CX0 k f fd ps sp) : FnG P w K mg base k f fd ps sp := ⟨F.len _ _ _ _, fun _ r e b v q => F.run _ _ _ _ _ _ _ _ _ r e b v q⟩
theorem FnG.up (F : FnG P w K mg base j f fd ps sp) (h : j ≤ k) : FnG P w K mg base k f fd ps sp := ⟨F.arity, fun g r => F.go g (r.mono h)⟩
/-- the rule for a def -/
theorem fng {x qual : Str} {st : Stmt} {N : List Str} (F : Fun K x qual st f fd) (S : FnScope N ps (defScope st)) (ar : ∀ {vs H Q E}, sp vs H Q E → vs.length = ps.length)
    (body : ∀ {cdv : Value} {A : Around} {fr : List Env} {s : Shared} {H : Hp} {vs : List V} {Q : VK} {E : XK}, A.guards = some [] → Room k (A.deeper (envOfC qual (defScope st) s.heap.objs.size f cdv)) → sp vs H Q E →
      ∃ t, PSs (cxOf CX0 P w K mg base N qual (defScope st) f cdv A fr s H E).nox (defBody st) t ∧ t ⟨fun _ G => Q .non G, Q, fun _ _ => False, fun _ _ => False⟩ (L2.start N vs) H) : FnG P w K mg base (k + 1) f fd ps sp := by
  obtain ⟨oc, od, kV, dc, pm, an, cdv, ct, sl, e, look, code⟩ := F.ex
  subst e
  constructor
  · exact ar
  intro A fr s H args us vs Q E hg room env bind rel q
  have size := ar q
  have kin := env.mod.kin.keeps fun b o z => (env.bs b o z).1
  have nolim := env.mod.nolimit.keeps fun b o z => (env.bs b o z).1
  have knd : ∀ p ∈ ps.zip us, (defScope st).names.lookup p.1 = some .local ∨ ((defScope st).names.lookup p.1 = some .cell ∧ ((cellsFrom (s.heap.objs.size + 1) (defScope st).names []).lookup p.1).isSome = true) := by
    rintro ⟨n, v⟩ hp
    exact (S.par n (List.of_mem_zip hp).1).imp id fun z => ⟨z, PySem.W.cellsFrom_some _ _ _ (.inl z)⟩
  apply codeAny_call_function room.depth (kin _ _ look) rfl S.co S.gen rfl (PySem.W.codeRec_of kin code)
  apply bind
  apply wpAny_newFunctionEnv_cells S.kind knd
  intro en he s1 ic
  subst he
  refine ⟨nolim.keeps ic.toInCall.keep, codeAny_func ?_⟩
  obtain ⟨t, pt, rd⟩ := body (cdv := cdv) (fr := fr) (E := E) hg (room.deeper _) q
  have inv : Inv (cxOf CX0 P w K mg base N qual (defScope st) f cdv A fr s H E) [] (L2.start N vs) H s1 := inv_start S room.hd env size rel ic
  apply wpAny_mono (pt.nox.run [] s1 (L2.start N vs) H _ inv rd)
  · intro fl s2 hs
    cases fl with
    | ret u => obtain ⟨v, τ, G, J, r, z⟩ := hs; exact ⟨v, G, J.os, J.bare, J.base, J.hok, r, z⟩
    | next => obtain ⟨τ, G, J, z⟩ := hs; exact ⟨.non, G, J.os, J.bare, J.base, J.hok, rfl, z⟩
    | brk => obtain ⟨_, _, _, z⟩ := hs; exact z.elim
    | cont => obtain ⟨_, _, _, z⟩ := hs; exact z.elim
  · intro er s2 hs
    exact hs
end
section
variable {X : Cx} {k : Nat} {f : Addr} {fd : FuncData} {ps ks : List Str} {sp : Sp} {E : XK} {x : Str} {p pos : Pos} {e : Expr} {es : List Expr} {t tk : TA} {kws : List Keyword}
/-- what the callee does, from the caller's state -/
theorem goes {pins : List (Addr × Obj)} {σ : L2.St} {H : Hp} {s : Shared} {Q : VK} {args : Args} {us : List Value} {vs : List V} (F : FnG X.prog X.w X.K X.mg X.base k f fd ps sp) (g : X.A.guards = some []) (r : Room k X.A)
    (I : Inv X pins σ H s) (b : BindsTo s fd args (ps.zip us)) (rel : Vals vs us) (q : sp vs H Q E) : codeAny (model X.prog X.w) X.A (.call (.ref f) args) (fun a s2 => ∃ u, a = .ok (.ret u) ∧ EP X pins σ Q u s2) s := by
  apply codeAny_mono (F.go g r I.env0 b rel q)
  intro a s2 h
  rcases a with er | fl
  · exact h.elim
  · cases fl with
    | ret u => exact ⟨u, rfl, I.after h⟩
    | next => exact h.elim
    | brk => exact h.elim
    | cont => exact h.elim
theorem pe_callG (F : FnG X.prog X.w X.K X.mg X.base k f fd ps sp) (g : X.A.guards = some []) (r : Room k X.A) (hg : Gl X x) (hm : X.mg x = some (.ref f)) (hk : PySem.W.keepIn X.K (.ref f) = true) (hb : Binds X.K fd ps [])
    (ha : PA X (e :: es) t) (d1 : (x == ("__debug__" : Str)) = false := by decide) (d2 : starEach (e :: es) X.env = (false, eval e X.env) :: starEach es X.env := by rfl) (d3 : (backTo pos (starEach es X.env)).any (·.1) = false := by rfl) :
    PE X (.Call (.Name x p) (e :: es) [] pos) (fun σ H Q => t σ H fun vs G => sp vs G Q E) := by
  constructor
  intro pins s σ H Q I h
  apply wpAny_Call_Name_kw (ld_glob I hg hm ?_ d1)
  apply PySem.W.callWith_K (h₀ := X.base) I.ok.mod.kin hk ?_ d2 d3
  apply thn (ha.run pos pins s σ H _ I h)
  rintro us s1 ⟨vs, H1, I1, rel, q⟩
  refine ⟨I1.kIn, wpAny_call ?_⟩
  have n : (us ++ ([] : List Value)).length = ps.length := by
    rw [List.append_nil, ← rel.length]
    exact F.arity q
  have bb := hb s1 us I1.kIn n
  rw [List.append_nil] at bb
  apply codeAny_mono (goes F g r I1 bb rel q)
  rintro a s2 ⟨u, rfl, z⟩
  exact z
/-- how written keywords ks, behind n arguments by place, come to the parameters: parameter i is value number ix[i] -/
structure KBx (K : PySem.W.Frag) (fd : FuncData) (ps : List Str) (n : Nat) (ks : List Str) (ix : List Nat) : Prop where
  to : ∀ (s : Shared) (us ws : List Value), us.length = n → ws.length = ks.length → BindsTo s fd ⟨us, ks.zip ws⟩ (ps.zip (ix.map fun i => (us ++ ws).getD i .none))
theorem vals_ix {vs : List V} {us : List Value} (r : Vals vs us) : ∀ ix : List Nat, Vals (ix.map fun i => vs.getD i .non) (ix.map fun i => us.getD i .none)
  | [] => .nil
  | i :: l => by
    refine .cons ?_ (vals_ix r l)
    show L2.RelV (vs.getD i .non) (us.getD i .none)
    rw [List.getD_eq_getElem?_getD, List.getD_eq_getElem?_getD]
    cases h : vs[i]? with
    | none => rw [r.none_of h]; rfl
    | some v =>
      obtain ⟨u, hu, z⟩ := r.get h
      rw [hu]
      exact z
def tKw (sp : Sp) (n m : Nat) (ix : List Nat) (E : XK) (t tk : TA) : TE := fun σ H Q => t σ H fun vs G => tk σ G fun zs G2 => vs.length = n ∧ zs.length = m ∧ sp (ix.map fun i => (vs ++ zs).getD i .non) G2 Q E
theorem pe_callGK0 {ix : List Nat} (F : FnG X.prog X.w X.K X.mg X.base k f fd ps sp) (g : X.A.guards = some []) (r : Room k X.A) (hg : Gl X x) (hm : X.mg x = some (.ref f)) (hk : PySem.W.keepIn X.K (.ref f) = true) (hb : KBx X.K fd ps 0 ks ix)
    (hkw : PK X kws tk) (d4 : (backToKw pos (keywordEach kws X.env)).all (·.1.isSome) = true := by rfl) (d5 : (backToKw pos (keywordEach kws X.env)).filterMap (·.1) = ks := by rfl) (d1 : (x == ("__debug__" : Str)) = false := by decide)
    (d3 : (backToKw pos (keywordEach kws X.env)).any (·.1.isNone) = false := by rfl) :
    PE X (.Call (.Name x p) [] kws pos) (tKw sp 0 ks.length ix E L2.tNil tk) := by
  constructor
  intro pins s σ H Q I h
  apply wpAny_Call_Name_kw (ld_glob I hg hm ?_ d1)
  apply PySem.W.callWith_KW0 (h₀ := X.base) I.ok.mod.kin hk d4 ?_ d3
  apply thn (hkw.run pos pins s σ H _ I h)
  rintro ws s2 ⟨zs, H2, I2, rz, _, lz, q⟩
  refine ⟨I2.kIn, ?_⟩
  rw [d5]
  apply wpAny_call
  have lw : ws.length = ks.length := by rw [← rz.length]; exact lz
  apply codeAny_mono (goes F g r I2 (hb.to s2 [] ws rfl lw) (vals_ix (.append .nil rz) ix) q)
  rintro a s3 ⟨u, rfl, z⟩
  exact z
end
/-- sys.modules stands in the base -/
def HasMods (base : Heap) : Prop := ∃ mm, base.Ns sysModules mm
/-! ### the law's call, from its promise -/
theorem law_go {P : Program} {w : World} {K : PySem.W.Frag} {mg mb : Str → Option Value} {k : Nat} {fa a : Addr} {fd : FuncData} {x : Str} {sp : Sp} {s : Shared} {us : List Value} {ns : List Int}
    (kin : K.In s.heap) (gl : s.heap.Ns mainGlobals mg) (bl : s.heap.Ns builtinsNs mb) (boot : ∀ y : Str, y ≠ "__name__" → mb y = bootBuiltins y) (nolim : s.heap.NoLimit) (mods : HasMods s.heap) (gen : s.gens = #[])
    (ob : s.heap.get? a = some { cls := .type "list", data := .seq us.toArray }) (nums : IntsAre us ns) (size : ns.length ≤ sizeLine) (room : Room k callerA)
    (F : ∀ base : Heap, K.In base → base.Ns mainGlobals mg → HasMods base → FnG P w K mg base k fa fd [x] sp) (bind : ∀ (t : Shared) (u : Value), BindsTo t fd ⟨[u], []⟩ [(x, u)])
    (prom : ∀ H : Hp, SqL K H a (ns.map V.int) → sp [.ref a] H (fun v _ => v = .bl true) fun _ _ _ => False) :
    codeAny (model P w) callerA (.call (.ref fa) ⟨[.ref a], []⟩) (fun r t => r = .ok (.ret (.bool true)) ∧ OldK s.heap t.heap ∧ t.os = s.os ∧ AllBare t.gens) s := by
  have rel := vals_ints nums
  -- H tracks nothing, or the script alone, as the object that it is
  suffices main : ∀ H : Hp, SqL K H a (ns.map V.int) → HOk P w H s.heap → (∀ b u, H b = some u → b = a ∧ K.lookup a = none ∧ ∃ o y, u = .frz o y ∧ s.heap.get? b = some o) →
      codeAny (model P w) callerA (.call (.ref fa) ⟨[.ref a], []⟩) (fun r t => r = .ok (.ret (.bool true)) ∧ OldK s.heap t.heap ∧ t.os = s.os ∧ AllBare t.gens) s by
    by_cases hk : K.lookup a = none
    · let o : Obj := { cls := .type "list", data := .seq us.toArray }
      refine main (fun b => if b = a then some (.frz o (.lst (ns.map V.int))) else none) (.inl (.inr ⟨o, if_pos rfl⟩)) ?_ ?_
      · intro b u z
        by_cases h : b = a
        · subst h
          cases (if_pos rfl).symm.trans z
          exact ⟨ob, by rw [List.length_map]; exact size, us, _, rel, ob⟩
        · cases (if_neg h).symm.trans z
      · intro b u z
        by_cases h : b = a
        · subst h
          cases (if_pos rfl).symm.trans z
          exact ⟨rfl, hk, o, _, rfl, ob⟩
        · cases (if_neg h).symm.trans z
    · obtain ⟨o, ho⟩ := Option.ne_none_iff_exists'.mp hk
      have e := kin a o ho
      rw [ob] at e
      cases e
      exact main (fun _ => none) (.inr ⟨_, us.toArray, _, ho, rfl, rfl, rfl, by rw [List.size_toArray, nums.length]; exact size, by simpa using rel⟩) (fun b u z => nomatch z) fun b u z => nomatch z
  intro H seq hok only
  have hid : ∀ {b o}, s.heap.get? b = some o → H b = none → (hidT s.heap H).get? b = some o := fun e n => hidT_get e n
  have free : ∀ {b o} {es : Array DictEntry} {n : Nat}, s.heap.get? b = some o → o.data = .dict es n → H b = none := by
    intro b o es n e d
    cases z : H b with
    | none => rfl
    | some u =>
      obtain ⟨rfl, _⟩ := only b u z
      rw [ob] at e
      cases e
      cases d
  have names : ∀ {b} {m : Str → Option Value}, s.heap.Ns b m → (hidT s.heap H).Ns b m := by
    rintro b m ⟨o, es, n, e, d, z⟩
    exact ⟨o, es, n, hid e (free e d), d, z⟩
  have kin' : K.In (hidT s.heap H) := by
    intro b o e
    refine hid (kin b o e) ?_
    cases z : H b with
    | none => rfl
    | some u =>
      obtain ⟨rfl, n, _⟩ := only b u z
      rw [n] at e
      cases e
  obtain ⟨mc, l1, l2⟩ := nolim
  have mod : Mod K mg (hidT s.heap H) := ⟨kin', names gl, ⟨mb, names bl, boot⟩, ⟨mc, names l1, l2⟩⟩
  have env : Env0 P w K mg (hidT s.heap H) callerA [] s H := ⟨rfl, mod, fun b o e => of_hidT e, Nat.le_of_eq (hidT_size _ _), trivial, fun b h => absurd (show b ∈ ([] : List Addr) from h) (by simp), hok, .of_eq gen⟩
  apply codeAny_mono ((F _ kin' (names gl) (mods.imp fun _ z => names z)).go (us := [.ref a]) (vs := [.ref a]) rfl room env (bind s (.ref a)) (.cons rfl .nil) (prom H seq))
  intro r t h
  rcases r with er | fl
  · exact h.elim
  cases fl with
  | next => exact h.elim
  | brk => exact h.elim
  | cont => exact h.elim
  | ret u =>
    obtain ⟨v, G, os, bare, un, hok', rl, q⟩ := h
    cases (show v = .bl true from q)
    obtain rfl : u = Value.bool true := rl
    refine ⟨rfl, OldK.of_keep fun b o e => ?_, os, bare⟩
    cases z : H b with
    | none => exact un.keep b o e z (by intro m; exact absurd (show b ∈ ([] : List Addr) from m) (by simp)) (by simp)
    | some u =>
      obtain ⟨_, _, o', y, rfl, e'⟩ := only b u z
      rw [e] at e'
      cases e'
      exact (hok' b _ (un.frzs b o y z)).1
/-- what k_head leaves, from the law's promise -/
theorem walk_G {l : PySem.W.OpenLaw} {n k : Nat} {q : Program} {loose : List Str} {XP : (Str → Option Value) → Heap → Prop} {YP : World → Heap → Prop} {d : DefRec} {K : Params → PySem.W.Frag} {sp : PySem.W.Frag → Sp} {x : Str}
    (none : importsNone q = true) (hn : l.most = some n) (hn2 : n ≤ sizeLine) (hdf : d.params.defaults = []) (room : Room k callerA) (hY : ∀ (w : World) (h : Heap), YP w h → (K w.params).In h)
    (F : ∀ (w : World) (mg : Str → Option Value) (fa : Addr) (h : Heap), (K w.params).In h → h.Ns mainGlobals mg → mg d.name = some (.ref fa) →
      ∃ fd : FuncData, (∀ (t : Shared) (u : Value), BindsTo t fd ⟨[u], []⟩ [(x, u)]) ∧ ∀ base : Heap, (K w.params).In base → base.Ns mainGlobals mg → HasMods base → FnG l.prog w (K w.params) mg base k fa fd [x] (sp (K w.params)))
    (prom : ∀ (K : PySem.W.Frag) (H : Hp) (a : Addr) (ns : List Int), ns.length ≤ n → SqL K H a (ns.map V.int) → sp K [.ref a] H (fun v _ => v = .bl true) fun _ _ _ => False) :
    PySem.W.WalkO q loose XP YP l.row.toRowW d [] (fun f vs => PySem.call f vs) := by
  apply Att.attach_call hn hdf
  intro w s0 s1 mg mb fa o pm cd dc a us ns G Y _ _ _ hmg hobj nums hlen hg
  have md : HasMods s1.heap := let ⟨mm, z, _⟩ := (G.T.seer none).mods; ⟨mm, z⟩
  obtain ⟨fd, hb, hF⟩ := F w mg fa _ (hY w _ Y) G.T.g hmg
  exact law_go (hY w _ Y) G.T.g G.T.b G.T.builtins G.T.nolimit md hg hobj nums (Nat.le_trans hlen hn2) room hF hb fun H hS => prom _ H a ns hlen hS
/-- a def as its callers know it -/
structure Cal (P : Program) (w : World) (K : PySem.W.Frag) (mg : Str → Option Value) (base : Heap) (x : Str) (k : Nat) (f : Addr) (fd : FuncData) (ps : List Str) (sp : Sp) : Prop where
  G : FnG P w K mg base k f fd ps sp
  mgf : mg x = some (.ref f)
  kp : PySem.W.keepIn K (.ref f) = true
  b : Binds K fd ps []
/-- keywords come to the parameters -/
theorem kb_of {K : PySem.W.Frag} {x qual : Str} {st : Stmt} {f : Addr} {fd : FuncData} {ps ks : List Str} {n : Nat} {ix : List Nat} (F : Fun K x qual st f fd)
    (h : ∀ (kV dc pm : Value) (an : Option Addr) (cd ct : Value) (us ws : List Value), us.length = n → ws.length = ks.length → bindArgs (PySem.W.fnOf x qual (defArgs st) (defBody st) (defScope st) .none kV dc pm an cd ct) ⟨us, ks.zip ws⟩ = pure (ps.zip (ix.map fun i => (us ++ ws).getD i .none))) : KBx K fd ps n ks ix := by
  obtain ⟨oc, od, kV, dc, pm, an, cd, ct, sl, e, _, _⟩ := F.ex
  subst e
  exact ⟨fun s us ws l1 l2 => .of_eq (h kV dc pm an cd ct us ws l1 l2)⟩
def tGo (sp : Sp) (t : TA) : TE := fun σ H Q => t σ H fun vs G => sp vs G Q E0
theorem r_go {sp : Sp} {t : TA} {σ : L2.St} {H : Hp} {Q : VK} (h : t σ H fun vs G => sp vs G Q E0) : tGo sp t σ H Q := h
theorem r_kw {sp : Sp} {n m : Nat} {ix : List Nat} {E : XK} {t tk : TA} {σ : L2.St} {H : Hp} {Q : VK} (h : t σ H fun vs G => tk σ G fun zs G2 => vs.length = n ∧ zs.length = m ∧ sp (ix.map fun i => (vs ++ zs).getD i .non) G2 Q E) : tKw sp n m ix E t tk σ H Q := h
section
variable {X : Cx} {k : Nat} {f : Addr} {fd : FuncData} {ps ks : List Str} {sp : Sp} {x : Str} {p pos : Pos} {e : Expr} {es : List Expr} {t tk : TA} {kws : List Keyword}
theorem pe_go (c : Cal X.prog X.w X.K X.mg X.base x k f fd ps sp) (g : X.A.guards = some []) (r : Room k X.A) (hg : Gl X x) (ha : PA X (e :: es) t) (d1 : (x == ("__debug__" : Str)) = false := by decide)
    (d2 : starEach (e :: es) X.env = (false, eval e X.env) :: starEach es X.env := by rfl) (d3 : (backTo pos (starEach es X.env)).any (·.1) = false := by rfl) : PE X (.Call (.Name x p) (e :: es) [] pos) (tGo sp t) :=
  pe_callG (E := E0) c.G g r hg c.mgf c.kp c.b ha d1 d2 d3
theorem pe_kw0 {ix : List Nat} (c : Cal X.prog X.w X.K X.mg X.base x k f fd ps sp) (hb : KBx X.K fd ps 0 ks ix) (g : X.A.guards = some []) (r : Room k X.A) (hg : Gl X x) (hkw : PK X kws tk)
    (d4 : (backToKw pos (keywordEach kws X.env)).all (·.1.isSome) = true := by rfl) (d5 : (backToKw pos (keywordEach kws X.env)).filterMap (·.1) = ks := by rfl) (d1 : (x == ("__debug__" : Str)) = false := by decide)
    (d3 : (backToKw pos (keywordEach kws X.env)).any (·.1.isNone) = false := by rfl) : PE X (.Call (.Name x p) [] kws pos) (tKw sp 0 ks.length ix E0 L2.tNil tk) :=
  pe_callGK0 c.G g r hg c.mgf c.kp hb hkw d4 d5 d1 d3
end
end Rp
namespace Rp
open PySem PySem.Spec PyProof.Rows L2
/-! ### data on the heap, dicts in it too; what repr shows of them -/
def kD : Key → PyData
  | .inl i => .int i
  | .inr x => .str x
mutual
inductive Dd (K : PySem.W.Frag) (H : Hp) : V → PyData → Prop
  | non : Dd K H .non .none
  | bl (b : Bool) : Dd K H (.bl b) (.bool b)
  | num (i : Int) : Dd K H (.int i) (.int i)
  | str (x : Str) : Dd K H (.str x) (.str x)
  | lst {a : Addr} {xs : List V} {ds : List PyData} (e : SqL K H a xs) (h : DdAll K H xs ds) : Dd K H (.ref a) (.list ds)
  | tup {a : Addr} {xs : List V} {ds : List PyData} (e : SqT K H a xs) (h : DdAll K H xs ds) : Dd K H (.ref a) (.tuple ds)
  | dic {a : Addr} {kvs : List (Key × V)} {ds : List (PyData × PyData)} (e : H a = some (.dK kvs)) (h : DdKv K H kvs ds) : Dd K H (.ref a) (.dict ds)
inductive DdAll (K : PySem.W.Frag) (H : Hp) : List V → List PyData → Prop
  | nil : DdAll K H [] []
  | cons {v : V} {vs : List V} {d : PyData} {ds : List PyData} (h : Dd K H v d) (t : DdAll K H vs ds) : DdAll K H (v :: vs) (d :: ds)
inductive DdKv (K : PySem.W.Frag) (H : Hp) : List (Key × V) → List (PyData × PyData) → Prop
  | nil : DdKv K H [] []
  | cons {k : Key} {v : V} {r : List (Key × V)} {d : PyData} {ds : List (PyData × PyData)} (h : Dd K H v d) (t : DdKv K H r ds) : DdKv K H ((k, v) :: r) ((kD k, d) :: ds)
end
section
variable {X : Cx} {pins : List (Addr × Obj)} {σ : L2.St} {H : Hp} {s : Shared}
theorem mods_ne (I : Inv X pins σ H s) (M : HasMods X.base) {a : Addr} {o : Obj} {vs : Array Value} {n : Nat} (e : s.heap.get? a = some o) (d : o.data = .seq vs n) : sysModules ≠ a := by
  intro z
  obtain ⟨mm, ob, es, ep, h1, h2, _⟩ := M
  have h3 := (I.bs _ _ h1).1
  rw [z, e] at h3
  cases h3
  rw [d] at h2
  cases h2
theorem key_reads {h : Heap} {k : Key} {v : Value} (e : keyIs k v = true) : Reads h v (kD k) [] := by
  rcases keyIs_shape e with ⟨i, t, rfl, rfl⟩ | ⟨x, t, rfl, rfl⟩
  · exact .int i t
  · exact .str x t
mutual
theorem dd_reads (I : Inv X pins σ H s) (M : HasMods X.base) : ∀ {v : V} {d : PyData}, Dd X.K H v d → ∀ u, RelV v u → ∃ as, Reads s.heap u d as ∧ sysModules ∉ as
  | _, _, .non, u, r => by cases r; exact ⟨[], .none, by simp⟩
  | _, _, .bl b, u, r => by cases r; exact ⟨[], .bool b, by simp⟩
  | _, _, .num i, u, r => by obtain ⟨t, rfl⟩ := r; exact ⟨[], .int i t, by simp⟩
  | _, _, .str x, u, r => by obtain ⟨t, rfl⟩ := r; exact ⟨[], .str x t, by simp⟩
  | _, _, .lst e h, u, r => by
    cases r
    obtain ⟨its, rv, ⟨o, n, h1, h2, _, h4⟩, _⟩ := I.list e
    obtain ⟨as, ra, na⟩ := dd_readsAll I M h its rv
    refine ⟨_, .list h1 h2 h4 (by simpa using ra), ?_⟩
    intro m
    rcases List.mem_cons.mp m with z | z
    · exact mods_ne I M h1 h4 z
    · exact na z
  | _, _, .tup e h, u, r => by
    cases r
    obtain ⟨its, rv, ⟨o, h1, h2, n, h4⟩, _⟩ := I.tuple e
    obtain ⟨as, ra, na⟩ := dd_readsAll I M h its rv
    exact ⟨_, .tuple h1 h2 h4 (by simpa using ra), na⟩
  | _, _, .dic e h, u, r => by
    cases r
    obtain ⟨_, ns, vs, kv, o, es, ep, h1, h2, h3, _, pr, _⟩ := I.hok _ _ e
    obtain ⟨bs, rk, rvs, nb⟩ := dd_readsKv I M h vs es.toList kv pr
    refine ⟨_, .dict h1 h2.1 h3 rk rvs, ?_⟩
    intro m
    rcases List.mem_cons.mp (by simpa using m) with z | z
    · rw [z] at ns
      simp at ns
    · exact nb (by simpa using z)
theorem dd_readsAll (I : Inv X pins σ H s) (M : HasMods X.base) : ∀ {vs : List V} {ds : List PyData}, DdAll X.K H vs ds → ∀ us, Vals vs us → ∃ as, ReadsAll s.heap us ds as ∧ sysModules ∉ as
  | _, _, .nil, us, r => by cases r; exact ⟨[], .nil, by simp⟩
  | _, _, .cons h t, us, r => by
    cases r with
    | cons r1 r2 =>
      obtain ⟨as, q1, n1⟩ := dd_reads I M h _ r1
      obtain ⟨bs, q2, n2⟩ := dd_readsAll I M t _ r2
      exact ⟨as ++ bs, .cons q1 q2, by rw [List.mem_append]; exact fun z => z.elim n1 n2⟩
theorem dd_readsKv (I : Inv X pins σ H s) (M : HasMods X.base) : ∀ {kvs : List (Key × V)} {ds : List (PyData × PyData)}, DdKv X.K H kvs ds → ∀ (vs : List (Key × Value)) (es : List DictEntry), KV kvs vs → Pairs (mixKind X.prog X.w) es vs →
    ∃ bs, ReadsAll s.heap (es.map (·.key)) (ds.map (·.1)) [] ∧ ReadsAll s.heap (es.map (·.val)) (ds.map (·.2)) bs ∧ sysModules ∉ bs
  | _, _, .nil, vs, es, kv, pr => by
    cases kv
    cases pr
    exact ⟨[], .nil, .nil, by simp⟩
  | _, _, .cons h t, vs, es, kv, pr => by
    cases kv with
    | cons k1 k2 =>
      cases pr with
      | cons p1 p2 p3 =>
        obtain ⟨e1, e2⟩ := k1
        rw [← p2] at e2
        rw [← e1] at p1
        obtain ⟨as, q1, n1⟩ := dd_reads I M h _ e2
        obtain ⟨bs, q2, q3, n2⟩ := dd_readsKv I M t _ _ k2 p3
        refine ⟨as ++ bs, ?_, .cons q1 q3, by rw [List.mem_append]; exact fun z => z.elim n1 n2⟩
        exact ReadsAll.cons (as := []) (key_reads p1) q2
end
/-- repr of a list, a tuple, a dict: of data -/
def rRepr (K : PySem.W.Frag) : List V → Hp → VK → Prop := fun xs H Q => ∃ (a : Addr) (d : PyData), xs = [.ref a] ∧ Dd K H (.ref a) d ∧ d.showable = true ∧ d.depth ≤ 64 ∧ d.shown.length ≤ sizeLine ∧ Q (.str d.shown) H
theorem call_reprD {k : Nat} (hr : Room k X.A) (g : X.A.guards = some []) (M : HasMods X.base) : CallR X (.builtin "repr") (rRepr X.K) := by
  intro pins s σ H xs us Q I r h
  obtain ⟨a, d, rfl, dd, hs, hdp, hsz, q⟩ := h
  obtain ⟨u, rfl, r1⟩ := vals1 r
  cases (show u = Value.ref a from r1)
  obtain ⟨as, rd, na⟩ := dd_reads I M dd _ rfl
  have un := hr.un
  exact repr_of_reads' rd hs (fun _ => na) g (by omega) (fun _ _ e => e) (fun h' t tk hk => ⟨.str d.shown, H, I.kept hk, ⟨_, rfl⟩, q⟩) hsz
end
end Rp
namespace Rp
open PySem PySem.Spec PyProof.Rows L2
/-! ### values of any kind, off the box -/
inductive Any (q : Addr) (H : Hp) : V → Prop
  | non : Any q H .non
  | bl (b : Bool) : Any q H (.bl b)
  | num (i : Int) : Any q H (.int i)
  | str (x : Str) : Any q H (.str x)
  | lst {a : Addr} {xs : List V} (n : a ≠ q) (e : H a = some (.lst xs)) : Any q H (.ref a)
  | tup {a : Addr} {xs : List V} (n : a ≠ q) (e : H a = some (.tup xs)) : Any q H (.ref a)
  | dic {a : Addr} {kvs : List (Key × V)} (n : a ≠ q) (e : H a = some (.dK kvs)) : Any q H (.ref a)
/-- a value that is a list or tuple of some values, or none -/
inductive RowV (q : Addr) (H : Hp) : V → Option (List V) → Prop
  | non : RowV q H .non none
  | bl (b : Bool) : RowV q H (.bl b) none
  | num (i : Int) : RowV q H (.int i) none
  | str (x : Str) : RowV q H (.str x) none
  | lst {a : Addr} {xs : List V} (n : a ≠ q) (e : H a = some (.lst xs)) (h : ∀ x ∈ xs, Any q H x) : RowV q H (.ref a) (some xs)
  | tup {a : Addr} {xs : List V} (n : a ≠ q) (e : H a = some (.tup xs)) (h : ∀ x ∈ xs, Any q H x) : RowV q H (.ref a) (some xs)
  | dic {a : Addr} {kvs : List (Key × V)} (n : a ≠ q) (e : H a = some (.dK kvs)) : RowV q H (.ref a) none
section
variable {q : Addr} {H H' : Hp} {v : V} {o : Option (List V)} {K : PySem.W.Frag}
theorem Any.but (h : Any q H v) (b : But q H H') : Any q H' v := by
  cases h with
  | non => exact .non
  | bl b => exact .bl b
  | num i => exact .num i
  | str x => exact .str x
  | lst n e => exact .lst n (b _ _ n e)
  | tup n e => exact .tup n (b _ _ n e)
  | dic n e => exact .dic n (b _ _ n e)
theorem RowV.but (h : RowV q H v o) (b : But q H H') : RowV q H' v o := by
  cases h with
  | non => exact .non
  | bl b => exact .bl b
  | num i => exact .num i
  | str x => exact .str x
  | lst n e it => exact .lst n (b _ _ n e) fun x m => (it x m).but b
  | tup n e it => exact .tup n (b _ _ n e) fun x m => (it x m).but b
  | dic n e => exact .dic n (b _ _ n e)
def isI : V → Bool
  | .int _ => true
  | _ => false
def isIB : V → Bool
  | .int _ => true
  | .bl _ => true
  | _ => false
def isB : V → Bool
  | .bl _ => true
  | _ => false
theorem isI_eq (v : V) : (isIB v && !isB v) = isI v := by cases v <;> rfl
theorem any_int (h : Any q H v) : ∃ t : Value, TyX K H v t ∧ PySem.W.kitOne K t (.type "int") = some (isIB v) := by
  cases h with
  | non => exact ⟨_, .base .non, kit_ty (r := false) (by decide +kernel)⟩
  | bl b => exact ⟨_, .base (.bl b), kit_ty (r := true) (by decide +kernel)⟩
  | num i => exact ⟨_, .base (.int i), kit_ty (r := true) (by decide +kernel)⟩
  | str x => exact ⟨_, .base (.str x), kit_ty (r := false) (by decide +kernel)⟩
  | lst n e => exact ⟨_, .base (.lst e), kit_ty (r := false) (by decide +kernel)⟩
  | tup n e => exact ⟨_, .base (.tup e), kit_ty (r := false) (by decide +kernel)⟩
  | dic n e => exact ⟨_, .base (.dK e), kit_ty (r := false) (by decide +kernel)⟩
theorem any_bool (h : Any q H v) : ∃ t : Value, TyX K H v t ∧ PySem.W.kitOne K t (.type "bool") = some (isB v) := by
  cases h with
  | non => exact ⟨_, .base .non, kit_ty (r := false) (by decide +kernel)⟩
  | bl b => exact ⟨_, .base (.bl b), kit_ty (r := true) (by decide +kernel)⟩
  | num i => exact ⟨_, .base (.int i), kit_ty (r := false) (by decide +kernel)⟩
  | str x => exact ⟨_, .base (.str x), kit_ty (r := false) (by decide +kernel)⟩
  | lst n e => exact ⟨_, .base (.lst e), kit_ty (r := false) (by decide +kernel)⟩
  | tup n e => exact ⟨_, .base (.tup e), kit_ty (r := false) (by decide +kernel)⟩
  | dic n e => exact ⟨_, .base (.dK e), kit_ty (r := false) (by decide +kernel)⟩
theorem kit2 {t a b : String} {x y : Bool} (h1 : kitB t a = some x) (h2 : kitB t b = some y) : PySem.W.kitAny K (.type t) [.type a, .type b] = some (x || y) := by
  refine kitAny_cons (kit_ty h1) (fun e => ?_) (fun e => by rw [e]; rfl)
  rw [e]
  refine kitAny_cons (kit_ty h2) (fun e => ?_) (fun e => by rw [e]; rfl)
  rw [e]
  exact kitAny_nil
theorem row_seq (h : RowV q H v o) : ∃ t : Value, TyX K H v t ∧ PySem.W.kitAny K t [.type "list", .type "tuple"] = some o.isSome := by
  cases h with
  | non => exact ⟨_, .base .non, kit2 (x := false) (y := false) (by decide +kernel) (by decide +kernel)⟩
  | bl b => exact ⟨_, .base (.bl b), kit2 (x := false) (y := false) (by decide +kernel) (by decide +kernel)⟩
  | num i => exact ⟨_, .base (.int i), kit2 (x := false) (y := false) (by decide +kernel) (by decide +kernel)⟩
  | str x => exact ⟨_, .base (.str x), kit2 (x := false) (y := false) (by decide +kernel) (by decide +kernel)⟩
  | lst n e => exact ⟨_, .base (.lst e), kit2 (x := true) (y := false) (by decide +kernel) (by decide +kernel)⟩
  | tup n e => exact ⟨_, .base (.tup e), kit2 (x := false) (y := true) (by decide +kernel) (by decide +kernel)⟩
  | dic n e => exact ⟨_, .base (.dK e), kit2 (x := false) (y := false) (by decide +kernel) (by decide +kernel)⟩
end
/-- any value is, is not a truth -/
def rIsAny (neg : Bool) : R2 := fun x y H Q => ∃ b, y = .bl b ∧ Q (.bl (if neg then !decide (x = .bl b) else decide (x = .bl b))) H
section
variable {X : Cx}
theorem bl_ne {x : V} {v : Value} {b : Bool} (rx : RelV x v) (ne : x ≠ .bl b) : v ≠ Value.bool b := by
  intro e
  subst e
  cases x with
  | bl c => exact ne (by rw [Value.bool.inj (show Value.bool b = Value.bool c from rx)])
  | non => cases (show Value.bool b = Value.none from rx)
  | int i => obtain ⟨t, z⟩ := rx; cases z
  | str y => obtain ⟨t, z⟩ := rx; cases z
  | byt y => obtain ⟨t, z⟩ := rx; cases z
  | flt y => obtain ⟨t, z⟩ := rx; cases z
  | ref a => cases (show Value.bool b = Value.ref a from rx)
  | ty n => cases (show Value.bool b = Value.type n from rx)
theorem plain_bl {x : V} {v : Value} {b : Bool} (rx : RelV x v) : plainIs v (.bool b) = true := by
  cases x with
  | bl c => cases rx; rfl
  | non => cases rx; rfl
  | int i => obtain ⟨t, rfl⟩ := rx; rfl
  | str y => obtain ⟨t, rfl⟩ := rx; rfl
  | byt y => obtain ⟨t, rfl⟩ := rx; rfl
  | flt y => obtain ⟨t, rfl⟩ := rx; rfl
  | ref a => cases rx; rfl
  | ty n => cases rx; rfl
theorem op_is_any : OpR X (compareOp .Is) (rIsAny false) := by
  intro pins s σ H x y v u Q I rx ry h
  obtain ⟨b, rfl, q⟩ := h
  cases (show u = Value.bool b from ry)
  by_cases e : x = .bl b
  · subst e
    cases (show v = Value.bool b from rx)
    exact wpAny_is_self rfl ⟨.bl true, H, I, rfl, by simpa using q⟩
  · exact wpAny_is_other (plain_bl rx) (bl_ne rx e) ⟨.bl false, H, I, rfl, by simpa [e] using q⟩
theorem op_isnot_any : OpR X (compareOp .IsNot) (rIsAny true) := by
  intro pins s σ H x y v u Q I rx ry h
  obtain ⟨b, rfl, q⟩ := h
  cases (show u = Value.bool b from ry)
  by_cases e : x = .bl b
  · subst e
    cases (show v = Value.bool b from rx)
    exact wpAny_isNot_self rfl ⟨.bl false, H, I, rfl, by simpa using q⟩
  · exact wpAny_isNot_other (plain_bl rx) (bl_ne rx e) ⟨.bl true, H, I, rfl, by simpa [e] using q⟩
end
end Rp
namespace Rp
open PySem PySem.Spec PyProof.Rows L2
section
variable {K : PySem.W.Frag} {H : Hp} {Q : VK} {x v : V} {t : Value} {b : Bool} {q : Addr}
theorem r_isi {n : String} (ty : TyX K H x t) (k : PySem.W.kitOne K t (.type n) = some b) (h : Q (.bl b) H) : rIsi K [x, .ty n] H Q := ⟨x, _, t, _, b, rfl, .ty n, ty, k, h⟩
theorem r_isiT {p : Addr} {n m : String} (e : H p = some (.tup [.ty n, .ty m])) (ty : TyX K H x t) (k : PySem.W.kitAny K t [.type n, .type m] = some b) (h : Q (.bl b) H) : rIsiT K [x, .ref p] H Q :=
  ⟨x, p, _, t, _, b, rfl, e, .cons (.ty n) (.cons (.ty m) .nil), ty, k, h⟩
theorem r_isAny {neg : Bool} {c : Bool} (h : Q (.bl (if neg then !decide (x = .bl c) else decide (x = .bl c))) H) : rIsAny neg x (.bl c) H Q := ⟨c, rfl, h⟩
@[reducible] def oV : Option Int → V
  | none => .non
  | some i => .int i
/-- an integer from lo to hi -/
def inB (v : V) (lo hi : Option Int) : Bool :=
  match v with
  | .int i => (match lo with | none => true | some l => decide (l ≤ i)) && (match hi with | none => true | some u => decide (i ≤ u))
  | _ => false
def clocks : List Int := [3, 5, 7, 11, 13, 17, 19, 23, 29, 31]
def clk (v : V) : Bool :=
  match v with
  | .int i => clocks.contains i
  | _ => false
def rowB (o : Option (List V)) (clock size : Int) : Bool :=
  match o with
  | none => false
  | some xs => decide ((xs.length : Int) = size) && xs.all fun x => inB x (some 0) (some (clock - 1))
def spIsInt : Sp := fun vs H Q _ => ∃ q v, vs = [v] ∧ Any q H v ∧ Q (.bl (isI v)) H
def spWithin : Sp := fun vs H Q _ => ∃ q v lo hi, vs = [v, oV lo, oV hi] ∧ Any q H v ∧ Q (.bl (inB v lo hi)) H
def spClock : Sp := fun vs H Q _ => ∃ q v, vs = [v] ∧ Any q H v ∧ Q (.bl (clk v)) H
def spRow : Sp := fun vs H Q _ => ∃ q v o clock size, vs = [v, .int clock, .int size] ∧ RowV q H v o ∧ clk (.int clock) = true ∧ (∀ xs, o = some xs → xs.length < sizeLine) ∧ ∀ H', Same H H' → Q (.bl (rowB o clock size)) H'
end
end Rp
namespace Rp
open PySem PySem.Spec PyProof.Rows L2
/-! ### steps at the box -/
section
variable {K : PySem.W.Frag} {q c p : Addr} {ns : List Int} {lap : Nat} {H0 H G : Hp} {o : HO} {Q : VK} {σ : L2.St} {x y v : V} {te tk tv : TE} {b : Bool}
theorem alloc (hG : upd H p o = G) (D : Dr q c ns lap H) (B : But q H0 H) (hp : H p = none) : Dr q c ns lap G ∧ But q H0 G ∧ But q H G ∧ p ≠ q ∧ G p = some o := by
  subst hG
  refine ⟨D.neu hp, B.neu hp, (But.refl q H).neu hp, ?_, upd_same⟩
  intro e
  obtain ⟨_, ⟨_, h⟩, _⟩ := D
  rw [e, h] at hp
  cases hp
/-- what stood at p is exchanged -/
theorem stored {u : HO} (hG : upd H p o = G) (D : Dr q c ns lap H) (np : p ≠ q) (ep : H p = some u) (d : ∀ xs, u ≠ .lst xs) : Dr q c ns lap G ∧ G p = some o := by
  subst hG
  obtain ⟨ne, ⟨rest, h⟩, hc, hl⟩ := D
  exact ⟨⟨ne, ⟨rest, by rw [upd_ne np.symm]; exact h⟩, by rw [upd_ne (ne_of hc ep (d _).symm)]; exact hc, hl⟩, upd_same⟩
theorem but_put {H1 : Hp} (hG : upd H p o = G) (B : But q H1 H) (hp : H1 p = none) : But q H1 G := by
  subst hG
  intro b u n e
  rw [upd_ne (ne_of_none e hp)]
  exact B b u n e
/-- a fact of each item -/
inductive EachP (F : V → Prop) : List V → Prop
  | nil : EachP F []
  | cons {x : V} {r : List V} (h : F x) (t : EachP F r) : EachP F (x :: r)
theorem EachP.get {F : V → Prop} {v : V} : ∀ {xs : List V} {i : Nat}, EachP F xs → xs[i]? = some v → F v
  | _, i, .nil, h => by simp at h
  | _, 0, .cons h _, e => by
    have e' := Option.some.inj e
    rw [← e']
    exact h
  | _, i + 1, .cons _ t, e => EachP.get (i := i) t (by simpa using e)
theorem EachP.mem {F : V → Prop} {xs : List V} (h : EachP F xs) : ∀ x ∈ xs, F x := fun x m => by
  obtain ⟨i, hi⟩ := List.mem_iff_getElem?.mp m
  exact h.get hi
theorem EachP.imp {F F' : V → Prop} (f : ∀ v, F v → F' v) : ∀ {xs : List V}, EachP F xs → EachP F' xs
  | _, .nil => .nil
  | _, .cons h t => .cons (f _ h) (EachP.imp f t)
theorem lt_ok {n m : Nat} (h : Nat.ble (n + 1) m = true) : n < m := Nat.le_of_ble_eq_true h
theorem le_ok {n m : Nat} (h : Nat.ble n m = true) : n ≤ m := Nat.le_of_ble_eq_true h
/-- an int within bounds -/
def IntIn (lo hi : Int) (v : V) : Prop := ∃ i, v = .int i ∧ lo ≤ i ∧ i ≤ hi
theorem log_ok {i : Int} (h : i.natAbs < 2 ^ 80) : i.natAbs.log2 < 1920 := by
  by_cases e : i.natAbs = 0
  · rw [e]
    decide
  · exact Nat.lt_of_lt_of_le ((Nat.log2_lt e).mpr h) (by decide)
theorem r_disp {trs : List (TE × TE)} (h : ∀ p, H p = none → tPairs trs σ (upd H p (.dK [])) fun ps G => G p = some (.dK []) ∧ ∃ kvs : List (Key × V), ps = kvs.map (fun kv => (kV kv.1, kv.2)) ∧ kvs.length ≤ 15 ∧ Q (.ref p) (upd G p (.dK (mergeK [] kvs)))) : tDisp trs σ H Q := h
theorem r_pair {r : List (TE × TE)} {R : List (V × V) → Hp → Prop} (h : tk σ H fun x G => tv σ G fun y G2 => tPairs r σ G2 fun ps G3 => R ((x, y) :: ps) G3) : tPairs ((tk, tv) :: r) σ H R := h
theorem r_pair0 {R : List (V × V) → Hp → Prop} (h : R [] H) : tPairs [] σ H R := h
theorem r_chain {r r' : R2} {ta tb tc : TE} (h : ta σ H fun x G => tb σ G fun y G2 => r x y G2 fun z G3 => ∃ k, z = .bl k ∧ (if k = true then tc σ G3 fun w G4 => r' y w G4 Q else Q (.bl false) G3)) : tChain r r' ta tb tc σ H Q := h
theorem r_U {g : Int → V} {i : Int} (h : Q (g i) H) : rU g (.int i) H Q := ⟨i, rfl, h⟩
theorem r_gtup {n : Nat} {t : TGs} {R : L2.St → Hp → Prop} (h : ∃ a xs, v = .ref a ∧ SqT K H a xs ∧ xs.length = n ∧ t xs σ H R) : gTup K n t v σ H R := h
end
end Rp
namespace Rp
open PySem PySem.Spec PyProof.Rows L2
section
variable {K : PySem.W.Frag} {q c p : Addr} {ns : List Int} {lap : Nat} {H0 H G : Hp} {o : HO} {Q : VK} {σ : L2.St} {x y v : V} {b : Bool} {F : V → Prop}
theorem eq_nil {nums : List Int} (hc : H c = some (.lst (nums.map V.int))) (hp : H p = some (.lst [])) (h : Q (.bl nums.isEmpty) H) : rEqD K (.ref c) (.ref p) H Q :=
  ⟨_, _, .lst (SqL.of hc) (dp_ints nums), .lst (SqL.of hp) .nil, shaped_ints nums, shaped_ints [], by rw [eqv_nil_ints]; exact h⟩
theorem bools_len (a b : Bool) : (PyData.list [.bool a, .bool b]).shown.length ≤ sizeLine := by
  cases a <;> cases b <;> exact Nat.le_trans (m := 100) (by decide +kernel) (by decide)
/-- repr of two truths -/
theorem r_bools {a b : Bool} (e : H p = some (.lst [.bl a, .bl b])) (h : Q (.str (PyData.list [.bool a, .bool b]).shown) H) : rRepr K [.ref p] H Q :=
  ⟨p, _, rfl, .lst (SqL.of e) (.cons (.bl a) (.cons (.bl b) .nil)), by simp [PyData.showable, PyData.showableAll], by simp [PyData.depth, PyData.depthAll], bools_len a b, h⟩
theorem r_ne_same {s : Str} (h : Q (.bl false) H) : rNe (.str s) (.str s) H Q := ⟨rfl, by rw [decide_eq_true rfl]; exact h⟩
theorem r_eq_same {s : Str} (h : Q (.bl true) H) : rEq (.str s) (.str s) H Q := ⟨rfl, by rw [decide_eq_true rfl]; exact h⟩
theorem inB_no {lo hi : Option Int} (h : isI v = false) : inB v lo hi = false := by cases v <;> first | rfl | cases h
theorem clk_no (h : isI v = false) : clk v = false := by cases v <;> first | rfl | cases h
/-- prime, as the law reckons it -/
def prB (n : Int) : Bool := (((List.range (n - 2).toNat).filter fun j : Nat => decide (n.fmod (2 + (j : Int)) = 0)).map fun j : Nat => 2 + (j : Int)).isEmpty
theorem clk_pr {n : Int} (h0 : 3 ≤ n) (h1 : n ≤ 31) : clk (.int n) = prB n := by
  have key : ∀ k : _root_.Fin 29, clk (.int (3 + (k.val : Int))) = prB (3 + (k.val : Int)) := by decide +kernel
  have e : n = 3 + (((n - 3).toNat : Nat) : Int) := by omega
  have z := key ⟨(n - 3).toNat, by omega⟩
  rw [e]
  exact z
theorem clk_out {n : Int} (h : n < 3 ∨ 31 < n) : clk (.int n) = false := by
  simp only [clk, clocks, List.contains_cons, List.contains_nil, Bool.or_false, Bool.or_eq_false_iff, beq_eq_false_iff_ne]
  omega
theorem EachP.append {xs ys : List V} (h : EachP F xs) (k : EachP F ys) : EachP F (xs ++ ys) := by
  induction h with
  | nil => exact k
  | cons a _ ih => exact .cons a ih
theorem EachP.of {xs : List V} (h : ∀ x ∈ xs, F x) : EachP F xs := by
  induction xs with
  | nil => exact .nil
  | cons a r ih => exact .cons (h a (List.mem_cons_self ..)) (ih fun x m => h x (List.mem_cons_of_mem _ m))
theorem EachP.sub {xs ys : List V} (h : EachP F ys) (s : ∀ x ∈ xs, x ∈ ys) : EachP F xs := .of fun x m => h.mem x (s x m)
theorem cut_lo {xs : List V} {n : Nat} (h : n ≤ xs.length) : cutV xs none (some (n : Int)) = xs.take n := by
  unfold cutV
  rw [HT.sIx_nat, HT.sIx_none, Nat.sub_zero, Nat.min_eq_left h, List.drop_zero]
theorem cut_hi {xs : List V} {n : Nat} (h : n ≤ xs.length) : cutV xs (some (n : Int)) none = xs.drop n := by
  unfold cutV
  rw [HT.sIx_nat, HT.sIx_none, Nat.min_eq_left h]
  exact List.take_of_length_le (by rw [List.length_drop]; omega)
theorem row_yes {xs : List V} {clock : Int} (h : EachP (IntIn 0 (clock - 1)) xs) : rowB (some xs) clock (xs.length : Int) = true := by
  simp only [rowB, decide_true, Bool.true_and, List.all_eq_true]
  intro x m
  obtain ⟨i, rfl, h0, h1⟩ := h.mem x m
  simp [inB, h0, h1]
theorem row_no {xs : List V} {clock size : Int} (m : x ∈ xs) (h : inB x (some 0) (some (clock - 1)) = false) : rowB (some xs) clock size = false := by
  simp only [rowB, Bool.and_eq_false_iff, List.all_eq_false]
  exact .inr ⟨x, m, by rw [h]; exact Bool.false_ne_true⟩
theorem row_size {xs : List V} {clock size : Int} (h : (xs.length : Int) ≠ size) : rowB (some xs) clock size = false := by simp [rowB, h]
theorem Dr.same (d : Dr q c ns lap H) (s : Same H G) : Dr q c ns lap G := by
  obtain ⟨ne, ⟨rest, h⟩, hc, hl⟩ := d
  exact ⟨ne, ⟨rest, s _ _ h⟩, s _ _ hc, hl⟩
theorem same_but (s : Same H G) : But q H G := fun b u _ e => s b u e
theorem IntIn.any {lo hi : Int} (h : IntIn lo hi v) : Any q H v := by
  obtain ⟨i, rfl, _⟩ := h
  exact .num i
end
end Rp
namespace Rp
open PySem PySem.Spec PyProof.Rows L2
/-- (value, many, due) with due what is_row tells of value -/
def RowItem (q : Addr) (clock : Int) (H : Hp) (v : V) : Prop := ∃ (t a : Addr) (m : Int) (d : Bool) (xs : List V), v = .ref t ∧ t ≠ q ∧ H t = some (.tup [.ref a, .int m, .bl d]) ∧ RowV q H (.ref a) (some xs) ∧ xs.length < 1000 ∧ rowB (some xs) clock m = d
section
variable {q : Addr} {clock : Int} {H H' : Hp} {v : V}
theorem RowItem.but (h : RowItem q clock H v) (b : But q H H') : RowItem q clock H' v := by
  obtain ⟨t, a, m, d, xs, e, n, ht, hr, hl, hd⟩ := h
  exact ⟨t, a, m, d, xs, e, n, b _ _ n ht, hr.but b, hl, hd⟩
theorem any_all {xs : List V} (h : EachP (Any q H) xs) : ∀ x ∈ xs, Any q H x := h.mem
theorem rep_one {n : Nat} {x : V} : (List.replicate n [x]).flatten = List.replicate n x := by
  induction n with
  | zero => rfl
  | succ n ih => rw [List.replicate_succ, List.flatten_cons, ih, List.replicate_succ]; rfl
theorem all_rep {F : V → Prop} {n : Nat} {x : V} (h : F x) : EachP F (List.replicate n x) := .of fun y m => by
  rw [(List.mem_replicate.mp m).2]
  exact h
theorem r_catA {K : PySem.W.Frag} {a b : Addr} {xs ys : List V} {Q : VK} (ha : SqT K H a xs) (hb : H b = some (.tup ys)) (hz : xs.length + ys.length ≤ sizeLine) (ny : ys ≠ [])
    (h : ∀ p G, G p = some (.tup (xs ++ ys)) → (G = H ∧ p = b ∨ H p = none ∧ G = upd H p (.tup (xs ++ ys))) → Q (.ref p) G) : rCatA K (.ref a) (.ref b) H Q := by
  refine ⟨a, b, xs, ys, rfl, rfl, ha, SqT.of hb, hz, fun e => ?_, fun _ e => absurd e ny, fun _ _ p hp => h p _ upd_same (.inr ⟨hp, rfl⟩)⟩
  subst e
  exact h b H hb (.inl ⟨rfl, rfl⟩)
theorem alloc_or {c p b : Addr} {ns : List Int} {lap : Nat} {H0 G : Hp} {o : HO} (z : G = H ∧ p = b ∨ H p = none ∧ G = upd H p o) (D : Dr q c ns lap H) (B : But q H0 H) (nb : b ≠ q) : Dr q c ns lap G ∧ But q H0 G ∧ But q H G ∧ p ≠ q := by
  rcases z with ⟨rfl, rfl⟩ | ⟨hp, rfl⟩
  · exact ⟨D, B, But.refl _ _, nb⟩
  · obtain ⟨a1, a2, a3, a4, _⟩ := alloc rfl D B hp
    exact ⟨a1, a2, a3, a4⟩
end
end Rp
namespace Rp
open PySem PySem.Spec PyProof.Rows L2
section
variable {K : PySem.W.Frag} {c p : Addr} {H : Hp} {Q : VK}
/-- two int lists that are the same -/
theorem eq_nums {nums : List Int} (hc : H c = some (.lst (nums.map V.int))) (hp : H p = some (.lst (nums.map V.int))) (h : Q (.bl true) H) : rEqD K (.ref c) (.ref p) H Q :=
  ⟨_, _, .lst (SqL.of hc) (dp_ints nums), .lst (SqL.of hp) (dp_ints nums), shaped_ints nums, shaped_ints nums, by
    rw [SeqAt.eqv_refl _ (by rw [PyData.canLay0]; exact canLay_ints nums)]
    exact h⟩
end
/-- the law: True, whatever the script -/
def spLaw (K : PySem.W.Frag) : Sp := fun vs H Q _ => ∃ (a : Addr) (ns : List Int), vs = [.ref a] ∧ SqL K H a (ns.map V.int) ∧ ∀ H', Q (.bl true) H'
end Rp
namespace Rp
open PySem PySem.Spec PyProof.Rows L2
/-! ### data off some places -/
/-- the heap without what stands at S -/
def hid (S : List Addr) (H : Hp) : Hp := fun b => if b ∈ S then none else H b
/-- all but what stands at S is as it was -/
def Keep (S : List Addr) (H H' : Hp) : Prop := ∀ b o, b ∉ S → H b = some o → H' b = some o
section
variable {K : PySem.W.Frag} {S S' : List Addr} {H H' H2 : Hp} {q p b : Addr} {o : HO} {v : V} {d : PyData}
theorem hid_in (h : b ∈ S) : hid S H b = none := by unfold hid; rw [if_pos h]
theorem hid_out (h : b ∉ S) : hid S H b = H b := by unfold hid; rw [if_neg h]
theorem hid_some (h : hid S H b = some o) : b ∉ S ∧ H b = some o := by
  by_cases m : b ∈ S
  · rw [hid_in m] at h
    cases h
  · rw [hid_out m] at h
    exact ⟨m, h⟩
theorem Keep.refl (S : List Addr) (H : Hp) : Keep S H H := fun _ _ _ h => h
theorem Keep.trans (a : Keep S H H') (c : Keep S H' H2) : Keep S H H2 := fun b o n h => c b o n (a b o n h)
theorem Keep.of (s : Same H H') : Keep S H H' := fun b o _ h => s b o h
theorem Keep.but (B : But q H H') : Keep [q] H H' := fun b o n h => B b o (fun e => n (by simp [e])) h
theorem Keep.toBut (k : Keep [q] H H') : But q H H' := fun b o n h => k b o (by simp [n]) h
theorem Keep.sub (k : Keep S H H') (s : ∀ b ∈ S, b ∈ S') : Keep S' H H' := fun b o n h => k b o (fun m => n (s b m)) h
theorem Keep.neu (k : Keep S H H') (h : H' p = none) : Keep S H (upd H' p o) := fun b u n e => by
  have e' := k b u n e
  rw [upd_ne (ne_of_none e' h)]
  exact e'
theorem Keep.put (k : Keep S H H') (h : H p = none) : Keep S H (upd H' p o) := fun b u n e => by
  rw [upd_ne (ne_of_none e h)]
  exact k b u n e
theorem Keep.hid (k : Keep S H H') : Same (hid S H) (hid S H') := fun b u e => by
  obtain ⟨n, e'⟩ := hid_some e
  rw [hid_out n]
  exact k b u n e'
theorem hid_up : Same (hid S H) H := fun b u e => (hid_some e).2
theorem hid_less (s : ∀ b ∈ S, b ∈ S') : Same (hid S' H) (hid S H) := fun b u e => by
  obtain ⟨n, e'⟩ := hid_some e
  rw [hid_out fun m => n (s b m)]
  exact e'
theorem hid_nil : hid [] H = H := by
  funext b
  exact hid_out (by simp)
theorem hid_upd (h : p ∈ S) : hid S (upd H p o) = hid S H := by
  funext b
  by_cases m : b ∈ S
  · rw [hid_in m, hid_in m]
  · rw [hid_out m, hid_out m, upd_ne fun e => m (by rw [e]; exact h)]
theorem Same.tupS {xs : List V} (s : Same H H') (h : SqT K H p xs) : SqT K H' p xs := by
  rcases h with (h | ⟨o, h⟩) | h
  · exact .inl (.inl (s _ _ h))
  · exact .inl (.inr ⟨o, s _ _ h⟩)
  · exact .inr h
mutual
theorem dd_same (s : Same H H') : ∀ {v : V} {d : PyData}, Dd K H v d → Dd K H' v d
  | _, _, .non => .non
  | _, _, .bl b => .bl b
  | _, _, .num i => .num i
  | _, _, .str x => .str x
  | _, _, .lst e h => .lst (s.seq e) (dd_sameAll s h)
  | _, _, .tup e h => .tup (Same.tupS s e) (dd_sameAll s h)
  | _, _, .dic e h => .dic (s _ _ e) (dd_sameKv s h)
theorem dd_sameAll (s : Same H H') : ∀ {vs : List V} {ds : List PyData}, DdAll K H vs ds → DdAll K H' vs ds
  | _, _, .nil => .nil
  | _, _, .cons h t => .cons (dd_same s h) (dd_sameAll s t)
theorem dd_sameKv (s : Same H H') : ∀ {kvs : List (Key × V)} {ds : List (PyData × PyData)}, DdKv K H kvs ds → DdKv K H' kvs ds
  | _, _, .nil => .nil
  | _, _, .cons h t => .cons (dd_same s h) (dd_sameKv s t)
end
theorem DdAll.append {xs ys : List V} {ds es : List PyData} (h : DdAll K H xs ds) (k : DdAll K H ys es) : DdAll K H (xs ++ ys) (ds ++ es) := by
  match xs, ds, h with
  | [], [], .nil => exact k
  | _ :: _, _ :: _, .cons a t => exact .cons a (DdAll.append t k)
theorem DdAll.len : ∀ {xs : List V} {ds : List PyData}, DdAll K H xs ds → xs.length = ds.length
  | _, _, .nil => rfl
  | _, _, .cons _ t => congrArg Nat.succ (DdAll.len t)
theorem DdAll.at : ∀ {xs : List V} {ds : List PyData} {i : Nat} {x : V}, DdAll K H xs ds → xs[i]? = some x → ∃ d, ds[i]? = some d ∧ Dd K H x d
  | _, _, i, _, .nil, e => by simp at e
  | _, _, 0, x, .cons (d := d) h _, e => by
    have e' := Option.some.inj e
    rw [← e']
    exact ⟨d, rfl, h⟩
  | _, _, i + 1, x, .cons _ t, e => DdAll.at (i := i) t (by simpa using e)
end
/-! ### a tuple for each list, all the way in -/
mutual
def fixD : PyData → PyData
  | .list xs => .tuple (fixAll xs)
  | .tuple xs => .tuple (fixAll xs)
  | d => d
def fixAll : List PyData → List PyData
  | [] => []
  | x :: r => fixD x :: fixAll r
end
theorem fixAll_map : ∀ xs : List PyData, fixAll xs = xs.map fixD
  | [] => by simp [fixAll]
  | x :: r => by simp [fixAll, fixAll_map r]
mutual
theorem fix_fix : ∀ d : PyData, fixD (fixD d) = fixD d
  | .list xs => by simp only [fixD]; rw [fix_fixAll xs]
  | .tuple xs => by simp only [fixD]; rw [fix_fixAll xs]
  | .none => by simp only [fixD]
  | .bool _ => by simp only [fixD]
  | .int _ => by simp only [fixD]
  | .str _ => by simp only [fixD]
  | .dict _ => by simp only [fixD]
theorem fix_fixAll : ∀ xs : List PyData, fixAll (fixAll xs) = fixAll xs
  | [] => by simp only [fixAll]
  | x :: r => by simp only [fixAll]; rw [fix_fix x, fix_fixAll r]
end
/-! ### how long it is shown -/
mutual
def cost : PyData → Nat
  | .list xs => 3 + costAll xs
  | .tuple xs => 3 + costAll xs
  | d => d.shown.length
def costAll : List PyData → Nat
  | [] => 0
  | x :: r => cost x + 2 + costAll r
end
mutual
theorem cost_fix : ∀ d : PyData, cost (fixD d) = cost d
  | .list xs => by simp only [fixD, cost]; rw [cost_fixAll xs]
  | .tuple xs => by simp only [fixD, cost]; rw [cost_fixAll xs]
  | .none => by simp only [fixD]
  | .bool _ => by simp only [fixD]
  | .int _ => by simp only [fixD]
  | .str _ => by simp only [fixD]
  | .dict _ => by simp only [fixD]
theorem cost_fixAll : ∀ xs : List PyData, costAll (fixAll xs) = costAll xs
  | [] => by simp only [fixAll]
  | x :: r => by simp only [fixAll, costAll]; rw [cost_fix x, cost_fixAll r]
end
mutual
theorem shown_cost : ∀ d : PyData, d.shown.length ≤ cost d
  | .list xs => by
    simp only [PyData.shown, cost]
    have h1 := listText_len_le (PyData.shownAll xs)
    have h2 := shown_costAll xs
    rw [PyData.shownAll_length] at h1
    omega
  | .tuple xs => by
    simp only [PyData.shown, cost]
    have h1 := tupleText_len_le (PyData.shownAll xs)
    have h2 := shown_costAll xs
    rw [PyData.shownAll_length] at h1
    omega
  | .none => by simp only [cost]; exact Nat.le_refl _
  | .bool _ => by simp only [cost]; exact Nat.le_refl _
  | .int _ => by simp only [cost]; exact Nat.le_refl _
  | .str _ => by simp only [cost]; exact Nat.le_refl _
  | .dict _ => by simp only [cost]; exact Nat.le_refl _
theorem shown_costAll : ∀ xs : List PyData, ((PyData.shownAll xs).map (·.length)).sum + 2 * xs.length ≤ costAll xs
  | [] => by simp [PyData.shownAll, costAll]
  | x :: r => by
    have h1 := shown_cost x
    have h2 := shown_costAll r
    simp only [PyData.shownAll, costAll, List.map_cons, List.sum_cons, List.length_cons]
    omega
end
mutual
theorem fix_showable : ∀ d : PyData, (fixD d).showable = d.showable
  | .list xs => by simp only [fixD, PyData.showable]; rw [fix_showableAll xs]
  | .tuple xs => by simp only [fixD, PyData.showable]; rw [fix_showableAll xs]
  | .none => by simp only [fixD]
  | .bool _ => by simp only [fixD]
  | .int _ => by simp only [fixD]
  | .str _ => by simp only [fixD]
  | .dict _ => by simp only [fixD]
theorem fix_showableAll : ∀ xs : List PyData, PyData.showableAll (fixAll xs) = PyData.showableAll xs
  | [] => by simp only [fixAll]
  | x :: r => by simp only [fixAll, PyData.showableAll]; rw [fix_showable x, fix_showableAll r]
end
mutual
theorem fix_depth : ∀ d : PyData, (fixD d).depth = d.depth
  | .list xs => by simp only [fixD, PyData.depth]; rw [fix_depthAll xs]
  | .tuple xs => by simp only [fixD, PyData.depth]; rw [fix_depthAll xs]
  | .none => by simp only [fixD]
  | .bool _ => by simp only [fixD]
  | .int _ => by simp only [fixD]
  | .str _ => by simp only [fixD]
  | .dict _ => by simp only [fixD]
theorem fix_depthAll : ∀ xs : List PyData, PyData.depthAll (fixAll xs) = PyData.depthAll xs
  | [] => by simp only [fixAll]
  | x :: r => by simp only [fixAll, PyData.depthAll]; rw [fix_depth x, fix_depthAll r]
end
/-- fit to be shown: not deep, not long -/
structure Fit (n c : Nat) (d : PyData) : Prop where
  sh : d.showable = true
  dp : d.depth ≤ n
  co : cost d ≤ c
theorem Fit.fix {n c : Nat} {d : PyData} (f : Fit n c d) : Fit n c (fixD d) := ⟨by rw [fix_showable]; exact f.sh, by rw [fix_depth]; exact f.dp, by rw [cost_fix]; exact f.co⟩
theorem Fit.le {n c m e : Nat} {d : PyData} (f : Fit n c d) (h : n ≤ m) (k : c ≤ e) : Fit m e d := ⟨f.sh, Nat.le_trans f.dp h, Nat.le_trans f.co k⟩
inductive FitAll (n : Nat) : Nat → List PyData → Prop
  | nil : FitAll n 0 []
  | cons {c e : Nat} {d : PyData} {ds : List PyData} (h : Fit n c d) (t : FitAll n e ds) : FitAll n (c + 2 + e) (d :: ds)
theorem FitAll.facts {n c : Nat} {ds : List PyData} (h : FitAll n c ds) : PyData.showableAll ds = true ∧ PyData.depthAll ds ≤ n ∧ costAll ds ≤ c := by
  induction h with
  | nil => exact ⟨by simp only [PyData.showableAll], by simp only [PyData.depthAll]; exact Nat.zero_le _, by simp only [costAll]; exact Nat.le_refl _⟩
  | cons h t ih =>
    obtain ⟨a, b, e⟩ := ih
    refine ⟨by simp only [PyData.showableAll, h.sh, a]; rfl, ?_, ?_⟩
    · simp only [PyData.depthAll]
      exact Nat.max_le.mpr ⟨h.dp, b⟩
    · simp only [costAll]
      have := h.co
      omega
theorem FitAll.list {n c : Nat} {ds : List PyData} (h : FitAll n c ds) : Fit (n + 1) (3 + c) (.list ds) := by
  obtain ⟨a, b, e⟩ := h.facts
  exact ⟨by simp only [PyData.showable]; exact a, by simp only [PyData.depth]; omega, by simp only [cost]; omega⟩
theorem FitAll.tuple {n c : Nat} {ds : List PyData} (h : FitAll n c ds) : Fit (n + 1) (3 + c) (.tuple ds) := by
  obtain ⟨a, b, e⟩ := h.facts
  exact ⟨by simp only [PyData.showable]; exact a, by simp only [PyData.depth]; omega, by simp only [cost]; omega⟩
theorem costAll_len : ∀ xs : List PyData, 2 * xs.length ≤ costAll xs
  | [] => by simp [costAll]
  | x :: r => by
    have := costAll_len r
    simp only [costAll, List.length_cons]
    omega
theorem costAll_mem : ∀ {xs : List PyData} {d : PyData}, d ∈ xs → cost d ≤ costAll xs
  | [], d, m => by cases m
  | x :: r, d, m => by
    simp only [costAll]
    rcases List.mem_cons.mp m with e | m
    · rw [e]
      omega
    · have := costAll_mem m
      omega
theorem depthAll_mem : ∀ {xs : List PyData} {d : PyData}, d ∈ xs → d.depth ≤ PyData.depthAll xs
  | [], d, m => by cases m
  | x :: r, d, m => by
    simp only [PyData.depthAll]
    rcases List.mem_cons.mp m with e | m
    · rw [e]
      exact Nat.le_max_left _ _
    · exact Nat.le_trans (depthAll_mem m) (Nat.le_max_right _ _)
theorem showableAll_mem : ∀ {xs : List PyData} {d : PyData}, PyData.showableAll xs = true → d ∈ xs → d.showable = true
  | [], d, _, m => by cases m
  | x :: r, d, h, m => by
    simp only [PyData.showableAll, Bool.and_eq_true] at h
    rcases List.mem_cons.mp m with e | m
    · rw [e]
      exact h.1
    · exact showableAll_mem h.2 m
/-- a list's or a tuple's item -/
theorem Fit.item {n c : Nat} {xs : List PyData} {d : PyData} (f : Fit (n + 1) c (.list xs) ∨ Fit (n + 1) c (.tuple xs)) (m : d ∈ xs) : Fit n c d := by
  rcases f with f | f
  · obtain ⟨a, b, e⟩ := f
    simp only [PyData.showable, PyData.depth, cost] at a b e
    have h1 := depthAll_mem m
    have h2 := costAll_mem m
    exact ⟨showableAll_mem a m, by omega, by omega⟩
  · obtain ⟨a, b, e⟩ := f
    simp only [PyData.showable, PyData.depth, cost] at a b e
    have h1 := depthAll_mem m
    have h2 := costAll_mem m
    exact ⟨showableAll_mem a m, by omega, by omega⟩
/-! ### repr of any data -/
/-- repr of a value that is data: its text -/
def rReprA (K : PySem.W.Frag) : List V → Hp → VK → Prop := fun xs H Q => ∃ (v : V) (d : PyData), xs = [v] ∧ Dd K H v d ∧ Fit 64 15000000 d ∧ Q (.str d.shown) H
section
variable {X : Cx}
theorem call_reprA {k : Nat} (hr : Room k X.A) (g : X.A.guards = some []) (M : HasMods X.base) : CallR X (.builtin "repr") (rReprA X.K) := by
  intro pins s σ H xs us Q I r h
  obtain ⟨v, d, rfl, dd, ⟨hs, hdp, hco⟩, q⟩ := h
  have hsz : d.shown.length ≤ sizeLine := Nat.le_trans (shown_cost d) (Nat.le_trans hco (by decide))
  cases dd with
  | non =>
    obtain ⟨u, rfl, r1⟩ := vals1 r
    cases (show u = Value.none from r1)
    exact PySem.P.repr_of_none ⟨.str _, H, I.tok _, ⟨_, rfl⟩, by rw [PyData.shown_none] at q; exact q⟩
  | bl b =>
    obtain ⟨u, rfl, r1⟩ := vals1 r
    cases (show u = Value.bool b from r1)
    refine PySem.P.repr_of_bool ⟨.str _, H, I.tok _, ⟨_, rfl⟩, ?_⟩
    rw [PyData.shown_bool] at q
    cases b <;> exact q
  | num i =>
    obtain ⟨u, rfl, t, rfl⟩ := vals1 r
    refine PySem.P.repr_of_int (by simpa [PyData.showable] using hs) ⟨.str _, H, I.tok _, ⟨_, rfl⟩, ?_⟩
    rw [PyData.shown_int] at q
    exact q
  | str x =>
    obtain ⟨u, rfl, t, rfl⟩ := vals1 r
    rw [PyData.shown_str] at hsz q
    exact PySem.P.repr_of_str ⟨.str _, H, I.tok _, ⟨_, rfl⟩, q⟩ hsz
  | lst e h => exact call_reprD hr g M pins s σ H _ us Q I r ⟨_, _, rfl, .lst e h, hs, hdp, hsz, q⟩
  | tup e h => exact call_reprD hr g M pins s σ H _ us Q I r ⟨_, _, rfl, .tup e h, hs, hdp, hsz, q⟩
  | dic e h => exact call_reprD hr g M pins s σ H _ us Q I r ⟨_, _, rfl, .dic e h, hs, hdp, hsz, q⟩
end
theorem r_reprA {K : PySem.W.Frag} {H : Hp} {Q : VK} {v : V} {d : PyData} (e : Dd K H v d) (f : Fit 64 15000000 d) (h : Q (.str d.shown) H) : rReprA K [v] H Q := ⟨v, d, rfl, e, f, h⟩
/-- what isinstance tells of data -/
def seqD : PyData → Bool
  | .list _ => true
  | .tuple _ => true
  | _ => false
theorem dd_seq {K : PySem.W.Frag} {H : Hp} {v : V} {d : PyData} (h : Dd K H v d) : ∃ t : Value, TyX K H v t ∧ PySem.W.kitAny K t [.type "list", .type "tuple"] = some (seqD d) := by
  cases h with
  | non => exact ⟨_, .base .non, kit2 (x := false) (y := false) (by decide +kernel) (by decide +kernel)⟩
  | bl b => exact ⟨_, .base (.bl b), kit2 (x := false) (y := false) (by decide +kernel) (by decide +kernel)⟩
  | num i => exact ⟨_, .base (.int i), kit2 (x := false) (y := false) (by decide +kernel) (by decide +kernel)⟩
  | str x => exact ⟨_, .base (.str x), kit2 (x := false) (y := false) (by decide +kernel) (by decide +kernel)⟩
  | lst e _ =>
    have k := kit2 (K := K) (t := "list") (a := "list") (b := "tuple") (x := true) (y := false) (by decide +kernel) (by decide +kernel)
    rcases e with (e | ⟨o, e⟩) | ⟨o, _, _, e, c, _⟩
    · exact ⟨_, .base (.lst e), k⟩
    · exact ⟨_, .base (.frz e), k⟩
    · exact ⟨_, .kList e c, k⟩
  | tup e _ =>
    have k := kit2 (K := K) (t := "tuple") (a := "list") (b := "tuple") (x := false) (y := true) (by decide +kernel) (by decide +kernel)
    rcases e with (e | ⟨o, e⟩) | ⟨o, _, _, e, c, _⟩
    · exact ⟨_, .base (.tup e), k⟩
    · exact ⟨_, .fTuple e, k⟩
    · exact ⟨_, .kTuple e c, k⟩
  | dic e _ => exact ⟨_, .base (.dK e), kit2 (x := false) (y := false) (by decide +kernel) (by decide +kernel)⟩
def isLst : PyData → Bool
  | .list _ => true
  | _ => false
def isTup : PyData → Bool
  | .tuple _ => true
  | _ => false
theorem dd_list {K : PySem.W.Frag} {H : Hp} {v : V} {d : PyData} (h : Dd K H v d) : ∃ t : Value, TyX K H v t ∧ PySem.W.kitOne K t (.type "list") = some (isLst d) ∧ PySem.W.kitOne K t (.type "tuple") = some (isTup d) := by
  cases h with
  | non => exact ⟨_, .base .non, kit_ty (r := false) (by decide +kernel), kit_ty (r := false) (by decide +kernel)⟩
  | bl b => exact ⟨_, .base (.bl b), kit_ty (r := false) (by decide +kernel), kit_ty (r := false) (by decide +kernel)⟩
  | num i => exact ⟨_, .base (.int i), kit_ty (r := false) (by decide +kernel), kit_ty (r := false) (by decide +kernel)⟩
  | str x => exact ⟨_, .base (.str x), kit_ty (r := false) (by decide +kernel), kit_ty (r := false) (by decide +kernel)⟩
  | lst e _ =>
    have k1 := kit_ty (K := K) (a := "list") (b := "list") (r := true) (by decide +kernel)
    have k2 := kit_ty (K := K) (a := "list") (b := "tuple") (r := false) (by decide +kernel)
    rcases e with (e | ⟨o, e⟩) | ⟨o, _, _, e, c, _⟩
    · exact ⟨_, .base (.lst e), k1, k2⟩
    · exact ⟨_, .base (.frz e), k1, k2⟩
    · exact ⟨_, .kList e c, k1, k2⟩
  | tup e _ =>
    have k1 := kit_ty (K := K) (a := "tuple") (b := "list") (r := false) (by decide +kernel)
    have k2 := kit_ty (K := K) (a := "tuple") (b := "tuple") (r := true) (by decide +kernel)
    rcases e with (e | ⟨o, e⟩) | ⟨o, _, _, e, c, _⟩
    · exact ⟨_, .base (.tup e), k1, k2⟩
    · exact ⟨_, .fTuple e, k1, k2⟩
    · exact ⟨_, .kTuple e c, k1, k2⟩
  | dic e _ => exact ⟨_, .base (.dK e), kit_ty (r := false) (by decide +kernel), kit_ty (r := false) (by decide +kernel)⟩
end Rp
namespace Rp
open PySem PySem.Spec PyProof.Rows L2
/-- data, with tuples for lists; S: what may change meanwhile -/
def spFix (K : PySem.W.Frag) (n : Nat) : Sp := fun vs H Q _ => ∃ (S : List Addr) (v : V) (d : PyData), vs = [v] ∧ (∀ b ∈ S, H b ≠ none) ∧ Dd K (hid S H) v d ∧ d.depth < n ∧ cost d ≤ 15000000 ∧
  ∀ (H' : Hp) (v' : V), Same H H' → Dd K (hid S H') v' (fixD d) → Q v' H'
section
variable {S : List Addr} {H H1 G : Hp} {D p b : Addr} {o : HO}
theorem Keep.own : Keep [D] H (upd H D o) := fun b u n e => by
  rw [upd_ne fun z => n (by simp [z])]
  exact e
theorem Keep.own2 (k : Keep [D] H G) : Keep [D] H (upd G D o) := fun b u n e => by
  rw [upd_ne fun z => n (by simp [z])]
  exact k b u n e
theorem hid_new (hD : H1 D = none) (k : Keep [D] H1 G) : Same (hid S H1) (hid (D :: S) G) := fun b u e => by
  obtain ⟨n, e'⟩ := hid_some e
  have nb : b ≠ D := ne_of_none e' hD
  rw [hid_out (by simp [nb, n])]
  exact k b u (by simp [nb]) e'
theorem live_new {o : HO} (hS : ∀ b ∈ S, H1 b ≠ none) (hD : H1 D = none) (k : Keep [D] H1 G) (e : G D = some o) : ∀ b ∈ D :: S, G b ≠ none := fun b m => by
  rcases List.mem_cons.mp m with z | m
  · rw [z, e]
    exact fun q => nomatch q
  · intro q
    cases z : H1 b with
    | none => exact hS b m z
    | some u =>
      have nb : b ≠ D := ne_of_none z hD
      rw [k b u (by simp [nb]) z] at q
      cases q
theorem live_same (hS : ∀ b ∈ S, H b ≠ none) (s : Same H G) : ∀ b ∈ S, G b ≠ none := fun b m q => by
  cases z : H b with
  | none => exact hS b m z
  | some u =>
    rw [s b u z] at q
    cases q
theorem live_not (hS : ∀ b ∈ S, H b ≠ none) (h : H p = none) : p ∉ S := fun m => hS p m h
theorem fixAll_take {ds : List PyData} {i : Nat} {d : PyData} (h : ds[i]? = some d) : fixAll (ds.take (i + 1)) = fixAll (ds.take i) ++ [fixD d] := by
  rw [fixAll_map, fixAll_map, List.take_succ, h, Option.toList_some, List.map_append]
  rfl
theorem len_cost {ds : List PyData} {c : Nat} (h : costAll ds ≤ c) (hc : c ≤ 15000000) : ds.length < sizeLine := by
  have := costAll_len ds
  exact Nat.lt_of_lt_of_le (m := 8000000) (by omega) (len_ok rfl)
end
end Rp
namespace Rp
open PySem PySem.Spec PyProof.Rows L2
section
variable {K : PySem.W.Frag} {S : List Addr} {H H1 G : Hp} {q p b l : Addr} {o u : HO} {v : V} {d : PyData} {n c : Nat}
theorem notin (hS : ∀ b ∈ S, H b ≠ none) (B : But q H G) (np : p ≠ q) (hp : G p = none) : p ∉ S := fun m => by
  cases z : H p with
  | none => exact hS p m z
  | some o =>
    rw [B p o np z] at hp
    cases hp
theorem dd_but (hq : q ∈ S) (B : But q H G) (h : Dd K (hid S H) v d) : Dd K (hid S G) v d := dd_same ((Keep.but B).sub fun b m => by rw [List.mem_singleton.mp m]; exact hq).hid h
theorem live_but {c0 : Addr} {nums : List Int} {lap : Nat} (hS : ∀ b ∈ S, H b ≠ none) (B : But q H G) (D : Dr q c0 nums lap G) : ∀ b ∈ S, G b ≠ none := fun b m z => by
  by_cases e : b = q
  · obtain ⟨_, ⟨_, h⟩, _⟩ := D
    rw [e, h] at z
    cases z
  · cases y : H b with
    | none => exact hS b m y
    | some o =>
      rw [B b o e y] at z
      cases z
theorem at_put (hG : upd H p o = G) (n : l ≠ p) : G l = H l := by rw [← hG, upd_ne n]
/-- data in a row, fit to be shown -/
def FitA (n c : Nat) (ds : List PyData) : Prop := PyData.showableAll ds = true ∧ PyData.depthAll ds ≤ n ∧ costAll ds ≤ c
theorem FitA.nil : FitA n c [] := ⟨by simp only [PyData.showableAll], by simp only [PyData.depthAll]; exact Nat.zero_le _, by simp only [costAll]; exact Nat.zero_le _⟩
theorem FitA.cons {e : Nat} {ds : List PyData} (h : Fit n c d) (t : FitA n e ds) : FitA n (c + 2 + e) (d :: ds) := by
  obtain ⟨a, b, f⟩ := t
  refine ⟨by simp only [PyData.showableAll, h.sh, a]; rfl, ?_, ?_⟩
  · simp only [PyData.depthAll]
    exact Nat.max_le.mpr ⟨h.dp, b⟩
  · simp only [costAll]
    have := h.co
    omega
theorem FitA.app {e : Nat} : ∀ {ds : List PyData} {m : Nat}, FitA n m ds → Fit n e d → FitA n (m + (e + 2)) (ds ++ [d])
  | [], m, _, f => by
    obtain ⟨a, b, g⟩ := FitA.cons (e := 0) f FitA.nil
    exact ⟨a, b, by show costAll [d] ≤ _; omega⟩
  | x :: r, m, ⟨a, b, g⟩, f => by
    simp only [PyData.showableAll, Bool.and_eq_true] at a
    simp only [PyData.depthAll] at b
    simp only [costAll] at g
    obtain ⟨a', b', g'⟩ := FitA.app (ds := r) (m := m - (cost x + 2)) ⟨a.2, by omega, by omega⟩ f
    refine ⟨?_, ?_, ?_⟩
    · show PyData.showableAll (x :: (r ++ [d])) = true
      simp only [PyData.showableAll, a.1, a']
      rfl
    · show PyData.depthAll (x :: (r ++ [d])) ≤ n
      simp only [PyData.depthAll]
      omega
    · show costAll (x :: (r ++ [d])) ≤ _
      simp only [costAll]
      omega
theorem FitA.le {m e : Nat} {ds : List PyData} (f : FitA n c ds) (h : n ≤ m) (k : c ≤ e) : FitA m e ds := ⟨f.1, Nat.le_trans f.2.1 h, Nat.le_trans f.2.2 k⟩
theorem FitA.list {ds : List PyData} (f : FitA n c ds) : Fit (n + 1) (3 + c) (.list ds) := by
  obtain ⟨a, b, e⟩ := f
  exact ⟨by simp only [PyData.showable]; exact a, by simp only [PyData.depth]; omega, by simp only [cost]; omega⟩
theorem FitA.tuple {ds : List PyData} (f : FitA n c ds) : Fit (n + 1) (3 + c) (.tuple ds) := by
  obtain ⟨a, b, e⟩ := f
  exact ⟨by simp only [PyData.showable]; exact a, by simp only [PyData.depth]; omega, by simp only [cost]; omega⟩
theorem fit_int {i : Int} (h : i.natAbs < 10 ^ 12) : Fit n 13 (.int i) :=
  ⟨by simp only [PyData.showable, decide_eq_true_eq]; exact log_ok (Nat.lt_of_lt_of_le h (by decide)), by simp only [PyData.depth]; exact Nat.zero_le _, by simp only [cost]; exact PyData.shown_int_le h⟩
end
end Rp
namespace Rp
open PySem
theorem leaf_fit {n c : Nat} {d : PyData} (a : d.showable = true) (b : d.depth ≤ n) (e : cost d ≤ c) : Fit n c d := ⟨a, b, e⟩
end Rp
namespace Rp
open PySem PySem.Spec PyProof.Rows L2
section
variable {K : PySem.W.Frag} {H : Hp} {q c p : Addr} {ns : List Int} {lap : Nat} {Q : VK} {xs : List V} {i : Int} {v : V}
theorem live_q (D : Dr q c ns lap H) : ∀ b ∈ [q], H b ≠ none := fun b m z => by
  obtain ⟨_, ⟨_, h⟩, _⟩ := D
  rw [List.mem_singleton.mp m, h] at z
  cases z
theorem r_ixT (hs : SqT K H p xs) (ha : atI xs i = some v) (h : Q v H) : rIxT K (.ref p) (.int i) H Q := ⟨p, xs, i, v, rfl, rfl, hs, ha, h⟩
end
end Rp
local macro_rules | `(tactic| walk_at "re") => `(tactic| with_reducible first
  | refine Rp.r_op ?_ | refine Rp.r_test ?_ | refine Rp.r_if ?_ | refine Rp.r_asg ?_ | refine Rp.r_ret ?_
  | refine Rp.r_cb ?_ | refine Rp.r_cons ?_ | refine Rp.r_nil ?_ | refine Rp.r_c ?_ | refine Rp.r_gname ?_ | refine Rp.r_gsub ?_ | refine Rp.r_next ?_ | refine Rp.r_drop ?_
  | refine Rp.r_I0 ?_ | refine Rp.r_tb ?_ | refine Rp.r_not ?_ | refine Rp.r_and ?_ | refine Rp.r_or ?_ | refine Rp.r_sl ?_ | refine Rp.r_pnone ?_ | refine Rp.r_pint ?_
  | refine Rp.r_lst ?_ | refine Rp.r_tup ?_ | refine Rp.r_lc ?_ | refine Rp.r_ilist ?_ | refine Rp.r_itup ?_ | refine Rp.r_irng1 ?_ | refine Rp.r_irng2 ?_ | refine Rp.r_for ?_ | refine Rp.r_par ?_ | refine Rp.r_go ?_ | refine Rp.r_kw ?_ | refine Rp.r_disp ?_ | refine Rp.r_pair ?_ | refine Rp.r_pair0 ?_ | refine Rp.r_chain ?_ | refine Rp.r_U ?_ | refine Rp.r_gtup ?_ | refine Rp.r_un ?_ | refine Rp.r_ifx ?_ | refine Rp.r_bl ?_ | refine Rp.r_andV ?_ | refine Rp.r_orV ?_ | refine Rp.r_notV ?_ | refine Rp.r_call ?_ | refine Rp.r_yes ?_ | refine Rp.r_true ?_ | refine Rp.r_false ?_ | refine Rp.r_truen ?_ | refine Rp.r_falsen ?_)
local macro_rules | `(tactic| walk_at "ex") => `(tactic| with_reducible first | refine Rp.r_op ?_ | refine Rp.r_test ?_ | refine Rp.r_cb ?_ | refine Rp.r_cons ?_ | refine Rp.r_nil ?_ | refine Rp.r_c ?_ | refine Rp.r_gname ?_ | refine Rp.r_gsub ?_ | refine Rp.r_I0 ?_ | refine Rp.r_tb ?_ | refine Rp.r_not ?_ | refine Rp.r_and ?_ | refine Rp.r_or ?_ | refine Rp.r_sl ?_ | refine Rp.r_pnone ?_ | refine Rp.r_pint ?_ | refine Rp.r_lst ?_ | refine Rp.r_tup ?_ | refine Rp.r_lc ?_ | refine Rp.r_ilist ?_ | refine Rp.r_itup ?_ | refine Rp.r_irng1 ?_ | refine Rp.r_irng2 ?_ | refine Rp.r_go ?_ | refine Rp.r_kw ?_ | refine Rp.r_disp ?_ | refine Rp.r_pair ?_ | refine Rp.r_pair0 ?_ | refine Rp.r_chain ?_ | refine Rp.r_U ?_ | refine Rp.r_gtup ?_ | refine Rp.r_un ?_ | refine Rp.r_ifx ?_ | refine Rp.r_bl ?_ | refine Rp.r_andV ?_ | refine Rp.r_orV ?_ | refine Rp.r_notV ?_ | refine Rp.r_call ?_ | refine Rp.r_yes ?_ | refine Rp.r_true ?_ | refine Rp.r_false ?_ | refine Rp.r_truen ?_ | refine Rp.r_falsen ?_)
local macro_rules | `(tactic| walk_at "v") => `(tactic| ((with_reducible refine Rp.r_varE ?_); refine ⟨_, rfl, ?_⟩))
local macro_rules | `(tactic| walk_at "rex") => `(tactic| repeat (first | walk_at "ex" | walk_at "v"))
local macro_rules | `(tactic| walk_at "rd") => `(tactic| first | with_reducible refine Rp.r_seq ?_ | walk_at "re")
local macro_rules | `(tactic| walk_at "res") => `(tactic| repeat (first | walk_at "re" | walk_at "v"))
local macro_rules | `(tactic| walk_at "rds") => `(tactic| repeat (first | walk_at "rd" | walk_at "v"))
local macro_rules | `(tactic| walk_at "T") => `(tactic| (walk_at "rds"; refine L2.iteT ?_; walk_at "rds"))
local macro_rules | `(tactic| walk_at "F") => `(tactic| (walk_at "rds"; refine L2.iteF ?_; walk_at "rds"))
namespace K04
open PySem PySem.Spec PyProof.Rows L2 Rp
def top (i : Nat) : Stmt := PySem.Challenge.pw_ropesays_k04_lists_and_tuples_all_the_wa.main.body.getD i (.Pass ⟨0, 0, 0, 0⟩)
structure Txt (K : PySem.W.Frag) (mg : Str → Option Value) : Prop where
  z_abs : mg "abs" = none
  z_int : mg "int" = none
  z_isinstance : mg "isinstance" = none
  z_len : mg "len" = none
  z_list : mg "list" = none
  z_range : mg "range" = none
  z_repr : mg "repr" = none
  z_tuple : mg "tuple" = none

section
variable {P : Program} {w : World} {K : PySem.W.Frag} {mg : Str → Option Value} {base : Heap}
abbrev sLawHamper : Stmt := top 3
theorem scLawHamper : FnScope ["script", "cell"] ["script"] (defScope sLawHamper) := ⟨rfl, rfl, rfl, by decide +kernel, rfl, by decide +kernel, by decide +kernel⟩
theorem ok_LawHamper {f : Addr} {fd : FuncData} (F : Fun K "_law_hamper" "_law_hamper" sLawHamper f fd) (T : Txt K mg) (hM : HasMods base)   : FnG P w K mg base 1 f fd ["script"] (spBox K) := by
  refine fng F scLawHamper (fun {vs H Q E} h => ?_) (fun {cdv A fr s H vs Q E} hg hr h => ?_)
  · obtain ⟨a, ns, rfl, hS, k⟩ := h
    rfl
  · obtain ⟨a, ns, rfl, hS, k⟩ := h
    refine ⟨_, (pss_one (ps_ret (pe_lst (pa_cons (pe_lc (own := [("cell", 1)]) (g := gName 1) (tt := tYes) rfl scLawHamper.nd (pi_list (pe_slice sl_list (pv 0) po_none (po_some pe_int))) (blkOk_by (own := [("cell", 1)]) (N := ["script", "cell"]) (sc := defScope sLawHamper) (by decide +kernel)) (fun _ _ _ _ _ => (pg_name (i := 1) scLawHamper.nd rfl (Or.inl rfl))) (fun _ _ _ _ _ => pts_nil) (fun _ _ _ _ _ => (pe_callTy call_int1 (by rfl) T.z_int (by decide +kernel) (pa_cons (pv 1) pa_nil)))) (pa_cons pe_int (pa_cons pe_int pa_nil)))))), ?_⟩
    refine r_start (l := [some (.ref a), none]) rfl ?_
    walk_at "rds"
    refine ⟨_, rfl, ?_⟩
    refine ⟨_, _, rfl, hS, fun p hp => ?_⟩
    have s1 : Same H (upd H p (.lst (cutV (ns.map V.int) none (some 60)))) := same_neu (Same.refl H) hp
    obtain ⟨ns', ec, el⟩ := cut60 ns
    rw [ec] at s1 ⊢
    generalize hH1 : upd H p _ = H1
    rw [hH1] at s1
    have hp1 : H1 p = some (.lst (ns'.map V.int)) := by rw [← hH1]; exact upd_same
    refine ⟨p, rfl, ⟨_, SqL.of hp1⟩, fun D hD => ?_⟩
    refine lc_list (K := K) (a := p) (xs := ns'.map V.int) (fun i H' => H' D = some (.lst ((ns'.take i).map V.int)) ∧ ∀ b o, b ≠ D → H1 b = some o → H' b = some o)
      ⟨upd_same, fun b o n e => by rw [upd_ne n]; exact e⟩ (fun i H' _ ⟨_, s2⟩ => SqL.of (s2 p _ (ne_of_none hp1 hD) hp1)) ?_ ?_
    · rintro i x H' hi ⟨hD', s2⟩
      have hi' : i < ns'.length := by
        have q := (List.getElem?_eq_some_iff.mp hi).1
        rw [List.length_map] at q
        exact q
      obtain ⟨n, en, rfl⟩ : ∃ n, ns'[i]? = some n ∧ x = V.int n := by
        rw [List.getElem?_map] at hi
        cases e : ns'[i]? with
        | none => rw [e] at hi; cases hi
        | some u => rw [e] at hi; exact ⟨u, rfl, (Option.some.inj hi).symm⟩
      walk_at "rds"
      refine ⟨rfl, ?_⟩
      walk_at "rds"
      refine .inl ⟨_, rfl, ?_⟩
      refine ⟨_, hD', ?_, ?_, fun b o n e => by rw [upd_ne n]; exact s2 b o n e⟩
      · rw [List.length_map, List.length_take]
        exact small1000 (by omega)
      · rw [upd_same, List.take_succ, en, Option.toList_some, List.map_append]
        rfl
    · rintro H' ⟨hD', s2⟩
      rw [List.length_map, List.take_length] at hD'
      walk_at "rds"
      refine ⟨len_ok rfl, fun q hq => ?_⟩
      have nD : H D = none := s1.free hD
      refine k _ q D ns' ⟨ne_of_none hD' hq, ⟨0, upd_same⟩, by rw [upd_ne (ne_of_none hD' hq)]; exact hD', el⟩ (fun b o e => ?_) ?_
      · have e1 := s1 b o e
        have e2 := s2 b o (ne_of_none e nD) e1
        rw [upd_ne (ne_of_none e2 hq)]
        exact e2
      · cases e : H q with
        | none => rfl
        | some o =>
          have e2 := s2 q o (ne_of_none e nD) (s1 q o e)
          rw [hq] at e2
          cases e2
abbrev sLawPlait : Stmt := top 4
theorem scLawPlait : FnScope ["hamper", "many", "rest", "lap", "cell", "mixed"] ["hamper", "many"] (defScope sLawPlait) := ⟨rfl, rfl, rfl, by decide +kernel, rfl, by decide +kernel, by decide +kernel⟩
theorem ok_LawPlait {f : Addr} {fd : FuncData} (F : Fun K "_law_plait" "_law_plait" sLawPlait f fd) (T : Txt K mg) (hM : HasMods base)   : FnG P w K mg base 1 f fd ["hamper", "many"] spDraw := by
  refine fng F scLawPlait (fun {vs H Q E} h => ?_) (fun {cdv A fr s H vs Q E} hg hr h => ?_)
  · obtain ⟨q, c, ns, lap, many, rfl, hm, hm2, hlap, ⟨ne, ⟨rest, hb⟩, hc, hl⟩, k⟩ := h
    rfl
  · obtain ⟨q, c, ns, lap, many, rfl, hm, hm2, hlap, ⟨ne, ⟨rest, hb⟩, hc, hl⟩, k⟩ := h
    refine ⟨_, (pss_cons (ps_if (pt_cmpR op_gt (pe_ix ix_list (pv 0) pe_int (fun _ _ => rfl)) pe_int (nomark _))
  (pss_cons (ps_set (i := 2) scLawPlait.nd rfl (Or.inl rfl) (pe_callTy call_int1 (by rfl) T.z_int (by decide +kernel) (pa_cons (pe_ix ix_list (pv 0) pe_int (fun _ _ => rfl)) pa_nil)))
  (pss_cons (ps_asg (pe_op op_fdivN (pv 2) (pv 1)) (pg_sub (pv 0) pe_int set_list))
  (pss_one (ps_ret (pe_op op_modN (pe_callTy call_int1 (by rfl) T.z_int (by decide +kernel) (pa_cons (pv 2) pa_nil)) (pv 1))))))
  pss_nil)
  (pss_cons (ps_set (i := 3) scLawPlait.nd rfl (Or.inl rfl) (pe_ix ix_list (pv 0) pe_int (fun _ _ => rfl)))
  (pss_cons (ps_asg (pe_op op_add (pv 3) pe_int) (pg_sub (pv 0) pe_int set_list))
  (pss_cons (ps_set (i := 4) scLawPlait.nd rfl (Or.inl rfl) (pe_op op_add (pe_op op_mul pe_int (pv 3)) pe_int))
  (pss_cons (ps_if (pt_cmpR (op_neD hr.units) (pe_ix ix_list (pv 0) pe_int (fun _ _ => rfl)) (pe_lst pa_nil) (nomark _))
  (pss_one (ps_set (i := 4) scLawPlait.nd rfl (Or.inl rfl) (pe_ix ix_list (pe_ix ix_list (pv 0) pe_int (fun _ _ => rfl)) (pe_op op_modN (pe_callTy call_int1 (by rfl) T.z_int (by decide +kernel) (pa_cons (pv 3) pa_nil)) (pe_callB call_len_seq (by rfl) T.z_len PySem.boot_len (pa_cons (pe_ix ix_list (pv 0) pe_int (fun _ _ => rfl)) pa_nil))) (fun _ _ => rfl))))
  pss_nil)
  (pss_cons (ps_if (PW.pt (pw_and (pt_cmpR op_lt (pv 3) (pe_callB call_len_seq (by rfl) T.z_len PySem.boot_len (pa_cons (pe_ix ix_list (pv 0) pe_int (fun _ _ => rfl)) pa_nil)) (nomark _)) (pw_and1 (pt_cmpR op_ge (pe_callB call_abs (by rfl) T.z_abs (by decide +kernel) (pa_cons (pv 4) pa_nil)) (pe_op op_pow pe_int pe_int) (nomark _)))))
  (pss_cons (ps_set (i := 2) scLawPlait.nd rfl (Or.inl rfl) (pe_op op_add (pe_op op_mul pe_int (pe_op op_sub (pe_callB call_abs (by rfl) T.z_abs (by decide +kernel) (pa_cons (pv 4) pa_nil)) (pe_op op_pow pe_int pe_int))) (pe_callTy call_int1 (by rfl) T.z_int (by decide +kernel) (pa_cons (pe_cmpR op_lt (pv 4) pe_int (nomark _)) pa_nil))))
  (pss_cons (ps_asg (pe_op op_fdivN (pv 2) (pv 1)) (pg_sub (pv 0) pe_int set_list))
  (pss_one (ps_ret (pe_op op_modN (pe_callTy call_int1 (by rfl) T.z_int (by decide +kernel) (pa_cons (pv 2) pa_nil)) (pv 1))))))
  pss_nil)
  (pss_cons (ps_set (i := 5) scLawPlait.nd rfl (Or.inl rfl) (pe_op op_modN (pe_callTy call_int1 (by rfl) T.z_int (by decide +kernel) (pa_cons (pe_op op_pow (pe_op op_add (pe_op op_add (pe_op op_modN (pe_callTy call_int1 (by rfl) T.z_int (by decide +kernel) (pa_cons (pv 4) pa_nil)) pe_int) (pe_op op_mul pe_int (pv 3))) pe_int) pe_int) pa_nil)) pe_int))
  (pss_cons (ps_set (i := 5) scLawPlait.nd rfl (Or.inl rfl) (pe_op op_modN (pe_callTy call_int1 (by rfl) T.z_int (by decide +kernel) (pa_cons (pe_op op_pow (pe_op op_add (pe_op op_add (pe_op op_mul (pv 5) (pe_op op_add (pe_op op_mul pe_int (pv 3)) pe_int)) (pe_op op_mul (pe_op op_mul pe_int (pv 3)) (pv 3))) pe_int) pe_int) pa_nil)) pe_int))
  (pss_one (ps_ret (pe_op op_modN (pe_callTy call_int1 (by rfl) T.z_int (by decide +kernel) (pa_cons (pe_op op_fdivN (pv 5) pe_int) pa_nil)) (pv 1)))))))))))), ?_⟩
    refine r_start (l := [some (.ref q), some (.int many), none, none, none, none]) rfl ?_
    have hmN : many.natAbs < 1073741824 := by omega
    have hm0 : many ≠ 0 := by omega
    have bq : ∀ {o : HO}, But q H (upd H q o) := fun {o} => But.upd o
    -- if quay[2] > 0
    walk_at "rds"
    refine r_ixL (SqL.of hb) at2 ?_
    walk_at "rds"
    refine ite2 (fun hpos => ?_) (fun _ => ?_)
    · walk_at "rds"
      refine r_ixL (SqL.of hb) at2 ?_
      walk_at "rds"
      refine .inl ⟨_, rfl, ?_⟩
      walk_at "rds"
      refine r_I ⟨hm0, hmN⟩ ?_
      walk_at "rds"
      refine r_setL hb (k := 2) rfl ?_
      walk_at "rds"
      refine .inl ⟨_, rfl, ?_⟩
      walk_at "rds"
      refine r_I hm0 ?_
      exact k _ lap _ (by omega) ⟨ne, ⟨_, upd_same⟩, by rw [upd_ne ne]; exact hc, hl⟩ bq (fmod_in hm).1 (fmod_in hm).2
    -- lap = quay[1]; quay[1] = lap + 1; cell = ..
    walk_at "rds"
    refine r_ixL (SqL.of hb) at1 ?_
    walk_at "rds"
    refine r_setL hb (k := 1) rfl ?_
    walk_at "rds"
    refine r_I (.inl ⟨by decide, by decide⟩) ?_
    generalize hH1 : upd H q _ = H1
    have hb1 : H1 q = some (.lst [.ref c, .int ((lap + 1 : Nat) : Int), .int rest]) := by rw [← hH1]; exact upd_same
    have hc1 : H1 c = some (.lst (ns.map V.int)) := by rw [← hH1, upd_ne ne]; exact hc
    have q1 : But q H H1 := by rw [← hH1]; exact bq
    clear hH1 hb hc bq
    walk_at "res"
    with_reducible refine r_cut (fun σ H' => ∃ cell : Int, σ = [some (.ref q), some (.int many), none, some (.int (lap : Int)), some (.int cell), none] ∧ H' q = some (.lst [.ref c, .int ((lap + 1 : Nat) : Int), .int rest]) ∧ H' c = some (.lst (ns.map V.int)) ∧ But q H H') ?_ fun go => ?_
    rotate_left
    · -- if quay[0] != []
      walk_at "rds"
      refine r_ixL (SqL.of hb1) at0 ?_
      walk_at "rds"
      refine ⟨len_ok rfl, fun p hp => ?_⟩
      have hb2 : upd H1 p (.lst []) q = some (.lst [.ref c, .int ((lap + 1 : Nat) : Int), .int rest]) := by rw [upd_ne (ne_of_none hb1 hp)]; exact hb1
      have hc2 : upd H1 p (.lst []) c = some (.lst (ns.map V.int)) := by rw [upd_ne (ne_of_none hc1 hp)]; exact hc1
      have q2 : But q H (upd H1 p (.lst [])) := q1.neu hp
      refine ne_nil hc2 upd_same ?_
      walk_at "rds"
      cases hns : ns.isEmpty with
      | true =>
        walk_at "res"
        exact go _ _ ⟨_, rfl, hb2, hc2, q2⟩
      | false =>
        have hlen : (0 : Int) < (ns.length : Int) := by
          cases ns with
          | nil => cases hns
          | cons n0 nr => simp <;> omega
        walk_at "rds"
        refine r_ixL (SqL.of hb2) at0 ?_
        walk_at "rds"
        refine .inl ⟨_, rfl, ?_⟩
        walk_at "rds"
        refine r_ixL (SqL.of hb2) at0 ?_
        walk_at "rds"
        refine ⟨_, _, rfl, .inl (SqL.of hc2), ?_⟩
        walk_at "rds"
        rw [map_len]
        refine r_I (by omega) ?_
        obtain ⟨cell, hcell⟩ := at_ints (ns := ns) (fmod_in (i := (lap : Int)) hlen).1 (fmod_in hlen).2
        refine r_ixL (SqL.of hc2) hcell ?_
        walk_at "res"
        exact go _ _ ⟨_, rfl, hb2, hc2, q2⟩
    clear hb1 hc1 q1 H1
    rintro σ H1 ⟨cell, rfl, hb1, hc1, q1⟩
    have D1 : Dr q c ns (lap + 1) H1 := ⟨ne, ⟨_, hb1⟩, hc1, hl⟩
    -- if lap < len(quay[0]) and abs(cell) >= 10 ** 18
    with_reducible refine r_cut (fun σ H' => σ = [some (.ref q), some (.int many), none, some (.int (lap : Int)), some (.int cell), none] ∧ H' = H1) ?_ fun go => ?_
    rotate_left
    · walk_at "rds"
      refine r_ixL (SqL.of hb1) at0 ?_
      walk_at "rds"
      refine ⟨_, _, rfl, .inl (SqL.of hc1), ?_⟩
      walk_at "rds"
      refine ite2 (fun _ => ?_) (fun _ => ?_)
      · walk_at "rds"
        refine ⟨_, rfl, ?_⟩
        walk_at "rds"
        refine r_I ⟨by decide, by decide, by decide⟩ ?_
        walk_at "rds"
        refine ite2 (fun _ => ?_) (fun _ => ?_)
        · walk_at "rds"
          refine ⟨_, rfl, ?_⟩
          walk_at "rds"
          refine r_I ⟨by decide, by decide, by decide⟩ ?_
          walk_at "rds"
          refine r_I (.inl ⟨by decide, by decide⟩) ?_
          walk_at "rds"
          refine .inr ⟨_, rfl, ?_⟩
          walk_at "rds"
          refine r_I ⟨hm0, hmN⟩ ?_
          walk_at "rds"
          refine r_setL hb1 (k := 2) rfl ?_
          walk_at "rds"
          refine .inl ⟨_, rfl, ?_⟩
          walk_at "rds"
          refine r_I hm0 ?_
          exact k _ (lap + 1) _ (by omega) ⟨ne, ⟨_, upd_same⟩, by rw [upd_ne ne]; exact hc1, hl⟩ (q1.upd2 _) (fmod_in hm).1 (fmod_in hm).2
        · walk_at "res"
          exact go _ _ ⟨rfl, rfl⟩
      · walk_at "res"
        exact go _ _ ⟨rfl, rfl⟩
    rintro σ H' ⟨rfl, rfl⟩
    -- mixed
    walk_at "rds"
    refine .inl ⟨_, rfl, ?_⟩
    walk_at "rds"
    refine r_I (by decide) ?_
    walk_at "rds"
    refine r_I (.inl ⟨by decide, by decide⟩) ?_
    walk_at "rds"
    have f1 := fmod_in (i := cell) (j := 2147483497) (by decide)
    refine r_I ⟨by decide, by decide, by omega⟩ ?_
    generalize (_ : Int) ^ (_ : Nat) = big1
    walk_at "rds"
    refine .inl ⟨_, rfl, ?_⟩
    walk_at "rds"
    refine r_I (by decide) ?_
    have f2 := fmod_in (i := big1) (j := 2147483489) (by decide)
    revert f2
    generalize big1.fmod _ = mixed
    intro f2
    walk_at "rds"
    refine r_I (.inl ⟨by decide, by decide⟩) ?_
    walk_at "rds"
    refine r_I (.inl ⟨by omega, by omega⟩) ?_
    walk_at "rds"
    refine r_I (.inl ⟨by decide, by decide⟩) ?_
    walk_at "rds"
    refine r_I (.inl ⟨by omega, by omega⟩) ?_
    walk_at "rds"
    refine r_I ⟨by decide, by decide, fits3 f2.1 (by omega) hlap (by decide) (by decide) (by decide) (by decide) (by decide) (by decide)⟩ ?_
    generalize (_ : Int) ^ (_ : Nat) = big2
    walk_at "rds"
    refine .inl ⟨_, rfl, ?_⟩
    walk_at "rds"
    refine r_I (by decide) ?_
    generalize big2.fmod _ = mixed2
    walk_at "rds"
    refine r_I ⟨by decide, by decide⟩ ?_
    walk_at "rds"
    refine .inl ⟨_, rfl, ?_⟩
    walk_at "rds"
    refine r_I hm0 ?_
    exact k _ (lap + 1) _ (by omega) D1 q1 (fmod_in hm).1 (fmod_in hm).2
abbrev sLawOf : Stmt := top 5
theorem scLawOf : FnScope ["hamper", "some"] ["hamper", "some"] (defScope sLawOf) := ⟨rfl, rfl, rfl, by decide +kernel, rfl, by decide +kernel, by decide +kernel⟩
theorem ok_LawOf {f : Addr} {fd : FuncData} (F : Fun K "_law_of" "_law_of" sLawOf f fd) (T : Txt K mg) (hM : HasMods base) {f0 : Addr} {fd0 : FuncData} (cLawPlait : Cal P w K mg base "_law_plait" 1 f0 fd0 ["hamper", "many"] spDraw)  : FnG P w K mg base 2 f fd ["hamper", "some"] (spOf K) := by
  refine fng F scLawOf (fun {vs H Q E} h => ?_) (fun {cdv A fr s H vs Q E} hg hr h => ?_)
  · obtain ⟨q, c, a, ns, lap, xs, rfl, hS, h0, h1, hlap, hne, hD, k⟩ := h
    rfl
  · obtain ⟨q, c, a, ns, lap, xs, rfl, hS, h0, h1, hlap, hne, hD, k⟩ := h
    refine ⟨_, (pss_one (ps_ret (pe_ix ix_list (pv 1) (pe_go cLawPlait hg (hr.mono (by decide)) (by rfl) (pa_cons (pv 0) (pa_cons (pe_callB call_len_seq (by rfl) T.z_len PySem.boot_len (pa_cons (pv 1) pa_nil)) pa_nil))) (fun _ _ => rfl)))), ?_⟩
    refine r_start (l := [some (.ref q), some (.ref a)]) rfl ?_
    walk_at "rds"
    refine ⟨_, _, rfl, .inl hS, ?_⟩
    walk_at "rds"
    refine ⟨q, c, ns, lap, _, rfl, by omega, by omega, hlap, hD, fun H' lap' r hl D' B r0 r1 => ?_⟩
    obtain ⟨i, v, e1, e2⟩ := at_some r0 r1
    refine r_ixL (B.seq hne hS) e1 ?_
    exact k _ _ i v hl D' B e2
end
end K04
namespace K04
open PySem PySem.Spec PyProof.Rows L2 Rp

section
variable {P : Program} {w : World} {K : PySem.W.Frag} {mg : Str → Option Value} {base : Heap}
abbrev sFixed : Stmt := top 1
theorem scFixed : FnScope ["value", "item"] ["value"] (defScope sFixed) := ⟨rfl, rfl, rfl, by decide +kernel, rfl, by decide +kernel, by decide +kernel⟩
theorem step_Fixed {f : Addr} {fd : FuncData} (F : Fun K "fixed" "fixed" sFixed f fd) (T : Txt K mg) (hM : HasMods base) (n : Nat) (cFixed : Cal P w K mg base "fixed" n f fd ["value"] (spFix K n)) : FnG P w K mg base (n + 1) f fd ["value"] (spFix K (n + 1)) := by
  refine fng F scFixed (fun {vs H Q E} h => ?_) (fun {cdv A fr s H vs Q E} hg hr h => ?_)
  · obtain ⟨S, v, d, rfl, _⟩ := h
    rfl
  · obtain ⟨S, v, d, rfl, hS, hd, hn, hc, k⟩ := h
    have hd0 := hd
    cases hd with
    | non =>
      have hd := hd0
      refine ⟨_, (pss_cons (ps_if (pt_val (pe_callB call_isiT (by rfl) T.z_isinstance (by decide +kernel) (pa_cons (pv 0) (pa_cons (pe_tup (pa_cons (pe_bltn (by rfl) T.z_list (by decide +kernel) (v := .ty "list") rfl) (pa_cons (pe_bltn (by rfl) T.z_tuple (by decide +kernel) (v := .ty "tuple") rfl) pa_nil))) pa_nil))))
  (pss_one (ps_ret (pe_callTy call_tuple_of (by rfl) T.z_tuple (by decide +kernel) (pa_cons (pe_lc (own := [("item", 1)]) (g := gName 1) (tt := tYes) rfl scFixed.nd (pi_list (pv 0)) (blkOk_by (own := [("item", 1)]) (N := ["value", "item"]) (sc := defScope sFixed) (by decide +kernel)) (fun _ _ _ _ _ => (pg_name (i := 1) scFixed.nd rfl (Or.inl rfl))) (fun _ _ _ _ _ => pts_nil) (fun _ _ _ _ _ => (pe_go cFixed hg hr (by rfl) (pa_cons (pv 1) pa_nil)))) pa_nil))))
  pss_nil)
  (pss_one (ps_ret (pv 0)))), ?_⟩
      refine r_start (l := [some (V.non), none]) rfl ?_
      walk_at "rds"
      refine ⟨len_ok rfl, fun p hp => ?_⟩
      generalize hH1 : upd H p _ = H1
      have s1 : Same H H1 := by rw [← hH1]; exact same_neu (Same.refl H) hp
      have e0 : H1 p = some (.tup [.ty "list", .ty "tuple"]) := by rw [← hH1]; exact upd_same
      clear hH1 hp
      walk_at "rds"
      obtain ⟨t, ty, kt⟩ := dd_seq (dd_same s1 (dd_same hid_up hd))
      refine r_isiT e0 ty kt ?_
      walk_at "F"
      refine k _ _ s1 ?_
      have e3 : fixD (.none) = .none := by simp only [fixD]
      rw [e3]
      exact dd_same (Keep.of s1).hid hd
    | bl b =>
      have hd := hd0
      refine ⟨_, (pss_cons (ps_if (pt_val (pe_callB call_isiT (by rfl) T.z_isinstance (by decide +kernel) (pa_cons (pv 0) (pa_cons (pe_tup (pa_cons (pe_bltn (by rfl) T.z_list (by decide +kernel) (v := .ty "list") rfl) (pa_cons (pe_bltn (by rfl) T.z_tuple (by decide +kernel) (v := .ty "tuple") rfl) pa_nil))) pa_nil))))
  (pss_one (ps_ret (pe_callTy call_tuple_of (by rfl) T.z_tuple (by decide +kernel) (pa_cons (pe_lc (own := [("item", 1)]) (g := gName 1) (tt := tYes) rfl scFixed.nd (pi_list (pv 0)) (blkOk_by (own := [("item", 1)]) (N := ["value", "item"]) (sc := defScope sFixed) (by decide +kernel)) (fun _ _ _ _ _ => (pg_name (i := 1) scFixed.nd rfl (Or.inl rfl))) (fun _ _ _ _ _ => pts_nil) (fun _ _ _ _ _ => (pe_go cFixed hg hr (by rfl) (pa_cons (pv 1) pa_nil)))) pa_nil))))
  pss_nil)
  (pss_one (ps_ret (pv 0)))), ?_⟩
      refine r_start (l := [some (V.bl b), none]) rfl ?_
      walk_at "rds"
      refine ⟨len_ok rfl, fun p hp => ?_⟩
      generalize hH1 : upd H p _ = H1
      have s1 : Same H H1 := by rw [← hH1]; exact same_neu (Same.refl H) hp
      have e0 : H1 p = some (.tup [.ty "list", .ty "tuple"]) := by rw [← hH1]; exact upd_same
      clear hH1 hp
      walk_at "rds"
      obtain ⟨t, ty, kt⟩ := dd_seq (dd_same s1 (dd_same hid_up hd))
      refine r_isiT e0 ty kt ?_
      walk_at "F"
      refine k _ _ s1 ?_
      have e3 : fixD (.bool b) = .bool b := by simp only [fixD]
      rw [e3]
      exact dd_same (Keep.of s1).hid hd
    | num i =>
      have hd := hd0
      refine ⟨_, (pss_cons (ps_if (pt_val (pe_callB call_isiT (by rfl) T.z_isinstance (by decide +kernel) (pa_cons (pv 0) (pa_cons (pe_tup (pa_cons (pe_bltn (by rfl) T.z_list (by decide +kernel) (v := .ty "list") rfl) (pa_cons (pe_bltn (by rfl) T.z_tuple (by decide +kernel) (v := .ty "tuple") rfl) pa_nil))) pa_nil))))
  (pss_one (ps_ret (pe_callTy call_tuple_of (by rfl) T.z_tuple (by decide +kernel) (pa_cons (pe_lc (own := [("item", 1)]) (g := gName 1) (tt := tYes) rfl scFixed.nd (pi_list (pv 0)) (blkOk_by (own := [("item", 1)]) (N := ["value", "item"]) (sc := defScope sFixed) (by decide +kernel)) (fun _ _ _ _ _ => (pg_name (i := 1) scFixed.nd rfl (Or.inl rfl))) (fun _ _ _ _ _ => pts_nil) (fun _ _ _ _ _ => (pe_go cFixed hg hr (by rfl) (pa_cons (pv 1) pa_nil)))) pa_nil))))
  pss_nil)
  (pss_one (ps_ret (pv 0)))), ?_⟩
      refine r_start (l := [some (V.int i), none]) rfl ?_
      walk_at "rds"
      refine ⟨len_ok rfl, fun p hp => ?_⟩
      generalize hH1 : upd H p _ = H1
      have s1 : Same H H1 := by rw [← hH1]; exact same_neu (Same.refl H) hp
      have e0 : H1 p = some (.tup [.ty "list", .ty "tuple"]) := by rw [← hH1]; exact upd_same
      clear hH1 hp
      walk_at "rds"
      obtain ⟨t, ty, kt⟩ := dd_seq (dd_same s1 (dd_same hid_up hd))
      refine r_isiT e0 ty kt ?_
      walk_at "F"
      refine k _ _ s1 ?_
      have e3 : fixD (.int i) = .int i := by simp only [fixD]
      rw [e3]
      exact dd_same (Keep.of s1).hid hd
    | str x =>
      have hd := hd0
      refine ⟨_, (pss_cons (ps_if (pt_val (pe_callB call_isiT (by rfl) T.z_isinstance (by decide +kernel) (pa_cons (pv 0) (pa_cons (pe_tup (pa_cons (pe_bltn (by rfl) T.z_list (by decide +kernel) (v := .ty "list") rfl) (pa_cons (pe_bltn (by rfl) T.z_tuple (by decide +kernel) (v := .ty "tuple") rfl) pa_nil))) pa_nil))))
  (pss_one (ps_ret (pe_callTy call_tuple_of (by rfl) T.z_tuple (by decide +kernel) (pa_cons (pe_lc (own := [("item", 1)]) (g := gName 1) (tt := tYes) rfl scFixed.nd (pi_list (pv 0)) (blkOk_by (own := [("item", 1)]) (N := ["value", "item"]) (sc := defScope sFixed) (by decide +kernel)) (fun _ _ _ _ _ => (pg_name (i := 1) scFixed.nd rfl (Or.inl rfl))) (fun _ _ _ _ _ => pts_nil) (fun _ _ _ _ _ => (pe_go cFixed hg hr (by rfl) (pa_cons (pv 1) pa_nil)))) pa_nil))))
  pss_nil)
  (pss_one (ps_ret (pv 0)))), ?_⟩
      refine r_start (l := [some (V.str x), none]) rfl ?_
      walk_at "rds"
      refine ⟨len_ok rfl, fun p hp => ?_⟩
      generalize hH1 : upd H p _ = H1
      have s1 : Same H H1 := by rw [← hH1]; exact same_neu (Same.refl H) hp
      have e0 : H1 p = some (.tup [.ty "list", .ty "tuple"]) := by rw [← hH1]; exact upd_same
      clear hH1 hp
      walk_at "rds"
      obtain ⟨t, ty, kt⟩ := dd_seq (dd_same s1 (dd_same hid_up hd))
      refine r_isiT e0 ty kt ?_
      walk_at "F"
      refine k _ _ s1 ?_
      have e3 : fixD (.str x) = .str x := by simp only [fixD]
      rw [e3]
      exact dd_same (Keep.of s1).hid hd
    | @dic a kvs ds e hk =>
      have hd := hd0
      refine ⟨_, (pss_cons (ps_if (pt_val (pe_callB call_isiT (by rfl) T.z_isinstance (by decide +kernel) (pa_cons (pv 0) (pa_cons (pe_tup (pa_cons (pe_bltn (by rfl) T.z_list (by decide +kernel) (v := .ty "list") rfl) (pa_cons (pe_bltn (by rfl) T.z_tuple (by decide +kernel) (v := .ty "tuple") rfl) pa_nil))) pa_nil))))
  (pss_one (ps_ret (pe_callTy call_tuple_of (by rfl) T.z_tuple (by decide +kernel) (pa_cons (pe_lc (own := [("item", 1)]) (g := gName 1) (tt := tYes) rfl scFixed.nd (pi_list (pv 0)) (blkOk_by (own := [("item", 1)]) (N := ["value", "item"]) (sc := defScope sFixed) (by decide +kernel)) (fun _ _ _ _ _ => (pg_name (i := 1) scFixed.nd rfl (Or.inl rfl))) (fun _ _ _ _ _ => pts_nil) (fun _ _ _ _ _ => (pe_go cFixed hg hr (by rfl) (pa_cons (pv 1) pa_nil)))) pa_nil))))
  pss_nil)
  (pss_one (ps_ret (pv 0)))), ?_⟩
      refine r_start (l := [some (V.ref a), none]) rfl ?_
      walk_at "rds"
      refine ⟨len_ok rfl, fun p hp => ?_⟩
      generalize hH1 : upd H p _ = H1
      have s1 : Same H H1 := by rw [← hH1]; exact same_neu (Same.refl H) hp
      have e0 : H1 p = some (.tup [.ty "list", .ty "tuple"]) := by rw [← hH1]; exact upd_same
      clear hH1 hp
      walk_at "rds"
      obtain ⟨t, ty, kt⟩ := dd_seq (dd_same s1 (dd_same hid_up hd))
      refine r_isiT e0 ty kt ?_
      walk_at "F"
      refine k _ _ s1 ?_
      have e3 : fixD (.dict ds) = .dict ds := by simp only [fixD]
      rw [e3]
      exact dd_same (Keep.of s1).hid hd
    | @lst a xs ds e hall =>
      have hd := hd0
      refine ⟨_, (pss_cons (ps_if (pt_val (pe_callB call_isiT (by rfl) T.z_isinstance (by decide +kernel) (pa_cons (pv 0) (pa_cons (pe_tup (pa_cons (pe_bltn (by rfl) T.z_list (by decide +kernel) (v := .ty "list") rfl) (pa_cons (pe_bltn (by rfl) T.z_tuple (by decide +kernel) (v := .ty "tuple") rfl) pa_nil))) pa_nil))))
  (pss_one (ps_ret (pe_callTy call_tuple_of (by rfl) T.z_tuple (by decide +kernel) (pa_cons (pe_lc (own := [("item", 1)]) (g := gName 1) (tt := tYes) rfl scFixed.nd (pi_list (pv 0)) (blkOk_by (own := [("item", 1)]) (N := ["value", "item"]) (sc := defScope sFixed) (by decide +kernel)) (fun _ _ _ _ _ => (pg_name (i := 1) scFixed.nd rfl (Or.inl rfl))) (fun _ _ _ _ _ => pts_nil) (fun _ _ _ _ _ => (pe_go cFixed hg hr (by rfl) (pa_cons (pv 1) pa_nil)))) pa_nil))))
  pss_nil)
  (pss_one (ps_ret (pv 0)))), ?_⟩
      refine r_start (l := [some (V.ref a), none]) rfl ?_
      walk_at "rds"
      refine ⟨len_ok rfl, fun p hp => ?_⟩
      generalize hH1 : upd H p _ = H1
      have s1 : Same H H1 := by rw [← hH1]; exact same_neu (Same.refl H) hp
      have e0 : H1 p = some (.tup [.ty "list", .ty "tuple"]) := by rw [← hH1]; exact upd_same
      clear hH1 hp
      walk_at "rds"
      obtain ⟨t, ty, kt⟩ := dd_seq (dd_same s1 (dd_same hid_up hd))
      refine r_isiT e0 ty kt ?_
      walk_at "T"
      have e1 : SqL K H1 a xs := s1.seq (Same.seq hid_up e)
      refine ⟨a, rfl, ⟨_, e1⟩, fun D hD => ?_⟩
      have hlen := hall.len
      have hcA : costAll ds ≤ 15000000 := by simp only [cost] at hc; omega
      have hS1 := live_same hS s1
      refine lc_list (K := K) (a := a) (xs := xs) (fun i G => ∃ ys, G D = some (.lst ys) ∧ ys.length = i ∧ Keep [D] H1 G ∧ DdAll K (hid (D :: S) G) ys (fixAll (ds.take i)))
        ⟨[], upd_same, rfl, Keep.own, by simp only [List.take_zero, fixAll]; exact .nil⟩ (fun i G _ ⟨ys, eD, _, kp, _⟩ => ?_) ?_ ?_
      · have e2 : SqL K (hid [D] H1) a xs := Same.seq (fun b o z => (hid_out (by simp [ne_of_none z hD])).trans z) e1
        exact Same.seq (fun b o z => let ⟨n, z1⟩ := hid_some z; kp b o n z1) e2
      · rintro i x G hx ⟨ys, eD, hys, kp, hall2⟩
        obtain ⟨d1, hd1, dx⟩ := hall.at hx
        have m1 : d1 ∈ ds := List.mem_of_getElem? hd1
        have hi : i < ds.length := (List.getElem?_eq_some_iff.mp hd1).1
        have dx2 : Dd K (hid (D :: S) G) x d1 := dd_same (hid_new hD kp) (dd_same (Keep.of s1).hid dx)
        walk_at "rds"
        refine ⟨rfl, ?_⟩
        walk_at "rds"
        refine ⟨D :: S, x, d1, rfl, live_new hS1 hD kp eD, dx2, ?_, ?_, fun G' v' sG dv => ?_⟩
        · have := depthAll_mem m1
          simp only [PyData.depth] at hn
          omega
        · have := costAll_mem m1
          omega
        · refine ⟨ys, sG _ _ eD, by rw [hys]; exact Nat.lt_trans hi (len_cost hcA (Nat.le_refl _)), ys ++ [v'], upd_same, by rw [List.length_append, hys]; rfl, (kp.trans (Keep.of sG)).own2, ?_⟩
          rw [hid_upd (List.mem_cons_self ..), fixAll_take hd1]
          exact (dd_sameAll (Keep.of sG).hid hall2).append (.cons dv .nil)
      · rintro G ⟨ys, eD, hys, kp, hall2⟩
        rw [hlen, List.take_length] at hall2
        walk_at "rds"
        refine ⟨_, _, rfl, .inl ⟨SqL.of eD, fun p2 hp2 => ?_⟩⟩
        have sHG : Same H G := fun b o e => kp b o (by simp [ne_of_none (s1 b o e) hD]) (s1 b o e)
        have np2 : p2 ∉ S := live_not (live_same hS sHG) hp2
        refine k _ _ (same_neu sHG hp2) ?_
        have e3 : fixD (.list ds) = .tuple (fixAll ds) := by simp only [fixD]
        rw [e3]
        refine .tup (SqT.of ((hid_out np2).trans upd_same)) ?_
        exact dd_sameAll ((Keep.refl S G).neu hp2).hid (dd_sameAll (hid_less fun b m => List.mem_cons_of_mem _ m) hall2)
    | @tup a xs ds e hall =>
      have hd := hd0
      refine ⟨_, (pss_cons (ps_if (pt_val (pe_callB call_isiT (by rfl) T.z_isinstance (by decide +kernel) (pa_cons (pv 0) (pa_cons (pe_tup (pa_cons (pe_bltn (by rfl) T.z_list (by decide +kernel) (v := .ty "list") rfl) (pa_cons (pe_bltn (by rfl) T.z_tuple (by decide +kernel) (v := .ty "tuple") rfl) pa_nil))) pa_nil))))
  (pss_one (ps_ret (pe_callTy call_tuple_of (by rfl) T.z_tuple (by decide +kernel) (pa_cons (pe_lc (own := [("item", 1)]) (g := gName 1) (tt := tYes) rfl scFixed.nd (pi_tup (pv 0)) (blkOk_by (own := [("item", 1)]) (N := ["value", "item"]) (sc := defScope sFixed) (by decide +kernel)) (fun _ _ _ _ _ => (pg_name (i := 1) scFixed.nd rfl (Or.inl rfl))) (fun _ _ _ _ _ => pts_nil) (fun _ _ _ _ _ => (pe_go cFixed hg hr (by rfl) (pa_cons (pv 1) pa_nil)))) pa_nil))))
  pss_nil)
  (pss_one (ps_ret (pv 0)))), ?_⟩
      refine r_start (l := [some (V.ref a), none]) rfl ?_
      walk_at "rds"
      refine ⟨len_ok rfl, fun p hp => ?_⟩
      generalize hH1 : upd H p _ = H1
      have s1 : Same H H1 := by rw [← hH1]; exact same_neu (Same.refl H) hp
      have e0 : H1 p = some (.tup [.ty "list", .ty "tuple"]) := by rw [← hH1]; exact upd_same
      clear hH1 hp
      walk_at "rds"
      obtain ⟨t, ty, kt⟩ := dd_seq (dd_same s1 (dd_same hid_up hd))
      refine r_isiT e0 ty kt ?_
      walk_at "T"
      have e1 : SqT K H1 a xs := Same.tupS s1 (Same.tupS hid_up e)
      refine ⟨a, rfl, ⟨_, e1⟩, fun D hD => ?_⟩
      have hlen := hall.len
      have hcA : costAll ds ≤ 15000000 := by simp only [cost] at hc; omega
      have hS1 := live_same hS s1
      refine lc_tup (K := K) (a := a) (xs := xs) (fun i G => ∃ ys, G D = some (.lst ys) ∧ ys.length = i ∧ Keep [D] H1 G ∧ DdAll K (hid (D :: S) G) ys (fixAll (ds.take i)))
        ⟨[], upd_same, rfl, Keep.own, by simp only [List.take_zero, fixAll]; exact .nil⟩ (fun i G _ ⟨ys, eD, _, kp, _⟩ => ?_) ?_ ?_
      · have e2 : SqT K (hid [D] H1) a xs := Same.tupS (fun b o z => (hid_out (by simp [ne_of_none z hD])).trans z) e1
        exact Same.tupS (fun b o z => let ⟨n, z1⟩ := hid_some z; kp b o n z1) e2
      · rintro i x G hx ⟨ys, eD, hys, kp, hall2⟩
        obtain ⟨d1, hd1, dx⟩ := hall.at hx
        have m1 : d1 ∈ ds := List.mem_of_getElem? hd1
        have hi : i < ds.length := (List.getElem?_eq_some_iff.mp hd1).1
        have dx2 : Dd K (hid (D :: S) G) x d1 := dd_same (hid_new hD kp) (dd_same (Keep.of s1).hid dx)
        walk_at "rds"
        refine ⟨rfl, ?_⟩
        walk_at "rds"
        refine ⟨D :: S, x, d1, rfl, live_new hS1 hD kp eD, dx2, ?_, ?_, fun G' v' sG dv => ?_⟩
        · have := depthAll_mem m1
          simp only [PyData.depth] at hn
          omega
        · have := costAll_mem m1
          omega
        · refine ⟨ys, sG _ _ eD, by rw [hys]; exact Nat.lt_trans hi (len_cost hcA (Nat.le_refl _)), ys ++ [v'], upd_same, by rw [List.length_append, hys]; rfl, (kp.trans (Keep.of sG)).own2, ?_⟩
          rw [hid_upd (List.mem_cons_self ..), fixAll_take hd1]
          exact (dd_sameAll (Keep.of sG).hid hall2).append (.cons dv .nil)
      · rintro G ⟨ys, eD, hys, kp, hall2⟩
        rw [hlen, List.take_length] at hall2
        walk_at "rds"
        refine ⟨_, _, rfl, .inl ⟨SqL.of eD, fun p2 hp2 => ?_⟩⟩
        have sHG : Same H G := fun b o e => kp b o (by simp [ne_of_none (s1 b o e) hD]) (s1 b o e)
        have np2 : p2 ∉ S := live_not (live_same hS sHG) hp2
        refine k _ _ (same_neu sHG hp2) ?_
        have e3 : fixD (.tuple ds) = .tuple (fixAll ds) := by simp only [fixD]
        rw [e3]
        refine .tup (SqT.of ((hid_out np2).trans upd_same)) ?_
        exact dd_sameAll ((Keep.refl S G).neu hp2).hid (dd_sameAll (hid_less fun b m => List.mem_cons_of_mem _ m) hall2)
theorem ok_Fixed {f : Addr} {fd : FuncData} (F : Fun K "fixed" "fixed" sFixed f fd) (T : Txt K mg) (hM : HasMods base) (m : mg "fixed" = some (.ref f)) (kp : PySem.W.keepIn K (.ref f) = true) (b : Binds K fd ["value"] []) : ∀ n, FnG P w K mg base n f fd ["value"] (spFix K n)
  | 0 => ⟨fun h => (by obtain ⟨S, v, d, rfl, _⟩ := h; rfl), fun _ _ _ _ _ h => (by obtain ⟨_, _, _, _, _, _, z, _⟩ := h; exact absurd z (Nat.not_lt_zero _))⟩
  | n + 1 => step_Fixed F T hM n ⟨ok_Fixed F T hM m kp b n, m, kp, b⟩
abbrev sLawOwn : Stmt := top 7
theorem scLawOwn : FnScope ["value", "part"] ["value"] (defScope sLawOwn) := ⟨rfl, rfl, rfl, by decide +kernel, rfl, by decide +kernel, by decide +kernel⟩
theorem step_LawOwn {f : Addr} {fd : FuncData} (F : Fun K "_law_own" "_law_own" sLawOwn f fd) (T : Txt K mg) (hM : HasMods base) (n : Nat) (cLawOwn : Cal P w K mg base "_law_own" n f fd ["value"] (spFix K n)) : FnG P w K mg base (n + 1) f fd ["value"] (spFix K (n + 1)) := by
  refine fng F scLawOwn (fun {vs H Q E} h => ?_) (fun {cdv A fr s H vs Q E} hg hr h => ?_)
  · obtain ⟨S, v, d, rfl, _⟩ := h
    rfl
  · obtain ⟨S, v, d, rfl, hS, hd, hn, hc, k⟩ := h
    have hd0 := hd
    cases hd with
    | non =>
      have hd := hd0
      refine ⟨_, (pss_cons (ps_if (PW.pt (pw_or (pt_val (pe_callB call_isi (by rfl) T.z_isinstance (by decide +kernel) (pa_cons (pv 0) (pa_cons (pe_bltn (by rfl) T.z_list (by decide +kernel) (v := .ty "list") rfl) pa_nil)))) (pw_or1 (pt_val (pe_callB call_isi (by rfl) T.z_isinstance (by decide +kernel) (pa_cons (pv 0) (pa_cons (pe_bltn (by rfl) T.z_tuple (by decide +kernel) (v := .ty "tuple") rfl) pa_nil)))))))
  (pss_one (ps_ret (pe_callTy call_tuple_of (by rfl) T.z_tuple (by decide +kernel) (pa_cons (pe_lc (own := [("part", 1)]) (g := gName 1) (tt := tYes) rfl scLawOwn.nd (pi_list (pv 0)) (blkOk_by (own := [("part", 1)]) (N := ["value", "part"]) (sc := defScope sLawOwn) (by decide +kernel)) (fun _ _ _ _ _ => (pg_name (i := 1) scLawOwn.nd rfl (Or.inl rfl))) (fun _ _ _ _ _ => pts_nil) (fun _ _ _ _ _ => (pe_go cLawOwn hg hr (by rfl) (pa_cons (pv 1) pa_nil)))) pa_nil))))
  pss_nil)
  (pss_one (ps_ret (pv 0)))), ?_⟩
      refine r_start (l := [some (V.non), none]) rfl ?_
      walk_at "rds"
      have s1 : Same H H := Same.refl H
      obtain ⟨t, ty, kt, kt2⟩ := dd_list (dd_same hid_up hd)
      refine r_isi ty kt ?_
      walk_at "F"
      refine r_isi ty kt2 ?_
      walk_at "F"
      refine k _ _ s1 ?_
      have e3 : fixD (.none) = .none := by simp only [fixD]
      rw [e3]
      exact dd_same (Keep.of s1).hid hd
    | bl b =>
      have hd := hd0
      refine ⟨_, (pss_cons (ps_if (PW.pt (pw_or (pt_val (pe_callB call_isi (by rfl) T.z_isinstance (by decide +kernel) (pa_cons (pv 0) (pa_cons (pe_bltn (by rfl) T.z_list (by decide +kernel) (v := .ty "list") rfl) pa_nil)))) (pw_or1 (pt_val (pe_callB call_isi (by rfl) T.z_isinstance (by decide +kernel) (pa_cons (pv 0) (pa_cons (pe_bltn (by rfl) T.z_tuple (by decide +kernel) (v := .ty "tuple") rfl) pa_nil)))))))
  (pss_one (ps_ret (pe_callTy call_tuple_of (by rfl) T.z_tuple (by decide +kernel) (pa_cons (pe_lc (own := [("part", 1)]) (g := gName 1) (tt := tYes) rfl scLawOwn.nd (pi_list (pv 0)) (blkOk_by (own := [("part", 1)]) (N := ["value", "part"]) (sc := defScope sLawOwn) (by decide +kernel)) (fun _ _ _ _ _ => (pg_name (i := 1) scLawOwn.nd rfl (Or.inl rfl))) (fun _ _ _ _ _ => pts_nil) (fun _ _ _ _ _ => (pe_go cLawOwn hg hr (by rfl) (pa_cons (pv 1) pa_nil)))) pa_nil))))
  pss_nil)
  (pss_one (ps_ret (pv 0)))), ?_⟩
      refine r_start (l := [some (V.bl b), none]) rfl ?_
      walk_at "rds"
      have s1 : Same H H := Same.refl H
      obtain ⟨t, ty, kt, kt2⟩ := dd_list (dd_same hid_up hd)
      refine r_isi ty kt ?_
      walk_at "F"
      refine r_isi ty kt2 ?_
      walk_at "F"
      refine k _ _ s1 ?_
      have e3 : fixD (.bool b) = .bool b := by simp only [fixD]
      rw [e3]
      exact dd_same (Keep.of s1).hid hd
    | num i =>
      have hd := hd0
      refine ⟨_, (pss_cons (ps_if (PW.pt (pw_or (pt_val (pe_callB call_isi (by rfl) T.z_isinstance (by decide +kernel) (pa_cons (pv 0) (pa_cons (pe_bltn (by rfl) T.z_list (by decide +kernel) (v := .ty "list") rfl) pa_nil)))) (pw_or1 (pt_val (pe_callB call_isi (by rfl) T.z_isinstance (by decide +kernel) (pa_cons (pv 0) (pa_cons (pe_bltn (by rfl) T.z_tuple (by decide +kernel) (v := .ty "tuple") rfl) pa_nil)))))))
  (pss_one (ps_ret (pe_callTy call_tuple_of (by rfl) T.z_tuple (by decide +kernel) (pa_cons (pe_lc (own := [("part", 1)]) (g := gName 1) (tt := tYes) rfl scLawOwn.nd (pi_list (pv 0)) (blkOk_by (own := [("part", 1)]) (N := ["value", "part"]) (sc := defScope sLawOwn) (by decide +kernel)) (fun _ _ _ _ _ => (pg_name (i := 1) scLawOwn.nd rfl (Or.inl rfl))) (fun _ _ _ _ _ => pts_nil) (fun _ _ _ _ _ => (pe_go cLawOwn hg hr (by rfl) (pa_cons (pv 1) pa_nil)))) pa_nil))))
  pss_nil)
  (pss_one (ps_ret (pv 0)))), ?_⟩
      refine r_start (l := [some (V.int i), none]) rfl ?_
      walk_at "rds"
      have s1 : Same H H := Same.refl H
      obtain ⟨t, ty, kt, kt2⟩ := dd_list (dd_same hid_up hd)
      refine r_isi ty kt ?_
      walk_at "F"
      refine r_isi ty kt2 ?_
      walk_at "F"
      refine k _ _ s1 ?_
      have e3 : fixD (.int i) = .int i := by simp only [fixD]
      rw [e3]
      exact dd_same (Keep.of s1).hid hd
    | str x =>
      have hd := hd0
      refine ⟨_, (pss_cons (ps_if (PW.pt (pw_or (pt_val (pe_callB call_isi (by rfl) T.z_isinstance (by decide +kernel) (pa_cons (pv 0) (pa_cons (pe_bltn (by rfl) T.z_list (by decide +kernel) (v := .ty "list") rfl) pa_nil)))) (pw_or1 (pt_val (pe_callB call_isi (by rfl) T.z_isinstance (by decide +kernel) (pa_cons (pv 0) (pa_cons (pe_bltn (by rfl) T.z_tuple (by decide +kernel) (v := .ty "tuple") rfl) pa_nil)))))))
  (pss_one (ps_ret (pe_callTy call_tuple_of (by rfl) T.z_tuple (by decide +kernel) (pa_cons (pe_lc (own := [("part", 1)]) (g := gName 1) (tt := tYes) rfl scLawOwn.nd (pi_list (pv 0)) (blkOk_by (own := [("part", 1)]) (N := ["value", "part"]) (sc := defScope sLawOwn) (by decide +kernel)) (fun _ _ _ _ _ => (pg_name (i := 1) scLawOwn.nd rfl (Or.inl rfl))) (fun _ _ _ _ _ => pts_nil) (fun _ _ _ _ _ => (pe_go cLawOwn hg hr (by rfl) (pa_cons (pv 1) pa_nil)))) pa_nil))))
  pss_nil)
  (pss_one (ps_ret (pv 0)))), ?_⟩
      refine r_start (l := [some (V.str x), none]) rfl ?_
      walk_at "rds"
      have s1 : Same H H := Same.refl H
      obtain ⟨t, ty, kt, kt2⟩ := dd_list (dd_same hid_up hd)
      refine r_isi ty kt ?_
      walk_at "F"
      refine r_isi ty kt2 ?_
      walk_at "F"
      refine k _ _ s1 ?_
      have e3 : fixD (.str x) = .str x := by simp only [fixD]
      rw [e3]
      exact dd_same (Keep.of s1).hid hd
    | @dic a kvs ds e hk =>
      have hd := hd0
      refine ⟨_, (pss_cons (ps_if (PW.pt (pw_or (pt_val (pe_callB call_isi (by rfl) T.z_isinstance (by decide +kernel) (pa_cons (pv 0) (pa_cons (pe_bltn (by rfl) T.z_list (by decide +kernel) (v := .ty "list") rfl) pa_nil)))) (pw_or1 (pt_val (pe_callB call_isi (by rfl) T.z_isinstance (by decide +kernel) (pa_cons (pv 0) (pa_cons (pe_bltn (by rfl) T.z_tuple (by decide +kernel) (v := .ty "tuple") rfl) pa_nil)))))))
  (pss_one (ps_ret (pe_callTy call_tuple_of (by rfl) T.z_tuple (by decide +kernel) (pa_cons (pe_lc (own := [("part", 1)]) (g := gName 1) (tt := tYes) rfl scLawOwn.nd (pi_list (pv 0)) (blkOk_by (own := [("part", 1)]) (N := ["value", "part"]) (sc := defScope sLawOwn) (by decide +kernel)) (fun _ _ _ _ _ => (pg_name (i := 1) scLawOwn.nd rfl (Or.inl rfl))) (fun _ _ _ _ _ => pts_nil) (fun _ _ _ _ _ => (pe_go cLawOwn hg hr (by rfl) (pa_cons (pv 1) pa_nil)))) pa_nil))))
  pss_nil)
  (pss_one (ps_ret (pv 0)))), ?_⟩
      refine r_start (l := [some (V.ref a), none]) rfl ?_
      walk_at "rds"
      have s1 : Same H H := Same.refl H
      obtain ⟨t, ty, kt, kt2⟩ := dd_list (dd_same hid_up hd)
      refine r_isi ty kt ?_
      walk_at "F"
      refine r_isi ty kt2 ?_
      walk_at "F"
      refine k _ _ s1 ?_
      have e3 : fixD (.dict ds) = .dict ds := by simp only [fixD]
      rw [e3]
      exact dd_same (Keep.of s1).hid hd
    | @lst a xs ds e hall =>
      have hd := hd0
      refine ⟨_, (pss_cons (ps_if (PW.pt (pw_or (pt_val (pe_callB call_isi (by rfl) T.z_isinstance (by decide +kernel) (pa_cons (pv 0) (pa_cons (pe_bltn (by rfl) T.z_list (by decide +kernel) (v := .ty "list") rfl) pa_nil)))) (pw_or1 (pt_val (pe_callB call_isi (by rfl) T.z_isinstance (by decide +kernel) (pa_cons (pv 0) (pa_cons (pe_bltn (by rfl) T.z_tuple (by decide +kernel) (v := .ty "tuple") rfl) pa_nil)))))))
  (pss_one (ps_ret (pe_callTy call_tuple_of (by rfl) T.z_tuple (by decide +kernel) (pa_cons (pe_lc (own := [("part", 1)]) (g := gName 1) (tt := tYes) rfl scLawOwn.nd (pi_list (pv 0)) (blkOk_by (own := [("part", 1)]) (N := ["value", "part"]) (sc := defScope sLawOwn) (by decide +kernel)) (fun _ _ _ _ _ => (pg_name (i := 1) scLawOwn.nd rfl (Or.inl rfl))) (fun _ _ _ _ _ => pts_nil) (fun _ _ _ _ _ => (pe_go cLawOwn hg hr (by rfl) (pa_cons (pv 1) pa_nil)))) pa_nil))))
  pss_nil)
  (pss_one (ps_ret (pv 0)))), ?_⟩
      refine r_start (l := [some (V.ref a), none]) rfl ?_
      walk_at "rds"
      have s1 : Same H H := Same.refl H
      obtain ⟨t, ty, kt, kt2⟩ := dd_list (dd_same hid_up hd)
      refine r_isi ty kt ?_
      walk_at "T"
      have e1 : SqL K H a xs := s1.seq (Same.seq hid_up e)
      refine ⟨a, rfl, ⟨_, e1⟩, fun D hD => ?_⟩
      have hlen := hall.len
      have hcA : costAll ds ≤ 15000000 := by simp only [cost] at hc; omega
      have hS1 := live_same hS s1
      refine lc_list (K := K) (a := a) (xs := xs) (fun i G => ∃ ys, G D = some (.lst ys) ∧ ys.length = i ∧ Keep [D] H G ∧ DdAll K (hid (D :: S) G) ys (fixAll (ds.take i)))
        ⟨[], upd_same, rfl, Keep.own, by simp only [List.take_zero, fixAll]; exact .nil⟩ (fun i G _ ⟨ys, eD, _, kp, _⟩ => ?_) ?_ ?_
      · have e2 : SqL K (hid [D] H) a xs := Same.seq (fun b o z => (hid_out (by simp [ne_of_none z hD])).trans z) e1
        exact Same.seq (fun b o z => let ⟨n, z1⟩ := hid_some z; kp b o n z1) e2
      · rintro i x G hx ⟨ys, eD, hys, kp, hall2⟩
        obtain ⟨d1, hd1, dx⟩ := hall.at hx
        have m1 : d1 ∈ ds := List.mem_of_getElem? hd1
        have hi : i < ds.length := (List.getElem?_eq_some_iff.mp hd1).1
        have dx2 : Dd K (hid (D :: S) G) x d1 := dd_same (hid_new hD kp) (dd_same (Keep.of s1).hid dx)
        walk_at "rds"
        refine ⟨rfl, ?_⟩
        walk_at "rds"
        refine ⟨D :: S, x, d1, rfl, live_new hS1 hD kp eD, dx2, ?_, ?_, fun G' v' sG dv => ?_⟩
        · have := depthAll_mem m1
          simp only [PyData.depth] at hn
          omega
        · have := costAll_mem m1
          omega
        · refine ⟨ys, sG _ _ eD, by rw [hys]; exact Nat.lt_trans hi (len_cost hcA (Nat.le_refl _)), ys ++ [v'], upd_same, by rw [List.length_append, hys]; rfl, (kp.trans (Keep.of sG)).own2, ?_⟩
          rw [hid_upd (List.mem_cons_self ..), fixAll_take hd1]
          exact (dd_sameAll (Keep.of sG).hid hall2).append (.cons dv .nil)
      · rintro G ⟨ys, eD, hys, kp, hall2⟩
        rw [hlen, List.take_length] at hall2
        walk_at "rds"
        refine ⟨_, _, rfl, .inl ⟨SqL.of eD, fun p2 hp2 => ?_⟩⟩
        have sHG : Same H G := fun b o e => kp b o (by simp [ne_of_none (s1 b o e) hD]) (s1 b o e)
        have np2 : p2 ∉ S := live_not (live_same hS sHG) hp2
        refine k _ _ (same_neu sHG hp2) ?_
        have e3 : fixD (.list ds) = .tuple (fixAll ds) := by simp only [fixD]
        rw [e3]
        refine .tup (SqT.of ((hid_out np2).trans upd_same)) ?_
        exact dd_sameAll ((Keep.refl S G).neu hp2).hid (dd_sameAll (hid_less fun b m => List.mem_cons_of_mem _ m) hall2)
    | @tup a xs ds e hall =>
      have hd := hd0
      refine ⟨_, (pss_cons (ps_if (PW.pt (pw_or (pt_val (pe_callB call_isi (by rfl) T.z_isinstance (by decide +kernel) (pa_cons (pv 0) (pa_cons (pe_bltn (by rfl) T.z_list (by decide +kernel) (v := .ty "list") rfl) pa_nil)))) (pw_or1 (pt_val (pe_callB call_isi (by rfl) T.z_isinstance (by decide +kernel) (pa_cons (pv 0) (pa_cons (pe_bltn (by rfl) T.z_tuple (by decide +kernel) (v := .ty "tuple") rfl) pa_nil)))))))
  (pss_one (ps_ret (pe_callTy call_tuple_of (by rfl) T.z_tuple (by decide +kernel) (pa_cons (pe_lc (own := [("part", 1)]) (g := gName 1) (tt := tYes) rfl scLawOwn.nd (pi_tup (pv 0)) (blkOk_by (own := [("part", 1)]) (N := ["value", "part"]) (sc := defScope sLawOwn) (by decide +kernel)) (fun _ _ _ _ _ => (pg_name (i := 1) scLawOwn.nd rfl (Or.inl rfl))) (fun _ _ _ _ _ => pts_nil) (fun _ _ _ _ _ => (pe_go cLawOwn hg hr (by rfl) (pa_cons (pv 1) pa_nil)))) pa_nil))))
  pss_nil)
  (pss_one (ps_ret (pv 0)))), ?_⟩
      refine r_start (l := [some (V.ref a), none]) rfl ?_
      walk_at "rds"
      have s1 : Same H H := Same.refl H
      obtain ⟨t, ty, kt, kt2⟩ := dd_list (dd_same hid_up hd)
      refine r_isi ty kt ?_
      walk_at "F"
      refine r_isi ty kt2 ?_
      walk_at "T"
      have e1 : SqT K H a xs := Same.tupS s1 (Same.tupS hid_up e)
      refine ⟨a, rfl, ⟨_, e1⟩, fun D hD => ?_⟩
      have hlen := hall.len
      have hcA : costAll ds ≤ 15000000 := by simp only [cost] at hc; omega
      have hS1 := live_same hS s1
      refine lc_tup (K := K) (a := a) (xs := xs) (fun i G => ∃ ys, G D = some (.lst ys) ∧ ys.length = i ∧ Keep [D] H G ∧ DdAll K (hid (D :: S) G) ys (fixAll (ds.take i)))
        ⟨[], upd_same, rfl, Keep.own, by simp only [List.take_zero, fixAll]; exact .nil⟩ (fun i G _ ⟨ys, eD, _, kp, _⟩ => ?_) ?_ ?_
      · have e2 : SqT K (hid [D] H) a xs := Same.tupS (fun b o z => (hid_out (by simp [ne_of_none z hD])).trans z) e1
        exact Same.tupS (fun b o z => let ⟨n, z1⟩ := hid_some z; kp b o n z1) e2
      · rintro i x G hx ⟨ys, eD, hys, kp, hall2⟩
        obtain ⟨d1, hd1, dx⟩ := hall.at hx
        have m1 : d1 ∈ ds := List.mem_of_getElem? hd1
        have hi : i < ds.length := (List.getElem?_eq_some_iff.mp hd1).1
        have dx2 : Dd K (hid (D :: S) G) x d1 := dd_same (hid_new hD kp) (dd_same (Keep.of s1).hid dx)
        walk_at "rds"
        refine ⟨rfl, ?_⟩
        walk_at "rds"
        refine ⟨D :: S, x, d1, rfl, live_new hS1 hD kp eD, dx2, ?_, ?_, fun G' v' sG dv => ?_⟩
        · have := depthAll_mem m1
          simp only [PyData.depth] at hn
          omega
        · have := costAll_mem m1
          omega
        · refine ⟨ys, sG _ _ eD, by rw [hys]; exact Nat.lt_trans hi (len_cost hcA (Nat.le_refl _)), ys ++ [v'], upd_same, by rw [List.length_append, hys]; rfl, (kp.trans (Keep.of sG)).own2, ?_⟩
          rw [hid_upd (List.mem_cons_self ..), fixAll_take hd1]
          exact (dd_sameAll (Keep.of sG).hid hall2).append (.cons dv .nil)
      · rintro G ⟨ys, eD, hys, kp, hall2⟩
        rw [hlen, List.take_length] at hall2
        walk_at "rds"
        refine ⟨_, _, rfl, .inl ⟨SqL.of eD, fun p2 hp2 => ?_⟩⟩
        have sHG : Same H G := fun b o e => kp b o (by simp [ne_of_none (s1 b o e) hD]) (s1 b o e)
        have np2 : p2 ∉ S := live_not (live_same hS sHG) hp2
        refine k _ _ (same_neu sHG hp2) ?_
        have e3 : fixD (.tuple ds) = .tuple (fixAll ds) := by simp only [fixD]
        rw [e3]
        refine .tup (SqT.of ((hid_out np2).trans upd_same)) ?_
        exact dd_sameAll ((Keep.refl S G).neu hp2).hid (dd_sameAll (hid_less fun b m => List.mem_cons_of_mem _ m) hall2)
theorem ok_LawOwn {f : Addr} {fd : FuncData} (F : Fun K "_law_own" "_law_own" sLawOwn f fd) (T : Txt K mg) (hM : HasMods base) (m : mg "_law_own" = some (.ref f)) (kp : PySem.W.keepIn K (.ref f) = true) (b : Binds K fd ["value"] []) : ∀ n, FnG P w K mg base n f fd ["value"] (spFix K n)
  | 0 => ⟨fun h => (by obtain ⟨S, v, d, rfl, _⟩ := h; rfl), fun _ _ _ _ _ h => (by obtain ⟨_, _, _, _, _, _, z, _⟩ := h; exact absurd z (Nat.not_lt_zero _))⟩
  | n + 1 => step_LawOwn F T hM n ⟨ok_LawOwn F T hM m kp b n, m, kp, b⟩
end
end K04
namespace K04
open PySem PySem.Spec PyProof.Rows L2 Rp
/-- laps and signs that a nested value takes -/
def lapN : Nat → Nat
  | 0 => 4
  | n + 1 => 4 + 4 * lapN n
def costN : Nat → Nat
  | 0 => 40
  | n + 1 => 4 * costN n + 20
def spNest (K : PySem.W.Frag) (n : Nat) : Sp := fun vs H Q _ => ∃ (S : List Addr) (q c : Addr) (ns : List Int) (lap deep : Nat), vs = [.ref q, .int (deep : Int)] ∧ q ∈ S ∧ (∀ b ∈ S, H b ≠ none) ∧ deep < n ∧ lap + lapN deep < 2 ^ 20 ∧ Dr q c ns lap H ∧
  ∀ (H' : Hp) (lap' : Nat) (v : V) (d : PyData), lap' ≤ lap + lapN deep → Dr q c ns lap' H' → But q H H' → Dd K (hid S H') v d → Fit (2 * deep + 4) (costN deep) d → Q v H'
theorem lap_ge : ∀ n, 4 ≤ lapN n
  | 0 => Nat.le_refl _
  | n + 1 => by unfold lapN; omega
theorem cost_ge : ∀ n, 40 ≤ costN n
  | 0 => Nat.le_refl _
  | n + 1 => by have := cost_ge n; unfold costN; omega
theorem lap_succ (n : Nat) : lapN (n + 1) = 4 + 4 * lapN n := by simp only [lapN]
theorem cost_succ (n : Nat) : costN (n + 1) = 4 * costN n + 20 := by simp only [costN]

section
variable {P : Program} {w : World} {K : PySem.W.Frag} {mg : Str → Option Value} {base : Heap}
abbrev sLawNested : Stmt := top 6
theorem scLawNested : FnScope ["hamper", "deep", "way", "found", "place"] ["hamper", "deep"] (defScope sLawNested) := ⟨rfl, rfl, rfl, by decide +kernel, rfl, by decide +kernel, by decide +kernel⟩
theorem step_LawNested {f : Addr} {fd : FuncData} (F : Fun K "_law_nested" "_law_nested" sLawNested f fd) (T : Txt K mg) (hM : HasMods base) {fLawPlait : Addr} {fdLawPlait : FuncData} (cLawPlait : Cal P w K mg base "_law_plait" 1 fLawPlait fdLawPlait ["hamper", "many"] spDraw) {fLawOf : Addr} {fdLawOf : FuncData} (cLawOf : Cal P w K mg base "_law_of" 2 fLawOf fdLawOf ["hamper", "some"] (spOf K)) (n : Nat) (cLawNested : Cal P w K mg base "_law_nested" (n + 3) f fd ["hamper", "deep"] (spNest K n)) : FnG P w K mg base (n + 4) f fd ["hamper", "deep"] (spNest K (n + 1)) := by
  refine fng F scLawNested (fun {vs H Q E} h => ?_) (fun {cdv A fr s H vs Q E} hg hr h => ?_)
  · obtain ⟨S, q, c, ns, lap, deep, rfl, hqS, hS, hn, hlap, hD, k⟩ := h
    rfl
  · obtain ⟨S, q, c, ns, lap, deep, rfl, hqS, hS, hn, hlap, hD, k⟩ := h
    refine ⟨_, (pss_cons (ps_set (i := 2) scLawNested.nd rfl (Or.inl rfl) (pe_go cLawPlait hg (hr.mono (by omega)) (by rfl) (pa_cons (pv 0) (pa_cons pe_int pa_nil))))
  (pss_cons (ps_if (PW.pt (pw_or (pt_cmpR op_gt (pv 2) pe_int (nomark _)) (pw_or1 (pt_cmpR op_eq (pv 1) pe_int (nomark _)))))
  (pss_one (ps_ret (pe_go cLawOf hg (hr.mono (by omega)) (by rfl) (pa_cons (pv 0) (pa_cons (pe_lst (pa_cons (pe_op op_sub (pe_go cLawPlait hg (hr.mono (by omega)) (by rfl) (pa_cons (pv 0) (pa_cons pe_int pa_nil))) pe_int) (pa_cons pe_non (pa_cons pe_bl (pa_cons pe_str (pa_cons pe_str (pa_cons (pe_disp (pps_cons pe_int (pe_lst (pa_cons pe_int pa_nil)) pps_nil) (by rfl) (by rfl) (fun z => by cases z) (by decide)) (pa_cons (pe_lst pa_nil) (pa_cons (pe_tup pa_nil) (pa_cons (pe_disp (pps_cons pe_str (pe_tup (pa_cons pe_int (pa_cons (pe_lst (pa_cons pe_int pa_nil)) pa_nil))) pps_nil) (by rfl) (by rfl) (fun z => by cases z) (by decide)) (pa_cons (pe_op op_pow pe_int pe_int) pa_nil))))))))))) pa_nil)))))
  pss_nil)
  (pss_cons (ps_setLc (i := 3) (own := [("place", 4)]) (g := gName 4) (tt := tYes) rfl scLawNested.nd rfl rfl (sw_true rfl rfl rfl (by decide +kernel)) (pi_range1 (by rfl) T.z_range (pa_cons (pe_go cLawPlait hg (hr.mono (by omega)) (by rfl) (pa_cons (pv 0) (pa_cons pe_int pa_nil))) pa_nil)) (blkOk_by (own := [("place", 4)]) (N := ["hamper", "deep", "way", "found", "place"]) (sc := defScope sLawNested) (by decide +kernel)) (fun _ _ _ _ _ => (pg_name (i := 4) scLawNested.nd rfl (Or.inl rfl))) (fun _ _ _ _ _ => pts_nil) (fun _ _ _ _ _ => (pe_go cLawNested hg hr (by rfl) (pa_cons (pv 0) (pa_cons (pe_op op_sub (pv 1) pe_int) pa_nil)))))
  (pss_one (ps_ret (pe_ifExp (pt_cmpR op_lt (pv 2) pe_int (nomark _)) (pv 3) (pe_ifExp (pt_cmpR op_eq (pv 2) pe_int (nomark _)) (pe_callTy call_tuple_of (by rfl) T.z_tuple (by decide +kernel) (pa_cons (pv 3) pa_nil)) (pe_lst (pa_cons (pv 3) pa_nil))))))))), ?_⟩
    refine r_start (l := [some (.ref q), some (.int (deep : Int)), none, none, none]) rfl ?_
    have B0 : But q H H := But.refl _ _
    have hlg := lap_ge deep
    walk_at "rds"
    refine ⟨_, _, _, _, _, rfl, by decide, by decide, by omega, hD, fun H1 l1 r1 hl1 D1 b1 m1 n1 => ?_⟩
    have B1 := B0.trans b1
    walk_at "rds"
    refine ite2 (fun _ => ?_) (fun hw => ?_)
    · walk_at "rds"
      refine ⟨_, _, _, _, _, rfl, by decide, by decide, by omega, D1, fun H2 l2 r2 hl2 D2 b2 m2 n2 => ?_⟩
      have B2 := B1.trans b2
      walk_at "rds"
      have B3 : But q H2 H2 := But.refl _ _
      intro p4 hp4
      generalize hG4 : upd H2 p4 _ = H4
      obtain ⟨D4, B4, b4, np4, ep4⟩ := alloc hG4 D2 B3 hp4
      clear hG4
      have ns4 : p4 ∉ S := notin hS (B2.trans B3) np4 hp4
      walk_at "rds"
      refine ⟨len_ok rfl, fun p5 hp5 => ?_⟩
      generalize hG5 : upd H4 p5 _ = H5
      obtain ⟨D5, B5, b5, np5, ep5⟩ := alloc hG5 D4 B4 hp5
      clear hG5
      have ns5 : p5 ∉ S := notin hS (B2.trans B4) np5 hp5
      replace ep4 := b5 _ _ np4 ep4
      walk_at "rds"
      refine ⟨ep4, [(Sum.inl 1, .ref p5)], rfl, le_ok rfl, ?_⟩
      generalize hG6 : upd H5 p4 _ = H6
      obtain ⟨D6, ed4⟩ := stored hG6 D5 np4 ep4 (fun _ z => by cases z)
      replace ep5 := (at_put hG6 (ne_of ep5 ep4 (fun z => by cases z))).trans ep5
      have b6 := but_put hG6 B5 hp4
      clear hG6
      have B6 := B2.trans b6
      walk_at "rds"
      have dA : Dd K (hid S H6) (.ref p4) (.dict [(.int 1, .list [.int 2])]) := .dic ((hid_out ns4).trans ed4) (.cons (.lst (SqL.of ((hid_out ns5).trans ep5)) (.cons (.num 2) .nil)) .nil)
      refine ⟨len_ok rfl, fun p7 hp7 => ?_⟩
      generalize hG7 : upd H6 p7 _ = H7
      obtain ⟨D7, B7, b7, np7, ep7⟩ := alloc hG7 D6 B6 hp7
      clear hG7
      have ns7 : p7 ∉ S := notin hS B6 np7 hp7
      replace dA := dd_but hqS b7 dA
      walk_at "rds"
      have dB : Dd K (hid S H7) (.ref p7) (.list []) := .lst (SqL.of ((hid_out ns7).trans ep7)) .nil
      refine ⟨len_ok rfl, fun p8 hp8 => ?_⟩
      generalize hG8 : upd H7 p8 _ = H8
      obtain ⟨D8, B8, b8, np8, ep8⟩ := alloc hG8 D7 B7 hp8
      clear hG8
      have ns8 : p8 ∉ S := notin hS B7 np8 hp8
      replace dA := dd_but hqS b8 dA
      replace dB := dd_but hqS b8 dB
      replace ep7 := b8 _ _ np7 ep7
      walk_at "rds"
      have dC : Dd K (hid S H8) (.ref p8) (.tuple []) := .tup (SqT.of ((hid_out ns8).trans ep8)) .nil
      have B9 : But q H8 H8 := But.refl _ _
      intro p10 hp10
      generalize hG10 : upd H8 p10 _ = H10
      obtain ⟨D10, B10, b10, np10, ep10⟩ := alloc hG10 D8 B9 hp10
      clear hG10
      have ns10 : p10 ∉ S := notin hS (B8.trans B9) np10 hp10
      walk_at "rds"
      refine ⟨len_ok rfl, fun p11 hp11 => ?_⟩
      generalize hG11 : upd H10 p11 _ = H11
      obtain ⟨D11, B11, b11, np11, ep11⟩ := alloc hG11 D10 B10 hp11
      clear hG11
      have ns11 : p11 ∉ S := notin hS (B8.trans B10) np11 hp11
      replace ep10 := b11 _ _ np10 ep10
      walk_at "rds"
      refine ⟨len_ok rfl, fun p12 hp12 => ?_⟩
      generalize hG12 : upd H11 p12 _ = H12
      obtain ⟨D12, B12, b12, np12, ep12⟩ := alloc hG12 D11 B11 hp12
      clear hG12
      have ns12 : p12 ∉ S := notin hS (B8.trans B11) np12 hp12
      replace ep10 := b12 _ _ np10 ep10
      replace ep11 := b12 _ _ np11 ep11
      walk_at "rds"
      refine ⟨ep10, [(Sum.inr "a", .ref p12)], rfl, le_ok rfl, ?_⟩
      generalize hG13 : upd H12 p10 _ = H13
      obtain ⟨D13, ed10⟩ := stored hG13 D12 np10 ep10 (fun _ z => by cases z)
      replace ep11 := (at_put hG13 (ne_of ep11 ep10 (fun z => by cases z))).trans ep11
      replace ep12 := (at_put hG13 (ne_of ep12 ep10 (fun z => by cases z))).trans ep12
      have b13 := but_put hG13 B12 hp10
      clear hG13
      have B13 := B8.trans b13
      replace dA := dd_but hqS b13 dA
      replace dB := dd_but hqS b13 dB
      replace dC := dd_but hqS b13 dC
      walk_at "rds"
      have dE : Dd K (hid S H13) (.ref p10) (.dict [(.str "a", .tuple [.int 1, .list [.int 2]])]) := .dic ((hid_out ns10).trans ed10) (.cons (.tup (SqT.of ((hid_out ns12).trans ep12)) (.cons (.num 1) (.cons (.lst (SqL.of ((hid_out ns11).trans ep11)) (.cons (.num 2) .nil)) .nil))) .nil)
      refine r_I ⟨by decide, by decide, by decide⟩ ?_
      walk_at "rds"
      refine ⟨len_ok rfl, fun p14 hp14 => ?_⟩
      generalize hG14 : upd H13 p14 _ = H14
      obtain ⟨D14, B14, b14, np14, ep14⟩ := alloc hG14 D13 B13 hp14
      clear hG14
      have ns14 : p14 ∉ S := notin hS B13 np14 hp14
      replace dA := dd_but hqS b14 dA
      replace dB := dd_but hqS b14 dB
      replace dC := dd_but hqS b14 dC
      replace dE := dd_but hqS b14 dE
      walk_at "rds"
      refine ⟨_, _, _, _, _, _, rfl, SqL.of ep14, Nat.zero_lt_succ _, lt_ok rfl, by omega, np14, D14, fun H15 l15 i15 v15 hl15 D15 b15 e15 => ?_⟩
      have pv15 := EachP.get (F := fun v => ∃ d, Dd K (hid S H14) v d ∧ Fit 4 40 d) (.cons ⟨_, .num _, (fit_int (by omega)).le (Nat.zero_le _) (by decide)⟩ (.cons ⟨_, .non, leaf_fit (by decide +kernel) (by decide +kernel) (by decide +kernel)⟩ (.cons ⟨_, .bl _, leaf_fit (by decide +kernel) (by decide +kernel) (by decide +kernel)⟩ (.cons ⟨_, .str _, leaf_fit (by decide +kernel) (by decide +kernel) (by decide +kernel)⟩ (.cons ⟨_, .str _, leaf_fit (by decide +kernel) (by decide +kernel) (by decide +kernel)⟩ (.cons ⟨_, dA, leaf_fit (by decide +kernel) (by decide +kernel) (by decide +kernel)⟩ (.cons ⟨_, dB, leaf_fit (by decide +kernel) (by decide +kernel) (by decide +kernel)⟩ (.cons ⟨_, dC, leaf_fit (by decide +kernel) (by decide +kernel) (by decide +kernel)⟩ (.cons ⟨_, dE, leaf_fit (by decide +kernel) (by decide +kernel) (by decide +kernel)⟩ (.cons ⟨_, .num _, leaf_fit (by decide +kernel) (by decide +kernel) (by decide +kernel)⟩ .nil)))))))))) e15
      have B15 := B14.trans b15
      replace dA := dd_but hqS b15 dA
      replace dB := dd_but hqS b15 dB
      replace dC := dd_but hqS b15 dC
      replace dE := dd_but hqS b15 dE
      replace ep14 := b15 _ _ np14 ep14
      obtain ⟨d, dv, fd⟩ := pv15
      exact k _ _ _ d (by have := lap_ge deep; omega) D15 B15 (dd_but hqS b15 dv) (fd.le (by omega) (cost_ge deep))
    have hway : r1 ≤ 3 := by
      have z : ¬ (3 : Int) < r1 := fun z => hw (decide_eq_true z)
      omega
    walk_at "rds"
    refine ⟨rfl, ?_⟩
    walk_at "rds"
    by_cases hz : deep = 0
    · rw [show decide (V.int (deep : Int) = V.int 0) = true from decide_eq_true (by rw [hz]; rfl)]
      walk_at "rds"
      refine ⟨_, _, _, _, _, rfl, by decide, by decide, by omega, D1, fun H2 l2 r2 hl2 D2 b2 m2 n2 => ?_⟩
      have B2 := B1.trans b2
      walk_at "rds"
      have B3 : But q H2 H2 := But.refl _ _
      intro p4 hp4
      generalize hG4 : upd H2 p4 _ = H4
      obtain ⟨D4, B4, b4, np4, ep4⟩ := alloc hG4 D2 B3 hp4
      clear hG4
      have ns4 : p4 ∉ S := notin hS (B2.trans B3) np4 hp4
      walk_at "rds"
      refine ⟨len_ok rfl, fun p5 hp5 => ?_⟩
      generalize hG5 : upd H4 p5 _ = H5
      obtain ⟨D5, B5, b5, np5, ep5⟩ := alloc hG5 D4 B4 hp5
      clear hG5
      have ns5 : p5 ∉ S := notin hS (B2.trans B4) np5 hp5
      replace ep4 := b5 _ _ np4 ep4
      walk_at "rds"
      refine ⟨ep4, [(Sum.inl 1, .ref p5)], rfl, le_ok rfl, ?_⟩
      generalize hG6 : upd H5 p4 _ = H6
      obtain ⟨D6, ed4⟩ := stored hG6 D5 np4 ep4 (fun _ z => by cases z)
      replace ep5 := (at_put hG6 (ne_of ep5 ep4 (fun z => by cases z))).trans ep5
      have b6 := but_put hG6 B5 hp4
      clear hG6
      have B6 := B2.trans b6
      walk_at "rds"
      have dA : Dd K (hid S H6) (.ref p4) (.dict [(.int 1, .list [.int 2])]) := .dic ((hid_out ns4).trans ed4) (.cons (.lst (SqL.of ((hid_out ns5).trans ep5)) (.cons (.num 2) .nil)) .nil)
      refine ⟨len_ok rfl, fun p7 hp7 => ?_⟩
      generalize hG7 : upd H6 p7 _ = H7
      obtain ⟨D7, B7, b7, np7, ep7⟩ := alloc hG7 D6 B6 hp7
      clear hG7
      have ns7 : p7 ∉ S := notin hS B6 np7 hp7
      replace dA := dd_but hqS b7 dA
      walk_at "rds"
      have dB : Dd K (hid S H7) (.ref p7) (.list []) := .lst (SqL.of ((hid_out ns7).trans ep7)) .nil
      refine ⟨len_ok rfl, fun p8 hp8 => ?_⟩
      generalize hG8 : upd H7 p8 _ = H8
      obtain ⟨D8, B8, b8, np8, ep8⟩ := alloc hG8 D7 B7 hp8
      clear hG8
      have ns8 : p8 ∉ S := notin hS B7 np8 hp8
      replace dA := dd_but hqS b8 dA
      replace dB := dd_but hqS b8 dB
      replace ep7 := b8 _ _ np7 ep7
      walk_at "rds"
      have dC : Dd K (hid S H8) (.ref p8) (.tuple []) := .tup (SqT.of ((hid_out ns8).trans ep8)) .nil
      have B9 : But q H8 H8 := But.refl _ _
      intro p10 hp10
      generalize hG10 : upd H8 p10 _ = H10
      obtain ⟨D10, B10, b10, np10, ep10⟩ := alloc hG10 D8 B9 hp10
      clear hG10
      have ns10 : p10 ∉ S := notin hS (B8.trans B9) np10 hp10
      walk_at "rds"
      refine ⟨len_ok rfl, fun p11 hp11 => ?_⟩
      generalize hG11 : upd H10 p11 _ = H11
      obtain ⟨D11, B11, b11, np11, ep11⟩ := alloc hG11 D10 B10 hp11
      clear hG11
      have ns11 : p11 ∉ S := notin hS (B8.trans B10) np11 hp11
      replace ep10 := b11 _ _ np10 ep10
      walk_at "rds"
      refine ⟨len_ok rfl, fun p12 hp12 => ?_⟩
      generalize hG12 : upd H11 p12 _ = H12
      obtain ⟨D12, B12, b12, np12, ep12⟩ := alloc hG12 D11 B11 hp12
      clear hG12
      have ns12 : p12 ∉ S := notin hS (B8.trans B11) np12 hp12
      replace ep10 := b12 _ _ np10 ep10
      replace ep11 := b12 _ _ np11 ep11
      walk_at "rds"
      refine ⟨ep10, [(Sum.inr "a", .ref p12)], rfl, le_ok rfl, ?_⟩
      generalize hG13 : upd H12 p10 _ = H13
      obtain ⟨D13, ed10⟩ := stored hG13 D12 np10 ep10 (fun _ z => by cases z)
      replace ep11 := (at_put hG13 (ne_of ep11 ep10 (fun z => by cases z))).trans ep11
      replace ep12 := (at_put hG13 (ne_of ep12 ep10 (fun z => by cases z))).trans ep12
      have b13 := but_put hG13 B12 hp10
      clear hG13
      have B13 := B8.trans b13
      replace dA := dd_but hqS b13 dA
      replace dB := dd_but hqS b13 dB
      replace dC := dd_but hqS b13 dC
      walk_at "rds"
      have dE : Dd K (hid S H13) (.ref p10) (.dict [(.str "a", .tuple [.int 1, .list [.int 2]])]) := .dic ((hid_out ns10).trans ed10) (.cons (.tup (SqT.of ((hid_out ns12).trans ep12)) (.cons (.num 1) (.cons (.lst (SqL.of ((hid_out ns11).trans ep11)) (.cons (.num 2) .nil)) .nil))) .nil)
      refine r_I ⟨by decide, by decide, by decide⟩ ?_
      walk_at "rds"
      refine ⟨len_ok rfl, fun p14 hp14 => ?_⟩
      generalize hG14 : upd H13 p14 _ = H14
      obtain ⟨D14, B14, b14, np14, ep14⟩ := alloc hG14 D13 B13 hp14
      clear hG14
      have ns14 : p14 ∉ S := notin hS B13 np14 hp14
      replace dA := dd_but hqS b14 dA
      replace dB := dd_but hqS b14 dB
      replace dC := dd_but hqS b14 dC
      replace dE := dd_but hqS b14 dE
      walk_at "rds"
      refine ⟨_, _, _, _, _, _, rfl, SqL.of ep14, Nat.zero_lt_succ _, lt_ok rfl, by omega, np14, D14, fun H15 l15 i15 v15 hl15 D15 b15 e15 => ?_⟩
      have pv15 := EachP.get (F := fun v => ∃ d, Dd K (hid S H14) v d ∧ Fit 4 40 d) (.cons ⟨_, .num _, (fit_int (by omega)).le (Nat.zero_le _) (by decide)⟩ (.cons ⟨_, .non, leaf_fit (by decide +kernel) (by decide +kernel) (by decide +kernel)⟩ (.cons ⟨_, .bl _, leaf_fit (by decide +kernel) (by decide +kernel) (by decide +kernel)⟩ (.cons ⟨_, .str _, leaf_fit (by decide +kernel) (by decide +kernel) (by decide +kernel)⟩ (.cons ⟨_, .str _, leaf_fit (by decide +kernel) (by decide +kernel) (by decide +kernel)⟩ (.cons ⟨_, dA, leaf_fit (by decide +kernel) (by decide +kernel) (by decide +kernel)⟩ (.cons ⟨_, dB, leaf_fit (by decide +kernel) (by decide +kernel) (by decide +kernel)⟩ (.cons ⟨_, dC, leaf_fit (by decide +kernel) (by decide +kernel) (by decide +kernel)⟩ (.cons ⟨_, dE, leaf_fit (by decide +kernel) (by decide +kernel) (by decide +kernel)⟩ (.cons ⟨_, .num _, leaf_fit (by decide +kernel) (by decide +kernel) (by decide +kernel)⟩ .nil)))))))))) e15
      have B15 := B14.trans b15
      replace dA := dd_but hqS b15 dA
      replace dB := dd_but hqS b15 dB
      replace dC := dd_but hqS b15 dC
      replace dE := dd_but hqS b15 dE
      replace ep14 := b15 _ _ np14 ep14
      obtain ⟨d, dv, fd⟩ := pv15
      exact k _ _ _ d (by have := lap_ge deep; omega) D15 B15 (dd_but hqS b15 dv) (fd.le (by omega) (cost_ge deep))
    rw [show decide (V.int (deep : Int) = V.int 0) = false from decide_eq_false (fun z => hz (by have := V.int.inj z; omega))]
    obtain ⟨m, rfl⟩ : ∃ m, deep = m + 1 := ⟨deep - 1, by omega⟩
    rw [lap_succ] at hlap
    walk_at "rds"
    refine ⟨_, _, _, _, _, rfl, by decide, by decide, by omega, D1, fun H2 l2 r2 hl2 D2 b2 m2 n2 => ?_⟩
    have B2 := B1.trans b2
    walk_at "rds"
    refine ⟨_, rfl, by omega, by omega, fun D hD => ?_⟩
    have nDq : D ≠ q := by
      intro e
      obtain ⟨_, ⟨_, z⟩, _⟩ := D2
      rw [e, z] at hD
      cases hD
    have ncD : c ≠ D := fun e => by
      have zz := D2.cells
      rw [e, hD] at zz
      cases zz
    have nDS : D ∉ S := notin hS B2 nDq hD
    refine lc_range (lo := 0) (n := (r2).toNat) (fun i G => ∃ (lp : Nat) (ys : List V) (ds : List PyData), lp ≤ l2 + i * lapN m ∧ Dr q c ns lp G ∧ But q H2 G ∧ G D = some (.lst ys) ∧ ys.length = i ∧ DdAll K (hid (D :: S) G) ys ds ∧ FitA (2 * m + 4) (i * (costN m + 2)) ds) ?_ ?_ ?_
    · refine ⟨l2, [], [], by omega, D2.neu hD, (But.refl _ _).neu hD, upd_same, rfl, .nil, FitA.nil⟩
    · rintro i G hi ⟨lp, ys, ds, hlp, DG, BG, eD, hys, hall, fall⟩
      have hi4 : i * lapN m ≤ 3 * lapN m := Nat.mul_le_mul_right _ (by omega)
      walk_at "rds"
      refine ⟨rfl, ?_⟩
      walk_at "rds"
      have ed : ((m + 1 : Nat) : Int) - 1 = (m : Int) := by omega
      rw [ed]
      have lv : ∀ b ∈ D :: S, G b ≠ none := fun b mm z => by
        rcases List.mem_cons.mp mm with e | mm
        · rw [e, eD] at z
          cases z
        · exact live_but hS (B2.trans BG) DG b mm z
      refine ⟨D :: S, q, c, ns, lp, m, rfl, List.mem_cons_of_mem _ hqS, lv, by omega, by omega, DG, fun G2 lp2 v d hl2 DG2 bG2 dv fv => ?_⟩
      have eD2 := bG2 _ _ nDq eD
      refine ⟨ys, eD2, small1000 (by omega), lp2, ys ++ [v], ds ++ [d], ?_, ?_, but_put rfl (BG.trans bG2) hD, upd_same, by simp [hys], ?_, ?_⟩
      · rw [Nat.succ_mul]
        omega
      · obtain ⟨ne, ⟨rest, z⟩, zc, zl⟩ := DG2
        exact ⟨ne, ⟨rest, by rw [upd_ne nDq.symm]; exact z⟩, by rw [upd_ne ncD]; exact zc, zl⟩
      · rw [hid_upd (List.mem_cons_self ..)]
        exact (dd_sameAll ((Keep.but bG2).sub fun b mm => by rw [List.mem_singleton.mp mm]; exact List.mem_cons_of_mem _ hqS).hid hall).append (.cons dv .nil)
      · rw [show (i + 1) * (costN m + 2) = i * (costN m + 2) + (costN m + 2) from Nat.succ_mul ..]
        exact fall.app fv
    rintro H60 ⟨lp, ys, ds, hlp, D60, b60, eD, hys, hall, fall⟩
    have hi4 : (r2).toNat * lapN m ≤ 3 * lapN m := Nat.mul_le_mul_right _ (by omega)
    have hc4 : (r2).toNat * (costN m + 2) ≤ 3 * (costN m + 2) := Nat.mul_le_mul_right _ (by omega)
    have hallS : DdAll K (hid S H60) ys ds := dd_sameAll (hid_less fun b mm => List.mem_cons_of_mem _ mm) hall
    replace fall := fall.le (Nat.le_refl _) hc4
    have B60 := B2.trans b60
    walk_at "rds"
    refine ite2 (fun _ => ?_) (fun _ => ?_)
    · walk_at "rds"
      refine k _ _ _ (.list ds) (by rw [lap_succ]; omega) D60 B60 (.lst (SqL.of ((hid_out nDS).trans eD)) hallS) ?_
      exact fall.list.le (by omega) (by rw [cost_succ]; omega)
    walk_at "rds"
    refine ⟨rfl, ?_⟩
    walk_at "rds"
    refine ite2 (fun _ => ?_) (fun _ => ?_)
    · walk_at "rds"
      refine ⟨_, _, rfl, .inl ⟨SqL.of eD, fun p hp => ?_⟩⟩
      generalize hG : upd H60 p _ = G
      obtain ⟨DG, BG, bG, np, ep⟩ := alloc hG D60 B60 hp
      have nsp := notin hS B60 np hp
      refine k _ _ _ (.tuple ds) (by rw [lap_succ]; omega) DG BG (.tup (SqT.of ((hid_out nsp).trans ep)) (dd_sameAll ((Keep.but bG).sub fun b mm => by rw [List.mem_singleton.mp mm]; exact hqS).hid hallS)) ?_
      exact fall.tuple.le (by omega) (by rw [cost_succ]; omega)
    · walk_at "rds"
      refine ⟨len_ok rfl, fun p hp => ?_⟩
      generalize hG : upd H60 p _ = G
      obtain ⟨DG, BG, bG, np, ep⟩ := alloc hG D60 B60 hp
      have nsp := notin hS B60 np hp
      have dl : Dd K (hid S G) (.ref D) (.list ds) := dd_but hqS bG (.lst (SqL.of ((hid_out nDS).trans eD)) hallS)
      refine k _ _ _ (.list [.list ds]) (by rw [lap_succ]; omega) DG BG (.lst (SqL.of ((hid_out nsp).trans ep)) (.cons dl .nil)) ?_
      exact (FitA.list (FitA.cons fall.list (FitA.nil (c := 0)))).le (by omega) (by rw [cost_succ]; omega)
theorem ok_LawNested {f : Addr} {fd : FuncData} (F : Fun K "_law_nested" "_law_nested" sLawNested f fd) (T : Txt K mg) (hM : HasMods base) {fLawPlait : Addr} {fdLawPlait : FuncData} (cLawPlait : Cal P w K mg base "_law_plait" 1 fLawPlait fdLawPlait ["hamper", "many"] spDraw) {fLawOf : Addr} {fdLawOf : FuncData} (cLawOf : Cal P w K mg base "_law_of" 2 fLawOf fdLawOf ["hamper", "some"] (spOf K)) (m : mg "_law_nested" = some (.ref f)) (kp : PySem.W.keepIn K (.ref f) = true) (b : Binds K fd ["hamper", "deep"] []) : ∀ n, FnG P w K mg base (n + 3) f fd ["hamper", "deep"] (spNest K n)
  | 0 => ⟨fun h => (by obtain ⟨S, q, c, ns, lap, deep, rfl, _⟩ := h; rfl), fun _ _ _ _ _ h => (by obtain ⟨_, _, _, _, _, _, _, _, _, z, _⟩ := h; exact absurd z (Nat.not_lt_zero _))⟩
  | n + 1 => step_LawNested F T hM cLawPlait cLawOf n ⟨ok_LawNested F T hM cLawPlait cLawOf m kp b n, m, kp, b⟩
end
end K04
namespace K04
open PySem PySem.Spec PyProof.Rows L2 Rp

section
variable {P : Program} {w : World} {K : PySem.W.Frag} {mg : Str → Option Value} {base : Heap}
abbrev sLaw : Stmt := top 8
theorem scLaw : FnScope ["script", "hamper", "turn", "value", "before", "due", "deep"] ["script"] (defScope sLaw) := ⟨rfl, rfl, rfl, by decide +kernel, rfl, by decide +kernel, by decide +kernel⟩
theorem ok_Law {f : Addr} {fd : FuncData} (F : Fun K "law" "law" sLaw f fd) (T : Txt K mg) (hM : HasMods base) {f0 : Addr} {fd0 : FuncData} (cLawHamper : Cal P w K mg base "_law_hamper" 1 f0 fd0 ["script"] (spBox K)) {f1 : Addr} {fd1 : FuncData} (cLawPlait : Cal P w K mg base "_law_plait" 1 f1 fd1 ["hamper", "many"] spDraw) {f2 : Addr} {fd2 : FuncData} (cLawNested : Cal P w K mg base "_law_nested" 8 f2 fd2 ["hamper", "deep"] (spNest K 5)) {f3 : Addr} {fd3 : FuncData} (cLawOwn : Cal P w K mg base "_law_own" 40 f3 fd3 ["value"] (spFix K 40)) {f4 : Addr} {fd4 : FuncData} (cFixed : Cal P w K mg base "fixed" 40 f4 fd4 ["value"] (spFix K 40)) (kFixed_value : KBx K fd4 ["value"] 0 ["value"] [0])  : FnG P w K mg base 41 f fd ["script"] (spLaw K) := by
  refine fng F scLaw (fun {vs H Q E} h => ?_) (fun {cdv A fr s H vs Q E} hg hr h => ?_)
  · obtain ⟨a, ns, rfl, hS, k⟩ := h
    rfl
  · obtain ⟨a, ns, rfl, hS, k⟩ := h
    refine ⟨_, (pss_cons (ps_set (i := 1) scLaw.nd rfl (Or.inl rfl) (pe_go cLawHamper hg (hr.mono (by decide)) (by rfl) (pa_cons (pv 0) pa_nil)))
  (pss_cons (ps_for PassesOwn.never rfl (pi_range1 (by rfl) T.z_range (pa_cons pe_int pa_nil)) (pg_name (i := 2) scLaw.nd rfl (Or.inl rfl))
  (pss_cons (ps_set (i := 3) scLaw.nd rfl (Or.inl rfl) (pe_lst (pa_cons (pe_go cLawNested hg (hr.mono (by decide)) (by rfl) (pa_cons (pv 1) (pa_cons pe_int pa_nil))) (pa_cons (pe_go cLawNested hg (hr.mono (by decide)) (by rfl) (pa_cons (pv 1) (pa_cons pe_int pa_nil))) pa_nil))))
  (pss_cons (ps_par (i := 4) (j := 5) (by rfl) scLaw.nd rfl rfl (by decide) rfl rfl (pa_cons (pe_callB (call_reprA hr hg hM) (by rfl) T.z_repr (by decide +kernel) (pa_cons (pv 3) pa_nil)) (pa_cons (pe_go cLawOwn hg (hr.mono (by decide)) (by rfl) (pa_cons (pv 3) pa_nil)) pa_nil)) (by rfl))
  (pss_cons (ps_if (PW.pt (pw_or (pt_cmpR op_ne (pe_callB (call_reprA hr hg hM) (by rfl) T.z_repr (by decide +kernel) (pa_cons (pe_go cFixed hg (hr.mono (by decide)) (by rfl) (pa_cons (pv 3) pa_nil)) pa_nil)) (pe_callB (call_reprA hr hg hM) (by rfl) T.z_repr (by decide +kernel) (pa_cons (pv 5) pa_nil)) (nomark _)) (pw_or (pt_cmpR op_ne (pe_callB (call_reprA hr hg hM) (by rfl) T.z_repr (by decide +kernel) (pa_cons (pe_kw0 cFixed kFixed_value hg (hr.mono (by decide)) (by rfl) (pk_cons (pe_callTy call_tuple_of (by rfl) T.z_tuple (by decide +kernel) (pa_cons (pv 3) pa_nil)) pk_nil)) pa_nil)) (pe_callB (call_reprA hr hg hM) (by rfl) T.z_repr (by decide +kernel) (pa_cons (pv 5) pa_nil)) (nomark _)) (pw_or (pt_cmpR op_ne (pe_callB (call_reprA hr hg hM) (by rfl) T.z_repr (by decide +kernel) (pa_cons (pv 3) pa_nil)) (pv 4) (nomark _)) (pw_or1 (pt_cmpR op_ne (pe_callB (call_reprA hr hg hM) (by rfl) T.z_repr (by decide +kernel) (pa_cons (pe_go cFixed hg (hr.mono (by decide)) (by rfl) (pa_cons (pv 5) pa_nil)) pa_nil)) (pe_callB (call_reprA hr hg hM) (by rfl) T.z_repr (by decide +kernel) (pa_cons (pv 5) pa_nil)) (nomark _)))))))
  (pss_one (ps_ret pe_bl))
  pss_nil)
  (pss_one (ps_if (pt_cmpR op_ne (pe_callB (call_reprA hr hg hM) (by rfl) T.z_repr (by decide +kernel) (pa_cons (pe_go cFixed hg (hr.mono (by decide)) (by rfl) (pa_cons (pe_ix ix_list (pv 3) pe_int (fun _ _ => rfl)) pa_nil)) pa_nil)) (pe_callB (call_reprA hr hg hM) (by rfl) T.z_repr (by decide +kernel) (pa_cons (pe_ix ix_tup (pv 5) pe_int (fun _ _ => rfl)) pa_nil)) (nomark _))
  (pss_one (ps_ret pe_bl))
  pss_nil))))))
  (pss_cons (ps_set (i := 6) scLaw.nd rfl (Or.inl rfl) (pe_go cLawPlait hg (hr.mono (by decide)) (by rfl) (pa_cons (pv 1) (pa_cons pe_int pa_nil))))
  (pss_cons (ps_for PassesOwn.never rfl (pi_range1 (by rfl) T.z_range (pa_cons pe_int pa_nil)) (pg_name (i := 2) scLaw.nd rfl (Or.inl rfl))
  (pss_one (ps_set (i := 6) scLaw.nd rfl (Or.inl rfl) (pe_ifExp (pt_cmpR op_eq (pe_go cLawPlait hg (hr.mono (by decide)) (by rfl) (pa_cons (pv 1) (pa_cons pe_int pa_nil))) pe_int (nomark _)) (pe_lst (pa_cons (pv 6) pa_nil)) (pe_tup (pa_cons (pv 6) pa_nil))))))
  (pss_one (ps_ret (pe_and (pe_cmpR op_eq (pe_callB (call_reprA hr hg hM) (by rfl) T.z_repr (by decide +kernel) (pa_cons (pe_go cFixed hg (hr.mono (by decide)) (by rfl) (pa_cons (pv 6) pa_nil)) pa_nil)) (pe_callB (call_reprA hr hg hM) (by rfl) T.z_repr (by decide +kernel) (pa_cons (pe_go cLawOwn hg (hr.mono (by decide)) (by rfl) (pa_cons (pv 6) pa_nil)) pa_nil)) (nomark _)) (pe_and (pe_cmpR op_eq (pe_go cFixed hg (hr.mono (by decide)) (by rfl) (pa_cons pe_str pa_nil)) pe_str (nomark _)) (pe_and (pe_cmpR op_isN (pe_go cFixed hg (hr.mono (by decide)) (by rfl) (pa_cons pe_non pa_nil)) pe_non (nomark _)) (pe_one (pe_cmpR op_eq (pe_callB (call_reprA hr hg hM) (by rfl) T.z_repr (by decide +kernel) (pa_cons (pe_go cFixed hg (hr.mono (by decide)) (by rfl) (pa_cons (pe_disp (pps_cons pe_int (pe_lst (pa_cons pe_int pa_nil)) pps_nil) (by rfl) (by rfl) (fun z => by cases z) (by decide)) pa_nil)) pa_nil)) pe_str (nomark _)))))))))))), ?_⟩
    refine r_start (l := [some (.ref a), none, none, none, none, none, none]) rfl ?_
    have l4 : lapN 4 = 1364 := rfl
    have l3 : lapN 3 = 340 := rfl
    have c4 : costN 4 = 11940 := rfl
    have c3 : costN 3 = 2980 := rfl
    walk_at "rds"
    refine ⟨a, ns, rfl, hS, fun H1 q c ns' D1 s1 nq => ?_⟩
    walk_at "rds"
    refine ⟨_, rfl, by decide, by decide, ?_⟩
    refine for_range (lo := 0) (n := 8) (fun i σ G => ∃ (x2 x3 x4 x5 x6 : Option V) (lp : Nat), σ = [some (.ref a), some (.ref q), x2, x3, x4, x5, x6] ∧ lp ≤ 1800 * i ∧ Dr q c ns' lp G) ⟨_, _, _, _, _, _, rfl, Nat.le_refl _, D1⟩ ?_ ?_
    · rintro i σ G hi ⟨x2, x3, x4, x5, x6, lp, rfl, hlp, DG⟩
      walk_at "rds"
      refine ⟨[q], q, c, ns', lp, 4, rfl, List.mem_singleton.mpr rfl, live_q DG, by decide, by omega, DG, fun G1 l1 v1 d1 hl1 E1 b1 dv1 f1 => ?_⟩
      walk_at "rds"
      refine ⟨[q], q, c, ns', l1, 3, rfl, List.mem_singleton.mpr rfl, live_q E1, by decide, by omega, E1, fun G2 l2 v2 d2 hl2 E2 b2 dv2 f2 => ?_⟩
      replace dv1 := dd_but (List.mem_singleton.mpr rfl) b2 dv1
      walk_at "rds"
      refine ⟨len_ok rfl, fun p hp => ?_⟩
      generalize hG : upd G2 p _ = G3
      obtain ⟨E3, _, b3, np, ep⟩ := alloc hG E2 (But.refl _ _) hp
      clear hG
      have ns : p ∉ [q] := fun m => np (List.mem_singleton.mp m)
      replace dv1 := dd_but (List.mem_singleton.mpr rfl) b3 dv1
      replace dv2 := dd_but (List.mem_singleton.mpr rfl) b3 dv2
      have dL : Dd K (hid [q] G3) (.ref p) (.list [d1, d2]) := .lst (SqL.of ((hid_out ns).trans ep)) (.cons dv1 (.cons dv2 .nil))
      have fA : FitA 12 15000 [d1, d2] := (FitA.cons f1 (FitA.cons (f2.le (m := 12) (by decide) (Nat.le_refl _)) (FitA.nil (c := 0)))).le (Nat.le_refl _) (by omega)
      have fL : Fit 13 15003 (.list [d1, d2]) := fA.list.le (Nat.le_refl _) (by decide)
      have fT : Fit 13 15003 (.tuple [d1, d2]) := fA.tuple.le (Nat.le_refl _) (by decide)
      have big : ∀ {d}, Fit 13 15003 d → Fit 64 15000000 d := fun f => f.le (by decide) (by decide)
      have dpt : ∀ {d}, Fit 13 15003 d → d.depth < 40 := fun f => Nat.lt_of_le_of_lt f.dp (by decide)
      have cst : ∀ {d}, Fit 13 15003 d → cost d ≤ 15000000 := fun f => Nat.le_trans f.co (by decide)
      have ft : fixD (.tuple [d1, d2]) = fixD (.list [d1, d2]) := by simp only [fixD]
      walk_at "rds"
      refine r_reprA (dd_same hid_up dL) (big fL) ?_
      walk_at "rds"
      refine ⟨[q], _, _, rfl, live_q E3, dL, dpt fL, cst fL, fun G4 v4 s4 dv4 => ?_⟩
      have E4 := E3.same s4
      replace dL := dd_same (Keep.of s4).hid dL
      replace dv1 := dd_same (Keep.of s4).hid dv1
      replace dv2 := dd_same (Keep.of s4).hid dv2
      replace ep := s4 _ _ ep
      walk_at "rds"
      refine ⟨_, _, rfl, ?_⟩
      walk_at "rds"
      refine ⟨[q], _, _, rfl, live_q E4, dL, dpt fL, cst fL, fun G5 v5 s5 dv5 => ?_⟩
      have E5 := E4.same s5
      replace dL := dd_same (Keep.of s5).hid dL
      replace dv1 := dd_same (Keep.of s5).hid dv1
      replace dv2 := dd_same (Keep.of s5).hid dv2
      replace dv4 := dd_same (Keep.of s5).hid dv4
      replace ep := s5 _ _ ep
      walk_at "rds"
      refine r_reprA (dd_same hid_up dv5) (big fL.fix) ?_
      walk_at "rds"
      refine r_reprA (dd_same hid_up dv4) (big fL.fix) ?_
      walk_at "rds"
      refine r_ne_same ?_
      walk_at "rds"
      refine ⟨_, _, rfl, .inl ⟨SqL.of ep, fun p2 hp2 => ?_⟩⟩
      generalize hG : upd G5 p2 _ = G6
      obtain ⟨E6, _, b6, np2, ep2⟩ := alloc hG E5 (But.refl _ _) hp2
      clear hG
      have ns2 : p2 ∉ [q] := fun m => np2 (List.mem_singleton.mp m)
      replace dL := dd_but (List.mem_singleton.mpr rfl) b6 dL
      replace dv4 := dd_but (List.mem_singleton.mpr rfl) b6 dv4
      replace dv1 := dd_but (List.mem_singleton.mpr rfl) b6 dv1
      replace dv2 := dd_but (List.mem_singleton.mpr rfl) b6 dv2
      replace ep := b6 _ _ np ep
      have dT : Dd K (hid [q] G6) (.ref p2) (.tuple [d1, d2]) := .tup (SqT.of ((hid_out ns2).trans ep2)) (.cons dv1 (.cons dv2 .nil))
      walk_at "rds"
      refine ⟨rfl, rfl, [q], _, _, rfl, live_q E6, dT, dpt fT, cst fT, fun G7 v7 s7 dv7 => ?_⟩
      have E7 := E6.same s7
      replace dL := dd_same (Keep.of s7).hid dL
      replace dv4 := dd_same (Keep.of s7).hid dv4
      replace dv1 := dd_same (Keep.of s7).hid dv1
      replace ep := s7 _ _ ep
      rw [ft] at dv7
      walk_at "rds"
      refine r_reprA (dd_same hid_up dv7) (big fL.fix) ?_
      walk_at "rds"
      refine r_reprA (dd_same hid_up dv4) (big fL.fix) ?_
      walk_at "rds"
      refine r_ne_same ?_
      walk_at "rds"
      refine r_reprA (dd_same hid_up dL) (big fL) ?_
      walk_at "rds"
      refine r_ne_same ?_
      walk_at "rds"
      refine ⟨[q], _, _, rfl, live_q E7, dv4, dpt fL.fix, cst fL.fix, fun G8 v8 s8 dv8 => ?_⟩
      have E8 := E7.same s8
      replace dv4 := dd_same (Keep.of s8).hid dv4
      replace dv1 := dd_same (Keep.of s8).hid dv1
      replace ep := s8 _ _ ep
      rw [fix_fix] at dv8
      walk_at "rds"
      refine r_reprA (dd_same hid_up dv8) (big fL.fix) ?_
      walk_at "rds"
      refine r_reprA (dd_same hid_up dv4) (big fL.fix) ?_
      walk_at "rds"
      refine r_ne_same ?_
      walk_at "rds"
      refine r_ixL (SqL.of ep) rfl ?_
      walk_at "rds"
      have f1' : Fit 13 15003 d1 := f1.le (by decide) (by omega)
      refine ⟨[q], _, _, rfl, live_q E8, dv1, dpt f1', cst f1', fun G9 v9 s9 dv9 => ?_⟩
      have E9 := E8.same s9
      replace dv4 := dd_same hid_up (dd_same (Keep.of s9).hid dv4)
      walk_at "rds"
      refine r_reprA (dd_same hid_up dv9) (big f1'.fix) ?_
      simp only [fixD, fixAll] at dv4
      cases dv4 with
      | tup e h =>
        cases h with
        | cons h1 t1 =>
          cases t1 with
          | cons h2 t2 =>
            cases t2
            walk_at "rds"
            refine r_ixT e rfl ?_
            walk_at "rds"
            refine r_reprA h1 (big f1'.fix) ?_
            walk_at "rds"
            refine r_ne_same ?_
            walk_at "rds"
            exact ⟨_, _, _, _, _, l2, rfl, by omega, E9⟩
    rintro σ G ⟨x2, x3, x4, x5, x6, lp, rfl, hlp, DG⟩
    walk_at "rds"
    refine ⟨_, _, _, _, _, rfl, by decide, by decide, by omega, DG, fun G1 l1 r hl1 E1 b1 r0 r1 => ?_⟩
    walk_at "rds"
    refine ⟨_, rfl, by decide, by decide, ?_⟩
    refine for_range (lo := 0) (n := 29) (fun i σ G => ∃ (x2 : Option V) (v : V) (d : PyData) (lp : Nat), σ = [some (.ref a), some (.ref q), x2, x3, x4, x5, some v] ∧ lp ≤ 14500 + i ∧ Dr q c ns' lp G ∧ Dd K (hid [q] G) v d ∧ Fit i (13 + 5 * i) d) ⟨_, _, _, _, rfl, by omega, E1, .num _, fit_int (by omega)⟩ ?_ ?_
    · rintro i σ G hi ⟨x2, v, d, lp, rfl, hlp, DG, dv, fv⟩
      walk_at "rds"
      refine ⟨_, _, _, _, _, rfl, by decide, by decide, by omega, DG, fun G1 l1 r hl1 E1 b1 r0 r1 => ?_⟩
      replace dv := dd_but (List.mem_singleton.mpr rfl) b1 dv
      walk_at "rds"
      refine ⟨rfl, ?_⟩
      walk_at "rds"
      refine ite2 (fun _ => ?_) (fun _ => ?_)
      · walk_at "rds"
        refine ⟨len_ok rfl, fun p hp => ?_⟩
        generalize hG : upd G1 p _ = G3
        obtain ⟨E3, _, b3, np, ep⟩ := alloc hG E1 (But.refl _ _) hp
        have ns : p ∉ [q] := fun m => np (List.mem_singleton.mp m)
        walk_at "rds"
        exact ⟨_, _, _, l1, rfl, by omega, E3, .lst (SqL.of ((hid_out ns).trans ep)) (.cons (dd_but (List.mem_singleton.mpr rfl) b3 dv) .nil), (FitA.list (FitA.cons fv (FitA.nil (c := 0)))).le (by omega) (by omega)⟩
      · walk_at "rds"
        refine ⟨len_ok rfl, fun p hp => ?_⟩
        generalize hG : upd G1 p _ = G3
        obtain ⟨E3, _, b3, np, ep⟩ := alloc hG E1 (But.refl _ _) hp
        have ns : p ∉ [q] := fun m => np (List.mem_singleton.mp m)
        walk_at "rds"
        exact ⟨_, _, _, l1, rfl, by omega, E3, .tup (SqT.of ((hid_out ns).trans ep)) (.cons (dd_but (List.mem_singleton.mpr rfl) b3 dv) .nil), (FitA.tuple (FitA.cons fv (FitA.nil (c := 0)))).le (by omega) (by omega)⟩
    rintro σ G ⟨x2, v, d, lp, rfl, hlp, DG, dv, fv⟩
    have fb : Fit 64 15000000 d := fv.le (by decide) (by decide)
    have fd : d.depth < 40 := Nat.lt_of_le_of_lt fv.dp (by decide)
    have fc : cost d ≤ 15000000 := Nat.le_trans fv.co (by decide)
    walk_at "rds"
    refine ⟨[q], _, _, rfl, live_q DG, dv, fd, fc, fun G1 v1 s1 dv1 => ?_⟩
    have E1 := DG.same s1
    replace dv := dd_same (Keep.of s1).hid dv
    walk_at "rds"
    refine r_reprA (dd_same hid_up dv1) fb.fix ?_
    walk_at "rds"
    refine ⟨[q], _, _, rfl, live_q E1, dv, fd, fc, fun G2 v2 s2 dv2 => ?_⟩
    have E2 := E1.same s2
    walk_at "rds"
    refine r_reprA (dd_same hid_up dv2) fb.fix ?_
    walk_at "rds"
    refine r_eq_same ?_
    walk_at "rds"
    refine ⟨[q], _, _, rfl, live_q E2, .str _, by simp only [PyData.depth]; decide, (show cost (.str ("over" : Str)) ≤ 15000000 by decide +kernel), fun G3 v3 s3 dv3 => ?_⟩
    have E3 := E2.same s3
    simp only [fixD] at dv3
    cases dv3
    walk_at "rds"
    refine r_eq_same ?_
    walk_at "rds"
    refine ⟨[q], _, _, rfl, live_q E3, .non, by simp only [PyData.depth]; decide, (show cost .none ≤ 15000000 by decide +kernel), fun G4 v4 s4 dv4 => ?_⟩
    have E4 := E3.same s4
    simp only [fixD] at dv4
    cases dv4
    walk_at "rds"
    refine ⟨rfl, ?_⟩
    walk_at "T"
    intro p hp
    generalize hG : upd G4 p _ = G5
    obtain ⟨E5, _, b5, np, ep⟩ := alloc hG E4 (But.refl _ _) hp
    clear hG
    walk_at "rds"
    refine ⟨len_ok rfl, fun p2 hp2 => ?_⟩
    generalize hG : upd G5 p2 _ = G6
    obtain ⟨E6, _, b6, np2, ep2⟩ := alloc hG E5 (But.refl _ _) hp2
    clear hG
    replace ep := b6 _ _ np ep
    walk_at "rds"
    refine ⟨ep, [(Sum.inl 1, .ref p2)], rfl, le_ok rfl, ?_⟩
    generalize hG : upd G6 p _ = G7
    obtain ⟨E7, ed⟩ := stored hG E6 np ep (fun _ z => by cases z)
    replace ep2 := (at_put hG (ne_of ep2 ep (fun z => by cases z))).trans ep2
    clear hG
    have ns : p ∉ [q] := fun m => np (List.mem_singleton.mp m)
    have ns2 : p2 ∉ [q] := fun m => np2 (List.mem_singleton.mp m)
    have dD : Dd K (hid [q] G7) (.ref p) (.dict [(.int 1, .list [.int 2])]) := .dic ((hid_out ns).trans ed) (.cons (.lst (SqL.of ((hid_out ns2).trans ep2)) (.cons (.num 2) .nil)) .nil)
    have fD : Fit 4 40 (.dict [(.int 1, .list [.int 2])]) := leaf_fit (by decide +kernel) (by decide +kernel) (by decide +kernel)
    walk_at "rds"
    refine ⟨[q], _, _, rfl, live_q E7, dD, Nat.lt_of_le_of_lt fD.dp (by decide), Nat.le_trans fD.co (by decide), fun G8 v8 s8 dv8 => ?_⟩
    simp only [fixD] at dv8
    walk_at "rds"
    refine r_reprA (dd_same hid_up dv8) (fD.le (by decide) (by decide)) ?_
    have es : (PyData.dict [(.int 1, .list [.int 2])]).shown = ("{1: [2]}" : Str) := by decide +kernel
    rw [es]
    walk_at "rds"
    refine r_eq_same ?_
    exact k _
end
end K04
namespace K04
open PySem PySem.Spec PyProof.Rows L2 Rp
theorem all_mk {l : PySem.W.OpenLaw} {w : World} {K : PySem.W.Frag} {h : Heap} {mg : Str → Option Value} {fa : Addr} (X : K.In h) (G : h.Ns mainGlobals mg) (hfa : mg "law" = some (.ref fa))
    {f0 : Addr} {od0 an0 : Option Addr} {sl0 : Array (Option Value)} {oc0 kV0 dc0 pm0 cd0 ct0 : Value}
    {f1 : Addr} {od1 an1 : Option Addr} {sl1 : Array (Option Value)} {oc1 kV1 dc1 pm1 cd1 ct1 : Value}
    {f2 : Addr} {od2 an2 : Option Addr} {sl2 : Array (Option Value)} {oc2 kV2 dc2 pm2 cd2 ct2 : Value}
    {f3 : Addr} {od3 an3 : Option Addr} {sl3 : Array (Option Value)} {oc3 kV3 dc3 pm3 cd3 ct3 : Value}
    {f4 : Addr} {od4 an4 : Option Addr} {sl4 : Array (Option Value)} {oc4 kV4 dc4 pm4 cd4 ct4 : Value}
    {f5 : Addr} {od5 an5 : Option Addr} {sl5 : Array (Option Value)} {oc5 kV5 dc5 pm5 cd5 ct5 : Value}
    {f6 : Addr} {od6 an6 : Option Addr} {sl6 : Array (Option Value)} {oc6 kV6 dc6 pm6 cd6 ct6 : Value}
    (a0 : PySem.W.nsIn K mainGlobals "fixed" = some (some (.ref f0))) (l0 : K.lookup f0 = some ⟨oc0, od0, .func (PySem.W.fnOf "fixed" "fixed" (defArgs sFixed) (defBody sFixed) (defScope sFixed) .none kV0 dc0 pm0 an0 cd0 ct0), sl0⟩) (c0 : PySem.W.codeIn K cd0 "fixed" = true) (k0 : PySem.W.keepIn K (.ref f0) = true)
    (a1 : PySem.W.nsIn K mainGlobals "_law_hamper" = some (some (.ref f1))) (l1 : K.lookup f1 = some ⟨oc1, od1, .func (PySem.W.fnOf "_law_hamper" "_law_hamper" (defArgs sLawHamper) (defBody sLawHamper) (defScope sLawHamper) .none kV1 dc1 pm1 an1 cd1 ct1), sl1⟩) (c1 : PySem.W.codeIn K cd1 "_law_hamper" = true) (k1 : PySem.W.keepIn K (.ref f1) = true)
    (a2 : PySem.W.nsIn K mainGlobals "_law_plait" = some (some (.ref f2))) (l2 : K.lookup f2 = some ⟨oc2, od2, .func (PySem.W.fnOf "_law_plait" "_law_plait" (defArgs sLawPlait) (defBody sLawPlait) (defScope sLawPlait) .none kV2 dc2 pm2 an2 cd2 ct2), sl2⟩) (c2 : PySem.W.codeIn K cd2 "_law_plait" = true) (k2 : PySem.W.keepIn K (.ref f2) = true)
    (a3 : PySem.W.nsIn K mainGlobals "_law_of" = some (some (.ref f3))) (l3 : K.lookup f3 = some ⟨oc3, od3, .func (PySem.W.fnOf "_law_of" "_law_of" (defArgs sLawOf) (defBody sLawOf) (defScope sLawOf) .none kV3 dc3 pm3 an3 cd3 ct3), sl3⟩) (c3 : PySem.W.codeIn K cd3 "_law_of" = true) (k3 : PySem.W.keepIn K (.ref f3) = true)
    (a4 : PySem.W.nsIn K mainGlobals "_law_nested" = some (some (.ref f4))) (l4 : K.lookup f4 = some ⟨oc4, od4, .func (PySem.W.fnOf "_law_nested" "_law_nested" (defArgs sLawNested) (defBody sLawNested) (defScope sLawNested) .none kV4 dc4 pm4 an4 cd4 ct4), sl4⟩) (c4 : PySem.W.codeIn K cd4 "_law_nested" = true) (k4 : PySem.W.keepIn K (.ref f4) = true)
    (a5 : PySem.W.nsIn K mainGlobals "_law_own" = some (some (.ref f5))) (l5 : K.lookup f5 = some ⟨oc5, od5, .func (PySem.W.fnOf "_law_own" "_law_own" (defArgs sLawOwn) (defBody sLawOwn) (defScope sLawOwn) .none kV5 dc5 pm5 an5 cd5 ct5), sl5⟩) (c5 : PySem.W.codeIn K cd5 "_law_own" = true) (k5 : PySem.W.keepIn K (.ref f5) = true)
    (a6 : PySem.W.nsIn K mainGlobals "law" = some (some (.ref f6))) (l6 : K.lookup f6 = some ⟨oc6, od6, .func (PySem.W.fnOf "law" "law" (defArgs sLaw) (defBody sLaw) (defScope sLaw) .none kV6 dc6 pm6 an6 cd6 ct6), sl6⟩) (c6 : PySem.W.codeIn K cd6 "law" = true) (k6 : PySem.W.keepIn K (.ref f6) = true)
    (z_abs : PySem.W.nsIn K mainGlobals "abs" = some none)
    (z_int : PySem.W.nsIn K mainGlobals "int" = some none)
    (z_isinstance : PySem.W.nsIn K mainGlobals "isinstance" = some none)
    (z_len : PySem.W.nsIn K mainGlobals "len" = some none)
    (z_list : PySem.W.nsIn K mainGlobals "list" = some none)
    (z_range : PySem.W.nsIn K mainGlobals "range" = some none)
    (z_repr : PySem.W.nsIn K mainGlobals "repr" = some none)
    (z_tuple : PySem.W.nsIn K mainGlobals "tuple" = some none) :
    ∃ fd : FuncData, (∀ (t : Shared) (v : Value), BindsTo t fd ⟨[v], []⟩ [("script", v)]) ∧ ∀ base : Heap, K.In base → base.Ns mainGlobals mg → HasMods base → FnG l.prog w K mg base 41 fa fd ["script"] (spLaw K) := by
  have e := hfa.symm.trans (PySem.W.mg_of X G a6)
  cases e
  have T : Txt K mg  := ⟨PySem.W.mg_none_of X G z_abs, PySem.W.mg_none_of X G z_int, PySem.W.mg_none_of X G z_isinstance, PySem.W.mg_none_of X G z_len, PySem.W.mg_none_of X G z_list, PySem.W.mg_none_of X G z_range, PySem.W.mg_none_of X G z_repr, PySem.W.mg_none_of X G z_tuple⟩
  have F0 := fun_mk (st := sFixed) l0 c0 k0
  have b0 := F0.binds (ps := ["value"]) fun _ _ _ _ _ _ us hl => match us, hl with | [_], _ => rfl
  have kFixed_value : KBx K _ ["value"] 0 ["value"] [0] := kb_of F0 fun _ _ _ _ _ _ us ws h1 h2 => match us, ws, h1, h2 with | [], [_], _, _ => rfl
  have F1 := fun_mk (st := sLawHamper) l1 c1 k1
  have b1 := F1.binds (ps := ["script"]) fun _ _ _ _ _ _ us hl => match us, hl with | [_], _ => rfl
  have F2 := fun_mk (st := sLawPlait) l2 c2 k2
  have b2 := F2.binds (ps := ["hamper", "many"]) fun _ _ _ _ _ _ us hl => match us, hl with | [_, _], _ => rfl
  have F3 := fun_mk (st := sLawOf) l3 c3 k3
  have b3 := F3.binds (ps := ["hamper", "some"]) fun _ _ _ _ _ _ us hl => match us, hl with | [_, _], _ => rfl
  have F4 := fun_mk (st := sLawNested) l4 c4 k4
  have b4 := F4.binds (ps := ["hamper", "deep"]) fun _ _ _ _ _ _ us hl => match us, hl with | [_, _], _ => rfl
  have F5 := fun_mk (st := sLawOwn) l5 c5 k5
  have b5 := F5.binds (ps := ["value"]) fun _ _ _ _ _ _ us hl => match us, hl with | [_], _ => rfl
  have F6 := fun_mk (st := sLaw) l6 c6 k6
  have b6 := F6.binds (ps := ["script"]) fun _ _ _ _ _ _ us hl => match us, hl with | [_], _ => rfl
  refine ⟨PySem.W.fnOf "law" "law" (defArgs sLaw) (defBody sLaw) (defScope sLaw) .none kV6 dc6 pm6 an6 cd6 ct6, fun t v => .of_eq rfl, fun base kin gl hM => ?_⟩
  have cLawHamper : Cal l.prog w K mg base "_law_hamper" 1 f1 _ ["script"] (spBox K) := ⟨ok_LawHamper F1 T hM , PySem.W.mg_of X G a1, k1, b1⟩
  have cLawPlait : Cal l.prog w K mg base "_law_plait" 1 f2 _ ["hamper", "many"] spDraw := ⟨ok_LawPlait F2 T hM , PySem.W.mg_of X G a2, k2, b2⟩
  have cLawOf : Cal l.prog w K mg base "_law_of" 2 f3 _ ["hamper", "some"] (spOf K) := ⟨ok_LawOf F3 T hM cLawPlait, PySem.W.mg_of X G a3, k3, b3⟩
  have cLawNested : Cal l.prog w K mg base "_law_nested" 8 f4 _ ["hamper", "deep"] (spNest K 5) := ⟨ok_LawNested F4 T hM cLawPlait cLawOf (PySem.W.mg_of X G a4) k4 b4 5, PySem.W.mg_of X G a4, k4, b4⟩
  have cFixed : Cal l.prog w K mg base "fixed" 40 f0 _ ["value"] (spFix K 40) := ⟨ok_Fixed F0 T hM (PySem.W.mg_of X G a0) k0 b0 40, PySem.W.mg_of X G a0, k0, b0⟩
  have cLawOwn : Cal l.prog w K mg base "_law_own" 40 f5 _ ["value"] (spFix K 40) := ⟨ok_LawOwn F5 T hM (PySem.W.mg_of X G a5) k5 b5 40, PySem.W.mg_of X G a5, k5, b5⟩
  exact ok_Law F6 T hM cLawHamper cLawPlait cLawNested cLawOwn cFixed kFixed_value
theorem walk {l : PySem.W.OpenLaw} {q : Program} {loose : List Str} {XP : (Str → Option Value) → Heap → Prop} {YP : World → Heap → Prop} {d : DefRec} {K : Params → PySem.W.Frag} (none : importsNone q = true) (hn : l.most = some 63) (hdf : d.params.defaults = [])
    (hY : ∀ (w : World) (h : Heap), YP w h → (K w.params).In h)
    (F : ∀ (w : World) (mg : Str → Option Value) (fa : Addr) (h : Heap), (K w.params).In h → h.Ns mainGlobals mg → mg d.name = some (.ref fa) →
      ∃ fd : FuncData, (∀ (t : Shared) (u : Value), BindsTo t fd ⟨[u], []⟩ [("script", u)]) ∧ ∀ base : Heap, (K w.params).In base → base.Ns mainGlobals mg → HasMods base → FnG l.prog w (K w.params) mg base 41 fa fd ["script"] (spLaw (K w.params))) :
    PySem.W.WalkO q loose XP YP l.row.toRowW d [] (fun f vs => PySem.call f vs) :=
  Rp.walk_G (n := 63) (k := 41) (x := "script") (sp := spLaw) none hn (by decide) hdf ⟨rfl, by decide, by decide⟩ hY F (fun _ _ a ns _ hS => ⟨a, ns, rfl, hS, fun _ => rfl⟩)
end K04
open PySem PySem.W PyProof.Rows in
set_option maxRecDepth 100000 in
set_option maxHeartbeats 0 in
theorem PySem.Challenge.cw_ropesays_k04_lists_and_tuples_all_the_wa_holds : PySem.Challenge.rw_ropesays_k04_lists_and_tuples_all_the_wa.Holds := by
  w_on; o_law; k_head; (case hw => w_witness2)
  k_fill
  refine K04.walk (l := PySem.Challenge.rw_ropesays_k04_lists_and_tuples_all_the_wa) (by decide +kernel) rfl rfl (fun w h Y => PySem.W.kIn_of Y) ?F
  case F =>
    intro w mg fa h KX G hmg
    refine' K04.all_mk KX G hmg ?a0 ?l0 ?c0 ?k0 ?a1 ?l1 ?c1 ?k1 ?a2 ?l2 ?c2 ?k2 ?a3 ?l3 ?c3 ?k3 ?a4 ?l4 ?c4 ?k4 ?a5 ?l5 ?c5 ?k5 ?a6 ?l6 ?c6 ?k6 ?z_abs ?z_int ?z_isinstance ?z_len ?z_list ?z_range ?z_repr ?z_tuple
    (case a0 => k_is)
    (case l0 => k_is)
    (case c0 => k_is)
    (case k0 => k_is)
    (case a1 => k_is)
    (case l1 => k_is)
    (case c1 => k_is)
    (case k1 => k_is)
    (case a2 => k_is)
    (case l2 => k_is)
    (case c2 => k_is)
    (case k2 => k_is)
    (case a3 => k_is)
    (case l3 => k_is)
    (case c3 => k_is)
    (case k3 => k_is)
    (case a4 => k_is)
    (case l4 => k_is)
    (case c4 => k_is)
    (case k4 => k_is)
    (case a5 => k_is)
    (case l5 => k_is)
    (case c5 => k_is)
    (case k5 => k_is)
    (case a6 => k_is)
    (case l6 => k_is)
    (case c6 => k_is)
    (case k6 => k_is)
    (case z_abs => k_is)
    (case z_int => k_is)
    (case z_isinstance => k_is)
    (case z_len => k_is)
    (case z_list => k_is)
    (case z_range => k_is)
    (case z_repr => k_is)
    (case z_tuple => k_is)
