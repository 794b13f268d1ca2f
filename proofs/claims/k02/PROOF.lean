import PyProof.Rows.All
import Wide.All
import OpenK.AllK
import Wide.FinOn
import HandS.Base
import HandS.Call
import HandS.List
import HandS.Comp
import HandS.Ends
import HandS.Dict
import HandS.Iter
import HandS.Text
import HandS.Words
import HandS.IsInst
import HandS.TupAny
import PySem.Challenge.RW_ropesays_k02_integers_clocks_and_rows
set_option Elab.async false
set_option linter.all false
set_option maxRecDepth 100000
set_option maxHeartbeats 4000000
namespace Rp
open PySem PySem.Spec PyProof.Rows L2

/-! ### readings, a step each -/
section
variable {t u : TS} {D : Ends} {σ : L2.St} {H : Hp} {Q : VK} {v x y : V} {ta tb te : TE} {r : R2} {i j : Int} {g : Int → Int → V} {tt tt' : TT} {tl tr : TA}
theorem r_start {N : List Str} {vs : List V} {l : L2.St} (e : L2.start N vs = l) (h : t D l H) : t D (L2.start N vs) H := e ▸ h
theorem r_seq (h : t { D with nx := u D } σ H) : tSeq t u D σ H := h
/-- the ways meet: M -/
theorem r_cut (M : L2.St → Hp → Prop) (hu : ∀ σ H, M σ H → u D σ H) (h : (∀ σ H, M σ H → u D σ H) → t { D with nx := u D } σ H) : tSeq t u D σ H := h hu
theorem r_next (h : D.nx σ H) : tNext D σ H := h
theorem r_drop (h : te σ H fun _ H1 => D.nx σ H1) : tDrop te D σ H := h
theorem r_var {k : Nat} (h : σ[k]? = some (some v)) (q : Q v H) : tVar k σ H Q := ⟨v, h, q⟩
theorem r_varE {k : Nat} (h : ∃ v, σ[k]? = some (some v) ∧ Q v H) : tVar k σ H Q := h
theorem r_c (q : Q v H) : tC v σ H Q := q
theorem r_op (h : ta σ H fun x H1 => tb σ H1 fun y H2 => r x y H2 Q) : tOp r ta tb σ H Q := h
theorem r_I0 (q : Q (g i j) H) : rI0 g (.int i) (.int j) H Q := ⟨i, j, rfl, rfl, q⟩
theorem r_I {C : Int → Int → Prop} (c : C i j) (q : Q (g i j) H) : rI C g (.int i) (.int j) H Q := ⟨i, j, rfl, rfl, c, q⟩
theorem r_test {Q : Bool → Hp → Prop} (h : te σ H fun x H' => ∃ k, x = .bl k ∧ Q k H') : tTest te σ H Q := h
theorem r_tb {Q : Bool → Hp → Prop} (h : te σ H fun x H' => ∃ k, x = .bl k ∧ Q k H') : tB te σ H Q := h
theorem r_bl {k : Bool} {P : Bool → Prop} (q : P k) : ∃ k', V.bl k = .bl k' ∧ P k' := ⟨k, rfl, q⟩
theorem r_if (h : tt σ H fun b H1 => if b = true then t D σ H1 else u D σ H1) : tIfS tt t u D σ H := h
theorem r_not {Q : Bool → Hp → Prop} (h : tt σ H fun c H1 => Q (!c) H1) : tNot tt σ H Q := h
theorem r_and {Q : Bool → Hp → Prop} (h : tt σ H fun c H1 => if c = true then tt' σ H1 Q else Q false H1) : tAnd tt tt' σ H Q := h
theorem r_or {Q : Bool → Hp → Prop} (h : tt σ H fun c H1 => if c = true then Q true H1 else tt' σ H1 Q) : tOr tt tt' σ H Q := h
theorem r_andV (h : ta σ H fun x H1 => ∃ c, x = .bl c ∧ if c = true then tb σ H1 Q else Q (.bl false) H1) : tAndV ta tb σ H Q := h
theorem r_orV (h : ta σ H fun x H1 => ∃ c, x = .bl c ∧ if c = true then Q (.bl true) H1 else tb σ H1 Q) : tOrV ta tb σ H Q := h
theorem r_notV (h : ta σ H fun x H1 => ∃ c, x = .bl c ∧ Q (.bl (!c)) H1) : tNotV ta σ H Q := h
theorem r_ifx (h : tt σ H fun c H1 => if c = true then ta σ H1 Q else tb σ H1 Q) : tIf tt ta tb σ H Q := h
theorem r_asg {g : TG} (h : te σ H fun x H1 => g x σ H1 D.nx) : tAsg te g D σ H := h
theorem r_gname {k : Nat} {Q : L2.St → Hp → Prop} (h : Q (List.set σ k (some v)) H) : gName k v σ H Q := h
theorem r_gsub {to ti : TE} {ts : TSet} {Q : L2.St → Hp → Prop} (h : to σ H fun o H1 => ti σ H1 fun i H2 => ts o i v H2 fun H3 => Q σ H3) : gSub to ti ts v σ H Q := h
theorem r_ret (h : te σ H D.rt) : tRet te D σ H := h
theorem r_cb {r : List V → Hp → VK → Prop} (h : tl σ H fun vs H1 => r vs H1 Q) : tCB r tl σ H Q := h
theorem r_cons {Q : List V → Hp → Prop} (h : ta σ H fun x H1 => tr σ H1 fun xs H2 => Q (x :: xs) H2) : tCons ta tr σ H Q := h
theorem r_nil {Q : List V → Hp → Prop} (h : Q [] H) : tNil σ H Q := h
theorem r_ixL {K : PySem.W.Frag} {p : Addr} {xs : List V} (hs : SqL K H p xs) (ha : atI xs i = some v) (q : Q v H) : rIxL K (.ref p) (.int i) H Q := ⟨p, xs, i, v, rfl, rfl, hs, ha, q⟩
theorem r_setL {p : Addr} {xs : List V} {k : Nat} {Q : Hp → Prop} (hs : H p = some (.lst xs)) (hi : ixN xs.length i = some k) (q : Q (upd H p (.lst (xs.set k v)))) : rSetL (.ref p) (.int i) v H Q := ⟨p, xs, i, k, rfl, rfl, hs, hi, q⟩
theorem r_sl {r : V → Option Int → Option Int → Hp → VK → Prop} {tlo thi : TO} (h : te σ H fun x H1 => tlo σ H1 fun l H2 => thi σ H2 fun u H3 => r x l u H3 Q) : tSl r te tlo thi σ H Q := h
theorem r_pnone {Q : Option Int → Hp → Prop} (h : Q none H) : tNoPart σ H Q := h
theorem r_pint {Q : Option Int → Hp → Prop} (h : te σ H fun x H1 => ∃ i, x = .int i ∧ Q (some i) H1) : tPart te σ H Q := h
theorem r_un {ru : V → Hp → VK → Prop} (h : ta σ H fun x H1 => ru x H1 Q) : tUn ru ta σ H Q := h
theorem r_lst (h : tl σ H fun xs H1 => xs.length ≤ sizeLine ∧ ∀ p, H1 p = none → Q (.ref p) (upd H1 p (.lst xs))) : tLst tl σ H Q := h
theorem r_tup (h : tl σ H fun xs H1 => xs.length ≤ sizeLine ∧ ∀ p, H1 p = none → Q (.ref p) (upd H1 p (.tup xs))) : tTup tl σ H Q := h
theorem len_ok {n : Nat} (h : Nat.ble n sizeLine = true) : n ≤ sizeLine := Nat.le_of_ble_eq_true h
theorem r_lc {wi : TI} {g : TG} {vs : List Nat} (h : wi σ H fun J G => ∀ L, G L = none → ∃ M : Nat → Nat → Hp → Prop, (∃ n, M 0 n (upd G L (.lst []))) ∧ ∀ k n G, M k n G →
    (J.stop k G ∧ Q (.ref L) G) ∨ (J.go k G ∧ ∃ Z : Hp → Prop, (∀ G', Z G' → ∃ n', n' < n ∧ M (k + 1) n' G') ∧
      ∀ e G', J.yld k G e G' → g e (wipe σ vs) G' fun τ G2 => wipe τ vs = wipe σ vs ∧ tt τ G2 fun b G3 =>
        if b = true then te τ G3 fun y G4 => ∃ ac, G4 L = some (.lst ac) ∧ ac.length < sizeLine ∧ Z (upd G4 L (.lst (ac ++ [y]))) else Z G3)) : tLc wi g tt te vs σ H Q := h
theorem r_ilist {K : PySem.W.Frag} {R : It → Hp → Prop} (h : te σ H fun x G => ∃ a, x = .ref a ∧ (∃ xs, SqL K G a xs) ∧ R (Itl K a) G) : iList K te σ H R := h
theorem r_itup {K : PySem.W.Frag} {R : It → Hp → Prop} (h : te σ H fun x G => ∃ a, x = .ref a ∧ (∃ xs, SqT K G a xs) ∧ R (Itt K a) G) : iTup K te σ H R := h
theorem r_irng1 {R : It → Hp → Prop} (h : tl σ H fun vs G => ∃ j : Int, vs = [.int j] ∧ -(2 ^ 62) ≤ j ∧ j < 2 ^ 62 ∧ R (Itr 0 j.toNat) G) : iRng1 tl σ H R := h
theorem r_irng2 {R : It → Hp → Prop} (h : tl σ H fun vs G => ∃ i j : Int, vs = [.int i, .int j] ∧ (-(2 ^ 62) ≤ i ∧ i < 2 ^ 62 ∧ -(2 ^ 62) ≤ j ∧ j < 2 ^ 62) ∧ R (Itr i (j - i).toNat) G) : iRng2 tl σ H R := h
theorem r_for {wi : TI} {g : TG} {tb : TS} (h : wi σ H fun J G => ∃ M : Nat → Nat → L2.St → Hp → Prop, (∃ n, M 0 n σ G) ∧ ∀ k n τ G, M k n τ G →
    (J.stop k G ∧ D.nx τ G) ∨ (J.go k G ∧ ∃ Z : L2.St → Hp → Prop, (∀ τ' G', Z τ' G' → ∃ n', n' < n ∧ M (k + 1) n' τ' G') ∧
      ∀ e G', J.yld k G e G' → g e τ G' fun τ2 G2 => tb { D with nx := Z, ct := Z, bk := D.nx } τ2 G2)) : tFor wi g tb D σ H := h
theorem r_par {m n : Nat} (h : tl σ H fun vs G => ∃ v w, vs = [v, w] ∧ D.nx ((σ.set m (some v)).set n (some w)) G) : tPar m n tl D σ H := h
theorem r_isN (q : Q (.bl (decide (x = .non))) H) : (fun (x y : V) (H : Hp) (Q : VK) => y = .non ∧ Q (.bl (decide (x = .non))) H) x .non H Q := ⟨rfl, q⟩
theorem r_notN (q : Q (.bl (!decide (x = .non))) H) : (fun (x y : V) (H : Hp) (Q : VK) => y = .non ∧ Q (.bl (!decide (x = .non))) H) x .non H Q := ⟨rfl, q⟩
theorem r_call {sp : Sp} {dvs : List V} {E : XK} (h : tl σ H fun vs H1 => sp (vs ++ dvs) H1 Q E) : tCall sp dvs E tl σ H Q := h
theorem r_yes {Q : Bool → Hp → Prop} (h : Q true H) : tYes σ H Q := h
theorem r_true {A B : Prop} (h : A) : if true = true then A else B := iteT h
theorem r_false {A B : Prop} (h : B) : if false = true then A else B := iteF h
theorem r_truen {A B : Prop} (h : B) : if (!true) = true then A else B := iteF h
theorem r_falsen {A B : Prop} (h : A) : if (!false) = true then A else B := iteT h
/-- int(x) -/
theorem r_int (q : Q (.int i) H) : (fun (xs : List V) (H : Hp) (Q : VK) => (∃ i, xs = [.int i] ∧ Q (.int i) H) ∨ ∃ k, xs = [.bl k] ∧ Q (.int (if k then 1 else 0)) H) [.int i] H Q := .inl ⟨i, rfl, q⟩
end
end Rp
namespace Rp
open PySem PySem.Spec PyProof.Rows L2
/-! ### what draws: a box [cells, laps, rest] at q, its cells at c -/
/-- all but what stands at q stays -/
def But (q : Addr) (H H' : Hp) : Prop := ∀ b o, b ≠ q → H b = some o → H' b = some o
theorem But.refl (q : Addr) (H : Hp) : But q H H := fun _ _ _ h => h
theorem But.trans {q : Addr} {H H1 H2 : Hp} (a : But q H H1) (b : But q H1 H2) : But q H H2 := fun c o n h => b c o n (a c o n h)
theorem But.upd {q : Addr} {H : Hp} (o : HO) : But q H (upd H q o) := fun b u n h => by rw [upd_ne n]; exact h
theorem But.upd2 {q : Addr} {H H' : Hp} (e : But q H H') (o : HO) : But q H (L2.upd H' q o) := fun b u n h => by rw [upd_ne n]; exact e b u n h
theorem But.neu {q : Addr} {H H' : Hp} (e : But q H H') {p : Addr} {o : HO} (h : H' p = none) (hq : H p = none ∨ True := .inr True.intro) : But q H (L2.upd H' p o) := fun b u n k => by
  have k' := e b u n k
  rw [upd_ne (ne_of_none k' h)]
  exact k'
structure Dr (q c : Addr) (ns : List Int) (lap : Nat) (H : Hp) : Prop where
  ne : c ≠ q
  box : ∃ rest : Int, H q = some (.lst [.ref c, .int (lap : Int), .int rest])
  cells : H c = some (.lst (ns.map V.int))
  len : ns.length ≤ 60
theorem Dr.neu {q c : Addr} {ns : List Int} {lap : Nat} {H : Hp} (d : Dr q c ns lap H) {p : Addr} {o : HO} (h : H p = none) : Dr q c ns lap (upd H p o) := by
  obtain ⟨ne, ⟨rest, b⟩, cl, ln⟩ := d
  exact ⟨ne, ⟨rest, by rw [upd_ne (ne_of_none b h)]; exact b⟩, by rw [upd_ne (ne_of_none cl h)]; exact cl, ln⟩
/-- a number is drawn -/
def spDraw : Sp := fun vs H Q _ => ∃ (q c : Addr) (ns : List Int) (lap : Nat) (many : Int), vs = [.ref q, .int many] ∧ 0 < many ∧ many < 1073741824 ∧ lap < 2 ^ 20 ∧ Dr q c ns lap H ∧
  ∀ (H' : Hp) (lap' : Nat) (r : Int), lap' ≤ lap + 1 → Dr q c ns lap' H' → But q H H' → 0 ≤ r → r < many → Q (.int r) H'
theorem at0 {a b c : V} : atI [a, b, c] 0 = some a := rfl
theorem at1 {a b c : V} : atI [a, b, c] 1 = some b := rfl
theorem at2 {a b c : V} : atI [a, b, c] 2 = some c := rfl
theorem box_at {q c : Addr} {ns : List Int} {lap : Nat} {H : Hp} {rest : Int} (ne : c ≠ q) (b : H q = some (.lst [.ref c, .int (lap : Int), .int rest])) (cl : H c = some (.lst (ns.map V.int))) (ln : ns.length ≤ 60) : Dr q c ns lap H := ⟨ne, ⟨rest, b⟩, cl, ln⟩
theorem fmod_in {i j : Int} (h : 0 < j) : 0 ≤ i.fmod j ∧ i.fmod j < j := by
  rw [Int.fmod_eq_emod_of_nonneg i (by omega)]
  exact ⟨Int.emod_nonneg _ (by omega), Int.emod_lt_of_pos _ h⟩
theorem fits3 {m a b c : Int} {lap : Nat} (h0 : 0 ≤ m) (h1 : m < 2147483648) (hl : lap < 2 ^ 20) (ha : 0 ≤ a) (ha' : a < 131072) (hb : 0 ≤ b) (hb' : b < 131072) (hc : 0 ≤ c) (hc' : c < 131072) :
    (m * (2 * (lap : Int) + a) + b * (lap : Int) * (lap : Int) + c).natAbs < 2 ^ 64 := by
  have l0 : (0 : Int) ≤ (lap : Int) := by omega
  have l1 : (lap : Int) ≤ 1048576 := by omega
  have e1 : 0 ≤ m * (2 * (lap : Int) + a) := Int.mul_nonneg h0 (by omega)
  have e2 : m * (2 * (lap : Int) + a) ≤ 2147483648 * 2228224 := Int.mul_le_mul (by omega) (by omega) (by omega) (by omega)
  have e3 : 0 ≤ b * (lap : Int) := Int.mul_nonneg hb l0
  have e4 : b * (lap : Int) ≤ 131072 * 1048576 := Int.mul_le_mul (by omega) l1 l0 (by omega)
  have e5 : 0 ≤ b * (lap : Int) * (lap : Int) := Int.mul_nonneg e3 l0
  have e6 : b * (lap : Int) * (lap : Int) ≤ (131072 * 1048576) * 1048576 := Int.mul_le_mul e4 l1 l0 (by omega)
  omega
theorem fits1 {m b : Int} {lap : Nat} (hb : 0 ≤ b) (hb' : b < 131072) (hl : lap < 2 ^ 20) : -(2 ^ 64) < b * (lap : Int) ∧ b * (lap : Int) < 2 ^ 64 := by
  have e3 : 0 ≤ b * (lap : Int) := Int.mul_nonneg hb (by omega)
  have e4 : b * (lap : Int) ≤ 131072 * 1048576 := Int.mul_le_mul (by omega) (by omega) (by omega) (by omega)
  omega
theorem dp_ints {K : PySem.W.Frag} {H : Hp} : ∀ (ns : List Int), DpAll K H (ns.map V.int) (ns.map PyData.int)
  | [] => .nil
  | n :: r => .cons (.int n) (dp_ints r)
theorem canLay_ints : ∀ (ns : List Int), PyData.canLayAll0 (ns.map PyData.int) = true
  | [] => by simp [PyData.canLayAll0]
  | n :: r => by simp [PyData.canLayAll0, PyData.canLay0, canLay_ints r]
theorem depth_ints : ∀ (ns : List Int), PyData.depthAll (ns.map PyData.int) = 0
  | [] => by simp [PyData.depthAll]
  | n :: r => by simp [PyData.depthAll, PyData.depth, depth_ints r]
theorem shaped_ints (ns : List Int) : SeqAt.shaped (.list (ns.map PyData.int)) = true := by
  simp [SeqAt.shaped, PyData.canLay0, PyData.depth, canLay_ints, depth_ints]
theorem eqv_nil_ints (ns : List Int) : PyData.eqv (.list (ns.map PyData.int)) (.list []) = ns.isEmpty := by
  cases ns <;> simp [PyData.eqv, PyData.eqvAll]
/-- an int list, compared with a new [] -/
theorem ne_nil {K : PySem.W.Frag} {H : Hp} {c p : Addr} {ns : List Int} {Q : VK} (hc : H c = some (.lst (ns.map V.int))) (hp : H p = some (.lst [])) (q : Q (.bl (!ns.isEmpty)) H) : rNeD K (.ref c) (.ref p) H Q :=
  ⟨_, _, .lst (SqL.of hc) (dp_ints ns), .lst (SqL.of hp) .nil, shaped_ints ns, (shaped_ints []), by rw [eqv_nil_ints]; exact q⟩
theorem map_len {ns : List Int} : (ns.map V.int).length = ns.length := List.length_map ..
theorem at_ints {ns : List Int} {k : Int} (h0 : 0 ≤ k) (h1 : k < (ns.length : Int)) : ∃ n, atI (ns.map V.int) k = some (.int n) := by
  obtain ⟨j, rfl⟩ : ∃ j : Nat, k = (j : Int) := ⟨k.toNat, by omega⟩
  have hk : j < ns.length := by omega
  refine ⟨ns[j], atI_nat ?_⟩
  rw [List.getElem?_map, List.getElem?_eq_getElem hk]
  rfl
/-- the box of cells is made -/
def spBox (K : PySem.W.Frag) : Sp := fun vs H Q _ => ∃ (a : Addr) (ns : List Int), vs = [.ref a] ∧ SqL K H a (ns.map V.int) ∧ ∀ (H' : Hp) (q c : Addr) (ns' : List Int), Dr q c ns' 0 H' → Same H H' → H q = none → Q (.ref q) H'
/-- one of some things -/
def spOf (K : PySem.W.Frag) : Sp := fun vs H Q _ => ∃ (q c a : Addr) (ns : List Int) (lap : Nat) (xs : List V), vs = [.ref q, .ref a] ∧ SqL K H a xs ∧ 0 < xs.length ∧ xs.length < 1000000 ∧ lap < 2 ^ 20 ∧ a ≠ q ∧ Dr q c ns lap H ∧
  ∀ (H' : Hp) (lap' : Nat) (i : Nat) (v : V), lap' ≤ lap + 1 → Dr q c ns lap' H' → But q H H' → xs[i]? = some v → Q v H'
theorem cut60 (ns : List Int) : ∃ ns' : List Int, cutV (ns.map V.int) none (some 60) = ns'.map V.int ∧ ns'.length ≤ 60 := by
  refine ⟨((ns.drop (HT.sIx (ns.map V.int).length 0 none)).take (HT.sIx (ns.map V.int).length (ns.map V.int).length (some 60) - HT.sIx (ns.map V.int).length 0 none)), ?_, ?_⟩
  · unfold cutV
    rw [List.map_take, List.map_drop]
  · refine Nat.le_trans (List.length_take_le _ _) ?_
    have e : (60 : Int) = ((60 : Nat) : Int) := rfl
    rw [e, HT.sIx_nat]
    omega
theorem same_neu {H H' : Hp} (e : Same H H') {p : Addr} {o : HO} (h : H' p = none) : Same H (upd H' p o) := fun b u k => by
  have k' := e b u k
  rw [upd_ne (ne_of_none k' h)]
  exact k'
theorem But.seq {K : PySem.W.Frag} {q : Addr} {H H' : Hp} {a : Addr} {xs : List V} (e : But q H H') (n : a ≠ q) (h : SqL K H a xs) : SqL K H' a xs := by
  rcases h with (h | ⟨o, h⟩) | h
  · exact .inl (.inl (e _ _ n h))
  · exact .inl (.inr ⟨o, e _ _ n h⟩)
  · exact .inr h
theorem at_some {xs : List V} {k : Int} (h0 : 0 ≤ k) (h1 : k < (xs.length : Int)) : ∃ (i : Nat) (v : V), atI xs k = some v ∧ xs[i]? = some v := by
  obtain ⟨j, rfl⟩ : ∃ j : Nat, k = (j : Int) := ⟨k.toNat, by omega⟩
  have hk : j < xs.length := by omega
  exact ⟨j, xs[j], atI_nat (List.getElem?_eq_getElem hk), List.getElem?_eq_getElem hk⟩
end Rp
namespace Rp
open PySem PySem.Spec PyProof.Rows L2
/-! ### defs that are called while no builtin of containers runs: what repr asks -/
/-- the def at f keeps the promise sp, called where nothing is being shown -/
structure FnG (P : Program) (w : World) (K : PySem.W.Frag) (mg : Str → Option Value) (base : Heap) (k : Nat) (f : Addr) (fd : FuncData) (ps : List Str) (sp : Sp) : Prop where
  arity : ∀ {vs H Q E}, sp vs H Q E → vs.length = ps.length
  go : ∀ {A : Around} {fr : List Env} {s : Shared} {H : Hp} {args : Args} {us : List Value} {vs : List V} {Q : VK} {E : XK}, A.guards = some [] → Room k A → Env0 P w K mg base A fr s H →
    BindsTo s fd args (ps.zip us) → Vals vs us → sp vs H Q E → codeAny (model P w) A (.call (.ref f) args) (CR CX0 fr P w H s Q E) s
section
variable {P : Program} {w : World} {K : PySem.W.Frag} {mg : Str → Option Value} {base : Heap} {k j : Nat} {f : Addr} {fd : FuncData} {ps : List Str} {sp : Sp}
theorem FnG.of (F : FnOk P w K mg base CX0 k f fd ps sp) : FnG P w K mg base k f fd ps sp := ⟨F.len _ _ _ _, fun _ r e b v q => F.run _ _ _ _ _ _ _ _ _ r e b v q⟩
theorem FnG.up (F : FnG P w K mg base j f fd ps sp) (h : j ≤ k) : FnG P w K mg base k f fd ps sp := ⟨F.arity, fun g r => F.go g (r.mono h)⟩
/-- the rule for a def -/
theorem fng {x qual : Str} {st : Stmt} {N : List Str} (F : Fun K x qual st f fd) (S : FnScope N ps (defScope st)) (ar : ∀ {vs H Q E}, sp vs H Q E → vs.length = ps.length)
    (body : ∀ {cdv : Value} {A : Around} {fr : List Env} {s : Shared} {H : Hp} {vs : List V} {Q : VK} {E : XK}, A.guards = some [] → Room k (A.deeper (envOfC qual (defScope st) s.heap.objs.size f cdv)) → sp vs H Q E →
      ∃ t, PSs (cxOf CX0 P w K mg base N qual (defScope st) f cdv A fr s H E).nox (defBody st) t ∧ t ⟨fun _ G => Q .non G, Q, fun _ _ => False, fun _ _ => False⟩ (L2.start N vs) H) : FnG P w K mg base (k + 1) f fd ps sp := by
  obtain ⟨oc, od, kV, dc, pm, an, cdv, ct, sl, e, look, code⟩ := F.ex
  subst e
  constructor
  · exact ar
  intro A fr s H args us vs Q E hg room env bind rel q
  have size := ar q
  have kin := env.mod.kin.keeps fun b o z => (env.bs b o z).1
  have nolim := env.mod.nolimit.keeps fun b o z => (env.bs b o z).1
  have knd : ∀ p ∈ ps.zip us, (defScope st).names.lookup p.1 = some .local ∨ ((defScope st).names.lookup p.1 = some .cell ∧ ((cellsFrom (s.heap.objs.size + 1) (defScope st).names []).lookup p.1).isSome = true) := by
    rintro ⟨n, v⟩ hp
    exact (S.par n (List.of_mem_zip hp).1).imp id fun z => ⟨z, PySem.W.cellsFrom_some _ _ _ (.inl z)⟩
  apply codeAny_call_function room.depth (kin _ _ look) rfl S.co S.gen rfl (PySem.W.codeRec_of kin code)
  apply bind
  apply wpAny_newFunctionEnv_cells S.kind knd
  intro en he s1 ic
  subst he
  refine ⟨nolim.keeps ic.toInCall.keep, codeAny_func ?_⟩
  obtain ⟨t, pt, rd⟩ := body (cdv := cdv) (fr := fr) (E := E) hg (room.deeper _) q
  have inv : Inv (cxOf CX0 P w K mg base N qual (defScope st) f cdv A fr s H E) [] (L2.start N vs) H s1 := inv_start S room.hd env size rel ic
  apply wpAny_mono (pt.nox.run [] s1 (L2.start N vs) H _ inv rd)
  · intro fl s2 hs
    cases fl with
    | ret u => obtain ⟨v, τ, G, J, r, z⟩ := hs; exact ⟨v, G, J.os, J.bare, J.base, J.hok, r, z⟩
    | next => obtain ⟨τ, G, J, z⟩ := hs; exact ⟨.non, G, J.os, J.bare, J.base, J.hok, rfl, z⟩
    | brk => obtain ⟨_, _, _, z⟩ := hs; exact z.elim
    | cont => obtain ⟨_, _, _, z⟩ := hs; exact z.elim
  · intro er s2 hs
    exact hs
end
section
variable {X : Cx} {k : Nat} {f : Addr} {fd : FuncData} {ps ks : List Str} {sp : Sp} {E : XK} {x : Str} {p pos : Pos} {e : Expr} {es : List Expr} {t tk : TA} {kws : List Keyword}
/-- what the callee does, from the caller's state -/
theorem goes {pins : List (Addr × Obj)} {σ : L2.St} {H : Hp} {s : Shared} {Q : VK} {args : Args} {us : List Value} {vs : List V} (F : FnG X.prog X.w X.K X.mg X.base k f fd ps sp) (g : X.A.guards = some []) (r : Room k X.A)
    (I : Inv X pins σ H s) (b : BindsTo s fd args (ps.zip us)) (rel : Vals vs us) (q : sp vs H Q E) : codeAny (model X.prog X.w) X.A (.call (.ref f) args) (fun a s2 => ∃ u, a = .ok (.ret u) ∧ EP X pins σ Q u s2) s := by
  apply codeAny_mono (F.go g r I.env0 b rel q)
  intro a s2 h
  rcases a with er | fl
  · exact h.elim
  · cases fl with
    | ret u => exact ⟨u, rfl, I.after h⟩
    | next => exact h.elim
    | brk => exact h.elim
    | cont => exact h.elim
theorem pe_callG (F : FnG X.prog X.w X.K X.mg X.base k f fd ps sp) (g : X.A.guards = some []) (r : Room k X.A) (hg : Gl X x) (hm : X.mg x = some (.ref f)) (hk : PySem.W.keepIn X.K (.ref f) = true) (hb : Binds X.K fd ps [])
    (ha : PA X (e :: es) t) (d1 : (x == ("__debug__" : Str)) = false := by decide) (d2 : starEach (e :: es) X.env = (false, eval e X.env) :: starEach es X.env := by rfl) (d3 : (backTo pos (starEach es X.env)).any (·.1) = false := by rfl) :
    PE X (.Call (.Name x p) (e :: es) [] pos) (fun σ H Q => t σ H fun vs G => sp vs G Q E) := by
  constructor
  intro pins s σ H Q I h
  apply wpAny_Call_Name_kw (ld_glob I hg hm ?_ d1)
  apply PySem.W.callWith_K (h₀ := X.base) I.ok.mod.kin hk ?_ d2 d3
  apply thn (ha.run pos pins s σ H _ I h)
  rintro us s1 ⟨vs, H1, I1, rel, q⟩
  refine ⟨I1.kIn, wpAny_call ?_⟩
  have n : (us ++ ([] : List Value)).length = ps.length := by
    rw [List.append_nil, ← rel.length]
    exact F.arity q
  have bb := hb s1 us I1.kIn n
  rw [List.append_nil] at bb
  apply codeAny_mono (goes F g r I1 bb rel q)
  rintro a s2 ⟨u, rfl, z⟩
  exact z
/-- how written keywords ks, behind n arguments by place, come to the parameters: parameter i is value number ix[i] -/
structure KBx (K : PySem.W.Frag) (fd : FuncData) (ps : List Str) (n : Nat) (ks : List Str) (ix : List Nat) : Prop where
  to : ∀ (s : Shared) (us ws : List Value), us.length = n → ws.length = ks.length → BindsTo s fd ⟨us, ks.zip ws⟩ (ps.zip (ix.map fun i => (us ++ ws).getD i .none))
theorem vals_ix {vs : List V} {us : List Value} (r : Vals vs us) : ∀ ix : List Nat, Vals (ix.map fun i => vs.getD i .non) (ix.map fun i => us.getD i .none)
  | [] => .nil
  | i :: l => by
    refine .cons ?_ (vals_ix r l)
    show L2.RelV (vs.getD i .non) (us.getD i .none)
    rw [List.getD_eq_getElem?_getD, List.getD_eq_getElem?_getD]
    cases h : vs[i]? with
    | none => rw [r.none_of h]; rfl
    | some v =>
      obtain ⟨u, hu, z⟩ := r.get h
      rw [hu]
      exact z
def tKw (sp : Sp) (n m : Nat) (ix : List Nat) (E : XK) (t tk : TA) : TE := fun σ H Q => t σ H fun vs G => tk σ G fun zs G2 => vs.length = n ∧ zs.length = m ∧ sp (ix.map fun i => (vs ++ zs).getD i .non) G2 Q E
theorem pe_callGK0 {ix : List Nat} (F : FnG X.prog X.w X.K X.mg X.base k f fd ps sp) (g : X.A.guards = some []) (r : Room k X.A) (hg : Gl X x) (hm : X.mg x = some (.ref f)) (hk : PySem.W.keepIn X.K (.ref f) = true) (hb : KBx X.K fd ps 0 ks ix)
    (hkw : PK X kws tk) (d4 : (backToKw pos (keywordEach kws X.env)).all (·.1.isSome) = true := by rfl) (d5 : (backToKw pos (keywordEach kws X.env)).filterMap (·.1) = ks := by rfl) (d1 : (x == ("__debug__" : Str)) = false := by decide)
    (d3 : (backToKw pos (keywordEach kws X.env)).any (·.1.isNone) = false := by rfl) :
    PE X (.Call (.Name x p) [] kws pos) (tKw sp 0 ks.length ix E L2.tNil tk) := by
  constructor
  intro pins s σ H Q I h
  apply wpAny_Call_Name_kw (ld_glob I hg hm ?_ d1)
  apply PySem.W.callWith_KW0 (h₀ := X.base) I.ok.mod.kin hk d4 ?_ d3
  apply thn (hkw.run pos pins s σ H _ I h)
  rintro ws s2 ⟨zs, H2, I2, rz, _, lz, q⟩
  refine ⟨I2.kIn, ?_⟩
  rw [d5]
  apply wpAny_call
  have lw : ws.length = ks.length := by rw [← rz.length]; exact lz
  apply codeAny_mono (goes F g r I2 (hb.to s2 [] ws rfl lw) (vals_ix (.append .nil rz) ix) q)
  rintro a s3 ⟨u, rfl, z⟩
  exact z
end
/-- sys.modules stands in the base -/
def HasMods (base : Heap) : Prop := ∃ mm, base.Ns sysModules mm
/-! ### the law's call, from its promise -/
theorem law_go {P : Program} {w : World} {K : PySem.W.Frag} {mg mb : Str → Option Value} {k : Nat} {fa a : Addr} {fd : FuncData} {x : Str} {sp : Sp} {s : Shared} {us : List Value} {ns : List Int}
    (kin : K.In s.heap) (gl : s.heap.Ns mainGlobals mg) (bl : s.heap.Ns builtinsNs mb) (boot : ∀ y : Str, y ≠ "__name__" → mb y = bootBuiltins y) (nolim : s.heap.NoLimit) (mods : HasMods s.heap) (gen : s.gens = #[])
    (ob : s.heap.get? a = some { cls := .type "list", data := .seq us.toArray }) (nums : IntsAre us ns) (size : ns.length ≤ sizeLine) (room : Room k callerA)
    (F : ∀ base : Heap, K.In base → base.Ns mainGlobals mg → HasMods base → FnG P w K mg base k fa fd [x] sp) (bind : ∀ (t : Shared) (u : Value), BindsTo t fd ⟨[u], []⟩ [(x, u)])
    (prom : ∀ H : Hp, SqL K H a (ns.map V.int) → sp [.ref a] H (fun v _ => v = .bl true) fun _ _ _ => False) :
    codeAny (model P w) callerA (.call (.ref fa) ⟨[.ref a], []⟩) (fun r t => r = .ok (.ret (.bool true)) ∧ OldK s.heap t.heap ∧ t.os = s.os ∧ AllBare t.gens) s := by
  have rel := vals_ints nums
  -- H tracks nothing, or the script alone, as the object that it is
  suffices main : ∀ H : Hp, SqL K H a (ns.map V.int) → HOk P w H s.heap → (∀ b u, H b = some u → b = a ∧ K.lookup a = none ∧ ∃ o y, u = .frz o y ∧ s.heap.get? b = some o) →
      codeAny (model P w) callerA (.call (.ref fa) ⟨[.ref a], []⟩) (fun r t => r = .ok (.ret (.bool true)) ∧ OldK s.heap t.heap ∧ t.os = s.os ∧ AllBare t.gens) s by
    by_cases hk : K.lookup a = none
    · let o : Obj := { cls := .type "list", data := .seq us.toArray }
      refine main (fun b => if b = a then some (.frz o (.lst (ns.map V.int))) else none) (.inl (.inr ⟨o, if_pos rfl⟩)) ?_ ?_
      · intro b u z
        by_cases h : b = a
        · subst h
          cases (if_pos rfl).symm.trans z
          exact ⟨ob, by rw [List.length_map]; exact size, us, _, rel, ob⟩
        · cases (if_neg h).symm.trans z
      · intro b u z
        by_cases h : b = a
        · subst h
          cases (if_pos rfl).symm.trans z
          exact ⟨rfl, hk, o, _, rfl, ob⟩
        · cases (if_neg h).symm.trans z
    · obtain ⟨o, ho⟩ := Option.ne_none_iff_exists'.mp hk
      have e := kin a o ho
      rw [ob] at e
      cases e
      exact main (fun _ => none) (.inr ⟨_, us.toArray, _, ho, rfl, rfl, rfl, by rw [List.size_toArray, nums.length]; exact size, by simpa using rel⟩) (fun b u z => nomatch z) fun b u z => nomatch z
  intro H seq hok only
  have hid : ∀ {b o}, s.heap.get? b = some o → H b = none → (hidT s.heap H).get? b = some o := fun e n => hidT_get e n
  have free : ∀ {b o} {es : Array DictEntry} {n : Nat}, s.heap.get? b = some o → o.data = .dict es n → H b = none := by
    intro b o es n e d
    cases z : H b with
    | none => rfl
    | some u =>
      obtain ⟨rfl, _⟩ := only b u z
      rw [ob] at e
      cases e
      cases d
  have names : ∀ {b} {m : Str → Option Value}, s.heap.Ns b m → (hidT s.heap H).Ns b m := by
    rintro b m ⟨o, es, n, e, d, z⟩
    exact ⟨o, es, n, hid e (free e d), d, z⟩
  have kin' : K.In (hidT s.heap H) := by
    intro b o e
    refine hid (kin b o e) ?_
    cases z : H b with
    | none => rfl
    | some u =>
      obtain ⟨rfl, n, _⟩ := only b u z
      rw [n] at e
      cases e
  obtain ⟨mc, l1, l2⟩ := nolim
  have mod : Mod K mg (hidT s.heap H) := ⟨kin', names gl, ⟨mb, names bl, boot⟩, ⟨mc, names l1, l2⟩⟩
  have env : Env0 P w K mg (hidT s.heap H) callerA [] s H := ⟨rfl, mod, fun b o e => of_hidT e, Nat.le_of_eq (hidT_size _ _), trivial, fun b h => absurd (show b ∈ ([] : List Addr) from h) (by simp), hok, .of_eq gen⟩
  apply codeAny_mono ((F _ kin' (names gl) (mods.imp fun _ z => names z)).go (us := [.ref a]) (vs := [.ref a]) rfl room env (bind s (.ref a)) (.cons rfl .nil) (prom H seq))
  intro r t h
  rcases r with er | fl
  · exact h.elim
  cases fl with
  | next => exact h.elim
  | brk => exact h.elim
  | cont => exact h.elim
  | ret u =>
    obtain ⟨v, G, os, bare, un, hok', rl, q⟩ := h
    cases (show v = .bl true from q)
    obtain rfl : u = Value.bool true := rl
    refine ⟨rfl, OldK.of_keep fun b o e => ?_, os, bare⟩
    cases z : H b with
    | none => exact un.keep b o e z (by intro m; exact absurd (show b ∈ ([] : List Addr) from m) (by simp)) (by simp)
    | some u =>
      obtain ⟨_, _, o', y, rfl, e'⟩ := only b u z
      rw [e] at e'
      cases e'
      exact (hok' b _ (un.frzs b o y z)).1
/-- what k_head leaves, from the law's promise -/
theorem walk_G {l : PySem.W.OpenLaw} {n k : Nat} {q : Program} {loose : List Str} {XP : (Str → Option Value) → Heap → Prop} {YP : World → Heap → Prop} {d : DefRec} {K : Params → PySem.W.Frag} {sp : PySem.W.Frag → Sp} {x : Str}
    (none : importsNone q = true) (hn : l.most = some n) (hn2 : n ≤ sizeLine) (hdf : d.params.defaults = []) (room : Room k callerA) (hY : ∀ (w : World) (h : Heap), YP w h → (K w.params).In h)
    (F : ∀ (w : World) (mg : Str → Option Value) (fa : Addr) (h : Heap), (K w.params).In h → h.Ns mainGlobals mg → mg d.name = some (.ref fa) →
      ∃ fd : FuncData, (∀ (t : Shared) (u : Value), BindsTo t fd ⟨[u], []⟩ [(x, u)]) ∧ ∀ base : Heap, (K w.params).In base → base.Ns mainGlobals mg → HasMods base → FnG l.prog w (K w.params) mg base k fa fd [x] (sp (K w.params)))
    (prom : ∀ (K : PySem.W.Frag) (H : Hp) (a : Addr) (ns : List Int), ns.length ≤ n → SqL K H a (ns.map V.int) → sp K [.ref a] H (fun v _ => v = .bl true) fun _ _ _ => False) :
    PySem.W.WalkO q loose XP YP l.row.toRowW d [] (fun f vs => PySem.call f vs) := by
  apply Att.attach_call hn hdf
  intro w s0 s1 mg mb fa o pm cd dc a us ns G Y _ _ _ hmg hobj nums hlen hg
  have md : HasMods s1.heap := let ⟨mm, z, _⟩ := (G.T.seer none).mods; ⟨mm, z⟩
  obtain ⟨fd, hb, hF⟩ := F w mg fa _ (hY w _ Y) G.T.g hmg
  exact law_go (hY w _ Y) G.T.g G.T.b G.T.builtins G.T.nolimit md hg hobj nums (Nat.le_trans hlen hn2) room hF hb fun H hS => prom _ H a ns hlen hS
/-- a def as its callers know it -/
structure Cal (P : Program) (w : World) (K : PySem.W.Frag) (mg : Str → Option Value) (base : Heap) (x : Str) (k : Nat) (f : Addr) (fd : FuncData) (ps : List Str) (sp : Sp) : Prop where
  G : FnG P w K mg base k f fd ps sp
  mgf : mg x = some (.ref f)
  kp : PySem.W.keepIn K (.ref f) = true
  b : Binds K fd ps []
/-- keywords come to the parameters -/
theorem kb_of {K : PySem.W.Frag} {x qual : Str} {st : Stmt} {f : Addr} {fd : FuncData} {ps ks : List Str} {n : Nat} {ix : List Nat} (F : Fun K x qual st f fd)
    (h : ∀ (kV dc pm : Value) (an : Option Addr) (cd ct : Value) (us ws : List Value), us.length = n → ws.length = ks.length → bindArgs (PySem.W.fnOf x qual (defArgs st) (defBody st) (defScope st) .none kV dc pm an cd ct) ⟨us, ks.zip ws⟩ = pure (ps.zip (ix.map fun i => (us ++ ws).getD i .none))) : KBx K fd ps n ks ix := by
  obtain ⟨oc, od, kV, dc, pm, an, cd, ct, sl, e, _, _⟩ := F.ex
  subst e
  exact ⟨fun s us ws l1 l2 => .of_eq (h kV dc pm an cd ct us ws l1 l2)⟩
def tGo (sp : Sp) (t : TA) : TE := fun σ H Q => t σ H fun vs G => sp vs G Q E0
theorem r_go {sp : Sp} {t : TA} {σ : L2.St} {H : Hp} {Q : VK} (h : t σ H fun vs G => sp vs G Q E0) : tGo sp t σ H Q := h
theorem r_kw {sp : Sp} {n m : Nat} {ix : List Nat} {E : XK} {t tk : TA} {σ : L2.St} {H : Hp} {Q : VK} (h : t σ H fun vs G => tk σ G fun zs G2 => vs.length = n ∧ zs.length = m ∧ sp (ix.map fun i => (vs ++ zs).getD i .non) G2 Q E) : tKw sp n m ix E t tk σ H Q := h
section
variable {X : Cx} {k : Nat} {f : Addr} {fd : FuncData} {ps ks : List Str} {sp : Sp} {x : Str} {p pos : Pos} {e : Expr} {es : List Expr} {t tk : TA} {kws : List Keyword}
theorem pe_go (c : Cal X.prog X.w X.K X.mg X.base x k f fd ps sp) (g : X.A.guards = some []) (r : Room k X.A) (hg : Gl X x) (ha : PA X (e :: es) t) (d1 : (x == ("__debug__" : Str)) = false := by decide)
    (d2 : starEach (e :: es) X.env = (false, eval e X.env) :: starEach es X.env := by rfl) (d3 : (backTo pos (starEach es X.env)).any (·.1) = false := by rfl) : PE X (.Call (.Name x p) (e :: es) [] pos) (tGo sp t) :=
  pe_callG (E := E0) c.G g r hg c.mgf c.kp c.b ha d1 d2 d3
theorem pe_kw0 {ix : List Nat} (c : Cal X.prog X.w X.K X.mg X.base x k f fd ps sp) (hb : KBx X.K fd ps 0 ks ix) (g : X.A.guards = some []) (r : Room k X.A) (hg : Gl X x) (hkw : PK X kws tk)
    (d4 : (backToKw pos (keywordEach kws X.env)).all (·.1.isSome) = true := by rfl) (d5 : (backToKw pos (keywordEach kws X.env)).filterMap (·.1) = ks := by rfl) (d1 : (x == ("__debug__" : Str)) = false := by decide)
    (d3 : (backToKw pos (keywordEach kws X.env)).any (·.1.isNone) = false := by rfl) : PE X (.Call (.Name x p) [] kws pos) (tKw sp 0 ks.length ix E0 L2.tNil tk) :=
  pe_callGK0 c.G g r hg c.mgf c.kp hb hkw d4 d5 d1 d3
end
end Rp
namespace Rp
open PySem PySem.Spec PyProof.Rows L2
/-! ### data on the heap, dicts in it too; what repr shows of them -/
def kD : Key → PyData
  | .inl i => .int i
  | .inr x => .str x
mutual
inductive Dd (K : PySem.W.Frag) (H : Hp) : V → PyData → Prop
  | non : Dd K H .non .none
  | bl (b : Bool) : Dd K H (.bl b) (.bool b)
  | num (i : Int) : Dd K H (.int i) (.int i)
  | str (x : Str) : Dd K H (.str x) (.str x)
  | lst {a : Addr} {xs : List V} {ds : List PyData} (e : SqL K H a xs) (h : DdAll K H xs ds) : Dd K H (.ref a) (.list ds)
  | tup {a : Addr} {xs : List V} {ds : List PyData} (e : SqT K H a xs) (h : DdAll K H xs ds) : Dd K H (.ref a) (.tuple ds)
  | dic {a : Addr} {kvs : List (Key × V)} {ds : List (PyData × PyData)} (e : H a = some (.dK kvs)) (h : DdKv K H kvs ds) : Dd K H (.ref a) (.dict ds)
inductive DdAll (K : PySem.W.Frag) (H : Hp) : List V → List PyData → Prop
  | nil : DdAll K H [] []
  | cons {v : V} {vs : List V} {d : PyData} {ds : List PyData} (h : Dd K H v d) (t : DdAll K H vs ds) : DdAll K H (v :: vs) (d :: ds)
inductive DdKv (K : PySem.W.Frag) (H : Hp) : List (Key × V) → List (PyData × PyData) → Prop
  | nil : DdKv K H [] []
  | cons {k : Key} {v : V} {r : List (Key × V)} {d : PyData} {ds : List (PyData × PyData)} (h : Dd K H v d) (t : DdKv K H r ds) : DdKv K H ((k, v) :: r) ((kD k, d) :: ds)
end
section
variable {X : Cx} {pins : List (Addr × Obj)} {σ : L2.St} {H : Hp} {s : Shared}
theorem mods_ne (I : Inv X pins σ H s) (M : HasMods X.base) {a : Addr} {o : Obj} {vs : Array Value} {n : Nat} (e : s.heap.get? a = some o) (d : o.data = .seq vs n) : sysModules ≠ a := by
  intro z
  obtain ⟨mm, ob, es, ep, h1, h2, _⟩ := M
  have h3 := (I.bs _ _ h1).1
  rw [z, e] at h3
  cases h3
  rw [d] at h2
  cases h2
theorem key_reads {h : Heap} {k : Key} {v : Value} (e : keyIs k v = true) : Reads h v (kD k) [] := by
  rcases keyIs_shape e with ⟨i, t, rfl, rfl⟩ | ⟨x, t, rfl, rfl⟩
  · exact .int i t
  · exact .str x t
mutual
theorem dd_reads (I : Inv X pins σ H s) (M : HasMods X.base) : ∀ {v : V} {d : PyData}, Dd X.K H v d → ∀ u, RelV v u → ∃ as, Reads s.heap u d as ∧ sysModules ∉ as
  | _, _, .non, u, r => by cases r; exact ⟨[], .none, by simp⟩
  | _, _, .bl b, u, r => by cases r; exact ⟨[], .bool b, by simp⟩
  | _, _, .num i, u, r => by obtain ⟨t, rfl⟩ := r; exact ⟨[], .int i t, by simp⟩
  | _, _, .str x, u, r => by obtain ⟨t, rfl⟩ := r; exact ⟨[], .str x t, by simp⟩
  | _, _, .lst e h, u, r => by
    cases r
    obtain ⟨its, rv, ⟨o, n, h1, h2, _, h4⟩, _⟩ := I.list e
    obtain ⟨as, ra, na⟩ := dd_readsAll I M h its rv
    refine ⟨_, .list h1 h2 h4 (by simpa using ra), ?_⟩
    intro m
    rcases List.mem_cons.mp m with z | z
    · exact mods_ne I M h1 h4 z
    · exact na z
  | _, _, .tup e h, u, r => by
    cases r
    obtain ⟨its, rv, ⟨o, h1, h2, n, h4⟩, _⟩ := I.tuple e
    obtain ⟨as, ra, na⟩ := dd_readsAll I M h its rv
    exact ⟨_, .tuple h1 h2 h4 (by simpa using ra), na⟩
  | _, _, .dic e h, u, r => by
    cases r
    obtain ⟨_, ns, vs, kv, o, es, ep, h1, h2, h3, _, pr, _⟩ := I.hok _ _ e
    obtain ⟨bs, rk, rvs, nb⟩ := dd_readsKv I M h vs es.toList kv pr
    refine ⟨_, .dict h1 h2.1 h3 rk rvs, ?_⟩
    intro m
    rcases List.mem_cons.mp (by simpa using m) with z | z
    · rw [z] at ns
      simp at ns
    · exact nb (by simpa using z)
theorem dd_readsAll (I : Inv X pins σ H s) (M : HasMods X.base) : ∀ {vs : List V} {ds : List PyData}, DdAll X.K H vs ds → ∀ us, Vals vs us → ∃ as, ReadsAll s.heap us ds as ∧ sysModules ∉ as
  | _, _, .nil, us, r => by cases r; exact ⟨[], .nil, by simp⟩
  | _, _, .cons h t, us, r => by
    cases r with
    | cons r1 r2 =>
      obtain ⟨as, q1, n1⟩ := dd_reads I M h _ r1
      obtain ⟨bs, q2, n2⟩ := dd_readsAll I M t _ r2
      exact ⟨as ++ bs, .cons q1 q2, by rw [List.mem_append]; exact fun z => z.elim n1 n2⟩
theorem dd_readsKv (I : Inv X pins σ H s) (M : HasMods X.base) : ∀ {kvs : List (Key × V)} {ds : List (PyData × PyData)}, DdKv X.K H kvs ds → ∀ (vs : List (Key × Value)) (es : List DictEntry), KV kvs vs → Pairs (mixKind X.prog X.w) es vs →
    ∃ bs, ReadsAll s.heap (es.map (·.key)) (ds.map (·.1)) [] ∧ ReadsAll s.heap (es.map (·.val)) (ds.map (·.2)) bs ∧ sysModules ∉ bs
  | _, _, .nil, vs, es, kv, pr => by
    cases kv
    cases pr
    exact ⟨[], .nil, .nil, by simp⟩
  | _, _, .cons h t, vs, es, kv, pr => by
    cases kv with
    | cons k1 k2 =>
      cases pr with
      | cons p1 p2 p3 =>
        obtain ⟨e1, e2⟩ := k1
        rw [← p2] at e2
        rw [← e1] at p1
        obtain ⟨as, q1, n1⟩ := dd_reads I M h _ e2
        obtain ⟨bs, q2, q3, n2⟩ := dd_readsKv I M t _ _ k2 p3
        refine ⟨as ++ bs, ?_, .cons q1 q3, by rw [List.mem_append]; exact fun z => z.elim n1 n2⟩
        exact ReadsAll.cons (as := []) (key_reads p1) q2
end
/-- repr of a list, a tuple, a dict: of data -/
def rRepr (K : PySem.W.Frag) : List V → Hp → VK → Prop := fun xs H Q => ∃ (a : Addr) (d : PyData), xs = [.ref a] ∧ Dd K H (.ref a) d ∧ d.showable = true ∧ d.depth ≤ 64 ∧ d.shown.length ≤ sizeLine ∧ Q (.str d.shown) H
theorem call_reprD {k : Nat} (hr : Room k X.A) (g : X.A.guards = some []) (M : HasMods X.base) : CallR X (.builtin "repr") (rRepr X.K) := by
  intro pins s σ H xs us Q I r h
  obtain ⟨a, d, rfl, dd, hs, hdp, hsz, q⟩ := h
  obtain ⟨u, rfl, r1⟩ := vals1 r
  cases (show u = Value.ref a from r1)
  obtain ⟨as, rd, na⟩ := dd_reads I M dd _ rfl
  have un := hr.un
  exact repr_of_reads' rd hs (fun _ => na) g (by omega) (fun _ _ e => e) (fun h' t tk hk => ⟨.str d.shown, H, I.kept hk, ⟨_, rfl⟩, q⟩) hsz
end
end Rp
namespace Rp
open PySem PySem.Spec PyProof.Rows L2
/-! ### values of any kind, off the box -/
inductive Any (q : Addr) (H : Hp) : V → Prop
  | non : Any q H .non
  | bl (b : Bool) : Any q H (.bl b)
  | num (i : Int) : Any q H (.int i)
  | str (x : Str) : Any q H (.str x)
  | lst {a : Addr} {xs : List V} (n : a ≠ q) (e : H a = some (.lst xs)) : Any q H (.ref a)
  | tup {a : Addr} {xs : List V} (n : a ≠ q) (e : H a = some (.tup xs)) : Any q H (.ref a)
  | dic {a : Addr} {kvs : List (Key × V)} (n : a ≠ q) (e : H a = some (.dK kvs)) : Any q H (.ref a)
/-- a value that is a list or tuple of some values, or none -/
inductive RowV (q : Addr) (H : Hp) : V → Option (List V) → Prop
  | non : RowV q H .non none
  | bl (b : Bool) : RowV q H (.bl b) none
  | num (i : Int) : RowV q H (.int i) none
  | str (x : Str) : RowV q H (.str x) none
  | lst {a : Addr} {xs : List V} (n : a ≠ q) (e : H a = some (.lst xs)) (h : ∀ x ∈ xs, Any q H x) : RowV q H (.ref a) (some xs)
  | tup {a : Addr} {xs : List V} (n : a ≠ q) (e : H a = some (.tup xs)) (h : ∀ x ∈ xs, Any q H x) : RowV q H (.ref a) (some xs)
  | dic {a : Addr} {kvs : List (Key × V)} (n : a ≠ q) (e : H a = some (.dK kvs)) : RowV q H (.ref a) none
section
variable {q : Addr} {H H' : Hp} {v : V} {o : Option (List V)} {K : PySem.W.Frag}
theorem Any.but (h : Any q H v) (b : But q H H') : Any q H' v := by
  cases h with
  | non => exact .non
  | bl b => exact .bl b
  | num i => exact .num i
  | str x => exact .str x
  | lst n e => exact .lst n (b _ _ n e)
  | tup n e => exact .tup n (b _ _ n e)
  | dic n e => exact .dic n (b _ _ n e)
theorem RowV.but (h : RowV q H v o) (b : But q H H') : RowV q H' v o := by
  cases h with
  | non => exact .non
  | bl b => exact .bl b
  | num i => exact .num i
  | str x => exact .str x
  | lst n e it => exact .lst n (b _ _ n e) fun x m => (it x m).but b
  | tup n e it => exact .tup n (b _ _ n e) fun x m => (it x m).but b
  | dic n e => exact .dic n (b _ _ n e)
def isI : V → Bool
  | .int _ => true
  | _ => false
def isIB : V → Bool
  | .int _ => true
  | .bl _ => true
  | _ => false
def isB : V → Bool
  | .bl _ => true
  | _ => false
theorem isI_eq (v : V) : (isIB v && !isB v) = isI v := by cases v <;> rfl
theorem any_int (h : Any q H v) : ∃ t : Value, TyX K H v t ∧ PySem.W.kitOne K t (.type "int") = some (isIB v) := by
  cases h with
  | non => exact ⟨_, .base .non, kit_ty (r := false) (by decide +kernel)⟩
  | bl b => exact ⟨_, .base (.bl b), kit_ty (r := true) (by decide +kernel)⟩
  | num i => exact ⟨_, .base (.int i), kit_ty (r := true) (by decide +kernel)⟩
  | str x => exact ⟨_, .base (.str x), kit_ty (r := false) (by decide +kernel)⟩
  | lst n e => exact ⟨_, .base (.lst e), kit_ty (r := false) (by decide +kernel)⟩
  | tup n e => exact ⟨_, .base (.tup e), kit_ty (r := false) (by decide +kernel)⟩
  | dic n e => exact ⟨_, .base (.dK e), kit_ty (r := false) (by decide +kernel)⟩
theorem any_bool (h : Any q H v) : ∃ t : Value, TyX K H v t ∧ PySem.W.kitOne K t (.type "bool") = some (isB v) := by
  cases h with
  | non => exact ⟨_, .base .non, kit_ty (r := false) (by decide +kernel)⟩
  | bl b => exact ⟨_, .base (.bl b), kit_ty (r := true) (by decide +kernel)⟩
  | num i => exact ⟨_, .base (.int i), kit_ty (r := false) (by decide +kernel)⟩
  | str x => exact ⟨_, .base (.str x), kit_ty (r := false) (by decide +kernel)⟩
  | lst n e => exact ⟨_, .base (.lst e), kit_ty (r := false) (by decide +kernel)⟩
  | tup n e => exact ⟨_, .base (.tup e), kit_ty (r := false) (by decide +kernel)⟩
  | dic n e => exact ⟨_, .base (.dK e), kit_ty (r := false) (by decide +kernel)⟩
theorem kit2 {t a b : String} {x y : Bool} (h1 : kitB t a = some x) (h2 : kitB t b = some y) : PySem.W.kitAny K (.type t) [.type a, .type b] = some (x || y) := by
  refine kitAny_cons (kit_ty h1) (fun e => ?_) (fun e => by rw [e]; rfl)
  rw [e]
  refine kitAny_cons (kit_ty h2) (fun e => ?_) (fun e => by rw [e]; rfl)
  rw [e]
  exact kitAny_nil
theorem row_seq (h : RowV q H v o) : ∃ t : Value, TyX K H v t ∧ PySem.W.kitAny K t [.type "list", .type "tuple"] = some o.isSome := by
  cases h with
  | non => exact ⟨_, .base .non, kit2 (x := false) (y := false) (by decide +kernel) (by decide +kernel)⟩
  | bl b => exact ⟨_, .base (.bl b), kit2 (x := false) (y := false) (by decide +kernel) (by decide +kernel)⟩
  | num i => exact ⟨_, .base (.int i), kit2 (x := false) (y := false) (by decide +kernel) (by decide +kernel)⟩
  | str x => exact ⟨_, .base (.str x), kit2 (x := false) (y := false) (by decide +kernel) (by decide +kernel)⟩
  | lst n e => exact ⟨_, .base (.lst e), kit2 (x := true) (y := false) (by decide +kernel) (by decide +kernel)⟩
  | tup n e => exact ⟨_, .base (.tup e), kit2 (x := false) (y := true) (by decide +kernel) (by decide +kernel)⟩
  | dic n e => exact ⟨_, .base (.dK e), kit2 (x := false) (y := false) (by decide +kernel) (by decide +kernel)⟩
end
/-- any value is, is not a truth -/
def rIsAny (neg : Bool) : R2 := fun x y H Q => ∃ b, y = .bl b ∧ Q (.bl (if neg then !decide (x = .bl b) else decide (x = .bl b))) H
section
variable {X : Cx}
theorem bl_ne {x : V} {v : Value} {b : Bool} (rx : RelV x v) (ne : x ≠ .bl b) : v ≠ Value.bool b := by
  intro e
  subst e
  cases x with
  | bl c => exact ne (by rw [Value.bool.inj (show Value.bool b = Value.bool c from rx)])
  | non => cases (show Value.bool b = Value.none from rx)
  | int i => obtain ⟨t, z⟩ := rx; cases z
  | str y => obtain ⟨t, z⟩ := rx; cases z
  | byt y => obtain ⟨t, z⟩ := rx; cases z
  | flt y => obtain ⟨t, z⟩ := rx; cases z
  | ref a => cases (show Value.bool b = Value.ref a from rx)
  | ty n => cases (show Value.bool b = Value.type n from rx)
theorem plain_bl {x : V} {v : Value} {b : Bool} (rx : RelV x v) : plainIs v (.bool b) = true := by
  cases x with
  | bl c => cases rx; rfl
  | non => cases rx; rfl
  | int i => obtain ⟨t, rfl⟩ := rx; rfl
  | str y => obtain ⟨t, rfl⟩ := rx; rfl
  | byt y => obtain ⟨t, rfl⟩ := rx; rfl
  | flt y => obtain ⟨t, rfl⟩ := rx; rfl
  | ref a => cases rx; rfl
  | ty n => cases rx; rfl
theorem op_is_any : OpR X (compareOp .Is) (rIsAny false) := by
  intro pins s σ H x y v u Q I rx ry h
  obtain ⟨b, rfl, q⟩ := h
  cases (show u = Value.bool b from ry)
  by_cases e : x = .bl b
  · subst e
    cases (show v = Value.bool b from rx)
    exact wpAny_is_self rfl ⟨.bl true, H, I, rfl, by simpa using q⟩
  · exact wpAny_is_other (plain_bl rx) (bl_ne rx e) ⟨.bl false, H, I, rfl, by simpa [e] using q⟩
theorem op_isnot_any : OpR X (compareOp .IsNot) (rIsAny true) := by
  intro pins s σ H x y v u Q I rx ry h
  obtain ⟨b, rfl, q⟩ := h
  cases (show u = Value.bool b from ry)
  by_cases e : x = .bl b
  · subst e
    cases (show v = Value.bool b from rx)
    exact wpAny_isNot_self rfl ⟨.bl false, H, I, rfl, by simpa using q⟩
  · exact wpAny_isNot_other (plain_bl rx) (bl_ne rx e) ⟨.bl true, H, I, rfl, by simpa [e] using q⟩
end
end Rp
namespace Rp
open PySem PySem.Spec PyProof.Rows L2
section
variable {K : PySem.W.Frag} {H : Hp} {Q : VK} {x v : V} {t : Value} {b : Bool} {q : Addr}
theorem r_isi {n : String} (ty : TyX K H x t) (k : PySem.W.kitOne K t (.type n) = some b) (h : Q (.bl b) H) : rIsi K [x, .ty n] H Q := ⟨x, _, t, _, b, rfl, .ty n, ty, k, h⟩
theorem r_isiT {p : Addr} {n m : String} (e : H p = some (.tup [.ty n, .ty m])) (ty : TyX K H x t) (k : PySem.W.kitAny K t [.type n, .type m] = some b) (h : Q (.bl b) H) : rIsiT K [x, .ref p] H Q :=
  ⟨x, p, _, t, _, b, rfl, e, .cons (.ty n) (.cons (.ty m) .nil), ty, k, h⟩
theorem r_isAny {neg : Bool} {c : Bool} (h : Q (.bl (if neg then !decide (x = .bl c) else decide (x = .bl c))) H) : rIsAny neg x (.bl c) H Q := ⟨c, rfl, h⟩
@[reducible] def oV : Option Int → V
  | none => .non
  | some i => .int i
/-- an integer from lo to hi -/
def inB (v : V) (lo hi : Option Int) : Bool :=
  match v with
  | .int i => (match lo with | none => true | some l => decide (l ≤ i)) && (match hi with | none => true | some u => decide (i ≤ u))
  | _ => false
def clocks : List Int := [3, 5, 7, 11, 13, 17, 19, 23, 29, 31]
def clk (v : V) : Bool :=
  match v with
  | .int i => clocks.contains i
  | _ => false
def rowB (o : Option (List V)) (clock size : Int) : Bool :=
  match o with
  | none => false
  | some xs => decide ((xs.length : Int) = size) && xs.all fun x => inB x (some 0) (some (clock - 1))
def spIsInt : Sp := fun vs H Q _ => ∃ q v, vs = [v] ∧ Any q H v ∧ Q (.bl (isI v)) H
def spWithin : Sp := fun vs H Q _ => ∃ q v lo hi, vs = [v, oV lo, oV hi] ∧ Any q H v ∧ Q (.bl (inB v lo hi)) H
def spClock : Sp := fun vs H Q _ => ∃ q v, vs = [v] ∧ Any q H v ∧ Q (.bl (clk v)) H
def spRow : Sp := fun vs H Q _ => ∃ q v o clock size, vs = [v, .int clock, .int size] ∧ RowV q H v o ∧ clk (.int clock) = true ∧ (∀ xs, o = some xs → xs.length < sizeLine) ∧ ∀ H', Same H H' → Q (.bl (rowB o clock size)) H'
end
end Rp
namespace Rp
open PySem PySem.Spec PyProof.Rows L2
/-! ### steps at the box -/
section
variable {K : PySem.W.Frag} {q c p : Addr} {ns : List Int} {lap : Nat} {H0 H G : Hp} {o : HO} {Q : VK} {σ : L2.St} {x y v : V} {te tk tv : TE} {b : Bool}
theorem alloc (hG : upd H p o = G) (D : Dr q c ns lap H) (B : But q H0 H) (hp : H p = none) : Dr q c ns lap G ∧ But q H0 G ∧ But q H G ∧ p ≠ q ∧ G p = some o := by
  subst hG
  refine ⟨D.neu hp, B.neu hp, (But.refl q H).neu hp, ?_, upd_same⟩
  intro e
  obtain ⟨_, ⟨_, h⟩, _⟩ := D
  rw [e, h] at hp
  cases hp
/-- what stood at p is exchanged -/
theorem stored {u : HO} (hG : upd H p o = G) (D : Dr q c ns lap H) (np : p ≠ q) (ep : H p = some u) (d : ∀ xs, u ≠ .lst xs) : Dr q c ns lap G ∧ G p = some o := by
  subst hG
  obtain ⟨ne, ⟨rest, h⟩, hc, hl⟩ := D
  exact ⟨⟨ne, ⟨rest, by rw [upd_ne np.symm]; exact h⟩, by rw [upd_ne (ne_of hc ep (d _).symm)]; exact hc, hl⟩, upd_same⟩
theorem but_put {H1 : Hp} (hG : upd H p o = G) (B : But q H1 H) (hp : H1 p = none) : But q H1 G := by
  subst hG
  intro b u n e
  rw [upd_ne (ne_of_none e hp)]
  exact B b u n e
/-- a fact of each item -/
inductive EachP (F : V → Prop) : List V → Prop
  | nil : EachP F []
  | cons {x : V} {r : List V} (h : F x) (t : EachP F r) : EachP F (x :: r)
theorem EachP.get {F : V → Prop} {v : V} : ∀ {xs : List V} {i : Nat}, EachP F xs → xs[i]? = some v → F v
  | _, i, .nil, h => by simp at h
  | _, 0, .cons h _, e => by
    have e' := Option.some.inj e
    rw [← e']
    exact h
  | _, i + 1, .cons _ t, e => EachP.get (i := i) t (by simpa using e)
theorem EachP.mem {F : V → Prop} {xs : List V} (h : EachP F xs) : ∀ x ∈ xs, F x := fun x m => by
  obtain ⟨i, hi⟩ := List.mem_iff_getElem?.mp m
  exact h.get hi
theorem EachP.imp {F F' : V → Prop} (f : ∀ v, F v → F' v) : ∀ {xs : List V}, EachP F xs → EachP F' xs
  | _, .nil => .nil
  | _, .cons h t => .cons (f _ h) (EachP.imp f t)
theorem lt_ok {n m : Nat} (h : Nat.ble (n + 1) m = true) : n < m := Nat.le_of_ble_eq_true h
theorem le_ok {n m : Nat} (h : Nat.ble n m = true) : n ≤ m := Nat.le_of_ble_eq_true h
/-- an int within bounds -/
def IntIn (lo hi : Int) (v : V) : Prop := ∃ i, v = .int i ∧ lo ≤ i ∧ i ≤ hi
theorem log_ok {i : Int} (h : i.natAbs < 2 ^ 80) : i.natAbs.log2 < 1920 := by
  by_cases e : i.natAbs = 0
  · rw [e]
    decide
  · exact Nat.lt_of_lt_of_le ((Nat.log2_lt e).mpr h) (by decide)
theorem r_disp {trs : List (TE × TE)} (h : ∀ p, H p = none → tPairs trs σ (upd H p (.dK [])) fun ps G => G p = some (.dK []) ∧ ∃ kvs : List (Key × V), ps = kvs.map (fun kv => (kV kv.1, kv.2)) ∧ kvs.length ≤ 15 ∧ Q (.ref p) (upd G p (.dK (mergeK [] kvs)))) : tDisp trs σ H Q := h
theorem r_pair {r : List (TE × TE)} {R : List (V × V) → Hp → Prop} (h : tk σ H fun x G => tv σ G fun y G2 => tPairs r σ G2 fun ps G3 => R ((x, y) :: ps) G3) : tPairs ((tk, tv) :: r) σ H R := h
theorem r_pair0 {R : List (V × V) → Hp → Prop} (h : R [] H) : tPairs [] σ H R := h
theorem r_chain {r r' : R2} {ta tb tc : TE} (h : ta σ H fun x G => tb σ G fun y G2 => r x y G2 fun z G3 => ∃ k, z = .bl k ∧ (if k = true then tc σ G3 fun w G4 => r' y w G4 Q else Q (.bl false) G3)) : tChain r r' ta tb tc σ H Q := h
theorem r_U {g : Int → V} {i : Int} (h : Q (g i) H) : rU g (.int i) H Q := ⟨i, rfl, h⟩
theorem r_gtup {n : Nat} {t : TGs} {R : L2.St → Hp → Prop} (h : ∃ a xs, v = .ref a ∧ SqT K H a xs ∧ xs.length = n ∧ t xs σ H R) : gTup K n t v σ H R := h
end
end Rp
namespace Rp
open PySem PySem.Spec PyProof.Rows L2
section
variable {K : PySem.W.Frag} {q c p : Addr} {ns : List Int} {lap : Nat} {H0 H G : Hp} {o : HO} {Q : VK} {σ : L2.St} {x y v : V} {b : Bool} {F : V → Prop}
theorem eq_nil {nums : List Int} (hc : H c = some (.lst (nums.map V.int))) (hp : H p = some (.lst [])) (h : Q (.bl nums.isEmpty) H) : rEqD K (.ref c) (.ref p) H Q :=
  ⟨_, _, .lst (SqL.of hc) (dp_ints nums), .lst (SqL.of hp) .nil, shaped_ints nums, shaped_ints [], by rw [eqv_nil_ints]; exact h⟩
theorem bools_len (a b : Bool) : (PyData.list [.bool a, .bool b]).shown.length ≤ sizeLine := by
  cases a <;> cases b <;> exact Nat.le_trans (m := 100) (by decide +kernel) (by decide)
/-- repr of two truths -/
theorem r_bools {a b : Bool} (e : H p = some (.lst [.bl a, .bl b])) (h : Q (.str (PyData.list [.bool a, .bool b]).shown) H) : rRepr K [.ref p] H Q :=
  ⟨p, _, rfl, .lst (SqL.of e) (.cons (.bl a) (.cons (.bl b) .nil)), by simp [PyData.showable, PyData.showableAll], by simp [PyData.depth, PyData.depthAll], bools_len a b, h⟩
theorem r_ne_same {s : Str} (h : Q (.bl false) H) : rNe (.str s) (.str s) H Q := ⟨rfl, by rw [decide_eq_true rfl]; exact h⟩
theorem r_eq_same {s : Str} (h : Q (.bl true) H) : rEq (.str s) (.str s) H Q := ⟨rfl, by rw [decide_eq_true rfl]; exact h⟩
theorem inB_no {lo hi : Option Int} (h : isI v = false) : inB v lo hi = false := by cases v <;> first | rfl | cases h
theorem clk_no (h : isI v = false) : clk v = false := by cases v <;> first | rfl | cases h
/-- prime, as the law reckons it -/
def prB (n : Int) : Bool := (((List.range (n - 2).toNat).filter fun j : Nat => decide (n.fmod (2 + (j : Int)) = 0)).map fun j : Nat => 2 + (j : Int)).isEmpty
theorem clk_pr {n : Int} (h0 : 3 ≤ n) (h1 : n ≤ 31) : clk (.int n) = prB n := by
  have key : ∀ k : _root_.Fin 29, clk (.int (3 + (k.val : Int))) = prB (3 + (k.val : Int)) := by decide +kernel
  have e : n = 3 + (((n - 3).toNat : Nat) : Int) := by omega
  have z := key ⟨(n - 3).toNat, by omega⟩
  rw [e]
  exact z
theorem clk_out {n : Int} (h : n < 3 ∨ 31 < n) : clk (.int n) = false := by
  simp only [clk, clocks, List.contains_cons, List.contains_nil, Bool.or_false, Bool.or_eq_false_iff, beq_eq_false_iff_ne]
  omega
theorem EachP.append {xs ys : List V} (h : EachP F xs) (k : EachP F ys) : EachP F (xs ++ ys) := by
  induction h with
  | nil => exact k
  | cons a _ ih => exact .cons a ih
theorem EachP.of {xs : List V} (h : ∀ x ∈ xs, F x) : EachP F xs := by
  induction xs with
  | nil => exact .nil
  | cons a r ih => exact .cons (h a (List.mem_cons_self ..)) (ih fun x m => h x (List.mem_cons_of_mem _ m))
theorem EachP.sub {xs ys : List V} (h : EachP F ys) (s : ∀ x ∈ xs, x ∈ ys) : EachP F xs := .of fun x m => h.mem x (s x m)
theorem cut_lo {xs : List V} {n : Nat} (h : n ≤ xs.length) : cutV xs none (some (n : Int)) = xs.take n := by
  unfold cutV
  rw [HT.sIx_nat, HT.sIx_none, Nat.sub_zero, Nat.min_eq_left h, List.drop_zero]
theorem cut_hi {xs : List V} {n : Nat} (h : n ≤ xs.length) : cutV xs (some (n : Int)) none = xs.drop n := by
  unfold cutV
  rw [HT.sIx_nat, HT.sIx_none, Nat.min_eq_left h]
  exact List.take_of_length_le (by rw [List.length_drop]; omega)
theorem row_yes {xs : List V} {clock : Int} (h : EachP (IntIn 0 (clock - 1)) xs) : rowB (some xs) clock (xs.length : Int) = true := by
  simp only [rowB, decide_true, Bool.true_and, List.all_eq_true]
  intro x m
  obtain ⟨i, rfl, h0, h1⟩ := h.mem x m
  simp [inB, h0, h1]
theorem row_no {xs : List V} {clock size : Int} (m : x ∈ xs) (h : inB x (some 0) (some (clock - 1)) = false) : rowB (some xs) clock size = false := by
  simp only [rowB, Bool.and_eq_false_iff, List.all_eq_false]
  exact .inr ⟨x, m, by rw [h]; exact Bool.false_ne_true⟩
theorem row_size {xs : List V} {clock size : Int} (h : (xs.length : Int) ≠ size) : rowB (some xs) clock size = false := by simp [rowB, h]
theorem Dr.same (d : Dr q c ns lap H) (s : Same H G) : Dr q c ns lap G := by
  obtain ⟨ne, ⟨rest, h⟩, hc, hl⟩ := d
  exact ⟨ne, ⟨rest, s _ _ h⟩, s _ _ hc, hl⟩
theorem same_but (s : Same H G) : But q H G := fun b u _ e => s b u e
theorem IntIn.any {lo hi : Int} (h : IntIn lo hi v) : Any q H v := by
  obtain ⟨i, rfl, _⟩ := h
  exact .num i
end
end Rp
namespace Rp
open PySem PySem.Spec PyProof.Rows L2
/-- (value, many, due) with due what is_row tells of value -/
def RowItem (q : Addr) (clock : Int) (H : Hp) (v : V) : Prop := ∃ (t a : Addr) (m : Int) (d : Bool) (xs : List V), v = .ref t ∧ t ≠ q ∧ H t = some (.tup [.ref a, .int m, .bl d]) ∧ RowV q H (.ref a) (some xs) ∧ xs.length < 1000 ∧ rowB (some xs) clock m = d
section
variable {q : Addr} {clock : Int} {H H' : Hp} {v : V}
theorem RowItem.but (h : RowItem q clock H v) (b : But q H H') : RowItem q clock H' v := by
  obtain ⟨t, a, m, d, xs, e, n, ht, hr, hl, hd⟩ := h
  exact ⟨t, a, m, d, xs, e, n, b _ _ n ht, hr.but b, hl, hd⟩
theorem any_all {xs : List V} (h : EachP (Any q H) xs) : ∀ x ∈ xs, Any q H x := h.mem
theorem rep_one {n : Nat} {x : V} : (List.replicate n [x]).flatten = List.replicate n x := by
  induction n with
  | zero => rfl
  | succ n ih => rw [List.replicate_succ, List.flatten_cons, ih, List.replicate_succ]; rfl
theorem all_rep {F : V → Prop} {n : Nat} {x : V} (h : F x) : EachP F (List.replicate n x) := .of fun y m => by
  rw [(List.mem_replicate.mp m).2]
  exact h
theorem r_catA {K : PySem.W.Frag} {a b : Addr} {xs ys : List V} {Q : VK} (ha : SqT K H a xs) (hb : H b = some (.tup ys)) (hz : xs.length + ys.length ≤ sizeLine) (ny : ys ≠ [])
    (h : ∀ p G, G p = some (.tup (xs ++ ys)) → (G = H ∧ p = b ∨ H p = none ∧ G = upd H p (.tup (xs ++ ys))) → Q (.ref p) G) : rCatA K (.ref a) (.ref b) H Q := by
  refine ⟨a, b, xs, ys, rfl, rfl, ha, SqT.of hb, hz, fun e => ?_, fun _ e => absurd e ny, fun _ _ p hp => h p _ upd_same (.inr ⟨hp, rfl⟩)⟩
  subst e
  exact h b H hb (.inl ⟨rfl, rfl⟩)
theorem alloc_or {c p b : Addr} {ns : List Int} {lap : Nat} {H0 G : Hp} {o : HO} (z : G = H ∧ p = b ∨ H p = none ∧ G = upd H p o) (D : Dr q c ns lap H) (B : But q H0 H) (nb : b ≠ q) : Dr q c ns lap G ∧ But q H0 G ∧ But q H G ∧ p ≠ q := by
  rcases z with ⟨rfl, rfl⟩ | ⟨hp, rfl⟩
  · exact ⟨D, B, But.refl _ _, nb⟩
  · obtain ⟨a1, a2, a3, a4, _⟩ := alloc rfl D B hp
    exact ⟨a1, a2, a3, a4⟩
end
end Rp
namespace Rp
open PySem PySem.Spec PyProof.Rows L2
section
variable {K : PySem.W.Frag} {c p : Addr} {H : Hp} {Q : VK}
/-- two int lists that are the same -/
theorem eq_nums {nums : List Int} (hc : H c = some (.lst (nums.map V.int))) (hp : H p = some (.lst (nums.map V.int))) (h : Q (.bl true) H) : rEqD K (.ref c) (.ref p) H Q :=
  ⟨_, _, .lst (SqL.of hc) (dp_ints nums), .lst (SqL.of hp) (dp_ints nums), shaped_ints nums, shaped_ints nums, by
    rw [SeqAt.eqv_refl _ (by rw [PyData.canLay0]; exact canLay_ints nums)]
    exact h⟩
end
/-- the law: True, whatever the script -/
def spLaw (K : PySem.W.Frag) : Sp := fun vs H Q _ => ∃ (a : Addr) (ns : List Int), vs = [.ref a] ∧ SqL K H a (ns.map V.int) ∧ ∀ H', Q (.bl true) H'
end Rp
local macro_rules | `(tactic| walk_at "re") => `(tactic| with_reducible first
  | refine Rp.r_op ?_ | refine Rp.r_test ?_ | refine Rp.r_if ?_ | refine Rp.r_asg ?_ | refine Rp.r_ret ?_
  | refine Rp.r_cb ?_ | refine Rp.r_cons ?_ | refine Rp.r_nil ?_ | refine Rp.r_c ?_ | refine Rp.r_gname ?_ | refine Rp.r_gsub ?_ | refine Rp.r_next ?_ | refine Rp.r_drop ?_
  | refine Rp.r_I0 ?_ | refine Rp.r_tb ?_ | refine Rp.r_not ?_ | refine Rp.r_and ?_ | refine Rp.r_or ?_ | refine Rp.r_sl ?_ | refine Rp.r_pnone ?_ | refine Rp.r_pint ?_
  | refine Rp.r_lst ?_ | refine Rp.r_tup ?_ | refine Rp.r_lc ?_ | refine Rp.r_ilist ?_ | refine Rp.r_itup ?_ | refine Rp.r_irng1 ?_ | refine Rp.r_irng2 ?_ | refine Rp.r_for ?_ | refine Rp.r_par ?_ | refine Rp.r_go ?_ | refine Rp.r_kw ?_ | refine Rp.r_disp ?_ | refine Rp.r_pair ?_ | refine Rp.r_pair0 ?_ | refine Rp.r_chain ?_ | refine Rp.r_U ?_ | refine Rp.r_gtup ?_ | refine Rp.r_un ?_ | refine Rp.r_ifx ?_ | refine Rp.r_bl ?_ | refine Rp.r_andV ?_ | refine Rp.r_orV ?_ | refine Rp.r_notV ?_ | refine Rp.r_call ?_ | refine Rp.r_yes ?_ | refine Rp.r_true ?_ | refine Rp.r_false ?_ | refine Rp.r_truen ?_ | refine Rp.r_falsen ?_)
local macro_rules | `(tactic| walk_at "ex") => `(tactic| with_reducible first | refine Rp.r_op ?_ | refine Rp.r_test ?_ | refine Rp.r_cb ?_ | refine Rp.r_cons ?_ | refine Rp.r_nil ?_ | refine Rp.r_c ?_ | refine Rp.r_gname ?_ | refine Rp.r_gsub ?_ | refine Rp.r_I0 ?_ | refine Rp.r_tb ?_ | refine Rp.r_not ?_ | refine Rp.r_and ?_ | refine Rp.r_or ?_ | refine Rp.r_sl ?_ | refine Rp.r_pnone ?_ | refine Rp.r_pint ?_ | refine Rp.r_lst ?_ | refine Rp.r_tup ?_ | refine Rp.r_lc ?_ | refine Rp.r_ilist ?_ | refine Rp.r_itup ?_ | refine Rp.r_irng1 ?_ | refine Rp.r_irng2 ?_ | refine Rp.r_go ?_ | refine Rp.r_kw ?_ | refine Rp.r_disp ?_ | refine Rp.r_pair ?_ | refine Rp.r_pair0 ?_ | refine Rp.r_chain ?_ | refine Rp.r_U ?_ | refine Rp.r_gtup ?_ | refine Rp.r_un ?_ | refine Rp.r_ifx ?_ | refine Rp.r_bl ?_ | refine Rp.r_andV ?_ | refine Rp.r_orV ?_ | refine Rp.r_notV ?_ | refine Rp.r_call ?_ | refine Rp.r_yes ?_ | refine Rp.r_true ?_ | refine Rp.r_false ?_ | refine Rp.r_truen ?_ | refine Rp.r_falsen ?_)
local macro_rules | `(tactic| walk_at "v") => `(tactic| ((with_reducible refine Rp.r_varE ?_); refine ⟨_, rfl, ?_⟩))
local macro_rules | `(tactic| walk_at "rex") => `(tactic| repeat (first | walk_at "ex" | walk_at "v"))
local macro_rules | `(tactic| walk_at "rd") => `(tactic| first | with_reducible refine Rp.r_seq ?_ | walk_at "re")
local macro_rules | `(tactic| walk_at "res") => `(tactic| repeat (first | walk_at "re" | walk_at "v"))
local macro_rules | `(tactic| walk_at "rds") => `(tactic| repeat (first | walk_at "rd" | walk_at "v"))
local macro_rules | `(tactic| walk_at "T") => `(tactic| (walk_at "rds"; refine L2.iteT ?_; walk_at "rds"))
local macro_rules | `(tactic| walk_at "F") => `(tactic| (walk_at "rds"; refine L2.iteF ?_; walk_at "rds"))
namespace K02
open PySem PySem.Spec PyProof.Rows L2 Rp
def top (i : Nat) : Stmt := PySem.Challenge.pw_ropesays_k02_integers_clocks_and_rows.main.body.getD i (.Pass ⟨0, 0, 0, 0⟩)
structure Txt (K : PySem.W.Frag) (mg : Str → Option Value) (tp : Addr) : Prop where
  g_CLOCKS : mg "CLOCKS" = some (.ref tp)
  o_CLOCKS : ∀ {H : Hp}, SqT K H tp [.int 3, .int 5, .int 7, .int 11, .int 13, .int 17, .int 19, .int 23, .int 29, .int 31]
  z_abs : mg "abs" = none
  z_all : mg "all" = none
  z_bool : mg "bool" = none
  z_int : mg "int" = none
  z_isinstance : mg "isinstance" = none
  z_len : mg "len" = none
  z_list : mg "list" = none
  z_range : mg "range" = none
  z_repr : mg "repr" = none
  z_str : mg "str" = none
  z_tuple : mg "tuple" = none
section
variable {P : Program} {w : World} {K : PySem.W.Frag} {mg : Str → Option Value} {base : Heap} {tp : Addr}
abbrev sLawQuay : Stmt := top 7
theorem scLawQuay : FnScope ["script", "cell"] ["script"] (defScope sLawQuay) := ⟨rfl, rfl, rfl, by decide +kernel, rfl, by decide +kernel, by decide +kernel⟩
theorem ok_LawQuay {f : Addr} {fd : FuncData} (F : Fun K "_law_quay" "_law_quay" sLawQuay f fd) (T : Txt K mg tp) (hM : HasMods base)   : FnG P w K mg base 1 f fd ["script"] (spBox K) := by
  refine fng F scLawQuay (fun {vs H Q E} h => ?_) (fun {cdv A fr s H vs Q E} hg hr h => ?_)
  · obtain ⟨a, ns, rfl, hS, k⟩ := h
    rfl
  · obtain ⟨a, ns, rfl, hS, k⟩ := h
    refine ⟨_, (pss_one (ps_ret (pe_lst (pa_cons (pe_lc (own := [("cell", 1)]) (g := gName 1) (tt := tYes) rfl scLawQuay.nd (pi_list (pe_slice sl_list (pv 0) po_none (po_some pe_int))) (blkOk_by (own := [("cell", 1)]) (N := ["script", "cell"]) (sc := defScope sLawQuay) (by decide +kernel)) (fun _ _ _ _ _ => (pg_name (i := 1) scLawQuay.nd rfl (Or.inl rfl))) (fun _ _ _ _ _ => pts_nil) (fun _ _ _ _ _ => (pe_callTy call_int1 (by rfl) T.z_int (by decide +kernel) (pa_cons (pv 1) pa_nil)))) (pa_cons pe_int (pa_cons pe_int pa_nil)))))), ?_⟩
    refine r_start (l := [some (.ref a), none]) rfl ?_
    walk_at "rds"
    refine ⟨_, rfl, ?_⟩
    refine ⟨_, _, rfl, hS, fun p hp => ?_⟩
    have s1 : Same H (upd H p (.lst (cutV (ns.map V.int) none (some 60)))) := same_neu (Same.refl H) hp
    obtain ⟨ns', ec, el⟩ := cut60 ns
    rw [ec] at s1 ⊢
    generalize hH1 : upd H p _ = H1
    rw [hH1] at s1
    have hp1 : H1 p = some (.lst (ns'.map V.int)) := by rw [← hH1]; exact upd_same
    refine ⟨p, rfl, ⟨_, SqL.of hp1⟩, fun D hD => ?_⟩
    refine lc_list (K := K) (a := p) (xs := ns'.map V.int) (fun i H' => H' D = some (.lst ((ns'.take i).map V.int)) ∧ ∀ b o, b ≠ D → H1 b = some o → H' b = some o)
      ⟨upd_same, fun b o n e => by rw [upd_ne n]; exact e⟩ (fun i H' _ ⟨_, s2⟩ => SqL.of (s2 p _ (ne_of_none hp1 hD) hp1)) ?_ ?_
    · rintro i x H' hi ⟨hD', s2⟩
      have hi' : i < ns'.length := by
        have q := (List.getElem?_eq_some_iff.mp hi).1
        rw [List.length_map] at q
        exact q
      obtain ⟨n, en, rfl⟩ : ∃ n, ns'[i]? = some n ∧ x = V.int n := by
        rw [List.getElem?_map] at hi
        cases e : ns'[i]? with
        | none => rw [e] at hi; cases hi
        | some u => rw [e] at hi; exact ⟨u, rfl, (Option.some.inj hi).symm⟩
      walk_at "rds"
      refine ⟨rfl, ?_⟩
      walk_at "rds"
      refine .inl ⟨_, rfl, ?_⟩
      refine ⟨_, hD', ?_, ?_, fun b o n e => by rw [upd_ne n]; exact s2 b o n e⟩
      · rw [List.length_map, List.length_take]
        exact small1000 (by omega)
      · rw [upd_same, List.take_succ, en, Option.toList_some, List.map_append]
        rfl
    · rintro H' ⟨hD', s2⟩
      rw [List.length_map, List.take_length] at hD'
      walk_at "rds"
      refine ⟨len_ok rfl, fun q hq => ?_⟩
      have nD : H D = none := s1.free hD
      refine k _ q D ns' ⟨ne_of_none hD' hq, ⟨0, upd_same⟩, by rw [upd_ne (ne_of_none hD' hq)]; exact hD', el⟩ (fun b o e => ?_) ?_
      · have e1 := s1 b o e
        have e2 := s2 b o (ne_of_none e nD) e1
        rw [upd_ne (ne_of_none e2 hq)]
        exact e2
      · cases e : H q with
        | none => rfl
        | some o =>
          have e2 := s2 q o (ne_of_none e nD) (s1 q o e)
          rw [hq] at e2
          cases e2
abbrev sLawHaulIn : Stmt := top 8
theorem scLawHaulIn : FnScope ["quay", "many", "rest", "lap", "cell", "mixed"] ["quay", "many"] (defScope sLawHaulIn) := ⟨rfl, rfl, rfl, by decide +kernel, rfl, by decide +kernel, by decide +kernel⟩
theorem ok_LawHaulIn {f : Addr} {fd : FuncData} (F : Fun K "_law_haul_in" "_law_haul_in" sLawHaulIn f fd) (T : Txt K mg tp) (hM : HasMods base)   : FnG P w K mg base 1 f fd ["quay", "many"] spDraw := by
  refine fng F scLawHaulIn (fun {vs H Q E} h => ?_) (fun {cdv A fr s H vs Q E} hg hr h => ?_)
  · obtain ⟨q, c, ns, lap, many, rfl, hm, hm2, hlap, ⟨ne, ⟨rest, hb⟩, hc, hl⟩, k⟩ := h
    rfl
  · obtain ⟨q, c, ns, lap, many, rfl, hm, hm2, hlap, ⟨ne, ⟨rest, hb⟩, hc, hl⟩, k⟩ := h
    refine ⟨_, (pss_cons (ps_if (pt_cmpR op_gt (pe_ix ix_list (pv 0) pe_int (fun _ _ => rfl)) pe_int (nomark _))
  (pss_cons (ps_set (i := 2) scLawHaulIn.nd rfl (Or.inl rfl) (pe_callTy call_int1 (by rfl) T.z_int (by decide +kernel) (pa_cons (pe_ix ix_list (pv 0) pe_int (fun _ _ => rfl)) pa_nil)))
  (pss_cons (ps_asg (pe_op op_fdivN (pv 2) (pv 1)) (pg_sub (pv 0) pe_int set_list))
  (pss_one (ps_ret (pe_op op_modN (pe_callTy call_int1 (by rfl) T.z_int (by decide +kernel) (pa_cons (pv 2) pa_nil)) (pv 1))))))
  pss_nil)
  (pss_cons (ps_set (i := 3) scLawHaulIn.nd rfl (Or.inl rfl) (pe_ix ix_list (pv 0) pe_int (fun _ _ => rfl)))
  (pss_cons (ps_asg (pe_op op_add (pv 3) pe_int) (pg_sub (pv 0) pe_int set_list))
  (pss_cons (ps_set (i := 4) scLawHaulIn.nd rfl (Or.inl rfl) (pe_op op_add (pe_op op_mul pe_int (pv 3)) pe_int))
  (pss_cons (ps_if (pt_cmpR (op_neD hr.units) (pe_ix ix_list (pv 0) pe_int (fun _ _ => rfl)) (pe_lst pa_nil) (nomark _))
  (pss_one (ps_set (i := 4) scLawHaulIn.nd rfl (Or.inl rfl) (pe_ix ix_list (pe_ix ix_list (pv 0) pe_int (fun _ _ => rfl)) (pe_op op_modN (pe_callTy call_int1 (by rfl) T.z_int (by decide +kernel) (pa_cons (pv 3) pa_nil)) (pe_callB call_len_seq (by rfl) T.z_len PySem.boot_len (pa_cons (pe_ix ix_list (pv 0) pe_int (fun _ _ => rfl)) pa_nil))) (fun _ _ => rfl))))
  pss_nil)
  (pss_cons (ps_if (PW.pt (pw_and (pt_cmpR op_lt (pv 3) (pe_callB call_len_seq (by rfl) T.z_len PySem.boot_len (pa_cons (pe_ix ix_list (pv 0) pe_int (fun _ _ => rfl)) pa_nil)) (nomark _)) (pw_and1 (pt_cmpR op_ge (pe_callB call_abs (by rfl) T.z_abs (by decide +kernel) (pa_cons (pv 4) pa_nil)) (pe_op op_pow pe_int pe_int) (nomark _)))))
  (pss_cons (ps_set (i := 2) scLawHaulIn.nd rfl (Or.inl rfl) (pe_op op_add (pe_op op_mul pe_int (pe_op op_sub (pe_callB call_abs (by rfl) T.z_abs (by decide +kernel) (pa_cons (pv 4) pa_nil)) (pe_op op_pow pe_int pe_int))) (pe_callTy call_int1 (by rfl) T.z_int (by decide +kernel) (pa_cons (pe_cmpR op_lt (pv 4) pe_int (nomark _)) pa_nil))))
  (pss_cons (ps_asg (pe_op op_fdivN (pv 2) (pv 1)) (pg_sub (pv 0) pe_int set_list))
  (pss_one (ps_ret (pe_op op_modN (pe_callTy call_int1 (by rfl) T.z_int (by decide +kernel) (pa_cons (pv 2) pa_nil)) (pv 1))))))
  pss_nil)
  (pss_cons (ps_set (i := 5) scLawHaulIn.nd rfl (Or.inl rfl) (pe_op op_modN (pe_callTy call_int1 (by rfl) T.z_int (by decide +kernel) (pa_cons (pe_op op_pow (pe_op op_add (pe_op op_add (pe_op op_modN (pe_callTy call_int1 (by rfl) T.z_int (by decide +kernel) (pa_cons (pv 4) pa_nil)) pe_int) (pe_op op_mul pe_int (pv 3))) pe_int) pe_int) pa_nil)) pe_int))
  (pss_cons (ps_set (i := 5) scLawHaulIn.nd rfl (Or.inl rfl) (pe_op op_modN (pe_callTy call_int1 (by rfl) T.z_int (by decide +kernel) (pa_cons (pe_op op_pow (pe_op op_add (pe_op op_add (pe_op op_mul (pv 5) (pe_op op_add (pe_op op_mul pe_int (pv 3)) pe_int)) (pe_op op_mul (pe_op op_mul pe_int (pv 3)) (pv 3))) pe_int) pe_int) pa_nil)) pe_int))
  (pss_one (ps_ret (pe_op op_modN (pe_callTy call_int1 (by rfl) T.z_int (by decide +kernel) (pa_cons (pe_op op_fdivN (pv 5) pe_int) pa_nil)) (pv 1)))))))))))), ?_⟩
    refine r_start (l := [some (.ref q), some (.int many), none, none, none, none]) rfl ?_
    have hmN : many.natAbs < 1073741824 := by omega
    have hm0 : many ≠ 0 := by omega
    have bq : ∀ {o : HO}, But q H (upd H q o) := fun {o} => But.upd o
    -- if quay[2] > 0
    walk_at "rds"
    refine r_ixL (SqL.of hb) at2 ?_
    walk_at "rds"
    refine ite2 (fun hpos => ?_) (fun _ => ?_)
    · walk_at "rds"
      refine r_ixL (SqL.of hb) at2 ?_
      walk_at "rds"
      refine .inl ⟨_, rfl, ?_⟩
      walk_at "rds"
      refine r_I ⟨hm0, hmN⟩ ?_
      walk_at "rds"
      refine r_setL hb (k := 2) rfl ?_
      walk_at "rds"
      refine .inl ⟨_, rfl, ?_⟩
      walk_at "rds"
      refine r_I hm0 ?_
      exact k _ lap _ (by omega) ⟨ne, ⟨_, upd_same⟩, by rw [upd_ne ne]; exact hc, hl⟩ bq (fmod_in hm).1 (fmod_in hm).2
    -- lap = quay[1]; quay[1] = lap + 1; cell = ..
    walk_at "rds"
    refine r_ixL (SqL.of hb) at1 ?_
    walk_at "rds"
    refine r_setL hb (k := 1) rfl ?_
    walk_at "rds"
    refine r_I (.inl ⟨by decide, by decide⟩) ?_
    generalize hH1 : upd H q _ = H1
    have hb1 : H1 q = some (.lst [.ref c, .int ((lap + 1 : Nat) : Int), .int rest]) := by rw [← hH1]; exact upd_same
    have hc1 : H1 c = some (.lst (ns.map V.int)) := by rw [← hH1, upd_ne ne]; exact hc
    have q1 : But q H H1 := by rw [← hH1]; exact bq
    clear hH1 hb hc bq
    walk_at "res"
    with_reducible refine r_cut (fun σ H' => ∃ cell : Int, σ = [some (.ref q), some (.int many), none, some (.int (lap : Int)), some (.int cell), none] ∧ H' q = some (.lst [.ref c, .int ((lap + 1 : Nat) : Int), .int rest]) ∧ H' c = some (.lst (ns.map V.int)) ∧ But q H H') ?_ fun go => ?_
    rotate_left
    · -- if quay[0] != []
      walk_at "rds"
      refine r_ixL (SqL.of hb1) at0 ?_
      walk_at "rds"
      refine ⟨len_ok rfl, fun p hp => ?_⟩
      have hb2 : upd H1 p (.lst []) q = some (.lst [.ref c, .int ((lap + 1 : Nat) : Int), .int rest]) := by rw [upd_ne (ne_of_none hb1 hp)]; exact hb1
      have hc2 : upd H1 p (.lst []) c = some (.lst (ns.map V.int)) := by rw [upd_ne (ne_of_none hc1 hp)]; exact hc1
      have q2 : But q H (upd H1 p (.lst [])) := q1.neu hp
      refine ne_nil hc2 upd_same ?_
      walk_at "rds"
      cases hns : ns.isEmpty with
      | true =>
        walk_at "res"
        exact go _ _ ⟨_, rfl, hb2, hc2, q2⟩
      | false =>
        have hlen : (0 : Int) < (ns.length : Int) := by
          cases ns with
          | nil => cases hns
          | cons n0 nr => simp <;> omega
        walk_at "rds"
        refine r_ixL (SqL.of hb2) at0 ?_
        walk_at "rds"
        refine .inl ⟨_, rfl, ?_⟩
        walk_at "rds"
        refine r_ixL (SqL.of hb2) at0 ?_
        walk_at "rds"
        refine ⟨_, _, rfl, .inl (SqL.of hc2), ?_⟩
        walk_at "rds"
        rw [map_len]
        refine r_I (by omega) ?_
        obtain ⟨cell, hcell⟩ := at_ints (ns := ns) (fmod_in (i := (lap : Int)) hlen).1 (fmod_in hlen).2
        refine r_ixL (SqL.of hc2) hcell ?_
        walk_at "res"
        exact go _ _ ⟨_, rfl, hb2, hc2, q2⟩
    clear hb1 hc1 q1 H1
    rintro σ H1 ⟨cell, rfl, hb1, hc1, q1⟩
    have D1 : Dr q c ns (lap + 1) H1 := ⟨ne, ⟨_, hb1⟩, hc1, hl⟩
    -- if lap < len(quay[0]) and abs(cell) >= 10 ** 18
    with_reducible refine r_cut (fun σ H' => σ = [some (.ref q), some (.int many), none, some (.int (lap : Int)), some (.int cell), none] ∧ H' = H1) ?_ fun go => ?_
    rotate_left
    · walk_at "rds"
      refine r_ixL (SqL.of hb1) at0 ?_
      walk_at "rds"
      refine ⟨_, _, rfl, .inl (SqL.of hc1), ?_⟩
      walk_at "rds"
      refine ite2 (fun _ => ?_) (fun _ => ?_)
      · walk_at "rds"
        refine ⟨_, rfl, ?_⟩
        walk_at "rds"
        refine r_I ⟨by decide, by decide, by decide⟩ ?_
        walk_at "rds"
        refine ite2 (fun _ => ?_) (fun _ => ?_)
        · walk_at "rds"
          refine ⟨_, rfl, ?_⟩
          walk_at "rds"
          refine r_I ⟨by decide, by decide, by decide⟩ ?_
          walk_at "rds"
          refine r_I (.inl ⟨by decide, by decide⟩) ?_
          walk_at "rds"
          refine .inr ⟨_, rfl, ?_⟩
          walk_at "rds"
          refine r_I ⟨hm0, hmN⟩ ?_
          walk_at "rds"
          refine r_setL hb1 (k := 2) rfl ?_
          walk_at "rds"
          refine .inl ⟨_, rfl, ?_⟩
          walk_at "rds"
          refine r_I hm0 ?_
          exact k _ (lap + 1) _ (by omega) ⟨ne, ⟨_, upd_same⟩, by rw [upd_ne ne]; exact hc1, hl⟩ (q1.upd2 _) (fmod_in hm).1 (fmod_in hm).2
        · walk_at "res"
          exact go _ _ ⟨rfl, rfl⟩
      · walk_at "res"
        exact go _ _ ⟨rfl, rfl⟩
    rintro σ H' ⟨rfl, rfl⟩
    -- mixed
    walk_at "rds"
    refine .inl ⟨_, rfl, ?_⟩
    walk_at "rds"
    refine r_I (by decide) ?_
    walk_at "rds"
    refine r_I (.inl ⟨by decide, by decide⟩) ?_
    walk_at "rds"
    have f1 := fmod_in (i := cell) (j := 2147483549) (by decide)
    refine r_I ⟨by decide, by decide, by omega⟩ ?_
    generalize (_ : Int) ^ (_ : Nat) = big1
    walk_at "rds"
    refine .inl ⟨_, rfl, ?_⟩
    walk_at "rds"
    refine r_I (by decide) ?_
    have f2 := fmod_in (i := big1) (j := 2147483543) (by decide)
    revert f2
    generalize big1.fmod _ = mixed
    intro f2
    walk_at "rds"
    refine r_I (.inl ⟨by decide, by decide⟩) ?_
    walk_at "rds"
    refine r_I (.inl ⟨by omega, by omega⟩) ?_
    walk_at "rds"
    refine r_I (.inl ⟨by decide, by decide⟩) ?_
    walk_at "rds"
    refine r_I (.inl ⟨by omega, by omega⟩) ?_
    walk_at "rds"
    refine r_I ⟨by decide, by decide, fits3 f2.1 (by omega) hlap (by decide) (by decide) (by decide) (by decide) (by decide) (by decide)⟩ ?_
    generalize (_ : Int) ^ (_ : Nat) = big2
    walk_at "rds"
    refine .inl ⟨_, rfl, ?_⟩
    walk_at "rds"
    refine r_I (by decide) ?_
    generalize big2.fmod _ = mixed2
    walk_at "rds"
    refine r_I ⟨by decide, by decide⟩ ?_
    walk_at "rds"
    refine .inl ⟨_, rfl, ?_⟩
    walk_at "rds"
    refine r_I hm0 ?_
    exact k _ (lap + 1) _ (by omega) D1 q1 (fmod_in hm).1 (fmod_in hm).2
abbrev sLawOf : Stmt := top 9
theorem scLawOf : FnScope ["quay", "some"] ["quay", "some"] (defScope sLawOf) := ⟨rfl, rfl, rfl, by decide +kernel, rfl, by decide +kernel, by decide +kernel⟩
theorem ok_LawOf {f : Addr} {fd : FuncData} (F : Fun K "_law_of" "_law_of" sLawOf f fd) (T : Txt K mg tp) (hM : HasMods base) {f0 : Addr} {fd0 : FuncData} (cLawHaulIn : Cal P w K mg base "_law_haul_in" 1 f0 fd0 ["quay", "many"] spDraw)  : FnG P w K mg base 2 f fd ["quay", "some"] (spOf K) := by
  refine fng F scLawOf (fun {vs H Q E} h => ?_) (fun {cdv A fr s H vs Q E} hg hr h => ?_)
  · obtain ⟨q, c, a, ns, lap, xs, rfl, hS, h0, h1, hlap, hne, hD, k⟩ := h
    rfl
  · obtain ⟨q, c, a, ns, lap, xs, rfl, hS, h0, h1, hlap, hne, hD, k⟩ := h
    refine ⟨_, (pss_one (ps_ret (pe_ix ix_list (pv 1) (pe_go cLawHaulIn hg (hr.mono (by decide)) (by rfl) (pa_cons (pv 0) (pa_cons (pe_callB call_len_seq (by rfl) T.z_len PySem.boot_len (pa_cons (pv 1) pa_nil)) pa_nil))) (fun _ _ => rfl)))), ?_⟩
    refine r_start (l := [some (.ref q), some (.ref a)]) rfl ?_
    walk_at "rds"
    refine ⟨_, _, rfl, .inl hS, ?_⟩
    walk_at "rds"
    refine ⟨q, c, ns, lap, _, rfl, by omega, by omega, hlap, hD, fun H' lap' r hl D' B r0 r1 => ?_⟩
    obtain ⟨i, v, e1, e2⟩ := at_some r0 r1
    refine r_ixL (B.seq hne hS) e1 ?_
    exact k _ _ i v hl D' B e2
end
end K02
namespace K02
open PySem PySem.Spec PyProof.Rows L2 Rp
section
variable {P : Program} {w : World} {K : PySem.W.Frag} {mg : Str → Option Value} {base : Heap} {tp : Addr}
abbrev sIsInteger : Stmt := top 2
theorem scIsInteger : FnScope ["value"] ["value"] (defScope sIsInteger) := ⟨rfl, rfl, rfl, by decide +kernel, rfl, by decide +kernel, by decide +kernel⟩
theorem ok_IsInteger {f : Addr} {fd : FuncData} (F : Fun K "is_integer" "is_integer" sIsInteger f fd) (T : Txt K mg tp) (hM : HasMods base)   : FnG P w K mg base 1 f fd ["value"] spIsInt := by
  refine fng F scIsInteger (fun {vs H Q E} h => ?_) (fun {cdv A fr s H vs Q E} hg hr h => ?_)
  · obtain ⟨q, v, rfl, ha, k⟩ := h
    rfl
  · obtain ⟨q, v, rfl, ha, k⟩ := h
    refine ⟨_, (pss_one (ps_ret (pe_and (pe_callB call_isi (by rfl) T.z_isinstance (by decide +kernel) (pa_cons (pv 0) (pa_cons (pe_bltn (by rfl) T.z_int (by decide +kernel) (v := .ty "int") rfl) pa_nil))) (pe_one (pe_not (pe_callB call_isi (by rfl) T.z_isinstance (by decide +kernel) (pa_cons (pv 0) (pa_cons (pe_bltn (by rfl) T.z_bool (by decide +kernel) (v := .ty "bool") rfl) pa_nil)))))))), ?_⟩
    refine r_start (l := [some (v)]) rfl ?_
    walk_at "rds"
    obtain ⟨t, ty, kt⟩ := any_int (K := K) ha
    refine r_isi ty kt ?_
    walk_at "rds"
    have e0 := isI_eq v
    cases e : isIB v
    · walk_at "rds"
      rw [e] at e0
      rw [← e0] at k
      exact k
    · walk_at "rds"
      obtain ⟨t, ty, kt⟩ := any_bool (K := K) ha
      refine r_isi ty kt ?_
      walk_at "rds"
      rw [e, Bool.true_and] at e0
      rw [e0]
      exact k
abbrev sIsWithin : Stmt := top 3
theorem scIsWithin : FnScope ["value", "least", "most"] ["value", "least", "most"] (defScope sIsWithin) := ⟨rfl, rfl, rfl, by decide +kernel, rfl, by decide +kernel, by decide +kernel⟩
theorem ok_IsWithin {f : Addr} {fd : FuncData} (F : Fun K "is_within" "is_within" sIsWithin f fd) (T : Txt K mg tp) (hM : HasMods base) {f0 : Addr} {fd0 : FuncData} (cIsInteger : Cal P w K mg base "is_integer" 1 f0 fd0 ["value"] spIsInt)  : FnG P w K mg base 2 f fd ["value", "least", "most"] spWithin := by
  refine fng F scIsWithin (fun {vs H Q E} h => ?_) (fun {cdv A fr s H vs Q E} hg hr h => ?_)
  · obtain ⟨q, v, lo, hi, rfl, ha, k⟩ := h
    rfl
  · obtain ⟨q, v, lo, hi, rfl, ha, k⟩ := h
    refine ⟨_, (pss_cons (ps_if (pt_not (pt_val (pe_go cIsInteger hg (hr.mono (by decide)) (by rfl) (pa_cons (pv 0) pa_nil))))
  (pss_one (ps_ret pe_bl))
  pss_nil)
  (pss_one (ps_ret (pe_and (pe_or (pe_cmpR op_isN (pv 1) pe_non (nomark _)) (pe_one (pe_cmpR op_le (pv 1) (pv 0) (nomark _)))) (pe_one (pe_or (pe_cmpR op_isN (pv 2) pe_non (nomark _)) (pe_one (pe_cmpR op_le (pv 0) (pv 2) (nomark _))))))))), ?_⟩
    refine r_start (l := [some (v), some (oV lo), some (oV hi)]) rfl ?_
    walk_at "rds"
    refine ⟨q, v, rfl, ha, ?_⟩
    walk_at "rds"
    cases v with
    | int i =>
      walk_at "F"
      refine ⟨rfl, ?_⟩
      cases lo with
      | none =>
        walk_at "rds"
        walk_at "T"
        refine ⟨rfl, ?_⟩
        cases hi with
        | none => walk_at "rds"; walk_at "T"; exact k
        | some u => walk_at "rds"; walk_at "F"; exact k
      | some l =>
        walk_at "rds"
        walk_at "F"
        have k' : Q (.bl (decide (l ≤ i) && inB (.int i) none hi)) H := by
          have e : inB (.int i) (some l) hi = (decide (l ≤ i) && inB (.int i) none hi) := by simp [inB]
          rw [← e]
          exact k
        revert k'
        cases decide (l ≤ i) with
        | false =>
          intro k'
          walk_at "rds"
          exact k'
        | true =>
          intro k'
          rw [Bool.true_and] at k'
          walk_at "rds"
          refine ⟨rfl, ?_⟩
          cases hi with
          | none => walk_at "rds"; walk_at "T"; exact k'
          | some u => walk_at "rds"; walk_at "F"; exact k'
    | non => walk_at "T"; exact k
    | bl b => walk_at "T"; exact k
    | str x => walk_at "T"; exact k
    | byt x => walk_at "T"; exact k
    | flt x => walk_at "T"; exact k
    | ref a => walk_at "T"; exact k
    | ty n => walk_at "T"; exact k
abbrev sIsClock : Stmt := top 4
theorem scIsClock : FnScope ["value"] ["value"] (defScope sIsClock) := ⟨rfl, rfl, rfl, by decide +kernel, rfl, by decide +kernel, by decide +kernel⟩
theorem ok_IsClock {f : Addr} {fd : FuncData} (F : Fun K "is_clock" "is_clock" sIsClock f fd) (T : Txt K mg tp) (hM : HasMods base) {f0 : Addr} {fd0 : FuncData} (cIsInteger : Cal P w K mg base "is_integer" 1 f0 fd0 ["value"] spIsInt)  : FnG P w K mg base 2 f fd ["value"] spClock := by
  refine fng F scIsClock (fun {vs H Q E} h => ?_) (fun {cdv A fr s H vs Q E} hg hr h => ?_)
  · obtain ⟨q, v, rfl, ha, k⟩ := h
    rfl
  · obtain ⟨q, v, rfl, ha, k⟩ := h
    refine ⟨_, (pss_one (ps_ret (pe_and (pe_go cIsInteger hg (hr.mono (by decide)) (by rfl) (pa_cons (pv 0) pa_nil)) (pe_one (pe_cmpR op_in_seq (pv 0) (pe_glob (v := .ref tp) (by rfl) T.g_CLOCKS rfl) rfl))))), ?_⟩
    refine r_start (l := [some (v)]) rfl ?_
    walk_at "rds"
    refine ⟨q, v, rfl, ha, ?_⟩
    walk_at "rds"
    cases v with
    | int i =>
      walk_at "T"
      refine ⟨_, _, rfl, .inr T.o_CLOCKS, rfl, rfl, ?_⟩
      have e : inV (.int i) [.int 3, .int 5, .int 7, .int 11, .int 13, .int 17, .int 19, .int 23, .int 29, .int 31] = clk (.int i) := by
        simp only [inV, clk, clocks, List.any_cons, List.any_nil, eqV, List.contains_cons, List.contains_nil, Bool.beq_comm (a := i)]
      show Q (.bl (inV (.int i) [.int 3, .int 5, .int 7, .int 11, .int 13, .int 17, .int 19, .int 23, .int 29, .int 31])) H
      rw [e]
      exact k
    | non => walk_at "F"; exact k
    | bl b => walk_at "F"; exact k
    | str x => walk_at "F"; exact k
    | byt x => walk_at "F"; exact k
    | flt x => walk_at "F"; exact k
    | ref a => walk_at "F"; exact k
    | ty n => walk_at "F"; exact k
abbrev sIsRow : Stmt := top 5
theorem scIsRow : FnScope ["value", "clock", "size", "number"] ["value", "clock", "size"] (defScope sIsRow) := ⟨rfl, rfl, rfl, by decide +kernel, rfl, by decide +kernel, by decide +kernel⟩
theorem ok_IsRow {f : Addr} {fd : FuncData} (F : Fun K "is_row" "is_row" sIsRow f fd) (T : Txt K mg tp) (hM : HasMods base) {f0 : Addr} {fd0 : FuncData} (cIsClock : Cal P w K mg base "is_clock" 2 f0 fd0 ["value"] spClock) {f1 : Addr} {fd1 : FuncData} (cIsWithin : Cal P w K mg base "is_within" 2 f1 fd1 ["value", "least", "most"] spWithin)  : FnG P w K mg base 3 f fd ["value", "clock", "size"] spRow := by
  refine fng F scIsRow (fun {vs H Q E} h => ?_) (fun {cdv A fr s H vs Q E} hg hr h => ?_)
  · obtain ⟨q, v, o, clock, size, rfl, _⟩ := h
    rfl
  · obtain ⟨q, v, o, clock, size, rfl, hv, hck, hln, k⟩ := h
    cases hv with
    | non =>
      refine ⟨_, (pss_cons (ps_if (PW.pt (pw_or (pt_not (pt_val (pe_go cIsClock hg (hr.mono (by decide)) (by rfl) (pa_cons (pv 1) pa_nil)))) (pw_or (pt_not (pt_val (pe_callB call_isiT (by rfl) T.z_isinstance (by decide +kernel) (pa_cons (pv 0) (pa_cons (pe_tup (pa_cons (pe_bltn (by rfl) T.z_list (by decide +kernel) (v := .ty "list") rfl) (pa_cons (pe_bltn (by rfl) T.z_tuple (by decide +kernel) (v := .ty "tuple") rfl) pa_nil))) pa_nil))))) (pw_or1 (pt_cmpR op_ne (pe_callB call_len_seq (by rfl) T.z_len PySem.boot_len (pa_cons (pv 0) pa_nil)) (pv 2) (nomark _))))))
      (pss_one (ps_ret pe_bl))
      pss_nil)
      (pss_one (ps_ret (pe_callB (cr_all rfl) (by rfl) T.z_all (by decide +kernel) (pa_cons (pe_lc (own := [("number", 3)]) (g := gName 3) (tt := tYes) rfl scIsRow.nd (pi_list (pv 0)) (blkOk_by (own := [("number", 3)]) (N := ["value", "clock", "size", "number"]) (sc := defScope sIsRow) (by decide +kernel)) (fun _ _ _ _ _ => (pg_name (i := 3) scIsRow.nd rfl (Or.inl rfl))) (fun _ _ _ _ _ => pts_nil) (fun _ _ _ _ _ => (pe_go cIsWithin hg (hr.mono (by decide)) (by rfl) (pa_cons (pv 3) (pa_cons pe_int (pa_cons (pe_op op_sub (pv 1) pe_int) pa_nil)))))) pa_nil))))), ?_⟩
      refine r_start (l := [some (V.non), some (.int clock), some (.int size), none]) rfl ?_
      have hv : RowV q H (V.non) none := by constructor <;> assumption
      walk_at "rds"
      refine ⟨q, .int clock, rfl, .num _, ?_⟩
      rw [hck]
      walk_at "rds"
      refine ⟨len_ok rfl, fun p hp => ?_⟩
      have s1 : Same H (upd H p (.tup [.ty "list", .ty "tuple"])) := same_neu (Same.refl H) hp
      have b1 : But q H (upd H p (.tup [.ty "list", .ty "tuple"])) := (But.refl q H).neu hp
      walk_at "rds"
      obtain ⟨t, ty, kt⟩ := row_seq (K := K) (hv.but b1)
      refine r_isiT upd_same ty kt ?_
      walk_at "T"
      exact k _ s1
    | bl b =>
      refine ⟨_, (pss_cons (ps_if (PW.pt (pw_or (pt_not (pt_val (pe_go cIsClock hg (hr.mono (by decide)) (by rfl) (pa_cons (pv 1) pa_nil)))) (pw_or (pt_not (pt_val (pe_callB call_isiT (by rfl) T.z_isinstance (by decide +kernel) (pa_cons (pv 0) (pa_cons (pe_tup (pa_cons (pe_bltn (by rfl) T.z_list (by decide +kernel) (v := .ty "list") rfl) (pa_cons (pe_bltn (by rfl) T.z_tuple (by decide +kernel) (v := .ty "tuple") rfl) pa_nil))) pa_nil))))) (pw_or1 (pt_cmpR op_ne (pe_callB call_len_seq (by rfl) T.z_len PySem.boot_len (pa_cons (pv 0) pa_nil)) (pv 2) (nomark _))))))
      (pss_one (ps_ret pe_bl))
      pss_nil)
      (pss_one (ps_ret (pe_callB (cr_all rfl) (by rfl) T.z_all (by decide +kernel) (pa_cons (pe_lc (own := [("number", 3)]) (g := gName 3) (tt := tYes) rfl scIsRow.nd (pi_list (pv 0)) (blkOk_by (own := [("number", 3)]) (N := ["value", "clock", "size", "number"]) (sc := defScope sIsRow) (by decide +kernel)) (fun _ _ _ _ _ => (pg_name (i := 3) scIsRow.nd rfl (Or.inl rfl))) (fun _ _ _ _ _ => pts_nil) (fun _ _ _ _ _ => (pe_go cIsWithin hg (hr.mono (by decide)) (by rfl) (pa_cons (pv 3) (pa_cons pe_int (pa_cons (pe_op op_sub (pv 1) pe_int) pa_nil)))))) pa_nil))))), ?_⟩
      refine r_start (l := [some (V.bl b), some (.int clock), some (.int size), none]) rfl ?_
      have hv : RowV q H (V.bl b) none := by constructor <;> assumption
      walk_at "rds"
      refine ⟨q, .int clock, rfl, .num _, ?_⟩
      rw [hck]
      walk_at "rds"
      refine ⟨len_ok rfl, fun p hp => ?_⟩
      have s1 : Same H (upd H p (.tup [.ty "list", .ty "tuple"])) := same_neu (Same.refl H) hp
      have b1 : But q H (upd H p (.tup [.ty "list", .ty "tuple"])) := (But.refl q H).neu hp
      walk_at "rds"
      obtain ⟨t, ty, kt⟩ := row_seq (K := K) (hv.but b1)
      refine r_isiT upd_same ty kt ?_
      walk_at "T"
      exact k _ s1
    | num i =>
      refine ⟨_, (pss_cons (ps_if (PW.pt (pw_or (pt_not (pt_val (pe_go cIsClock hg (hr.mono (by decide)) (by rfl) (pa_cons (pv 1) pa_nil)))) (pw_or (pt_not (pt_val (pe_callB call_isiT (by rfl) T.z_isinstance (by decide +kernel) (pa_cons (pv 0) (pa_cons (pe_tup (pa_cons (pe_bltn (by rfl) T.z_list (by decide +kernel) (v := .ty "list") rfl) (pa_cons (pe_bltn (by rfl) T.z_tuple (by decide +kernel) (v := .ty "tuple") rfl) pa_nil))) pa_nil))))) (pw_or1 (pt_cmpR op_ne (pe_callB call_len_seq (by rfl) T.z_len PySem.boot_len (pa_cons (pv 0) pa_nil)) (pv 2) (nomark _))))))
      (pss_one (ps_ret pe_bl))
      pss_nil)
      (pss_one (ps_ret (pe_callB (cr_all rfl) (by rfl) T.z_all (by decide +kernel) (pa_cons (pe_lc (own := [("number", 3)]) (g := gName 3) (tt := tYes) rfl scIsRow.nd (pi_list (pv 0)) (blkOk_by (own := [("number", 3)]) (N := ["value", "clock", "size", "number"]) (sc := defScope sIsRow) (by decide +kernel)) (fun _ _ _ _ _ => (pg_name (i := 3) scIsRow.nd rfl (Or.inl rfl))) (fun _ _ _ _ _ => pts_nil) (fun _ _ _ _ _ => (pe_go cIsWithin hg (hr.mono (by decide)) (by rfl) (pa_cons (pv 3) (pa_cons pe_int (pa_cons (pe_op op_sub (pv 1) pe_int) pa_nil)))))) pa_nil))))), ?_⟩
      refine r_start (l := [some (V.int i), some (.int clock), some (.int size), none]) rfl ?_
      have hv : RowV q H (V.int i) none := by constructor <;> assumption
      walk_at "rds"
      refine ⟨q, .int clock, rfl, .num _, ?_⟩
      rw [hck]
      walk_at "rds"
      refine ⟨len_ok rfl, fun p hp => ?_⟩
      have s1 : Same H (upd H p (.tup [.ty "list", .ty "tuple"])) := same_neu (Same.refl H) hp
      have b1 : But q H (upd H p (.tup [.ty "list", .ty "tuple"])) := (But.refl q H).neu hp
      walk_at "rds"
      obtain ⟨t, ty, kt⟩ := row_seq (K := K) (hv.but b1)
      refine r_isiT upd_same ty kt ?_
      walk_at "T"
      exact k _ s1
    | str x =>
      refine ⟨_, (pss_cons (ps_if (PW.pt (pw_or (pt_not (pt_val (pe_go cIsClock hg (hr.mono (by decide)) (by rfl) (pa_cons (pv 1) pa_nil)))) (pw_or (pt_not (pt_val (pe_callB call_isiT (by rfl) T.z_isinstance (by decide +kernel) (pa_cons (pv 0) (pa_cons (pe_tup (pa_cons (pe_bltn (by rfl) T.z_list (by decide +kernel) (v := .ty "list") rfl) (pa_cons (pe_bltn (by rfl) T.z_tuple (by decide +kernel) (v := .ty "tuple") rfl) pa_nil))) pa_nil))))) (pw_or1 (pt_cmpR op_ne (pe_callB call_len_seq (by rfl) T.z_len PySem.boot_len (pa_cons (pv 0) pa_nil)) (pv 2) (nomark _))))))
      (pss_one (ps_ret pe_bl))
      pss_nil)
      (pss_one (ps_ret (pe_callB (cr_all rfl) (by rfl) T.z_all (by decide +kernel) (pa_cons (pe_lc (own := [("number", 3)]) (g := gName 3) (tt := tYes) rfl scIsRow.nd (pi_list (pv 0)) (blkOk_by (own := [("number", 3)]) (N := ["value", "clock", "size", "number"]) (sc := defScope sIsRow) (by decide +kernel)) (fun _ _ _ _ _ => (pg_name (i := 3) scIsRow.nd rfl (Or.inl rfl))) (fun _ _ _ _ _ => pts_nil) (fun _ _ _ _ _ => (pe_go cIsWithin hg (hr.mono (by decide)) (by rfl) (pa_cons (pv 3) (pa_cons pe_int (pa_cons (pe_op op_sub (pv 1) pe_int) pa_nil)))))) pa_nil))))), ?_⟩
      refine r_start (l := [some (V.str x), some (.int clock), some (.int size), none]) rfl ?_
      have hv : RowV q H (V.str x) none := by constructor <;> assumption
      walk_at "rds"
      refine ⟨q, .int clock, rfl, .num _, ?_⟩
      rw [hck]
      walk_at "rds"
      refine ⟨len_ok rfl, fun p hp => ?_⟩
      have s1 : Same H (upd H p (.tup [.ty "list", .ty "tuple"])) := same_neu (Same.refl H) hp
      have b1 : But q H (upd H p (.tup [.ty "list", .ty "tuple"])) := (But.refl q H).neu hp
      walk_at "rds"
      obtain ⟨t, ty, kt⟩ := row_seq (K := K) (hv.but b1)
      refine r_isiT upd_same ty kt ?_
      walk_at "T"
      exact k _ s1
    | @dic a kvs n e =>
      refine ⟨_, (pss_cons (ps_if (PW.pt (pw_or (pt_not (pt_val (pe_go cIsClock hg (hr.mono (by decide)) (by rfl) (pa_cons (pv 1) pa_nil)))) (pw_or (pt_not (pt_val (pe_callB call_isiT (by rfl) T.z_isinstance (by decide +kernel) (pa_cons (pv 0) (pa_cons (pe_tup (pa_cons (pe_bltn (by rfl) T.z_list (by decide +kernel) (v := .ty "list") rfl) (pa_cons (pe_bltn (by rfl) T.z_tuple (by decide +kernel) (v := .ty "tuple") rfl) pa_nil))) pa_nil))))) (pw_or1 (pt_cmpR op_ne (pe_callB call_len_seq (by rfl) T.z_len PySem.boot_len (pa_cons (pv 0) pa_nil)) (pv 2) (nomark _))))))
      (pss_one (ps_ret pe_bl))
      pss_nil)
      (pss_one (ps_ret (pe_callB (cr_all rfl) (by rfl) T.z_all (by decide +kernel) (pa_cons (pe_lc (own := [("number", 3)]) (g := gName 3) (tt := tYes) rfl scIsRow.nd (pi_list (pv 0)) (blkOk_by (own := [("number", 3)]) (N := ["value", "clock", "size", "number"]) (sc := defScope sIsRow) (by decide +kernel)) (fun _ _ _ _ _ => (pg_name (i := 3) scIsRow.nd rfl (Or.inl rfl))) (fun _ _ _ _ _ => pts_nil) (fun _ _ _ _ _ => (pe_go cIsWithin hg (hr.mono (by decide)) (by rfl) (pa_cons (pv 3) (pa_cons pe_int (pa_cons (pe_op op_sub (pv 1) pe_int) pa_nil)))))) pa_nil))))), ?_⟩
      refine r_start (l := [some (V.ref a), some (.int clock), some (.int size), none]) rfl ?_
      have hv : RowV q H (V.ref a) none := by constructor <;> assumption
      walk_at "rds"
      refine ⟨q, .int clock, rfl, .num _, ?_⟩
      rw [hck]
      walk_at "rds"
      refine ⟨len_ok rfl, fun p hp => ?_⟩
      have s1 : Same H (upd H p (.tup [.ty "list", .ty "tuple"])) := same_neu (Same.refl H) hp
      have b1 : But q H (upd H p (.tup [.ty "list", .ty "tuple"])) := (But.refl q H).neu hp
      walk_at "rds"
      obtain ⟨t, ty, kt⟩ := row_seq (K := K) (hv.but b1)
      refine r_isiT upd_same ty kt ?_
      walk_at "T"
      exact k _ s1
    | @lst a xs n e it =>
      refine ⟨_, (pss_cons (ps_if (PW.pt (pw_or (pt_not (pt_val (pe_go cIsClock hg (hr.mono (by decide)) (by rfl) (pa_cons (pv 1) pa_nil)))) (pw_or (pt_not (pt_val (pe_callB call_isiT (by rfl) T.z_isinstance (by decide +kernel) (pa_cons (pv 0) (pa_cons (pe_tup (pa_cons (pe_bltn (by rfl) T.z_list (by decide +kernel) (v := .ty "list") rfl) (pa_cons (pe_bltn (by rfl) T.z_tuple (by decide +kernel) (v := .ty "tuple") rfl) pa_nil))) pa_nil))))) (pw_or1 (pt_cmpR op_ne (pe_callB call_len_seq (by rfl) T.z_len PySem.boot_len (pa_cons (pv 0) pa_nil)) (pv 2) (nomark _))))))
      (pss_one (ps_ret pe_bl))
      pss_nil)
      (pss_one (ps_ret (pe_callB (cr_all rfl) (by rfl) T.z_all (by decide +kernel) (pa_cons (pe_lc (own := [("number", 3)]) (g := gName 3) (tt := tYes) rfl scIsRow.nd (pi_list (pv 0)) (blkOk_by (own := [("number", 3)]) (N := ["value", "clock", "size", "number"]) (sc := defScope sIsRow) (by decide +kernel)) (fun _ _ _ _ _ => (pg_name (i := 3) scIsRow.nd rfl (Or.inl rfl))) (fun _ _ _ _ _ => pts_nil) (fun _ _ _ _ _ => (pe_go cIsWithin hg (hr.mono (by decide)) (by rfl) (pa_cons (pv 3) (pa_cons pe_int (pa_cons (pe_op op_sub (pv 1) pe_int) pa_nil)))))) pa_nil))))), ?_⟩
      refine r_start (l := [some (V.ref a), some (.int clock), some (.int size), none]) rfl ?_
      walk_at "rds"
      refine ⟨q, .int clock, rfl, .num _, ?_⟩
      rw [hck]
      walk_at "rds"
      refine ⟨len_ok rfl, fun p hp => ?_⟩
      have s1 : Same H (upd H p (.tup [.ty "list", .ty "tuple"])) := same_neu (Same.refl H) hp
      have b1 : But q H (upd H p (.tup [.ty "list", .ty "tuple"])) := (But.refl q H).neu hp
      walk_at "rds"
      obtain ⟨t, ty, kt⟩ := row_seq (K := K) ((RowV.lst n e it).but b1)
      refine r_isiT upd_same ty kt ?_
      generalize upd H p _ = H1 at s1 b1
      clear ty
      walk_at "F"
      have e1 := b1 _ _ n e
      refine ⟨_, _, rfl, .inl (SqL.of e1), ?_⟩
      walk_at "rds"
      refine ⟨rfl, ?_⟩
      walk_at "rds"
      by_cases hlen : (xs.length : Int) = size
      · rw [show decide (V.int (xs.length : Int) = V.int size) = true from decide_eq_true (by rw [hlen])]
        walk_at "rds"
        refine ⟨a, rfl, ⟨_, SqL.of e1⟩, fun D hD => ?_⟩
        have D0 : D ≠ a := (ne_of_none e1 hD).symm
        refine lc_list (K := K) (a := a) (xs := xs) (fun i H' => H' D = some (.lst (((xs.take i).map fun x => inB x (some 0) (some (clock - 1))).map V.bl)) ∧ ∀ b o, b ≠ D → H1 b = some o → H' b = some o)
          ⟨upd_same, fun b o n e => by rw [upd_ne n]; exact e⟩ (fun i H' _ ⟨_, s2⟩ => SqL.of (s2 a _ D0.symm e1)) ?_ ?_
        · rintro i x H' hx ⟨hD', s2⟩
          have mx : x ∈ xs := List.mem_of_getElem? hx
          have hi : i < xs.length := (List.getElem?_eq_some_iff.mp hx).1
          have bH : But q H H' := fun b o nb eb => s2 b o (ne_of_none (b1 b o nb eb) hD) (b1 b o nb eb)
          walk_at "rds"
          refine ⟨rfl, ?_⟩
          walk_at "rds"
          refine ⟨q, x, some 0, some (clock - 1), rfl, (it x mx).but bH, ?_⟩
          refine ⟨_, hD', ?_, ?_, fun b o nb eb => by rw [upd_ne nb]; exact s2 b o nb eb⟩
          · rw [List.length_map, List.length_map, List.length_take]
            exact Nat.lt_of_le_of_lt (Nat.min_le_right _ _) (hln xs rfl)
          · rw [upd_same, List.take_succ, hx, Option.toList_some, List.map_append, List.map_append]
            rfl
        · rintro H' ⟨hD', s2⟩
          rw [List.take_length] at hD'
          walk_at "rds"
          refine ⟨D, _, rfl, SqL.of hD', ?_⟩
          have key : rowB (some xs) clock size = (xs.map fun x => inB x (some 0) (some (clock - 1))).all id := by
            simp only [rowB, hlen, decide_true, Bool.true_and, List.all_map]
            rfl
          rw [← key]
          exact k _ fun b o eb => s2 b o (ne_of_none (s1 b o eb) hD) (s1 b o eb)
      · rw [show decide (V.int (xs.length : Int) = V.int size) = false from decide_eq_false (fun z => hlen (V.int.inj z))]
        walk_at "rds"
        have key : rowB (some xs) clock size = false := by simp [rowB, hlen]
        rw [← key]
        exact k _ s1
    | @tup a xs n e it =>
      refine ⟨_, (pss_cons (ps_if (PW.pt (pw_or (pt_not (pt_val (pe_go cIsClock hg (hr.mono (by decide)) (by rfl) (pa_cons (pv 1) pa_nil)))) (pw_or (pt_not (pt_val (pe_callB call_isiT (by rfl) T.z_isinstance (by decide +kernel) (pa_cons (pv 0) (pa_cons (pe_tup (pa_cons (pe_bltn (by rfl) T.z_list (by decide +kernel) (v := .ty "list") rfl) (pa_cons (pe_bltn (by rfl) T.z_tuple (by decide +kernel) (v := .ty "tuple") rfl) pa_nil))) pa_nil))))) (pw_or1 (pt_cmpR op_ne (pe_callB call_len_seq (by rfl) T.z_len PySem.boot_len (pa_cons (pv 0) pa_nil)) (pv 2) (nomark _))))))
      (pss_one (ps_ret pe_bl))
      pss_nil)
      (pss_one (ps_ret (pe_callB (cr_all rfl) (by rfl) T.z_all (by decide +kernel) (pa_cons (pe_lc (own := [("number", 3)]) (g := gName 3) (tt := tYes) rfl scIsRow.nd (pi_tup (pv 0)) (blkOk_by (own := [("number", 3)]) (N := ["value", "clock", "size", "number"]) (sc := defScope sIsRow) (by decide +kernel)) (fun _ _ _ _ _ => (pg_name (i := 3) scIsRow.nd rfl (Or.inl rfl))) (fun _ _ _ _ _ => pts_nil) (fun _ _ _ _ _ => (pe_go cIsWithin hg (hr.mono (by decide)) (by rfl) (pa_cons (pv 3) (pa_cons pe_int (pa_cons (pe_op op_sub (pv 1) pe_int) pa_nil)))))) pa_nil))))), ?_⟩
      refine r_start (l := [some (V.ref a), some (.int clock), some (.int size), none]) rfl ?_
      walk_at "rds"
      refine ⟨q, .int clock, rfl, .num _, ?_⟩
      rw [hck]
      walk_at "rds"
      refine ⟨len_ok rfl, fun p hp => ?_⟩
      have s1 : Same H (upd H p (.tup [.ty "list", .ty "tuple"])) := same_neu (Same.refl H) hp
      have b1 : But q H (upd H p (.tup [.ty "list", .ty "tuple"])) := (But.refl q H).neu hp
      walk_at "rds"
      obtain ⟨t, ty, kt⟩ := row_seq (K := K) ((RowV.tup n e it).but b1)
      refine r_isiT upd_same ty kt ?_
      generalize upd H p _ = H1 at s1 b1
      clear ty
      walk_at "F"
      have e1 := b1 _ _ n e
      refine ⟨_, _, rfl, .inr (SqT.of e1), ?_⟩
      walk_at "rds"
      refine ⟨rfl, ?_⟩
      walk_at "rds"
      by_cases hlen : (xs.length : Int) = size
      · rw [show decide (V.int (xs.length : Int) = V.int size) = true from decide_eq_true (by rw [hlen])]
        walk_at "rds"
        refine ⟨a, rfl, ⟨_, SqT.of e1⟩, fun D hD => ?_⟩
        have D0 : D ≠ a := (ne_of_none e1 hD).symm
        refine lc_tup (K := K) (a := a) (xs := xs) (fun i H' => H' D = some (.lst (((xs.take i).map fun x => inB x (some 0) (some (clock - 1))).map V.bl)) ∧ ∀ b o, b ≠ D → H1 b = some o → H' b = some o)
          ⟨upd_same, fun b o n e => by rw [upd_ne n]; exact e⟩ (fun i H' _ ⟨_, s2⟩ => SqT.of (s2 a _ D0.symm e1)) ?_ ?_
        · rintro i x H' hx ⟨hD', s2⟩
          have mx : x ∈ xs := List.mem_of_getElem? hx
          have hi : i < xs.length := (List.getElem?_eq_some_iff.mp hx).1
          have bH : But q H H' := fun b o nb eb => s2 b o (ne_of_none (b1 b o nb eb) hD) (b1 b o nb eb)
          walk_at "rds"
          refine ⟨rfl, ?_⟩
          walk_at "rds"
          refine ⟨q, x, some 0, some (clock - 1), rfl, (it x mx).but bH, ?_⟩
          refine ⟨_, hD', ?_, ?_, fun b o nb eb => by rw [upd_ne nb]; exact s2 b o nb eb⟩
          · rw [List.length_map, List.length_map, List.length_take]
            exact Nat.lt_of_le_of_lt (Nat.min_le_right _ _) (hln xs rfl)
          · rw [upd_same, List.take_succ, hx, Option.toList_some, List.map_append, List.map_append]
            rfl
        · rintro H' ⟨hD', s2⟩
          rw [List.take_length] at hD'
          walk_at "rds"
          refine ⟨D, _, rfl, SqL.of hD', ?_⟩
          have key : rowB (some xs) clock size = (xs.map fun x => inB x (some 0) (some (clock - 1))).all id := by
            simp only [rowB, hlen, decide_true, Bool.true_and, List.all_map]
            rfl
          rw [← key]
          exact k _ fun b o eb => s2 b o (ne_of_none (s1 b o eb) hD) (s1 b o eb)
      · rw [show decide (V.int (xs.length : Int) = V.int size) = false from decide_eq_false (fun z => hlen (V.int.inj z))]
        walk_at "rds"
        have key : rowB (some xs) clock size = false := by simp [rowB, hlen]
        rw [← key]
        exact k _ s1
end
end K02
namespace K02
open PySem PySem.Spec PyProof.Rows L2 Rp
section
variable {P : Program} {w : World} {K : PySem.W.Frag} {mg : Str → Option Value} {base : Heap} {tp : Addr}
/-- a drawn value of any kind -/
def spVal : Sp := fun vs H Q _ => ∃ (q c : Addr) (ns : List Int) (lap : Nat), vs = [.ref q] ∧ lap + 10 < 2 ^ 20 ∧ Dr q c ns lap H ∧
  ∀ (H' : Hp) (lap' : Nat) (v : V), lap' ≤ lap + 5 → Dr q c ns lap' H' → But q H H' → Any q H' v → Q v H'
abbrev sLawValue : Stmt := top 10
theorem scLawValue : FnScope ["quay", "number", "some"] ["quay"] (defScope sLawValue) := ⟨rfl, rfl, rfl, by decide +kernel, rfl, by decide +kernel, by decide +kernel⟩
theorem ok_LawValue {f : Addr} {fd : FuncData} (F : Fun K "_law_value" "_law_value" sLawValue f fd) (T : Txt K mg tp) (hM : HasMods base) {f0 : Addr} {fd0 : FuncData} (cLawOf : Cal P w K mg base "_law_of" 2 f0 fd0 ["quay", "some"] (spOf K)) {f1 : Addr} {fd1 : FuncData} (cLawHaulIn : Cal P w K mg base "_law_haul_in" 1 f1 fd1 ["quay", "many"] spDraw)  : FnG P w K mg base 3 f fd ["quay"] spVal := by
  refine fng F scLawValue (fun {vs H Q E} h => ?_) (fun {cdv A fr s H vs Q E} hg hr h => ?_)
  · obtain ⟨q, c, ns, lap, rfl, hlap, hD, k⟩ := h
    rfl
  · obtain ⟨q, c, ns, lap, rfl, hlap, hD, k⟩ := h
    refine ⟨_, (pss_cons (ps_set (i := 1) scLawValue.nd rfl (Or.inl rfl) (pe_go cLawOf hg (hr.mono (by decide)) (by rfl) (pa_cons (pv 0) (pa_cons (pe_lst (pa_cons (pe_op op_sub (pe_go cLawHaulIn hg (hr.mono (by decide)) (by rfl) (pa_cons (pv 0) (pa_cons pe_int pa_nil))) pe_int) (pa_cons (pe_op op_add (pe_op op_pow pe_int pe_int) (pe_go cLawHaulIn hg (hr.mono (by decide)) (by rfl) (pa_cons (pv 0) (pa_cons pe_int pa_nil)))) (pa_cons (pe_un un_neg (pe_go cLawHaulIn hg (hr.mono (by decide)) (by rfl) (pa_cons (pv 0) (pa_cons pe_int pa_nil)))) pa_nil)))) pa_nil))))
  (pss_cons (ps_set (i := 2) scLawValue.nd rfl (Or.inl rfl) (pe_lst (pa_cons (pv 1) (pa_cons (pe_callTy call_str_int (by rfl) T.z_str (by decide +kernel) (pa_cons (pv 1) pa_nil)) (pa_cons pe_non (pa_cons pe_bl (pa_cons pe_bl (pa_cons (pe_lst (pa_cons (pv 1) pa_nil)) (pa_cons (pe_tup (pa_cons (pv 1) (pa_cons pe_int pa_nil))) (pa_cons (pe_disp (pps_cons (pv 1) (pe_lst (pa_cons (pv 1) pa_nil)) pps_nil) (by rfl) (by rfl) (fun z => by cases z) (by decide)) (pa_cons pe_str (pa_cons (pe_lst pa_nil) (pa_cons (pe_tup pa_nil) (pa_cons (pe_lst (pa_cons (pe_lst (pa_cons (pv 1) pa_nil)) (pa_cons (pe_tup (pa_cons pe_int (pa_cons (pe_lst (pa_cons pe_int pa_nil)) pa_nil))) pa_nil))) (pa_cons (pe_lst (pa_cons pe_bl (pa_cons pe_int pa_nil))) (pa_cons pe_str pa_nil))))))))))))))))
  (pss_one (ps_ret (pe_go cLawOf hg (hr.mono (by decide)) (by rfl) (pa_cons (pv 0) (pa_cons (pv 2) pa_nil))))))), ?_⟩
    refine r_start (l := [some (.ref q), none, none]) rfl ?_
    have B0 : But q H H := But.refl _ _
    have e20 : (10 : Int) ^ Int.toNat 20 = 100000000000000000000 := by decide +kernel
    walk_at "rds"
    refine ⟨_, _, _, _, _, rfl, by decide, by decide, by omega, hD, fun H1 l1 r1 hl1 D1 b1 m1 n1 => ?_⟩
    have B1 := B0.trans b1
    walk_at "rds"
    refine r_I ⟨by decide, by decide, by decide⟩ ?_
    walk_at "rds"
    refine ⟨_, _, _, _, _, rfl, by decide, by decide, by omega, D1, fun H2 l2 r2 hl2 D2 b2 m2 n2 => ?_⟩
    have B2 := B1.trans b2
    walk_at "rds"
    refine ⟨_, _, _, _, _, rfl, by decide, by decide, by omega, D2, fun H3 l3 r3 hl3 D3 b3 m3 n3 => ?_⟩
    have B3 := B2.trans b3
    walk_at "rds"
    refine ⟨len_ok rfl, fun p4 hp4 => ?_⟩
    generalize hG4 : upd H3 p4 _ = H4
    obtain ⟨D4, B4, b4, np4, ep4⟩ := alloc hG4 D3 B3 hp4
    clear hG4
    walk_at "rds"
    refine ⟨_, _, _, _, _, _, rfl, SqL.of ep4, Nat.zero_lt_succ _, lt_ok rfl, by omega, np4, D4, fun H5 l5 i5 v5 hl5 D5 b5 e5 => ?_⟩
    have pv5 := EachP.get (F := IntIn (-1000) 100000000000000000100) (.cons ⟨_, rfl, by omega, by omega⟩ (.cons ⟨_, rfl, by omega, by omega⟩ (.cons ⟨_, rfl, by omega, by omega⟩ .nil))) e5
    have B5 := B4.trans b5
    replace ep4 := b5 _ _ np4 ep4
    obtain ⟨num, rfl, nlo, nhi⟩ := pv5
    walk_at "rds"
    refine ⟨_, rfl, log_ok (by omega), ?_⟩
    walk_at "rds"
    refine ⟨len_ok rfl, fun p6 hp6 => ?_⟩
    generalize hG6 : upd H5 p6 _ = H6
    obtain ⟨D6, B6, b6, np6, ep6⟩ := alloc hG6 D5 B5 hp6
    clear hG6
    replace ep4 := b6 _ _ np4 ep4
    have a6 : Any q H6 (.ref p6) := .lst np6 ep6
    walk_at "rds"
    refine ⟨len_ok rfl, fun p7 hp7 => ?_⟩
    generalize hG7 : upd H6 p7 _ = H7
    obtain ⟨D7, B7, b7, np7, ep7⟩ := alloc hG7 D6 B6 hp7
    clear hG7
    replace a6 := a6.but b7
    replace ep4 := b7 _ _ np4 ep4
    replace ep6 := b7 _ _ np6 ep6
    have a7 : Any q H7 (.ref p7) := .tup np7 ep7
    walk_at "rds"
    have B8 : But q H7 H7 := But.refl _ _
    intro p9 hp9
    generalize hG9 : upd H7 p9 _ = H9
    obtain ⟨D9, B9, b9, np9, ep9⟩ := alloc hG9 D7 B8 hp9
    clear hG9
    walk_at "rds"
    refine ⟨len_ok rfl, fun p10 hp10 => ?_⟩
    generalize hG10 : upd H9 p10 _ = H10
    obtain ⟨D10, B10, b10, np10, ep10⟩ := alloc hG10 D9 B9 hp10
    clear hG10
    replace ep9 := b10 _ _ np9 ep9
    walk_at "rds"
    refine ⟨ep9, [(Sum.inl num, .ref p10)], rfl, le_ok rfl, ?_⟩
    generalize hG11 : upd H10 p9 _ = H11
    obtain ⟨D11, ed9⟩ := stored hG11 D10 np9 ep9 (fun _ z => by cases z)
    have b11 := but_put hG11 B10 hp9
    clear hG11
    have B11 := B7.trans b11
    replace a6 := a6.but b11
    replace a7 := a7.but b11
    replace ep4 := b11 _ _ np4 ep4
    replace ep6 := b11 _ _ np6 ep6
    replace ep7 := b11 _ _ np7 ep7
    have a9 : Any q H11 (.ref p9) := .dic np9 ed9
    walk_at "rds"
    refine ⟨len_ok rfl, fun p12 hp12 => ?_⟩
    generalize hG12 : upd H11 p12 _ = H12
    obtain ⟨D12, B12, b12, np12, ep12⟩ := alloc hG12 D11 B11 hp12
    clear hG12
    replace a6 := a6.but b12
    replace a7 := a7.but b12
    replace a9 := a9.but b12
    replace ep4 := b12 _ _ np4 ep4
    replace ep6 := b12 _ _ np6 ep6
    replace ep7 := b12 _ _ np7 ep7
    have a12 : Any q H12 (.ref p12) := .lst np12 ep12
    walk_at "rds"
    refine ⟨len_ok rfl, fun p13 hp13 => ?_⟩
    generalize hG13 : upd H12 p13 _ = H13
    obtain ⟨D13, B13, b13, np13, ep13⟩ := alloc hG13 D12 B12 hp13
    clear hG13
    replace a6 := a6.but b13
    replace a7 := a7.but b13
    replace a9 := a9.but b13
    replace a12 := a12.but b13
    replace ep4 := b13 _ _ np4 ep4
    replace ep6 := b13 _ _ np6 ep6
    replace ep7 := b13 _ _ np7 ep7
    replace ep12 := b13 _ _ np12 ep12
    have a13 : Any q H13 (.ref p13) := .tup np13 ep13
    walk_at "rds"
    refine ⟨len_ok rfl, fun p14 hp14 => ?_⟩
    generalize hG14 : upd H13 p14 _ = H14
    obtain ⟨D14, B14, b14, np14, ep14⟩ := alloc hG14 D13 B13 hp14
    clear hG14
    replace a6 := a6.but b14
    replace a7 := a7.but b14
    replace a9 := a9.but b14
    replace a12 := a12.but b14
    replace a13 := a13.but b14
    replace ep4 := b14 _ _ np4 ep4
    replace ep6 := b14 _ _ np6 ep6
    replace ep7 := b14 _ _ np7 ep7
    replace ep12 := b14 _ _ np12 ep12
    replace ep13 := b14 _ _ np13 ep13
    walk_at "rds"
    refine ⟨len_ok rfl, fun p15 hp15 => ?_⟩
    generalize hG15 : upd H14 p15 _ = H15
    obtain ⟨D15, B15, b15, np15, ep15⟩ := alloc hG15 D14 B14 hp15
    clear hG15
    replace a6 := a6.but b15
    replace a7 := a7.but b15
    replace a9 := a9.but b15
    replace a12 := a12.but b15
    replace a13 := a13.but b15
    replace ep4 := b15 _ _ np4 ep4
    replace ep6 := b15 _ _ np6 ep6
    replace ep7 := b15 _ _ np7 ep7
    replace ep12 := b15 _ _ np12 ep12
    replace ep13 := b15 _ _ np13 ep13
    replace ep14 := b15 _ _ np14 ep14
    walk_at "rds"
    refine ⟨len_ok rfl, fun p16 hp16 => ?_⟩
    generalize hG16 : upd H15 p16 _ = H16
    obtain ⟨D16, B16, b16, np16, ep16⟩ := alloc hG16 D15 B15 hp16
    clear hG16
    replace a6 := a6.but b16
    replace a7 := a7.but b16
    replace a9 := a9.but b16
    replace a12 := a12.but b16
    replace a13 := a13.but b16
    replace ep4 := b16 _ _ np4 ep4
    replace ep6 := b16 _ _ np6 ep6
    replace ep7 := b16 _ _ np7 ep7
    replace ep12 := b16 _ _ np12 ep12
    replace ep13 := b16 _ _ np13 ep13
    replace ep14 := b16 _ _ np14 ep14
    replace ep15 := b16 _ _ np15 ep15
    walk_at "rds"
    refine ⟨len_ok rfl, fun p17 hp17 => ?_⟩
    generalize hG17 : upd H16 p17 _ = H17
    obtain ⟨D17, B17, b17, np17, ep17⟩ := alloc hG17 D16 B16 hp17
    clear hG17
    replace a6 := a6.but b17
    replace a7 := a7.but b17
    replace a9 := a9.but b17
    replace a12 := a12.but b17
    replace a13 := a13.but b17
    replace ep4 := b17 _ _ np4 ep4
    replace ep6 := b17 _ _ np6 ep6
    replace ep7 := b17 _ _ np7 ep7
    replace ep12 := b17 _ _ np12 ep12
    replace ep13 := b17 _ _ np13 ep13
    replace ep14 := b17 _ _ np14 ep14
    replace ep15 := b17 _ _ np15 ep15
    replace ep16 := b17 _ _ np16 ep16
    have a17 : Any q H17 (.ref p17) := .lst np17 ep17
    walk_at "rds"
    refine ⟨len_ok rfl, fun p18 hp18 => ?_⟩
    generalize hG18 : upd H17 p18 _ = H18
    obtain ⟨D18, B18, b18, np18, ep18⟩ := alloc hG18 D17 B17 hp18
    clear hG18
    replace a6 := a6.but b18
    replace a7 := a7.but b18
    replace a9 := a9.but b18
    replace a12 := a12.but b18
    replace a13 := a13.but b18
    replace a17 := a17.but b18
    replace ep4 := b18 _ _ np4 ep4
    replace ep6 := b18 _ _ np6 ep6
    replace ep7 := b18 _ _ np7 ep7
    replace ep12 := b18 _ _ np12 ep12
    replace ep13 := b18 _ _ np13 ep13
    replace ep14 := b18 _ _ np14 ep14
    replace ep15 := b18 _ _ np15 ep15
    replace ep16 := b18 _ _ np16 ep16
    replace ep17 := b18 _ _ np17 ep17
    have a18 : Any q H18 (.ref p18) := .lst np18 ep18
    walk_at "rds"
    refine ⟨len_ok rfl, fun p19 hp19 => ?_⟩
    generalize hG19 : upd H18 p19 _ = H19
    obtain ⟨D19, B19, b19, np19, ep19⟩ := alloc hG19 D18 B18 hp19
    clear hG19
    replace a6 := a6.but b19
    replace a7 := a7.but b19
    replace a9 := a9.but b19
    replace a12 := a12.but b19
    replace a13 := a13.but b19
    replace a17 := a17.but b19
    replace a18 := a18.but b19
    replace ep4 := b19 _ _ np4 ep4
    replace ep6 := b19 _ _ np6 ep6
    replace ep7 := b19 _ _ np7 ep7
    replace ep12 := b19 _ _ np12 ep12
    replace ep13 := b19 _ _ np13 ep13
    replace ep14 := b19 _ _ np14 ep14
    replace ep15 := b19 _ _ np15 ep15
    replace ep16 := b19 _ _ np16 ep16
    replace ep17 := b19 _ _ np17 ep17
    replace ep18 := b19 _ _ np18 ep18
    walk_at "rds"
    refine ⟨_, _, _, _, _, _, rfl, SqL.of ep19, Nat.zero_lt_succ _, lt_ok rfl, by omega, np19, D19, fun H20 l20 i20 v20 hl20 D20 b20 e20 => ?_⟩
    have pv20 := EachP.get (F := Any q H19) (.cons (.num _) (.cons (.str _) (.cons .non (.cons (.bl _) (.cons (.bl _) (.cons a6 (.cons a7 (.cons a9 (.cons (.str _) (.cons a12 (.cons a13 (.cons a17 (.cons a18 (.cons (.str _) .nil)))))))))))))) e20
    have B20 := B19.trans b20
    replace a6 := a6.but b20
    replace a7 := a7.but b20
    replace a9 := a9.but b20
    replace a12 := a12.but b20
    replace a13 := a13.but b20
    replace a17 := a17.but b20
    replace a18 := a18.but b20
    replace ep4 := b20 _ _ np4 ep4
    replace ep6 := b20 _ _ np6 ep6
    replace ep7 := b20 _ _ np7 ep7
    replace ep12 := b20 _ _ np12 ep12
    replace ep13 := b20 _ _ np13 ep13
    replace ep14 := b20 _ _ np14 ep14
    replace ep15 := b20 _ _ np15 ep15
    replace ep16 := b20 _ _ np16 ep16
    replace ep17 := b20 _ _ np17 ep17
    replace ep18 := b20 _ _ np18 ep18
    replace ep19 := b20 _ _ np19 ep19
    exact k _ _ _ (by omega) D20 B20 (pv20.but b20)
end
end K02
namespace K02
open PySem PySem.Spec PyProof.Rows L2 Rp
/-- a turn of the law: nothing of the box but laps, True -/
def spTurn : Sp := fun vs H Q _ => ∃ (q c : Addr) (ns : List Int) (lap : Nat), vs = [.ref q] ∧ lap + 40 < 2 ^ 20 ∧ Dr q c ns lap H ∧ ∀ (H' : Hp) (lap' : Nat), lap' ≤ lap + 20 → Dr q c ns lap' H' → But q H H' → Q (.bl true) H'
def spIsNum : Sp := fun vs H Q _ => ∃ q v, vs = [v] ∧ Any q H v ∧ Q (.bl (isI v)) H
def spPrime : Sp := fun vs H Q _ => ∃ n : Int, vs = [.int n] ∧ 2 ≤ n ∧ n ≤ 31 ∧ ∀ H', Same H H' → Q (.bl (prB n)) H'
section
variable {P : Program} {w : World} {K : PySem.W.Frag} {mg : Str → Option Value} {base : Heap} {tp : Addr}
abbrev sLawIsNumber : Stmt := top 11
theorem scLawIsNumber : FnScope ["value"] ["value"] (defScope sLawIsNumber) := ⟨rfl, rfl, rfl, by decide +kernel, rfl, by decide +kernel, by decide +kernel⟩
theorem ok_LawIsNumber {f : Addr} {fd : FuncData} (F : Fun K "_law_is_number" "_law_is_number" sLawIsNumber f fd) (T : Txt K mg tp) (hM : HasMods base)   : FnG P w K mg base 1 f fd ["value"] spIsNum := by
  refine fng F scLawIsNumber (fun {vs H Q E} h => ?_) (fun {cdv A fr s H vs Q E} hg hr h => ?_)
  · obtain ⟨q, v, rfl, ha, k⟩ := h
    rfl
  · obtain ⟨q, v, rfl, ha, k⟩ := h
    refine ⟨_, (pss_one (ps_ret (pe_and (pe_callB call_isi (by rfl) T.z_isinstance (by decide +kernel) (pa_cons (pv 0) (pa_cons (pe_bltn (by rfl) T.z_int (by decide +kernel) (v := .ty "int") rfl) pa_nil))) (pe_and (pe_cmpR op_isnot_any (pv 0) pe_bl (nomark _)) (pe_one (pe_cmpR op_isnot_any (pv 0) pe_bl (nomark _))))))), ?_⟩
    refine r_start (l := [some (v)]) rfl ?_
    walk_at "rds"
    obtain ⟨t, ty, kt⟩ := any_int (K := K) ha
    refine r_isi ty kt ?_
    cases v with
    | int i =>
      walk_at "T"
      refine r_isAny ?_
      walk_at "T"
      refine r_isAny ?_
      exact k
    | bl b =>
      cases b with
      | true => walk_at "T"; refine r_isAny ?_; walk_at "F"; exact k
      | false => walk_at "T"; refine r_isAny ?_; walk_at "T"; refine r_isAny ?_; exact k
    | non => walk_at "F"; exact k
    | str x => walk_at "F"; exact k
    | byt x => walk_at "F"; exact k
    | flt x => walk_at "F"; exact k
    | ref a => walk_at "F"; exact k
    | ty n => walk_at "F"; exact k
abbrev sLawIsPrime : Stmt := top 12
theorem scLawIsPrime : FnScope ["number", "part"] ["number"] (defScope sLawIsPrime) := ⟨rfl, rfl, rfl, by decide +kernel, rfl, by decide +kernel, by decide +kernel⟩
theorem ok_LawIsPrime {f : Addr} {fd : FuncData} (F : Fun K "_law_is_prime" "_law_is_prime" sLawIsPrime f fd) (T : Txt K mg tp) (hM : HasMods base)   : FnG P w K mg base 1 f fd ["number"] spPrime := by
  refine fng F scLawIsPrime (fun {vs H Q E} h => ?_) (fun {cdv A fr s H vs Q E} hg hr h => ?_)
  · obtain ⟨n, rfl, h2, h31, k⟩ := h
    rfl
  · obtain ⟨n, rfl, h2, h31, k⟩ := h
    refine ⟨_, (pss_one (ps_ret (pe_cmpR (op_eqD hr.units) (pe_lc (own := [("part", 1)]) (g := gName 1)  rfl scLawIsPrime.nd (pi_range2 (by rfl) T.z_range (pa_cons pe_int (pa_cons (pv 0) pa_nil))) (blkOk_by (own := [("part", 1)]) (N := ["number", "part"]) (sc := defScope sLawIsPrime) (by decide +kernel)) (fun _ _ _ _ _ => (pg_name (i := 1) scLawIsPrime.nd rfl (Or.inl rfl))) (fun _ _ _ _ _ => (pts_one (pt_cmpR op_eq (pe_op op_modN (pe_callTy call_int1 (by rfl) T.z_int (by decide +kernel) (pa_cons (pv 0) pa_nil)) (pv 1)) pe_int (nomark _)))) (fun _ _ _ _ _ => (pv 1))) (pe_lst pa_nil) (nomark _)))), ?_⟩
    refine r_start (l := [some (.int n), none]) rfl ?_
    walk_at "rds"
    refine ⟨2, n, rfl, ⟨by decide, by decide, by omega, by omega⟩, fun D hD => ?_⟩
    refine lc_range (lo := 2) (n := (n - 2).toNat) (fun i H' => H' D = some (.lst ((((List.range i).filter fun j : Nat => decide (n.fmod (2 + (j : Int)) = 0)).map fun j : Nat => 2 + (j : Int)).map V.int)) ∧ ∀ b o, b ≠ D → H b = some o → H' b = some o)
      ⟨upd_same, fun b o nb e => by rw [upd_ne nb]; exact e⟩ ?_ ?_
    · rintro i H' hi ⟨hD', s2⟩
      walk_at "rds"
      refine ⟨rfl, ?_⟩
      walk_at "rds"
      refine .inl ⟨_, rfl, ?_⟩
      walk_at "rds"
      refine r_I (by omega) ?_
      walk_at "rds"
      refine ⟨rfl, ?_⟩
      walk_at "rds"
      rw [List.range_succ, List.filter_append, List.map_append, List.map_append]
      by_cases hm : n.fmod (2 + (i : Int)) = 0
      · rw [decide_eq_true (by rw [hm])]
        walk_at "rds"
        refine ⟨_, hD', ?_, ?_, fun b o nb e => by rw [upd_ne nb]; exact s2 b o nb e⟩
        · rw [List.length_map, List.length_map]
          refine Nat.lt_of_le_of_lt (List.length_filter_le _ _) ?_
          rw [List.length_range]
          exact small1000 (by omega)
        · rw [upd_same]
          simp [hm]
      · rw [decide_eq_false (fun z => hm (V.int.inj z))]
        walk_at "rds"
        refine ⟨?_, s2⟩
        rw [hD']
        simp [hm]
    · rintro H' ⟨hD', s2⟩
      walk_at "rds"
      refine ⟨len_ok rfl, fun p hp => ?_⟩
      have hDp : upd H' p (.lst []) D = some (.lst ((((List.range (n - 2).toNat).filter fun j : Nat => decide (n.fmod (2 + (j : Int)) = 0)).map fun j : Nat => 2 + (j : Int)).map V.int)) := by rw [upd_ne (ne_of_none hD' hp)]; exact hD'
      refine eq_nil hDp upd_same ?_
      refine k _ fun b o e => ?_
      have e2 := s2 b o (ne_of_none e hD) e
      rw [upd_ne (ne_of_none e2 hp)]
      exact e2
end
end K02
namespace K02
open PySem PySem.Spec PyProof.Rows L2 Rp
section
variable {P : Program} {w : World} {K : PySem.W.Frag} {mg : Str → Option Value} {base : Heap} {tp : Addr}
abbrev sLawPlainRight : Stmt := top 13
theorem scLawPlainRight : FnScope ["quay", "value", "bound", "number", "above", "below", "due"] ["quay"] (defScope sLawPlainRight) := ⟨rfl, rfl, rfl, by decide +kernel, rfl, by decide +kernel, by decide +kernel⟩
theorem ok_LawPlainRight {f : Addr} {fd : FuncData} (F : Fun K "_law_plain_right" "_law_plain_right" sLawPlainRight f fd) (T : Txt K mg tp) (hM : HasMods base) {f0 : Addr} {fd0 : FuncData} (cLawOf : Cal P w K mg base "_law_of" 2 f0 fd0 ["quay", "some"] (spOf K)) {f1 : Addr} {fd1 : FuncData} (cLawIsNumber : Cal P w K mg base "_law_is_number" 1 f1 fd1 ["value"] spIsNum) {f2 : Addr} {fd2 : FuncData} (cLawValue : Cal P w K mg base "_law_value" 3 f2 fd2 ["quay"] spVal) {f3 : Addr} {fd3 : FuncData} (cLawIsPrime : Cal P w K mg base "_law_is_prime" 1 f3 fd3 ["number"] spPrime) {f4 : Addr} {fd4 : FuncData} (cLawHaulIn : Cal P w K mg base "_law_haul_in" 1 f4 fd4 ["quay", "many"] spDraw) {f5 : Addr} {fd5 : FuncData} (cIsInteger : Cal P w K mg base "is_integer" 1 f5 fd5 ["value"] spIsInt) (kIsInteger_value : KBx K fd5 ["value"] 0 ["value"] [0]) {f6 : Addr} {fd6 : FuncData} (cIsWithin : Cal P w K mg base "is_within" 2 f6 fd6 ["value", "least", "most"] spWithin) (kIsWithin_most_least_value : KBx K fd6 ["value", "least", "most"] 0 ["most", "least", "value"] [2, 1, 0]) {f7 : Addr} {fd7 : FuncData} (cIsClock : Cal P w K mg base "is_clock" 2 f7 fd7 ["value"] spClock) (kIsClock_value : KBx K fd7 ["value"] 0 ["value"] [0])  : FnG P w K mg base 4 f fd ["quay"] spTurn := by
  refine fng F scLawPlainRight (fun {vs H Q E} h => ?_) (fun {cdv A fr s H vs Q E} hg hr h => ?_)
  · obtain ⟨q, c, ns, lap, rfl, hlap, hD, k⟩ := h
    rfl
  · obtain ⟨q, c, ns, lap, rfl, hlap, hD, k⟩ := h
    refine ⟨_, (pss_cons (ps_par (i := 1) (j := 2) (by rfl) scLawPlainRight.nd rfl rfl (by decide) rfl rfl (pa_cons (pe_go cLawValue hg (hr.mono (by decide)) (by rfl) (pa_cons (pv 0) pa_nil)) (pa_cons (pe_go cLawOf hg (hr.mono (by decide)) (by rfl) (pa_cons (pv 0) (pa_cons (pe_lst (pa_cons pe_int (pa_cons (pe_un un_neg pe_int) (pa_cons (pe_op op_pow pe_int pe_int) (pa_cons pe_int (pa_cons pe_int pa_nil)))))) pa_nil))) pa_nil)) (by rfl))
  (pss_cons (ps_set (i := 1) scLawPlainRight.nd rfl (Or.inl rfl) (pe_go cLawOf hg (hr.mono (by decide)) (by rfl) (pa_cons (pv 0) (pa_cons (pe_lst (pa_cons (pv 1) (pa_cons (pv 1) (pa_cons (pe_op op_sub (pe_op op_add (pv 2) (pe_go cLawHaulIn hg (hr.mono (by decide)) (by rfl) (pa_cons (pv 0) (pa_cons pe_int pa_nil)))) pe_int) pa_nil)))) pa_nil))))
  (pss_cons (ps_set (i := 3) scLawPlainRight.nd rfl (Or.inl rfl) (pe_go cLawIsNumber hg (hr.mono (by decide)) (by rfl) (pa_cons (pv 1) pa_nil)))
  (pss_cons (ps_if (pt_cmpR op_ne (pe_callB (call_reprD hr hg hM) (by rfl) T.z_repr (by decide +kernel) (pa_cons (pe_lst (pa_cons (pe_go cIsInteger hg (hr.mono (by decide)) (by rfl) (pa_cons (pv 1) pa_nil)) (pa_cons (pe_kw0 cIsInteger kIsInteger_value hg (hr.mono (by decide)) (by rfl) (pk_cons (pv 1) pk_nil)) pa_nil))) pa_nil)) (pe_callB (call_reprD hr hg hM) (by rfl) T.z_repr (by decide +kernel) (pa_cons (pe_lst (pa_cons (pv 3) (pa_cons (pv 3) pa_nil))) pa_nil)) (nomark _))
  (pss_one (ps_ret pe_bl))
  pss_nil)
  (pss_cons (ps_par (i := 4) (j := 5) (by rfl) scLawPlainRight.nd rfl rfl (by decide) rfl rfl (pa_cons (pe_and (pv 3) (pe_one (pe_cmpR op_ge (pv 1) (pv 2) (nomark _)))) (pa_cons (pe_and (pv 3) (pe_one (pe_cmpR op_le (pv 1) (pv 2) (nomark _)))) pa_nil)) (by rfl))
  (pss_cons (ps_if (pt_cmpR op_ne (pe_callB (call_reprD hr hg hM) (by rfl) T.z_repr (by decide +kernel) (pa_cons (pe_lst (pa_cons (pe_go cIsWithin hg (hr.mono (by decide)) (by rfl) (pa_cons (pv 1) (pa_cons (pv 2) (pa_cons pe_non pa_nil)))) (pa_cons (pe_kw0 cIsWithin kIsWithin_most_least_value hg (hr.mono (by decide)) (by rfl) (pk_cons (pv 2) (pk_cons pe_non (pk_cons (pv 1) pk_nil)))) pa_nil))) pa_nil)) (pe_callB (call_reprD hr hg hM) (by rfl) T.z_repr (by decide +kernel) (pa_cons (pe_lst (pa_cons (pv 4) (pa_cons (pv 5) pa_nil))) pa_nil)) (nomark _))
  (pss_one (ps_ret pe_bl))
  pss_nil)
  (pss_cons (ps_if (pt_cmpR op_ne (pe_callB (call_reprD hr hg hM) (by rfl) T.z_repr (by decide +kernel) (pa_cons (pe_lst (pa_cons (pe_go cIsWithin hg (hr.mono (by decide)) (by rfl) (pa_cons (pv 1) (pa_cons pe_non (pa_cons pe_non pa_nil)))) (pa_cons (pe_go cIsWithin hg (hr.mono (by decide)) (by rfl) (pa_cons (pv 1) (pa_cons (pv 2) (pa_cons (pv 2) pa_nil)))) pa_nil))) pa_nil)) (pe_callB (call_reprD hr hg hM) (by rfl) T.z_repr (by decide +kernel) (pa_cons (pe_lst (pa_cons (pv 3) (pa_cons (pe_and (pv 4) (pe_one (pv 5))) pa_nil))) pa_nil)) (nomark _))
  (pss_one (ps_ret pe_bl))
  pss_nil)
  (pss_cons (ps_set (i := 1) scLawPlainRight.nd rfl (Or.inl rfl) (pe_go cLawOf hg (hr.mono (by decide)) (by rfl) (pa_cons (pv 0) (pa_cons (pe_lst (pa_cons (pv 1) (pa_cons (pe_go cLawHaulIn hg (hr.mono (by decide)) (by rfl) (pa_cons (pv 0) (pa_cons pe_int pa_nil))) (pa_cons (pe_go cLawHaulIn hg (hr.mono (by decide)) (by rfl) (pa_cons (pv 0) (pa_cons pe_int pa_nil))) (pa_cons (pe_callTy call_str_int (by rfl) T.z_str (by decide +kernel) (pa_cons (pe_go cLawHaulIn hg (hr.mono (by decide)) (by rfl) (pa_cons (pv 0) (pa_cons pe_int pa_nil))) pa_nil)) pa_nil))))) pa_nil))))
  (pss_cons (ps_set (i := 6) scLawPlainRight.nd rfl (Or.inl rfl) (pe_and (pe_go cLawIsNumber hg (hr.mono (by decide)) (by rfl) (pa_cons (pv 1) pa_nil)) (pe_and (pe_chain op_le op_le pe_int (pv 1) pe_int) (pe_one (pe_go cLawIsPrime hg (hr.mono (by decide)) (by rfl) (pa_cons (pv 1) pa_nil))))))
  (pss_one (ps_ret (pe_cmpR op_eq (pe_callB (call_reprD hr hg hM) (by rfl) T.z_repr (by decide +kernel) (pa_cons (pe_lst (pa_cons (pe_go cIsClock hg (hr.mono (by decide)) (by rfl) (pa_cons (pv 1) pa_nil)) (pa_cons (pe_kw0 cIsClock kIsClock_value hg (hr.mono (by decide)) (by rfl) (pk_cons (pv 1) pk_nil)) pa_nil))) pa_nil)) (pe_callB (call_reprD hr hg hM) (by rfl) T.z_repr (by decide +kernel) (pa_cons (pe_lst (pa_cons (pv 6) (pa_cons (pv 6) pa_nil))) pa_nil)) (nomark _))))))))))))), ?_⟩
    refine r_start (l := [some (.ref q), none, none, none, none, none, none]) rfl ?_
    have B0 : But q H H := But.refl _ _
    have e20 : (10 : Int) ^ Int.toNat 20 = 100000000000000000000 := by decide +kernel
    walk_at "rds"
    refine ⟨_, _, _, _, rfl, by omega, hD, fun H91 l91 v hl91 D91 b91 av => ?_⟩
    have B91 := B0.trans b91
    walk_at "rds"
    refine r_I ⟨by decide, by decide, by decide⟩ ?_
    walk_at "rds"
    refine ⟨len_ok rfl, fun p1 hp1 => ?_⟩
    generalize hG1 : upd H91 p1 _ = H1
    obtain ⟨D1, B1, b1, np1, ep1⟩ := alloc hG1 D91 B91 hp1
    clear hG1
    replace av := av.but b1
    walk_at "rds"
    refine ⟨_, _, _, _, _, _, rfl, SqL.of ep1, Nat.zero_lt_succ _, lt_ok rfl, by omega, np1, D1, fun H2 l2 i2 v2 hl2 D2 b2 e2 => ?_⟩
    have pv2 := EachP.get (F := fun x => ∃ b : Int, x = .int b) (.cons ⟨_, rfl⟩ (.cons ⟨_, rfl⟩ (.cons ⟨_, rfl⟩ (.cons ⟨_, rfl⟩ (.cons ⟨_, rfl⟩ .nil))))) e2
    have B2 := B1.trans b2
    replace av := av.but b2
    replace ep1 := b2 _ _ np1 ep1
    obtain ⟨bd, rfl⟩ := pv2
    walk_at "rds"
    refine ⟨_, _, rfl, ?_⟩
    walk_at "rds"
    refine ⟨_, _, _, _, _, rfl, by decide, by decide, by omega, D2, fun H3 l3 r3 hl3 D3 b3 m3 n3 => ?_⟩
    have B3 := B2.trans b3
    replace av := av.but b3
    replace ep1 := b3 _ _ np1 ep1
    walk_at "rds"
    refine ⟨len_ok rfl, fun p4 hp4 => ?_⟩
    generalize hG4 : upd H3 p4 _ = H4
    obtain ⟨D4, B4, b4, np4, ep4⟩ := alloc hG4 D3 B3 hp4
    clear hG4
    replace av := av.but b4
    replace ep1 := b4 _ _ np1 ep1
    walk_at "rds"
    refine ⟨_, _, _, _, _, _, rfl, SqL.of ep4, Nat.zero_lt_succ _, lt_ok rfl, by omega, np4, D4, fun H5 l5 i5 v5 hl5 D5 b5 e5 => ?_⟩
    have pv5 := EachP.get (F := Any q H4) (.cons av (.cons av (.cons (.num _) .nil))) e5
    have B5 := B4.trans b5
    replace av := av.but b5
    replace ep1 := b5 _ _ np1 ep1
    replace ep4 := b5 _ _ np4 ep4
    clear av
    replace pv5 := pv5.but b5
    generalize v5 = v at pv5 ⊢
    rename Any q _ v => av
    walk_at "rds"
    refine ⟨q, v, rfl, av, ?_⟩
    walk_at "rds"
    refine ⟨q, v, rfl, av, ?_⟩
    walk_at "rds"
    refine ⟨rfl, rfl, q, v, rfl, av, ?_⟩
    walk_at "rds"
    refine ⟨len_ok rfl, fun p6 hp6 => ?_⟩
    generalize hG6 : upd H5 p6 _ = H6
    obtain ⟨D6, B6, b6, np6, ep6⟩ := alloc hG6 D5 B5 hp6
    clear hG6
    replace av := av.but b6
    replace ep1 := b6 _ _ np1 ep1
    replace ep4 := b6 _ _ np4 ep4
    walk_at "rds"
    refine r_bools ep6 ?_
    walk_at "rds"
    refine ⟨len_ok rfl, fun p7 hp7 => ?_⟩
    generalize hG7 : upd H6 p7 _ = H7
    obtain ⟨D7, B7, b7, np7, ep7⟩ := alloc hG7 D6 B6 hp7
    clear hG7
    replace av := av.but b7
    replace ep1 := b7 _ _ np1 ep1
    replace ep4 := b7 _ _ np4 ep4
    replace ep6 := b7 _ _ np6 ep6
    walk_at "rds"
    refine r_bools ep7 ?_
    walk_at "rds"
    refine r_ne_same ?_
    walk_at "res"
    with_reducible refine r_cut (fun σ G => σ = [some (.ref q), some v, some (.int bd), some (.bl (isI v)), some (.bl (inB v (some bd) none)), some (.bl (inB v none (some bd))), none] ∧ G = H7) ?_ fun go => ?_
    rotate_left
    · walk_at "rds"
      cases hi : isI v with
      | true =>
        obtain ⟨i, rfl⟩ : ∃ i, v = .int i := by cases v <;> first | exact ⟨_, rfl⟩ | cases hi
        walk_at "rds"
        refine ⟨_, _, rfl, ?_⟩
        refine go _ _ ⟨?_, rfl⟩
        simp [inB, List.set, isI]
      | false =>
        walk_at "rds"
        refine ⟨_, _, rfl, ?_⟩
        refine go _ _ ⟨?_, rfl⟩
        rw [inB_no hi, inB_no hi]
        simp [List.set, hi]
    rintro _ H7 ⟨rfl, rfl⟩
    walk_at "rds"
    refine ⟨q, v, some bd, none, rfl, av, ?_⟩
    walk_at "rds"
    refine ⟨rfl, rfl, q, v, none, some bd, rfl, av, ?_⟩
    walk_at "rds"
    refine ⟨len_ok rfl, fun p8 hp8 => ?_⟩
    generalize hG8 : upd H7 p8 _ = H8
    obtain ⟨D8, B8, b8, np8, ep8⟩ := alloc hG8 D7 B7 hp8
    clear hG8
    replace av := av.but b8
    replace ep1 := b8 _ _ np1 ep1
    replace ep4 := b8 _ _ np4 ep4
    replace ep6 := b8 _ _ np6 ep6
    replace ep7 := b8 _ _ np7 ep7
    walk_at "rds"
    refine r_bools ep8 ?_
    walk_at "rds"
    refine ⟨len_ok rfl, fun p9 hp9 => ?_⟩
    generalize hG9 : upd H8 p9 _ = H9
    obtain ⟨D9, B9, b9, np9, ep9⟩ := alloc hG9 D8 B8 hp9
    clear hG9
    replace av := av.but b9
    replace ep1 := b9 _ _ np1 ep1
    replace ep4 := b9 _ _ np4 ep4
    replace ep6 := b9 _ _ np6 ep6
    replace ep7 := b9 _ _ np7 ep7
    replace ep8 := b9 _ _ np8 ep8
    walk_at "rds"
    refine r_bools ep9 ?_
    walk_at "rds"
    refine r_ne_same ?_
    walk_at "res"
    with_reducible refine r_cut (fun σ G => σ = [some (.ref q), some v, some (.int bd), some (.bl (isI v)), some (.bl (inB v (some bd) none)), some (.bl (inB v none (some bd))), none] ∧ Dr q c ns l5 G ∧ But q H G ∧ Any q G v) ?_ fun go => ?_
    rotate_left
    · walk_at "rds"
      refine ⟨q, v, none, none, rfl, av, ?_⟩
      walk_at "rds"
      refine ⟨q, v, some bd, some bd, rfl, av, ?_⟩
      walk_at "rds"
      refine ⟨len_ok rfl, fun p10 hp10 => ?_⟩
      generalize hG10 : upd H9 p10 _ = H10
      obtain ⟨D10, B10, b10, np10, ep10⟩ := alloc hG10 D9 B9 hp10
      clear hG10
      replace av := av.but b10
      walk_at "rds"
      refine r_bools ep10 ?_
      walk_at "rds"
      have en : inB v none none = isI v := by cases v <;> rfl
      rw [en]
      have eb : inB v (some bd) (some bd) = (inB v (some bd) none && inB v none (some bd)) := by cases v <;> simp [inB]
      rw [eb]
      generalize isI v = N at go ⊢
      generalize inB v (some bd) none = A at go ⊢
      generalize inB v none (some bd) = C at go ⊢
      cases A with
      | true =>
        rw [Bool.true_and]
        walk_at "rds"
        refine ⟨len_ok rfl, fun p11 hp11 => ?_⟩
        generalize hG11 : upd H10 p11 _ = H11
        obtain ⟨D11, B11, b11, np11, ep11⟩ := alloc hG11 D10 B10 hp11
        clear hG11
        replace av := av.but b11
        walk_at "rds"
        refine r_bools ep11 ?_
        walk_at "rds"
        refine r_ne_same ?_
        walk_at "res"
        exact go _ _ ⟨rfl, D11, B11, av⟩
      | false =>
        rw [Bool.false_and]
        walk_at "rds"
        refine ⟨len_ok rfl, fun p11 hp11 => ?_⟩
        generalize hG11 : upd H10 p11 _ = H11
        obtain ⟨D11, B11, b11, np11, ep11⟩ := alloc hG11 D10 B10 hp11
        clear hG11
        replace av := av.but b11
        walk_at "rds"
        refine r_bools ep11 ?_
        walk_at "rds"
        refine r_ne_same ?_
        walk_at "res"
        exact go _ _ ⟨rfl, D11, B11, av⟩
    rintro _ H80 ⟨rfl, D80, B80, av⟩
    walk_at "rds"
    refine ⟨_, _, _, _, _, rfl, by decide, by decide, by omega, D80, fun H81 l81 r81 hl81 D81 b81 m81 n81 => ?_⟩
    have B81 := B80.trans b81
    replace av := av.but b81
    walk_at "rds"
    refine ⟨_, _, _, _, _, rfl, by decide, by decide, by omega, D81, fun H82 l82 r82 hl82 D82 b82 m82 n82 => ?_⟩
    have B82 := B81.trans b82
    replace av := av.but b82
    walk_at "rds"
    refine ⟨_, _, _, _, _, rfl, by decide, by decide, by omega, D82, fun H83 l83 r83 hl83 D83 b83 m83 n83 => ?_⟩
    have B83 := B82.trans b83
    replace av := av.but b83
    walk_at "rds"
    refine ⟨_, rfl, log_ok (by omega), ?_⟩
    walk_at "rds"
    refine ⟨len_ok rfl, fun p84 hp84 => ?_⟩
    generalize hG84 : upd H83 p84 _ = H84
    obtain ⟨D84, B84, b84, np84, ep84⟩ := alloc hG84 D83 B83 hp84
    clear hG84
    replace av := av.but b84
    walk_at "rds"
    refine ⟨_, _, _, _, _, _, rfl, SqL.of ep84, Nat.zero_lt_succ _, lt_ok rfl, by omega, np84, D84, fun H85 l85 i85 v85 hl85 D85 b85 e85 => ?_⟩
    have pv85 := EachP.get (F := Any q H84) (.cons av (.cons (.num _) (.cons (.num _) (.cons (.str _) .nil)))) e85
    have B85 := B84.trans b85
    replace av := av.but b85
    replace ep84 := b85 _ _ np84 ep84
    clear av
    replace pv85 := pv85.but b85
    generalize v85 = v2 at pv85 ⊢
    rename Any q _ v2 => av
    walk_at "res"
    with_reducible refine r_cut (fun σ G => σ = [some (.ref q), some v2, some (.int bd), some (.bl (isI v)), some (.bl (inB v (some bd) none)), some (.bl (inB v none (some bd))), some (.bl (clk v2))] ∧ Dr q c ns l85 G ∧ But q H G ∧ Any q G v2) ?_ fun go => ?_
    rotate_left
    · walk_at "rds"
      refine ⟨q, v2, rfl, av, ?_⟩
      walk_at "rds"
      cases hi : isI v2 with
      | false =>
        walk_at "rex"
        exact go _ _ ⟨by rw [clk_no hi]; first | done | rfl, D85, B85, av⟩
      | true =>
        obtain ⟨i, rfl⟩ : ∃ i, v2 = .int i := by cases v2 <;> first | exact ⟨_, rfl⟩ | cases hi
        walk_at "rds"
        refine ite2 (fun h0 => ?_) (fun h0 => ?_)
        · have h0' : 3 ≤ i := of_decide_eq_true h0
          walk_at "rds"
          refine ite2 (fun h1 => ?_) (fun h1 => ?_)
          · have h1' : i ≤ 31 := of_decide_eq_true h1
            walk_at "rds"
            refine ⟨i, rfl, by omega, h1', fun G sG => ?_⟩
            walk_at "rex"
            exact go _ _ ⟨by rw [clk_pr h0' h1']; first | done | rfl, Dr.same D85 sG, B85.trans (same_but sG), av.but (same_but sG)⟩
          · have h1' : ¬ i ≤ 31 := fun z => h1 (decide_eq_true z)
            walk_at "rex"
            exact go _ _ ⟨by rw [clk_out (.inr (by omega))]; first | done | rfl, D85, B85, av⟩
        · have h0' : ¬ 3 ≤ i := fun z => h0 (decide_eq_true z)
          walk_at "rex"
          exact go _ _ ⟨by rw [clk_out (.inl (by omega))]; first | done | rfl, D85, B85, av⟩
    rintro _ H70 ⟨rfl, D70, B70, av⟩
    walk_at "rds"
    refine ⟨q, v2, rfl, av, ?_⟩
    walk_at "rds"
    refine ⟨rfl, rfl, q, v2, rfl, av, ?_⟩
    walk_at "rds"
    refine ⟨len_ok rfl, fun p101 hp101 => ?_⟩
    generalize hG101 : upd H70 p101 _ = H101
    obtain ⟨D101, B101, b101, np101, ep101⟩ := alloc hG101 D70 B70 hp101
    clear hG101
    replace av := av.but b101
    walk_at "rds"
    refine r_bools ep101 ?_
    walk_at "rds"
    refine ⟨len_ok rfl, fun p102 hp102 => ?_⟩
    generalize hG102 : upd H101 p102 _ = H102
    obtain ⟨D102, B102, b102, np102, ep102⟩ := alloc hG102 D101 B101 hp102
    clear hG102
    replace av := av.but b102
    replace ep101 := b102 _ _ np101 ep101
    walk_at "rds"
    refine r_bools ep102 ?_
    walk_at "rds"
    refine r_eq_same ?_
    exact k _ _ (by omega) D102 B102
end
end K02
namespace K02
open PySem PySem.Spec PyProof.Rows L2 Rp
section
variable {P : Program} {w : World} {K : PySem.W.Frag} {mg : Str → Option Value} {base : Heap} {tp : Addr}
abbrev sLawRowRight : Stmt := top 14
theorem scLawRowRight : FnScope ["quay", "clock", "size", "row", "at", "odd", "some", "value", "many", "due", "none", "place"] ["quay"] (defScope sLawRowRight) := ⟨rfl, rfl, rfl, by decide +kernel, rfl, by decide +kernel, by decide +kernel⟩
theorem ok_LawRowRight {f : Addr} {fd : FuncData} (F : Fun K "_law_row_right" "_law_row_right" sLawRowRight f fd) (T : Txt K mg tp) (hM : HasMods base) {f0 : Addr} {fd0 : FuncData} (cLawOf : Cal P w K mg base "_law_of" 2 f0 fd0 ["quay", "some"] (spOf K)) {f1 : Addr} {fd1 : FuncData} (cLawHaulIn : Cal P w K mg base "_law_haul_in" 1 f1 fd1 ["quay", "many"] spDraw) {f2 : Addr} {fd2 : FuncData} (cIsRow : Cal P w K mg base "is_row" 3 f2 fd2 ["value", "clock", "size"] spRow) (kIsRow_size_clock_value : KBx K fd2 ["value", "clock", "size"] 0 ["size", "clock", "value"] [2, 1, 0])  : FnG P w K mg base 4 f fd ["quay"] spTurn := by
  refine fng F scLawRowRight (fun {vs H Q E} h => ?_) (fun {cdv A fr s H vs Q E} hg hr h => ?_)
  · obtain ⟨q, c, ns, lap, rfl, hlap, hD, k⟩ := h
    rfl
  · obtain ⟨q, c, ns, lap, rfl, hlap, hD, k⟩ := h
    refine ⟨_, (pss_cons (ps_asg (pe_tup (pa_cons (pe_go cLawOf hg (hr.mono (by decide)) (by rfl) (pa_cons (pv 0) (pa_cons (pe_lst (pa_cons pe_int (pa_cons pe_int (pa_cons pe_int (pa_cons pe_int (pa_cons pe_int (pa_cons pe_int (pa_cons pe_int (pa_cons pe_int (pa_cons pe_int (pa_cons pe_int pa_nil))))))))))) pa_nil))) (pa_cons (pe_go cLawHaulIn hg (hr.mono (by decide)) (by rfl) (pa_cons (pv 0) (pa_cons pe_int pa_nil))) pa_nil))) (pg_tup rfl (pgs_cons (pg_name (i := 1) scLawRowRight.nd rfl (Or.inr rfl)) (pgs_cons (pg_name (i := 2) scLawRowRight.nd rfl (Or.inl rfl)) pgs_nil))))
  (pss_cons (ps_setLc (i := 3) (own := [("place", 11)]) (g := gName 11) (tt := tYes) rfl scLawRowRight.nd rfl rfl (sw_true rfl rfl rfl (by decide +kernel)) (pi_range1 (by rfl) T.z_range (pa_cons (pv 2) pa_nil)) (blkOk_by (own := [("place", 11)]) (N := ["quay", "clock", "size", "row", "at", "odd", "some", "value", "many", "due", "none", "place"]) (sc := defScope sLawRowRight) (by decide +kernel)) (fun _ _ _ _ _ => (pg_name (i := 11) scLawRowRight.nd rfl (Or.inl rfl))) (fun _ _ _ _ _ => pts_nil) (fun _ _ _ _ _ => (pe_go cLawHaulIn hg (hr.mono (by decide)) (by rfl) (pa_cons (pv 0) (pa_cons (pv 1) pa_nil)))))
  (pss_cons (ps_par (i := 4) (j := 5) (by rfl) scLawRowRight.nd rfl rfl (by decide) rfl rfl (pa_cons (pe_go cLawHaulIn hg (hr.mono (by decide)) (by rfl) (pa_cons (pv 0) (pa_cons (pe_op op_add (pv 2) pe_int) pa_nil))) (pa_cons (pe_go cLawOf hg (hr.mono (by decide)) (by rfl) (pa_cons (pv 0) (pa_cons (pe_lst (pa_cons (pv 1) (pa_cons (pe_un un_neg pe_int) (pa_cons pe_bl (pa_cons pe_non (pa_cons pe_str (pa_cons (pe_lst (pa_cons pe_int pa_nil)) (pa_cons (pe_op op_pow pe_int pe_int) (pa_cons pe_bl (pa_cons (pe_tup (pa_cons pe_int pa_nil)) pa_nil)))))))))) pa_nil))) pa_nil)) (by rfl))
  (pss_cons (ps_set (i := 6) scLawRowRight.nd rfl (Or.inl rfl) (pe_lst (pa_cons (pe_tup (pa_cons (pv 3) (pa_cons (pv 2) (pa_cons pe_bl pa_nil)))) (pa_cons (pe_tup (pa_cons (pe_callTy call_tuple_of (by rfl) T.z_tuple (by decide +kernel) (pa_cons (pv 3) pa_nil)) (pa_cons (pv 2) (pa_cons pe_bl pa_nil)))) (pa_cons (pe_tup (pa_cons (pv 3) (pa_cons (pe_op op_add (pv 2) pe_int) (pa_cons pe_bl pa_nil)))) (pa_cons (pe_tup (pa_cons (pe_op op_cat (pe_op op_cat (pe_slice sl_list (pv 3) po_none (po_some (pv 4))) (pe_lst (pa_cons (pv 5) pa_nil))) (pe_slice sl_list (pv 3) (po_some (pv 4)) po_none)) (pa_cons (pe_op op_add (pv 2) pe_int) (pa_cons pe_bl pa_nil)))) pa_nil))))))
  (pss_cons (ps_set (i := 6) scLawRowRight.nd rfl (Or.inl rfl) (pe_op op_cat (pv 6) (pe_lst (pa_cons (pe_tup (pa_cons (pe_op op_catA (pe_callTy call_tuple_of (by rfl) T.z_tuple (by decide +kernel) (pa_cons (pe_slice sl_list (pv 3) po_none (po_some (pv 4))) pa_nil)) (pe_tup (pa_cons (pv 5) pa_nil))) (pa_cons (pe_op op_add (pv 4) pe_int) (pa_cons pe_bl pa_nil)))) (pa_cons (pe_tup (pa_cons (pe_op op_cat (pv 3) (pe_lst (pa_cons pe_int pa_nil))) (pa_cons (pv 2) (pa_cons pe_bl pa_nil)))) (pa_cons (pe_tup (pa_cons (pe_op op_rep (pe_lst (pa_cons (pe_op op_sub (pv 1) pe_int) pa_nil)) (pv 2)) (pa_cons (pv 2) (pa_cons pe_bl pa_nil)))) pa_nil))))))
  (pss_cons (ps_for PassesOwn.never rfl (pi_list (pv 6)) (pg_tup rfl (pgs_cons (pg_name (i := 7) scLawRowRight.nd rfl (Or.inl rfl)) (pgs_cons (pg_name (i := 8) scLawRowRight.nd rfl (Or.inl rfl)) (pgs_cons (pg_name (i := 9) scLawRowRight.nd rfl (Or.inl rfl)) pgs_nil))))
  (pss_one (ps_if (pt_cmpR op_ne (pe_callB (call_reprD hr hg hM) (by rfl) T.z_repr (by decide +kernel) (pa_cons (pe_lst (pa_cons (pe_go cIsRow hg (hr.mono (by decide)) (by rfl) (pa_cons (pv 7) (pa_cons (pv 1) (pa_cons (pv 8) pa_nil)))) (pa_cons (pe_kw0 cIsRow kIsRow_size_clock_value hg (hr.mono (by decide)) (by rfl) (pk_cons (pv 8) (pk_cons (pv 1) (pk_cons (pv 7) pk_nil)))) pa_nil))) pa_nil)) (pe_callB (call_reprD hr hg hM) (by rfl) T.z_repr (by decide +kernel) (pa_cons (pe_lst (pa_cons (pv 9) (pa_cons (pv 9) pa_nil))) pa_nil)) (nomark _))
  (pss_one (ps_ret pe_bl))
  pss_nil)))
  (pss_cons (ps_set (i := 10) scLawRowRight.nd rfl (Or.inl rfl) (pe_go cLawOf hg (hr.mono (by decide)) (by rfl) (pa_cons (pv 0) (pa_cons (pe_lst (pa_cons pe_non (pa_cons pe_int (pa_cons pe_str (pa_cons (pe_disp (pps_cons pe_int pe_int (pps_cons pe_int pe_int pps_nil)) (by rfl) (by rfl) (fun z => by cases z) (by decide)) (pa_cons pe_bl (pa_cons pe_str pa_nil))))))) pa_nil))))
  (pss_one (ps_ret (pe_and (pe_cmpR op_is_any (pe_go cIsRow hg (hr.mono (by decide)) (by rfl) (pa_cons (pv 10) (pa_cons (pv 1) (pa_cons pe_int pa_nil)))) pe_bl (nomark _)) (pe_and (pe_cmpR op_is_any (pe_go cIsRow hg (hr.mono (by decide)) (by rfl) (pa_cons (pe_lst pa_nil) (pa_cons (pv 1) (pa_cons pe_int pa_nil)))) pe_bl (nomark _)) (pe_one (pe_cmpR op_is_any (pe_go cIsRow hg (hr.mono (by decide)) (by rfl) (pa_cons (pe_tup pa_nil) (pa_cons (pv 1) (pa_cons pe_int pa_nil)))) pe_bl (nomark _)))))))))))))), ?_⟩
    refine r_start (l := [some (.ref q), none, none, none, none, none, none, none, none, none, none, none]) rfl ?_
    have B0 : But q H H := But.refl _ _
    have e20 : (10 : Int) ^ Int.toNat 20 = 100000000000000000000 := by decide +kernel
    walk_at "rds"
    refine ⟨len_ok rfl, fun p1 hp1 => ?_⟩
    generalize hG1 : upd H p1 _ = H1
    obtain ⟨D1, B1, b1, np1, ep1⟩ := alloc hG1 hD B0 hp1
    clear hG1
    walk_at "rds"
    refine ⟨_, _, _, _, _, _, rfl, SqL.of ep1, Nat.zero_lt_succ _, lt_ok rfl, by omega, np1, D1, fun H2 l2 i2 v2 hl2 D2 b2 e2 => ?_⟩
    have pv2 := EachP.get (F := fun x => ∃ c : Int, x = .int c ∧ clk (.int c) = true ∧ 3 ≤ c ∧ c ≤ 31) (.cons ⟨_, rfl, by decide +kernel, by decide, by decide⟩ (.cons ⟨_, rfl, by decide +kernel, by decide, by decide⟩ (.cons ⟨_, rfl, by decide +kernel, by decide, by decide⟩ (.cons ⟨_, rfl, by decide +kernel, by decide, by decide⟩ (.cons ⟨_, rfl, by decide +kernel, by decide, by decide⟩ (.cons ⟨_, rfl, by decide +kernel, by decide, by decide⟩ (.cons ⟨_, rfl, by decide +kernel, by decide, by decide⟩ (.cons ⟨_, rfl, by decide +kernel, by decide, by decide⟩ (.cons ⟨_, rfl, by decide +kernel, by decide, by decide⟩ (.cons ⟨_, rfl, by decide +kernel, by decide, by decide⟩ .nil)))))))))) e2
    have B2 := B1.trans b2
    replace ep1 := b2 _ _ np1 ep1
    obtain ⟨clock, rfl, hck, c3, c31⟩ := pv2
    walk_at "rds"
    refine ⟨_, _, _, _, _, rfl, by decide, by decide, by omega, D2, fun H3 l3 r3 hl3 D3 b3 m3 n3 => ?_⟩
    have B3 := B2.trans b3
    replace ep1 := b3 _ _ np1 ep1
    walk_at "rds"
    refine ⟨len_ok rfl, fun p4 hp4 => ?_⟩
    generalize hG4 : upd H3 p4 _ = H4
    obtain ⟨D4, B4, b4, np4, ep4⟩ := alloc hG4 D3 B3 hp4
    clear hG4
    replace ep1 := b4 _ _ np1 ep1
    walk_at "rds"
    refine ⟨_, _, rfl, SqT.of ep4, rfl, ?_⟩
    refine ⟨_, _, rfl, ?_⟩
    walk_at "rds"
    refine ⟨_, _, rfl, ?_⟩
    walk_at "rds"
    refine ⟨rfl, ?_⟩
    obtain ⟨size, rfl⟩ : ∃ z : Nat, r3 = (z : Int) := ⟨r3.toNat, by omega⟩
    have hsz : size ≤ 6 := by omega
    walk_at "rds"
    refine ⟨_, rfl, by omega, by omega, fun D hD => ?_⟩
    have nDq : D ≠ q := by
      intro e
      obtain ⟨_, ⟨_, z⟩, _⟩ := D4
      rw [e, z] at hD
      cases hD
    rw [Int.toNat_natCast]
    refine lc_range (lo := 0) (n := size) (fun i G => ∃ (lp : Nat) (xs : List V), lp ≤ l3 + i ∧ Dr q c ns lp G ∧ But q H4 G ∧ G D = some (.lst xs) ∧ xs.length = i ∧ EachP (IntIn 0 (clock - 1)) xs) ?_ ?_ ?_
    · exact ⟨_, [], by omega, D4.neu hD, (But.refl _ _).neu hD, upd_same, rfl, .nil⟩
    · rintro i G hi ⟨lp, xs, hlp, DG, BG, eD, hxs, hall⟩
      walk_at "rds"
      refine ⟨rfl, ?_⟩
      walk_at "rds"
      refine ⟨_, _, _, _, _, rfl, by omega, by omega, by omega, DG, fun G2 lp2 r hl2 DG2 bG2 r0 r1 => ?_⟩
      have eD2 := bG2 _ _ nDq eD
      refine ⟨xs, eD2, small1000 (by omega), lp2, xs ++ [.int r], by omega, ?_, ?_, upd_same, by simp [hxs], hall.append (.cons ⟨r, rfl, r0, by omega⟩ .nil)⟩
      · obtain ⟨ne, ⟨rest, z⟩, zc, zl⟩ := DG2
        have ncD : c ≠ D := fun e => by
          have zz := D4.cells
          rw [e, hD] at zz
          cases zz
        exact ⟨ne, ⟨rest, by rw [upd_ne nDq.symm]; exact z⟩, by rw [upd_ne ncD]; exact zc, zl⟩
      · exact but_put rfl (BG.trans bG2) hD
    rintro H60 ⟨l60, xs, hl60, D60, b60, eD, hxs, hall⟩
    replace B0 := B4.trans b60
    walk_at "rds"
    refine ⟨_, _, _, _, _, rfl, by omega, by omega, by omega, D60, fun H61 l61 r61 hl61 D61 b61 m61 n61 => ?_⟩
    have B61 := B0.trans b61
    replace eD := b61 _ _ nDq eD
    walk_at "rds"
    obtain ⟨at_, rfl⟩ : ∃ z : Nat, r61 = (z : Int) := ⟨r61.toNat, by omega⟩
    have hat : at_ ≤ xs.length := by omega
    refine ⟨len_ok rfl, fun p62 hp62 => ?_⟩
    generalize hG62 : upd H61 p62 _ = H62
    obtain ⟨D62, B62, b62, np62, ep62⟩ := alloc hG62 D61 B61 hp62
    clear hG62
    replace eD := b62 _ _ nDq eD
    walk_at "rds"
    have a0 : Any q H62 (.ref p62) := .lst np62 ep62
    refine r_I ⟨by decide, by decide, by decide⟩ ?_
    walk_at "rds"
    refine ⟨len_ok rfl, fun p63 hp63 => ?_⟩
    generalize hG63 : upd H62 p63 _ = H63
    obtain ⟨D63, B63, b63, np63, ep63⟩ := alloc hG63 D62 B62 hp63
    clear hG63
    replace a0 := a0.but b63
    replace eD := b63 _ _ nDq eD
    replace ep62 := b63 _ _ np62 ep62
    walk_at "rds"
    have a1 : Any q H63 (.ref p63) := .tup np63 ep63
    refine ⟨len_ok rfl, fun p64 hp64 => ?_⟩
    generalize hG64 : upd H63 p64 _ = H64
    obtain ⟨D64, B64, b64, np64, ep64⟩ := alloc hG64 D63 B63 hp64
    clear hG64
    replace a0 := a0.but b64
    replace a1 := a1.but b64
    replace eD := b64 _ _ nDq eD
    replace ep62 := b64 _ _ np62 ep62
    replace ep63 := b64 _ _ np63 ep63
    walk_at "rds"
    refine ⟨_, _, _, _, _, _, rfl, SqL.of ep64, Nat.zero_lt_succ _, lt_ok rfl, by omega, np64, D64, fun H65 l65 i65 v65 hl65 D65 b65 e65 => ?_⟩
    have pv65 := EachP.get (F := fun x => Any q H64 x ∧ inB x (some 0) (some (clock - 1)) = false) (.cons ⟨.num _, by simp [inB]; omega⟩ (.cons ⟨.num _, by simp [inB]⟩ (.cons ⟨.bl _, rfl⟩ (.cons ⟨.non, rfl⟩ (.cons ⟨.str _, rfl⟩ (.cons ⟨a0, rfl⟩ (.cons ⟨.num _, by simp [inB, e20]; omega⟩ (.cons ⟨.bl _, rfl⟩ (.cons ⟨a1, rfl⟩ .nil))))))))) e65
    have B65 := B64.trans b65
    replace a0 := a0.but b65
    replace a1 := a1.but b65
    replace eD := b65 _ _ nDq eD
    replace ep62 := b65 _ _ np62 ep62
    replace ep63 := b65 _ _ np63 ep63
    replace ep64 := b65 _ _ np64 ep64
    obtain ⟨ao, no⟩ := pv65
    replace ao := ao.but b65
    generalize v65 = odd at ao no ⊢
    walk_at "rds"
    refine ⟨_, _, rfl, ?_⟩
    walk_at "rds"
    have hz : (xs.length : Int) = (size : Int) := by rw [hxs]
    have rv : RowV q H65 (.ref D) (some xs) := .lst nDq eD fun x m => (hall.mem x m).any
    refine ⟨len_ok rfl, fun p66 hp66 => ?_⟩
    generalize hG66 : upd H65 p66 _ = H66
    obtain ⟨D66, B66, b66, np66, ep66⟩ := alloc hG66 D65 B65 hp66
    clear hG66
    replace ao := ao.but b66
    replace rv := rv.but b66
    replace eD := b66 _ _ nDq eD
    replace ep62 := b66 _ _ np62 ep62
    replace ep63 := b66 _ _ np63 ep63
    replace ep64 := b66 _ _ np64 ep64
    walk_at "rds"
    have it66 : RowItem q clock H66 (.ref p66) := ⟨_, _, _, _, _, rfl, np66, ep66, rv, by omega, by rw [← hz]; exact row_yes hall⟩
    refine ⟨_, _, rfl, .inl ⟨SqL.of eD, ?_⟩⟩
    intro p67 hp67
    generalize hG67 : upd H66 p67 _ = H67
    obtain ⟨D67, B67, b67, np67, ep67⟩ := alloc hG67 D66 B66 hp67
    clear hG67
    replace ao := ao.but b67
    replace rv := rv.but b67
    replace it66 := it66.but b67
    replace eD := b67 _ _ nDq eD
    replace ep62 := b67 _ _ np62 ep62
    replace ep63 := b67 _ _ np63 ep63
    replace ep64 := b67 _ _ np64 ep64
    replace ep66 := b67 _ _ np66 ep66
    walk_at "rds"
    have rt : RowV q H67 (.ref p67) (some xs) := .tup np67 ep67 fun x m => (hall.mem x m).any
    refine ⟨len_ok rfl, fun p68 hp68 => ?_⟩
    generalize hG68 : upd H67 p68 _ = H68
    obtain ⟨D68, B68, b68, np68, ep68⟩ := alloc hG68 D67 B67 hp68
    clear hG68
    replace ao := ao.but b68
    replace rv := rv.but b68
    replace it66 := it66.but b68
    replace rt := rt.but b68
    replace eD := b68 _ _ nDq eD
    replace ep62 := b68 _ _ np62 ep62
    replace ep63 := b68 _ _ np63 ep63
    replace ep64 := b68 _ _ np64 ep64
    replace ep66 := b68 _ _ np66 ep66
    replace ep67 := b68 _ _ np67 ep67
    walk_at "rds"
    have it68 : RowItem q clock H68 (.ref p68) := ⟨_, _, _, _, _, rfl, np68, ep68, rt, by omega, by rw [← hz]; exact row_yes hall⟩
    refine ⟨len_ok rfl, fun p69 hp69 => ?_⟩
    generalize hG69 : upd H68 p69 _ = H69
    obtain ⟨D69, B69, b69, np69, ep69⟩ := alloc hG69 D68 B68 hp69
    clear hG69
    replace ao := ao.but b69
    replace rv := rv.but b69
    replace it66 := it66.but b69
    replace rt := rt.but b69
    replace it68 := it68.but b69
    replace eD := b69 _ _ nDq eD
    replace ep62 := b69 _ _ np62 ep62
    replace ep63 := b69 _ _ np63 ep63
    replace ep64 := b69 _ _ np64 ep64
    replace ep66 := b69 _ _ np66 ep66
    replace ep67 := b69 _ _ np67 ep67
    replace ep68 := b69 _ _ np68 ep68
    walk_at "rds"
    have it69 : RowItem q clock H69 (.ref p69) := ⟨_, _, _, _, _, rfl, np69, ep69, rv, by omega, row_size (by omega)⟩
    refine ⟨_, rfl, _, _, rfl, SqL.of eD, ?_⟩
    intro p70 hp70
    generalize hG70 : upd H69 p70 _ = H70
    obtain ⟨D70, B70, b70, np70, ep70⟩ := alloc hG70 D69 B69 hp70
    clear hG70
    replace ao := ao.but b70
    replace rv := rv.but b70
    replace it66 := it66.but b70
    replace rt := rt.but b70
    replace it68 := it68.but b70
    replace it69 := it69.but b70
    replace eD := b70 _ _ nDq eD
    replace ep62 := b70 _ _ np62 ep62
    replace ep63 := b70 _ _ np63 ep63
    replace ep64 := b70 _ _ np64 ep64
    replace ep66 := b70 _ _ np66 ep66
    replace ep67 := b70 _ _ np67 ep67
    replace ep68 := b70 _ _ np68 ep68
    replace ep69 := b70 _ _ np69 ep69
    rw [cut_lo hat] at ep70
    walk_at "rds"
    refine ⟨len_ok rfl, fun p71 hp71 => ?_⟩
    generalize hG71 : upd H70 p71 _ = H71
    obtain ⟨D71, B71, b71, np71, ep71⟩ := alloc hG71 D70 B70 hp71
    clear hG71
    replace ao := ao.but b71
    replace rv := rv.but b71
    replace it66 := it66.but b71
    replace rt := rt.but b71
    replace it68 := it68.but b71
    replace it69 := it69.but b71
    replace eD := b71 _ _ nDq eD
    replace ep62 := b71 _ _ np62 ep62
    replace ep63 := b71 _ _ np63 ep63
    replace ep64 := b71 _ _ np64 ep64
    replace ep66 := b71 _ _ np66 ep66
    replace ep67 := b71 _ _ np67 ep67
    replace ep68 := b71 _ _ np68 ep68
    replace ep69 := b71 _ _ np69 ep69
    replace ep70 := b71 _ _ np70 ep70
    walk_at "rds"
    refine ⟨_, _, _, _, rfl, rfl, ep70, ep71, Nat.le_of_lt (small1000 (by rw [List.length_take, List.length_singleton]; omega)), ?_⟩
    intro p72 hp72
    generalize hG72 : upd H71 p72 _ = H72
    obtain ⟨D72, B72, b72, np72, ep72⟩ := alloc hG72 D71 B71 hp72
    clear hG72
    replace ao := ao.but b72
    replace rv := rv.but b72
    replace it66 := it66.but b72
    replace rt := rt.but b72
    replace it68 := it68.but b72
    replace it69 := it69.but b72
    replace eD := b72 _ _ nDq eD
    replace ep62 := b72 _ _ np62 ep62
    replace ep63 := b72 _ _ np63 ep63
    replace ep64 := b72 _ _ np64 ep64
    replace ep66 := b72 _ _ np66 ep66
    replace ep67 := b72 _ _ np67 ep67
    replace ep68 := b72 _ _ np68 ep68
    replace ep69 := b72 _ _ np69 ep69
    replace ep70 := b72 _ _ np70 ep70
    replace ep71 := b72 _ _ np71 ep71
    walk_at "rds"
    refine ⟨_, rfl, _, _, rfl, SqL.of eD, ?_⟩
    intro p73 hp73
    generalize hG73 : upd H72 p73 _ = H73
    obtain ⟨D73, B73, b73, np73, ep73⟩ := alloc hG73 D72 B72 hp73
    clear hG73
    replace ao := ao.but b73
    replace rv := rv.but b73
    replace it66 := it66.but b73
    replace rt := rt.but b73
    replace it68 := it68.but b73
    replace it69 := it69.but b73
    replace eD := b73 _ _ nDq eD
    replace ep62 := b73 _ _ np62 ep62
    replace ep63 := b73 _ _ np63 ep63
    replace ep64 := b73 _ _ np64 ep64
    replace ep66 := b73 _ _ np66 ep66
    replace ep67 := b73 _ _ np67 ep67
    replace ep68 := b73 _ _ np68 ep68
    replace ep69 := b73 _ _ np69 ep69
    replace ep70 := b73 _ _ np70 ep70
    replace ep71 := b73 _ _ np71 ep71
    replace ep72 := b73 _ _ np72 ep72
    rw [cut_hi hat] at ep73
    walk_at "rds"
    refine ⟨_, _, _, _, rfl, rfl, ep72, ep73, Nat.le_of_lt (small1000 (by rw [List.length_append, List.length_take, List.length_singleton, List.length_drop]; omega)), ?_⟩
    intro p74 hp74
    generalize hG74 : upd H73 p74 _ = H74
    obtain ⟨D74, B74, b74, np74, ep74⟩ := alloc hG74 D73 B73 hp74
    clear hG74
    replace ao := ao.but b74
    replace rv := rv.but b74
    replace it66 := it66.but b74
    replace rt := rt.but b74
    replace it68 := it68.but b74
    replace it69 := it69.but b74
    replace eD := b74 _ _ nDq eD
    replace ep62 := b74 _ _ np62 ep62
    replace ep63 := b74 _ _ np63 ep63
    replace ep64 := b74 _ _ np64 ep64
    replace ep66 := b74 _ _ np66 ep66
    replace ep67 := b74 _ _ np67 ep67
    replace ep68 := b74 _ _ np68 ep68
    replace ep69 := b74 _ _ np69 ep69
    replace ep70 := b74 _ _ np70 ep70
    replace ep71 := b74 _ _ np71 ep71
    replace ep72 := b74 _ _ np72 ep72
    replace ep73 := b74 _ _ np73 ep73
    walk_at "rds"
    have r4 : RowV q H74 (.ref p74) (some (xs.take at_ ++ [odd] ++ xs.drop at_)) := .lst np74 ep74 (any_all (((EachP.sub hall fun x m => List.mem_of_mem_take m).imp fun _ => IntIn.any).append (.cons ao .nil) |>.append ((EachP.sub hall fun x m => List.mem_of_mem_drop m).imp fun _ => IntIn.any)))
    refine ⟨len_ok rfl, fun p75 hp75 => ?_⟩
    generalize hG75 : upd H74 p75 _ = H75
    obtain ⟨D75, B75, b75, np75, ep75⟩ := alloc hG75 D74 B74 hp75
    clear hG75
    replace ao := ao.but b75
    replace rv := rv.but b75
    replace it66 := it66.but b75
    replace rt := rt.but b75
    replace it68 := it68.but b75
    replace it69 := it69.but b75
    replace r4 := r4.but b75
    replace eD := b75 _ _ nDq eD
    replace ep62 := b75 _ _ np62 ep62
    replace ep63 := b75 _ _ np63 ep63
    replace ep64 := b75 _ _ np64 ep64
    replace ep66 := b75 _ _ np66 ep66
    replace ep67 := b75 _ _ np67 ep67
    replace ep68 := b75 _ _ np68 ep68
    replace ep69 := b75 _ _ np69 ep69
    replace ep70 := b75 _ _ np70 ep70
    replace ep71 := b75 _ _ np71 ep71
    replace ep72 := b75 _ _ np72 ep72
    replace ep73 := b75 _ _ np73 ep73
    replace ep74 := b75 _ _ np74 ep74
    walk_at "rds"
    have it75 : RowItem q clock H75 (.ref p75) := ⟨_, _, _, _, _, rfl, np75, ep75, r4, by rw [List.length_append, List.length_append, List.length_take, List.length_singleton, List.length_drop]; omega, row_no (x := odd) (by simp) no⟩
    refine ⟨len_ok rfl, fun p76 hp76 => ?_⟩
    generalize hG76 : upd H75 p76 _ = H76
    obtain ⟨D76, B76, b76, np76, ep76⟩ := alloc hG76 D75 B75 hp76
    clear hG76
    replace ao := ao.but b76
    replace rv := rv.but b76
    replace it66 := it66.but b76
    replace rt := rt.but b76
    replace it68 := it68.but b76
    replace it69 := it69.but b76
    replace r4 := r4.but b76
    replace it75 := it75.but b76
    replace eD := b76 _ _ nDq eD
    replace ep62 := b76 _ _ np62 ep62
    replace ep63 := b76 _ _ np63 ep63
    replace ep64 := b76 _ _ np64 ep64
    replace ep66 := b76 _ _ np66 ep66
    replace ep67 := b76 _ _ np67 ep67
    replace ep68 := b76 _ _ np68 ep68
    replace ep69 := b76 _ _ np69 ep69
    replace ep70 := b76 _ _ np70 ep70
    replace ep71 := b76 _ _ np71 ep71
    replace ep72 := b76 _ _ np72 ep72
    replace ep73 := b76 _ _ np73 ep73
    replace ep74 := b76 _ _ np74 ep74
    replace ep75 := b76 _ _ np75 ep75
    walk_at "rds"
    walk_at "res"
    walk_at "rds"
    refine ⟨_, rfl, _, _, rfl, SqL.of eD, ?_⟩
    intro p77 hp77
    generalize hG77 : upd H76 p77 _ = H77
    obtain ⟨D77, B77, b77, np77, ep77⟩ := alloc hG77 D76 B76 hp77
    clear hG77
    replace ao := ao.but b77
    replace rv := rv.but b77
    replace it66 := it66.but b77
    replace rt := rt.but b77
    replace it68 := it68.but b77
    replace it69 := it69.but b77
    replace r4 := r4.but b77
    replace it75 := it75.but b77
    replace eD := b77 _ _ nDq eD
    replace ep62 := b77 _ _ np62 ep62
    replace ep63 := b77 _ _ np63 ep63
    replace ep64 := b77 _ _ np64 ep64
    replace ep66 := b77 _ _ np66 ep66
    replace ep67 := b77 _ _ np67 ep67
    replace ep68 := b77 _ _ np68 ep68
    replace ep69 := b77 _ _ np69 ep69
    replace ep70 := b77 _ _ np70 ep70
    replace ep71 := b77 _ _ np71 ep71
    replace ep72 := b77 _ _ np72 ep72
    replace ep73 := b77 _ _ np73 ep73
    replace ep74 := b77 _ _ np74 ep74
    replace ep75 := b77 _ _ np75 ep75
    replace ep76 := b77 _ _ np76 ep76
    rw [cut_lo hat] at ep77
    walk_at "rds"
    refine ⟨_, _, rfl, .inl ⟨SqL.of ep77, ?_⟩⟩
    intro p78 hp78
    generalize hG78 : upd H77 p78 _ = H78
    obtain ⟨D78, B78, b78, np78, ep78⟩ := alloc hG78 D77 B77 hp78
    clear hG78
    replace ao := ao.but b78
    replace rv := rv.but b78
    replace it66 := it66.but b78
    replace rt := rt.but b78
    replace it68 := it68.but b78
    replace it69 := it69.but b78
    replace r4 := r4.but b78
    replace it75 := it75.but b78
    replace eD := b78 _ _ nDq eD
    replace ep62 := b78 _ _ np62 ep62
    replace ep63 := b78 _ _ np63 ep63
    replace ep64 := b78 _ _ np64 ep64
    replace ep66 := b78 _ _ np66 ep66
    replace ep67 := b78 _ _ np67 ep67
    replace ep68 := b78 _ _ np68 ep68
    replace ep69 := b78 _ _ np69 ep69
    replace ep70 := b78 _ _ np70 ep70
    replace ep71 := b78 _ _ np71 ep71
    replace ep72 := b78 _ _ np72 ep72
    replace ep73 := b78 _ _ np73 ep73
    replace ep74 := b78 _ _ np74 ep74
    replace ep75 := b78 _ _ np75 ep75
    replace ep76 := b78 _ _ np76 ep76
    replace ep77 := b78 _ _ np77 ep77
    walk_at "rds"
    refine ⟨len_ok rfl, fun p79 hp79 => ?_⟩
    generalize hG79 : upd H78 p79 _ = H79
    obtain ⟨D79, B79, b79, np79, ep79⟩ := alloc hG79 D78 B78 hp79
    clear hG79
    replace ao := ao.but b79
    replace rv := rv.but b79
    replace it66 := it66.but b79
    replace rt := rt.but b79
    replace it68 := it68.but b79
    replace it69 := it69.but b79
    replace r4 := r4.but b79
    replace it75 := it75.but b79
    replace eD := b79 _ _ nDq eD
    replace ep62 := b79 _ _ np62 ep62
    replace ep63 := b79 _ _ np63 ep63
    replace ep64 := b79 _ _ np64 ep64
    replace ep66 := b79 _ _ np66 ep66
    replace ep67 := b79 _ _ np67 ep67
    replace ep68 := b79 _ _ np68 ep68
    replace ep69 := b79 _ _ np69 ep69
    replace ep70 := b79 _ _ np70 ep70
    replace ep71 := b79 _ _ np71 ep71
    replace ep72 := b79 _ _ np72 ep72
    replace ep73 := b79 _ _ np73 ep73
    replace ep74 := b79 _ _ np74 ep74
    replace ep75 := b79 _ _ np75 ep75
    replace ep76 := b79 _ _ np76 ep76
    replace ep77 := b79 _ _ np77 ep77
    replace ep78 := b79 _ _ np78 ep78
    walk_at "rds"
    refine r_catA (SqT.of ep78) ep79 (Nat.le_of_lt (small1000 (by rw [List.length_take, List.length_singleton]; omega))) (by simp) fun p80 H80 ep80 z80 => ?_
    obtain ⟨D80, B80, b80, np80⟩ := alloc_or z80 D79 B79 np79
    replace ao := ao.but b80
    replace rv := rv.but b80
    replace it66 := it66.but b80
    replace rt := rt.but b80
    replace it68 := it68.but b80
    replace it69 := it69.but b80
    replace r4 := r4.but b80
    replace it75 := it75.but b80
    replace eD := b80 _ _ nDq eD
    replace ep62 := b80 _ _ np62 ep62
    replace ep63 := b80 _ _ np63 ep63
    replace ep64 := b80 _ _ np64 ep64
    replace ep66 := b80 _ _ np66 ep66
    replace ep67 := b80 _ _ np67 ep67
    replace ep68 := b80 _ _ np68 ep68
    replace ep69 := b80 _ _ np69 ep69
    replace ep70 := b80 _ _ np70 ep70
    replace ep71 := b80 _ _ np71 ep71
    replace ep72 := b80 _ _ np72 ep72
    replace ep73 := b80 _ _ np73 ep73
    replace ep74 := b80 _ _ np74 ep74
    replace ep75 := b80 _ _ np75 ep75
    replace ep76 := b80 _ _ np76 ep76
    replace ep77 := b80 _ _ np77 ep77
    replace ep78 := b80 _ _ np78 ep78
    replace ep79 := b80 _ _ np79 ep79
    walk_at "rds"
    have r5 : RowV q H80 (.ref p80) (some (xs.take at_ ++ [odd])) := .tup np80 ep80 (any_all (((EachP.sub hall fun x m => List.mem_of_mem_take m).imp fun _ => IntIn.any).append (.cons ao .nil)))
    refine ⟨len_ok rfl, fun p81 hp81 => ?_⟩
    generalize hG81 : upd H80 p81 _ = H81
    obtain ⟨D81, B81, b81, np81, ep81⟩ := alloc hG81 D80 B80 hp81
    clear hG81
    replace ao := ao.but b81
    replace rv := rv.but b81
    replace it66 := it66.but b81
    replace rt := rt.but b81
    replace it68 := it68.but b81
    replace it69 := it69.but b81
    replace r4 := r4.but b81
    replace it75 := it75.but b81
    replace r5 := r5.but b81
    replace eD := b81 _ _ nDq eD
    replace ep62 := b81 _ _ np62 ep62
    replace ep63 := b81 _ _ np63 ep63
    replace ep64 := b81 _ _ np64 ep64
    replace ep66 := b81 _ _ np66 ep66
    replace ep67 := b81 _ _ np67 ep67
    replace ep68 := b81 _ _ np68 ep68
    replace ep69 := b81 _ _ np69 ep69
    replace ep70 := b81 _ _ np70 ep70
    replace ep71 := b81 _ _ np71 ep71
    replace ep72 := b81 _ _ np72 ep72
    replace ep73 := b81 _ _ np73 ep73
    replace ep74 := b81 _ _ np74 ep74
    replace ep75 := b81 _ _ np75 ep75
    replace ep76 := b81 _ _ np76 ep76
    replace ep77 := b81 _ _ np77 ep77
    replace ep78 := b81 _ _ np78 ep78
    replace ep79 := b81 _ _ np79 ep79
    replace ep80 := b81 _ _ np80 ep80
    walk_at "rds"
    have it81 : RowItem q clock H81 (.ref p81) := ⟨_, _, _, _, _, rfl, np81, ep81, r5, by rw [List.length_append, List.length_take, List.length_singleton]; omega, row_no (x := odd) (by simp) no⟩
    refine ⟨len_ok rfl, fun p82 hp82 => ?_⟩
    generalize hG82 : upd H81 p82 _ = H82
    obtain ⟨D82, B82, b82, np82, ep82⟩ := alloc hG82 D81 B81 hp82
    clear hG82
    replace ao := ao.but b82
    replace rv := rv.but b82
    replace it66 := it66.but b82
    replace rt := rt.but b82
    replace it68 := it68.but b82
    replace it69 := it69.but b82
    replace r4 := r4.but b82
    replace it75 := it75.but b82
    replace r5 := r5.but b82
    replace it81 := it81.but b82
    replace eD := b82 _ _ nDq eD
    replace ep62 := b82 _ _ np62 ep62
    replace ep63 := b82 _ _ np63 ep63
    replace ep64 := b82 _ _ np64 ep64
    replace ep66 := b82 _ _ np66 ep66
    replace ep67 := b82 _ _ np67 ep67
    replace ep68 := b82 _ _ np68 ep68
    replace ep69 := b82 _ _ np69 ep69
    replace ep70 := b82 _ _ np70 ep70
    replace ep71 := b82 _ _ np71 ep71
    replace ep72 := b82 _ _ np72 ep72
    replace ep73 := b82 _ _ np73 ep73
    replace ep74 := b82 _ _ np74 ep74
    replace ep75 := b82 _ _ np75 ep75
    replace ep76 := b82 _ _ np76 ep76
    replace ep77 := b82 _ _ np77 ep77
    replace ep78 := b82 _ _ np78 ep78
    replace ep79 := b82 _ _ np79 ep79
    replace ep80 := b82 _ _ np80 ep80
    replace ep81 := b82 _ _ np81 ep81
    walk_at "rds"
    refine ⟨_, _, _, _, rfl, rfl, eD, ep82, Nat.le_of_lt (small1000 (by rw [List.length_singleton]; omega)), ?_⟩
    intro p83 hp83
    generalize hG83 : upd H82 p83 _ = H83
    obtain ⟨D83, B83, b83, np83, ep83⟩ := alloc hG83 D82 B82 hp83
    clear hG83
    replace ao := ao.but b83
    replace rv := rv.but b83
    replace it66 := it66.but b83
    replace rt := rt.but b83
    replace it68 := it68.but b83
    replace it69 := it69.but b83
    replace r4 := r4.but b83
    replace it75 := it75.but b83
    replace r5 := r5.but b83
    replace it81 := it81.but b83
    replace eD := b83 _ _ nDq eD
    replace ep62 := b83 _ _ np62 ep62
    replace ep63 := b83 _ _ np63 ep63
    replace ep64 := b83 _ _ np64 ep64
    replace ep66 := b83 _ _ np66 ep66
    replace ep67 := b83 _ _ np67 ep67
    replace ep68 := b83 _ _ np68 ep68
    replace ep69 := b83 _ _ np69 ep69
    replace ep70 := b83 _ _ np70 ep70
    replace ep71 := b83 _ _ np71 ep71
    replace ep72 := b83 _ _ np72 ep72
    replace ep73 := b83 _ _ np73 ep73
    replace ep74 := b83 _ _ np74 ep74
    replace ep75 := b83 _ _ np75 ep75
    replace ep76 := b83 _ _ np76 ep76
    replace ep77 := b83 _ _ np77 ep77
    replace ep78 := b83 _ _ np78 ep78
    replace ep79 := b83 _ _ np79 ep79
    replace ep80 := b83 _ _ np80 ep80
    replace ep81 := b83 _ _ np81 ep81
    replace ep82 := b83 _ _ np82 ep82
    walk_at "rds"
    have r6 : RowV q H83 (.ref p83) (some (xs ++ [.int 0])) := .lst np83 ep83 (any_all ((hall.imp fun _ => IntIn.any).append (.cons (.num _) .nil)))
    refine ⟨len_ok rfl, fun p84 hp84 => ?_⟩
    generalize hG84 : upd H83 p84 _ = H84
    obtain ⟨D84, B84, b84, np84, ep84⟩ := alloc hG84 D83 B83 hp84
    clear hG84
    replace ao := ao.but b84
    replace rv := rv.but b84
    replace it66 := it66.but b84
    replace rt := rt.but b84
    replace it68 := it68.but b84
    replace it69 := it69.but b84
    replace r4 := r4.but b84
    replace it75 := it75.but b84
    replace r5 := r5.but b84
    replace it81 := it81.but b84
    replace r6 := r6.but b84
    replace eD := b84 _ _ nDq eD
    replace ep62 := b84 _ _ np62 ep62
    replace ep63 := b84 _ _ np63 ep63
    replace ep64 := b84 _ _ np64 ep64
    replace ep66 := b84 _ _ np66 ep66
    replace ep67 := b84 _ _ np67 ep67
    replace ep68 := b84 _ _ np68 ep68
    replace ep69 := b84 _ _ np69 ep69
    replace ep70 := b84 _ _ np70 ep70
    replace ep71 := b84 _ _ np71 ep71
    replace ep72 := b84 _ _ np72 ep72
    replace ep73 := b84 _ _ np73 ep73
    replace ep74 := b84 _ _ np74 ep74
    replace ep75 := b84 _ _ np75 ep75
    replace ep76 := b84 _ _ np76 ep76
    replace ep77 := b84 _ _ np77 ep77
    replace ep78 := b84 _ _ np78 ep78
    replace ep79 := b84 _ _ np79 ep79
    replace ep80 := b84 _ _ np80 ep80
    replace ep81 := b84 _ _ np81 ep81
    replace ep82 := b84 _ _ np82 ep82
    replace ep83 := b84 _ _ np83 ep83
    walk_at "rds"
    have it84 : RowItem q clock H84 (.ref p84) := ⟨_, _, _, _, _, rfl, np84, ep84, r6, by rw [List.length_append, List.length_singleton]; omega, row_size (by rw [List.length_append, List.length_singleton]; omega)⟩
    refine ⟨len_ok rfl, fun p85 hp85 => ?_⟩
    generalize hG85 : upd H84 p85 _ = H85
    obtain ⟨D85, B85, b85, np85, ep85⟩ := alloc hG85 D84 B84 hp85
    clear hG85
    replace ao := ao.but b85
    replace rv := rv.but b85
    replace it66 := it66.but b85
    replace rt := rt.but b85
    replace it68 := it68.but b85
    replace it69 := it69.but b85
    replace r4 := r4.but b85
    replace it75 := it75.but b85
    replace r5 := r5.but b85
    replace it81 := it81.but b85
    replace r6 := r6.but b85
    replace it84 := it84.but b85
    replace eD := b85 _ _ nDq eD
    replace ep62 := b85 _ _ np62 ep62
    replace ep63 := b85 _ _ np63 ep63
    replace ep64 := b85 _ _ np64 ep64
    replace ep66 := b85 _ _ np66 ep66
    replace ep67 := b85 _ _ np67 ep67
    replace ep68 := b85 _ _ np68 ep68
    replace ep69 := b85 _ _ np69 ep69
    replace ep70 := b85 _ _ np70 ep70
    replace ep71 := b85 _ _ np71 ep71
    replace ep72 := b85 _ _ np72 ep72
    replace ep73 := b85 _ _ np73 ep73
    replace ep74 := b85 _ _ np74 ep74
    replace ep75 := b85 _ _ np75 ep75
    replace ep76 := b85 _ _ np76 ep76
    replace ep77 := b85 _ _ np77 ep77
    replace ep78 := b85 _ _ np78 ep78
    replace ep79 := b85 _ _ np79 ep79
    replace ep80 := b85 _ _ np80 ep80
    replace ep81 := b85 _ _ np81 ep81
    replace ep82 := b85 _ _ np82 ep82
    replace ep83 := b85 _ _ np83 ep83
    replace ep84 := b85 _ _ np84 ep84
    walk_at "rds"
    refine ⟨_, _, _, rfl, rfl, ep85, by omega, by omega, Nat.le_of_lt (small1000 (by rw [List.length_singleton, Int.toNat_natCast]; omega)), ?_⟩
    intro p86 hp86
    generalize hG86 : upd H85 p86 _ = H86
    obtain ⟨D86, B86, b86, np86, ep86⟩ := alloc hG86 D85 B85 hp86
    clear hG86
    replace ao := ao.but b86
    replace rv := rv.but b86
    replace it66 := it66.but b86
    replace rt := rt.but b86
    replace it68 := it68.but b86
    replace it69 := it69.but b86
    replace r4 := r4.but b86
    replace it75 := it75.but b86
    replace r5 := r5.but b86
    replace it81 := it81.but b86
    replace r6 := r6.but b86
    replace it84 := it84.but b86
    replace eD := b86 _ _ nDq eD
    replace ep62 := b86 _ _ np62 ep62
    replace ep63 := b86 _ _ np63 ep63
    replace ep64 := b86 _ _ np64 ep64
    replace ep66 := b86 _ _ np66 ep66
    replace ep67 := b86 _ _ np67 ep67
    replace ep68 := b86 _ _ np68 ep68
    replace ep69 := b86 _ _ np69 ep69
    replace ep70 := b86 _ _ np70 ep70
    replace ep71 := b86 _ _ np71 ep71
    replace ep72 := b86 _ _ np72 ep72
    replace ep73 := b86 _ _ np73 ep73
    replace ep74 := b86 _ _ np74 ep74
    replace ep75 := b86 _ _ np75 ep75
    replace ep76 := b86 _ _ np76 ep76
    replace ep77 := b86 _ _ np77 ep77
    replace ep78 := b86 _ _ np78 ep78
    replace ep79 := b86 _ _ np79 ep79
    replace ep80 := b86 _ _ np80 ep80
    replace ep81 := b86 _ _ np81 ep81
    replace ep82 := b86 _ _ np82 ep82
    replace ep83 := b86 _ _ np83 ep83
    replace ep84 := b86 _ _ np84 ep84
    replace ep85 := b86 _ _ np85 ep85
    rw [Int.toNat_natCast, rep_one] at ep86
    walk_at "rds"
    have r7 : RowV q H86 (.ref p86) (some (List.replicate size (.int (clock - 1)))) := .lst np86 ep86 (any_all (all_rep (.num _)))
    refine ⟨len_ok rfl, fun p87 hp87 => ?_⟩
    generalize hG87 : upd H86 p87 _ = H87
    obtain ⟨D87, B87, b87, np87, ep87⟩ := alloc hG87 D86 B86 hp87
    clear hG87
    replace ao := ao.but b87
    replace rv := rv.but b87
    replace it66 := it66.but b87
    replace rt := rt.but b87
    replace it68 := it68.but b87
    replace it69 := it69.but b87
    replace r4 := r4.but b87
    replace it75 := it75.but b87
    replace r5 := r5.but b87
    replace it81 := it81.but b87
    replace r6 := r6.but b87
    replace it84 := it84.but b87
    replace r7 := r7.but b87
    replace eD := b87 _ _ nDq eD
    replace ep62 := b87 _ _ np62 ep62
    replace ep63 := b87 _ _ np63 ep63
    replace ep64 := b87 _ _ np64 ep64
    replace ep66 := b87 _ _ np66 ep66
    replace ep67 := b87 _ _ np67 ep67
    replace ep68 := b87 _ _ np68 ep68
    replace ep69 := b87 _ _ np69 ep69
    replace ep70 := b87 _ _ np70 ep70
    replace ep71 := b87 _ _ np71 ep71
    replace ep72 := b87 _ _ np72 ep72
    replace ep73 := b87 _ _ np73 ep73
    replace ep74 := b87 _ _ np74 ep74
    replace ep75 := b87 _ _ np75 ep75
    replace ep76 := b87 _ _ np76 ep76
    replace ep77 := b87 _ _ np77 ep77
    replace ep78 := b87 _ _ np78 ep78
    replace ep79 := b87 _ _ np79 ep79
    replace ep80 := b87 _ _ np80 ep80
    replace ep81 := b87 _ _ np81 ep81
    replace ep82 := b87 _ _ np82 ep82
    replace ep83 := b87 _ _ np83 ep83
    replace ep84 := b87 _ _ np84 ep84
    replace ep85 := b87 _ _ np85 ep85
    replace ep86 := b87 _ _ np86 ep86
    walk_at "rds"
    have it87 : RowItem q clock H87 (.ref p87) := ⟨_, _, _, _, _, rfl, np87, ep87, r7, by rw [List.length_replicate]; omega, by have z := row_yes (clock := clock) (all_rep (F := IntIn 0 (clock - 1)) (n := size) (x := .int (clock - 1)) ⟨_, rfl, by omega, by omega⟩); rw [List.length_replicate] at z; exact z⟩
    refine ⟨len_ok rfl, fun p88 hp88 => ?_⟩
    generalize hG88 : upd H87 p88 _ = H88
    obtain ⟨D88, B88, b88, np88, ep88⟩ := alloc hG88 D87 B87 hp88
    clear hG88
    replace ao := ao.but b88
    replace rv := rv.but b88
    replace it66 := it66.but b88
    replace rt := rt.but b88
    replace it68 := it68.but b88
    replace it69 := it69.but b88
    replace r4 := r4.but b88
    replace it75 := it75.but b88
    replace r5 := r5.but b88
    replace it81 := it81.but b88
    replace r6 := r6.but b88
    replace it84 := it84.but b88
    replace r7 := r7.but b88
    replace it87 := it87.but b88
    replace eD := b88 _ _ nDq eD
    replace ep62 := b88 _ _ np62 ep62
    replace ep63 := b88 _ _ np63 ep63
    replace ep64 := b88 _ _ np64 ep64
    replace ep66 := b88 _ _ np66 ep66
    replace ep67 := b88 _ _ np67 ep67
    replace ep68 := b88 _ _ np68 ep68
    replace ep69 := b88 _ _ np69 ep69
    replace ep70 := b88 _ _ np70 ep70
    replace ep71 := b88 _ _ np71 ep71
    replace ep72 := b88 _ _ np72 ep72
    replace ep73 := b88 _ _ np73 ep73
    replace ep74 := b88 _ _ np74 ep74
    replace ep75 := b88 _ _ np75 ep75
    replace ep76 := b88 _ _ np76 ep76
    replace ep77 := b88 _ _ np77 ep77
    replace ep78 := b88 _ _ np78 ep78
    replace ep79 := b88 _ _ np79 ep79
    replace ep80 := b88 _ _ np80 ep80
    replace ep81 := b88 _ _ np81 ep81
    replace ep82 := b88 _ _ np82 ep82
    replace ep83 := b88 _ _ np83 ep83
    replace ep84 := b88 _ _ np84 ep84
    replace ep85 := b88 _ _ np85 ep85
    replace ep86 := b88 _ _ np86 ep86
    replace ep87 := b88 _ _ np87 ep87
    walk_at "rds"
    refine ⟨_, _, _, _, rfl, rfl, ep76, ep88, le_ok rfl, ?_⟩
    intro p89 hp89
    generalize hG89 : upd H88 p89 _ = H89
    obtain ⟨D89, B89, b89, np89, ep89⟩ := alloc hG89 D88 B88 hp89
    clear hG89
    replace ao := ao.but b89
    replace rv := rv.but b89
    replace it66 := it66.but b89
    replace rt := rt.but b89
    replace it68 := it68.but b89
    replace it69 := it69.but b89
    replace r4 := r4.but b89
    replace it75 := it75.but b89
    replace r5 := r5.but b89
    replace it81 := it81.but b89
    replace r6 := r6.but b89
    replace it84 := it84.but b89
    replace r7 := r7.but b89
    replace it87 := it87.but b89
    replace eD := b89 _ _ nDq eD
    replace ep62 := b89 _ _ np62 ep62
    replace ep63 := b89 _ _ np63 ep63
    replace ep64 := b89 _ _ np64 ep64
    replace ep66 := b89 _ _ np66 ep66
    replace ep67 := b89 _ _ np67 ep67
    replace ep68 := b89 _ _ np68 ep68
    replace ep69 := b89 _ _ np69 ep69
    replace ep70 := b89 _ _ np70 ep70
    replace ep71 := b89 _ _ np71 ep71
    replace ep72 := b89 _ _ np72 ep72
    replace ep73 := b89 _ _ np73 ep73
    replace ep74 := b89 _ _ np74 ep74
    replace ep75 := b89 _ _ np75 ep75
    replace ep76 := b89 _ _ np76 ep76
    replace ep77 := b89 _ _ np77 ep77
    replace ep78 := b89 _ _ np78 ep78
    replace ep79 := b89 _ _ np79 ep79
    replace ep80 := b89 _ _ np80 ep80
    replace ep81 := b89 _ _ np81 ep81
    replace ep82 := b89 _ _ np82 ep82
    replace ep83 := b89 _ _ np83 ep83
    replace ep84 := b89 _ _ np84 ep84
    replace ep85 := b89 _ _ np85 ep85
    replace ep86 := b89 _ _ np86 ep86
    replace ep87 := b89 _ _ np87 ep87
    replace ep88 := b89 _ _ np88 ep88
    walk_at "rds"
    have all7 : EachP (RowItem q clock H89) _ := (.cons it66 (.cons it68 (.cons it69 (.cons it75 (.cons it81 (.cons it84 (.cons it87 .nil)))))))
    refine ⟨p89, rfl, ⟨_, SqL.of ep89⟩, ?_⟩
    refine for_list (K := K) (a := p89) (fun i σ G => (∃ x y z, σ = [some (.ref q), some (.int clock), some (.int size), some (.ref D), some (.int at_), some odd, some (.ref p89), x, y, z, none, none]) ∧ Dr q c ns l65 G ∧ But q H89 G) ⟨⟨_, _, _, rfl⟩, D89, But.refl _ _⟩ (fun i σ G _ ⟨_, _, bG⟩ => SqL.of (bG _ _ np89 ep89)) ?_ ?_
    · rintro i x σ G hx ⟨⟨y1, y2, y3, rfl⟩, DG, bG⟩
      obtain ⟨t, a, m, d, ys, rfl, nt, et, rw_, ln, due⟩ := (EachP.get all7 hx).but bG
      refine ⟨_, _, rfl, SqT.of et, rfl, ?_⟩
      refine ⟨_, _, rfl, ?_⟩
      walk_at "rds"
      refine ⟨_, _, rfl, ?_⟩
      walk_at "rds"
      refine ⟨_, _, rfl, ?_⟩
      walk_at "rds"
      refine ⟨rfl, ?_⟩
      walk_at "rds"
      refine ⟨q, _, _, clock, m, rfl, rw_, hck, fun zs e => by cases e; exact small1000 (by omega), fun G1 s1 => ?_⟩
      walk_at "rds"
      refine ⟨rfl, rfl, q, _, _, clock, m, rfl, rw_.but (same_but s1), hck, fun zs e => by cases e; exact small1000 (by omega), fun G2 s2 => ?_⟩
      have D2 := (DG.same s1).same s2
      have b2 : But q H89 G2 := (bG.trans (same_but s1)).trans (same_but s2)
      rw [due]
      walk_at "rds"
      refine ⟨len_ok rfl, fun p hp => ?_⟩
      generalize hG : upd G2 p _ = G3
      obtain ⟨D3, b3, _, _, ep⟩ := alloc hG D2 b2 hp
      clear hG
      walk_at "rds"
      refine r_bools ep ?_
      walk_at "rds"
      refine ⟨len_ok rfl, fun p' hp' => ?_⟩
      generalize hG : upd G3 p' _ = G4
      obtain ⟨D4, b4, _, _, ep'⟩ := alloc hG D3 b3 hp'
      clear hG
      walk_at "rds"
      refine r_bools ep' ?_
      walk_at "rds"
      refine r_ne_same ?_
      walk_at "rds"
      exact ⟨⟨_, _, _, rfl⟩, D4, b4⟩
    rintro σ H40 ⟨⟨y1, y2, y3, rfl⟩, D40, b40⟩
    replace B0 := B89.trans b40
    clear eD
    walk_at "rds"
    have B141 : But q H40 H40 := But.refl _ _
    intro p142 hp142
    generalize hG142 : upd H40 p142 _ = H142
    obtain ⟨D142, B142, b142, np142, ep142⟩ := alloc hG142 D40 B141 hp142
    clear hG142
    walk_at "rds"
    refine ⟨ep142, [(Sum.inl 0, .int 0), (Sum.inl 1, .int 1)], rfl, le_ok rfl, ?_⟩
    generalize hG143 : upd H142 p142 _ = H143
    obtain ⟨D143, ed142⟩ := stored hG143 D142 np142 ep142 (fun _ z => by cases z)
    have b143 := but_put hG143 B142 hp142
    clear hG143
    have B143 := B0.trans b143
    have a142 : Any q H143 (.ref p142) := .dic np142 ed142
    walk_at "rds"
    have rd : RowV q H143 (.ref p142) none := .dic np142 ed142
    refine ⟨len_ok rfl, fun p144 hp144 => ?_⟩
    generalize hG144 : upd H143 p144 _ = H144
    obtain ⟨D144, B144, b144, np144, ep144⟩ := alloc hG144 D143 B143 hp144
    clear hG144
    replace rd := rd.but b144
    walk_at "rds"
    refine ⟨_, _, _, _, _, _, rfl, SqL.of ep144, Nat.zero_lt_succ _, lt_ok rfl, by omega, np144, D144, fun H145 l145 i145 v145 hl145 D145 b145 e145 => ?_⟩
    have pv145 := EachP.get (F := fun v => RowV q H144 v none) (.cons .non (.cons (.num _) (.cons (.str _) (.cons rd (.cons (.bl _) (.cons (.str _) .nil)))))) e145
    have B145 := B144.trans b145
    replace rd := rd.but b145
    replace ep144 := b145 _ _ np144 ep144
    have rn := pv145.but b145
    walk_at "rds"
    refine ⟨q, _, none, clock, 2, rfl, rn, hck, (fun _ e => by cases e), fun G1 s1 => ?_⟩
    walk_at "rds"
    refine r_isAny ?_
    walk_at "T"
    have D51 := D145.same s1
    have B51 := B145.trans (same_but s1)
    refine ⟨len_ok rfl, fun p146 hp146 => ?_⟩
    generalize hG146 : upd G1 p146 _ = H146
    obtain ⟨D146, B146, b146, np146, ep146⟩ := alloc hG146 D51 B51 hp146
    clear hG146
    walk_at "rds"
    refine ⟨q, _, some [], clock, 0, rfl, .lst np146 ep146 (fun x m => by cases m), hck, (fun _ e => by cases e; exact Nat.lt_of_lt_of_le (Nat.zero_lt_succ _) (len_ok (n := 1) rfl)), fun G2 s2 => ?_⟩
    walk_at "rds"
    refine r_isAny ?_
    walk_at "T"
    have D52 := D146.same s2
    have B52 := B146.trans (same_but s2)
    refine ⟨len_ok rfl, fun p147 hp147 => ?_⟩
    generalize hG147 : upd G2 p147 _ = H147
    obtain ⟨D147, B147, b147, np147, ep147⟩ := alloc hG147 D52 B52 hp147
    clear hG147
    walk_at "rds"
    refine ⟨q, _, some [], clock, 1, rfl, .tup np147 ep147 (fun x m => by cases m), hck, (fun _ e => by cases e; exact Nat.lt_of_lt_of_le (Nat.zero_lt_succ _) (len_ok (n := 1) rfl)), fun G3 s3 => ?_⟩
    walk_at "rds"
    refine r_isAny ?_
    exact k _ _ (by omega) (D147.same s3) (B147.trans (same_but s3))
end
end K02
namespace K02
open PySem PySem.Spec PyProof.Rows L2 Rp
section
variable {P : Program} {w : World} {K : PySem.W.Frag} {mg : Str → Option Value} {base : Heap} {tp : Addr}
abbrev sLaw : Stmt := top 15
theorem scLaw : FnScope ["script", "quay", "turn", "number"] ["script"] (defScope sLaw) := ⟨rfl, rfl, rfl, by decide +kernel, rfl, by decide +kernel, by decide +kernel⟩
theorem ok_Law {f : Addr} {fd : FuncData} (F : Fun K "law" "law" sLaw f fd) (T : Txt K mg tp) (hM : HasMods base) {f0 : Addr} {fd0 : FuncData} (cLawQuay : Cal P w K mg base "_law_quay" 1 f0 fd0 ["script"] (spBox K)) {f1 : Addr} {fd1 : FuncData} (cLawPlainRight : Cal P w K mg base "_law_plain_right" 4 f1 fd1 ["quay"] spTurn) {f2 : Addr} {fd2 : FuncData} (cLawRowRight : Cal P w K mg base "_law_row_right" 4 f2 fd2 ["quay"] spTurn) {f3 : Addr} {fd3 : FuncData} (cIsClock : Cal P w K mg base "is_clock" 2 f3 fd3 ["value"] spClock)  : FnG P w K mg base 5 f fd ["script"] (spLaw K) := by
  refine fng F scLaw (fun {vs H Q E} h => ?_) (fun {cdv A fr s H vs Q E} hg hr h => ?_)
  · obtain ⟨a, ns, rfl, hS, k⟩ := h
    rfl
  · obtain ⟨a, ns, rfl, hS, k⟩ := h
    refine ⟨_, (pss_cons (ps_set (i := 1) scLaw.nd rfl (Or.inl rfl) (pe_go cLawQuay hg (hr.mono (by decide)) (by rfl) (pa_cons (pv 0) pa_nil)))
  (pss_cons (ps_for PassesOwn.never rfl (pi_range1 (by rfl) T.z_range (pa_cons pe_int pa_nil)) (pg_name (i := 2) scLaw.nd rfl (Or.inl rfl))
  (pss_one (ps_if (PW.pt (pw_or (pt_not (pt_val (pe_go cLawPlainRight hg (hr.mono (by decide)) (by rfl) (pa_cons (pv 1) pa_nil)))) (pw_or1 (pt_not (pt_val (pe_go cLawRowRight hg (hr.mono (by decide)) (by rfl) (pa_cons (pv 1) pa_nil)))))))
  (pss_one (ps_ret pe_bl))
  pss_nil)))
  (pss_one (ps_ret (pe_cmpR (op_eqD hr.units) (pe_lc (own := [("number", 3)]) (g := gName 3)  rfl scLaw.nd (pi_range2 (by rfl) T.z_range (pa_cons (pe_un un_neg pe_int) (pa_cons pe_int pa_nil))) (blkOk_by (own := [("number", 3)]) (N := ["script", "quay", "turn", "number"]) (sc := defScope sLaw) (by decide +kernel)) (fun _ _ _ _ _ => (pg_name (i := 3) scLaw.nd rfl (Or.inl rfl))) (fun _ _ _ _ _ => (pts_one (pt_val (pe_go cIsClock hg (hr.mono (by decide)) (by rfl) (pa_cons (pv 3) pa_nil))))) (fun _ _ _ _ _ => (pv 3))) (pe_lst (pa_cons pe_int (pa_cons pe_int (pa_cons pe_int (pa_cons pe_int (pa_cons pe_int (pa_cons pe_int (pa_cons pe_int (pa_cons pe_int (pa_cons pe_int (pa_cons pe_int pa_nil))))))))))) (nomark _)))))), ?_⟩
    refine r_start (l := [some (.ref a), none, none, none]) rfl ?_
    walk_at "rds"
    refine ⟨a, ns, rfl, hS, fun H1 q c ns' D1 s1 nq => ?_⟩
    walk_at "rds"
    refine ⟨_, rfl, by decide, by decide, ?_⟩
    refine for_range (lo := 0) (n := 6) (fun i σ G => ∃ (x : Option V) (lp : Nat), σ = [some (.ref a), some (.ref q), x, none] ∧ lp ≤ 40 * i ∧ Dr q c ns' lp G) ⟨_, _, rfl, Nat.le_refl _, D1⟩ ?_ ?_
    · rintro i σ G hi ⟨x, lp, rfl, hlp, DG⟩
      walk_at "rds"
      refine ⟨_, _, _, _, rfl, by omega, DG, fun G2 l2 hl2 D2 b2 => ?_⟩
      walk_at "rds"
      refine ⟨_, _, _, _, rfl, by omega, D2, fun G3 l3 hl3 D3 b3 => ?_⟩
      walk_at "rds"
      exact ⟨_, _, rfl, by omega, D3⟩
    rintro σ G ⟨x, lp, rfl, hlp, DG⟩
    walk_at "rds"
    refine ⟨-5, 45, rfl, ⟨by decide, by decide, by decide, by decide⟩, fun D hD => ?_⟩
    refine lc_range (lo := -5) (n := 50) (fun i H' => H' D = some (.lst ((((List.range i).filter fun j : Nat => clk (.int (-5 + (j : Int)))).map fun j : Nat => -5 + (j : Int)).map V.int))) upd_same ?_ ?_
    · rintro i H' hi hD'
      walk_at "rds"
      refine ⟨rfl, ?_⟩
      walk_at "rds"
      refine ⟨q, _, rfl, .num _, ?_⟩
      walk_at "rds"
      rw [List.range_succ, List.filter_append, List.map_append, List.map_append]
      cases hm : clk (.int (-5 + (i : Int))) with
      | true =>
        walk_at "rds"
        refine ⟨_, hD', ?_, ?_⟩
        · rw [List.length_map, List.length_map]
          refine Nat.lt_of_le_of_lt (List.length_filter_le _ _) ?_
          rw [List.length_range]
          exact small1000 (by omega)
        · rw [upd_same]
          simp [hm]
      | false =>
        walk_at "rds"
        rw [hD']
        simp [hm]
    · rintro H' hD'
      have e : (((List.range 50).filter fun j : Nat => clk (.int (-5 + (j : Int)))).map fun j : Nat => -5 + (j : Int)) = [3, 5, 7, 11, 13, 17, 19, 23, 29, 31] := by decide +kernel
      rw [e] at hD'
      walk_at "rds"
      refine ⟨len_ok rfl, fun p hp => ?_⟩
      refine eq_nums (nums := [3, 5, 7, 11, 13, 17, 19, 23, 29, 31]) ?_ upd_same (k _)
      rw [upd_ne (ne_of_none hD' hp)]
      exact hD'
end
end K02
namespace K02
open PySem PySem.Spec PyProof.Rows L2 Rp
theorem all_mk {l : PySem.W.OpenLaw} {w : World} {K : PySem.W.Frag} {h : Heap} {mg : Str → Option Value} {fa : Addr} (X : K.In h) (G : h.Ns mainGlobals mg) (hfa : mg "law" = some (.ref fa))
    {f0 : Addr} {od0 an0 : Option Addr} {sl0 : Array (Option Value)} {oc0 kV0 dc0 pm0 cd0 ct0 : Value}
    {f1 : Addr} {od1 an1 : Option Addr} {sl1 : Array (Option Value)} {oc1 kV1 dc1 pm1 cd1 ct1 : Value}
    {f2 : Addr} {od2 an2 : Option Addr} {sl2 : Array (Option Value)} {oc2 kV2 dc2 pm2 cd2 ct2 : Value}
    {f3 : Addr} {od3 an3 : Option Addr} {sl3 : Array (Option Value)} {oc3 kV3 dc3 pm3 cd3 ct3 : Value}
    {f4 : Addr} {od4 an4 : Option Addr} {sl4 : Array (Option Value)} {oc4 kV4 dc4 pm4 cd4 ct4 : Value}
    {f5 : Addr} {od5 an5 : Option Addr} {sl5 : Array (Option Value)} {oc5 kV5 dc5 pm5 cd5 ct5 : Value}
    {f6 : Addr} {od6 an6 : Option Addr} {sl6 : Array (Option Value)} {oc6 kV6 dc6 pm6 cd6 ct6 : Value}
    {f7 : Addr} {od7 an7 : Option Addr} {sl7 : Array (Option Value)} {oc7 kV7 dc7 pm7 cd7 ct7 : Value}
    {f8 : Addr} {od8 an8 : Option Addr} {sl8 : Array (Option Value)} {oc8 kV8 dc8 pm8 cd8 ct8 : Value}
    {f9 : Addr} {od9 an9 : Option Addr} {sl9 : Array (Option Value)} {oc9 kV9 dc9 pm9 cd9 ct9 : Value}
    {f10 : Addr} {od10 an10 : Option Addr} {sl10 : Array (Option Value)} {oc10 kV10 dc10 pm10 cd10 ct10 : Value}
    {f11 : Addr} {od11 an11 : Option Addr} {sl11 : Array (Option Value)} {oc11 kV11 dc11 pm11 cd11 ct11 : Value}
    {f12 : Addr} {od12 an12 : Option Addr} {sl12 : Array (Option Value)} {oc12 kV12 dc12 pm12 cd12 ct12 : Value}
    {tp : Addr} {odC : Option Addr} {nC : Nat} {slC : Array (Option Value)} {t0 t1 t2 t3 t4 t5 t6 t7 t8 t9 : Tok} (aC : PySem.W.nsIn K mainGlobals "CLOCKS" = some (some (.ref tp))) (lC : K.lookup tp = some ⟨.type "tuple", odC, .seq #[.int 3 t0, .int 5 t1, .int 7 t2, .int 11 t3, .int 13 t4, .int 17 t5, .int 19 t6, .int 23 t7, .int 29 t8, .int 31 t9] nC, slC⟩)
    (a0 : PySem.W.nsIn K mainGlobals "is_integer" = some (some (.ref f0))) (l0 : K.lookup f0 = some ⟨oc0, od0, .func (PySem.W.fnOf "is_integer" "is_integer" (defArgs sIsInteger) (defBody sIsInteger) (defScope sIsInteger) .none kV0 dc0 pm0 an0 cd0 ct0), sl0⟩) (c0 : PySem.W.codeIn K cd0 "is_integer" = true) (k0 : PySem.W.keepIn K (.ref f0) = true)
    (a1 : PySem.W.nsIn K mainGlobals "is_within" = some (some (.ref f1))) (l1 : K.lookup f1 = some ⟨oc1, od1, .func (PySem.W.fnOf "is_within" "is_within" (defArgs sIsWithin) (defBody sIsWithin) (defScope sIsWithin) .none kV1 dc1 pm1 an1 cd1 ct1), sl1⟩) (c1 : PySem.W.codeIn K cd1 "is_within" = true) (k1 : PySem.W.keepIn K (.ref f1) = true)
    (a2 : PySem.W.nsIn K mainGlobals "is_clock" = some (some (.ref f2))) (l2 : K.lookup f2 = some ⟨oc2, od2, .func (PySem.W.fnOf "is_clock" "is_clock" (defArgs sIsClock) (defBody sIsClock) (defScope sIsClock) .none kV2 dc2 pm2 an2 cd2 ct2), sl2⟩) (c2 : PySem.W.codeIn K cd2 "is_clock" = true) (k2 : PySem.W.keepIn K (.ref f2) = true)
    (a3 : PySem.W.nsIn K mainGlobals "is_row" = some (some (.ref f3))) (l3 : K.lookup f3 = some ⟨oc3, od3, .func (PySem.W.fnOf "is_row" "is_row" (defArgs sIsRow) (defBody sIsRow) (defScope sIsRow) .none kV3 dc3 pm3 an3 cd3 ct3), sl3⟩) (c3 : PySem.W.codeIn K cd3 "is_row" = true) (k3 : PySem.W.keepIn K (.ref f3) = true)
    (a4 : PySem.W.nsIn K mainGlobals "_law_quay" = some (some (.ref f4))) (l4 : K.lookup f4 = some ⟨oc4, od4, .func (PySem.W.fnOf "_law_quay" "_law_quay" (defArgs sLawQuay) (defBody sLawQuay) (defScope sLawQuay) .none kV4 dc4 pm4 an4 cd4 ct4), sl4⟩) (c4 : PySem.W.codeIn K cd4 "_law_quay" = true) (k4 : PySem.W.keepIn K (.ref f4) = true)
    (a5 : PySem.W.nsIn K mainGlobals "_law_haul_in" = some (some (.ref f5))) (l5 : K.lookup f5 = some ⟨oc5, od5, .func (PySem.W.fnOf "_law_haul_in" "_law_haul_in" (defArgs sLawHaulIn) (defBody sLawHaulIn) (defScope sLawHaulIn) .none kV5 dc5 pm5 an5 cd5 ct5), sl5⟩) (c5 : PySem.W.codeIn K cd5 "_law_haul_in" = true) (k5 : PySem.W.keepIn K (.ref f5) = true)
    (a6 : PySem.W.nsIn K mainGlobals "_law_of" = some (some (.ref f6))) (l6 : K.lookup f6 = some ⟨oc6, od6, .func (PySem.W.fnOf "_law_of" "_law_of" (defArgs sLawOf) (defBody sLawOf) (defScope sLawOf) .none kV6 dc6 pm6 an6 cd6 ct6), sl6⟩) (c6 : PySem.W.codeIn K cd6 "_law_of" = true) (k6 : PySem.W.keepIn K (.ref f6) = true)
    (a7 : PySem.W.nsIn K mainGlobals "_law_value" = some (some (.ref f7))) (l7 : K.lookup f7 = some ⟨oc7, od7, .func (PySem.W.fnOf "_law_value" "_law_value" (defArgs sLawValue) (defBody sLawValue) (defScope sLawValue) .none kV7 dc7 pm7 an7 cd7 ct7), sl7⟩) (c7 : PySem.W.codeIn K cd7 "_law_value" = true) (k7 : PySem.W.keepIn K (.ref f7) = true)
    (a8 : PySem.W.nsIn K mainGlobals "_law_is_number" = some (some (.ref f8))) (l8 : K.lookup f8 = some ⟨oc8, od8, .func (PySem.W.fnOf "_law_is_number" "_law_is_number" (defArgs sLawIsNumber) (defBody sLawIsNumber) (defScope sLawIsNumber) .none kV8 dc8 pm8 an8 cd8 ct8), sl8⟩) (c8 : PySem.W.codeIn K cd8 "_law_is_number" = true) (k8 : PySem.W.keepIn K (.ref f8) = true)
    (a9 : PySem.W.nsIn K mainGlobals "_law_is_prime" = some (some (.ref f9))) (l9 : K.lookup f9 = some ⟨oc9, od9, .func (PySem.W.fnOf "_law_is_prime" "_law_is_prime" (defArgs sLawIsPrime) (defBody sLawIsPrime) (defScope sLawIsPrime) .none kV9 dc9 pm9 an9 cd9 ct9), sl9⟩) (c9 : PySem.W.codeIn K cd9 "_law_is_prime" = true) (k9 : PySem.W.keepIn K (.ref f9) = true)
    (a10 : PySem.W.nsIn K mainGlobals "_law_plain_right" = some (some (.ref f10))) (l10 : K.lookup f10 = some ⟨oc10, od10, .func (PySem.W.fnOf "_law_plain_right" "_law_plain_right" (defArgs sLawPlainRight) (defBody sLawPlainRight) (defScope sLawPlainRight) .none kV10 dc10 pm10 an10 cd10 ct10), sl10⟩) (c10 : PySem.W.codeIn K cd10 "_law_plain_right" = true) (k10 : PySem.W.keepIn K (.ref f10) = true)
    (a11 : PySem.W.nsIn K mainGlobals "_law_row_right" = some (some (.ref f11))) (l11 : K.lookup f11 = some ⟨oc11, od11, .func (PySem.W.fnOf "_law_row_right" "_law_row_right" (defArgs sLawRowRight) (defBody sLawRowRight) (defScope sLawRowRight) .none kV11 dc11 pm11 an11 cd11 ct11), sl11⟩) (c11 : PySem.W.codeIn K cd11 "_law_row_right" = true) (k11 : PySem.W.keepIn K (.ref f11) = true)
    (a12 : PySem.W.nsIn K mainGlobals "law" = some (some (.ref f12))) (l12 : K.lookup f12 = some ⟨oc12, od12, .func (PySem.W.fnOf "law" "law" (defArgs sLaw) (defBody sLaw) (defScope sLaw) .none kV12 dc12 pm12 an12 cd12 ct12), sl12⟩) (c12 : PySem.W.codeIn K cd12 "law" = true) (k12 : PySem.W.keepIn K (.ref f12) = true)
    (z_abs : PySem.W.nsIn K mainGlobals "abs" = some none)
    (z_all : PySem.W.nsIn K mainGlobals "all" = some none)
    (z_bool : PySem.W.nsIn K mainGlobals "bool" = some none)
    (z_int : PySem.W.nsIn K mainGlobals "int" = some none)
    (z_isinstance : PySem.W.nsIn K mainGlobals "isinstance" = some none)
    (z_len : PySem.W.nsIn K mainGlobals "len" = some none)
    (z_list : PySem.W.nsIn K mainGlobals "list" = some none)
    (z_range : PySem.W.nsIn K mainGlobals "range" = some none)
    (z_repr : PySem.W.nsIn K mainGlobals "repr" = some none)
    (z_str : PySem.W.nsIn K mainGlobals "str" = some none)
    (z_tuple : PySem.W.nsIn K mainGlobals "tuple" = some none) :
    ∃ fd : FuncData, (∀ (t : Shared) (v : Value), BindsTo t fd ⟨[v], []⟩ [("script", v)]) ∧ ∀ base : Heap, K.In base → base.Ns mainGlobals mg → HasMods base → FnG l.prog w K mg base 5 fa fd ["script"] (spLaw K) := by
  have e := hfa.symm.trans (PySem.W.mg_of X G a12)
  cases e
  have CLK : ∀ {H : Hp}, SqT K H tp [.int 3, .int 5, .int 7, .int 11, .int 13, .int 17, .int 19, .int 23, .int 29, .int 31] := .inr ⟨_, _, _, lC, rfl, rfl, len_ok rfl,
    .cons ⟨_, rfl⟩ (.cons ⟨_, rfl⟩ (.cons ⟨_, rfl⟩ (.cons ⟨_, rfl⟩ (.cons ⟨_, rfl⟩ (.cons ⟨_, rfl⟩ (.cons ⟨_, rfl⟩ (.cons ⟨_, rfl⟩ (.cons ⟨_, rfl⟩ (.cons ⟨_, rfl⟩ .nil)))))))))⟩
  have T : Txt K mg tp := ⟨PySem.W.mg_of X G aC, CLK, PySem.W.mg_none_of X G z_abs, PySem.W.mg_none_of X G z_all, PySem.W.mg_none_of X G z_bool, PySem.W.mg_none_of X G z_int, PySem.W.mg_none_of X G z_isinstance, PySem.W.mg_none_of X G z_len, PySem.W.mg_none_of X G z_list, PySem.W.mg_none_of X G z_range, PySem.W.mg_none_of X G z_repr, PySem.W.mg_none_of X G z_str, PySem.W.mg_none_of X G z_tuple⟩
  have F0 := fun_mk (st := sIsInteger) l0 c0 k0
  have b0 := F0.binds (ps := ["value"]) fun _ _ _ _ _ _ us hl => match us, hl with | [_], _ => rfl
  have kIsInteger_value : KBx K _ ["value"] 0 ["value"] [0] := kb_of F0 fun _ _ _ _ _ _ us ws h1 h2 => match us, ws, h1, h2 with | [], [_], _, _ => rfl
  have F1 := fun_mk (st := sIsWithin) l1 c1 k1
  have b1 := F1.binds (ps := ["value", "least", "most"]) fun _ _ _ _ _ _ us hl => match us, hl with | [_, _, _], _ => rfl
  have kIsWithin_most_least_value : KBx K _ ["value", "least", "most"] 0 ["most", "least", "value"] [2, 1, 0] := kb_of F1 fun _ _ _ _ _ _ us ws h1 h2 => match us, ws, h1, h2 with | [], [_, _, _], _, _ => rfl
  have F2 := fun_mk (st := sIsClock) l2 c2 k2
  have b2 := F2.binds (ps := ["value"]) fun _ _ _ _ _ _ us hl => match us, hl with | [_], _ => rfl
  have kIsClock_value : KBx K _ ["value"] 0 ["value"] [0] := kb_of F2 fun _ _ _ _ _ _ us ws h1 h2 => match us, ws, h1, h2 with | [], [_], _, _ => rfl
  have F3 := fun_mk (st := sIsRow) l3 c3 k3
  have b3 := F3.binds (ps := ["value", "clock", "size"]) fun _ _ _ _ _ _ us hl => match us, hl with | [_, _, _], _ => rfl
  have kIsRow_size_clock_value : KBx K _ ["value", "clock", "size"] 0 ["size", "clock", "value"] [2, 1, 0] := kb_of F3 fun _ _ _ _ _ _ us ws h1 h2 => match us, ws, h1, h2 with | [], [_, _, _], _, _ => rfl
  have F4 := fun_mk (st := sLawQuay) l4 c4 k4
  have b4 := F4.binds (ps := ["script"]) fun _ _ _ _ _ _ us hl => match us, hl with | [_], _ => rfl
  have F5 := fun_mk (st := sLawHaulIn) l5 c5 k5
  have b5 := F5.binds (ps := ["quay", "many"]) fun _ _ _ _ _ _ us hl => match us, hl with | [_, _], _ => rfl
  have F6 := fun_mk (st := sLawOf) l6 c6 k6
  have b6 := F6.binds (ps := ["quay", "some"]) fun _ _ _ _ _ _ us hl => match us, hl with | [_, _], _ => rfl
  have F7 := fun_mk (st := sLawValue) l7 c7 k7
  have b7 := F7.binds (ps := ["quay"]) fun _ _ _ _ _ _ us hl => match us, hl with | [_], _ => rfl
  have F8 := fun_mk (st := sLawIsNumber) l8 c8 k8
  have b8 := F8.binds (ps := ["value"]) fun _ _ _ _ _ _ us hl => match us, hl with | [_], _ => rfl
  have F9 := fun_mk (st := sLawIsPrime) l9 c9 k9
  have b9 := F9.binds (ps := ["number"]) fun _ _ _ _ _ _ us hl => match us, hl with | [_], _ => rfl
  have F10 := fun_mk (st := sLawPlainRight) l10 c10 k10
  have b10 := F10.binds (ps := ["quay"]) fun _ _ _ _ _ _ us hl => match us, hl with | [_], _ => rfl
  have F11 := fun_mk (st := sLawRowRight) l11 c11 k11
  have b11 := F11.binds (ps := ["quay"]) fun _ _ _ _ _ _ us hl => match us, hl with | [_], _ => rfl
  have F12 := fun_mk (st := sLaw) l12 c12 k12
  have b12 := F12.binds (ps := ["script"]) fun _ _ _ _ _ _ us hl => match us, hl with | [_], _ => rfl
  refine ⟨PySem.W.fnOf "law" "law" (defArgs sLaw) (defBody sLaw) (defScope sLaw) .none kV12 dc12 pm12 an12 cd12 ct12, fun t v => .of_eq rfl, fun base kin gl hM => ?_⟩
  have cIsInteger : Cal l.prog w K mg base "is_integer" 1 f0 _ ["value"] spIsInt := ⟨ok_IsInteger F0 T hM , PySem.W.mg_of X G a0, k0, b0⟩
  have cLawQuay : Cal l.prog w K mg base "_law_quay" 1 f4 _ ["script"] (spBox K) := ⟨ok_LawQuay F4 T hM , PySem.W.mg_of X G a4, k4, b4⟩
  have cLawHaulIn : Cal l.prog w K mg base "_law_haul_in" 1 f5 _ ["quay", "many"] spDraw := ⟨ok_LawHaulIn F5 T hM , PySem.W.mg_of X G a5, k5, b5⟩
  have cLawIsNumber : Cal l.prog w K mg base "_law_is_number" 1 f8 _ ["value"] spIsNum := ⟨ok_LawIsNumber F8 T hM , PySem.W.mg_of X G a8, k8, b8⟩
  have cLawIsPrime : Cal l.prog w K mg base "_law_is_prime" 1 f9 _ ["number"] spPrime := ⟨ok_LawIsPrime F9 T hM , PySem.W.mg_of X G a9, k9, b9⟩
  have cIsWithin : Cal l.prog w K mg base "is_within" 2 f1 _ ["value", "least", "most"] spWithin := ⟨ok_IsWithin F1 T hM cIsInteger, PySem.W.mg_of X G a1, k1, b1⟩
  have cIsClock : Cal l.prog w K mg base "is_clock" 2 f2 _ ["value"] spClock := ⟨ok_IsClock F2 T hM cIsInteger, PySem.W.mg_of X G a2, k2, b2⟩
  have cLawOf : Cal l.prog w K mg base "_law_of" 2 f6 _ ["quay", "some"] (spOf K) := ⟨ok_LawOf F6 T hM cLawHaulIn, PySem.W.mg_of X G a6, k6, b6⟩
  have cIsRow : Cal l.prog w K mg base "is_row" 3 f3 _ ["value", "clock", "size"] spRow := ⟨ok_IsRow F3 T hM cIsClock cIsWithin, PySem.W.mg_of X G a3, k3, b3⟩
  have cLawValue : Cal l.prog w K mg base "_law_value" 3 f7 _ ["quay"] spVal := ⟨ok_LawValue F7 T hM cLawOf cLawHaulIn, PySem.W.mg_of X G a7, k7, b7⟩
  have cLawPlainRight : Cal l.prog w K mg base "_law_plain_right" 4 f10 _ ["quay"] spTurn := ⟨ok_LawPlainRight F10 T hM cLawOf cLawIsNumber cLawValue cLawIsPrime cLawHaulIn cIsInteger kIsInteger_value cIsWithin kIsWithin_most_least_value cIsClock kIsClock_value, PySem.W.mg_of X G a10, k10, b10⟩
  have cLawRowRight : Cal l.prog w K mg base "_law_row_right" 4 f11 _ ["quay"] spTurn := ⟨ok_LawRowRight F11 T hM cLawOf cLawHaulIn cIsRow kIsRow_size_clock_value, PySem.W.mg_of X G a11, k11, b11⟩
  exact ok_Law F12 T hM cLawQuay cLawPlainRight cLawRowRight cIsClock
theorem walk {l : PySem.W.OpenLaw} {q : Program} {loose : List Str} {XP : (Str → Option Value) → Heap → Prop} {YP : World → Heap → Prop} {d : DefRec} {K : Params → PySem.W.Frag} (none : importsNone q = true) (hn : l.most = some 63) (hdf : d.params.defaults = [])
    (hY : ∀ (w : World) (h : Heap), YP w h → (K w.params).In h)
    (F : ∀ (w : World) (mg : Str → Option Value) (fa : Addr) (h : Heap), (K w.params).In h → h.Ns mainGlobals mg → mg d.name = some (.ref fa) →
      ∃ fd : FuncData, (∀ (t : Shared) (u : Value), BindsTo t fd ⟨[u], []⟩ [("script", u)]) ∧ ∀ base : Heap, (K w.params).In base → base.Ns mainGlobals mg → HasMods base → FnG l.prog w (K w.params) mg base 5 fa fd ["script"] (spLaw (K w.params))) :
    PySem.W.WalkO q loose XP YP l.row.toRowW d [] (fun f vs => PySem.call f vs) :=
  Rp.walk_G (n := 63) (k := 5) (x := "script") (sp := spLaw) none hn (by decide) hdf ⟨rfl, by decide, by decide⟩ hY F (fun _ _ a ns _ hS => ⟨a, ns, rfl, hS, fun _ => rfl⟩)
end K02
open PySem PySem.W PyProof.Rows in
set_option maxRecDepth 100000 in
set_option maxHeartbeats 0 in
theorem PySem.Challenge.cw_ropesays_k02_integers_clocks_and_rows_holds : PySem.Challenge.rw_ropesays_k02_integers_clocks_and_rows.Holds := by
  w_on; o_law; k_head; (case hw => w_witness2)
  k_fill
  refine K02.walk (l := PySem.Challenge.rw_ropesays_k02_integers_clocks_and_rows) (by decide +kernel) rfl rfl (fun w h Y => PySem.W.kIn_of Y) ?F
  case F =>
    intro w mg fa h KX G hmg
    refine' K02.all_mk KX G hmg ?aC ?lC ?a0 ?l0 ?c0 ?k0 ?a1 ?l1 ?c1 ?k1 ?a2 ?l2 ?c2 ?k2 ?a3 ?l3 ?c3 ?k3 ?a4 ?l4 ?c4 ?k4 ?a5 ?l5 ?c5 ?k5 ?a6 ?l6 ?c6 ?k6 ?a7 ?l7 ?c7 ?k7 ?a8 ?l8 ?c8 ?k8 ?a9 ?l9 ?c9 ?k9 ?a10 ?l10 ?c10 ?k10 ?a11 ?l11 ?c11 ?k11 ?a12 ?l12 ?c12 ?k12 ?z_abs ?z_all ?z_bool ?z_int ?z_isinstance ?z_len ?z_list ?z_range ?z_repr ?z_str ?z_tuple
    (case aC => k_is)
    (case lC => k_is)
    (case a0 => k_is)
    (case l0 => k_is)
    (case c0 => k_is)
    (case k0 => k_is)
    (case a1 => k_is)
    (case l1 => k_is)
    (case c1 => k_is)
    (case k1 => k_is)
    (case a2 => k_is)
    (case l2 => k_is)
    (case c2 => k_is)
    (case k2 => k_is)
    (case a3 => k_is)
    (case l3 => k_is)
    (case c3 => k_is)
    (case k3 => k_is)
    (case a4 => k_is)
    (case l4 => k_is)
    (case c4 => k_is)
    (case k4 => k_is)
    (case a5 => k_is)
    (case l5 => k_is)
    (case c5 => k_is)
    (case k5 => k_is)
    (case a6 => k_is)
    (case l6 => k_is)
    (case c6 => k_is)
    (case k6 => k_is)
    (case a7 => k_is)
    (case l7 => k_is)
    (case c7 => k_is)
    (case k7 => k_is)
    (case a8 => k_is)
    (case l8 => k_is)
    (case c8 => k_is)
    (case k8 => k_is)
    (case a9 => k_is)
    (case l9 => k_is)
    (case c9 => k_is)
    (case k9 => k_is)
    (case a10 => k_is)
    (case l10 => k_is)
    (case c10 => k_is)
    (case k10 => k_is)
    (case a11 => k_is)
    (case l11 => k_is)
    (case c11 => k_is)
    (case k11 => k_is)
    (case a12 => k_is)
    (case l12 => k_is)
    (case c12 => k_is)
    (case k12 => k_is)
    (case z_abs => k_is)
    (case z_all => k_is)
    (case z_bool => k_is)
    (case z_int => k_is)
    (case z_isinstance => k_is)
    (case z_len => k_is)
    (case z_list => k_is)
    (case z_range => k_is)
    (case z_repr => k_is)
    (case z_str => k_is)
    (case z_tuple => k_is)
