import PyProof.Rows.All
import Wide.All
import OpenK.AllK
import Wide.FinOn
import PyProof.EqAt
import PyProof.EqKinds
import PyProof.TupleCall
import HandS.ForMost
import HandS.IsInst
import HandS.StrMore
import HandS.Codes
import HandS.Style
import PySem.Challenge.RW_samenames_k04_lines_and_columns
set_option Elab.async false
set_option linter.all false
set_option maxRecDepth 100000
set_option maxHeartbeats 4000000
/-! My own words over the hand layer: calls by name, heaps but for one place, texts, data. -/
namespace Sn
open PySem PySem.Spec PyProof.Rows L2

/-- a def that may be called by its name -/
structure Cal (P : Program) (w : World) (K : PySem.W.Frag) (mg : Str → Option Value) (base : Heap) (CX : CXT) (k : Nat) (x : Str) (sp : Sp) : Prop where
  ex : ∃ (f : Addr) (fd : FuncData) (ps : List Str), FnOk P w K mg base CX k f fd ps sp ∧ mg x = some (.ref f) ∧ PySem.W.keepIn K (.ref f) = true ∧ Binds K fd ps []
section
variable {X : Cx} {k j : Nat} {x : Str} {sp : Sp} {p pos : Pos} {e : Expr} {es : List Expr} {t : TA} {CX : CXT} {E : XK}
theorem pe_c (c : Cal X.prog X.w X.K X.mg X.base CX k x sp) (hr : Room j X.A) (hk : k ≤ j) (hx : Passes CX X E) (ha : PA X (e :: es) t) (hg : Gl X x := by rfl)
    (hdb : (x == ("__debug__" : Str)) = false := by decide) (he : starEach (e :: es) X.env = (false, eval e X.env) :: starEach es X.env := by rfl) (hpl : (backTo pos (starEach es X.env)).any (·.1) = false := by rfl) :
    PE X (.Call (.Name x p) (e :: es) [] pos) (tCall sp [] E t) := by
  obtain ⟨f, fd, ps, F, hm, kp, b⟩ := c.ex
  exact pe_call F (hr.mono hk) hg hm kp b .nil hx ha hdb he hpl
end

/-! ### displays of many written texts -/
def strOf : Expr → Option Str
  | .Constant (.str x) _ _ => some x
  | _ => none
def strsOf : List Expr → Option (List Str)
  | [] => some []
  | e :: r => match strOf e, strsOf r with
    | some x, some l => some (x :: l)
    | _, _ => none
theorem starEach_strs {env : Env} : ∀ {es : List Expr} {l : List Str}, strsOf es = some l → ∀ {e : Expr} {x : Str}, strOf e = some x → starEach (e :: es) env = (false, eval e env) :: starEach es env := by
  intro es l h e x hx
  unfold strOf at hx
  split at hx
  · rfl
  · cases hx
theorem pa_strsL {X : Cx} : ∀ (es : List Expr) (l : List Str), strsOf es = some l → PA X es (fun _ H Q => Q (l.map V.str) H)
  | [], l, h => by
    have e : l = [] := (Option.some.inj h).symm
    subst e
    exact pa_nil
  | e :: r, l, h => by
    unfold strsOf at h
    split at h
    · rename_i x m hx hm
      have el : l = x :: m := (Option.some.inj h).symm
      subst el
      have q := pa_strsL (X := X) r m hm
      have hs := starEach_strs (env := X.env) hm hx
      unfold strOf at hx
      split at hx
      · rename_i x' j pos
        have ex : x' = x := Option.some.inj hx
        subst ex
        exact pa_cons (te := tC (.str x')) (t := fun _ H Q => Q (m.map V.str) H) pe_str q hs
      · cases hx
    · cases h
theorem pa_strs {X : Cx} {es : List Expr} (l : List Str) (h : strsOf es = some l := by rfl) : PA X es (fun _ H Q => Q (l.map V.str) H) := pa_strsL es l h

/-! ### heaps -/
/-- all that was tracked but the object at t is as it was -/
def But (t : Addr) (H H' : Hp) : Prop := ∀ b o, b ≠ t → H b = some o → H' b = some o
theorem But.refl (t : Addr) (H : Hp) : But t H H := fun _ _ _ h => h
theorem But.trans {t : Addr} {H H1 H2 : Hp} (a : But t H H1) (b : But t H1 H2) : But t H H2 := fun c o n h => b c o n (a c o n h)
theorem But.of {t : Addr} {H H' : Hp} (s : Same H H') : But t H H' := fun b o _ h => s b o h
theorem same_new {H : Hp} {p : Addr} {o : HO} (h : H p = none) : Same H (upd H p o) := fun b u q => by
  rw [upd_ne (ne_of_none q h)]
  exact q
theorem But.upd {t : Addr} {H H1 : Hp} {o : HO} (b : But t H H1) : But t H (upd H1 t o) := fun c u n h => by
  rw [upd_ne n]
  exact b c u n h

/-! ### the tape -/
def tk (c : Addr) (a l se sa : Int) : List (Key × V) := [(.inr "cells", .ref c), (.inr "at", .int a), (.inr "left", .int l), (.inr "seed", .int se), (.inr "salt", .int sa)]
structure TkAt (H : Hp) (t c : Addr) (cs : List Int) (a l se sa : Int) : Prop where
  d : H t = some (.dK (tk c a l se sa))
  cl : H c = some (.lst (cs.map V.int))
  cp : ∀ x ∈ cs, 0 ≤ x
  a0 : 0 ≤ a
  l0 : 0 ≤ l
  s0 : 0 ≤ se
  s1 : se < 2147483647
/-- a tape stands at t -/
def Tp (H : Hp) (t c : Addr) : Prop := ∃ cs a l se sa, TkAt H t c cs a l se sa
theorem TkAt.ne {H : Hp} {t c : Addr} {cs : List Int} {a l se sa : Int} (z : TkAt H t c cs a l se sa) : c ≠ t := ne_of z.cl z.d (by intro q; cases q)
theorem Tp.same {H H' : Hp} {t c : Addr} (s : Same H H') : Tp H t c → Tp H' t c := fun ⟨cs, a, l, se, sa, z⟩ => ⟨cs, a, l, se, sa, s _ _ z.d, s _ _ z.cl, z.cp, z.a0, z.l0, z.s0, z.s1⟩
theorem Tp.ne {H : Hp} {t c b : Addr} (z : Tp H t c) {o : HO} (h : H b = some o) (hn : ∀ kvs, o ≠ .dK kvs) : b ≠ t := by
  obtain ⟨cs, a, l, se, sa, z⟩ := z
  exact ne_of h z.d (hn _)
theorem Tp.nt {H : Hp} {t c b : Addr} (z : Tp H t c) (h : H b = none) : t ≠ b := by
  obtain ⟨cs, a, l, se, sa, z⟩ := z
  exact ne_of_none z.d h
theorem Tp.nc {H : Hp} {t c b : Addr} (z : Tp H t c) (h : H b = none) : c ≠ b := by
  obtain ⟨cs, a, l, se, sa, z⟩ := z
  exact ne_of_none z.cl h
theorem Tp.upd {H : Hp} {t c b : Addr} {o : HO} (z : Tp H t c) (h1 : t ≠ b) (h2 : c ≠ b) : Tp (upd H b o) t c := by
  obtain ⟨cs, a, l, se, sa, z⟩ := z
  exact ⟨cs, a, l, se, sa, by rw [upd_ne h1]; exact z.d, by rw [upd_ne h2]; exact z.cl, z.cp, z.a0, z.l0, z.s0, z.s1⟩
theorem Tp.new {H : Hp} {t c b : Addr} {o : HO} (z : Tp H t c) (h : H b = none) : Tp (L2.upd H b o) t c := z.upd (z.nt h) (z.nc h)
section
variable {c : Addr} {a l se sa v : Int}
theorem g_cells : valV (tk c a l se sa) (.inr "cells") = some (.ref c) := by kernel_rfl
theorem g_at : valV (tk c a l se sa) (.inr "at") = some (.int a) := by kernel_rfl
theorem g_left : valV (tk c a l se sa) (.inr "left") = some (.int l) := by kernel_rfl
theorem g_seed : valV (tk c a l se sa) (.inr "seed") = some (.int se) := by kernel_rfl
theorem g_salt : valV (tk c a l se sa) (.inr "salt") = some (.int sa) := by kernel_rfl
theorem p_at : putK (tk c a l se sa) (.inr "at") (.int v) = tk c v l se sa := by kernel_rfl
theorem p_left : putK (tk c a l se sa) (.inr "left") (.int v) = tk c a v se sa := by kernel_rfl
theorem p_salt : putK (tk c a l se sa) (.inr "salt") (.int v) = tk c a l se v := by kernel_rfl
theorem tk_len : (tk c a l se sa).length < sizeLine := by
  show 5 < sizeLine
  decide
end
section
variable {H : Hp} {t c : Addr} {cs : List Int} {a l se sa v : Int}
theorem TkAt.dg (z : TkAt H t c cs a l se sa) {k : Key} {x : V} (h : valV (tk c a l se sa) k = some x) : DGet H t (kV k) (some x) := h ▸ DGet.k z.d
theorem TkAt.sAt (z : TkAt H t c cs a l se sa) (hv : 0 ≤ v) : TkAt (upd H t (.dK (tk c v l se sa))) t c cs v l se sa :=
  ⟨upd_same, by rw [upd_ne z.ne]; exact z.cl, z.cp, hv, z.l0, z.s0, z.s1⟩
theorem TkAt.sLeft (z : TkAt H t c cs a l se sa) (hv : 0 ≤ v) : TkAt (upd H t (.dK (tk c a v se sa))) t c cs a v se sa :=
  ⟨upd_same, by rw [upd_ne z.ne]; exact z.cl, z.cp, z.a0, hv, z.s0, z.s1⟩
theorem TkAt.sSalt (z : TkAt H t c cs a l se sa) : TkAt (upd H t (.dK (tk c a l se v))) t c cs a l se v :=
  ⟨upd_same, by rw [upd_ne z.ne]; exact z.cl, z.cp, z.a0, z.l0, z.s0, z.s1⟩
theorem TkAt.pAt (z : TkAt H t c cs a l se sa) : DPut H t (.str "at") (.int v) (upd H t (.dK (tk c v l se sa))) := p_at (c := c) (a := a) (l := l) (se := se) (sa := sa) (v := v) ▸ DPut.k (k := .inr "at") z.d tk_len
theorem TkAt.pLeft (z : TkAt H t c cs a l se sa) : DPut H t (.str "left") (.int v) (upd H t (.dK (tk c a v se sa))) := p_left (c := c) (a := a) (l := l) (se := se) (sa := sa) (v := v) ▸ DPut.k (k := .inr "left") z.d tk_len
theorem TkAt.pSalt (z : TkAt H t c cs a l se sa) : DPut H t (.str "salt") (.int v) (upd H t (.dK (tk c a l se v))) := p_salt (c := c) (a := a) (l := l) (se := se) (sa := sa) (v := v) ▸ DPut.k (k := .inr "salt") z.d tk_len
end

/-! ### texts -/
/-- a sign that may stand in a text -/
def okc (c : Nat) : Bool := c == 10 || (decide (32 ≤ c) && decide (c ≤ 126) && c != 37)
def OkT (z : Str) : Prop := ∀ c ∈ z.cps.toList, okc c = true
def okT (z : Str) : Bool := z.cps.toList.all okc
theorem OkT.of {z : Str} (h : okT z = true) : OkT z := List.all_eq_true.mp h
theorem OkT.append {x y : Str} (a : OkT x) (b : OkT y) : OkT (x ++ y) := fun c h => by
  rw [show (x ++ y).cps.toList = x.cps.toList ++ y.cps.toList from TL.tl_append x y] at h
  rcases List.mem_append.mp h with h | h
  · exact a c h
  · exact b c h
theorem joinL_nil : ∀ l : List (List Nat), TL.joinL [] l = l.flatten
  | [] => rfl
  | [p] => by simp [TL.joinL]
  | p :: q :: r => by
    show p ++ ([] ++ TL.joinL [] (q :: r)) = _
    rw [joinL_nil (q :: r), List.nil_append] <;> rfl
theorem tl_join0 (y : Str) (hy : TL.tl y = []) (l : List Str) : TL.tl (Txt.join y l) = (l.map TL.tl).flatten := by
  rw [TL.join_eq, TL.tl_join, hy, joinL_nil]
theorem OkT.join {y : Str} (hy : TL.tl y = []) {l : List Str} (h : ∀ z ∈ l, OkT z) : OkT (Txt.join y l) := fun c hc => by
  rw [show (Txt.join y l).cps.toList = (l.map TL.tl).flatten from tl_join0 y hy l] at hc
  obtain ⟨m, hm, hc⟩ := List.mem_flatten.mp hc
  obtain ⟨z, hz, rfl⟩ := List.mem_map.mp hm
  exact h z hz c hc
theorem sum_len_le {n : Nat} : ∀ {l : List Str}, (∀ z ∈ l, z.length ≤ n) → (l.map (·.length)).sum ≤ n * l.length
  | [], _ => by simp
  | z :: r, h => by
    have ih := sum_len_le (l := r) fun y hy => h y (List.mem_cons_of_mem _ hy)
    have h0 := h z List.mem_cons_self
    rw [List.map_cons, List.sum_cons, List.length_cons, Nat.mul_add]
    omega
theorem flat_len : ∀ l : List Str, ((l.map TL.tl).flatten).length = (l.map (·.length)).sum
  | [] => rfl
  | z :: r => by
    rw [List.map_cons, List.flatten_cons, List.length_append, flat_len r, List.map_cons, List.sum_cons, TL.len_tl z]
theorem join_len (y : Str) (hy : TL.tl y = []) (l : List Str) : (Txt.join y l).length = (l.map (·.length)).sum := by
  rw [TL.len_tl, tl_join0 y hy, flat_len]
theorem small {n : Nat} (h : n ≤ 1000000) : n ≤ sizeLine := Nat.le_trans h (by decide)

/-! ### data that are equal -/
def sca : V → Bool
  | .non => true
  | .bl _ => true
  | .int _ => true
  | .str _ => true
  | _ => false
def Al (H : Hp) : Nat → V → V → Prop
  | 0, _, _ => False
  | n + 1, x, y => (x = y ∧ sca x = true) ∨
    (∃ a b xs ys, x = .ref a ∧ y = .ref b ∧ H a = some (.tup xs) ∧ H b = some (.tup ys) ∧ xs.length = ys.length ∧ xs.length ≤ 1000000 ∧ ∀ (i : Nat) (u v : V), xs[i]? = some u → ys[i]? = some v → Al H n u v) ∨
    (∃ a b xs ys, x = .ref a ∧ y = .ref b ∧ H a = some (.lst xs) ∧ H b = some (.lst ys) ∧ xs.length = ys.length ∧ xs.length ≤ 1000000 ∧ ∀ (i : Nat) (u v : V), xs[i]? = some u → ys[i]? = some v → Al H n u v)
theorem Al.sc {H : Hp} {n : Nat} {x : V} (h : sca x = true) : Al H (n + 1) x x := .inl ⟨rfl, h⟩
theorem Al.same {H H' : Hp} (s : Same H H') : ∀ {n : Nat} {x y : V}, Al H n x y → Al H' n x y
  | 0, _, _, h => h
  | n + 1, x, y, h => by
    rcases h with h | ⟨a, b, xs, ys, e1, e2, h1, h2, hl, hm, h⟩ | ⟨a, b, xs, ys, e1, e2, h1, h2, hl, hm, h⟩
    · exact .inl h
    · exact .inr (.inl ⟨a, b, xs, ys, e1, e2, s _ _ h1, s _ _ h2, hl, hm, fun i u v p q => Al.same s (h i u v p q)⟩)
    · exact .inr (.inr ⟨a, b, xs, ys, e1, e2, s _ _ h1, s _ _ h2, hl, hm, fun i u v p q => Al.same s (h i u v p q)⟩)
theorem Al.tup {H : Hp} {n : Nat} {a b : Addr} {xs ys : List V} (h1 : H a = some (.tup xs)) (h2 : H b = some (.tup ys)) (hl : xs.length = ys.length) (hm : xs.length ≤ 1000000) (h : ∀ (i : Nat) (u v : V), xs[i]? = some u → ys[i]? = some v → Al H n u v) : Al H (n + 1) (.ref a) (.ref b) :=
  .inr (.inl ⟨a, b, xs, ys, rfl, rfl, h1, h2, hl, hm, h⟩)
theorem Al.lst {H : Hp} {n : Nat} {a b : Addr} {xs ys : List V} (h1 : H a = some (.lst xs)) (h2 : H b = some (.lst ys)) (hl : xs.length = ys.length) (hm : xs.length ≤ 1000000) (h : ∀ (i : Nat) (u v : V), xs[i]? = some u → ys[i]? = some v → Al H n u v) : Al H (n + 1) (.ref a) (.ref b) :=
  .inr (.inr ⟨a, b, xs, ys, rfl, rfl, h1, h2, hl, hm, h⟩)
/-- two tuples (lists) of the same plain values -/
theorem al_eq {H : Hp} {n : Nat} {xs : List V} (h : xs.all sca = true) : ∀ (i : Nat) (u v : V), xs[i]? = some u → xs[i]? = some v → Al H (n + 1) u v := fun i u v p q => by
  have e : u = v := Option.some.inj (p.symm.trans q)
  subst e
  exact Al.sc (List.all_eq_true.mp h u (List.mem_of_getElem? p))

/-! ### tests -/
theorem iteP {p A B : Prop} [Decidable p] (hp : p) (h : A) : if decide p = true then A else B := by
  rw [if_pos (decide_eq_true hp)]
  exact h
theorem iteN {p A B : Prop} [Decidable p] (hp : ¬ p) (h : B) : if decide p = true then A else B := by
  rw [if_neg (by rw [decide_eq_false hp]; exact Bool.false_ne_true)]
  exact h
theorem iteNN {p A B : Prop} [Decidable p] (hp : ¬ p) (h : A) : if (!decide p) = true then A else B := by
  rw [decide_eq_false hp]
  exact iteT h
theorem qP {p : Prop} [Decidable p] {Q : VK} {H : Hp} (hp : p) (h : Q (.bl true) H) : Q (.bl (decide p)) H := by
  rw [decide_eq_true hp]
  exact h
theorem none_left {P : Program} {w : World} {K : PySem.W.Frag} {mg : Str → Option Value} {base : Heap} {f : Addr} {fd : FuncData} {ps : List Str} {sp : Sp} (no : ∀ vs H Q E, ¬ sp vs H Q E) : FnOk P w K mg base CX0 0 f fd ps sp :=
  ⟨fun vs H Q E h => absurd h (no vs H Q E), fun A outer s H args us vs Q E _ _ _ _ h => absurd h (no vs H Q E)⟩

/-! ### promises of the law's own helpers -/
def spTape (K : PySem.W.Frag) : Sp := fun vs H Q _ => ∃ (a : Addr) (ns : List Int), vs = [.ref a] ∧ SqL K H a (ns.map V.int) ∧ ns.length ≤ 63 ∧ ∀ t c H', Same H H' → H t = none → H c = none → Tp H' t c → Q (.ref t) H'
def spTake : Sp := fun vs H Q _ => ∃ (t c : Addr) (n : Int), vs = [.ref t, .int n] ∧ Tp H t c ∧ 0 < n ∧ n < 1073741824 ∧ ∀ (r : Int) H', 0 ≤ r → r < n → But t H H' → Tp H' t c → Q (.int r) H'
def spIsInt : Sp := fun vs H Q _ => ∃ i : Int, vs = [.int i] ∧ Q (.bl true) H
def spSame (n : Nat) : Sp := fun vs H Q _ => ∃ x y, vs = [x, y] ∧ Al H n x y ∧ Q (.bl true) H
def spItems (n : Nat) : Sp := fun vs H Q _ => ∃ a b xs ys, vs = [.ref a, .ref b] ∧ ((H a = some (.tup xs) ∧ H b = some (.tup ys)) ∨ (H a = some (.lst xs) ∧ H b = some (.lst ys))) ∧ xs.length = ys.length ∧ xs.length ≤ 1000000 ∧
  (∀ (i : Nat) (u v : V), xs[i]? = some u → ys[i]? = some v → Al H n u v) ∧ Q (.bl true) H
def spSnippet : Sp := fun vs H Q _ => ∃ t c, vs = [.ref t] ∧ Tp H t c ∧ ∀ z H', OkT z → z.length ≤ 45 → But t H H' → Tp H' t c → Q (.str z) H'
def spChar : Sp := fun vs H Q _ => ∃ t c, vs = [.ref t] ∧ Tp H t c ∧ ∀ z H', OkT z → z.length = 1 → But t H H' → Tp H' t c → Q (.str z) H'
def spAny : Sp := fun vs H Q _ => ∃ (t c : Addr) (m : Nat), vs = [.ref t, .int m] ∧ Tp H t c ∧ m ≤ 100 ∧ ∀ z H', OkT z → z.length ≤ 45 * m → But t H H' → Tp H' t c → Q (.str z) H'

/-! ### a text walked sign by sign -/
theorem for_str {x : Str} {g : TG} {tb : TS} {D : Ends} {σ : L2.St} {H : Hp} (Pv : Nat → L2.St → Hp → Prop) (h0 : Pv 0 σ H)
    (hs : ∀ i c σ H, x.cps.toList[i]? = some c → Pv i σ H → g (.str ⟨#[c]⟩) σ H fun σ2 H2 => tb { D with nx := Pv (i + 1), ct := Pv (i + 1), bk := D.nx } σ2 H2) (hd : ∀ σ H, Pv x.cps.toList.length σ H → D.nx σ H) :
    ∃ W : Nat → Nat → L2.St → Hp → Prop, (∃ m, W 0 m σ H) ∧ ∀ i m σ H, W i m σ H →
      ((Its x).stop i H ∧ D.nx σ H) ∨ ((Its x).go i H ∧ ∃ Nx : L2.St → Hp → Prop, (∀ σ' H', Nx σ' H' → ∃ m', m' < m ∧ W (i + 1) m' σ' H') ∧ ∀ y H', (Its x).yld i H y H' → g y σ H' fun σ2 H2 => tb { D with nx := Nx, ct := Nx, bk := D.nx } σ2 H2) := by
  refine ⟨fun i m σ H => m = x.cps.toList.length - i ∧ i ≤ x.cps.toList.length ∧ Pv i σ H, ⟨x.cps.toList.length, by simp, Nat.zero_le _, h0⟩, ?_⟩
  rintro i m σ H ⟨rfl, hi, p⟩
  have hsz : x.cps.toList.length = x.cps.size := Array.length_toList
  by_cases hlt : i < x.cps.toList.length
  · refine .inr ⟨by show i < x.cps.size; omega, Pv (i + 1), fun σ' H' p' => ⟨x.cps.toList.length - (i + 1), by omega, rfl, hlt, p'⟩, fun y H' z => ?_⟩
    obtain ⟨e, c, hc, z⟩ := z
    subst e z
    exact hs i c σ _ (by rw [Array.getElem?_toList]; exact hc) p
  · have e : i = x.cps.toList.length := by omega
    subst e
    exact .inl ⟨by show x.cps.size ≤ _; omega, hd σ H p⟩
def spLaw (K : PySem.W.Frag) : Sp := fun vs H Q _ => ∃ (a : Addr) (ns : List Int), vs = [.ref a] ∧ SqL K H a (ns.map V.int) ∧ ns.length ≤ 63 ∧ ∀ H', Q (.bl true) H'
end Sn

/-! Mathematics of texts: counting a sign, the last one, lines, cuts. -/
namespace Sn
open PySem PySem.Spec PyProof.Rows L2 PySem.StrLaws PySem.Builtin.Str TL
/-! ### cuts -/
theorem tl_cut (z : Str) (lo hi : Option Int) : tl (cutS z lo hi) = ((tl z).drop (HT.sIx z.length 0 lo)).take (HT.sIx z.length z.length hi - HT.sIx z.length 0 lo) := rfl
theorem tl_cut_to (z : Str) (o : Nat) : tl (cutS z none (some (o : Int))) = (tl z).take o := by
  rw [tl_cut, HT.sIx_none, HT.sIx_nat, List.drop_zero, Nat.sub_zero, len_tl, List.take_eq_take_iff]
  omega
theorem tl_cut_from (z : Str) (o : Nat) : tl (cutS z (some (o : Int)) none) = (tl z).drop o := by
  rw [tl_cut, HT.sIx_none, HT.sIx_nat, len_tl]
  by_cases h : o ≤ (tl z).length
  · rw [Nat.min_eq_left h, List.take_of_length_le (by rw [List.length_drop] <;> omega)]
  · rw [Nat.min_eq_right (by omega), Nat.sub_self, List.take_zero, List.drop_eq_nil_of_le (by omega)]
theorem tl_cut_mid (z : Str) (a b : Nat) (h : a ≤ (tl z).length) : tl (cutS z (some (a : Int)) (some (b : Int))) = ((tl z).drop a).take (b - a) := by
  rw [tl_cut, HT.sIx_nat, HT.sIx_nat, len_tl, Nat.min_eq_left h, List.take_eq_take_iff, List.length_drop]
  omega
theorem len_eq (z : Str) : z.length = (tl z).length := len_tl z
/-! ### counting one sign -/
theorem drop_take_cons {l : List Nat} {a hi : Nat} (h : a < hi) (hl : hi ≤ l.length) : ∃ (h2 : a < l.length), (l.take hi).drop a = l[a] :: (l.take hi).drop (a + 1) := by
  have h2 : a < (l.take hi).length := by rw [List.length_take]; omega
  refine ⟨by omega, ?_⟩
  rw [List.drop_eq_getElem_cons h2, List.getElem_take]
theorem drop_take_nil {l : List Nat} {a hi : Nat} (h : hi ≤ a) : (l.take hi).drop a = [] := List.drop_eq_nil_of_le (by rw [List.length_take]; omega)
theorem occ_cnt (x : Str) (c hi limit : Nat) (hhi : hi ≤ (tl x).length) : ∀ (m a : Nat) (st : Array Nat × Nat), st.2 ≤ a → st.1.size + m ≤ limit → a + m = hi + 1 →
    (forIn (List.range' a m) st (occBody x ⟨#[c]⟩ hi limit)).run.fst.size = st.1.size + (((tl x).take hi).drop a).count c
  | 0, a, st, _, _, e => by
    rw [drop_take_nil (by omega)]
    rfl
  | m + 1, a, st, hf, hl, e => by
    have one : ∀ i, (i + (⟨#[c]⟩ : Str).length ≤ hi ∧ subAt x ⟨#[c]⟩ i = true) ↔ i < hi ∧ (tl x)[i]? = some c := fun i => by
      have k := subAt_one x c i
      have hx : x.length = (tl x).length := len_tl x
      have h1 : (⟨#[c]⟩ : Str).length = 1 := rfl
      constructor
      · intro h
        have z := k.mp ⟨by omega, h.2⟩
        exact ⟨by omega, z⟩
      · intro h
        have z := k.mpr h.2
        exact ⟨by omega, z.2⟩
    rw [List.range'_succ, List.forIn_cons]
    unfold occBody
    by_cases ha : a < hi
    · obtain ⟨h2, e2⟩ := drop_take_cons ha hhi
      rw [e2, List.count_cons]
      by_cases hc : (tl x)[a] = c
      · have k := (one a).mpr ⟨ha, by rw [List.getElem?_eq_getElem h2, hc]⟩
        rw [if_pos ⟨⟨⟨by omega, hf⟩, k.1⟩, k.2⟩]
        have ih := occ_cnt x c hi limit hhi m (a + 1) (st.1.push a, a + (⟨#[c]⟩ : Str).length) (Nat.le_refl _) (by show (st.1.push a).size + m ≤ limit; rw [Array.size_push]; omega) (by omega)
        have e3 : (st.1.push a).size = st.1.size + 1 := Array.size_push ..
        show (forIn (List.range' (a + 1) m) (st.1.push a, a + (⟨#[c]⟩ : Str).length) (occBody x ⟨#[c]⟩ hi limit)).run.fst.size = _
        rw [ih, e3, hc]
        simp
        omega
      · have k : ¬ ((((st.1.size < limit ∧ st.2 ≤ a) ∧ a + (⟨#[c]⟩ : Str).length ≤ hi) ∧ subAt x ⟨#[c]⟩ a = true)) := fun h => by
          have z := (one a).mp ⟨h.1.2, h.2⟩
          rw [List.getElem?_eq_getElem h2] at z
          exact hc (Option.some.inj z.2)
        rw [if_neg k]
        have ih := occ_cnt x c hi limit hhi m (a + 1) (st.1, st.2) (by show st.2 ≤ a + 1; omega) (by show st.1.size + m ≤ limit; omega) (by omega)
        show (forIn (List.range' (a + 1) m) (st.1, st.2) (occBody x ⟨#[c]⟩ hi limit)).run.fst.size = _
        rw [ih]
        have e4 : ((tl x)[a] == c) = false := beq_eq_false_iff_ne.mpr hc
        rw [e4, if_neg Bool.false_ne_true]
        rfl
    · have k : ¬ ((((st.1.size < limit ∧ st.2 ≤ a) ∧ a + (⟨#[c]⟩ : Str).length ≤ hi) ∧ subAt x ⟨#[c]⟩ a = true)) := fun h => by
        have z := (one a).mp ⟨h.1.2, h.2⟩
        omega
      rw [if_neg k]
      have em : m = 0 := by omega
      subst em
      rw [drop_take_nil (by omega)]
      rfl
theorem occ_count (x : Str) (c hi : Nat) (hhi : hi ≤ (tl x).length) : (occurrences x ⟨#[c]⟩ 0 hi (x.length + 1)).length = ((tl x).take hi).count c := by
  rw [occ_eq, Array.length_toList]
  have k := occ_cnt x c hi (x.length + 1) hhi (hi + 1 - 0) 0 (#[], 0) (Nat.le_refl _) (by show 0 + (hi + 1 - 0) ≤ x.length + 1; rw [len_tl]; omega) (by omega)
  rw [k, List.drop_zero]
  show 0 + _ = _
  omega
theorem count_all (x : Str) (c : Nat) : Txt.count x ⟨#[c]⟩ = (((tl x).count c : Nat) : Int) := by
  show (((occurrences x ⟨#[c]⟩ 0 x.length (x.length + 1)).length : Nat) : Int) = _
  rw [occ_count x c x.length (by rw [len_tl]; exact Nat.le_refl _), len_tl, List.take_length]
theorem toW (n o : Nat) (h : o ≤ n) : toIndexW n (o : Int) = o := by
  unfold toIndexW
  rw [if_neg (by omega)]
  omega
theorem fromI (n o : Nat) : fromIndex n (o : Int) = o := by
  unfold fromIndex
  rw [if_neg (by omega)]
  omega
theorem count_in (x : Str) (c o : Nat) (h : o ≤ (tl x).length) : Txt.countIn x ⟨#[c]⟩ 0 (o : Int) = ((((tl x).take o).count c : Nat) : Int) := by
  unfold Txt.countIn
  rw [toW _ _ (by rw [len_tl]; exact h), show fromIndex x.length 0 = 0 from fromI x.length 0, occ_count x c o h]
/-! ### the last newline -/
/-- how many signs stand behind the last c, k of them ahead -/
def colF (c k : Nat) : List Nat → Nat
  | [] => k
  | d :: r => if d = c then colF c 0 r else colF c (k + 1) r
theorem colF_snoc (c d : Nat) : ∀ (l : List Nat) (k : Nat), colF c k (l ++ [d]) = if d = c then 0 else colF c k l + 1
  | [], k => by
    show (if d = c then colF c 0 [] else colF c (k + 1) []) = _
    rfl
  | e :: r, k => by
    show (if e = c then colF c 0 (r ++ [d]) else colF c (k + 1) (r ++ [d])) = _
    rw [colF_snoc c d r 0, colF_snoc c d r (k + 1)]
    by_cases h : e = c
    · rw [if_pos h]
      show _ = if d = c then 0 else (if e = c then colF c 0 r else colF c (k + 1) r) + 1
      rw [if_pos h]
    · rw [if_neg h]
      show _ = if d = c then 0 else (if e = c then colF c 0 r else colF c (k + 1) r) + 1
      rw [if_neg h]
theorem colF_le (c : Nat) : ∀ (l : List Nat) (k : Nat), colF c k l ≤ k + l.length
  | [], k => Nat.le_refl _
  | e :: r, k => by
    show (if e = c then colF c 0 r else colF c (k + 1) r) ≤ k + (r.length + 1)
    have h0 := colF_le c r 0
    have h1 := colF_le c r (k + 1)
    split <;> omega
def valO : Option Nat → Nat
  | none => 0
  | some k => k + 1
theorem last_col (x : Str) (c hi : Nat) (hhi : hi ≤ (tl x).length) : ∀ (m a : Nat) (st : Option Nat), valO st ≤ a → a + m = hi + 1 → a ≤ hi →
    valO (forIn (List.range' a m) st (lastBody x ⟨#[c]⟩ hi)).run ≤ hi ∧ hi - valO (forIn (List.range' a m) st (lastBody x ⟨#[c]⟩ hi)).run = colF c (a - valO st) (((tl x).take hi).drop a)
  | 0, a, st, _, e, _ => by omega
  | m + 1, a, st, hf, e, hah => by
    have one : ∀ i, (i + (⟨#[c]⟩ : Str).length ≤ hi ∧ subAt x ⟨#[c]⟩ i = true) ↔ i < hi ∧ (tl x)[i]? = some c := fun i => by
      have k := subAt_one x c i
      have hx : x.length = (tl x).length := len_tl x
      have h1 : (⟨#[c]⟩ : Str).length = 1 := rfl
      constructor
      · intro h
        have z := k.mp ⟨by omega, h.2⟩
        exact ⟨by omega, z⟩
      · intro h
        have z := k.mpr h.2
        exact ⟨by omega, z.2⟩
    rw [List.range'_succ, List.forIn_cons]
    unfold lastBody
    by_cases ha : a < hi
    · obtain ⟨h2, e2⟩ := drop_take_cons ha hhi
      rw [e2]
      by_cases hc : (tl x)[a] = c
      · have k := (one a).mpr ⟨ha, by rw [List.getElem?_eq_getElem h2, hc]⟩
        rw [if_pos k]
        have ih := last_col x c hi hhi m (a + 1) (some a) (Nat.le_refl _) (by omega) (by omega)
        show valO (forIn (List.range' (a + 1) m) (some a) (lastBody x ⟨#[c]⟩ hi)).run ≤ hi ∧ hi - valO (forIn (List.range' (a + 1) m) (some a) (lastBody x ⟨#[c]⟩ hi)).run = if (tl x)[a] = c then _ else _
        rw [if_pos hc]
        have e5 : a + 1 - valO (some a) = 0 := by
          show a + 1 - (a + 1) = 0
          omega
        rw [e5] at ih
        exact ih
      · have k : ¬ (a + (⟨#[c]⟩ : Str).length ≤ hi ∧ subAt x ⟨#[c]⟩ a = true) := fun h => by
          have z := (one a).mp h
          rw [List.getElem?_eq_getElem h2] at z
          exact hc (Option.some.inj z.2)
        rw [if_neg k]
        have ih := last_col x c hi hhi m (a + 1) st (by omega) (by omega) (by omega)
        show valO (forIn (List.range' (a + 1) m) st (lastBody x ⟨#[c]⟩ hi)).run ≤ hi ∧ hi - valO (forIn (List.range' (a + 1) m) st (lastBody x ⟨#[c]⟩ hi)).run = if (tl x)[a] = c then _ else _
        rw [if_neg hc]
        have e5 : a + 1 - valO st = a - valO st + 1 := by omega
        rw [e5] at ih
        exact ih
    · have k : ¬ (a + (⟨#[c]⟩ : Str).length ≤ hi ∧ subAt x ⟨#[c]⟩ a = true) := fun h => by
        have z := (one a).mp h
        omega
      rw [if_neg k]
      have em : m = 0 := by omega
      subst em
      rw [drop_take_nil (by omega)]
      show valO st ≤ hi ∧ hi - valO st = a - valO st
      omega
/-- x.rfind(c, 0, o) + 1 is where the last line of x[:o] begins -/
theorem rfind_col (x : Str) (c o : Nat) (h : o ≤ (tl x).length) : ∃ b : Nat, Txt.rfindIn x ⟨#[c]⟩ 0 (o : Int) + 1 = (b : Int) ∧ b ≤ o ∧ o - b = colF c 0 ((tl x).take o) := by
  unfold Txt.rfindIn
  rw [toW _ _ (by rw [len_tl]; exact h), show fromIndex x.length 0 = 0 from fromI x.length 0, last_eq]
  have k := last_col x c o h (o + 1 - 0) 0 none (Nat.le_refl _) (by omega) (Nat.zero_le _)
  rw [List.drop_zero] at k
  refine ⟨_, ?_, k.1, k.2⟩
  cases (forIn (List.range' 0 (o + 1 - 0)) none (lastBody x ⟨#[c]⟩ o)).run with
  | none => rfl
  | some j => rfl
/-! ### lines -/
def rows (c : Nat) : List Nat → List Nat → List (List Nat)
  | acc, [] => [acc]
  | acc, d :: r => if d = c then acc :: rows c [] r else rows c (acc ++ [d]) r
theorem spl_rows (c : Nat) : ∀ (l acc : List Nat), spl [c] 0 acc l = rows c acc l
  | [], acc => by rw [spl_nil]; rfl
  | d :: r, acc => by
    by_cases h : d = c
    · have p : TL.pre [c] (d :: r) = true := by rw [h]; simp [TL.pre]
      rw [spl_hit p]
      show acc :: spl [c] 0 [] r = if d = c then _ else _
      rw [if_pos h, spl_rows c r []]
    · have p : TL.pre [c] (d :: r) = false := pre_of_head [] r h
      rw [spl_miss p, spl_rows c r (acc ++ [d])]
      show _ = if d = c then _ else _
      rw [if_neg h]
theorem split_rows (x : Str) (c : Nat) (hc : c < 256) : (Txt.split x ⟨#[c]⟩).map tl = rows c [] (tl x) := by
  rw [split_spl x ⟨#[c]⟩ (by show [c] ≠ []; simp) (kind_ok (by simp [hc]))]
  exact spl_rows c (tl x) []
theorem rows_len (c : Nat) : ∀ (l acc : List Nat), (rows c acc l).length = l.count c + 1
  | [], acc => rfl
  | d :: r, acc => by
    show (if d = c then acc :: rows c [] r else rows c (acc ++ [d]) r).length = _
    rw [List.count_cons]
    by_cases h : d = c
    · rw [if_pos h, List.length_cons, rows_len c r []]
      simp [h]
    · have h' : (d == c) = false := by simpa using h
      rw [if_neg h, rows_len c r]
      simp [h']
/-- the lengths of lines with their newlines -/
def lens (rs : List (List Nat)) : Nat := (rs.map fun r => r.length + 1).sum
theorem rows_at (c : Nat) : ∀ (l acc : List Nat) (o : Nat), o ≤ l.length → ∃ row, (rows c acc l)[(l.take o).count c]? = some row ∧ colF c acc.length (l.take o) ≤ row.length ∧
    lens ((rows c acc l).take ((l.take o).count c)) + colF c acc.length (l.take o) = acc.length + o
  | l, acc, 0, _ => by
    rw [List.take_zero]
    show ∃ row, (rows c acc l)[0]? = some row ∧ acc.length ≤ row.length ∧ lens ((rows c acc l).take 0) + acc.length = acc.length + 0
    have : ∀ (l acc : List Nat), ∃ row, (rows c acc l)[0]? = some row ∧ acc.length ≤ row.length := by
      intro l
      induction l with
      | nil => exact fun acc => ⟨acc, rfl, Nat.le_refl _⟩
      | cons d r ih =>
        intro acc
        show ∃ row, (if d = c then acc :: rows c [] r else rows c (acc ++ [d]) r)[0]? = some row ∧ _
        by_cases h : d = c
        · rw [if_pos h]
          exact ⟨acc, rfl, Nat.le_refl _⟩
        · rw [if_neg h]
          obtain ⟨row, h1, h2⟩ := ih (acc ++ [d])
          rw [List.length_append] at h2
          exact ⟨row, h1, by omega⟩
    obtain ⟨row, h1, h2⟩ := this l acc
    refine ⟨row, h1, h2, ?_⟩
    rw [List.take_zero]
    show 0 + acc.length = acc.length + 0
    omega
  | [], acc, o + 1, h => absurd h (by simp)
  | d :: r, acc, o + 1, h => by
    have ho : o ≤ r.length := by simpa using h
    rw [List.take_succ_cons, List.count_cons]
    by_cases e : d = c
    · subst e
      have ih := rows_at d r [] o ho
      obtain ⟨row, h1, h2, h3⟩ := ih
      have er : rows d acc (d :: r) = acc :: rows d [] r := by
        show (if d = d then _ else _) = _
        rw [if_pos rfl]
      have ec : colF d acc.length (d :: r.take o) = colF d 0 (r.take o) := by
        show (if d = d then _ else _) = _
        rw [if_pos rfl]
      rw [er, ec]
      simp only [beq_self_eq_true, if_true]
      refine ⟨row, by rw [List.getElem?_cons_succ]; exact h1, h2, ?_⟩
      rw [List.take_succ_cons]
      show (acc.length + 1) + lens _ + _ = _
      simp only [List.length_nil] at h3
      unfold lens at h3 ⊢
      omega
    · have er : rows c acc (d :: r) = rows c (acc ++ [d]) r := by
        show (if d = c then _ else _) = _
        rw [if_neg e]
      have ec : colF c acc.length (d :: r.take o) = colF c (acc.length + 1) (r.take o) := by
        show (if d = c then _ else _) = _
        rw [if_neg e]
      have eb : (d == c) = false := by simpa using e
      have ih := rows_at c r (acc ++ [d]) o ho
      rw [er, ec]
      simp only [eb, Bool.false_eq_true, if_false, Nat.add_zero]
      obtain ⟨row, h1, h2, h3⟩ := ih
      rw [List.length_append, List.length_singleton] at h2 h3
      exact ⟨row, h1, h2, by omega⟩
theorem join_lens (y : List Nat) (hy : y.length = 1) : ∀ rs : List (List Nat), rs ≠ [] → (joinL y rs).length + 1 = lens rs
  | [], h => absurd rfl h
  | [p], _ => by
    show p.length + 1 = (p.length + 1) + 0
    omega
  | p :: q :: r, _ => by
    show (p ++ (y ++ joinL y (q :: r))).length + 1 = (p.length + 1) + lens (q :: r)
    have ih := join_lens y hy (q :: r) (by simp)
    rw [List.length_append, List.length_append]
    omega
end Sn

namespace Sn
open PySem PySem.Spec PyProof.Rows L2 TL
/-! ### the text -/
def topS (i : Nat) : Stmt := PySem.Challenge.pw_samenames_k04_lines_and_columns.main.body.getD i (.Pass ⟨0, 0, 0, 0⟩)
/-- the built-in names that stand as they are -/
structure Nm (mg : Str → Option Value) : Prop where
  abs : mg "abs" = none
  int_ : mg "int" = none
  len : mg "len" = none
  range : mg "range" = none
  isinstance : mg "isinstance" = none
  bool_ : mg "bool" = none
  str_ : mg "str" = none
  tuple_ : mg "tuple" = none
  list_ : mg "list" = none
section
variable {P : Program} {w : World} {K : PySem.W.Frag} {mg : Str → Option Value} {base : Heap} {f : Addr} {fd : FuncData}
abbrev s_tape : Stmt := topS 5
abbrev N_tape : List Str := ["script", "cell", "cells", "seed"]
theorem sc_tape : FnScope N_tape ["script"] (defScope s_tape) := ⟨rfl, rfl, rfl, by decide +kernel, rfl, by decide +kernel, by decide +kernel⟩
theorem nonneg_abs (i : Int) : 0 ≤ (if i < 0 then -i else i) := by
  split <;> omega
theorem ok_tape (F : Fun K "_law_tape" "_law_tape" s_tape f fd) (T : Nm mg) : FnOk P w K mg base CX0 1 f fd ["script"] (spTape K) := by
  refine F.ok sc_tape (fun vs H Q E h => ?_) (fun cdv A outer s H vs Q E hr h => ?_)
  · obtain ⟨a, ns, rfl, _⟩ := h
    rfl
  obtain ⟨a, ns, rfl, hS, hl, q⟩ := h
  refine ⟨_, (pss_cons (ps_setLc (i := 2) (own := [(("cell" : Str), 1)]) (g := (gName 1)) (tt := tYes) (by rfl) sc_tape.nd rfl rfl (sw_true rfl rfl rfl (by decide +kernel)) (pi_list (pv 0)) (blkOk_by (N := N_tape) (sc := defScope s_tape) (by decide +kernel)) (fun _ _ _ _ _ => (pg_name (i := 1) sc_tape.nd rfl (Or.inl rfl))) (fun _ _ _ _ _ => pts_nil) (fun _ _ _ _ _ => (pe_callB call_abs (by rfl) T.abs (by decide +kernel) (pa_cons (pe_callTy call_int1 (by rfl) T.int_ (by decide +kernel) (pa_cons (pv 1) pa_nil)) pa_nil))))
    (pss_cons (ps_set (i := 3) sc_tape.nd rfl (Or.inl rfl) pe_int)
    (pss_cons (ps_for PassesOwn.never rfl (pi_list (pv 2)) (pg_name (i := 1) sc_tape.nd rfl (Or.inl rfl)) (pss_one (ps_set (i := 3) sc_tape.nd rfl (Or.inl rfl) (pe_op op_mod (pe_callTy call_int1 (by rfl) T.int_ (by decide +kernel) (pa_cons (pe_op op_add (pe_op op_mul (pv 3) pe_int) (pv 1)) pa_nil)) pe_int))))
    (pss_one (ps_ret (pe_disp (pps_cons pe_str (pv 2) (pps_cons pe_str pe_int (pps_cons pe_str pe_int (pps_cons pe_str (pv 3) (pps_cons pe_str pe_int pps_nil))))) (by rfl) (by rfl) (fun z => by cases z) (by decide))))))), ?_⟩
  -- cells
  refine ⟨_, rfl, a, rfl, ⟨_, hS⟩, fun D hD => ?_⟩
  have s1 : Same H (upd H D (.lst [])) := same_new hD
  refine lc_list (K := K) (a := a) (xs := ns.map V.int) (fun i H' => Same H H' ∧ ∃ cs : List Int, H' D = some (.lst (cs.map V.int)) ∧ cs.length = i ∧ ∀ x ∈ cs, 0 ≤ x)
    ⟨s1, [], upd_same, rfl, fun _ h => nomatch h⟩ (fun i H' _ h => h.1.seq hS) ?_ ?_
  · rintro i x H' hi ⟨sm, cs, hd, hc, hp⟩
    obtain ⟨u, rfl⟩ : ∃ u, x = V.int u := by
      rw [List.getElem?_map] at hi
      cases e : ns[i]? with
      | none => rw [e] at hi; cases hi
      | some u => rw [e] at hi; exact ⟨u, (Option.some.inj hi).symm⟩
    have hi2 : i < ns.length := by
      have z := (List.getElem?_eq_some_iff.mp hi).1
      rwa [List.length_map] at z
    refine ⟨rfl, ?_⟩
    refine ⟨_, rfl, .inl ⟨_, rfl, _, rfl, cs.map V.int, hd, ?_, ?_⟩⟩
    · rw [List.length_map]; exact Nat.lt_of_lt_of_le (show cs.length < 1000 by omega) (by decide)
    · refine ⟨fun b o e => ?_, cs ++ [if u < 0 then -u else u], ?_, by simp [hc], fun y hy => ?_⟩
      · rw [upd_ne (ne_of_none e hD)]; exact sm _ _ e
      · rw [upd_same, List.map_append] <;> rfl
      · rcases List.mem_append.mp hy with hy | hy
        · exact hp y hy
        · rw [List.mem_singleton.mp hy]; exact nonneg_abs u
  · rintro H1 ⟨sm, cs, hd, hc, hp⟩
    -- seed
    refine ⟨_, rfl, D, rfl, ⟨_, .inl (.inl hd)⟩, for_list (K := K) (a := D) (xs := cs.map V.int) (fun i σ H' => ∃ (v : Option V) (se : Int), σ = [some (.ref a), v, some (.ref D), some (.int se)] ∧ H' = H1 ∧ 0 ≤ se ∧ se < 2147483647)
      ⟨none, 7, rfl, rfl, by decide, by decide⟩ (fun i σ H' _ ⟨_, _, _, e, _⟩ => by rw [e]; exact .inl (.inl hd)) ?_ ?_⟩
    · rintro i x σ H' hi ⟨v, se, rfl, rfl, h0, h1⟩
      obtain ⟨u, rfl⟩ : ∃ u, x = V.int u := by
        rw [List.getElem?_map] at hi
        cases e : cs[i]? with
        | none => rw [e] at hi; cases hi
        | some u => rw [e] at hi; exact ⟨u, (Option.some.inj hi).symm⟩
      refine ⟨_, rfl, _, _, rfl, rfl, .inr ⟨by decide, by decide⟩, _, rfl, _, _, rfl, rfl, .inl ⟨_, rfl, _, _, rfl, rfl, (by show (0 : Int) < 2147483647; decide), ?_⟩⟩
      exact ⟨_, _, rfl, rfl, Int.emod_nonneg _ (by decide), Int.emod_lt_of_pos _ (by decide)⟩
    · rintro σ H' ⟨v, se, rfl, rfl, h0, h1⟩
      -- the dict
      intro t ht
      have hDt : D ≠ t := ne_of_none hd ht
      refine ⟨_, rfl, ?_⟩
      refine ⟨_, rfl, ?_⟩
      refine ⟨upd_same, tk D 0 0 se 0, rfl, (by show 5 ≤ 15; decide), ?_⟩
      rw [upd_upd]
      have e : mergeK [] (tk D 0 0 se 0) = tk D 0 0 se 0 := by kernel_rfl
      rw [e]
      exact q t D _ (fun b o z => by rw [upd_ne (ne_of_none (sm _ _ z) ht)]; exact sm _ _ z) (sm.free ht) hD
        ⟨cs, 0, 0, se, 0, upd_same, by rw [upd_ne hDt]; exact hd, hp, by decide, by decide, h0, h1⟩

abbrev s_take : Stmt := topS 6
abbrev N_take : List Str := ["tape", "many", "drawn", "mixed"]
theorem sc_take : FnScope N_take ["tape", "many"] (defScope s_take) := ⟨rfl, rfl, rfl, by decide +kernel, rfl, by decide +kernel, by decide +kernel⟩
theorem ok_take (F : Fun K "_law_take" "_law_take" s_take f fd) (T : Nm mg) : FnOk P w K mg base CX0 1 f fd ["tape", "many"] spTake := by
  refine F.ok sc_take (fun vs H Q E h => ?_) (fun cdv A outer s H vs Q E hr h => ?_)
  · obtain ⟨t, c, n, rfl, _⟩ := h
    rfl
  obtain ⟨t, c, n, rfl, ⟨cs, a, l, se, sa, z⟩, hn, hn2, q⟩ := h
  refine ⟨_, (C8.pss_cut (ps_if (PW.pt (pw_and (pt_cmpR op_eq (pe_dget (hu_of hr) (pv 0) pe_str (fun _ _ => rfl)) pe_int (nomark _)) (pw_and1 (pt_cmpR op_lt (pe_dget (hu_of hr) (pv 0) pe_str (fun _ _ => rfl)) (pe_callB call_len_seq (by rfl) T.len PySem.boot_len (pa_cons (pe_dget (hu_of hr) (pv 0) pe_str (fun _ _ => rfl)) pa_nil)) (nomark _))))) (pss_cons (ps_dput (hu_of hr) (pv 0) pe_str (pe_ix (r := rIxL K) ix_list (pe_dget (hu_of hr) (pv 0) pe_str (fun _ _ => rfl)) (pe_dget (hu_of hr) (pv 0) pe_str (fun _ _ => rfl)) (fun _ _ => rfl)) rfl)
    (pss_one (ps_dput (hu_of hr) (pv 0) pe_str (pe_op op_add (pe_dget (hu_of hr) (pv 0) pe_str (fun _ _ => rfl)) pe_int) rfl))) pss_nil)
    (pss_cons (ps_if (pt_cmpR op_gt (pe_dget (hu_of hr) (pv 0) pe_str (fun _ _ => rfl)) pe_int (nomark _)) (pss_cons (ps_set (i := 2) sc_take.nd rfl (Or.inl rfl) (pe_op op_mod (pe_callTy call_int1 (by rfl) T.int_ (by decide +kernel) (pa_cons (pe_dget (hu_of hr) (pv 0) pe_str (fun _ _ => rfl)) pa_nil)) (pv 1)))
    (pss_cons (ps_dput (hu_of hr) (pv 0) pe_str (pe_op op_fdiv (pe_dget (hu_of hr) (pv 0) pe_str (fun _ _ => rfl)) (pv 1)) rfl)
    (pss_one (ps_ret (pv 2))))) pss_nil)
    (pss_cons (ps_dput (hu_of hr) (pv 0) pe_str (pe_op op_add (pe_dget (hu_of hr) (pv 0) pe_str (fun _ _ => rfl)) pe_int) rfl)
    (pss_cons (ps_set (i := 3) sc_take.nd rfl (Or.inl rfl) (pe_op op_mod (pe_callTy call_int1 (by rfl) T.int_ (by decide +kernel) (pa_cons (pe_op op_add (pe_op op_mul (pe_dget (hu_of hr) (pv 0) pe_str (fun _ _ => rfl)) pe_int) (pe_op op_mul (pe_dget (hu_of hr) (pv 0) pe_str (fun _ _ => rfl)) pe_int)) pa_nil)) pe_int))
    (pss_cons (ps_set (i := 3) sc_take.nd rfl (Or.inl rfl) (pe_op op_mod (pe_callTy call_int1 (by rfl) T.int_ (by decide +kernel) (pa_cons (pe_op op_add (pe_op op_add (pe_op op_mul (pv 3) (pv 3)) (pe_op op_mul (pe_dget (hu_of hr) (pv 0) pe_str (fun _ _ => rfl)) pe_int)) pe_int) pa_nil)) pe_int))
    (pss_one (ps_ret (pe_op op_mod (pe_callTy call_int1 (by rfl) T.int_ (by decide +kernel) (pa_cons (pv 3) pa_nil)) (pv 1))))))))), ?_⟩
  -- if tape['left'] == 0 and tape['at'] < len(tape['cells'])
  refine ⟨fun σ H' => σ = L2.start N_take [.ref t, .int n] ∧ ∃ a l, But t H H' ∧ TkAt H' t c cs a l se sa, ?_, ?_⟩
  · refine ⟨_, rfl, t, _, rfl, z.dg g_left, rfl, _, rfl, ?_⟩
    refine ite2 (fun _ => ?_) (fun _ => iteF ⟨rfl, a, l, But.refl t H, z⟩)
    refine ⟨_, rfl, t, _, rfl, z.dg g_at, _, rfl, t, _, rfl, z.dg g_cells, c, _, rfl, .inl (.inl (.inl z.cl)), _, _, rfl, rfl, _, rfl, ?_⟩
    refine ite2 (fun ha => ?_) (fun _ => ⟨rfl, a, l, But.refl t H, z⟩)
    have ha : a < ((cs.map V.int).length : Int) := of_decide_eq_true ha
    rw [List.length_map] at ha
    have hj : a.toNat < cs.length := by have := z.a0; omega
    have ea : a = (a.toNat : Int) := by have := z.a0; omega
    have g1 : (cs.map V.int)[a.toNat]? = some (.int cs[a.toNat]) := by
      rw [List.getElem?_map, List.getElem?_eq_getElem hj] <;> rfl
    refine ⟨_, rfl, t, _, rfl, z.dg g_cells, _, rfl, t, _, rfl, z.dg g_at, c, _, _, _, rfl, rfl, .inl (.inl z.cl), at_of ea g1, _, rfl, t, _, rfl, z.pLeft, ?_⟩
    have z1 := z.sLeft (v := cs[a.toNat]) (z.cp _ (List.getElem_mem hj))
    refine ⟨_, rfl, t, _, rfl, z1.dg g_at, _, _, rfl, rfl, _, rfl, t, _, rfl, z1.pAt, ?_⟩
    exact ⟨rfl, _, _, ((But.refl t H).upd).upd, z1.sAt (by have := z.a0; omega)⟩
  rintro σ H1 ⟨rfl, a, l, bt, z⟩
  -- if tape['left'] > 0
  refine ⟨_, rfl, t, _, rfl, z.dg g_left, _, _, rfl, rfl, _, rfl, ?_⟩
  refine ite2 (fun hl => ?_) (fun _ => ?_)
  · have hl : 0 < l := of_decide_eq_true hl
    refine ⟨_, rfl, t, _, rfl, z.dg g_left, .inl ⟨_, rfl, _, rfl, _, _, rfl, rfl, hn, ?_⟩⟩
    refine ⟨_, rfl, t, _, rfl, z.dg g_left, _, rfl, _, _, rfl, rfl, ⟨hn, hn2⟩, _, rfl, t, _, rfl, z.pLeft, ?_⟩
    refine ⟨_, rfl, ?_⟩
    exact q _ _ (Int.emod_nonneg _ (by omega)) (Int.emod_lt_of_pos _ hn) bt.upd ⟨cs, a, _, se, sa, z.sLeft (Int.ediv_nonneg z.l0 (by omega))⟩
  · refine ⟨_, rfl, t, _, rfl, z.dg g_salt, _, _, rfl, rfl, _, rfl, t, _, rfl, z.pSalt, ?_⟩
    have z1 := z.sSalt (v := sa + 1)
    have b1 : But t H (upd H1 t (.dK (tk c a l se (sa + 1)))) := bt.upd
    generalize upd H1 t (.dK (tk c a l se (sa + 1))) = H2 at z1 b1 ⊢
    refine ⟨_, rfl, t, _, rfl, z1.dg g_seed, _, _, rfl, rfl, .inr ⟨by decide, by decide⟩, _, rfl, t, _, rfl, z1.dg g_salt, _, _, rfl, rfl, .inr ⟨by decide, by decide⟩, _, _, rfl, rfl, .inl ⟨_, rfl, _, _, rfl, rfl, (by show (0 : Int) < 2147483647; decide), ?_⟩⟩
    have hm := Int.emod_lt_of_pos (se * 48271 + (sa + 1) * 69621) (show (0 : Int) < 2147483647 by decide)
    have hm0 := Int.emod_nonneg (se * 48271 + (sa + 1) * 69621) (show (2147483647 : Int) ≠ 0 by decide)
    generalize (se * 48271 + (sa + 1) * 69621) % 2147483647 = mx at hm hm0 ⊢
    refine ⟨_, rfl, _, rfl, _, _, rfl, rfl, .inl ⟨by omega, by omega⟩, _, rfl, t, _, rfl, z1.dg g_salt, _, _, rfl, rfl, .inr ⟨by decide, by decide⟩, _, _, rfl, rfl, _, _, rfl, rfl, .inl ⟨_, rfl, _, _, rfl, rfl, (by show (0 : Int) < 2147483399; decide), ?_⟩⟩
    refine ⟨_, rfl, .inl ⟨_, rfl, _, rfl, _, _, rfl, rfl, hn, ?_⟩⟩
    exact q _ _ (Int.emod_nonneg _ (by omega)) (Int.emod_lt_of_pos _ hn) b1 ⟨cs, a, l, se, _, z1⟩

abbrev s_isInt : Stmt := topS 7
abbrev N_isInt : List Str := ["actual"]
theorem sc_isInt : FnScope N_isInt ["actual"] (defScope s_isInt) := ⟨rfl, rfl, rfl, by decide +kernel, rfl, by decide +kernel, by decide +kernel⟩
theorem ok_isInt (F : Fun K "_law_is_integer" "_law_is_integer" s_isInt f fd) (T : Nm mg) : FnOk P w K mg base CX0 1 f fd ["actual"] spIsInt := by
  refine F.ok sc_isInt (fun vs H Q E h => ?_) (fun cdv A outer s H vs Q E hr h => ?_)
  · obtain ⟨i, rfl, _⟩ := h
    rfl
  obtain ⟨i, rfl, q⟩ := h
  refine ⟨_, (pss_one (ps_ret (pe_and (pe_callB call_isi (by rfl) T.isinstance (by decide +kernel) (pa_cons (pv 0) (pa_cons (pe_bltn (v := .ty "int") (u := .type "int") (by rfl) T.int_ (by decide +kernel) rfl) pa_nil))) (pe_one (pe_not (pe_callB call_isi (by rfl) T.isinstance (by decide +kernel) (pa_cons (pv 0) (pa_cons (pe_bltn (v := .ty "bool") (u := .type "bool") (by rfl) T.bool_ (by decide +kernel) rfl) pa_nil)))))))), ?_⟩
  refine ⟨_, rfl, _, _, _, _, true, rfl, .ty _, .base (.int _), kit_ty (by decide +kernel), _, rfl, ?_⟩
  refine ⟨_, rfl, _, _, _, _, false, rfl, .ty _, .base (.int _), kit_ty (by decide +kernel), _, rfl, q⟩

abbrev s_sameItems : Stmt := topS 8
abbrev N_sameItems : List Str := ["actual", "expected", "k"]
theorem sc_sameItems : FnScope N_sameItems ["actual", "expected"] (defScope s_sameItems) := ⟨rfl, rfl, rfl, by decide +kernel, rfl, by decide +kernel, by decide +kernel⟩
theorem ok_items {n : Nat} (F : Fun K "_law_same_items" "_law_same_items" s_sameItems f fd) (T : Nm mg) (C_law_same : Cal P w K mg base CX0 (2 * n) "_law_same" (spSame n)) : FnOk P w K mg base CX0 (2 * n + 1) f fd ["actual", "expected"] (spItems n) := by
  refine F.ok sc_sameItems (fun vs H Q E h => ?_) (fun cdv A outer s H vs Q E hr h => ?_)
  · obtain ⟨a, b, xs, ys, rfl, _⟩ := h
    rfl
  obtain ⟨a, b, xs, ys, rfl, hs, hl, hm, al, q⟩ := h
  have sa : SqL K H a xs ∨ SqT K H a xs := hs.elim (fun h => .inr (.inl (.inl h.1))) fun h => .inl (.inl (.inl h.1))
  have sb : SqL K H b ys ∨ SqT K H b ys := hs.elim (fun h => .inr (.inl (.inl h.2))) fun h => .inl (.inl (.inl h.2))
  refine ⟨_, (pss_cons (ps_if (pt_cmpR op_ne (pe_callB call_len_seq (by rfl) T.len PySem.boot_len (pa_cons (pv 0) pa_nil)) (pe_callB call_len_seq (by rfl) T.len PySem.boot_len (pa_cons (pv 1) pa_nil)) (nomark _)) (pss_one (ps_ret pe_bl)) pss_nil)
    (pss_cons (ps_for PassesOwn.never rfl (pi_range1 (by rfl) T.range (pa_cons (pe_callB call_len_seq (by rfl) T.len PySem.boot_len (pa_cons (pv 1) pa_nil)) pa_nil)) (pg_name (i := 2) sc_sameItems.nd rfl (Or.inl rfl)) (pss_one (ps_if (pt_not (pt_val (pe_c C_law_same hr (by first | decide | omega) pass0 (pa_cons (pe_ix (r := rIx K) ix_seq (pv 0) (pv 2) (fun _ _ => rfl)) (pa_cons (pe_ix (r := rIx K) ix_seq (pv 1) (pv 2) (fun _ _ => rfl)) pa_nil))))) (pss_one (ps_ret pe_bl)) pss_nil)))
    (pss_one (ps_ret pe_bl)))), ?_⟩
  refine ⟨_, rfl, a, xs, rfl, sa, _, rfl, b, ys, rfl, sb, rfl, _, rfl, ?_⟩
  refine iteNS (by rw [hl]) ?_
  refine ⟨_, rfl, b, ys, rfl, sb, _, rfl, by omega, by omega, for_range (lo := 0) (n := ((ys.length : Nat) : Int).toNat) (fun i σ H' => H' = H ∧ ∃ v, σ = [some (.ref a), some (.ref b), v]) ⟨rfl, none, rfl⟩ ?_ ?_⟩
  · rintro i σ H' hi ⟨rfl, v, rfl⟩
    have hi1 : i < ys.length := by omega
    have hi2 : i < xs.length := by omega
    have ei : ((0 : Int) + (i : Nat)) = ((i : Nat) : Int) := Int.zero_add _
    have g1 := List.getElem?_eq_getElem hi2
    have g2 := List.getElem?_eq_getElem hi1
    refine ⟨_, rfl, _, rfl, ?_⟩
    have r1 : ∀ {Q' : VK}, Q' xs[i] H' → rIx K (.ref a) (.int (0 + (i : Nat))) H' Q' := fun {Q'} h => sa.elim (fun s => .inl ⟨a, xs, _, _, rfl, rfl, s, at_of ei g1, h⟩) fun s => .inr (.inl ⟨a, xs, _, _, rfl, rfl, s, at_of ei g1, h⟩)
    have r2 : ∀ {Q' : VK}, Q' ys[i] H' → rIx K (.ref b) (.int (0 + (i : Nat))) H' Q' := fun {Q'} h => sb.elim (fun s => .inl ⟨b, ys, _, _, rfl, rfl, s, at_of ei g2, h⟩) fun s => .inr (.inl ⟨b, ys, _, _, rfl, rfl, s, at_of ei g2, h⟩)
    refine r1 ⟨_, rfl, _, rfl, r2 ?_⟩
    refine ⟨_, _, rfl, al i _ _ g1 g2, _, rfl, ?_⟩
    exact ⟨rfl, _, rfl⟩
  · rintro σ H' ⟨rfl, v, rfl⟩
    exact q

abbrev s_same : Stmt := topS 9
abbrev N_same : List Str := ["actual", "expected", "key"]
theorem sc_same : FnScope N_same ["actual", "expected"] (defScope s_same) := ⟨rfl, rfl, rfl, by decide +kernel, rfl, by decide +kernel, by decide +kernel⟩
theorem ok_same {n : Nat} (F : Fun K "_law_same" "_law_same" s_same f fd) (T : Nm mg) (C_law_is_integer : Cal P w K mg base CX0 1 "_law_is_integer" spIsInt) (C_law_same_items : Cal P w K mg base CX0 (2 * n + 1) "_law_same_items" (spItems n)) :
    FnOk P w K mg base CX0 (2 * n + 2) f fd ["actual", "expected"] (spSame (n + 1)) := by
  refine F.ok sc_same (fun vs H Q E h => ?_) (fun cdv A outer s H vs Q E hr h => ?_)
  · obtain ⟨x, y, rfl, _⟩ := h
    rfl
  obtain ⟨x, y, rfl, al, q⟩ := h
  refine ⟨_, (pss_cons (ps_if (pt_cmpR op_isN (pv 1) pe_non (nomark _)) (pss_one (ps_ret (pe_cmpR op_isN (pv 0) pe_non (nomark _)))) pss_nil)
    (pss_cons (ps_if (pt_val (pe_callB call_isi (by rfl) T.isinstance (by decide +kernel) (pa_cons (pv 1) (pa_cons (pe_bltn (v := .ty "bool") (u := .type "bool") (by rfl) T.bool_ (by decide +kernel) rfl) pa_nil)))) (pss_one (ps_ret (pe_and (pe_callB call_isi (by rfl) T.isinstance (by decide +kernel) (pa_cons (pv 0) (pa_cons (pe_bltn (v := .ty "bool") (u := .type "bool") (by rfl) T.bool_ (by decide +kernel) rfl) pa_nil))) (pe_one (pe_cmpR op_eq (pv 0) (pv 1) (nomark _)))))) pss_nil)
    (pss_cons (ps_if (pt_val (pe_callB call_isi (by rfl) T.isinstance (by decide +kernel) (pa_cons (pv 1) (pa_cons (pe_bltn (v := .ty "int") (u := .type "int") (by rfl) T.int_ (by decide +kernel) rfl) pa_nil)))) (pss_one (ps_ret (pe_and (pe_c C_law_is_integer hr (by first | decide | omega) pass0 (pa_cons (pv 0) pa_nil)) (pe_one (pe_cmpR op_eq (pv 0) (pv 1) (nomark _)))))) pss_nil)
    (pss_cons (ps_if (pt_val (pe_callB call_isi (by rfl) T.isinstance (by decide +kernel) (pa_cons (pv 1) (pa_cons (pe_bltn (v := .ty "str") (u := .type "str") (by rfl) T.str_ (by decide +kernel) rfl) pa_nil)))) (pss_one (ps_ret (pe_and (pe_callB call_isi (by rfl) T.isinstance (by decide +kernel) (pa_cons (pv 0) (pa_cons (pe_bltn (v := .ty "str") (u := .type "str") (by rfl) T.str_ (by decide +kernel) rfl) pa_nil))) (pe_one (pe_cmpR op_eq (pv 0) (pv 1) (nomark _)))))) pss_nil)
    (pss_cons (ps_if (pt_val (pe_callB call_isi (by rfl) T.isinstance (by decide +kernel) (pa_cons (pv 1) (pa_cons (pe_bltn (v := .ty "tuple") (u := .type "tuple") (by rfl) T.tuple_ (by decide +kernel) rfl) pa_nil)))) (pss_one (ps_ret (pe_and (pe_callB call_isi (by rfl) T.isinstance (by decide +kernel) (pa_cons (pv 0) (pa_cons (pe_bltn (v := .ty "tuple") (u := .type "tuple") (by rfl) T.tuple_ (by decide +kernel) rfl) pa_nil))) (pe_one (pe_c C_law_same_items hr (by first | decide | omega) pass0 (pa_cons (pv 0) (pa_cons (pv 1) pa_nil))))))) pss_nil)
    (pss_cons (ps_if (pt_val (pe_callB call_isi (by rfl) T.isinstance (by decide +kernel) (pa_cons (pv 1) (pa_cons (pe_bltn (v := .ty "list") (u := .type "list") (by rfl) T.list_ (by decide +kernel) rfl) pa_nil)))) (pss_one (ps_ret (pe_and (pe_callB call_isi (by rfl) T.isinstance (by decide +kernel) (pa_cons (pv 0) (pa_cons (pe_bltn (v := .ty "list") (u := .type "list") (by rfl) T.list_ (by decide +kernel) rfl) pa_nil))) (pe_one (pe_c C_law_same_items hr (by first | decide | omega) pass0 (pa_cons (pv 0) (pa_cons (pv 1) pa_nil))))))) pss_nil)
    (pss_cons ps_never
    (pss_cons ps_never
    (pss_cons ps_never
    (pss_one ps_never)))))))))), ?_⟩
  rcases al with ⟨rfl, hx⟩ | ⟨a, b, xs, ys, rfl, rfl, ha, hb, hl, hm, al⟩ | ⟨a, b, xs, ys, rfl, rfl, ha, hb, hl, hm, al⟩
  · cases x with
    | non => exact ⟨_, rfl, rfl, _, rfl, iteP rfl ⟨_, rfl, rfl, qP rfl q⟩⟩
    | bl k =>
      refine ⟨_, rfl, rfl, _, rfl, iteN (fun z => nomatch z) ?_⟩
      refine ⟨_, rfl, _, _, _, _, true, rfl, .ty _, .base (.bl _), kit_ty (by decide +kernel), _, rfl, ?_⟩
      refine ⟨_, rfl, _, _, _, _, true, rfl, .ty _, .base (.bl _), kit_ty (by decide +kernel), _, rfl, ?_⟩
      exact ⟨_, rfl, _, rfl, rfl, qP rfl q⟩
    | int i =>
      refine ⟨_, rfl, rfl, _, rfl, iteN (fun z => nomatch z) ?_⟩
      refine ⟨_, rfl, _, _, _, _, false, rfl, .ty _, .base (.int _), kit_ty (by decide +kernel), _, rfl, ?_⟩
      refine ⟨_, rfl, _, _, _, _, true, rfl, .ty _, .base (.int _), kit_ty (by decide +kernel), _, rfl, ?_⟩
      refine ⟨_, rfl, i, rfl, _, rfl, ?_⟩
      exact ⟨_, rfl, _, rfl, rfl, qP rfl q⟩
    | str z =>
      refine ⟨_, rfl, rfl, _, rfl, iteN (fun z => nomatch z) ?_⟩
      refine ⟨_, rfl, _, _, _, _, false, rfl, .ty _, .base (.str _), kit_ty (by decide +kernel), _, rfl, ?_⟩
      refine ⟨_, rfl, _, _, _, _, false, rfl, .ty _, .base (.str _), kit_ty (by decide +kernel), _, rfl, ?_⟩
      refine ⟨_, rfl, _, _, _, _, true, rfl, .ty _, .base (.str _), kit_ty (by decide +kernel), _, rfl, ?_⟩
      refine ⟨_, rfl, _, _, _, _, true, rfl, .ty _, .base (.str _), kit_ty (by decide +kernel), _, rfl, ?_⟩
      exact ⟨_, rfl, _, rfl, rfl, qP rfl q⟩
    | byt z => cases hx
    | flt z => cases hx
    | ref z => cases hx
    | ty z => cases hx
  · refine ⟨_, rfl, rfl, _, rfl, iteN (fun z => nomatch z) ?_⟩
    refine ⟨_, rfl, _, _, _, _, false, rfl, .ty _, .base (.tup hb), kit_ty (by decide +kernel), _, rfl, ?_⟩
    refine ⟨_, rfl, _, _, _, _, false, rfl, .ty _, .base (.tup hb), kit_ty (by decide +kernel), _, rfl, ?_⟩
    refine ⟨_, rfl, _, _, _, _, false, rfl, .ty _, .base (.tup hb), kit_ty (by decide +kernel), _, rfl, ?_⟩
    refine ⟨_, rfl, _, _, _, _, true, rfl, .ty _, .base (.tup hb), kit_ty (by decide +kernel), _, rfl, ?_⟩
    refine ⟨_, rfl, _, _, _, _, true, rfl, .ty _, .base (.tup ha), kit_ty (by decide +kernel), _, rfl, ?_⟩
    exact ⟨_, rfl, _, rfl, a, b, xs, ys, rfl, .inl ⟨ha, hb⟩, hl, hm, al, q⟩
  · refine ⟨_, rfl, rfl, _, rfl, iteN (fun z => nomatch z) ?_⟩
    refine ⟨_, rfl, _, _, _, _, false, rfl, .ty _, .base (.lst hb), kit_ty (by decide +kernel), _, rfl, ?_⟩
    refine ⟨_, rfl, _, _, _, _, false, rfl, .ty _, .base (.lst hb), kit_ty (by decide +kernel), _, rfl, ?_⟩
    refine ⟨_, rfl, _, _, _, _, false, rfl, .ty _, .base (.lst hb), kit_ty (by decide +kernel), _, rfl, ?_⟩
    refine ⟨_, rfl, _, _, _, _, false, rfl, .ty _, .base (.lst hb), kit_ty (by decide +kernel), _, rfl, ?_⟩
    refine ⟨_, rfl, _, _, _, _, true, rfl, .ty _, .base (.lst hb), kit_ty (by decide +kernel), _, rfl, ?_⟩
    refine ⟨_, rfl, _, _, _, _, true, rfl, .ty _, .base (.lst ha), kit_ty (by decide +kernel), _, rfl, ?_⟩
    exact ⟨_, rfl, _, rfl, a, b, xs, ys, rfl, .inr ⟨ha, hb⟩, hl, hm, al, q⟩
theorem no_same0 : ∀ vs H Q E, ¬ spSame 0 vs H Q E := fun vs H Q E h => by
  obtain ⟨x, y, _, al, _⟩ := h
  exact al
/-- both, as deep as one likes -/
theorem both {f g : Addr} {fd gd : FuncData} (FS : Fun K "_law_same" "_law_same" s_same f fd) (bS : Binds K fd ["actual", "expected"] []) (mS : mg "_law_same" = some (.ref f)) (FI : Fun K "_law_same_items" "_law_same_items" s_sameItems g gd) (bI : Binds K gd ["actual", "expected"] []) (mI : mg "_law_same_items" = some (.ref g))
    (T : Nm mg) (C_law_is_integer : Cal P w K mg base CX0 1 "_law_is_integer" spIsInt) : ∀ n, Cal P w K mg base CX0 (2 * n) "_law_same" (spSame n)
  | 0 => ⟨f, fd, _, none_left no_same0, mS, FS.kp, bS⟩
  | n + 1 => ⟨f, fd, _, ok_same FS T C_law_is_integer ⟨g, gd, _, ok_items FI T (both FS bS mS FI bI mI T C_law_is_integer n), mI, FI.kp, bI⟩, mS, FS.kp, bS⟩

abbrev s_snippet : Stmt := topS 10
abbrev N_snippet : List Str := ["tape", "pieces", "k"]
theorem sc_snippet : FnScope N_snippet ["tape"] (defScope s_snippet) := ⟨rfl, rfl, rfl, by decide +kernel, rfl, by decide +kernel, by decide +kernel⟩
def pcs_snippet_1 : List Str := ["def ", "data ", "f", "x", "(", ")", ": Int", " = ", "1", " + ", "\n", "\n ", "#", " let x = ", " in ", ","]
def pcs_snippet_2 : List Str := ["\x69mport ", "a", "trait ", "impl ", " for ", "Bool", "if ", " then ", " else ", ".", "==", "[", "]", " "]
theorem pcs_ok : ((pcs_snippet_1 ++ pcs_snippet_2).all fun z => okT z && decide (z.length ≤ 9)) = true := by decide +kernel
theorem pcs_len : (pcs_snippet_1 ++ pcs_snippet_2).length = 30 := by decide +kernel
theorem ok_snippet (F : Fun K "_law_snippet" "_law_snippet" s_snippet f fd) (T : Nm mg) (C_law_take : Cal P w K mg base CX0 1 "_law_take" spTake) : FnOk P w K mg base CX0 2 f fd ["tape"] spSnippet := by
  refine F.ok sc_snippet (fun vs H Q E h => ?_) (fun cdv A outer s H vs Q E hr h => ?_)
  · obtain ⟨t, c, rfl, _⟩ := h
    rfl
  obtain ⟨t, c, rfl, z, q⟩ := h
  refine ⟨_, (pss_cons (ps_set (i := 1) sc_snippet.nd rfl (Or.inr rfl) (pe_lst (pa_strs pcs_snippet_1)))
    (pss_cons (ps_set (i := 1) sc_snippet.nd rfl (Or.inr rfl) (pe_op op_cat (pv 1) (pe_lst (pa_strs pcs_snippet_2))))
    (pss_one (ps_ret (pe_join pe_str (pe_lc (own := [(("k" : Str), 2)]) (g := (gName 2)) (tt := tYes) rfl sc_snippet.nd (pi_range1 (by rfl) T.range (pa_cons (pe_c C_law_take hr (by first | decide | omega) pass0 (pa_cons (pv 0) (pa_cons pe_int pa_nil))) pa_nil)) (blkOk_by (N := N_snippet) (sc := defScope s_snippet) (by decide +kernel)) (fun _ _ _ _ _ => (pg_name (i := 2) sc_snippet.nd rfl (Or.inl rfl))) (fun _ _ _ _ _ => pts_nil) (fun _ _ _ _ _ => (pe_ix (r := rIxL K) ix_list (pv 1) (pe_c C_law_take hr (by first | decide | omega) pass0 (pa_cons (pv 0) (pa_cons pe_int pa_nil))) (fun _ _ => rfl))))))))), ?_⟩
  refine ⟨(by show 16 ≤ sizeLine; decide), fun l1 n1 => ?_⟩
  refine ⟨_, rfl, (by show 14 ≤ sizeLine; decide), fun l2 n2 => ?_⟩
  have e1 : upd (upd H l1 (.lst (pcs_snippet_1.map V.str))) l2 (.lst (pcs_snippet_2.map V.str)) l1 = some (.lst (pcs_snippet_1.map V.str)) := by
    rw [upd_ne (ne_of_none upd_same n2), upd_same]
  refine ⟨l1, l2, _, _, rfl, rfl, e1, upd_same, (by show 30 ≤ sizeLine; decide), fun p np => ?_⟩
  have b1 : Same H (upd (upd (upd H l1 (.lst (pcs_snippet_1.map V.str))) l2 (.lst (pcs_snippet_2.map V.str))) p (.lst (pcs_snippet_1.map V.str ++ pcs_snippet_2.map V.str))) := ((same_new n1).trans (same_new n2)).trans (same_new np)
  have hp : upd (upd (upd H l1 (.lst (pcs_snippet_1.map V.str))) l2 (.lst (pcs_snippet_2.map V.str))) p (.lst (pcs_snippet_1.map V.str ++ pcs_snippet_2.map V.str)) p = some (.lst ((pcs_snippet_1 ++ pcs_snippet_2).map V.str)) := by
    rw [upd_same, List.map_append]
  generalize upd (upd (upd H l1 (.lst (pcs_snippet_1.map V.str))) l2 (.lst (pcs_snippet_2.map V.str))) p (.lst (pcs_snippet_1.map V.str ++ pcs_snippet_2.map V.str)) = H1 at b1 hp ⊢
  have z1 : Tp H1 t c := z.same b1
  refine ⟨⟨_, rfl⟩, _, rfl, t, c, 6, rfl, z1, by decide, by decide, fun r H2 h0 h6 b2 z2 => ⟨r, rfl, by omega, by omega, fun D hD => ?_⟩⟩
  have pt : p ≠ t := z1.ne hp (fun _ q => nomatch q)
  have hp2 := b2 _ _ pt hp
  refine lc_range (lo := 0) (n := r.toNat) (fun i H' => But t H H' ∧ Tp H' t c ∧ H' p = some (.lst ((pcs_snippet_1 ++ pcs_snippet_2).map V.str)) ∧ ∃ zs : List Str, H' D = some (.lst (zs.map V.str)) ∧ zs.length = i ∧ ∀ y ∈ zs, OkT y ∧ y.length ≤ 9)
    ⟨((But.of b1).trans b2).trans (.of (same_new hD)), z2.new hD, by rw [upd_ne (ne_of_none hp2 hD)]; exact hp2, [], upd_same, rfl, fun _ h => nomatch h⟩ ?_ ?_
  · rintro i H' hi ⟨b3, z3, hp3, zs, hd, hl, hz⟩
    refine ⟨rfl, ?_⟩
    refine ⟨_, rfl, _, rfl, t, c, 30, rfl, z3, by decide, by decide, fun r2 H4 g0 g1 b4 z4 => ?_⟩
    have hp4 := b4 _ _ pt hp3
    have hd4 := b4 _ _ (z3.ne hd (fun _ q => nomatch q)) hd
    have hj : r2.toNat < (pcs_snippet_1 ++ pcs_snippet_2).length := by rw [pcs_len]; omega
    have g : ((pcs_snippet_1 ++ pcs_snippet_2).map V.str)[r2.toNat]? = some (.str (pcs_snippet_1 ++ pcs_snippet_2)[r2.toNat]) := by
      rw [List.getElem?_map, List.getElem?_eq_getElem hj] <;> rfl
    have dt : D ≠ t := z4.ne hd4 (fun _ q => nomatch q)
    have dp : p ≠ D := ne_of_none hp2 hD
    have dc : c ≠ D := z2.nc hD
    refine ⟨p, _, r2, _, rfl, rfl, .inl (.inl hp4), at_of (by omega) g, zs.map V.str, hd4, ?_, ?_⟩
    · rw [List.length_map]; exact Nat.lt_of_lt_of_le (show zs.length < 1000 by omega) (by decide)
    · refine ⟨fun b o nb e => ?_, z4.upd dt.symm dc, by rw [upd_ne dp]; exact hp4, zs ++ [(pcs_snippet_1 ++ pcs_snippet_2)[r2.toNat]], ?_, by simp [hl], fun y hy => ?_⟩
      · have nD : b ≠ D := fun e2 => by
          rw [e2] at e
          have e3 := b2 _ _ dt (b1 _ _ e)
          rw [hD] at e3
          cases e3
        rw [upd_ne nD]
        exact b4 _ _ nb (b3 _ _ nb e)
      · rw [upd_same, List.map_append] <;> rfl
      · rcases List.mem_append.mp hy with hy | hy
        · exact hz y hy
        · rw [List.mem_singleton.mp hy]
          have k := List.all_eq_true.mp pcs_ok _ (List.getElem_mem hj)
          rw [Bool.and_eq_true, decide_eq_true_eq] at k
          exact ⟨OkT.of k.1, k.2⟩
  · rintro H' ⟨b3, z3, hp3, zs, hd, hl, hz⟩
    have sl := sum_len_le (n := 9) fun y hy => (hz y hy).2
    refine ⟨_, D, zs, rfl, rfl, .inl (.inl (.inl hd)), ?_, ?_⟩
    · show (zs.map (·.length)).sum + zs.length * 0 ≤ 16777216
      omega
    · exact q _ _ (OkT.join rfl fun y hy => (hz y hy).1) (by rw [join_len _ rfl]; omega) b3 z3

abbrev s_char : Stmt := topS 11
abbrev N_char : List Str := ["tape", "chars"]
theorem sc_char : FnScope N_char ["tape"] (defScope s_char) := ⟨rfl, rfl, rfl, by decide +kernel, rfl, by decide +kernel, by decide +kernel⟩
def chs : Str := (" !\"#$&'()*+,-./0123456789:;<=>?@ABCDEFGHIJKLMNOPQRSTUVWXYZ[\\]^" : Str) ++ ("_`abcdefghijklmnopqrstuvwxyz{|}~\n" : Str)
theorem chs_ok : okT chs = true := by decide +kernel
theorem chs_len : chs.length = 95 := by decide +kernel
theorem ok_char (F : Fun K "_law_char" "_law_char" s_char f fd) (T : Nm mg) (C_law_take : Cal P w K mg base CX0 1 "_law_take" spTake) : FnOk P w K mg base CX0 2 f fd ["tape"] spChar := by
  refine F.ok sc_char (fun vs H Q E h => ?_) (fun cdv A outer s H vs Q E hr h => ?_)
  · obtain ⟨t, c, rfl, _⟩ := h
    rfl
  obtain ⟨t, c, rfl, z, q⟩ := h
  refine ⟨_, (pss_cons (ps_set (i := 1) sc_char.nd rfl (Or.inl rfl) pe_str)
    (pss_cons (ps_set (i := 1) sc_char.nd rfl (Or.inl rfl) (pe_op op_add_str (pv 1) pe_str))
    (pss_one (ps_ret (pe_item_str (pv 1) (pe_c C_law_take hr (by first | decide | omega) pass0 (pa_cons (pv 0) (pa_cons pe_int pa_nil))) (fun _ _ => rfl)))))), ?_⟩
  refine ⟨_, rfl, _, _, rfl, rfl, (by decide +kernel), ?_⟩
  refine ⟨_, rfl, _, rfl, t, c, 95, rfl, z, by decide, by decide, fun r H1 h0 h1 b1 z1 => ?_⟩
  have hj : r.toNat < chs.cps.toList.length := by
    rw [← TL.len_tl chs, chs_len]
    omega
  have ha : r.toNat < chs.cps.size := by
    rw [Array.length_toList] at hj
    exact hj
  have g : chs.cps[r.toNat]? = some (chs.cps[r.toNat]) := Array.getElem?_eq_getElem ha
  refine ⟨chs, r, _, rfl, rfl, h0, by omega, (by rw [chs_len]; omega), g, ?_⟩
  refine q _ _ (fun y hy => ?_) rfl b1 z1
  have hy : y ∈ [chs.cps[r.toNat]] := hy
  rw [List.mem_singleton.mp hy]
  exact List.all_eq_true.mp chs_ok _ (by simp)

abbrev s_anyText : Stmt := topS 12
abbrev N_anyText : List Str := ["tape", "most", "parts", "k"]
theorem sc_anyText : FnScope N_anyText ["tape", "most"] (defScope s_anyText) := ⟨rfl, rfl, rfl, by decide +kernel, rfl, by decide +kernel, by decide +kernel⟩
theorem ok_any (F : Fun K "_law_any_text" "_law_any_text" s_anyText f fd) (T : Nm mg) (C_law_take : Cal P w K mg base CX0 1 "_law_take" spTake) (C_law_char : Cal P w K mg base CX0 2 "_law_char" spChar) (C_law_snippet : Cal P w K mg base CX0 2 "_law_snippet" spSnippet) :
    FnOk P w K mg base CX0 3 f fd ["tape", "most"] spAny := by
  refine F.ok sc_anyText (fun vs H Q E h => ?_) (fun cdv A outer s H vs Q E hr h => ?_)
  · obtain ⟨t, c, m, rfl, _⟩ := h
    rfl
  obtain ⟨t, c, m, rfl, z, hm, q⟩ := h
  refine ⟨_, (pss_cons (ps_set (i := 2) sc_anyText.nd rfl (Or.inl rfl) (pe_lst pa_nil))
    (pss_cons (ps_for PassesOwn.never rfl (pi_range1 (by rfl) T.range (pa_cons (pe_c C_law_take hr (by first | decide | omega) pass0 (pa_cons (pv 0) (pa_cons (pe_op op_add (pv 1) pe_int) pa_nil))) pa_nil)) (pg_name (i := 3) sc_anyText.nd rfl (Or.inl rfl)) (pss_one (ps_if (pt_cmpR op_eq (pe_c C_law_take hr (by first | decide | omega) pass0 (pa_cons (pv 0) (pa_cons pe_int pa_nil))) pe_int (nomark _)) (pss_one (ps_expr (pe_bm PySem.F.plainAttrs_list PySem.F.slot_list_append PySem.F.type_list_append mt_append (pv 2) (pa_cons (pe_c C_law_char hr (by first | decide | omega) pass0 (pa_cons (pv 0) pa_nil)) pa_nil)))) (pss_one (ps_expr (pe_bm PySem.F.plainAttrs_list PySem.F.slot_list_append PySem.F.type_list_append mt_append (pv 2) (pa_cons (pe_c C_law_snippet hr (by first | decide | omega) pass0 (pa_cons (pv 0) pa_nil)) pa_nil)))))))
    (pss_one (ps_ret (pe_join pe_str (pv 2)))))), ?_⟩
  refine ⟨Nat.zero_le _, fun L nL => ?_⟩
  have z1 : Tp (upd H L (.lst [])) t c := z.new nL
  have Lt : L ≠ t := (z.nt nL).symm
  have Lc : L ≠ c := (z.nc nL).symm
  refine ⟨_, rfl, _, rfl, _, _, rfl, rfl, t, c, _, rfl, z1, by omega, by omega, fun r H1 h0 h1 b1 z2 => ⟨r, rfl, by omega, by omega, ?_⟩⟩
  refine for_range (lo := 0) (n := r.toNat) (fun i σ H' => ∃ (v : Option V) (zs : List Str), σ = [some (.ref t), some (.int m), some (.ref L), v] ∧ But t H H' ∧ Tp H' t c ∧ H' L = some (.lst (zs.map V.str)) ∧ zs.length = i ∧ ∀ y ∈ zs, OkT y ∧ y.length ≤ 45)
    ⟨none, [], rfl, (But.of (same_new nL)).trans b1, z2, b1 _ _ Lt upd_same, rfl, fun _ h => nomatch h⟩ ?_ ?_
  · rintro i σ H' hi ⟨v, zs, rfl, b2, z3, hL, hl, hz⟩
    have go : ∀ (y : Str) (H4 : Hp), OkT y → y.length ≤ 45 → But t H' H4 → Tp H4 t c → ∃ (l : Addr) (xs : List V) (u : V), V.ref L = .ref l ∧ [V.str y] = [u] ∧ H4 l = some (.lst xs) ∧ xs.length < sizeLine ∧
        ∃ (v : Option V) (zs : List Str), [some (V.ref t), some (.int m), some (.ref L), some (.int (0 + (i : Nat)))] = [some (.ref t), some (.int m), some (.ref L), v] ∧ But t H (upd H4 l (.lst (xs ++ [u]))) ∧ Tp (upd H4 l (.lst (xs ++ [u]))) t c ∧ upd H4 l (.lst (xs ++ [u])) L = some (.lst (zs.map V.str)) ∧ zs.length = i + 1 ∧ ∀ y ∈ zs, OkT y ∧ y.length ≤ 45 := by
      intro y H4 oy ly b4 z4
      refine ⟨L, _, _, rfl, rfl, b4 _ _ Lt hL, ?_, _, zs ++ [y], rfl, fun b o nb e => ?_, z4.upd Lt.symm Lc.symm, ?_, by simp [hl], fun x hx => ?_⟩
      · rw [List.length_map]; exact Nat.lt_of_lt_of_le (show zs.length < 1000 by omega) (by decide)
      · rw [upd_ne (ne_of_none e nL)]
        exact b4 _ _ nb (b2 _ _ nb e)
      · rw [upd_same, List.map_append] <;> rfl
      · rcases List.mem_append.mp hx with hx | hx
        · exact hz x hx
        · rw [List.mem_singleton.mp hx]
          exact ⟨oy, ly⟩
    refine ⟨_, rfl, t, c, 3, rfl, z3, by decide, by decide, fun r2 H3 g0 g1 b3 z4 => ⟨rfl, _, rfl, ?_⟩⟩
    have hL3 := b3 _ _ Lt hL
    refine ite2 (fun _ => ?_) (fun _ => ?_)
    · refine ⟨_, rfl, .inl ⟨rfl, _, SqL.of hL3⟩, _, rfl, t, c, rfl, z4, fun y H4 oy ly b4 z5 => ?_⟩
      exact go y H4 oy (by omega) (b3.trans b4) z5
    · refine ⟨_, rfl, .inl ⟨rfl, _, SqL.of hL3⟩, _, rfl, t, c, rfl, z4, fun y H4 oy ly b4 z5 => ?_⟩
      exact go y H4 oy ly (b3.trans b4) z5
  · rintro σ H' ⟨v, zs, rfl, b2, z3, hL, hl, hz⟩
    have sl := sum_len_le (n := 45) fun y hy => (hz y hy).2
    have zl : zs.length ≤ m := by omega
    have zm : 45 * zs.length ≤ 45 * m := Nat.mul_le_mul_left _ zl
    refine ⟨⟨_, rfl⟩, _, rfl, _, L, zs, rfl, rfl, .inl (.inl (.inl hL)), ?_, ?_⟩
    · show (zs.map (·.length)).sum + zs.length * 0 ≤ 16777216
      omega
    · exact q _ _ (OkT.join rfl fun y hy => (hz y hy).1) (by rw [join_len _ rfl]; omega) b2 z3
end

end Sn

namespace Sn
open PySem PySem.Spec PyProof.Rows L2 TL
/-! ### the program's functions -/
abbrev NL : Str := ("\n" : Str)
theorem nl_eq : NL = ⟨#[10]⟩ := by decide +kernel
/-- the newline's code -/
abbrev nl : Nat := 10
/-- the lines of a text -/
def rws (z : Str) : List (List Nat) := rows 10 [] (tl z)
structure Nm4 (mg : Str → Option Value) : Prop extends Nm mg where
  min : mg "min" = none
  sum : mg "sum" = none
def spLineStart : Sp := fun vs H Q _ => ∃ (z : Str) (o : Nat), vs = [.str z, .int (o : Int)] ∧ o ≤ (tl z).length ∧ ∀ b : Nat, b ≤ o → o - b = colF 10 0 ((tl z).take o) → Q (.int (b : Int)) H
def spLineColumn : Sp := fun vs H Q _ => ∃ (z : Str) (o : Nat), vs = [.str z, .int (o : Int)] ∧ o ≤ (tl z).length ∧ ∀ p, H p = none → Q (.ref p) (upd H p (.tup [.int ((((tl z).take o).count 10 : Nat) : Int), .int ((colF 10 0 ((tl z).take o) : Nat) : Int)]))
def spOffsetAt : Sp := fun vs H Q _ => ∃ (z : Str) (l c : Nat), vs = [.str z, .int (l : Int), .int (c : Int)] ∧ z.length ≤ 1000 ∧ ∀ (row : List Nat) H', Same H H' → (rws z)[min l ((rws z).length - 1)]? = some row →
  Q (.int ((lens ((rws z).take (min l ((rws z).length - 1))) + min c row.length : Nat) : Int)) H'
section
variable {P : Program} {w : World} {K : PySem.W.Frag} {mg : Str → Option Value} {base : Heap} {f : Addr} {fd : FuncData}
abbrev s_line_start : Stmt := topS 1
abbrev N_line_start : List Str := ["text", "offset"]
theorem sc_line_start : FnScope N_line_start ["text", "offset"] (defScope s_line_start) := ⟨rfl, rfl, rfl, by decide +kernel, rfl, by decide +kernel, by decide +kernel⟩
theorem ok_line_start (F : Fun K "line_start" "line_start" s_line_start f fd) (T : Nm4 mg) : FnOk P w K mg base CX0 1 f fd ["text", "offset"] spLineStart := by
  refine F.ok sc_line_start (fun vs H Q E h => ?_) (fun cdv A outer s H vs Q E hr h => ?_)
  · obtain ⟨z, o, rfl, _⟩ := h
    rfl
  obtain ⟨z, o, rfl, ho, q⟩ := h
  refine ⟨_, (pss_one (ps_ret (pe_op op_add (pe_bm PySem.F.plainAttrs_str PySem.F.slot_str_rfind PySem.F.type_str_rfind mt_rfind4 (pv 0) (pa_cons pe_str (pa_cons pe_int (pa_cons (pv 1) pa_nil)))) pe_int))), ?_⟩
  refine ⟨_, rfl, rfl, _, rfl, z, NL, 0, (o : Int), rfl, rfl, ?_⟩
  obtain ⟨b, e1, e2, e3⟩ := rfind_col z 10 o ho
  refine ⟨_, _, rfl, rfl, ?_⟩
  dsimp only
  rw [nl_eq, e1]
  exact q b e2 e3

abbrev s_line_column : Stmt := topS 2
abbrev N_line_column : List Str := ["text", "offset"]
theorem sc_line_column : FnScope N_line_column ["text", "offset"] (defScope s_line_column) := ⟨rfl, rfl, rfl, by decide +kernel, rfl, by decide +kernel, by decide +kernel⟩
theorem ok_line_column (F : Fun K "line_column" "line_column" s_line_column f fd) (T : Nm4 mg) (C_line_start : Cal P w K mg base CX0 1 "line_start" spLineStart) : FnOk P w K mg base CX0 2 f fd ["text", "offset"] spLineColumn := by
  refine F.ok sc_line_column (fun vs H Q E h => ?_) (fun cdv A outer s H vs Q E hr h => ?_)
  · obtain ⟨z, o, rfl, _⟩ := h
    rfl
  obtain ⟨z, o, rfl, ho, q⟩ := h
  refine ⟨_, (pss_one (ps_ret (pe_tup (pa_cons (pe_bm PySem.F.plainAttrs_str PySem.F.slot_str_count PySem.F.type_str_count mt_count4 (pv 0) (pa_cons pe_str (pa_cons pe_int (pa_cons (pv 1) pa_nil)))) (pa_cons (pe_op op_sub (pv 1) (pe_c C_line_start hr (by first | decide | omega) pass0 (pa_cons (pv 0) (pa_cons (pv 1) pa_nil)))) pa_nil))))), ?_⟩
  refine ⟨_, rfl, rfl, _, rfl, z, NL, 0, (o : Int), rfl, rfl, ?_⟩
  refine ⟨_, rfl, _, rfl, _, rfl, z, o, rfl, ho, fun b e2 e3 => ?_⟩
  refine ⟨_, _, rfl, rfl, (by show 2 ≤ sizeLine; decide), fun p np => ?_⟩
  dsimp only
  rw [nl_eq, count_in z 10 o ho, show (o : Int) - (b : Int) = ((colF 10 0 ((tl z).take o) : Nat) : Int) by rw [← e3]; omega]
  exact q p np

theorem min_nat (a b : Nat) : (if (b : Int) < (a : Int) then (b : Int) else (a : Int)) = ((min a b : Nat) : Int) := by
  split <;> omega
theorem split_len (z : Str) : (Txt.split z NL).length = (rws z).length := by
  have k := congrArg List.length (split_rows z 10 (by decide))
  rw [List.length_map] at k
  rw [nl_eq]
  exact k
theorem split_at {z x : Str} {i : Nat} (h : (Txt.split z NL)[i]? = some x) : (rws z)[i]? = some (tl x) := by
  have k := split_rows z 10 (by decide)
  rw [nl_eq] at h
  unfold rws
  rw [← k, List.getElem?_map, h] <;> rfl
theorem rws_pos (z : Str) : 0 < (rws z).length := by
  unfold rws
  rw [rows_len]
  omega
theorem rws_le (z : Str) : (rws z).length ≤ (tl z).length + 1 := by
  unfold rws
  rw [rows_len]
  have := List.count_le_length (a := 10) (l := tl z)
  omega
theorem cutV_to (xs : List V) (o : Nat) : cutV xs none (some (o : Int)) = xs.take o := by
  unfold cutV
  rw [HT.sIx_none, HT.sIx_nat, List.drop_zero, Nat.sub_zero, List.take_eq_take_iff]
  omega
theorem row_le {z x : Str} {i : Nat} (h : (Txt.split z NL)[i]? = some x) : x.length ≤ (tl z).length := by
  have k := split_at h
  have : ∀ (l acc : List Nat) (i : Nat) (r : List Nat), (rows 10 acc l)[i]? = some r → r.length ≤ acc.length + l.length := by
    intro l
    induction l with
    | nil =>
      intro acc i r h
      cases i with
      | zero => rw [← Option.some.inj (show some acc = some r from h)]; exact Nat.le_add_right ..
      | succ i => cases h
    | cons d l ih =>
      intro acc i r h
      have h : (if d = 10 then acc :: rows 10 [] l else rows 10 (acc ++ [d]) l)[i]? = some r := h
      rw [List.length_cons]
      split at h
      · cases i with
        | zero => rw [← Option.some.inj (show some acc = some r from h)]; omega
        | succ i =>
          have z := ih [] i r h
          simp only [List.length_nil] at z
          omega
      · have z := ih _ i r h
        rw [List.length_append, List.length_singleton] at z
        omega
  have k2 := this _ _ _ _ k
  rw [len_tl x]
  simpa using k2
theorem sum_lens : ∀ l : List Str, (l.map fun x : Str => ((x.length : Nat) : Int) + 1).sum = ((lens (l.map tl) : Nat) : Int)
  | [] => rfl
  | x :: r => by
    rw [List.map_cons, List.sum_cons, sum_lens r, len_tl x]
    show _ = (((tl x).length + 1 + lens (r.map tl) : Nat) : Int)
    omega

abbrev s_offset_at : Stmt := topS 3
abbrev N_offset_at : List Str := ["text", "line", "column", "lines", "before", "start", "row"]
theorem sc_offset_at : FnScope N_offset_at ["text", "line", "column"] (defScope s_offset_at) := ⟨rfl, rfl, rfl, by decide +kernel, rfl, by decide +kernel, by decide +kernel⟩
theorem ok_offset_at (F : Fun K "offset_at" "offset_at" s_offset_at f fd) (T : Nm4 mg) : FnOk P w K mg base CX0 1 f fd ["text", "line", "column"] spOffsetAt := by
  refine F.ok sc_offset_at (fun vs H Q E h => ?_) (fun cdv A outer s H vs Q E hr h => ?_)
  · obtain ⟨z, l, c, rfl, _⟩ := h
    rfl
  obtain ⟨z, l, c, rfl, hz, q⟩ := h
  refine ⟨_, (pss_cons (ps_set (i := 3) sc_offset_at.nd rfl (Or.inl rfl) (pe_split (pv 0) pe_str))
    (pss_cons (ps_set (i := 4) sc_offset_at.nd rfl (Or.inl rfl) (pe_slice sl_list (pv 3) po_none (po_some (pe_callB (call_min2 rfl) (by rfl) T.min (by decide +kernel) (pa_cons (pv 1) (pa_cons (pe_op op_sub (pe_callB call_len_seq (by rfl) T.len PySem.boot_len (pa_cons (pv 3) pa_nil)) pe_int) pa_nil))))))
    (pss_cons (ps_set (i := 5) sc_offset_at.nd rfl (Or.inl rfl) (pe_callB (cr_sum rfl) (by rfl) T.sum (by decide +kernel) (pa_cons (pe_lc (own := [(("row" : Str), 6)]) (g := (gName 6)) (tt := tYes) rfl sc_offset_at.nd (pi_list (pv 4)) (blkOk_by (N := N_offset_at) (sc := defScope s_offset_at) (by decide +kernel)) (fun _ _ _ _ _ => (pg_name (i := 6) sc_offset_at.nd rfl (Or.inl rfl))) (fun _ _ _ _ _ => pts_nil) (fun _ _ _ _ _ => (pe_op op_add (pe_callB call_len_str (by rfl) T.len PySem.boot_len (pa_cons (pv 6) pa_nil)) pe_int))) pa_nil)))
    (pss_one (ps_ret (pe_op op_add (pv 5) (pe_callB (call_min2 rfl) (by rfl) T.min (by decide +kernel) (pa_cons (pv 2) (pa_cons (pe_callB call_len_str (by rfl) T.len PySem.boot_len (pa_cons (pe_ix (r := rIxL K) ix_list (pv 3) (pe_callB call_len_seq (by rfl) T.len PySem.boot_len (pa_cons (pv 4) pa_nil)) (fun _ _ => rfl)) pa_nil)) pa_nil))))))))), ?_⟩
  have hl := split_len z
  have hp := rws_pos z
  have hle := rws_le z
  have hz' : (tl z).length ≤ 1000 := by rw [← len_tl]; exact hz
  -- lines
  refine ⟨_, rfl, ⟨_, rfl⟩, z, NL, rfl, rfl, rfl, small (by omega), fun L nL => ?_⟩
  have s1 : Same H (upd H L (.lst ((Txt.split z NL).map V.str))) := same_new nL
  have hL : upd H L (.lst ((Txt.split z NL).map V.str)) L = some (.lst ((Txt.split z NL).map V.str)) := upd_same
  generalize upd H L (.lst ((Txt.split z NL).map V.str)) = H1 at s1 hL ⊢
  -- before
  refine ⟨_, rfl, _, rfl, _, rfl, L, _, rfl, .inl (.inl (.inl hL)), _, _, rfl, rfl, _, _, rfl, ?_⟩
  rw [show ((((Txt.split z NL).map V.str).length : Nat) : Int) - 1 = (((rws z).length - 1 : Nat) : Int) by rw [List.length_map, hl]; omega, min_nat]
  generalize hm : min l ((rws z).length - 1) = m at *
  have hmlt : m < (rws z).length := by omega
  refine ⟨_, rfl, L, _, rfl, .inl (.inl hL), fun B nB => ?_⟩
  rw [cutV_to, ← List.map_take]
  have s2 : Same H1 (upd H1 B (.lst (((Txt.split z NL).take m).map V.str))) := same_new nB
  have hB : upd H1 B (.lst (((Txt.split z NL).take m).map V.str)) B = some (.lst (((Txt.split z NL).take m).map V.str)) := upd_same
  generalize upd H1 B (.lst (((Txt.split z NL).take m).map V.str)) = H2 at s2 hB ⊢
  have hL2 := s2 _ _ hL
  have s12 := s1.trans s2
  -- start
  refine ⟨_, rfl, B, rfl, ⟨_, .inl (.inl hB)⟩, fun D nD => ?_⟩
  refine lc_list (K := K) (a := B) (xs := ((Txt.split z NL).take m).map V.str) (fun i H' => Same H2 H' ∧ H' D = some (.lst ((((Txt.split z NL).take m).take i).map fun x : Str => V.int (((x.length : Nat) : Int) + 1))))
    ⟨same_new nD, by rw [upd_same]; rfl⟩ (fun i H' _ h => h.1.seq (.inl (.inl hB))) ?_ ?_
  · rintro i x H' hi ⟨sm, hd⟩
    rw [List.getElem?_map] at hi
    cases e : ((Txt.split z NL).take m)[i]? with
    | none => rw [e] at hi; cases hi
    | some u =>
      rw [e] at hi
      have ex : x = V.str u := (Option.some.inj hi).symm
      subst ex
      have e0 : (Txt.split z NL)[i]? = some u := by
        rw [List.getElem?_take] at e
        split at e
        · exact e
        · cases e
      have hi2 : i < m := by
        have := (List.getElem?_eq_some_iff.mp e).1
        rw [List.length_take] at this
        omega
      refine ⟨rfl, ?_⟩
      refine ⟨_, rfl, u, rfl, small (by have := row_le e0; omega), _, _, rfl, rfl, _, hd, ?_, ?_, ?_⟩
      · rw [List.length_map, List.length_take]; exact Nat.lt_of_lt_of_le (show _ < 2000 by omega) (by decide)
      · intro b o eb
        rw [upd_ne (ne_of_none eb nD)]
        exact sm _ _ eb
      · rw [upd_same, List.take_add_one, e, List.map_append] <;> rfl
  · rintro H3 ⟨sm, hd⟩
    rw [List.length_map, List.take_length] at hd
    have hd' : H3 D = some (.lst (((((Txt.split z NL).take m).map fun x : Str => ((x.length : Nat) : Int) + 1)).map V.int)) := by
      rw [hd, List.map_map] <;> rfl
    refine ⟨D, _, rfl, .inl (.inl hd'), ?_⟩
    have hL3 := sm _ _ hL2
    have hB3 := sm _ _ hB
    have hx : m < (Txt.split z NL).length := by omega
    have gx : ((Txt.split z NL).map V.str)[m]? = some (.str (Txt.split z NL)[m]) := by
      rw [List.getElem?_map, List.getElem?_eq_getElem hx] <;> rfl
    have hrow := split_at (List.getElem?_eq_getElem hx)
    have hbl : (((Txt.split z NL).take m).map V.str).length = m := by
      rw [List.length_map, List.length_take]
      omega
    refine ⟨_, rfl, _, rfl, _, rfl, _, rfl, B, _, rfl, .inl (.inl (.inl hB3)), L, _, _, _, rfl, rfl, .inl (.inl hL3), at_of (by rw [hbl]) gx, _, rfl, small (by have := row_le (List.getElem?_eq_getElem hx); omega), _, _, rfl, ?_⟩
    rw [min_nat, sum_lens, List.map_take, show (Txt.split z NL).map tl = rws z by rw [nl_eq]; exact split_rows z 10 (by decide)]
    refine ⟨_, _, rfl, rfl, ?_⟩
    have k := q _ H3 (s12.trans sm) hrow
    rw [len_tl (Txt.split z NL)[m]]
    have e9 : ((lens ((rws z).take m) : Nat) : Int) + ((min c (tl (Txt.split z NL)[m]).length : Nat) : Int) = ((lens ((rws z).take m) + min c (tl (Txt.split z NL)[m]).length : Nat) : Int) := by omega
    dsimp only
    rw [e9]
    exact k
end

end Sn

namespace Sn
open PySem PySem.Spec PyProof.Rows L2 TL
/-! ### the law -/
section
variable {P : Program} {w : World} {K : PySem.W.Frag} {mg : Str → Option Value} {base : Heap} {f : Addr} {fd : FuncData}
theorem str_one {c : Nat} : (V.str ⟨#[c]⟩ = V.str NL) ↔ c = 10 := by
  rw [nl_eq]
  constructor
  · intro h
    injection h with h
    injection h with h
    simpa using h
  · intro h
    rw [h]
theorem nat_of {o : Int} (h : 0 ≤ o) : ∃ n : Nat, o = (n : Int) := ⟨o.toNat, by omega⟩
abbrev s_law : Stmt := topS 13
abbrev N_law : List Str := ["script", "tape", "text", "k", "offset", "before", "line", "column", "char", "wanted", "place", "lines", "row", "expected"]
theorem sc_law : FnScope N_law ["script"] (defScope s_law) := ⟨rfl, rfl, rfl, by decide +kernel, rfl, by decide +kernel, by decide +kernel⟩
theorem ok_law (F : Fun K "law" "law" s_law f fd) (T : Nm4 mg) (C_law_tape : Cal P w K mg base CX0 1 "_law_tape" (spTape K)) (C_law_take : Cal P w K mg base CX0 1 "_law_take" spTake) (C_law_any_text : Cal P w K mg base CX0 3 "_law_any_text" spAny)
    (C_law_same : Cal P w K mg base CX0 8 "_law_same" (spSame 4)) (C_line_column : Cal P w K mg base CX0 2 "line_column" spLineColumn) (C_offset_at : Cal P w K mg base CX0 1 "offset_at" spOffsetAt) :
    FnOk P w K mg base CX0 9 f fd ["script"] (spLaw K) := by
  refine F.ok sc_law (fun vs H Q E h => ?_) (fun cdv A outer s H vs Q E hr h => ?_)
  · obtain ⟨a, ns, rfl, _⟩ := h
    rfl
  obtain ⟨a, ns, rfl, hS, h63, q⟩ := h
  refine ⟨_, (pss_cons (ps_set (i := 1) sc_law.nd rfl (Or.inl rfl) (pe_c C_law_tape hr (by first | decide | omega) pass0 (pa_cons (pv 0) pa_nil)))
    (pss_cons (ps_set (i := 2) sc_law.nd rfl (Or.inl rfl) (pe_c C_law_any_text hr (by first | decide | omega) pass0 (pa_cons (pv 1) (pa_cons pe_int pa_nil))))
    (pss_cons (ps_for PassesOwn.never rfl (pi_range1 (by rfl) T.range (pa_cons pe_int pa_nil)) (pg_name (i := 3) sc_law.nd rfl (Or.inl rfl)) (pss_cons (ps_set (i := 4) sc_law.nd rfl (Or.inl rfl) (pe_c C_law_take hr (by first | decide | omega) pass0 (pa_cons (pv 1) (pa_cons (pe_op op_add (pe_callB call_len_str (by rfl) T.len PySem.boot_len (pa_cons (pv 2) pa_nil)) pe_int) pa_nil))))
    (pss_cons (ps_set (i := 5) sc_law.nd rfl (Or.inl rfl) (pe_slice sl_str (pv 2) po_none (po_some (pv 4))))
    (pss_cons (ps_set (i := 6) sc_law.nd rfl (Or.inl rfl) (pe_bm PySem.F.plainAttrs_str PySem.F.slot_str_count PySem.F.type_str_count mt_count (pv 5) (pa_cons pe_str pa_nil)))
    (pss_cons (ps_set (i := 7) sc_law.nd rfl (Or.inl rfl) pe_int)
    (pss_cons (ps_for PassesOwn.never rfl (pi_str (pv 5)) (pg_name (i := 8) sc_law.nd rfl (Or.inl rfl)) (pss_one (ps_set (i := 7) sc_law.nd rfl (Or.inl rfl) (pe_ifExp (pt_cmpR op_eq (pv 8) pe_str (nomark _)) pe_int (pe_op op_add (pv 7) pe_int)))))
    (pss_cons (ps_if (pt_not (pt_val (pe_c C_law_same hr (by first | decide | omega) pass0 (pa_cons (pe_c C_line_column hr (by first | decide | omega) pass0 (pa_cons (pv 2) (pa_cons (pv 4) pa_nil))) (pa_cons (pe_tup (pa_cons (pv 6) (pa_cons (pv 7) pa_nil))) pa_nil))))) (pss_one (ps_ret pe_bl)) pss_nil)
    (pss_cons (ps_if (pt_not (pt_val (pe_c C_law_same hr (by first | decide | omega) pass0 (pa_cons (pe_c C_offset_at hr (by first | decide | omega) pass0 (pa_cons (pv 2) (pa_cons (pv 6) (pa_cons (pv 7) pa_nil)))) (pa_cons (pv 4) pa_nil))))) (pss_one (ps_ret pe_bl)) pss_nil)
    (pss_cons (ps_set (i := 9) sc_law.nd rfl (Or.inl rfl) (pe_c C_law_take hr (by first | decide | omega) pass0 (pa_cons (pv 1) (pa_cons pe_int pa_nil))))
    (pss_cons (ps_set (i := 10) sc_law.nd rfl (Or.inl rfl) (pe_c C_law_take hr (by first | decide | omega) pass0 (pa_cons (pv 1) (pa_cons pe_int pa_nil))))
    (pss_cons (ps_set (i := 11) sc_law.nd rfl (Or.inl rfl) (pe_split (pv 2) pe_str))
    (pss_cons (ps_set (i := 12) sc_law.nd rfl (Or.inl rfl) (pe_callB (call_min2 rfl) (by rfl) T.min (by decide +kernel) (pa_cons (pv 9) (pa_cons (pe_op op_sub (pe_callB call_len_seq (by rfl) T.len PySem.boot_len (pa_cons (pv 11) pa_nil)) pe_int) pa_nil))))
    (pss_cons (ps_set (i := 13) sc_law.nd rfl (Or.inl rfl) (pe_op op_add (pe_op op_add (pe_callB call_len_str (by rfl) T.len PySem.boot_len (pa_cons (pe_join pe_str (pe_slice sl_list (pv 11) po_none (po_some (pv 12)))) pa_nil)) (pe_ifExp (pt_cmpR op_gt (pv 12) pe_int (nomark _)) pe_int pe_int)) (pe_callB (call_min2 rfl) (by rfl) T.min (by decide +kernel) (pa_cons (pv 10) (pa_cons (pe_callB call_len_str (by rfl) T.len PySem.boot_len (pa_cons (pe_ix (r := rIxL K) ix_list (pv 11) (pv 12) (fun _ _ => rfl)) pa_nil)) pa_nil)))))
    (pss_one (ps_if (pt_not (pt_val (pe_c C_law_same hr (by first | decide | omega) pass0 (pa_cons (pe_c C_offset_at hr (by first | decide | omega) pass0 (pa_cons (pv 2) (pa_cons (pv 9) (pa_cons (pv 10) pa_nil)))) (pa_cons (pv 13) pa_nil))))) (pss_one (ps_ret pe_bl)) pss_nil)))))))))))))))
    (pss_one (ps_ret pe_bl))))), ?_⟩
  refine ⟨_, rfl, a, ns, rfl, hS, h63, fun t c H1 s1 nt nc tp1 => ?_⟩
  refine ⟨_, rfl, t, c, 18, rfl, tp1, by omega, fun z H2 oz lz b2 tp2 => ?_⟩
  have hz : (tl z).length ≤ 1000 := by rw [← len_tl]; omega
  have hz2 : z.length = (tl z).length := len_tl z
  refine ⟨8, rfl, by decide, by decide, for_range (lo := 0) (n := (8 : Int).toNat) (fun i σ H' => ∃ v3 v4 v5 v6 v7 v8 v9 v10 v11 v12 v13, σ = [some (.ref a), some (.ref t), some (.str z), v3, v4, v5, v6, v7, v8, v9, v10, v11, v12, v13] ∧ Tp H' t c)
    ⟨none, none, none, none, none, none, none, none, none, none, none, rfl, tp2⟩ ?_ (fun σ H' _ => q H')⟩
  rintro i σ H3 hi ⟨v3, v4, v5, v6, v7, v8, v9, v10, v11, v12, v13, rfl, tp3⟩
  -- offset
  refine ⟨_, rfl, _, rfl, z, rfl, small (by omega), _, _, rfl, rfl, t, c, _, rfl, tp3, by omega, by omega, fun o H4 h0 h1 b4 tp4 => ?_⟩
  obtain ⟨on, rfl⟩ := nat_of h0
  have hon : on ≤ (tl z).length := by omega
  -- before, line, column
  refine ⟨_, rfl, _, rfl, (on : Int), rfl, z, rfl, small (by omega), ?_⟩
  have hB := tl_cut_to z on
  generalize cutS z none (some (on : Int)) = B at hB ⊢
  refine ⟨_, rfl, rfl, B, NL, rfl, rfl, ?_⟩
  dsimp only
  rw [nl_eq, count_all B 10, hB]
  refine ⟨_, rfl, B, rfl, for_str (x := B) (fun j σ H' => H' = H4 ∧ ∃ v8, σ = [some (.ref a), some (.ref t), some (.str z), some (.int (0 + (i : Nat))), some (.int (on : Int)), some (.str B), some (.int ((((tl z).take on).count 10 : Nat) : Int)), some (.int ((colF 10 0 ((tl B).take j) : Nat) : Int)), v8, v9, v10, v11, v12, v13])
    ⟨rfl, v8, rfl⟩ ?_ ?_⟩
  · rintro j ch σ H' hj ⟨rfl, w8, rfl⟩
    have ec : colF 10 0 ((tl B).take (j + 1)) = if ch = 10 then 0 else colF 10 0 ((tl B).take j) + 1 := by
      rw [List.take_add_one, show (tl B)[j]? = some ch from hj]
      exact colF_snoc 10 ch _ 0
    refine ⟨_, rfl, rfl, _, rfl, ite2 (fun e => ?_) (fun e => ?_)⟩
    · have e := str_one.mp (of_decide_eq_true e)
      refine ⟨rfl, some (.str ⟨#[ch]⟩), ?_⟩
      rw [ec, if_pos e]
      rfl
    · have e : ¬ ch = 10 := fun k => e (decide_eq_true (str_one.mpr k))
      refine ⟨_, rfl, _, _, rfl, rfl, rfl, some (.str ⟨#[ch]⟩), ?_⟩
      rw [ec, if_neg e]
      rfl
  rintro σ H' ⟨rfl, w8, rfl⟩
  rw [show List.take B.cps.toList.length (tl B) = (tl z).take on by rw [← hB]; exact List.take_length]
  -- line_column
  refine ⟨_, rfl, _, rfl, z, on, rfl, hon, fun p np => ?_⟩
  refine ⟨_, rfl, _, rfl, (by show 2 ≤ sizeLine; decide), fun r nr => ?_⟩
  have s5 : Same H' (upd (upd H' p (.tup [.int ((((tl z).take on).count 10 : Nat) : Int), .int ((colF 10 0 ((tl z).take on) : Nat) : Int)])) r (.tup [.int ((((tl z).take on).count 10 : Nat) : Int), .int ((colF 10 0 ((tl z).take on) : Nat) : Int)])) := (same_new np).trans (same_new nr)
  refine ⟨_, _, rfl, Al.tup (same_new nr _ _ upd_same) upd_same rfl (by show 2 ≤ 1000000; decide) (al_eq (n := 2) rfl), _, rfl, ?_⟩
  generalize upd (upd H' p _) r _ = H5 at s5 ⊢
  have tp5 := tp4.same s5
  -- offset_at there and back
  obtain ⟨row, g1, g2, g3⟩ := rows_at 10 (tl z) [] on hon
  have hrl : (rws z).length = (tl z).count 10 + 1 := rows_len 10 (tl z) []
  have hklt : ((tl z).take on).count 10 < (rws z).length := (List.getElem?_eq_some_iff.mp g1).1
  refine ⟨_, rfl, _, rfl, _, rfl, z, _, _, rfl, by omega, fun row' H6 s6 hrow => ?_⟩
  have em : min (((tl z).take on).count 10) ((rws z).length - 1) = ((tl z).take on).count 10 := by omega
  rw [em] at hrow
  have er : row' = row := Option.some.inj (hrow.symm.trans g1)
  subst er
  have tp6 := tp5.same s6
  have eo : lens ((rws z).take (min (((tl z).take on).count 10) ((rws z).length - 1))) + min (colF 10 0 ((tl z).take on)) row'.length = on := by
    rw [em, Nat.min_eq_left (show colF 10 0 ((tl z).take on) ≤ row'.length from g2)]
    have g3' : lens ((rws z).take (((tl z).take on).count 10)) + colF 10 0 ((tl z).take on) = 0 + on := g3
    omega
  rw [eo]
  refine ⟨_, rfl, _, _, rfl, Al.sc (n := 3) rfl, _, rfl, ?_⟩
  -- wanted, place
  refine ⟨_, rfl, t, c, 40, rfl, tp6, by decide, by decide, fun wa H7 w0 w1 b7 tp7 => ?_⟩
  obtain ⟨wn, rfl⟩ := nat_of w0
  refine ⟨_, rfl, t, c, 40, rfl, tp7, by decide, by decide, fun pl H8 p0 p1 b8 tp8 => ?_⟩
  obtain ⟨pn, rfl⟩ := nat_of p0
  -- lines
  refine ⟨_, rfl, ⟨_, rfl⟩, z, NL, rfl, rfl, rfl, small (by omega), fun L nL => ?_⟩
  have tp9 : Tp (upd H8 L (.lst ((Txt.split z NL).map V.str))) t c := tp8.new nL
  have hL : upd H8 L (.lst ((Txt.split z NL).map V.str)) L = some (.lst ((Txt.split z NL).map V.str)) := upd_same
  generalize upd H8 L (.lst ((Txt.split z NL).map V.str)) = H9 at tp9 hL ⊢
  have hl := split_len z
  have hp := rws_pos z
  have hle := rws_le z
  -- row
  refine ⟨_, rfl, _, rfl, L, _, rfl, .inl (.inl (.inl hL)), _, _, rfl, rfl, _, _, rfl, ?_⟩
  rw [show ((((Txt.split z NL).map V.str).length : Nat) : Int) - 1 = (((rws z).length - 1 : Nat) : Int) by rw [List.length_map, hl]; omega, min_nat]
  generalize hm : min wn ((rws z).length - 1) = m
  have hmlt : m < (rws z).length := by omega
  have hx : m < (Txt.split z NL).length := by omega
  have gx : ((Txt.split z NL).map V.str)[m]? = some (.str (Txt.split z NL)[m]) := by
    rw [List.getElem?_map, List.getElem?_eq_getElem hx] <;> rfl
  have hrowx := split_at (List.getElem?_eq_getElem hx)
  -- expected
  refine ⟨⟨_, rfl⟩, _, rfl, _, rfl, _, rfl, L, _, rfl, .inl (.inl hL), fun B2 nB2 => ?_⟩
  rw [cutV_to, ← List.map_take]
  have sA : Same H9 (upd H9 B2 (.lst (((Txt.split z NL).take m).map V.str))) := same_new nB2
  have hB2 : upd H9 B2 (.lst (((Txt.split z NL).take m).map V.str)) B2 = some (.lst (((Txt.split z NL).take m).map V.str)) := upd_same
  generalize upd H9 B2 (.lst (((Txt.split z NL).take m).map V.str)) = HA at sA hB2 ⊢
  have hLA := sA _ _ hL
  have tpA := tp9.same sA
  have mk : ((Txt.split z NL).take m).map tl = (rws z).take m := by
    rw [List.map_take, show (Txt.split z NL).map tl = rws z by rw [nl_eq]; exact split_rows z 10 (by decide)]
  have hsum : (((Txt.split z NL).take m).map (·.length)).sum ≤ 1000 * ((Txt.split z NL).take m).length := sum_len_le fun y hy => by
    obtain ⟨j, hj⟩ := List.getElem?_of_mem (List.mem_of_mem_take hy)
    have := row_le hj
    omega
  have hlt2 : ((Txt.split z NL).take m).length ≤ 1001 := by rw [List.length_take]; omega
  have hNL : NL.length = 1 := by rw [nl_eq]; rfl
  refine ⟨NL, B2, _, rfl, rfl, .inl (.inl (.inl hB2)), by rw [hNL]; omega, ?_⟩
  have hj : (Txt.join NL ((Txt.split z NL).take m)).length = (joinL [10] ((rws z).take m)).length := by
    rw [len_tl, join_eq, tl_join, mk, nl_eq]
  have hj2 : m = 0 ∧ (joinL [10] ((rws z).take m)).length = 0 ∧ lens ((rws z).take m) = 0 ∨ 0 < m ∧ (joinL [10] ((rws z).take m)).length + 1 = lens ((rws z).take m) := by
    by_cases h0 : m = 0
    · subst h0
      exact .inl ⟨rfl, rfl, rfl⟩
    · refine .inr ⟨by omega, join_lens [10] rfl _ fun e => ?_⟩
      have := congrArg List.length e
      rw [List.length_take, List.length_nil] at this
      omega
  have hjl : lens ((rws z).take m) ≤ 1003000 := by
    have k := sum_lens ((Txt.split z NL).take m)
    rw [mk] at k
    have k2 : ∀ l : List Str, (l.map fun x : Str => ((x.length : Nat) : Int) + 1).sum = (((l.map (·.length)).sum + l.length : Nat) : Int) := by
      intro l
      induction l with
      | nil => rfl
      | cons x r ih =>
        rw [List.map_cons, List.sum_cons, ih, List.map_cons, List.sum_cons, List.length_cons]
        omega
    rw [k2] at k
    omega
  refine ⟨_, rfl, by rw [hj]; exact Nat.le_trans (show _ ≤ 1003000 by omega) (by decide), ?_⟩
  refine ⟨_, rfl, _, _, rfl, rfl, _, rfl, ?_⟩
  refine ite2 (fun e0 => ?_) (fun e0 => ?_)
  all_goals
    refine ⟨_, _, rfl, rfl, ?_⟩
    refine ⟨_, rfl, _, rfl, _, rfl, L, _, _, _, rfl, rfl, .inl (.inl hLA), at_of rfl gx, _, rfl, small (by have := row_le (List.getElem?_eq_getElem hx); omega), _, _, rfl, ?_⟩
    rw [min_nat]
    refine ⟨_, _, rfl, rfl, ?_⟩
    refine ⟨_, rfl, _, rfl, _, rfl, z, wn, pn, rfl, by omega, fun row2 HB sB hrow2 => ?_⟩
    rw [hm] at hrow2
    have er2 : row2 = tl (Txt.split z NL)[m] := Option.some.inj (hrow2.symm.trans hrowx)
    subst er2
    rw [hm]
    refine ⟨_, rfl, _, _, rfl, ?_, _, rfl, ?_⟩
    rotate_left
    · exact ⟨_, _, _, _, _, _, _, _, _, _, _, rfl, tpA.same sB⟩
    dsimp only
    rw [hj, len_tl (Txt.split z NL)[m]]
  · have e0 : 0 < (m : Int) := of_decide_eq_true e0
    have ee : ((lens ((rws z).take m) + min pn (tl (Txt.split z NL)[m]).length : Nat) : Int) = (((joinL [10] ((rws z).take m)).length : Nat) : Int) + 1 + ((min pn (tl (Txt.split z NL)[m]).length : Nat) : Int) := by omega
    rw [ee]
    exact Al.sc (n := 3) rfl
  · have e0 : ¬ 0 < (m : Int) := fun k => e0 (decide_eq_true k)
    have ee : ((lens ((rws z).take m) + min pn (tl (Txt.split z NL)[m]).length : Nat) : Int) = (((joinL [10] ((rws z).take m)).length : Nat) : Int) + 0 + ((min pn (tl (Txt.split z NL)[m]).length : Nat) : Int) := by omega
    rw [ee]
    exact Al.sc (n := 3) rfl
end

end Sn

namespace Sn
open PySem PySem.Spec PyProof.Rows L2 TL
theorem all_mk {l : PySem.W.OpenLaw} {w : World} {K : PySem.W.Frag} {h : Heap} {mg : Str → Option Value} {fa f0 f1 f2 f3 f4 f5 f6 f7 f8 f9 f10 f11 : Addr}
    {od0 an0 od1 an1 od2 an2 od3 an3 od4 an4 od5 an5 od6 an6 od7 an7 od8 an8 od9 an9 od10 an10 od11 an11 : Option Addr} {sl0 sl1 sl2 sl3 sl4 sl5 sl6 sl7 sl8 sl9 sl10 sl11 : Array (Option Value)} {oc0 kV0 dc0 pm0 cd0 ct0 oc1 kV1 dc1 pm1 cd1 ct1 oc2 kV2 dc2 pm2 cd2 ct2 oc3 kV3 dc3 pm3 cd3 ct3 oc4 kV4 dc4 pm4 cd4 ct4 oc5 kV5 dc5 pm5 cd5 ct5 oc6 kV6 dc6 pm6 cd6 ct6 oc7 kV7 dc7 pm7 cd7 ct7 oc8 kV8 dc8 pm8 cd8 ct8 oc9 kV9 dc9 pm9 cd9 ct9 oc10 kV10 dc10 pm10 cd10 ct10 oc11 kV11 dc11 pm11 cd11 ct11 : Value} (X : K.In h) (G : h.Ns mainGlobals mg) (hfa : mg "law" = some (.ref fa))
    (a0 : PySem.W.nsIn K mainGlobals "_law_tape" = some (some (.ref f0)))
    (l0 : K.lookup f0 = some ⟨oc0, od0, .func (PySem.W.fnOf "_law_tape" "_law_tape" (defArgs s_tape) (defBody s_tape) (defScope s_tape) .none kV0 dc0 pm0 an0 cd0 ct0), sl0⟩)
    (c0 : PySem.W.codeIn K cd0 "_law_tape" = true)
    (k0 : PySem.W.keepIn K (.ref f0) = true)
    (a1 : PySem.W.nsIn K mainGlobals "_law_take" = some (some (.ref f1)))
    (l1 : K.lookup f1 = some ⟨oc1, od1, .func (PySem.W.fnOf "_law_take" "_law_take" (defArgs s_take) (defBody s_take) (defScope s_take) .none kV1 dc1 pm1 an1 cd1 ct1), sl1⟩)
    (c1 : PySem.W.codeIn K cd1 "_law_take" = true)
    (k1 : PySem.W.keepIn K (.ref f1) = true)
    (a2 : PySem.W.nsIn K mainGlobals "_law_is_integer" = some (some (.ref f2)))
    (l2 : K.lookup f2 = some ⟨oc2, od2, .func (PySem.W.fnOf "_law_is_integer" "_law_is_integer" (defArgs s_isInt) (defBody s_isInt) (defScope s_isInt) .none kV2 dc2 pm2 an2 cd2 ct2), sl2⟩)
    (c2 : PySem.W.codeIn K cd2 "_law_is_integer" = true)
    (k2 : PySem.W.keepIn K (.ref f2) = true)
    (a3 : PySem.W.nsIn K mainGlobals "_law_same_items" = some (some (.ref f3)))
    (l3 : K.lookup f3 = some ⟨oc3, od3, .func (PySem.W.fnOf "_law_same_items" "_law_same_items" (defArgs s_sameItems) (defBody s_sameItems) (defScope s_sameItems) .none kV3 dc3 pm3 an3 cd3 ct3), sl3⟩)
    (c3 : PySem.W.codeIn K cd3 "_law_same_items" = true)
    (k3 : PySem.W.keepIn K (.ref f3) = true)
    (a4 : PySem.W.nsIn K mainGlobals "_law_same" = some (some (.ref f4)))
    (l4 : K.lookup f4 = some ⟨oc4, od4, .func (PySem.W.fnOf "_law_same" "_law_same" (defArgs s_same) (defBody s_same) (defScope s_same) .none kV4 dc4 pm4 an4 cd4 ct4), sl4⟩)
    (c4 : PySem.W.codeIn K cd4 "_law_same" = true)
    (k4 : PySem.W.keepIn K (.ref f4) = true)
    (a5 : PySem.W.nsIn K mainGlobals "_law_snippet" = some (some (.ref f5)))
    (l5 : K.lookup f5 = some ⟨oc5, od5, .func (PySem.W.fnOf "_law_snippet" "_law_snippet" (defArgs s_snippet) (defBody s_snippet) (defScope s_snippet) .none kV5 dc5 pm5 an5 cd5 ct5), sl5⟩)
    (c5 : PySem.W.codeIn K cd5 "_law_snippet" = true)
    (k5 : PySem.W.keepIn K (.ref f5) = true)
    (a6 : PySem.W.nsIn K mainGlobals "_law_char" = some (some (.ref f6)))
    (l6 : K.lookup f6 = some ⟨oc6, od6, .func (PySem.W.fnOf "_law_char" "_law_char" (defArgs s_char) (defBody s_char) (defScope s_char) .none kV6 dc6 pm6 an6 cd6 ct6), sl6⟩)
    (c6 : PySem.W.codeIn K cd6 "_law_char" = true)
    (k6 : PySem.W.keepIn K (.ref f6) = true)
    (a7 : PySem.W.nsIn K mainGlobals "_law_any_text" = some (some (.ref f7)))
    (l7 : K.lookup f7 = some ⟨oc7, od7, .func (PySem.W.fnOf "_law_any_text" "_law_any_text" (defArgs s_anyText) (defBody s_anyText) (defScope s_anyText) .none kV7 dc7 pm7 an7 cd7 ct7), sl7⟩)
    (c7 : PySem.W.codeIn K cd7 "_law_any_text" = true)
    (k7 : PySem.W.keepIn K (.ref f7) = true)
    (a8 : PySem.W.nsIn K mainGlobals "line_start" = some (some (.ref f8)))
    (l8 : K.lookup f8 = some ⟨oc8, od8, .func (PySem.W.fnOf "line_start" "line_start" (defArgs s_line_start) (defBody s_line_start) (defScope s_line_start) .none kV8 dc8 pm8 an8 cd8 ct8), sl8⟩)
    (c8 : PySem.W.codeIn K cd8 "line_start" = true)
    (k8 : PySem.W.keepIn K (.ref f8) = true)
    (a9 : PySem.W.nsIn K mainGlobals "line_column" = some (some (.ref f9)))
    (l9 : K.lookup f9 = some ⟨oc9, od9, .func (PySem.W.fnOf "line_column" "line_column" (defArgs s_line_column) (defBody s_line_column) (defScope s_line_column) .none kV9 dc9 pm9 an9 cd9 ct9), sl9⟩)
    (c9 : PySem.W.codeIn K cd9 "line_column" = true)
    (k9 : PySem.W.keepIn K (.ref f9) = true)
    (a10 : PySem.W.nsIn K mainGlobals "offset_at" = some (some (.ref f10)))
    (l10 : K.lookup f10 = some ⟨oc10, od10, .func (PySem.W.fnOf "offset_at" "offset_at" (defArgs s_offset_at) (defBody s_offset_at) (defScope s_offset_at) .none kV10 dc10 pm10 an10 cd10 ct10), sl10⟩)
    (c10 : PySem.W.codeIn K cd10 "offset_at" = true)
    (k10 : PySem.W.keepIn K (.ref f10) = true)
    (a11 : PySem.W.nsIn K mainGlobals "law" = some (some (.ref f11)))
    (l11 : K.lookup f11 = some ⟨oc11, od11, .func (PySem.W.fnOf "law" "law" (defArgs s_law) (defBody s_law) (defScope s_law) .none kV11 dc11 pm11 an11 cd11 ct11), sl11⟩)
    (c11 : PySem.W.codeIn K cd11 "law" = true)
    (k11 : PySem.W.keepIn K (.ref f11) = true)
    (z0 : PySem.W.nsIn K mainGlobals "abs" = some none)
    (z1 : PySem.W.nsIn K mainGlobals "int" = some none)
    (z2 : PySem.W.nsIn K mainGlobals "len" = some none)
    (z3 : PySem.W.nsIn K mainGlobals "range" = some none)
    (z4 : PySem.W.nsIn K mainGlobals "isinstance" = some none)
    (z5 : PySem.W.nsIn K mainGlobals "bool" = some none)
    (z6 : PySem.W.nsIn K mainGlobals "str" = some none)
    (z7 : PySem.W.nsIn K mainGlobals "tuple" = some none)
    (z8 : PySem.W.nsIn K mainGlobals "list" = some none)
    (z9 : PySem.W.nsIn K mainGlobals "min" = some none)
    (z10 : PySem.W.nsIn K mainGlobals "sum" = some none) :
    ∃ fd : FuncData, (∀ (s : Shared) (v : Value), BindsTo s fd ⟨[v], []⟩ [("script", v)]) ∧ ∀ base : Heap, K.In base → base.Ns mainGlobals mg → FnOk l.prog w K mg base CX0 9 fa fd ["script"] (spLaw K) := by
  have e := hfa.symm.trans (PySem.W.mg_of X G a11)
  cases e
  have F0 := fun_mk (st := s_tape) l0 c0 k0
  have b0 := F0.binds (ps := ["script"]) fun _ _ _ _ _ _ us hl => match us, hl with | [_], _ => rfl
  have m0 := PySem.W.mg_of X G a0
  have F1 := fun_mk (st := s_take) l1 c1 k1
  have b1 := F1.binds (ps := ["tape", "many"]) fun _ _ _ _ _ _ us hl => match us, hl with | [_, _], _ => rfl
  have m1 := PySem.W.mg_of X G a1
  have F2 := fun_mk (st := s_isInt) l2 c2 k2
  have b2 := F2.binds (ps := ["actual"]) fun _ _ _ _ _ _ us hl => match us, hl with | [_], _ => rfl
  have m2 := PySem.W.mg_of X G a2
  have F3 := fun_mk (st := s_sameItems) l3 c3 k3
  have b3 := F3.binds (ps := ["actual", "expected"]) fun _ _ _ _ _ _ us hl => match us, hl with | [_, _], _ => rfl
  have m3 := PySem.W.mg_of X G a3
  have F4 := fun_mk (st := s_same) l4 c4 k4
  have b4 := F4.binds (ps := ["actual", "expected"]) fun _ _ _ _ _ _ us hl => match us, hl with | [_, _], _ => rfl
  have m4 := PySem.W.mg_of X G a4
  have F5 := fun_mk (st := s_snippet) l5 c5 k5
  have b5 := F5.binds (ps := ["tape"]) fun _ _ _ _ _ _ us hl => match us, hl with | [_], _ => rfl
  have m5 := PySem.W.mg_of X G a5
  have F6 := fun_mk (st := s_char) l6 c6 k6
  have b6 := F6.binds (ps := ["tape"]) fun _ _ _ _ _ _ us hl => match us, hl with | [_], _ => rfl
  have m6 := PySem.W.mg_of X G a6
  have F7 := fun_mk (st := s_anyText) l7 c7 k7
  have b7 := F7.binds (ps := ["tape", "most"]) fun _ _ _ _ _ _ us hl => match us, hl with | [_, _], _ => rfl
  have m7 := PySem.W.mg_of X G a7
  have F8 := fun_mk (st := s_line_start) l8 c8 k8
  have b8 := F8.binds (ps := ["text", "offset"]) fun _ _ _ _ _ _ us hl => match us, hl with | [_, _], _ => rfl
  have m8 := PySem.W.mg_of X G a8
  have F9 := fun_mk (st := s_line_column) l9 c9 k9
  have b9 := F9.binds (ps := ["text", "offset"]) fun _ _ _ _ _ _ us hl => match us, hl with | [_, _], _ => rfl
  have m9 := PySem.W.mg_of X G a9
  have F10 := fun_mk (st := s_offset_at) l10 c10 k10
  have b10 := F10.binds (ps := ["text", "line", "column"]) fun _ _ _ _ _ _ us hl => match us, hl with | [_, _, _], _ => rfl
  have m10 := PySem.W.mg_of X G a10
  have F11 := fun_mk (st := s_law) l11 c11 k11
  refine ⟨PySem.W.fnOf "law" "law" (defArgs s_law) (defBody s_law) (defScope s_law) .none kV11 dc11 pm11 an11 cd11 ct11, fun s v => .of_eq rfl, fun base _ _ => ?_⟩
  have T : Nm4 mg := ⟨⟨(PySem.W.mg_none_of X G z0), (PySem.W.mg_none_of X G z1), (PySem.W.mg_none_of X G z2), (PySem.W.mg_none_of X G z3), (PySem.W.mg_none_of X G z4), (PySem.W.mg_none_of X G z5), (PySem.W.mg_none_of X G z6), (PySem.W.mg_none_of X G z7), (PySem.W.mg_none_of X G z8)⟩, (PySem.W.mg_none_of X G z9), (PySem.W.mg_none_of X G z10)⟩
  have C_law_tape : Cal l.prog w K mg base CX0 1 "_law_tape" (spTape K) := ⟨_, _, _, ok_tape F0 T.toNm, m0, F0.kp, b0⟩
  have C_law_take : Cal l.prog w K mg base CX0 1 "_law_take" spTake := ⟨_, _, _, ok_take F1 T.toNm, m1, F1.kp, b1⟩
  have C_law_is_integer : Cal l.prog w K mg base CX0 1 "_law_is_integer" spIsInt := ⟨_, _, _, ok_isInt F2 T.toNm, m2, F2.kp, b2⟩
  have C_law_same : Cal l.prog w K mg base CX0 8 "_law_same" (spSame 4) := both F4 b4 m4 F3 b3 m3 T.toNm C_law_is_integer 4
  have C_law_snippet : Cal l.prog w K mg base CX0 2 "_law_snippet" spSnippet := ⟨_, _, _, ok_snippet F5 T.toNm C_law_take, m5, F5.kp, b5⟩
  have C_law_char : Cal l.prog w K mg base CX0 2 "_law_char" spChar := ⟨_, _, _, ok_char F6 T.toNm C_law_take, m6, F6.kp, b6⟩
  have C_law_any_text : Cal l.prog w K mg base CX0 3 "_law_any_text" spAny := ⟨_, _, _, ok_any F7 T.toNm C_law_take C_law_char C_law_snippet, m7, F7.kp, b7⟩
  have C_line_start : Cal l.prog w K mg base CX0 1 "line_start" spLineStart := ⟨_, _, _, ok_line_start F8 T, m8, F8.kp, b8⟩
  have C_line_column : Cal l.prog w K mg base CX0 2 "line_column" spLineColumn := ⟨_, _, _, ok_line_column F9 T C_line_start, m9, F9.kp, b9⟩
  have C_offset_at : Cal l.prog w K mg base CX0 1 "offset_at" spOffsetAt := ⟨_, _, _, ok_offset_at F10 T, m10, F10.kp, b10⟩
  exact ok_law F11 T C_law_tape C_law_take C_law_any_text C_law_same C_line_column C_offset_at
theorem walk {l : PySem.W.OpenLaw} {q : Program} {loose : List Str} {XP : (Str → Option Value) → Heap → Prop} {YP : World → Heap → Prop} {d : DefRec} {K : Params → PySem.W.Frag} (hn : l.most = some 63) (hdf : d.params.defaults = [])
    (hY : ∀ (w : World) (h : Heap), YP w h → (K w.params).In h)
    (F : ∀ (w : World) (mg : Str → Option Value) (fa : Addr) (h : Heap), (K w.params).In h → h.Ns mainGlobals mg → mg d.name = some (.ref fa) →
      ∃ fd : FuncData, (∀ (s : Shared) (u : Value), BindsTo s fd ⟨[u], []⟩ [("script", u)]) ∧ ∀ base : Heap, (K w.params).In base → base.Ns mainGlobals mg → FnOk l.prog w (K w.params) mg base CX0 9 fa fd ["script"] (spLaw (K w.params))) :
    PySem.W.WalkO q loose XP YP l.row.toRowW d [] (fun f vs => PySem.call f vs) :=
  L2.walk_of (n := 63) (k := 9) (x := "script") (CX := fun _ => CX0) (sp := fun w => spLaw (K w.params)) hn (by decide) hdf ⟨rfl, by decide, by decide⟩ hY F (fun _ _ a ns hl _ hS => ⟨a, ns, rfl, hS, hl, fun _ => rfl⟩) fun _ _ _ _ _ z => z
end Sn
open PySem PySem.W PyProof.Rows
set_option maxRecDepth 100000 in
set_option maxHeartbeats 0 in
theorem PySem.Challenge.cw_samenames_k04_lines_and_columns_holds : PySem.Challenge.rw_samenames_k04_lines_and_columns.Holds := by
  w_on; o_law; k_head; (case hw => w_witness2)
  k_fill
  refine Sn.walk (l := PySem.Challenge.rw_samenames_k04_lines_and_columns) rfl rfl (fun w h Y => PySem.W.kIn_of Y) ?F
  case F =>
    intro w mg fa h KX G hmg
    refine' Sn.all_mk KX G hmg ?a0 ?l0 ?c0 ?k0 ?a1 ?l1 ?c1 ?k1 ?a2 ?l2 ?c2 ?k2 ?a3 ?l3 ?c3 ?k3 ?a4 ?l4 ?c4 ?k4 ?a5 ?l5 ?c5 ?k5 ?a6 ?l6 ?c6 ?k6 ?a7 ?l7 ?c7 ?k7 ?a8 ?l8 ?c8 ?k8 ?a9 ?l9 ?c9 ?k9 ?a10 ?l10 ?c10 ?k10 ?a11 ?l11 ?c11 ?k11 ?z0 ?z1 ?z2 ?z3 ?z4 ?z5 ?z6 ?z7 ?z8 ?z9 ?z10
    (case a0 => k_is)
    (case l0 => k_is)
    (case c0 => k_is)
    (case k0 => k_is)
    (case a1 => k_is)
    (case l1 => k_is)
    (case c1 => k_is)
    (case k1 => k_is)
    (case a2 => k_is)
    (case l2 => k_is)
    (case c2 => k_is)
    (case k2 => k_is)
    (case a3 => k_is)
    (case l3 => k_is)
    (case c3 => k_is)
    (case k3 => k_is)
    (case a4 => k_is)
    (case l4 => k_is)
    (case c4 => k_is)
    (case k4 => k_is)
    (case a5 => k_is)
    (case l5 => k_is)
    (case c5 => k_is)
    (case k5 => k_is)
    (case a6 => k_is)
    (case l6 => k_is)
    (case c6 => k_is)
    (case k6 => k_is)
    (case a7 => k_is)
    (case l7 => k_is)
    (case c7 => k_is)
    (case k7 => k_is)
    (case a8 => k_is)
    (case l8 => k_is)
    (case c8 => k_is)
    (case k8 => k_is)
    (case a9 => k_is)
    (case l9 => k_is)
    (case c9 => k_is)
    (case k9 => k_is)
    (case a10 => k_is)
    (case l10 => k_is)
    (case c10 => k_is)
    (case k10 => k_is)
    (case a11 => k_is)
    (case l11 => k_is)
    (case c11 => k_is)
    (case k11 => k_is)
    (case z0 => k_is)
    (case z1 => k_is)
    (case z2 => k_is)
    (case z3 => k_is)
    (case z4 => k_is)
    (case z5 => k_is)
    (case z6 => k_is)
    (case z7 => k_is)
    (case z8 => k_is)
    (case z9 => k_is)
    (case z10 => k_is)
