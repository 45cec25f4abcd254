import PyProof.Rows.All
import Wide.All
import OpenK.AllK
import Wide.FinOn
import PyProof.EqAt
import PyProof.EqKinds
import PyProof.TupleCall
import HandS.ForMost
import HandS.IsInst
import HandS.StrMore
import HandS.Codes
import HandS.Style
import HandS.Exc
import HandS.ExcOwn
import HandS.TryOnly
import HandS.ExcIs
import HandS.WordsExc
import PySem.Challenge.RW_samenames_k06_relexing
set_option Elab.async false
set_option linter.all false
set_option maxRecDepth 100000
set_option maxHeartbeats 4000000
/-! My own words over the hand layer: calls by name, heaps but for one place, texts, data. -/
namespace Sn
open PySem PySem.Spec PyProof.Rows L2

/-- a def that may be called by its name -/
structure Cal (P : Program) (w : World) (K : PySem.W.Frag) (mg : Str → Option Value) (base : Heap) (CX : CXT) (k : Nat) (x : Str) (sp : Sp) : Prop where
  ex : ∃ (f : Addr) (fd : FuncData) (ps : List Str), FnOk P w K mg base CX k f fd ps sp ∧ mg x = some (.ref f) ∧ PySem.W.keepIn K (.ref f) = true ∧ Binds K fd ps []
section
variable {X : Cx} {k j : Nat} {x : Str} {sp : Sp} {p pos : Pos} {e : Expr} {es : List Expr} {t : TA} {CX : CXT} {E : XK}
theorem pe_c (c : Cal X.prog X.w X.K X.mg X.base CX k x sp) (hr : Room j X.A) (hk : k ≤ j) (hx : Passes CX X E) (ha : PA X (e :: es) t) (hg : Gl X x := by rfl)
    (hdb : (x == ("__debug__" : Str)) = false := by decide) (he : starEach (e :: es) X.env = (false, eval e X.env) :: starEach es X.env := by rfl) (hpl : (backTo pos (starEach es X.env)).any (·.1) = false := by rfl) :
    PE X (.Call (.Name x p) (e :: es) [] pos) (tCall sp [] E t) := by
  obtain ⟨f, fd, ps, F, hm, kp, b⟩ := c.ex
  exact pe_call F (hr.mono hk) hg hm kp b .nil hx ha hdb he hpl
end

/-! ### displays of many written texts -/
def strOf : Expr → Option Str
  | .Constant (.str x) _ _ => some x
  | _ => none
def strsOf : List Expr → Option (List Str)
  | [] => some []
  | e :: r => match strOf e, strsOf r with
    | some x, some l => some (x :: l)
    | _, _ => none
theorem starEach_strs {env : Env} : ∀ {es : List Expr} {l : List Str}, strsOf es = some l → ∀ {e : Expr} {x : Str}, strOf e = some x → starEach (e :: es) env = (false, eval e env) :: starEach es env := by
  intro es l h e x hx
  unfold strOf at hx
  split at hx
  · rfl
  · cases hx
theorem pa_strsL {X : Cx} : ∀ (es : List Expr) (l : List Str), strsOf es = some l → PA X es (fun _ H Q => Q (l.map V.str) H)
  | [], l, h => by
    have e : l = [] := (Option.some.inj h).symm
    subst e
    exact pa_nil
  | e :: r, l, h => by
    unfold strsOf at h
    split at h
    · rename_i x m hx hm
      have el : l = x :: m := (Option.some.inj h).symm
      subst el
      have q := pa_strsL (X := X) r m hm
      have hs := starEach_strs (env := X.env) hm hx
      unfold strOf at hx
      split at hx
      · rename_i x' j pos
        have ex : x' = x := Option.some.inj hx
        subst ex
        exact pa_cons (te := tC (.str x')) (t := fun _ H Q => Q (m.map V.str) H) pe_str q hs
      · cases hx
    · cases h
theorem pa_strs {X : Cx} {es : List Expr} (l : List Str) (h : strsOf es = some l := by rfl) : PA X es (fun _ H Q => Q (l.map V.str) H) := pa_strsL es l h

/-! ### heaps -/
/-- all that was tracked but the object at t is as it was -/
def But (t : Addr) (H H' : Hp) : Prop := ∀ b o, b ≠ t → H b = some o → H' b = some o
theorem But.refl (t : Addr) (H : Hp) : But t H H := fun _ _ _ h => h
theorem But.trans {t : Addr} {H H1 H2 : Hp} (a : But t H H1) (b : But t H1 H2) : But t H H2 := fun c o n h => b c o n (a c o n h)
theorem But.of {t : Addr} {H H' : Hp} (s : Same H H') : But t H H' := fun b o _ h => s b o h
theorem same_new {H : Hp} {p : Addr} {o : HO} (h : H p = none) : Same H (upd H p o) := fun b u q => by
  rw [upd_ne (ne_of_none q h)]
  exact q
theorem But.upd {t : Addr} {H H1 : Hp} {o : HO} (b : But t H H1) : But t H (upd H1 t o) := fun c u n h => by
  rw [upd_ne n]
  exact b c u n h

/-! ### the tape -/
def tk (c : Addr) (a l se sa : Int) : List (Key × V) := [(.inr "cells", .ref c), (.inr "at", .int a), (.inr "left", .int l), (.inr "seed", .int se), (.inr "salt", .int sa)]
structure TkAt (H : Hp) (t c : Addr) (cs : List Int) (a l se sa : Int) : Prop where
  d : H t = some (.dK (tk c a l se sa))
  cl : H c = some (.lst (cs.map V.int))
  cp : ∀ x ∈ cs, 0 ≤ x
  a0 : 0 ≤ a
  l0 : 0 ≤ l
  s0 : 0 ≤ se
  s1 : se < 2147483647
/-- a tape stands at t -/
def Tp (H : Hp) (t c : Addr) : Prop := ∃ cs a l se sa, TkAt H t c cs a l se sa
theorem TkAt.ne {H : Hp} {t c : Addr} {cs : List Int} {a l se sa : Int} (z : TkAt H t c cs a l se sa) : c ≠ t := ne_of z.cl z.d (by intro q; cases q)
theorem Tp.same {H H' : Hp} {t c : Addr} (s : Same H H') : Tp H t c → Tp H' t c := fun ⟨cs, a, l, se, sa, z⟩ => ⟨cs, a, l, se, sa, s _ _ z.d, s _ _ z.cl, z.cp, z.a0, z.l0, z.s0, z.s1⟩
theorem Tp.ne {H : Hp} {t c b : Addr} (z : Tp H t c) {o : HO} (h : H b = some o) (hn : ∀ kvs, o ≠ .dK kvs) : b ≠ t := by
  obtain ⟨cs, a, l, se, sa, z⟩ := z
  exact ne_of h z.d (hn _)
theorem Tp.nt {H : Hp} {t c b : Addr} (z : Tp H t c) (h : H b = none) : t ≠ b := by
  obtain ⟨cs, a, l, se, sa, z⟩ := z
  exact ne_of_none z.d h
theorem Tp.nc {H : Hp} {t c b : Addr} (z : Tp H t c) (h : H b = none) : c ≠ b := by
  obtain ⟨cs, a, l, se, sa, z⟩ := z
  exact ne_of_none z.cl h
theorem Tp.upd {H : Hp} {t c b : Addr} {o : HO} (z : Tp H t c) (h1 : t ≠ b) (h2 : c ≠ b) : Tp (upd H b o) t c := by
  obtain ⟨cs, a, l, se, sa, z⟩ := z
  exact ⟨cs, a, l, se, sa, by rw [upd_ne h1]; exact z.d, by rw [upd_ne h2]; exact z.cl, z.cp, z.a0, z.l0, z.s0, z.s1⟩
theorem Tp.new {H : Hp} {t c b : Addr} {o : HO} (z : Tp H t c) (h : H b = none) : Tp (L2.upd H b o) t c := z.upd (z.nt h) (z.nc h)
section
variable {c : Addr} {a l se sa v : Int}
theorem g_cells : valV (tk c a l se sa) (.inr "cells") = some (.ref c) := by kernel_rfl
theorem g_at : valV (tk c a l se sa) (.inr "at") = some (.int a) := by kernel_rfl
theorem g_left : valV (tk c a l se sa) (.inr "left") = some (.int l) := by kernel_rfl
theorem g_seed : valV (tk c a l se sa) (.inr "seed") = some (.int se) := by kernel_rfl
theorem g_salt : valV (tk c a l se sa) (.inr "salt") = some (.int sa) := by kernel_rfl
theorem p_at : putK (tk c a l se sa) (.inr "at") (.int v) = tk c v l se sa := by kernel_rfl
theorem p_left : putK (tk c a l se sa) (.inr "left") (.int v) = tk c a v se sa := by kernel_rfl
theorem p_salt : putK (tk c a l se sa) (.inr "salt") (.int v) = tk c a l se v := by kernel_rfl
theorem tk_len : (tk c a l se sa).length < sizeLine := by
  show 5 < sizeLine
  decide
end
section
variable {H : Hp} {t c : Addr} {cs : List Int} {a l se sa v : Int}
theorem TkAt.dg (z : TkAt H t c cs a l se sa) {k : Key} {x : V} (h : valV (tk c a l se sa) k = some x) : DGet H t (kV k) (some x) := h ▸ DGet.k z.d
theorem TkAt.sAt (z : TkAt H t c cs a l se sa) (hv : 0 ≤ v) : TkAt (upd H t (.dK (tk c v l se sa))) t c cs v l se sa :=
  ⟨upd_same, by rw [upd_ne z.ne]; exact z.cl, z.cp, hv, z.l0, z.s0, z.s1⟩
theorem TkAt.sLeft (z : TkAt H t c cs a l se sa) (hv : 0 ≤ v) : TkAt (upd H t (.dK (tk c a v se sa))) t c cs a v se sa :=
  ⟨upd_same, by rw [upd_ne z.ne]; exact z.cl, z.cp, z.a0, hv, z.s0, z.s1⟩
theorem TkAt.sSalt (z : TkAt H t c cs a l se sa) : TkAt (upd H t (.dK (tk c a l se v))) t c cs a l se v :=
  ⟨upd_same, by rw [upd_ne z.ne]; exact z.cl, z.cp, z.a0, z.l0, z.s0, z.s1⟩
theorem TkAt.pAt (z : TkAt H t c cs a l se sa) : DPut H t (.str "at") (.int v) (upd H t (.dK (tk c v l se sa))) := p_at (c := c) (a := a) (l := l) (se := se) (sa := sa) (v := v) ▸ DPut.k (k := .inr "at") z.d tk_len
theorem TkAt.pLeft (z : TkAt H t c cs a l se sa) : DPut H t (.str "left") (.int v) (upd H t (.dK (tk c a v se sa))) := p_left (c := c) (a := a) (l := l) (se := se) (sa := sa) (v := v) ▸ DPut.k (k := .inr "left") z.d tk_len
theorem TkAt.pSalt (z : TkAt H t c cs a l se sa) : DPut H t (.str "salt") (.int v) (upd H t (.dK (tk c a l se v))) := p_salt (c := c) (a := a) (l := l) (se := se) (sa := sa) (v := v) ▸ DPut.k (k := .inr "salt") z.d tk_len
end

/-! ### texts -/
/-- a sign that may stand in a text -/
def okc (c : Nat) : Bool := c == 10 || (decide (32 ≤ c) && decide (c ≤ 126) && c != 37)
def OkT (z : Str) : Prop := ∀ c ∈ z.cps.toList, okc c = true
def okT (z : Str) : Bool := z.cps.toList.all okc
theorem OkT.of {z : Str} (h : okT z = true) : OkT z := List.all_eq_true.mp h
theorem OkT.append {x y : Str} (a : OkT x) (b : OkT y) : OkT (x ++ y) := fun c h => by
  rw [show (x ++ y).cps.toList = x.cps.toList ++ y.cps.toList from TL.tl_append x y] at h
  rcases List.mem_append.mp h with h | h
  · exact a c h
  · exact b c h
theorem joinL_nil : ∀ l : List (List Nat), TL.joinL [] l = l.flatten
  | [] => rfl
  | [p] => by simp [TL.joinL]
  | p :: q :: r => by
    show p ++ ([] ++ TL.joinL [] (q :: r)) = _
    rw [joinL_nil (q :: r), List.nil_append] <;> rfl
theorem tl_join0 (y : Str) (hy : TL.tl y = []) (l : List Str) : TL.tl (Txt.join y l) = (l.map TL.tl).flatten := by
  rw [TL.join_eq, TL.tl_join, hy, joinL_nil]
theorem OkT.join {y : Str} (hy : TL.tl y = []) {l : List Str} (h : ∀ z ∈ l, OkT z) : OkT (Txt.join y l) := fun c hc => by
  rw [show (Txt.join y l).cps.toList = (l.map TL.tl).flatten from tl_join0 y hy l] at hc
  obtain ⟨m, hm, hc⟩ := List.mem_flatten.mp hc
  obtain ⟨z, hz, rfl⟩ := List.mem_map.mp hm
  exact h z hz c hc
theorem sum_len_le {n : Nat} : ∀ {l : List Str}, (∀ z ∈ l, z.length ≤ n) → (l.map (·.length)).sum ≤ n * l.length
  | [], _ => by simp
  | z :: r, h => by
    have ih := sum_len_le (l := r) fun y hy => h y (List.mem_cons_of_mem _ hy)
    have h0 := h z List.mem_cons_self
    rw [List.map_cons, List.sum_cons, List.length_cons, Nat.mul_add]
    omega
theorem flat_len : ∀ l : List Str, ((l.map TL.tl).flatten).length = (l.map (·.length)).sum
  | [] => rfl
  | z :: r => by
    rw [List.map_cons, List.flatten_cons, List.length_append, flat_len r, List.map_cons, List.sum_cons, TL.len_tl z]
theorem join_len (y : Str) (hy : TL.tl y = []) (l : List Str) : (Txt.join y l).length = (l.map (·.length)).sum := by
  rw [TL.len_tl, tl_join0 y hy, flat_len]
theorem small {n : Nat} (h : n ≤ 1000000) : n ≤ sizeLine := Nat.le_trans h (by decide)

/-! ### data that are equal -/
def sca : V → Bool
  | .non => true
  | .bl _ => true
  | .int _ => true
  | .str _ => true
  | _ => false
def Al (H : Hp) : Nat → V → V → Prop
  | 0, _, _ => False
  | n + 1, x, y => (x = y ∧ sca x = true) ∨
    (∃ a b xs ys, x = .ref a ∧ y = .ref b ∧ H a = some (.tup xs) ∧ H b = some (.tup ys) ∧ xs.length = ys.length ∧ xs.length ≤ 1000000 ∧ ∀ (i : Nat) (u v : V), xs[i]? = some u → ys[i]? = some v → Al H n u v) ∨
    (∃ a b xs ys, x = .ref a ∧ y = .ref b ∧ H a = some (.lst xs) ∧ H b = some (.lst ys) ∧ xs.length = ys.length ∧ xs.length ≤ 1000000 ∧ ∀ (i : Nat) (u v : V), xs[i]? = some u → ys[i]? = some v → Al H n u v)
theorem Al.sc {H : Hp} {n : Nat} {x : V} (h : sca x = true) : Al H (n + 1) x x := .inl ⟨rfl, h⟩
theorem Al.same {H H' : Hp} (s : Same H H') : ∀ {n : Nat} {x y : V}, Al H n x y → Al H' n x y
  | 0, _, _, h => h
  | n + 1, x, y, h => by
    rcases h with h | ⟨a, b, xs, ys, e1, e2, h1, h2, hl, hm, h⟩ | ⟨a, b, xs, ys, e1, e2, h1, h2, hl, hm, h⟩
    · exact .inl h
    · exact .inr (.inl ⟨a, b, xs, ys, e1, e2, s _ _ h1, s _ _ h2, hl, hm, fun i u v p q => Al.same s (h i u v p q)⟩)
    · exact .inr (.inr ⟨a, b, xs, ys, e1, e2, s _ _ h1, s _ _ h2, hl, hm, fun i u v p q => Al.same s (h i u v p q)⟩)
theorem Al.tup {H : Hp} {n : Nat} {a b : Addr} {xs ys : List V} (h1 : H a = some (.tup xs)) (h2 : H b = some (.tup ys)) (hl : xs.length = ys.length) (hm : xs.length ≤ 1000000) (h : ∀ (i : Nat) (u v : V), xs[i]? = some u → ys[i]? = some v → Al H n u v) : Al H (n + 1) (.ref a) (.ref b) :=
  .inr (.inl ⟨a, b, xs, ys, rfl, rfl, h1, h2, hl, hm, h⟩)
theorem Al.lst {H : Hp} {n : Nat} {a b : Addr} {xs ys : List V} (h1 : H a = some (.lst xs)) (h2 : H b = some (.lst ys)) (hl : xs.length = ys.length) (hm : xs.length ≤ 1000000) (h : ∀ (i : Nat) (u v : V), xs[i]? = some u → ys[i]? = some v → Al H n u v) : Al H (n + 1) (.ref a) (.ref b) :=
  .inr (.inr ⟨a, b, xs, ys, rfl, rfl, h1, h2, hl, hm, h⟩)
/-- two tuples (lists) of the same plain values -/
theorem al_eq {H : Hp} {n : Nat} {xs : List V} (h : xs.all sca = true) : ∀ (i : Nat) (u v : V), xs[i]? = some u → xs[i]? = some v → Al H (n + 1) u v := fun i u v p q => by
  have e : u = v := Option.some.inj (p.symm.trans q)
  subst e
  exact Al.sc (List.all_eq_true.mp h u (List.mem_of_getElem? p))

/-! ### tests -/
theorem iteP {p A B : Prop} [Decidable p] (hp : p) (h : A) : if decide p = true then A else B := by
  rw [if_pos (decide_eq_true hp)]
  exact h
theorem iteN {p A B : Prop} [Decidable p] (hp : ¬ p) (h : B) : if decide p = true then A else B := by
  rw [if_neg (by rw [decide_eq_false hp]; exact Bool.false_ne_true)]
  exact h
theorem iteNN {p A B : Prop} [Decidable p] (hp : ¬ p) (h : A) : if (!decide p) = true then A else B := by
  rw [decide_eq_false hp]
  exact iteT h
theorem qP {p : Prop} [Decidable p] {Q : VK} {H : Hp} (hp : p) (h : Q (.bl true) H) : Q (.bl (decide p)) H := by
  rw [decide_eq_true hp]
  exact h
theorem none_left {P : Program} {w : World} {K : PySem.W.Frag} {mg : Str → Option Value} {base : Heap} {f : Addr} {fd : FuncData} {ps : List Str} {sp : Sp} (no : ∀ vs H Q E, ¬ sp vs H Q E) : FnOk P w K mg base CX0 0 f fd ps sp :=
  ⟨fun vs H Q E h => absurd h (no vs H Q E), fun A outer s H args us vs Q E _ _ _ _ h => absurd h (no vs H Q E)⟩

/-! ### promises of the law's own helpers -/
def spTape (K : PySem.W.Frag) : Sp := fun vs H Q _ => ∃ (a : Addr) (ns : List Int), vs = [.ref a] ∧ SqL K H a (ns.map V.int) ∧ ns.length ≤ 63 ∧ ∀ t c H', Same H H' → H t = none → H c = none → Tp H' t c → Q (.ref t) H'
def spTake : Sp := fun vs H Q _ => ∃ (t c : Addr) (n : Int), vs = [.ref t, .int n] ∧ Tp H t c ∧ 0 < n ∧ n < 1073741824 ∧ ∀ (r : Int) H', 0 ≤ r → r < n → But t H H' → Tp H' t c → Q (.int r) H'
def spIsInt : Sp := fun vs H Q _ => ∃ i : Int, vs = [.int i] ∧ Q (.bl true) H
def spSame (n : Nat) : Sp := fun vs H Q _ => ∃ x y, vs = [x, y] ∧ Al H n x y ∧ Q (.bl true) H
def spItems (n : Nat) : Sp := fun vs H Q _ => ∃ a b xs ys, vs = [.ref a, .ref b] ∧ ((H a = some (.tup xs) ∧ H b = some (.tup ys)) ∨ (H a = some (.lst xs) ∧ H b = some (.lst ys))) ∧ xs.length = ys.length ∧ xs.length ≤ 1000000 ∧
  (∀ (i : Nat) (u v : V), xs[i]? = some u → ys[i]? = some v → Al H n u v) ∧ Q (.bl true) H
def spSnippet : Sp := fun vs H Q _ => ∃ t c, vs = [.ref t] ∧ Tp H t c ∧ ∀ z H', OkT z → z.length ≤ 45 → But t H H' → Tp H' t c → Q (.str z) H'
def spChar : Sp := fun vs H Q _ => ∃ t c, vs = [.ref t] ∧ Tp H t c ∧ ∀ z H', OkT z → z.length = 1 → But t H H' → Tp H' t c → Q (.str z) H'
def spAny : Sp := fun vs H Q _ => ∃ (t c : Addr) (m : Nat), vs = [.ref t, .int m] ∧ Tp H t c ∧ m ≤ 100 ∧ ∀ z H', OkT z → z.length ≤ 45 * m → But t H H' → Tp H' t c → Q (.str z) H'

/-! ### a text walked sign by sign -/
theorem for_str {x : Str} {g : TG} {tb : TS} {D : Ends} {σ : L2.St} {H : Hp} (Pv : Nat → L2.St → Hp → Prop) (h0 : Pv 0 σ H)
    (hs : ∀ i c σ H, x.cps.toList[i]? = some c → Pv i σ H → g (.str ⟨#[c]⟩) σ H fun σ2 H2 => tb { D with nx := Pv (i + 1), ct := Pv (i + 1), bk := D.nx } σ2 H2) (hd : ∀ σ H, Pv x.cps.toList.length σ H → D.nx σ H) :
    ∃ W : Nat → Nat → L2.St → Hp → Prop, (∃ m, W 0 m σ H) ∧ ∀ i m σ H, W i m σ H →
      ((Its x).stop i H ∧ D.nx σ H) ∨ ((Its x).go i H ∧ ∃ Nx : L2.St → Hp → Prop, (∀ σ' H', Nx σ' H' → ∃ m', m' < m ∧ W (i + 1) m' σ' H') ∧ ∀ y H', (Its x).yld i H y H' → g y σ H' fun σ2 H2 => tb { D with nx := Nx, ct := Nx, bk := D.nx } σ2 H2) := by
  refine ⟨fun i m σ H => m = x.cps.toList.length - i ∧ i ≤ x.cps.toList.length ∧ Pv i σ H, ⟨x.cps.toList.length, by simp, Nat.zero_le _, h0⟩, ?_⟩
  rintro i m σ H ⟨rfl, hi, p⟩
  have hsz : x.cps.toList.length = x.cps.size := Array.length_toList
  by_cases hlt : i < x.cps.toList.length
  · refine .inr ⟨by show i < x.cps.size; omega, Pv (i + 1), fun σ' H' p' => ⟨x.cps.toList.length - (i + 1), by omega, rfl, hlt, p'⟩, fun y H' z => ?_⟩
    obtain ⟨e, c, hc, z⟩ := z
    subst e z
    exact hs i c σ _ (by rw [Array.getElem?_toList]; exact hc) p
  · have e : i = x.cps.toList.length := by omega
    subst e
    exact .inl ⟨by show x.cps.size ≤ _; omega, hd σ H p⟩
/-! ### a while by an invariant and a measure -/
theorem while_m {c : TT} {tb : TS} {D : Ends} {σ : L2.St} {H : Hp} (Pv : L2.St → Hp → Prop) (μ : L2.St → Hp → Nat) (h0 : Pv σ H)
    (hs : ∀ σ H, Pv σ H → c σ H fun b H1 => if b = true then ∃ N : L2.St → Hp → Prop, (∀ σ' H', N σ' H' → ∃ m', m' < μ σ H ∧ m' = μ σ' H' ∧ Pv σ' H') ∧ tb { D with nx := N, ct := N, bk := D.nx } σ H1 else D.nx σ H1) : tWhile c tb D σ H :=
  ⟨fun m σ H => m = μ σ H ∧ Pv σ H, ⟨_, rfl, h0⟩, fun m σ H h => by
    obtain ⟨rfl, p⟩ := h
    exact hs σ H p⟩
theorem wN {Pv : L2.St → Hp → Prop} {μ : L2.St → Hp → Nat} {k : Nat} {tb : TS} {D : Ends} {σ : L2.St} {H1 : Hp} (h : tb { D with nx := fun σ' H' => Pv σ' H' ∧ μ σ' H' < k, ct := fun σ' H' => Pv σ' H' ∧ μ σ' H' < k, bk := D.nx } σ H1) :
    ∃ N : L2.St → Hp → Prop, (∀ σ' H', N σ' H' → ∃ m', m' < k ∧ m' = μ σ' H' ∧ Pv σ' H') ∧ tb { D with nx := N, ct := N, bk := D.nx } σ H1 := ⟨_, fun _ _ n => ⟨_, n.2, rfl, n.1⟩, h⟩
def spLaw (K : PySem.W.Frag) : Sp := fun vs H Q _ => ∃ (a : Addr) (ns : List Int), vs = [.ref a] ∧ SqL K H a (ns.map V.int) ∧ ns.length ≤ 63 ∧ ∀ H', Q (.bl true) H'
end Sn

/-! Mathematics of texts: counting a sign, the last one, lines, cuts. -/
namespace Sn
open PySem PySem.Spec PyProof.Rows L2 PySem.StrLaws PySem.Builtin.Str TL
abbrev strL (l : List Nat) : Str := ⟨l.toArray⟩
/-! ### cuts -/
theorem tl_cut (z : Str) (lo hi : Option Int) : tl (cutS z lo hi) = ((tl z).drop (HT.sIx z.length 0 lo)).take (HT.sIx z.length z.length hi - HT.sIx z.length 0 lo) := rfl
theorem tl_cut_to (z : Str) (o : Nat) : tl (cutS z none (some (o : Int))) = (tl z).take o := by
  rw [tl_cut, HT.sIx_none, HT.sIx_nat, List.drop_zero, Nat.sub_zero, len_tl, List.take_eq_take_iff]
  omega
theorem tl_cut_from (z : Str) (o : Nat) : tl (cutS z (some (o : Int)) none) = (tl z).drop o := by
  rw [tl_cut, HT.sIx_none, HT.sIx_nat, len_tl]
  by_cases h : o ≤ (tl z).length
  · rw [Nat.min_eq_left h, List.take_of_length_le (by rw [List.length_drop] <;> omega)]
  · rw [Nat.min_eq_right (by omega), Nat.sub_self, List.take_zero, List.drop_eq_nil_of_le (by omega)]
theorem tl_cut_mid (z : Str) (a b : Nat) (h : a ≤ (tl z).length) : tl (cutS z (some (a : Int)) (some (b : Int))) = ((tl z).drop a).take (b - a) := by
  rw [tl_cut, HT.sIx_nat, HT.sIx_nat, len_tl, Nat.min_eq_left h, List.take_eq_take_iff, List.length_drop]
  omega
theorem len_eq (z : Str) : z.length = (tl z).length := len_tl z
/-! ### counting one sign -/
theorem drop_take_cons {l : List Nat} {a hi : Nat} (h : a < hi) (hl : hi ≤ l.length) : ∃ (h2 : a < l.length), (l.take hi).drop a = l[a] :: (l.take hi).drop (a + 1) := by
  have h2 : a < (l.take hi).length := by rw [List.length_take]; omega
  refine ⟨by omega, ?_⟩
  rw [List.drop_eq_getElem_cons h2, List.getElem_take]
theorem drop_take_nil {l : List Nat} {a hi : Nat} (h : hi ≤ a) : (l.take hi).drop a = [] := List.drop_eq_nil_of_le (by rw [List.length_take]; omega)
theorem occ_cnt (x : Str) (c hi limit : Nat) (hhi : hi ≤ (tl x).length) : ∀ (m a : Nat) (st : Array Nat × Nat), st.2 ≤ a → st.1.size + m ≤ limit → a + m = hi + 1 →
    (forIn (List.range' a m) st (occBody x ⟨#[c]⟩ hi limit)).run.fst.size = st.1.size + (((tl x).take hi).drop a).count c
  | 0, a, st, _, _, e => by
    rw [drop_take_nil (by omega)]
    rfl
  | m + 1, a, st, hf, hl, e => by
    have one : ∀ i, (i + (⟨#[c]⟩ : Str).length ≤ hi ∧ subAt x ⟨#[c]⟩ i = true) ↔ i < hi ∧ (tl x)[i]? = some c := fun i => by
      have k := subAt_one x c i
      have hx : x.length = (tl x).length := len_tl x
      have h1 : (⟨#[c]⟩ : Str).length = 1 := rfl
      constructor
      · intro h
        have z := k.mp ⟨by omega, h.2⟩
        exact ⟨by omega, z⟩
      · intro h
        have z := k.mpr h.2
        exact ⟨by omega, z.2⟩
    rw [List.range'_succ, List.forIn_cons]
    unfold occBody
    by_cases ha : a < hi
    · obtain ⟨h2, e2⟩ := drop_take_cons ha hhi
      rw [e2, List.count_cons]
      by_cases hc : (tl x)[a] = c
      · have k := (one a).mpr ⟨ha, by rw [List.getElem?_eq_getElem h2, hc]⟩
        rw [if_pos ⟨⟨⟨by omega, hf⟩, k.1⟩, k.2⟩]
        have ih := occ_cnt x c hi limit hhi m (a + 1) (st.1.push a, a + (⟨#[c]⟩ : Str).length) (Nat.le_refl _) (by show (st.1.push a).size + m ≤ limit; rw [Array.size_push]; omega) (by omega)
        have e3 : (st.1.push a).size = st.1.size + 1 := Array.size_push ..
        show (forIn (List.range' (a + 1) m) (st.1.push a, a + (⟨#[c]⟩ : Str).length) (occBody x ⟨#[c]⟩ hi limit)).run.fst.size = _
        rw [ih, e3, hc]
        simp
        omega
      · have k : ¬ ((((st.1.size < limit ∧ st.2 ≤ a) ∧ a + (⟨#[c]⟩ : Str).length ≤ hi) ∧ subAt x ⟨#[c]⟩ a = true)) := fun h => by
          have z := (one a).mp ⟨h.1.2, h.2⟩
          rw [List.getElem?_eq_getElem h2] at z
          exact hc (Option.some.inj z.2)
        rw [if_neg k]
        have ih := occ_cnt x c hi limit hhi m (a + 1) (st.1, st.2) (by show st.2 ≤ a + 1; omega) (by show st.1.size + m ≤ limit; omega) (by omega)
        show (forIn (List.range' (a + 1) m) (st.1, st.2) (occBody x ⟨#[c]⟩ hi limit)).run.fst.size = _
        rw [ih]
        have e4 : ((tl x)[a] == c) = false := beq_eq_false_iff_ne.mpr hc
        rw [e4, if_neg Bool.false_ne_true]
        rfl
    · have k : ¬ ((((st.1.size < limit ∧ st.2 ≤ a) ∧ a + (⟨#[c]⟩ : Str).length ≤ hi) ∧ subAt x ⟨#[c]⟩ a = true)) := fun h => by
        have z := (one a).mp ⟨h.1.2, h.2⟩
        omega
      rw [if_neg k]
      have em : m = 0 := by omega
      subst em
      rw [drop_take_nil (by omega)]
      rfl
theorem occ_count (x : Str) (c hi : Nat) (hhi : hi ≤ (tl x).length) : (occurrences x ⟨#[c]⟩ 0 hi (x.length + 1)).length = ((tl x).take hi).count c := by
  rw [occ_eq, Array.length_toList]
  have k := occ_cnt x c hi (x.length + 1) hhi (hi + 1 - 0) 0 (#[], 0) (Nat.le_refl _) (by show 0 + (hi + 1 - 0) ≤ x.length + 1; rw [len_tl]; omega) (by omega)
  rw [k, List.drop_zero]
  show 0 + _ = _
  omega
theorem count_all (x : Str) (c : Nat) : Txt.count x ⟨#[c]⟩ = (((tl x).count c : Nat) : Int) := by
  show (((occurrences x ⟨#[c]⟩ 0 x.length (x.length + 1)).length : Nat) : Int) = _
  rw [occ_count x c x.length (by rw [len_tl]; exact Nat.le_refl _), len_tl, List.take_length]
theorem toW (n o : Nat) (h : o ≤ n) : toIndexW n (o : Int) = o := by
  unfold toIndexW
  rw [if_neg (by omega)]
  omega
theorem fromI (n o : Nat) : fromIndex n (o : Int) = o := by
  unfold fromIndex
  rw [if_neg (by omega)]
  omega
theorem count_in (x : Str) (c o : Nat) (h : o ≤ (tl x).length) : Txt.countIn x ⟨#[c]⟩ 0 (o : Int) = ((((tl x).take o).count c : Nat) : Int) := by
  unfold Txt.countIn
  rw [toW _ _ (by rw [len_tl]; exact h), show fromIndex x.length 0 = 0 from fromI x.length 0, occ_count x c o h]
/-! ### the last newline -/
/-- how many signs stand behind the last c, k of them ahead -/
def colF (c k : Nat) : List Nat → Nat
  | [] => k
  | d :: r => if d = c then colF c 0 r else colF c (k + 1) r
theorem colF_snoc (c d : Nat) : ∀ (l : List Nat) (k : Nat), colF c k (l ++ [d]) = if d = c then 0 else colF c k l + 1
  | [], k => by
    show (if d = c then colF c 0 [] else colF c (k + 1) []) = _
    rfl
  | e :: r, k => by
    show (if e = c then colF c 0 (r ++ [d]) else colF c (k + 1) (r ++ [d])) = _
    rw [colF_snoc c d r 0, colF_snoc c d r (k + 1)]
    by_cases h : e = c
    · rw [if_pos h]
      show _ = if d = c then 0 else (if e = c then colF c 0 r else colF c (k + 1) r) + 1
      rw [if_pos h]
    · rw [if_neg h]
      show _ = if d = c then 0 else (if e = c then colF c 0 r else colF c (k + 1) r) + 1
      rw [if_neg h]
theorem colF_le (c : Nat) : ∀ (l : List Nat) (k : Nat), colF c k l ≤ k + l.length
  | [], k => Nat.le_refl _
  | e :: r, k => by
    show (if e = c then colF c 0 r else colF c (k + 1) r) ≤ k + (r.length + 1)
    have h0 := colF_le c r 0
    have h1 := colF_le c r (k + 1)
    split <;> omega
def valO : Option Nat → Nat
  | none => 0
  | some k => k + 1
theorem last_col (x : Str) (c hi : Nat) (hhi : hi ≤ (tl x).length) : ∀ (m a : Nat) (st : Option Nat), valO st ≤ a → a + m = hi + 1 → a ≤ hi →
    valO (forIn (List.range' a m) st (lastBody x ⟨#[c]⟩ hi)).run ≤ hi ∧ hi - valO (forIn (List.range' a m) st (lastBody x ⟨#[c]⟩ hi)).run = colF c (a - valO st) (((tl x).take hi).drop a)
  | 0, a, st, _, e, _ => by omega
  | m + 1, a, st, hf, e, hah => by
    have one : ∀ i, (i + (⟨#[c]⟩ : Str).length ≤ hi ∧ subAt x ⟨#[c]⟩ i = true) ↔ i < hi ∧ (tl x)[i]? = some c := fun i => by
      have k := subAt_one x c i
      have hx : x.length = (tl x).length := len_tl x
      have h1 : (⟨#[c]⟩ : Str).length = 1 := rfl
      constructor
      · intro h
        have z := k.mp ⟨by omega, h.2⟩
        exact ⟨by omega, z⟩
      · intro h
        have z := k.mpr h.2
        exact ⟨by omega, z.2⟩
    rw [List.range'_succ, List.forIn_cons]
    unfold lastBody
    by_cases ha : a < hi
    · obtain ⟨h2, e2⟩ := drop_take_cons ha hhi
      rw [e2]
      by_cases hc : (tl x)[a] = c
      · have k := (one a).mpr ⟨ha, by rw [List.getElem?_eq_getElem h2, hc]⟩
        rw [if_pos k]
        have ih := last_col x c hi hhi m (a + 1) (some a) (Nat.le_refl _) (by omega) (by omega)
        show valO (forIn (List.range' (a + 1) m) (some a) (lastBody x ⟨#[c]⟩ hi)).run ≤ hi ∧ hi - valO (forIn (List.range' (a + 1) m) (some a) (lastBody x ⟨#[c]⟩ hi)).run = if (tl x)[a] = c then _ else _
        rw [if_pos hc]
        have e5 : a + 1 - valO (some a) = 0 := by
          show a + 1 - (a + 1) = 0
          omega
        rw [e5] at ih
        exact ih
      · have k : ¬ (a + (⟨#[c]⟩ : Str).length ≤ hi ∧ subAt x ⟨#[c]⟩ a = true) := fun h => by
          have z := (one a).mp h
          rw [List.getElem?_eq_getElem h2] at z
          exact hc (Option.some.inj z.2)
        rw [if_neg k]
        have ih := last_col x c hi hhi m (a + 1) st (by omega) (by omega) (by omega)
        show valO (forIn (List.range' (a + 1) m) st (lastBody x ⟨#[c]⟩ hi)).run ≤ hi ∧ hi - valO (forIn (List.range' (a + 1) m) st (lastBody x ⟨#[c]⟩ hi)).run = if (tl x)[a] = c then _ else _
        rw [if_neg hc]
        have e5 : a + 1 - valO st = a - valO st + 1 := by omega
        rw [e5] at ih
        exact ih
    · have k : ¬ (a + (⟨#[c]⟩ : Str).length ≤ hi ∧ subAt x ⟨#[c]⟩ a = true) := fun h => by
        have z := (one a).mp h
        omega
      rw [if_neg k]
      have em : m = 0 := by omega
      subst em
      rw [drop_take_nil (by omega)]
      show valO st ≤ hi ∧ hi - valO st = a - valO st
      omega
/-- x.rfind(c, 0, o) + 1 is where the last line of x[:o] begins -/
theorem rfind_col (x : Str) (c o : Nat) (h : o ≤ (tl x).length) : ∃ b : Nat, Txt.rfindIn x ⟨#[c]⟩ 0 (o : Int) + 1 = (b : Int) ∧ b ≤ o ∧ o - b = colF c 0 ((tl x).take o) := by
  unfold Txt.rfindIn
  rw [toW _ _ (by rw [len_tl]; exact h), show fromIndex x.length 0 = 0 from fromI x.length 0, last_eq]
  have k := last_col x c o h (o + 1 - 0) 0 none (Nat.le_refl _) (by omega) (Nat.zero_le _)
  rw [List.drop_zero] at k
  refine ⟨_, ?_, k.1, k.2⟩
  cases (forIn (List.range' 0 (o + 1 - 0)) none (lastBody x ⟨#[c]⟩ o)).run with
  | none => rfl
  | some j => rfl
/-! ### lines -/
def rows (c : Nat) : List Nat → List Nat → List (List Nat)
  | acc, [] => [acc]
  | acc, d :: r => if d = c then acc :: rows c [] r else rows c (acc ++ [d]) r
theorem spl_rows (c : Nat) : ∀ (l acc : List Nat), spl [c] 0 acc l = rows c acc l
  | [], acc => by rw [spl_nil]; rfl
  | d :: r, acc => by
    by_cases h : d = c
    · have p : TL.pre [c] (d :: r) = true := by rw [h]; simp [TL.pre]
      rw [spl_hit p]
      show acc :: spl [c] 0 [] r = if d = c then _ else _
      rw [if_pos h, spl_rows c r []]
    · have p : TL.pre [c] (d :: r) = false := pre_of_head [] r h
      rw [spl_miss p, spl_rows c r (acc ++ [d])]
      show _ = if d = c then _ else _
      rw [if_neg h]
theorem split_rows (x : Str) (c : Nat) (hc : c < 256) : (Txt.split x ⟨#[c]⟩).map tl = rows c [] (tl x) := by
  rw [split_spl x ⟨#[c]⟩ (by show [c] ≠ []; simp) (kind_ok (by simp [hc]))]
  exact spl_rows c (tl x) []
theorem rows_len (c : Nat) : ∀ (l acc : List Nat), (rows c acc l).length = l.count c + 1
  | [], acc => rfl
  | d :: r, acc => by
    show (if d = c then acc :: rows c [] r else rows c (acc ++ [d]) r).length = _
    rw [List.count_cons]
    by_cases h : d = c
    · rw [if_pos h, List.length_cons, rows_len c r []]
      simp [h]
    · have h' : (d == c) = false := by simpa using h
      rw [if_neg h, rows_len c r]
      simp [h']
/-- the lengths of lines with their newlines -/
def lens (rs : List (List Nat)) : Nat := (rs.map fun r => r.length + 1).sum
theorem rows_at (c : Nat) : ∀ (l acc : List Nat) (o : Nat), o ≤ l.length → ∃ row, (rows c acc l)[(l.take o).count c]? = some row ∧ colF c acc.length (l.take o) ≤ row.length ∧
    lens ((rows c acc l).take ((l.take o).count c)) + colF c acc.length (l.take o) = acc.length + o
  | l, acc, 0, _ => by
    rw [List.take_zero]
    show ∃ row, (rows c acc l)[0]? = some row ∧ acc.length ≤ row.length ∧ lens ((rows c acc l).take 0) + acc.length = acc.length + 0
    have : ∀ (l acc : List Nat), ∃ row, (rows c acc l)[0]? = some row ∧ acc.length ≤ row.length := by
      intro l
      induction l with
      | nil => exact fun acc => ⟨acc, rfl, Nat.le_refl _⟩
      | cons d r ih =>
        intro acc
        show ∃ row, (if d = c then acc :: rows c [] r else rows c (acc ++ [d]) r)[0]? = some row ∧ _
        by_cases h : d = c
        · rw [if_pos h]
          exact ⟨acc, rfl, Nat.le_refl _⟩
        · rw [if_neg h]
          obtain ⟨row, h1, h2⟩ := ih (acc ++ [d])
          rw [List.length_append] at h2
          exact ⟨row, h1, by omega⟩
    obtain ⟨row, h1, h2⟩ := this l acc
    refine ⟨row, h1, h2, ?_⟩
    rw [List.take_zero]
    show 0 + acc.length = acc.length + 0
    omega
  | [], acc, o + 1, h => absurd h (by simp)
  | d :: r, acc, o + 1, h => by
    have ho : o ≤ r.length := by simpa using h
    rw [List.take_succ_cons, List.count_cons]
    by_cases e : d = c
    · subst e
      have ih := rows_at d r [] o ho
      obtain ⟨row, h1, h2, h3⟩ := ih
      have er : rows d acc (d :: r) = acc :: rows d [] r := by
        show (if d = d then _ else _) = _
        rw [if_pos rfl]
      have ec : colF d acc.length (d :: r.take o) = colF d 0 (r.take o) := by
        show (if d = d then _ else _) = _
        rw [if_pos rfl]
      rw [er, ec]
      simp only [beq_self_eq_true, if_true]
      refine ⟨row, by rw [List.getElem?_cons_succ]; exact h1, h2, ?_⟩
      rw [List.take_succ_cons]
      show (acc.length + 1) + lens _ + _ = _
      simp only [List.length_nil] at h3
      unfold lens at h3 ⊢
      omega
    · have er : rows c acc (d :: r) = rows c (acc ++ [d]) r := by
        show (if d = c then _ else _) = _
        rw [if_neg e]
      have ec : colF c acc.length (d :: r.take o) = colF c (acc.length + 1) (r.take o) := by
        show (if d = c then _ else _) = _
        rw [if_neg e]
      have eb : (d == c) = false := by simpa using e
      have ih := rows_at c r (acc ++ [d]) o ho
      rw [er, ec]
      simp only [eb, Bool.false_eq_true, if_false, Nat.add_zero]
      obtain ⟨row, h1, h2, h3⟩ := ih
      rw [List.length_append, List.length_singleton] at h2 h3
      exact ⟨row, h1, h2, by omega⟩
theorem join_lens (y : List Nat) (hy : y.length = 1) : ∀ rs : List (List Nat), rs ≠ [] → (joinL y rs).length + 1 = lens rs
  | [], h => absurd rfl h
  | [p], _ => by
    show p.length + 1 = (p.length + 1) + 0
    omega
  | p :: q :: r, _ => by
    show (p ++ (y ++ joinL y (q :: r))).length + 1 = (p.length + 1) + lens (q :: r)
    have ih := join_lens y hy (q :: r) (by simp)
    rw [List.length_append, List.length_append]
    omega
end Sn

/-! Mathematics of tokens. -/
namespace Sn
open PySem PySem.Spec PyProof.Rows L2 TL PySem.StrLaws PySem.Builtin.Str
/-! ### runs -/
def run (p : Nat → Bool) (l : List Nat) (i : Nat) : Nat := i + ((l.drop i).takeWhile p).length
theorem run_step {p : Nat → Bool} {l : List Nat} {i c : Nat} (h : l[i]? = some c) (hp : p c = true) : run p l i = run p l (i + 1) := by
  obtain ⟨hi, e⟩ := List.getElem?_eq_some_iff.mp h
  unfold run
  rw [List.drop_eq_getElem_cons hi, e, List.takeWhile_cons, if_pos hp, List.length_cons]
  omega
theorem run_stop {p : Nat → Bool} {l : List Nat} {i c : Nat} (h : l[i]? = some c) (hp : p c = false) : run p l i = i := by
  obtain ⟨hi, e⟩ := List.getElem?_eq_some_iff.mp h
  unfold run
  rw [List.drop_eq_getElem_cons hi, e, List.takeWhile_cons, if_neg (by rw [hp]; exact Bool.false_ne_true)]
  rfl
theorem run_end {p : Nat → Bool} {l : List Nat} {i : Nat} (h : l.length ≤ i) : run p l i = i := by
  unfold run
  rw [List.drop_eq_nil_of_le h]
  rfl
theorem run_ge (p : Nat → Bool) (l : List Nat) (i : Nat) : i ≤ run p l i := Nat.le_add_right _ _
theorem run_le {p : Nat → Bool} {l : List Nat} {i : Nat} (h : i ≤ l.length) : run p l i ≤ l.length := by
  unfold run
  have := (List.takeWhile_prefix (l := l.drop i) p).length_le
  rw [List.length_drop] at this
  omega
theorem run_at {p : Nat → Bool} {l : List Nat} : ∀ (m i a : Nat), a = i + m → (∀ k c, i ≤ k → k < a → l[k]? = some c → p c = true) → a ≤ l.length → (∀ c, l[a]? = some c → p c = false) → run p l i = a
  | 0, i, a, e, _, hl, hs => by
    have e : a = i := e
    subst e
    cases h : l[a]? with
    | none => exact run_end (List.getElem?_eq_none_iff.mp h)
    | some c => exact run_stop h (hs c h)
  | m + 1, i, a, e, hr, hl, hs => by
    have hi : i < l.length := by omega
    have hg := List.getElem?_eq_getElem hi
    rw [run_step hg (hr i _ (Nat.le_refl _) (by omega) hg)]
    exact run_at m (i + 1) a (by omega) (fun k c h1 h2 h3 => hr k c (by omega) h2 h3) hl hs
theorem run_in {p : Nat → Bool} {l : List Nat} : ∀ (m i : Nat), l.length = i + m → ∀ k c, i ≤ k → k < run p l i → l[k]? = some c → p c = true
  | 0, i, e, k, c, h1, h2, h3 => by
    rw [run_end (by omega)] at h2
    omega
  | m + 1, i, e, k, c, h1, h2, h3 => by
    have hi : i < l.length := by omega
    have hg := List.getElem?_eq_getElem hi
    by_cases hp : p l[i] = true
    · rw [run_step hg hp] at h2
      by_cases hk : k = i
      · subst hk
        rw [hg] at h3
        rw [← Option.some.inj h3]
        exact hp
      · exact run_in m (i + 1) (by omega) k c (by omega) h2 h3
    · rw [run_stop hg (Bool.eq_false_iff.mpr hp)] at h2
      omega
/-! ### signs -/
def isL (c : Nat) : Bool := (decide (97 ≤ c) && decide (c ≤ 122)) || (decide (65 ≤ c) && decide (c ≤ 90))
def isD (c : Nat) : Bool := decide (48 ≤ c) && decide (c ≤ 57)
def isW (c : Nat) : Bool := isL c || (isD c || c == 95)
def wds : List Str := ["\x69mport", "data", "trait", "with", "impl", "for", "def", "let", "in", "if", "then", "else", "loop", "times", "do", "not", "and", "or", "True", "False"]
def sgs : Str := "()[],:.=<+-*/"
/-- x.find(c, o): the end of the run of other signs, or -1 -/
theorem find_run (x : Str) (c o : Nat) (ho : o ≤ (tl x).length) : Txt.find3 x ⟨#[c]⟩ (o : Int) = if run (fun d => d != c) (tl x) o < (tl x).length then ((run (fun d => d != c) (tl x) o : Nat) : Int) else -1 := by
  have hx : x.length = (tl x).length := len_tl x
  have one : ∀ i, At x ⟨#[c]⟩ x.length i ↔ (tl x)[i]? = some c := fun i => subAt_one x c i
  have hf : fromIndex x.length (o : Int) = o := fromI _ _
  have h3 : Txt.find3 x ⟨#[c]⟩ (o : Int) = (match occurrences x ⟨#[c]⟩ o x.length 1 with | k :: _ => (k : Int) | [] => -1) := by
    show (match occurrences x ⟨#[c]⟩ (fromIndex x.length (o : Int)) x.length 1 with | k :: _ => (k : Int) | [] => -1) = _
    rw [hf]
  rw [h3, occ_eq]
  rcases occ_first x ⟨#[c]⟩ x.length 1 (Nat.le_refl 1) (List.range' o (x.length + 1 - o)) o (fun i hi => (List.mem_range'_1.mp hi).1) with ⟨h0, hn⟩ | ⟨pre, a, post, e, h0, ha, hn⟩
  · rw [h0]
    have er : run (fun d => d != c) (tl x) o = (tl x).length := run_at ((tl x).length - o) o (tl x).length (by omega) (fun k d h1 h2 h4 => by
      have k2 := hn k (List.mem_range'_1.mpr ⟨h1, by omega⟩)
      rw [one, h4] at k2
      simpa using fun z : d = c => k2 (by rw [z])) (Nat.le_refl _) (fun d h => by
        rw [List.getElem?_eq_none (Nat.le_refl _)] at h
        cases h)
    rw [er, if_neg (Nat.lt_irrefl _)]
  · have hoa : o ≤ a ∧ a < o + (x.length + 1 - o) := List.mem_range'_1.mp (by rw [e]; simp)
    have hac := (one a).mp ha
    have hal := (List.getElem?_eq_some_iff.mp hac).1
    have hpre : ∀ k, o ≤ k → k < a → k ∈ pre := by
      intro k h1 h2
      have hm : k ∈ List.range' o (x.length + 1 - o) := List.mem_range'_1.mpr ⟨h1, by omega⟩
      rw [e] at hm
      rcases List.mem_append.mp hm with hm | hm
      · exact hm
      · have hs : (List.range' o (x.length + 1 - o)).Pairwise (· < ·) := by
          first
            | exact List.pairwise_lt_range'
            | simpa using List.pairwise_lt_range' (s := o) (n := x.length + 1 - o)
        rw [e] at hs
        have h5 := (List.pairwise_cons.mp (List.pairwise_append.mp hs).2.1).1
        rcases List.mem_cons.mp hm with hm | hm
        · omega
        · have := h5 k hm
          omega
    have er : run (fun d => d != c) (tl x) o = a := run_at (a - o) o a (by omega) (fun k d h1 h2 h4 => by
      have k2 := hn k (hpre k h1 h2)
      rw [one, h4] at k2
      simpa using fun z : d = c => k2 (by rw [z])) (by omega) (fun d h => by
        rw [hac] at h
        rw [← Option.some.inj h]
        simp)
    rw [er, if_pos hal]
    generalize (forIn (List.range' o (x.length + 1 - o)) ((#[] : Array Nat), o) (occBody x ⟨#[c]⟩ x.length 1)).run.fst = arr at h0
    have h1 : arr.toList[0]? = some a := by simpa using h0
    cases hL : arr.toList with
    | nil => rw [hL] at h1; cases h1
    | cons b t =>
      rw [hL] at h1
      have : b = a := Option.some.inj h1
      rw [this]
/-! ### tokens -/
abbrev Tok := Str × Nat × Nat
def tokC (l : List Nat) (i c : Nat) : Tok :=
  if isL c = true then (if inV (.str (strL ((l.drop i).take (run isW l i - i)))) (wds.map V.str) = true then "word" else "name", i, run isW l i)
  else if isD c = true then ("number", i, run isD l i)
  else if (l.drop i).take 2 = [61, 61] then ("sign", i, i + 2)
  else (if c ∈ tl sgs then "sign" else "wrong", i, i + 1)
theorem tok_end {l : List Nat} {i c : Nat} (h : l[i]? = some c) : i < (tokC l i c).2.2 ∧ (tokC l i c).2.2 ≤ l.length := by
  have hi := (List.getElem?_eq_some_iff.mp h).1
  unfold tokC
  by_cases h1 : isL c = true
  · rw [if_pos h1]
    have hw : isW c = true := by unfold isW; rw [h1]; rfl
    have := run_ge isW l (i + 1)
    have h4 := run_le (p := isW) (l := l) (i := i) (by omega)
    have := run_step h hw
    exact ⟨by show i < run isW l i; omega, h4⟩
  · rw [if_neg h1]
    by_cases h2 : isD c = true
    · rw [if_pos h2]
      have := run_ge isD l (i + 1)
      have h3 := run_le (p := isD) (l := l) (i := i) (by omega)
      have := run_step h h2
      exact ⟨by show i < run isD l i; omega, h3⟩
    · rw [if_neg h2]
      by_cases h3 : (l.drop i).take 2 = [61, 61]
      · rw [if_pos h3]
        have := congrArg List.length h3
        rw [List.length_take, List.length_drop] at this
        have e : ([61, 61] : List Nat).length = 2 := rfl
        exact ⟨by show i < i + 2; omega, by show i + 2 ≤ l.length; omega⟩
      · rw [if_neg h3]
        exact ⟨by show i < i + 1; omega, by show i + 1 ≤ l.length; omega⟩
/-- the tokens at the places of s, the first of which is a; none begins ahead of b; cm: in a comment -/
def scan (l : List Nat) : List Nat → Nat → Nat → Bool → List Tok
  | [], _, _, _ => []
  | c :: r, a, b, cm =>
    if a < b ∨ (cm = true ∧ c ≠ 10) ∨ c = 32 ∨ c = 10 then scan l r (a + 1) b (cm && c != 10)
    else if c = 35 then scan l r (a + 1) b true
    else tokC l a c :: scan l r (a + 1) (tokC l a c).2.2 false
theorem scan_behind (l : List Nat) : ∀ (s : List Nat) (a b : Nat) (cm : Bool), b ≤ a → scan l s a b cm = scan l s a 0 cm
  | [], _, _, _, _ => rfl
  | c :: r, a, b, cm, h => by
    show (if a < b ∨ _ then _ else _) = (if a < 0 ∨ _ then _ else _)
    have e : (a < b ∨ (cm = true ∧ c ≠ 10) ∨ c = 32 ∨ c = 10) ↔ (a < 0 ∨ (cm = true ∧ c ≠ 10) ∨ c = 32 ∨ c = 10) :=
      ⟨fun z => z.elim (fun k => absurd k (by omega)) .inr, fun z => z.elim (fun k => absurd k (by omega)) .inr⟩
    by_cases k : a < 0 ∨ (cm = true ∧ c ≠ 10) ∨ c = 32 ∨ c = 10
    · rw [if_pos (e.mpr k), if_pos k, scan_behind l r (a + 1) b _ (by omega)]
    · rw [if_neg fun z => k (e.mp z), if_neg k, scan_behind l r (a + 1) b _ (by omega)]
theorem scan_skip (l : List Nat) : ∀ (s : List Nat) (a b : Nat), a ≤ b → scan l s a b false = scan l (s.drop (b - a)) b 0 false
  | [], a, b, _ => by rw [List.drop_nil]; rfl
  | c :: r, a, b, h => by
    by_cases e : a = b
    · subst e
      rw [Nat.sub_self, List.drop_zero, scan_behind l (c :: r) a a false (Nat.le_refl _)]
    · show (if a < b ∨ _ then _ else _) = _
      rw [if_pos (.inl (by omega))]
      have e2 : b - a = (b - (a + 1)) + 1 := by omega
      rw [e2, List.drop_succ_cons]
      exact scan_skip l r (a + 1) b (by omega)
theorem scan_comment (l : List Nat) : ∀ (k : Nat) (s : List Nat) (a : Nat), (∀ j, j < k → s[j]? ≠ some 10) → (s[k]? = none ∨ s[k]? = some 10) → scan l s a 0 true = scan l (s.drop k) (a + k) 0 false
  | 0, s, a, _, h => by
    rw [List.drop_zero, Nat.add_zero]
    cases s with
    | nil => rfl
    | cons c r =>
      have hc : c = 10 := by
        rcases h with h | h
        · cases h
        · exact Option.some.inj h
      subst hc
      show (if _ then _ else _) = (if _ then _ else _)
      rw [if_pos (.inr (.inr (.inr rfl))), if_pos (.inr (.inr (.inr rfl)))]
      rfl
  | k + 1, [], a, _, _ => by rw [List.drop_nil]; rfl
  | k + 1, c :: r, a, hn, h => by
    have hc : c ≠ 10 := fun z => hn 0 (by omega) (by rw [z]; rfl)
    show (if _ then _ else _) = _
    rw [if_pos (.inr (.inl ⟨rfl, hc⟩)), List.drop_succ_cons]
    have e : (true && c != 10) = true := by simpa using hc
    rw [e, scan_comment l k r (a + 1) (fun j hj => hn (j + 1) (by omega)) h]
    congr 1
    omega
/-- the tokens that begin from a on, ahead of e -/
def toks (l : List Nat) (a e : Nat) : List Tok := scan l ((l.take e).drop a) a 0 false
theorem toks_end {l : List Nat} {a e : Nat} (h : e ≤ a) : toks l a e = [] := by
  unfold toks
  rw [drop_take_nil h]
  rfl
section
variable {l : List Nat} {a e c : Nat}
theorem toks_cons (he : e ≤ l.length) (ha : a < e) (hc : l[a]? = some c) : toks l a e = if c = 32 ∨ c = 10 then toks l (a + 1) e else if c = 35 then scan l ((l.take e).drop (a + 1)) (a + 1) 0 true else tokC l a c :: scan l ((l.take e).drop (a + 1)) (a + 1) (tokC l a c).2.2 false := by
  obtain ⟨h2, e2⟩ := drop_take_cons ha he
  have ec : l[a] = c := Option.some.inj ((List.getElem?_eq_getElem h2).symm.trans hc)
  unfold toks
  rw [e2, ec]
  show (if _ then _ else _) = _
  by_cases h : c = 32 ∨ c = 10
  · rw [if_pos (.inr (.inr h)), if_pos h]
    rfl
  · rw [if_neg (by rintro (z | ⟨z, _⟩ | z); · omega
                   · cases z
                   · exact h z), if_neg h]
theorem toks_blank (he : e ≤ l.length) (ha : a < e) (hc : l[a]? = some c) (h : c = 32 ∨ c = 10) : toks l a e = toks l (a + 1) e := by
  rw [toks_cons he ha hc, if_pos h]
theorem toks_note (he : e ≤ l.length) (ha : a < e) (hc : l[a]? = some 35) : toks l a e = toks l (run (fun d => d != 10) l a) e := by
  have r1 : run (fun d => d != 10) l a = run (fun d => d != 10) l (a + 1) := run_step hc rfl
  have r2 := run_ge (fun d => d != 10) l (a + 1)
  have r3 := run_le (p := fun d => d != 10) (l := l) (i := a) (by omega)
  rw [toks_cons he ha hc, if_neg (by decide), if_pos rfl]
  unfold toks
  generalize hJ : run (fun d => d != 10) l a = J at r1 r3 ⊢
  have hin : ∀ (k d : Nat), a ≤ k → k < J → l[k]? = some d → (d != 10) = true := fun k d h1 h2 h3 => run_in (p := fun d => d != 10) (l := l) (l.length - a) a (by omega) k d h1 (by rw [hJ]; exact h2) h3
  have gs : ∀ j, ((l.take e).drop (a + 1))[j]? = if a + 1 + j < e then l[a + 1 + j]? else none := fun j => by
    rw [List.getElem?_drop, List.getElem?_take]
  by_cases hJe : J < e
  · rw [scan_comment l (J - (a + 1)) ((l.take e).drop (a + 1)) (a + 1) ?_ ?_, List.drop_drop, show a + 1 + (J - (a + 1)) = J by omega]
    · intro j hj
      rw [gs, if_pos (by omega)]
      intro z
      have := hin (a + 1 + j) 10 (by omega) (by omega) z
      simp at this
    · rw [gs, if_pos (by omega), show a + 1 + (J - (a + 1)) = J by omega]
      cases h : l[J]? with
      | none => exact .inl rfl
      | some d =>
        refine .inr (congrArg some ?_)
        by_cases hd : d = 10
        · exact hd
        · have k1 := run_step (p := fun d => d != 10) h (by simpa using hd)
          have k2 := run_ge (fun d => d != 10) l (J + 1)
          have k3 : run (fun d => d != 10) l J = J := by
            have hJ2 : run (fun d => d != 10) l a = J := hJ
            unfold run at hJ2 ⊢
            have e1 : (l.drop a).dropWhile (fun d => d != 10) = l.drop J := by
              rw [← hJ2, ← List.drop_drop]
              conv => rhs; rw [← List.takeWhile_append_dropWhile (p := fun d => d != 10) (l := l.drop a)]
              rw [List.drop_left' (by rw [List.takeWhile_append_dropWhile])]
            have e2 : (l.drop J).takeWhile (fun d => d != 10) = [] := by
              rw [← e1]
              cases hw : (l.drop a).dropWhile (fun d => d != 10) with
              | nil => rfl
              | cons x t =>
                have := List.head?_dropWhile_not (fun d => d != 10) (l.drop a)
                rw [hw] at this
                simp at this
                rw [List.takeWhile_cons, if_neg]
                simpa using this
            rw [e2]
            rfl
          omega
  · have hJe2 : e ≤ J := by omega
    rw [drop_take_nil hJe2, scan_comment l ((l.take e).drop (a + 1)).length ((l.take e).drop (a + 1)) (a + 1) ?_ (.inl (List.getElem?_eq_none (Nat.le_refl _))), List.drop_length]
    · rfl
    · intro j hj
      rw [List.length_drop, List.length_take] at hj
      rw [gs, if_pos (by omega)]
      intro z
      have := hin (a + 1 + j) 10 (by omega) (by omega) z
      simp at this
theorem toks_tok (he : e ≤ l.length) (ha : a < e) (hc : l[a]? = some c) (h1 : ¬ (c = 32 ∨ c = 10)) (h2 : c ≠ 35) : toks l a e = tokC l a c :: toks l (tokC l a c).2.2 e := by
  rw [toks_cons he ha hc, if_neg h1, if_neg h2]
  have k := tok_end hc
  rw [scan_skip l _ (a + 1) (tokC l a c).2.2 (by omega), List.drop_drop]
  unfold toks
  rw [show a + 1 + ((tokC l a c).2.2 - (a + 1)) = (tokC l a c).2.2 by omega]
end
/-! ### a list of tuples -/
def LT (H : Hp) (p : Addr) (xss : List (List V)) : Prop := ∃ rs : List Addr, H p = some (.lst (rs.map V.ref)) ∧ rs.length = xss.length ∧ ∀ (i : Nat) (r : Addr) (xs : List V), rs[i]? = some r → xss[i]? = some xs → H r = some (.tup xs)
theorem LT.same {H H' : Hp} {p : Addr} {xss : List (List V)} (s : Same H H') : LT H p xss → LT H' p xss := fun ⟨rs, h1, h2, h3⟩ => ⟨rs, s _ _ h1, h2, fun i r xs a b => s _ _ (h3 i r xs a b)⟩
theorem LT.push {H : Hp} {p r : Addr} {xss : List (List V)} {xs : List V} (h : LT H p xss) (hr : H r = some (.tup xs)) : ∃ ys, H p = some (.lst ys) ∧ ys.length = xss.length ∧ LT (upd H p (.lst (ys ++ [.ref r]))) p (xss ++ [xs]) := by
  obtain ⟨rs, h1, h2, h3⟩ := h
  refine ⟨rs.map V.ref, h1, by rw [List.length_map]; exact h2, rs ++ [r], by rw [upd_same, List.map_append]; rfl, by simp [h2], fun i x ys a b => ?_⟩
  by_cases hi : i < rs.length
  · rw [List.getElem?_append_left hi] at a
    rw [List.getElem?_append_left (by omega)] at b
    have k := h3 i x ys a b
    rw [upd_ne (ne_of k h1 (by intro z; cases z))]
    exact k
  · have hi2 : i = rs.length := by
      have := (List.getElem?_eq_some_iff.mp a).1
      rw [List.length_append, List.length_singleton] at this
      omega
    subst hi2
    rw [List.getElem?_append_right (Nat.le_refl _), Nat.sub_self] at a
    rw [List.getElem?_append_right (by omega), h2, Nat.sub_self] at b
    cases a
    cases b
    rw [upd_ne (ne_of hr h1 (by intro z; cases z))]
    exact hr
theorem LT.al {H : Hp} {p q : Addr} {xss : List (List V)} (h : LT H p xss) (g : LT H q xss) (hl : xss.length ≤ 1000000) (hx : ∀ xs ∈ xss, xs.all sca = true ∧ xs.length ≤ 1000000) : Al H 4 (.ref p) (.ref q) := by
  obtain ⟨rs, h1, h2, h3⟩ := h
  obtain ⟨ts, g1, g2, g3⟩ := g
  refine Al.lst h1 g1 (by rw [List.length_map, List.length_map, h2, g2]) (by rw [List.length_map, h2]; exact hl) fun i u v a b => ?_
  rw [List.getElem?_map] at a b
  cases ea : rs[i]? with
  | none => rw [ea] at a; cases a
  | some r =>
    cases eb : ts[i]? with
    | none => rw [eb] at b; cases b
    | some t =>
      rw [ea] at a
      rw [eb] at b
      have e1 : u = V.ref r := (Option.some.inj a).symm
      have e2 : v = V.ref t := (Option.some.inj b).symm
      subst e1 e2
      have hi : i < xss.length := by
        rw [← h2]
        exact (List.getElem?_eq_some_iff.mp ea).1
      have k1 := h3 i r xss[i] ea (List.getElem?_eq_getElem hi)
      have k2 := g3 i t xss[i] eb (List.getElem?_eq_getElem hi)
      obtain ⟨s1, s2⟩ := hx _ (List.getElem_mem hi)
      exact Al.tup k1 k2 rfl s2 (al_eq (n := 1) s1)
def tkV (x : Tok) : List V := [.str x.1, .int (x.2.1 : Int), .int (x.2.2 : Int)]
theorem tkV_sca (ts : List Tok) : ∀ xs ∈ ts.map tkV, xs.all sca = true ∧ xs.length ≤ 1000000 := fun xs h => by
  obtain ⟨x, _, rfl⟩ := List.mem_map.mp h
  exact ⟨rfl, by show 3 ≤ 1000000; decide⟩
end Sn

/-! Mathematics of tokens behind an edit. -/
namespace Sn
open PySem PySem.Spec PyProof.Rows L2 TL
theorem run_out {p : Nat → Bool} {l : List Nat} : ∀ (m i : Nat), l.length = i + m → ∀ d, l[run p l i]? = some d → p d = false
  | 0, i, e, d, h => by
    rw [run_end (by omega), List.getElem?_eq_none (by omega)] at h
    cases h
  | m + 1, i, e, d, h => by
    have hi : i < l.length := by omega
    have hg := List.getElem?_eq_getElem hi
    by_cases hp : p l[i] = true
    · rw [run_step hg hp] at h
      exact run_out m (i + 1) (by omega) d h
    · rw [run_stop hg (Bool.eq_false_iff.mpr hp), hg] at h
      rw [← Option.some.inj h]
      exact Bool.eq_false_iff.mpr hp
theorem isW10 : isW 10 = false := rfl
theorem isD10 : isD 10 = false := rfl
/-- a token has no newline -/
theorem tok_clean {l : List Nat} {i c : Nat} (h : l[i]? = some c) (hc : c ≠ 10) : ∀ k, i ≤ k → k < (tokC l i c).2.2 → l[k]? ≠ some 10 := by
  have hi := (List.getElem?_eq_some_iff.mp h).1
  intro k h1 h2 h3
  unfold tokC at h2
  by_cases w1 : isL c = true
  · rw [if_pos w1] at h2
    have := run_in (p := isW) (l := l) (l.length - i) i (by omega) k 10 h1 h2 h3
    rw [isW10] at this
    cases this
  · rw [if_neg w1] at h2
    by_cases w2 : isD c = true
    · rw [if_pos w2] at h2
      have := run_in (p := isD) (l := l) (l.length - i) i (by omega) k 10 h1 h2 h3
      rw [isD10] at this
      cases this
    · rw [if_neg w2] at h2
      by_cases w3 : (l.drop i).take 2 = [61, 61]
      · rw [if_pos w3] at h2
        have h2 : k < i + 2 := h2
        have g : ((l.drop i).take 2)[k - i]? = l[k]? := by
          rw [List.getElem?_take, if_pos (by omega), List.getElem?_drop, show i + (k - i) = k by omega]
        rw [w3, h3] at g
        have : k - i = 0 ∨ k - i = 1 := by omega
        rcases this with e | e <;> rw [e] at g <;> cases g
      · rw [if_neg w3] at h2
        have h2 : k < i + 1 := h2
        have : k = i := by omega
        subst this
        rw [h] at h3
        exact hc (Option.some.inj h3)
theorem tok_start (l : List Nat) (i c : Nat) : (tokC l i c).2.1 = i := by
  unfold tokC
  split
  · rfl
  · split
    · rfl
    · split <;> rfl
/-- where the tokens of toks stand -/
theorem toks_in {l : List Nat} {e : Nat} (he : e ≤ l.length) : ∀ (m a : Nat), e ≤ a + m → ∀ x ∈ toks l a e, a ≤ x.2.1 ∧ x.2.1 < e ∧ x.2.1 < x.2.2 ∧ x.2.2 ≤ l.length ∧ l[x.2.1]? ≠ some 10 ∧ ∀ k, x.2.1 ≤ k → k < x.2.2 → l[k]? ≠ some 10
  | 0, a, h, x, hx => by
    rw [toks_end (by omega)] at hx
    cases hx
  | m + 1, a, h, x, hx => by
    by_cases ha : a < e
    · have hal : a < l.length := by omega
      have hg := List.getElem?_eq_getElem hal
      generalize l[a] = c at hg
      by_cases b1 : c = 32 ∨ c = 10
      · rw [toks_blank he ha hg b1] at hx
        obtain ⟨k1, k2⟩ := toks_in he m (a + 1) (by omega) x hx
        exact ⟨by omega, k2⟩
      · by_cases b2 : c = 35
        · subst b2
          have r1 : run (fun d => d != 10) l a = run (fun d => d != 10) l (a + 1) := run_step hg rfl
          have r2 := run_ge (fun d => d != 10) l (a + 1)
          rw [toks_note he ha hg] at hx
          obtain ⟨k1, k2⟩ := toks_in he m _ (by omega) x hx
          exact ⟨by omega, k2⟩
        · rw [toks_tok he ha hg b1 b2] at hx
          obtain ⟨t1, t2⟩ := tok_end hg
          rcases List.mem_cons.mp hx with hx | hx
          · subst hx
            rw [tok_start]
            exact ⟨Nat.le_refl _, ha, t1, t2, by rw [hg]; exact fun z => b1 (.inr (Option.some.inj z)), tok_clean hg fun z => b1 (.inr z)⟩
          · obtain ⟨k1, k2⟩ := toks_in he m _ (by omega) x hx
            exact ⟨by omega, k2⟩
    · rw [toks_end (by omega)] at hx
      cases hx
/-- the tokens ahead of the boundary m, then those behind it -/
theorem toks_split {l : List Nat} {m e : Nat} (he : e ≤ l.length) (hm : m ≤ e) (hb : (0 < m ∧ l[m - 1]? = some 10) ∨ l[m]? = some 10 ∨ m = e) : ∀ (n a : Nat), m ≤ a + n → a ≤ m → toks l a e = toks l a m ++ toks l m e
  | 0, a, h, ha => by
    have : a = m := by omega
    subst this
    rw [toks_end (Nat.le_refl a)]
    rfl
  | n + 1, a, h, ha => by
    by_cases ham : a = m
    · subst ham
      rw [toks_end (Nat.le_refl a)]
      rfl
    have hal : a < l.length := by omega
    have hg := List.getElem?_eq_getElem hal
    generalize l[a] = c at hg
    have jump : ∀ b, a < b → (∀ k, a ≤ k → k < b → l[k]? ≠ some 10) → toks l b e = toks l b m ++ toks l m e := fun b hab hk => by
      by_cases hbm : b ≤ m
      · exact toks_split he hm hb n b (by omega) hbm
      · have : m = e := by
          rcases hb with ⟨h0, hb⟩ | hb | hb
          · exact absurd hb (hk (m - 1) (by omega) (by omega))
          · exact absurd hb (hk m (by omega) (by omega))
          · exact hb
        subst this
        rw [toks_end (show m ≤ b by omega), toks_end (Nat.le_refl m)]
        rfl
    by_cases b1 : c = 32 ∨ c = 10
    · rw [toks_blank he (by omega) hg b1, toks_blank (by omega) (by omega) hg b1]
      exact toks_split he hm hb n (a + 1) (by omega) (by omega)
    · by_cases b2 : c = 35
      · subst b2
        have r1 : run (fun d => d != 10) l a = run (fun d => d != 10) l (a + 1) := run_step hg rfl
        have r2 := run_ge (fun d => d != 10) l (a + 1)
        rw [toks_note he (by omega) hg, toks_note (by omega) (by omega) hg]
        refine jump _ (by omega) fun k h1 h2 h3 => ?_
        have := run_in (p := fun d => d != 10) (l := l) (l.length - a) a (by omega) k 10 h1 h2 h3
        simp at this
      · rw [toks_tok he (by omega) hg b1 b2, toks_tok (by omega) (by omega) hg b1 b2, jump _ (tok_end hg).1 (tok_clean hg fun z => b1 (.inr z))]
        rfl
theorem run_congr {p : Nat → Bool} {l r : List Nat} {a m : Nat} (hk : ∀ k, a ≤ k → k < m → l[k]? = r[k]?) (hm : l[m - 1]? = some 10) (ham : a ≤ m - 1) (hm0 : 0 < m) (hr : m ≤ r.length) (hp : p 10 = false) : run p l a = run p r a := by
  have hml := (List.getElem?_eq_some_iff.mp hm).1
  have hb : run p l a ≤ m - 1 := by
    refine Nat.le_of_not_lt fun hlt => ?_
    have := run_in (p := p) (l := l) (l.length - a) a (by omega) (m - 1) 10 ham hlt hm
    rw [hp] at this
    cases this
  have h1 := run_ge p l a
  exact (run_at (p := p) (l := r) (run p l a - a) a (run p l a) (by omega) (fun k c k1 k2 k3 => by
    rw [← hk k k1 (by omega)] at k3
    exact run_in (l.length - a) a (by omega) k c k1 k2 k3) (by omega) (fun c hc => by
    rw [← hk _ h1 (by omega)] at hc
    exact run_out (l.length - a) a (by omega) c hc)).symm
theorem tok_congr {l r : List Nat} {a m c : Nat} (ht : l.take m = r.take m) (hm : l[m - 1]? = some 10) (hm0 : 0 < m) (hr : m ≤ r.length) (ha : a < m) (hc : l[a]? = some c) (h10 : c ≠ 10) : tokC l a c = tokC r a c := by
  have hk : ∀ k, a ≤ k → k < m → l[k]? = r[k]? := fun k _ h => by
    have h1 : (l.take m)[k]? = l[k]? := by rw [List.getElem?_take, if_pos h]
    have h2 : (r.take m)[k]? = r[k]? := by rw [List.getElem?_take, if_pos h]
    rw [← h1, ← h2, ht]
  have ham : a ≤ m - 1 := by omega
  have hne : a ≠ m - 1 := fun z => by
    rw [z, hm] at hc
    exact h10 (Option.some.inj hc).symm
  have hml := (List.getElem?_eq_some_iff.mp hm).1
  have eW := run_congr (p := isW) hk hm ham hm0 hr isW10
  have eD := run_congr (p := isD) hk hm ham hm0 hr isD10
  have cut : ∀ n, a + n ≤ m → (l.drop a).take n = (r.drop a).take n := fun n hn => by
    have k : ∀ q : List Nat, (q.drop a).take n = ((q.take m).drop a).take n := fun q => by
      rw [List.drop_take, List.take_take, Nat.min_eq_left (by omega)]
    rw [k l, k r, ht]
  have hb : run isW l a ≤ m - 1 := by
    refine Nat.le_of_not_lt fun hlt => ?_
    have := run_in (p := isW) (l := l) (l.length - a) a (by omega) (m - 1) 10 ham hlt hm
    rw [isW10] at this
    cases this
  unfold tokC
  rw [← eW, ← eD, cut (run isW l a - a) (by omega), cut 2 (by omega)]
theorem toks_congr {l r : List Nat} {m : Nat} (ht : l.take m = r.take m) (hm : m = 0 ∨ l[m - 1]? = some 10) (hl : m ≤ l.length) (hr : m ≤ r.length) : ∀ (n a : Nat), m ≤ a + n → toks l a m = toks r a m
  | 0, a, h => by rw [toks_end (by omega), toks_end (by omega)]
  | n + 1, a, h => by
    by_cases ha : a < m
    · have hm := hm.resolve_left (by omega)
      have hg := List.getElem?_eq_getElem (show a < l.length by omega)
      generalize l[a] = c at hg
      have hg2 : r[a]? = some c := by
        have h1 : (l.take m)[a]? = l[a]? := by rw [List.getElem?_take, if_pos ha]
        have h2 : (r.take m)[a]? = r[a]? := by rw [List.getElem?_take, if_pos ha]
        rw [← h2, ← ht, h1, hg]
      by_cases b1 : c = 32 ∨ c = 10
      · rw [toks_blank hl ha hg b1, toks_blank hr ha hg2 b1]
        exact toks_congr ht (.inr hm) hl hr n (a + 1) (by omega)
      · by_cases b2 : c = 35
        · subst b2
          have r1 : run (fun d => d != 10) l a = run (fun d => d != 10) l (a + 1) := run_step hg rfl
          have r2 := run_ge (fun d => d != 10) l (a + 1)
          have hk : ∀ k, a ≤ k → k < m → l[k]? = r[k]? := fun k _ h => by
            have h1 : (l.take m)[k]? = l[k]? := by rw [List.getElem?_take, if_pos h]
            have h2 : (r.take m)[k]? = r[k]? := by rw [List.getElem?_take, if_pos h]
            rw [← h1, ← h2, ht]
          have er := run_congr (p := fun d => d != 10) hk hm (by omega) (by omega) hr (by rfl)
          rw [toks_note hl ha hg, toks_note hr ha hg2, ← er]
          exact toks_congr ht (.inr hm) hl hr n _ (by omega)
        · have et := tok_congr ht hm (by omega) hr ha hg fun z => b1 (.inr z)
          have := (tok_end hg).1
          rw [toks_tok hl ha hg b1 b2, toks_tok hr ha hg2 b1 b2, ← et, toks_congr ht (.inr hm) hl hr n _ (by omega)]
    · rw [toks_end (by omega), toks_end (by omega)]
/-- a token, moved from J to J' -/
def mv (J J' : Nat) (x : Tok) : Tok := (x.1, x.2.1 - J + J', x.2.2 - J + J')
theorem run_mv {p : Nat → Bool} {l r : List Nat} {a a' : Nat} (h : r.drop a' = l.drop a) : run p r a' = run p l a - a + a' := by
  unfold run
  rw [h]
  omega
theorem tok_mv {l r : List Nat} {J J' a c : Nat} (h : r.drop (a - J + J') = l.drop a) (hJ : J ≤ a) : tokC r (a - J + J') c = mv J J' (tokC l a c) := by
  have eW := run_mv (p := isW) h
  have eD := run_mv (p := isD) h
  have gW := run_ge isW l a
  have gD := run_ge isD l a
  unfold tokC mv
  rw [h, eW, eD, show run isW l a - a + (a - J + J') - (a - J + J') = run isW l a - a by omega]
  by_cases w1 : isL c = true
  · rw [if_pos w1, if_pos w1]
    refine Prod.ext rfl (Prod.ext rfl ?_)
    show run isW l a - a + (a - J + J') = run isW l a - J + J'
    omega
  · rw [if_neg w1, if_neg w1]
    by_cases w2 : isD c = true
    · rw [if_pos w2, if_pos w2]
      refine Prod.ext rfl (Prod.ext rfl ?_)
      show run isD l a - a + (a - J + J') = run isD l a - J + J'
      omega
    · rw [if_neg w2, if_neg w2]
      by_cases w3 : (l.drop a).take 2 = [61, 61]
      · rw [if_pos w3, if_pos w3]
        refine Prod.ext rfl (Prod.ext rfl ?_)
        show a - J + J' + 2 = a + 2 - J + J'
        omega
      · rw [if_neg w3, if_neg w3]
        refine Prod.ext rfl (Prod.ext rfl ?_)
        show a - J + J' + 1 = a + 1 - J + J'
        omega
theorem toks_mv {l r : List Nat} {J J' : Nat} (hd : r.drop J' = l.drop J) (hl : J ≤ l.length) (hr : J' ≤ r.length) : ∀ (n a : Nat), J ≤ a → l.length ≤ a + n → toks r (a - J + J') r.length = (toks l a l.length).map (mv J J') := by
  have hlen : r.length - J' = l.length - J := by
    have := congrArg List.length hd
    rw [List.length_drop, List.length_drop] at this
    exact this
  have drops : ∀ a, J ≤ a → r.drop (a - J + J') = l.drop a := fun a ha => by
    have h1 : r.drop (J' + (a - J)) = (r.drop J').drop (a - J) := by rw [List.drop_drop]
    have h2 : l.drop (J + (a - J)) = (l.drop J).drop (a - J) := by rw [List.drop_drop]
    rw [show a - J + J' = J' + (a - J) by omega, h1, hd, ← h2, show J + (a - J) = a by omega]
  intro n
  induction n with
  | zero =>
    intro a ha h
    rw [toks_end (by omega), toks_end (by omega)]
    rfl
  | succ n ih =>
    intro a ha h
    by_cases hal : a < l.length
    · have hg := List.getElem?_eq_getElem hal
      generalize l[a] = c at hg
      have hg2 : r[a - J + J']? = some c := by
        have h1 : (r.drop (a - J + J'))[0]? = r[a - J + J']? := by rw [List.getElem?_drop, Nat.add_zero]
        have h2 : (l.drop a)[0]? = l[a]? := by rw [List.getElem?_drop, Nat.add_zero]
        rw [← h1, drops a ha, h2, hg]
      have ha2 : a - J + J' < r.length := by omega
      by_cases b1 : c = 32 ∨ c = 10
      · rw [toks_blank (Nat.le_refl _) hal hg b1, toks_blank (Nat.le_refl _) ha2 hg2 b1, show a - J + J' + 1 = a + 1 - J + J' by omega]
        exact ih (a + 1) (by omega) (by omega)
      · by_cases b2 : c = 35
        · subst b2
          have r1 : run (fun d => d != 10) l a = run (fun d => d != 10) l (a + 1) := run_step hg rfl
          have r2 := run_ge (fun d => d != 10) l (a + 1)
          rw [toks_note (Nat.le_refl _) hal hg, toks_note (Nat.le_refl _) ha2 hg2, run_mv (drops a ha), show run (fun d => d != 10) l a - a + (a - J + J') = run (fun d => d != 10) l a - J + J' by omega]
          exact ih _ (by omega) (by omega)
        · obtain ⟨t1, t2⟩ := tok_end hg
          rw [toks_tok (Nat.le_refl _) hal hg b1 b2, toks_tok (Nat.le_refl _) ha2 hg2 b1 b2, tok_mv (drops a ha) ha, List.map_cons]
          congr 1
          exact ih _ (by omega) (by omega)
    · rw [toks_end (by omega), toks_end (by omega)]
      rfl
/-! ### lines -/
/-- where the line of o begins -/
def lineS (l : List Nat) (o : Nat) : Nat := o - colF 10 0 (l.take o)
theorem lineS_le (l : List Nat) (o : Nat) : lineS l o ≤ o := Nat.sub_le _ _
theorem lineS_succ {l : List Nat} {o c : Nat} (h : l[o]? = some c) : lineS l (o + 1) = if c = 10 then o + 1 else lineS l o := by
  unfold lineS
  have := colF_le 10 (l.take o) 0
  rw [List.length_take] at this
  rw [List.take_add_one, h, Option.toList_some, colF_snoc]
  split <;> omega
theorem lineS_at {l : List Nat} : ∀ {o : Nat}, o ≤ l.length → lineS l o = 0 ∨ l[lineS l o - 1]? = some 10
  | 0, _ => .inl rfl
  | o + 1, h => by
    have hg := List.getElem?_eq_getElem (show o < l.length by omega)
    rw [lineS_succ hg]
    by_cases hc : l[o] = 10
    · rw [if_pos hc]
      right
      rw [Nat.add_sub_cancel, hg, hc]
    · rw [if_neg hc]
      exact lineS_at (by omega)
/-- where the line of o ends: its newline, or the end -/
abbrev lineE (l : List Nat) (o : Nat) : Nat := run (fun d => d != 10) l o
theorem lineE_at {l : List Nat} {o : Nat} (h : o ≤ l.length) : lineE l o = l.length ∨ l[lineE l o]? = some 10 := by
  have h1 : lineE l o ≤ l.length := run_le (p := fun d => d != 10) h
  by_cases h2 : lineE l o < l.length
  · right
    have hg := List.getElem?_eq_getElem h2
    have := run_out (p := fun d => d != 10) (l := l) (l.length - o) o (by omega) _ hg
    rw [hg]
    simp at this
    rw [this]
  · exact .inl (by omega)
/-! ### relexing -/
theorem filter_all {α : Type} {p : α → Bool} : ∀ {l : List α}, (∀ x ∈ l, p x = true) → l.filter p = l := fun h => List.filter_eq_self.mpr h
theorem filter_none {α : Type} {p : α → Bool} : ∀ {l : List α}, (∀ x ∈ l, p x = false) → l.filter p = [] := fun h => List.filter_eq_nil_iff.mpr fun x hx => by rw [h x hx]; exact Bool.false_ne_true
section
variable {l n : List Nat} {s e : Nat}
/-- THE THEOREM: the tokens behind an edit -/
theorem relex (hs : s ≤ e) (he : e ≤ l.length) :
    toks (l.take s ++ (n ++ l.drop e)) 0 (l.take s ++ (n ++ l.drop e)).length =
      (toks l 0 l.length).filter (fun x => decide (x.2.1 < lineS l s)) ++ (toks (l.take s ++ (n ++ l.drop e)) (lineS l s) (lineE l e - e + (s + n.length)) ++ ((toks l 0 l.length).filter (fun x => decide (lineE l e < x.2.1))).map (mv e (s + n.length))) ∧
    ((toks l 0 l.length).filter (fun x => decide (x.2.1 < lineS l s))).length = ((toks l 0 l.length).filter (fun x => decide (x.2.2 ≤ lineS l s))).length ∧
    ((toks l 0 l.length).filter (fun x => decide (lineE l e < x.2.1))).length = ((toks l 0 l.length).filter (fun x => decide ((if lineE l e < l.length then lineE l e + 1 else l.length) ≤ x.2.1))).length ∧
    lineS l s ≤ lineE l e - e + (s + n.length) ∧ lineE l e - e + (s + n.length) ≤ (l.take s ++ (n ++ l.drop e)).length := by
  have hF := lineS_le l s
  have hFa := lineS_at (l := l) (o := s) (by omega)
  have hJ1 := run_ge (fun d => d != 10) l e
  have hJ2 := run_le (p := fun d => d != 10) he
  have hJa := lineE_at he
  have hJ1 : e ≤ lineE l e := hJ1
  have hJ2 : lineE l e ≤ l.length := hJ2
  generalize lineS l s = F at *
  generalize lineE l e = J at *
  generalize hR : l.take s ++ (n ++ l.drop e) = R
  have hRl : R.length = s + (n.length + (l.length - e)) := by
    rw [← hR, List.length_append, List.length_append, List.length_take, List.length_drop]
    omega
  have ht : l.take F = R.take F := by
    rw [← hR, List.take_append_of_le_length (by rw [List.length_take]; omega), List.take_take, Nat.min_eq_left hF]
  have hd0 : R.drop (s + n.length) = l.drop e := by
    rw [← hR, ← List.append_assoc, List.drop_left' (by rw [List.length_append, List.length_take]; omega)]
  have hdJ : R.drop (J - e + (s + n.length)) = l.drop J := by
    rw [show J - e + (s + n.length) = (s + n.length) + (J - e) by omega, ← List.drop_drop, hd0, List.drop_drop, show e + (J - e) = J by omega]
  generalize hJ' : J - e + (s + n.length) = J' at hdJ ⊢
  have gF : 0 < F → R[F - 1]? = some 10 := fun h0 => by
    have h1 : (l.take F)[F - 1]? = l[F - 1]? := by rw [List.getElem?_take, if_pos (by omega)]
    have h2 : (R.take F)[F - 1]? = R[F - 1]? := by rw [List.getElem?_take, if_pos (by omega)]
    rw [← h2, ← ht, h1]
    exact hFa.resolve_left (by omega)
  have gJ : R[J']? = some 10 ∨ J' = R.length := by
    rcases hJa with h | h
    · right
      omega
    · left
      have h1 : (R.drop J')[0]? = R[J']? := by rw [List.getElem?_drop, Nat.add_zero]
      have h2 : (l.drop J)[0]? = l[J]? := by rw [List.getElem?_drop, Nat.add_zero]
      rw [← h1, hdJ, h2, h]
  -- the old tokens, cut at F and at J
  have s1 : toks l 0 l.length = toks l 0 F ++ toks l F l.length := by
    by_cases h0 : F = 0
    · subst h0
      rw [toks_end (Nat.le_refl 0)]
      rfl
    · exact toks_split (Nat.le_refl _) (by omega) (.inl ⟨by omega, hFa.resolve_left h0⟩) F 0 (by omega) (by omega)
  have s2 : toks l 0 l.length = toks l 0 J ++ toks l J l.length := toks_split (Nat.le_refl _) hJ2 (by rcases hJa with h | h; exact .inr (.inr h); exact .inr (.inl h)) J 0 (by omega) (by omega)
  have in1 := toks_in (l := l) (e := F) (by omega) F 0 (by omega)
  have in2 := toks_in (l := l) (e := l.length) (Nat.le_refl _) l.length F (by omega)
  have in3 := toks_in (l := l) (e := J) hJ2 J 0 (by omega)
  have in4 := toks_in (l := l) (e := l.length) (Nat.le_refl _) l.length J (by omega)
  have fA : (toks l 0 l.length).filter (fun x => decide (x.2.1 < F)) = toks l 0 F := by
    rw [s1, List.filter_append, filter_all (fun x hx => decide_eq_true (in1 x hx).2.1), filter_none (fun x hx => decide_eq_false (by have := (in2 x hx).1; omega)), List.append_nil]
  have fA2 : (toks l 0 l.length).filter (fun x => decide (x.2.2 ≤ F)) = toks l 0 F := by
    rw [s1, List.filter_append, filter_all (fun x hx => decide_eq_true ?_), filter_none (fun x hx => decide_eq_false (by have := (in2 x hx).1; have := (in2 x hx).2.2.1; omega)), List.append_nil]
    obtain ⟨k1, k2, k3, k4, k5, k6⟩ := in1 x hx
    refine Nat.le_of_not_lt fun hlt => ?_
    exact k6 (F - 1) (by omega) (by omega) (hFa.resolve_left (by omega))
  have fB : (toks l 0 l.length).filter (fun x => decide (J < x.2.1)) = toks l J l.length := by
    rw [s2, List.filter_append, filter_none (fun x hx => decide_eq_false (by have := (in3 x hx).2.1; omega)), List.nil_append, filter_all fun x hx => decide_eq_true ?_]
    obtain ⟨k1, k2, k3, k4, k5, k6⟩ := in4 x hx
    refine Nat.lt_of_le_of_ne k1 fun hne => ?_
    rcases hJa with h | h
    · omega
    · exact k5 (by rw [← hne]; exact h)
  have fB2 : (toks l 0 l.length).filter (fun x => decide ((if J < l.length then J + 1 else l.length) ≤ x.2.1)) = toks l J l.length := by
    rw [s2, List.filter_append, filter_none (fun x hx => decide_eq_false (by have := (in3 x hx).2.1; split <;> omega)), List.nil_append, filter_all fun x hx => decide_eq_true ?_]
    obtain ⟨k1, k2, k3, k4, k5, k6⟩ := in4 x hx
    have : J ≠ x.2.1 := fun hne => by
      rcases hJa with h | h
      · omega
      · exact k5 (by rw [← hne]; exact h)
    split <;> omega
  have FJ : F ≤ J' := by omega
  have JR : J' ≤ R.length := by omega
  refine ⟨?_, by rw [fA, fA2], by rw [fB, fB2], FJ, JR⟩
  rw [fA, fB]
  have t1 : toks R 0 R.length = toks R 0 F ++ toks R F R.length := by
    by_cases h0 : F = 0
    · subst h0
      rw [toks_end (Nat.le_refl 0)]
      rfl
    · exact toks_split (Nat.le_refl _) (by omega) (.inl ⟨by omega, gF (by omega)⟩) F 0 (by omega) (by omega)
  have t2 : toks R F R.length = toks R F J' ++ toks R J' R.length := toks_split (Nat.le_refl _) JR (by rcases gJ with h | h; exact .inr (.inl h); exact .inr (.inr h)) J' F (by omega) FJ
  have t3 : toks R 0 F = toks l 0 F := (toks_congr ht hFa (by omega) (by omega) F 0 (by omega)).symm
  have t4 : toks R J' R.length = (toks l J l.length).map (mv e (s + n.length)) := by
    have := toks_mv (l := l) (r := R) (J := e) (J' := s + n.length) hd0 he (by omega) l.length J hJ1 (by omega)
    rw [hJ'] at this
    exact this
  rw [t1, t2, t3, t4]
end
end Sn

/-! My own rules: three comparisons in a row, a text times a number, calls that may raise, isinstance in an except suite. -/
namespace Sn
open PySem PySem.Spec PyProof.Rows L2 TL
section
variable {X : Cx} {a b c d : Expr} {ta tb tc td : TE} {pos : Pos}
/-- a op1 b op2 c op3 d -/
def tChain3 (r r' r'' : R2) (ta tb tc td : TE) : TE := fun σ H Q => ta σ H fun x H1 => tb σ H1 fun y H2 => r x y H2 fun z H3 => ∃ k, z = .bl k ∧
  (if k = true then tc σ H3 fun w H4 => r' y w H4 fun z' H5 => ∃ k', z' = .bl k' ∧ (if k' = true then td σ H5 fun v H6 => r'' w v H6 Q else Q (.bl false) H5) else Q (.bl false) H3)
theorem pt_chain3 {op op' op'' : CmpOp} {r r' r'' : R2} (ho : OpR X (compareOp op) r) (ho' : OpR X (compareOp op') r') (ho'' : OpR X (compareOp op'') r'') (ha : PE X a ta) (hb : PE X b tb) (hc : PE X c tc) (hd : PE X d td)
    (hm : lastMarks [op, op', op''] [b, c, d] = false := by with_unfolding_all rfl) : PT X (.Compare a [op, op', op''] [b, c, d] pos) (tTest (tChain3 r r' r'' ta tb tc td)) := by
  refine ⟨fun pins s σ H Q I h => ?_⟩
  refine isTrue_chain (thn (ha.run pins s σ H _ I h) fun v s1 ⟨x, H1, I1, r1, q1⟩ => test_link (thn (hb.run pins s1 σ H1 _ I1 q1) fun u s2 ⟨y, H2, I2, r2, q2⟩ =>
    thn (ho pins s2 σ H2 x y v u _ I2 r1 r2 q2) fun e s3 ⟨z, H3, I3, r3, k, ez, q3⟩ => ?_)) hm
  subst ez
  cases r3
  refine wpAny_truthy_bool ?_
  cases k with
  | false =>
    obtain ⟨k', e', q'⟩ := q3
    cases e'
    exact ite_ff ⟨H3, I3, q'⟩
  | true =>
    refine ite_tt (test_link (thn (hc.run pins s3 σ H3 _ I3 q3) fun w' s4 ⟨z', H4, I4, r4, q4⟩ => thn (ho' pins s4 σ H4 y z' u w' _ I4 r2 r4 q4) fun d' s5 ⟨z2, H5, I5, r5, k2, e2, q5⟩ => ?_))
    subst e2
    cases r5
    refine wpAny_truthy_bool ?_
    cases k2 with
    | false =>
      obtain ⟨k', e', q'⟩ := q5
      cases e'
      exact ite_ff ⟨H5, I5, q'⟩
    | true =>
      refine ite_tt (test_last (thn (hd.run pins s5 σ H5 _ I5 q5) fun w2 s6 ⟨z6, H6, I6, r6, q6⟩ => thn (ho'' pins s6 σ H6 z' z6 w' w2 _ I6 r4 r6 q6) fun d' s7 ⟨z7, H7, I7, r7, k7, e7, q7⟩ => ?_))
      subst e7
      cases r7
      exact wpAny_truthy_bool ⟨H7, I7, q7⟩
/-- a text times a number -/
theorem op_mul_str : OpR X (binaryOp .Mult) (fun x y H Q => ∃ (z : Str) (n : Int), x = .str z ∧ y = .int n ∧ MulOk z n ∧ Q (.str (Txt.mul z n)) H) := by
  intro pins s σ H x y v u Q I rx ry h
  obtain ⟨z, n, rfl, rfl, hm, q⟩ := h
  obtain ⟨t, rfl⟩ := rx
  obtain ⟨t', rfl⟩ := ry
  exact SB.mul hm fun t' k => ⟨.str (Txt.mul z n), H, I.tok _, ⟨_, rfl⟩, q⟩
end
section
variable {X : Cx} {k j : Nat} {x : Str} {sp : Sp} {p pos : Pos} {e : Expr} {es : List Expr} {t : TA} {W : WX}
/-- a call within a try, what it lets out is the clause's -/
theorem pe_cS (c : Cal X.prog X.w X.K X.mg X.base (L2.CX X.prog X.w) k x sp) (hr : Room j X.A) (hk : k ≤ j) (tk : Takes X W) (ha : PA X (e :: es) t) (hg : Gl X x := by rfl)
    (hdb : (x == ("__debug__" : Str)) = false := by decide) (he : starEach (e :: es) X.env = (false, eval e X.env) :: starEach es X.env := by rfl) (hpl : (backTo pos (starEach es X.env)).any (·.1) = false := by rfl) :
    PE X (.Call (.Name x p) (e :: es) [] pos) (tCallS sp (WE W) t) := by
  obtain ⟨f, fd, ps, F, hm, kp, b⟩ := c.ex
  exact pe_callS F (hr.mono hk) hg hm kp b (fun σ => passAt tk σ) ha hdb he hpl
/-- isinstance(e, c), e what the suite holds; that it is of the class D is the reading's to say -/
theorem call_isX {D a : Addr} {oe : Obj} {cls : Value} {d : Option Addr} {pn : List (Addr × Obj)} (C : ExcC X.K D) (hz : Zc cls d oe) (hf : ∃ vs, oe.data = .fields vs) :
    CallR (X.suite a ((a, oe) :: pn)) (.builtin "isinstance") (fun xs H Q => cls = .ref D ∧ d = none ∧ rIsE X.K D a xs H Q) := by
  intro pins s σ H xs us Q I r h
  obtain ⟨rfl, rfl, h⟩ := h
  exact call_isE C hz hf pins s σ H xs us Q I r h
end

/-! ### edits -/
/-- the mirror of a joint edit: what stands from done on -/
def jgo (z : List Nat) : Nat → List (Int × Int × List Nat) → Option (List Nat)
  | done, [] => some (z.drop done)
  | done, (s, e, n) :: r => if (done : Int) ≤ s ∧ s ≤ e ∧ e ≤ (z.length : Int) ∧ n.all okc = true then (jgo z e.toNat r).map fun t => (z.drop done).take (s.toNat - done) ++ (n ++ t) else none
def joint (z : List Nat) (eds : List (Int × Int × List Nat)) : Option (List Nat) := match jgo z 0 eds with
  | some r => if r.length ≤ 4000 then some r else none
  | none => none
/-- a list of edits stands at le -/
def EdAt (H : Hp) (le : Addr) (eds : List (Int × Int × Str)) : Prop := ∃ rs : List Addr, H le = some (.lst (rs.map V.ref)) ∧ rs.length = eds.length ∧ ∀ (i : Nat) (r : Addr) (s e : Int) (n : Str), rs[i]? = some r → eds[i]? = some (s, e, n) → H r = some (.tup [.int s, .int e, .str n])
def edl (eds : List (Int × Int × Str)) : List (Int × Int × List Nat) := eds.map fun x => (x.1, x.2.1, tl x.2.2)
/-- the lengths of all new texts -/
def news (eds : List (Int × Int × Str)) : Nat := (eds.map fun x => x.2.2.length).sum
theorem EdAt.same {H H' : Hp} {le : Addr} {eds : List (Int × Int × Str)} (s : Same H H') : EdAt H le eds → EdAt H' le eds := fun ⟨rs, h1, h2, h3⟩ => ⟨rs, s _ _ h1, h2, fun i r a b n p q => s _ _ (h3 i r a b n p q)⟩
def spMay : Sp := fun vs H Q _ => ∃ z : Str, vs = [.str z] ∧ Q (.bl ((tl z).all okc)) H
def spIsText : Sp := fun vs H Q _ => ∃ z : Str, vs = [.str z] ∧ z.length ≤ 1000000 ∧ Q (.bl (decide (z.length ≤ 4000) && (tl z).all okc)) H
def spJoint (C : Addr) : Sp := fun vs H Q E => ∃ (z : Str) (le : Addr) (eds : List (Int × Int × Str)), vs = [.str z, .ref le] ∧ EdAt H le eds ∧ z.length ≤ 1000000 ∧ eds.length ≤ 1000 ∧ news eds ≤ 1000000 ∧
  (∀ r H', joint (tl z) (edl eds) = some r → Same H H' → Q (.str (strL r)) H') ∧ (∀ H', joint (tl z) (edl eds) = none → Same H H' → E (.ref C) none H')
def spEdit (C : Addr) : Sp := fun vs H Q E => ∃ (z : Str) (ed : Addr) (s e : Int) (n : Str), vs = [.str z, .ref ed] ∧ H ed = some (.tup [.int s, .int e, .str n]) ∧ z.length ≤ 1000000 ∧ n.length ≤ 1000000 ∧
  (∀ r H', joint (tl z) [(s, e, tl n)] = some r → Same H H' → Q (.str (strL r)) H') ∧ (∀ H', joint (tl z) [(s, e, tl n)] = none → Same H H' → E (.ref C) none H')
/-! ### signs in order -/
theorem le_one (a b : Nat) : (!decide ([b] < [a])) = decide (a ≤ b) := by
  have : ([b] < [a]) ↔ b < a := by
    constructor
    · intro h
      cases h with
      | rel h => exact h
      | cons h => cases h
    · exact fun h => .rel h
  by_cases h : b < a
  · rw [decide_eq_true (this.mpr h), decide_eq_false (by omega)]
    rfl
  · rw [decide_eq_false (fun k => h (this.mp k)), decide_eq_true (by omega)]
    rfl
/-! ### classes of errors, as the top has written them -/
theorem own_cls {K : PySem.W.Frag} {C S : Addr} (i : PySem.W.isClsIn K S = true) (t : PySem.W.typeIn K (.ref S) = some (.type "type")) (s : PySem.W.subIn K (.ref C) (.ref S) = some true) : PySem.W.kitCls K (.ref C) (.ref S) = some true := by
  have e2 : ((PySem.W.clsIn K S).isSome && PySem.W.typeIn K (.ref S) == some (.type "type")) = true := by
    have h2 : (PySem.W.clsIn K S).isSome = true := i
    rw [h2, t] <;> rfl
  show (if _ then _ else _) = _
  rw [if_pos e2]
  exact s
theorem exm_of {K : PySem.W.Frag} {S : Addr} (b : PySem.W.subIn K (.ref S) (.type "BaseException") = some true) (i : PySem.W.isClsIn K S = true) (t : PySem.W.typeIn K (.ref S) = some (.type "type")) (s : PySem.W.subIn K (.ref S) (.ref S) = some true) :
    PySem.W.exmOne K (.ref S) (.ref S) = some true := by
  have e1 : (PySem.W.subIn K (.ref S) (.type "BaseException") == some true) = true := by rw [b] <;> rfl
  show (if _ then _ else _) = _
  rw [if_pos e1]
  exact own_cls i t s
theorem kit_own {K : PySem.W.Frag} {C S : Addr} (i : PySem.W.isClsIn K S = true) (t : PySem.W.typeIn K (.ref S) = some (.type "type")) (s : PySem.W.subIn K (.ref C) (.ref S) = some true) : PySem.W.kitOne K (.ref C) (.ref S) = some true := by
  show (if _ then _ else _) = _
  split
  · rfl
  · exact own_cls i t s
theorem kit_blt {K : PySem.W.Frag} {C : Addr} {n : String} (m : PySem.W.kitMeta n = true) (s : PySem.W.subIn K (.ref C) (.type n) = some true) : PySem.W.kitOne K (.ref C) (.type n) = some true := by
  show (if _ then _ else (if _ then _ else _)) = _
  split
  · rfl
  · first
      | exact s
      | (rw [if_pos m]; exact s)
end Sn

namespace Sn
open PySem PySem.Spec PyProof.Rows L2 TL
/-! ### the text -/
def topS (i : Nat) : Stmt := PySem.Challenge.pw_samenames_k06_relexing.main.body.getD i (.Pass ⟨0, 0, 0, 0⟩)
/-- the built-in names that stand as they are -/
structure Nm (mg : Str → Option Value) : Prop where
  abs : mg "abs" = none
  int_ : mg "int" = none
  len : mg "len" = none
  range : mg "range" = none
  isinstance : mg "isinstance" = none
  bool_ : mg "bool" = none
  str_ : mg "str" = none
  tuple_ : mg "tuple" = none
  list_ : mg "list" = none
section
variable {P : Program} {w : World} {K : PySem.W.Frag} {mg : Str → Option Value} {base : Heap} {f : Addr} {fd : FuncData}
abbrev s_tape : Stmt := topS 22
abbrev N_tape : List Str := ["script", "cell", "cells", "seed"]
theorem sc_tape : FnScope N_tape ["script"] (defScope s_tape) := ⟨rfl, rfl, rfl, by decide +kernel, rfl, by decide +kernel, by decide +kernel⟩
theorem nonneg_abs (i : Int) : 0 ≤ (if i < 0 then -i else i) := by
  split <;> omega
theorem ok_tape (F : Fun K "_law_tape" "_law_tape" s_tape f fd) (T : Nm mg) : FnOk P w K mg base CX0 1 f fd ["script"] (spTape K) := by
  refine F.ok sc_tape (fun vs H Q E h => ?_) (fun cdv A outer s H vs Q E hr h => ?_)
  · obtain ⟨a, ns, rfl, _⟩ := h
    rfl
  obtain ⟨a, ns, rfl, hS, hl, q⟩ := h
  refine ⟨_, (pss_cons (ps_setLc (i := 2) (own := [(("cell" : Str), 1)]) (g := (gName 1)) (tt := tYes) (by rfl) sc_tape.nd rfl rfl (sw_true rfl rfl rfl (by decide +kernel)) (pi_list (pv 0)) (blkOk_by (N := N_tape) (sc := defScope s_tape) (by decide +kernel)) (fun _ _ _ _ _ => (pg_name (i := 1) sc_tape.nd rfl (Or.inl rfl))) (fun _ _ _ _ _ => pts_nil) (fun _ _ _ _ _ => (pe_callB call_abs (by rfl) T.abs (by decide +kernel) (pa_cons (pe_callTy call_int1 (by rfl) T.int_ (by decide +kernel) (pa_cons (pv 1) pa_nil)) pa_nil))))
    (pss_cons (ps_set (i := 3) sc_tape.nd rfl (Or.inl rfl) pe_int)
    (pss_cons (ps_for PassesOwn.never rfl (pi_list (pv 2)) (pg_name (i := 1) sc_tape.nd rfl (Or.inl rfl)) (pss_one (ps_set (i := 3) sc_tape.nd rfl (Or.inl rfl) (pe_op op_mod (pe_callTy call_int1 (by rfl) T.int_ (by decide +kernel) (pa_cons (pe_op op_add (pe_op op_mul (pv 3) pe_int) (pv 1)) pa_nil)) pe_int))))
    (pss_one (ps_ret (pe_disp (pps_cons pe_str (pv 2) (pps_cons pe_str pe_int (pps_cons pe_str pe_int (pps_cons pe_str (pv 3) (pps_cons pe_str pe_int pps_nil))))) (by rfl) (by rfl) (fun z => by cases z) (by decide))))))), ?_⟩
  -- cells
  refine ⟨_, rfl, a, rfl, ⟨_, hS⟩, fun D hD => ?_⟩
  have s1 : Same H (upd H D (.lst [])) := same_new hD
  refine lc_list (K := K) (a := a) (xs := ns.map V.int) (fun i H' => Same H H' ∧ ∃ cs : List Int, H' D = some (.lst (cs.map V.int)) ∧ cs.length = i ∧ ∀ x ∈ cs, 0 ≤ x)
    ⟨s1, [], upd_same, rfl, fun _ h => nomatch h⟩ (fun i H' _ h => h.1.seq hS) ?_ ?_
  · rintro i x H' hi ⟨sm, cs, hd, hc, hp⟩
    obtain ⟨u, rfl⟩ : ∃ u, x = V.int u := by
      rw [List.getElem?_map] at hi
      cases e : ns[i]? with
      | none => rw [e] at hi; cases hi
      | some u => rw [e] at hi; exact ⟨u, (Option.some.inj hi).symm⟩
    have hi2 : i < ns.length := by
      have z := (List.getElem?_eq_some_iff.mp hi).1
      rwa [List.length_map] at z
    refine ⟨rfl, ?_⟩
    refine ⟨_, rfl, .inl ⟨_, rfl, _, rfl, cs.map V.int, hd, ?_, ?_⟩⟩
    · rw [List.length_map]; exact Nat.lt_of_lt_of_le (show cs.length < 1000 by omega) (by decide)
    · refine ⟨fun b o e => ?_, cs ++ [if u < 0 then -u else u], ?_, by simp [hc], fun y hy => ?_⟩
      · rw [upd_ne (ne_of_none e hD)]; exact sm _ _ e
      · rw [upd_same, List.map_append] <;> rfl
      · rcases List.mem_append.mp hy with hy | hy
        · exact hp y hy
        · rw [List.mem_singleton.mp hy]; exact nonneg_abs u
  · rintro H1 ⟨sm, cs, hd, hc, hp⟩
    -- seed
    refine ⟨_, rfl, D, rfl, ⟨_, .inl (.inl hd)⟩, for_list (K := K) (a := D) (xs := cs.map V.int) (fun i σ H' => ∃ (v : Option V) (se : Int), σ = [some (.ref a), v, some (.ref D), some (.int se)] ∧ H' = H1 ∧ 0 ≤ se ∧ se < 2147483647)
      ⟨none, 7, rfl, rfl, by decide, by decide⟩ (fun i σ H' _ ⟨_, _, _, e, _⟩ => by rw [e]; exact .inl (.inl hd)) ?_ ?_⟩
    · rintro i x σ H' hi ⟨v, se, rfl, rfl, h0, h1⟩
      obtain ⟨u, rfl⟩ : ∃ u, x = V.int u := by
        rw [List.getElem?_map] at hi
        cases e : cs[i]? with
        | none => rw [e] at hi; cases hi
        | some u => rw [e] at hi; exact ⟨u, (Option.some.inj hi).symm⟩
      refine ⟨_, rfl, _, _, rfl, rfl, .inr ⟨by decide, by decide⟩, _, rfl, _, _, rfl, rfl, .inl ⟨_, rfl, _, _, rfl, rfl, (by show (0 : Int) < 2147483647; decide), ?_⟩⟩
      exact ⟨_, _, rfl, rfl, Int.emod_nonneg _ (by decide), Int.emod_lt_of_pos _ (by decide)⟩
    · rintro σ H' ⟨v, se, rfl, rfl, h0, h1⟩
      -- the dict
      intro t ht
      have hDt : D ≠ t := ne_of_none hd ht
      refine ⟨_, rfl, ?_⟩
      refine ⟨_, rfl, ?_⟩
      refine ⟨upd_same, tk D 0 0 se 0, rfl, (by show 5 ≤ 15; decide), ?_⟩
      rw [upd_upd]
      have e : mergeK [] (tk D 0 0 se 0) = tk D 0 0 se 0 := by kernel_rfl
      rw [e]
      exact q t D _ (fun b o z => by rw [upd_ne (ne_of_none (sm _ _ z) ht)]; exact sm _ _ z) (sm.free ht) hD
        ⟨cs, 0, 0, se, 0, upd_same, by rw [upd_ne hDt]; exact hd, hp, by decide, by decide, h0, h1⟩

abbrev s_take : Stmt := topS 23
abbrev N_take : List Str := ["tape", "many", "drawn", "mixed"]
theorem sc_take : FnScope N_take ["tape", "many"] (defScope s_take) := ⟨rfl, rfl, rfl, by decide +kernel, rfl, by decide +kernel, by decide +kernel⟩
theorem ok_take (F : Fun K "_law_take" "_law_take" s_take f fd) (T : Nm mg) : FnOk P w K mg base CX0 1 f fd ["tape", "many"] spTake := by
  refine F.ok sc_take (fun vs H Q E h => ?_) (fun cdv A outer s H vs Q E hr h => ?_)
  · obtain ⟨t, c, n, rfl, _⟩ := h
    rfl
  obtain ⟨t, c, n, rfl, ⟨cs, a, l, se, sa, z⟩, hn, hn2, q⟩ := h
  refine ⟨_, (C8.pss_cut (ps_if (PW.pt (pw_and (pt_cmpR op_eq (pe_dget (hu_of hr) (pv 0) pe_str (fun _ _ => rfl)) pe_int (nomark _)) (pw_and1 (pt_cmpR op_lt (pe_dget (hu_of hr) (pv 0) pe_str (fun _ _ => rfl)) (pe_callB call_len_seq (by rfl) T.len PySem.boot_len (pa_cons (pe_dget (hu_of hr) (pv 0) pe_str (fun _ _ => rfl)) pa_nil)) (nomark _))))) (pss_cons (ps_dput (hu_of hr) (pv 0) pe_str (pe_ix (r := rIxL K) ix_list (pe_dget (hu_of hr) (pv 0) pe_str (fun _ _ => rfl)) (pe_dget (hu_of hr) (pv 0) pe_str (fun _ _ => rfl)) (fun _ _ => rfl)) rfl)
    (pss_one (ps_dput (hu_of hr) (pv 0) pe_str (pe_op op_add (pe_dget (hu_of hr) (pv 0) pe_str (fun _ _ => rfl)) pe_int) rfl))) pss_nil)
    (pss_cons (ps_if (pt_cmpR op_gt (pe_dget (hu_of hr) (pv 0) pe_str (fun _ _ => rfl)) pe_int (nomark _)) (pss_cons (ps_set (i := 2) sc_take.nd rfl (Or.inl rfl) (pe_op op_mod (pe_callTy call_int1 (by rfl) T.int_ (by decide +kernel) (pa_cons (pe_dget (hu_of hr) (pv 0) pe_str (fun _ _ => rfl)) pa_nil)) (pv 1)))
    (pss_cons (ps_dput (hu_of hr) (pv 0) pe_str (pe_op op_fdiv (pe_dget (hu_of hr) (pv 0) pe_str (fun _ _ => rfl)) (pv 1)) rfl)
    (pss_one (ps_ret (pv 2))))) pss_nil)
    (pss_cons (ps_dput (hu_of hr) (pv 0) pe_str (pe_op op_add (pe_dget (hu_of hr) (pv 0) pe_str (fun _ _ => rfl)) pe_int) rfl)
    (pss_cons (ps_set (i := 3) sc_take.nd rfl (Or.inl rfl) (pe_op op_mod (pe_callTy call_int1 (by rfl) T.int_ (by decide +kernel) (pa_cons (pe_op op_add (pe_op op_mul (pe_dget (hu_of hr) (pv 0) pe_str (fun _ _ => rfl)) pe_int) (pe_op op_mul (pe_dget (hu_of hr) (pv 0) pe_str (fun _ _ => rfl)) pe_int)) pa_nil)) pe_int))
    (pss_cons (ps_set (i := 3) sc_take.nd rfl (Or.inl rfl) (pe_op op_mod (pe_callTy call_int1 (by rfl) T.int_ (by decide +kernel) (pa_cons (pe_op op_add (pe_op op_add (pe_op op_mul (pv 3) (pv 3)) (pe_op op_mul (pe_dget (hu_of hr) (pv 0) pe_str (fun _ _ => rfl)) pe_int)) pe_int) pa_nil)) pe_int))
    (pss_one (ps_ret (pe_op op_mod (pe_callTy call_int1 (by rfl) T.int_ (by decide +kernel) (pa_cons (pv 3) pa_nil)) (pv 1))))))))), ?_⟩
  -- if tape['left'] == 0 and tape['at'] < len(tape['cells'])
  refine ⟨fun σ H' => σ = L2.start N_take [.ref t, .int n] ∧ ∃ a l, But t H H' ∧ TkAt H' t c cs a l se sa, ?_, ?_⟩
  · refine ⟨_, rfl, t, _, rfl, z.dg g_left, rfl, _, rfl, ?_⟩
    refine ite2 (fun _ => ?_) (fun _ => iteF ⟨rfl, a, l, But.refl t H, z⟩)
    refine ⟨_, rfl, t, _, rfl, z.dg g_at, _, rfl, t, _, rfl, z.dg g_cells, c, _, rfl, .inl (.inl (.inl z.cl)), _, _, rfl, rfl, _, rfl, ?_⟩
    refine ite2 (fun ha => ?_) (fun _ => ⟨rfl, a, l, But.refl t H, z⟩)
    have ha : a < ((cs.map V.int).length : Int) := of_decide_eq_true ha
    rw [List.length_map] at ha
    have hj : a.toNat < cs.length := by have := z.a0; omega
    have ea : a = (a.toNat : Int) := by have := z.a0; omega
    have g1 : (cs.map V.int)[a.toNat]? = some (.int cs[a.toNat]) := by
      rw [List.getElem?_map, List.getElem?_eq_getElem hj] <;> rfl
    refine ⟨_, rfl, t, _, rfl, z.dg g_cells, _, rfl, t, _, rfl, z.dg g_at, c, _, _, _, rfl, rfl, .inl (.inl z.cl), at_of ea g1, _, rfl, t, _, rfl, z.pLeft, ?_⟩
    have z1 := z.sLeft (v := cs[a.toNat]) (z.cp _ (List.getElem_mem hj))
    refine ⟨_, rfl, t, _, rfl, z1.dg g_at, _, _, rfl, rfl, _, rfl, t, _, rfl, z1.pAt, ?_⟩
    exact ⟨rfl, _, _, ((But.refl t H).upd).upd, z1.sAt (by have := z.a0; omega)⟩
  rintro σ H1 ⟨rfl, a, l, bt, z⟩
  -- if tape['left'] > 0
  refine ⟨_, rfl, t, _, rfl, z.dg g_left, _, _, rfl, rfl, _, rfl, ?_⟩
  refine ite2 (fun hl => ?_) (fun _ => ?_)
  · have hl : 0 < l := of_decide_eq_true hl
    refine ⟨_, rfl, t, _, rfl, z.dg g_left, .inl ⟨_, rfl, _, rfl, _, _, rfl, rfl, hn, ?_⟩⟩
    refine ⟨_, rfl, t, _, rfl, z.dg g_left, _, rfl, _, _, rfl, rfl, ⟨hn, hn2⟩, _, rfl, t, _, rfl, z.pLeft, ?_⟩
    refine ⟨_, rfl, ?_⟩
    exact q _ _ (Int.emod_nonneg _ (by omega)) (Int.emod_lt_of_pos _ hn) bt.upd ⟨cs, a, _, se, sa, z.sLeft (Int.ediv_nonneg z.l0 (by omega))⟩
  · refine ⟨_, rfl, t, _, rfl, z.dg g_salt, _, _, rfl, rfl, _, rfl, t, _, rfl, z.pSalt, ?_⟩
    have z1 := z.sSalt (v := sa + 1)
    have b1 : But t H (upd H1 t (.dK (tk c a l se (sa + 1)))) := bt.upd
    generalize upd H1 t (.dK (tk c a l se (sa + 1))) = H2 at z1 b1 ⊢
    refine ⟨_, rfl, t, _, rfl, z1.dg g_seed, _, _, rfl, rfl, .inr ⟨by decide, by decide⟩, _, rfl, t, _, rfl, z1.dg g_salt, _, _, rfl, rfl, .inr ⟨by decide, by decide⟩, _, _, rfl, rfl, .inl ⟨_, rfl, _, _, rfl, rfl, (by show (0 : Int) < 2147483647; decide), ?_⟩⟩
    have hm := Int.emod_lt_of_pos (se * 48271 + (sa + 1) * 69621) (show (0 : Int) < 2147483647 by decide)
    have hm0 := Int.emod_nonneg (se * 48271 + (sa + 1) * 69621) (show (2147483647 : Int) ≠ 0 by decide)
    generalize (se * 48271 + (sa + 1) * 69621) % 2147483647 = mx at hm hm0 ⊢
    refine ⟨_, rfl, _, rfl, _, _, rfl, rfl, .inl ⟨by omega, by omega⟩, _, rfl, t, _, rfl, z1.dg g_salt, _, _, rfl, rfl, .inr ⟨by decide, by decide⟩, _, _, rfl, rfl, _, _, rfl, rfl, .inl ⟨_, rfl, _, _, rfl, rfl, (by show (0 : Int) < 2147483399; decide), ?_⟩⟩
    refine ⟨_, rfl, .inl ⟨_, rfl, _, rfl, _, _, rfl, rfl, hn, ?_⟩⟩
    exact q _ _ (Int.emod_nonneg _ (by omega)) (Int.emod_lt_of_pos _ hn) b1 ⟨cs, a, l, se, _, z1⟩

abbrev s_isInt : Stmt := topS 24
abbrev N_isInt : List Str := ["actual"]
theorem sc_isInt : FnScope N_isInt ["actual"] (defScope s_isInt) := ⟨rfl, rfl, rfl, by decide +kernel, rfl, by decide +kernel, by decide +kernel⟩
theorem ok_isInt (F : Fun K "_law_is_integer" "_law_is_integer" s_isInt f fd) (T : Nm mg) : FnOk P w K mg base CX0 1 f fd ["actual"] spIsInt := by
  refine F.ok sc_isInt (fun vs H Q E h => ?_) (fun cdv A outer s H vs Q E hr h => ?_)
  · obtain ⟨i, rfl, _⟩ := h
    rfl
  obtain ⟨i, rfl, q⟩ := h
  refine ⟨_, (pss_one (ps_ret (pe_and (pe_callB call_isi (by rfl) T.isinstance (by decide +kernel) (pa_cons (pv 0) (pa_cons (pe_bltn (v := .ty "int") (u := .type "int") (by rfl) T.int_ (by decide +kernel) rfl) pa_nil))) (pe_one (pe_not (pe_callB call_isi (by rfl) T.isinstance (by decide +kernel) (pa_cons (pv 0) (pa_cons (pe_bltn (v := .ty "bool") (u := .type "bool") (by rfl) T.bool_ (by decide +kernel) rfl) pa_nil)))))))), ?_⟩
  refine ⟨_, rfl, _, _, _, _, true, rfl, .ty _, .base (.int _), kit_ty (by decide +kernel), _, rfl, ?_⟩
  refine ⟨_, rfl, _, _, _, _, false, rfl, .ty _, .base (.int _), kit_ty (by decide +kernel), _, rfl, q⟩

abbrev s_sameItems : Stmt := topS 25
abbrev N_sameItems : List Str := ["actual", "expected", "k"]
theorem sc_sameItems : FnScope N_sameItems ["actual", "expected"] (defScope s_sameItems) := ⟨rfl, rfl, rfl, by decide +kernel, rfl, by decide +kernel, by decide +kernel⟩
theorem ok_items {n : Nat} (F : Fun K "_law_same_items" "_law_same_items" s_sameItems f fd) (T : Nm mg) (C_law_same : Cal P w K mg base CX0 (2 * n) "_law_same" (spSame n)) : FnOk P w K mg base CX0 (2 * n + 1) f fd ["actual", "expected"] (spItems n) := by
  refine F.ok sc_sameItems (fun vs H Q E h => ?_) (fun cdv A outer s H vs Q E hr h => ?_)
  · obtain ⟨a, b, xs, ys, rfl, _⟩ := h
    rfl
  obtain ⟨a, b, xs, ys, rfl, hs, hl, hm, al, q⟩ := h
  have sa : SqL K H a xs ∨ SqT K H a xs := hs.elim (fun h => .inr (.inl (.inl h.1))) fun h => .inl (.inl (.inl h.1))
  have sb : SqL K H b ys ∨ SqT K H b ys := hs.elim (fun h => .inr (.inl (.inl h.2))) fun h => .inl (.inl (.inl h.2))
  refine ⟨_, (pss_cons (ps_if (pt_cmpR op_ne (pe_callB call_len_seq (by rfl) T.len PySem.boot_len (pa_cons (pv 0) pa_nil)) (pe_callB call_len_seq (by rfl) T.len PySem.boot_len (pa_cons (pv 1) pa_nil)) (nomark _)) (pss_one (ps_ret pe_bl)) pss_nil)
    (pss_cons (ps_for PassesOwn.never rfl (pi_range1 (by rfl) T.range (pa_cons (pe_callB call_len_seq (by rfl) T.len PySem.boot_len (pa_cons (pv 1) pa_nil)) pa_nil)) (pg_name (i := 2) sc_sameItems.nd rfl (Or.inl rfl)) (pss_one (ps_if (pt_not (pt_val (pe_c C_law_same hr (by first | decide | omega) pass0 (pa_cons (pe_ix (r := rIx K) ix_seq (pv 0) (pv 2) (fun _ _ => rfl)) (pa_cons (pe_ix (r := rIx K) ix_seq (pv 1) (pv 2) (fun _ _ => rfl)) pa_nil))))) (pss_one (ps_ret pe_bl)) pss_nil)))
    (pss_one (ps_ret pe_bl)))), ?_⟩
  refine ⟨_, rfl, a, xs, rfl, sa, _, rfl, b, ys, rfl, sb, rfl, _, rfl, ?_⟩
  refine iteNS (by rw [hl]) ?_
  refine ⟨_, rfl, b, ys, rfl, sb, _, rfl, by omega, by omega, for_range (lo := 0) (n := ((ys.length : Nat) : Int).toNat) (fun i σ H' => H' = H ∧ ∃ v, σ = [some (.ref a), some (.ref b), v]) ⟨rfl, none, rfl⟩ ?_ ?_⟩
  · rintro i σ H' hi ⟨rfl, v, rfl⟩
    have hi1 : i < ys.length := by omega
    have hi2 : i < xs.length := by omega
    have ei : ((0 : Int) + (i : Nat)) = ((i : Nat) : Int) := Int.zero_add _
    have g1 := List.getElem?_eq_getElem hi2
    have g2 := List.getElem?_eq_getElem hi1
    refine ⟨_, rfl, _, rfl, ?_⟩
    have r1 : ∀ {Q' : VK}, Q' xs[i] H' → rIx K (.ref a) (.int (0 + (i : Nat))) H' Q' := fun {Q'} h => sa.elim (fun s => .inl ⟨a, xs, _, _, rfl, rfl, s, at_of ei g1, h⟩) fun s => .inr (.inl ⟨a, xs, _, _, rfl, rfl, s, at_of ei g1, h⟩)
    have r2 : ∀ {Q' : VK}, Q' ys[i] H' → rIx K (.ref b) (.int (0 + (i : Nat))) H' Q' := fun {Q'} h => sb.elim (fun s => .inl ⟨b, ys, _, _, rfl, rfl, s, at_of ei g2, h⟩) fun s => .inr (.inl ⟨b, ys, _, _, rfl, rfl, s, at_of ei g2, h⟩)
    refine r1 ⟨_, rfl, _, rfl, r2 ?_⟩
    refine ⟨_, _, rfl, al i _ _ g1 g2, _, rfl, ?_⟩
    exact ⟨rfl, _, rfl⟩
  · rintro σ H' ⟨rfl, v, rfl⟩
    exact q

abbrev s_same : Stmt := topS 26
abbrev N_same : List Str := ["actual", "expected", "key"]
theorem sc_same : FnScope N_same ["actual", "expected"] (defScope s_same) := ⟨rfl, rfl, rfl, by decide +kernel, rfl, by decide +kernel, by decide +kernel⟩
theorem ok_same {n : Nat} (F : Fun K "_law_same" "_law_same" s_same f fd) (T : Nm mg) (C_law_is_integer : Cal P w K mg base CX0 1 "_law_is_integer" spIsInt) (C_law_same_items : Cal P w K mg base CX0 (2 * n + 1) "_law_same_items" (spItems n)) :
    FnOk P w K mg base CX0 (2 * n + 2) f fd ["actual", "expected"] (spSame (n + 1)) := by
  refine F.ok sc_same (fun vs H Q E h => ?_) (fun cdv A outer s H vs Q E hr h => ?_)
  · obtain ⟨x, y, rfl, _⟩ := h
    rfl
  obtain ⟨x, y, rfl, al, q⟩ := h
  refine ⟨_, (pss_cons (ps_if (pt_cmpR op_isN (pv 1) pe_non (nomark _)) (pss_one (ps_ret (pe_cmpR op_isN (pv 0) pe_non (nomark _)))) pss_nil)
    (pss_cons (ps_if (pt_val (pe_callB call_isi (by rfl) T.isinstance (by decide +kernel) (pa_cons (pv 1) (pa_cons (pe_bltn (v := .ty "bool") (u := .type "bool") (by rfl) T.bool_ (by decide +kernel) rfl) pa_nil)))) (pss_one (ps_ret (pe_and (pe_callB call_isi (by rfl) T.isinstance (by decide +kernel) (pa_cons (pv 0) (pa_cons (pe_bltn (v := .ty "bool") (u := .type "bool") (by rfl) T.bool_ (by decide +kernel) rfl) pa_nil))) (pe_one (pe_cmpR op_eq (pv 0) (pv 1) (nomark _)))))) pss_nil)
    (pss_cons (ps_if (pt_val (pe_callB call_isi (by rfl) T.isinstance (by decide +kernel) (pa_cons (pv 1) (pa_cons (pe_bltn (v := .ty "int") (u := .type "int") (by rfl) T.int_ (by decide +kernel) rfl) pa_nil)))) (pss_one (ps_ret (pe_and (pe_c C_law_is_integer hr (by first | decide | omega) pass0 (pa_cons (pv 0) pa_nil)) (pe_one (pe_cmpR op_eq (pv 0) (pv 1) (nomark _)))))) pss_nil)
    (pss_cons (ps_if (pt_val (pe_callB call_isi (by rfl) T.isinstance (by decide +kernel) (pa_cons (pv 1) (pa_cons (pe_bltn (v := .ty "str") (u := .type "str") (by rfl) T.str_ (by decide +kernel) rfl) pa_nil)))) (pss_one (ps_ret (pe_and (pe_callB call_isi (by rfl) T.isinstance (by decide +kernel) (pa_cons (pv 0) (pa_cons (pe_bltn (v := .ty "str") (u := .type "str") (by rfl) T.str_ (by decide +kernel) rfl) pa_nil))) (pe_one (pe_cmpR op_eq (pv 0) (pv 1) (nomark _)))))) pss_nil)
    (pss_cons (ps_if (pt_val (pe_callB call_isi (by rfl) T.isinstance (by decide +kernel) (pa_cons (pv 1) (pa_cons (pe_bltn (v := .ty "tuple") (u := .type "tuple") (by rfl) T.tuple_ (by decide +kernel) rfl) pa_nil)))) (pss_one (ps_ret (pe_and (pe_callB call_isi (by rfl) T.isinstance (by decide +kernel) (pa_cons (pv 0) (pa_cons (pe_bltn (v := .ty "tuple") (u := .type "tuple") (by rfl) T.tuple_ (by decide +kernel) rfl) pa_nil))) (pe_one (pe_c C_law_same_items hr (by first | decide | omega) pass0 (pa_cons (pv 0) (pa_cons (pv 1) pa_nil))))))) pss_nil)
    (pss_cons (ps_if (pt_val (pe_callB call_isi (by rfl) T.isinstance (by decide +kernel) (pa_cons (pv 1) (pa_cons (pe_bltn (v := .ty "list") (u := .type "list") (by rfl) T.list_ (by decide +kernel) rfl) pa_nil)))) (pss_one (ps_ret (pe_and (pe_callB call_isi (by rfl) T.isinstance (by decide +kernel) (pa_cons (pv 0) (pa_cons (pe_bltn (v := .ty "list") (u := .type "list") (by rfl) T.list_ (by decide +kernel) rfl) pa_nil))) (pe_one (pe_c C_law_same_items hr (by first | decide | omega) pass0 (pa_cons (pv 0) (pa_cons (pv 1) pa_nil))))))) pss_nil)
    (pss_cons ps_never
    (pss_cons ps_never
    (pss_cons ps_never
    (pss_one ps_never)))))))))), ?_⟩
  rcases al with ⟨rfl, hx⟩ | ⟨a, b, xs, ys, rfl, rfl, ha, hb, hl, hm, al⟩ | ⟨a, b, xs, ys, rfl, rfl, ha, hb, hl, hm, al⟩
  · cases x with
    | non => exact ⟨_, rfl, rfl, _, rfl, iteP rfl ⟨_, rfl, rfl, qP rfl q⟩⟩
    | bl k =>
      refine ⟨_, rfl, rfl, _, rfl, iteN (fun z => nomatch z) ?_⟩
      refine ⟨_, rfl, _, _, _, _, true, rfl, .ty _, .base (.bl _), kit_ty (by decide +kernel), _, rfl, ?_⟩
      refine ⟨_, rfl, _, _, _, _, true, rfl, .ty _, .base (.bl _), kit_ty (by decide +kernel), _, rfl, ?_⟩
      exact ⟨_, rfl, _, rfl, rfl, qP rfl q⟩
    | int i =>
      refine ⟨_, rfl, rfl, _, rfl, iteN (fun z => nomatch z) ?_⟩
      refine ⟨_, rfl, _, _, _, _, false, rfl, .ty _, .base (.int _), kit_ty (by decide +kernel), _, rfl, ?_⟩
      refine ⟨_, rfl, _, _, _, _, true, rfl, .ty _, .base (.int _), kit_ty (by decide +kernel), _, rfl, ?_⟩
      refine ⟨_, rfl, i, rfl, _, rfl, ?_⟩
      exact ⟨_, rfl, _, rfl, rfl, qP rfl q⟩
    | str z =>
      refine ⟨_, rfl, rfl, _, rfl, iteN (fun z => nomatch z) ?_⟩
      refine ⟨_, rfl, _, _, _, _, false, rfl, .ty _, .base (.str _), kit_ty (by decide +kernel), _, rfl, ?_⟩
      refine ⟨_, rfl, _, _, _, _, false, rfl, .ty _, .base (.str _), kit_ty (by decide +kernel), _, rfl, ?_⟩
      refine ⟨_, rfl, _, _, _, _, true, rfl, .ty _, .base (.str _), kit_ty (by decide +kernel), _, rfl, ?_⟩
      refine ⟨_, rfl, _, _, _, _, true, rfl, .ty _, .base (.str _), kit_ty (by decide +kernel), _, rfl, ?_⟩
      exact ⟨_, rfl, _, rfl, rfl, qP rfl q⟩
    | byt z => cases hx
    | flt z => cases hx
    | ref z => cases hx
    | ty z => cases hx
  · refine ⟨_, rfl, rfl, _, rfl, iteN (fun z => nomatch z) ?_⟩
    refine ⟨_, rfl, _, _, _, _, false, rfl, .ty _, .base (.tup hb), kit_ty (by decide +kernel), _, rfl, ?_⟩
    refine ⟨_, rfl, _, _, _, _, false, rfl, .ty _, .base (.tup hb), kit_ty (by decide +kernel), _, rfl, ?_⟩
    refine ⟨_, rfl, _, _, _, _, false, rfl, .ty _, .base (.tup hb), kit_ty (by decide +kernel), _, rfl, ?_⟩
    refine ⟨_, rfl, _, _, _, _, true, rfl, .ty _, .base (.tup hb), kit_ty (by decide +kernel), _, rfl, ?_⟩
    refine ⟨_, rfl, _, _, _, _, true, rfl, .ty _, .base (.tup ha), kit_ty (by decide +kernel), _, rfl, ?_⟩
    exact ⟨_, rfl, _, rfl, a, b, xs, ys, rfl, .inl ⟨ha, hb⟩, hl, hm, al, q⟩
  · refine ⟨_, rfl, rfl, _, rfl, iteN (fun z => nomatch z) ?_⟩
    refine ⟨_, rfl, _, _, _, _, false, rfl, .ty _, .base (.lst hb), kit_ty (by decide +kernel), _, rfl, ?_⟩
    refine ⟨_, rfl, _, _, _, _, false, rfl, .ty _, .base (.lst hb), kit_ty (by decide +kernel), _, rfl, ?_⟩
    refine ⟨_, rfl, _, _, _, _, false, rfl, .ty _, .base (.lst hb), kit_ty (by decide +kernel), _, rfl, ?_⟩
    refine ⟨_, rfl, _, _, _, _, false, rfl, .ty _, .base (.lst hb), kit_ty (by decide +kernel), _, rfl, ?_⟩
    refine ⟨_, rfl, _, _, _, _, true, rfl, .ty _, .base (.lst hb), kit_ty (by decide +kernel), _, rfl, ?_⟩
    refine ⟨_, rfl, _, _, _, _, true, rfl, .ty _, .base (.lst ha), kit_ty (by decide +kernel), _, rfl, ?_⟩
    exact ⟨_, rfl, _, rfl, a, b, xs, ys, rfl, .inr ⟨ha, hb⟩, hl, hm, al, q⟩
theorem no_same0 : ∀ vs H Q E, ¬ spSame 0 vs H Q E := fun vs H Q E h => by
  obtain ⟨x, y, _, al, _⟩ := h
  exact al
/-- both, as deep as one likes -/
theorem both {f g : Addr} {fd gd : FuncData} (FS : Fun K "_law_same" "_law_same" s_same f fd) (bS : Binds K fd ["actual", "expected"] []) (mS : mg "_law_same" = some (.ref f)) (FI : Fun K "_law_same_items" "_law_same_items" s_sameItems g gd) (bI : Binds K gd ["actual", "expected"] []) (mI : mg "_law_same_items" = some (.ref g))
    (T : Nm mg) (C_law_is_integer : Cal P w K mg base CX0 1 "_law_is_integer" spIsInt) : ∀ n, Cal P w K mg base CX0 (2 * n) "_law_same" (spSame n)
  | 0 => ⟨f, fd, _, none_left no_same0, mS, FS.kp, bS⟩
  | n + 1 => ⟨f, fd, _, ok_same FS T C_law_is_integer ⟨g, gd, _, ok_items FI T (both FS bS mS FI bI mI T C_law_is_integer n), mI, FI.kp, bI⟩, mS, FS.kp, bS⟩

abbrev s_snippet : Stmt := topS 28
abbrev N_snippet : List Str := ["tape", "pieces", "k"]
theorem sc_snippet : FnScope N_snippet ["tape"] (defScope s_snippet) := ⟨rfl, rfl, rfl, by decide +kernel, rfl, by decide +kernel, by decide +kernel⟩
def pcs_snippet_1 : List Str := ["def ", "data ", "f", "x", "(", ")", ": Int", " = ", "1", " + ", "\n", "\n ", "#", " let x = ", " in ", ","]
def pcs_snippet_2 : List Str := ["\x69mport ", "a", "trait ", "impl ", " for ", "Bool", "if ", " then ", " else ", ".", "==", "[", "]", " "]
theorem pcs_ok : ((pcs_snippet_1 ++ pcs_snippet_2).all fun z => okT z && decide (z.length ≤ 9)) = true := by decide +kernel
theorem pcs_len : (pcs_snippet_1 ++ pcs_snippet_2).length = 30 := by decide +kernel
theorem ok_snippet (F : Fun K "_law_snippet" "_law_snippet" s_snippet f fd) (T : Nm mg) (C_law_take : Cal P w K mg base CX0 1 "_law_take" spTake) : FnOk P w K mg base CX0 2 f fd ["tape"] spSnippet := by
  refine F.ok sc_snippet (fun vs H Q E h => ?_) (fun cdv A outer s H vs Q E hr h => ?_)
  · obtain ⟨t, c, rfl, _⟩ := h
    rfl
  obtain ⟨t, c, rfl, z, q⟩ := h
  refine ⟨_, (pss_cons (ps_set (i := 1) sc_snippet.nd rfl (Or.inr rfl) (pe_lst (pa_strs pcs_snippet_1)))
    (pss_cons (ps_set (i := 1) sc_snippet.nd rfl (Or.inr rfl) (pe_op op_cat (pv 1) (pe_lst (pa_strs pcs_snippet_2))))
    (pss_one (ps_ret (pe_join pe_str (pe_lc (own := [(("k" : Str), 2)]) (g := (gName 2)) (tt := tYes) rfl sc_snippet.nd (pi_range1 (by rfl) T.range (pa_cons (pe_c C_law_take hr (by first | decide | omega) pass0 (pa_cons (pv 0) (pa_cons pe_int pa_nil))) pa_nil)) (blkOk_by (N := N_snippet) (sc := defScope s_snippet) (by decide +kernel)) (fun _ _ _ _ _ => (pg_name (i := 2) sc_snippet.nd rfl (Or.inl rfl))) (fun _ _ _ _ _ => pts_nil) (fun _ _ _ _ _ => (pe_ix (r := rIxL K) ix_list (pv 1) (pe_c C_law_take hr (by first | decide | omega) pass0 (pa_cons (pv 0) (pa_cons pe_int pa_nil))) (fun _ _ => rfl))))))))), ?_⟩
  refine ⟨(by show 16 ≤ sizeLine; decide), fun l1 n1 => ?_⟩
  refine ⟨_, rfl, (by show 14 ≤ sizeLine; decide), fun l2 n2 => ?_⟩
  have e1 : upd (upd H l1 (.lst (pcs_snippet_1.map V.str))) l2 (.lst (pcs_snippet_2.map V.str)) l1 = some (.lst (pcs_snippet_1.map V.str)) := by
    rw [upd_ne (ne_of_none upd_same n2), upd_same]
  refine ⟨l1, l2, _, _, rfl, rfl, e1, upd_same, (by show 30 ≤ sizeLine; decide), fun p np => ?_⟩
  have b1 : Same H (upd (upd (upd H l1 (.lst (pcs_snippet_1.map V.str))) l2 (.lst (pcs_snippet_2.map V.str))) p (.lst (pcs_snippet_1.map V.str ++ pcs_snippet_2.map V.str))) := ((same_new n1).trans (same_new n2)).trans (same_new np)
  have hp : upd (upd (upd H l1 (.lst (pcs_snippet_1.map V.str))) l2 (.lst (pcs_snippet_2.map V.str))) p (.lst (pcs_snippet_1.map V.str ++ pcs_snippet_2.map V.str)) p = some (.lst ((pcs_snippet_1 ++ pcs_snippet_2).map V.str)) := by
    rw [upd_same, List.map_append]
  generalize upd (upd (upd H l1 (.lst (pcs_snippet_1.map V.str))) l2 (.lst (pcs_snippet_2.map V.str))) p (.lst (pcs_snippet_1.map V.str ++ pcs_snippet_2.map V.str)) = H1 at b1 hp ⊢
  have z1 : Tp H1 t c := z.same b1
  refine ⟨⟨_, rfl⟩, _, rfl, t, c, 6, rfl, z1, by decide, by decide, fun r H2 h0 h6 b2 z2 => ⟨r, rfl, by omega, by omega, fun D hD => ?_⟩⟩
  have pt : p ≠ t := z1.ne hp (fun _ q => nomatch q)
  have hp2 := b2 _ _ pt hp
  refine lc_range (lo := 0) (n := r.toNat) (fun i H' => But t H H' ∧ Tp H' t c ∧ H' p = some (.lst ((pcs_snippet_1 ++ pcs_snippet_2).map V.str)) ∧ ∃ zs : List Str, H' D = some (.lst (zs.map V.str)) ∧ zs.length = i ∧ ∀ y ∈ zs, OkT y ∧ y.length ≤ 9)
    ⟨((But.of b1).trans b2).trans (.of (same_new hD)), z2.new hD, by rw [upd_ne (ne_of_none hp2 hD)]; exact hp2, [], upd_same, rfl, fun _ h => nomatch h⟩ ?_ ?_
  · rintro i H' hi ⟨b3, z3, hp3, zs, hd, hl, hz⟩
    refine ⟨rfl, ?_⟩
    refine ⟨_, rfl, _, rfl, t, c, 30, rfl, z3, by decide, by decide, fun r2 H4 g0 g1 b4 z4 => ?_⟩
    have hp4 := b4 _ _ pt hp3
    have hd4 := b4 _ _ (z3.ne hd (fun _ q => nomatch q)) hd
    have hj : r2.toNat < (pcs_snippet_1 ++ pcs_snippet_2).length := by rw [pcs_len]; omega
    have g : ((pcs_snippet_1 ++ pcs_snippet_2).map V.str)[r2.toNat]? = some (.str (pcs_snippet_1 ++ pcs_snippet_2)[r2.toNat]) := by
      rw [List.getElem?_map, List.getElem?_eq_getElem hj] <;> rfl
    have dt : D ≠ t := z4.ne hd4 (fun _ q => nomatch q)
    have dp : p ≠ D := ne_of_none hp2 hD
    have dc : c ≠ D := z2.nc hD
    refine ⟨p, _, r2, _, rfl, rfl, .inl (.inl hp4), at_of (by omega) g, zs.map V.str, hd4, ?_, ?_⟩
    · rw [List.length_map]; exact Nat.lt_of_lt_of_le (show zs.length < 1000 by omega) (by decide)
    · refine ⟨fun b o nb e => ?_, z4.upd dt.symm dc, by rw [upd_ne dp]; exact hp4, zs ++ [(pcs_snippet_1 ++ pcs_snippet_2)[r2.toNat]], ?_, by simp [hl], fun y hy => ?_⟩
      · have nD : b ≠ D := fun e2 => by
          rw [e2] at e
          have e3 := b2 _ _ dt (b1 _ _ e)
          rw [hD] at e3
          cases e3
        rw [upd_ne nD]
        exact b4 _ _ nb (b3 _ _ nb e)
      · rw [upd_same, List.map_append] <;> rfl
      · rcases List.mem_append.mp hy with hy | hy
        · exact hz y hy
        · rw [List.mem_singleton.mp hy]
          have k := List.all_eq_true.mp pcs_ok _ (List.getElem_mem hj)
          rw [Bool.and_eq_true, decide_eq_true_eq] at k
          exact ⟨OkT.of k.1, k.2⟩
  · rintro H' ⟨b3, z3, hp3, zs, hd, hl, hz⟩
    have sl := sum_len_le (n := 9) fun y hy => (hz y hy).2
    refine ⟨_, D, zs, rfl, rfl, .inl (.inl (.inl hd)), ?_, ?_⟩
    · show (zs.map (·.length)).sum + zs.length * 0 ≤ 16777216
      omega
    · exact q _ _ (OkT.join rfl fun y hy => (hz y hy).1) (by rw [join_len _ rfl]; omega) b3 z3

abbrev s_char : Stmt := topS 29
abbrev N_char : List Str := ["tape", "chars"]
theorem sc_char : FnScope N_char ["tape"] (defScope s_char) := ⟨rfl, rfl, rfl, by decide +kernel, rfl, by decide +kernel, by decide +kernel⟩
def chs : Str := (" !\"#$&'()*+,-./0123456789:;<=>?@ABCDEFGHIJKLMNOPQRSTUVWXYZ[\\]^" : Str) ++ ("_`abcdefghijklmnopqrstuvwxyz{|}~\n" : Str)
theorem chs_ok : okT chs = true := by decide +kernel
theorem chs_len : chs.length = 95 := by decide +kernel
theorem ok_char (F : Fun K "_law_char" "_law_char" s_char f fd) (T : Nm mg) (C_law_take : Cal P w K mg base CX0 1 "_law_take" spTake) : FnOk P w K mg base CX0 2 f fd ["tape"] spChar := by
  refine F.ok sc_char (fun vs H Q E h => ?_) (fun cdv A outer s H vs Q E hr h => ?_)
  · obtain ⟨t, c, rfl, _⟩ := h
    rfl
  obtain ⟨t, c, rfl, z, q⟩ := h
  refine ⟨_, (pss_cons (ps_set (i := 1) sc_char.nd rfl (Or.inl rfl) pe_str)
    (pss_cons (ps_set (i := 1) sc_char.nd rfl (Or.inl rfl) (pe_op op_add_str (pv 1) pe_str))
    (pss_one (ps_ret (pe_item_str (pv 1) (pe_c C_law_take hr (by first | decide | omega) pass0 (pa_cons (pv 0) (pa_cons pe_int pa_nil))) (fun _ _ => rfl)))))), ?_⟩
  refine ⟨_, rfl, _, _, rfl, rfl, (by decide +kernel), ?_⟩
  refine ⟨_, rfl, _, rfl, t, c, 95, rfl, z, by decide, by decide, fun r H1 h0 h1 b1 z1 => ?_⟩
  have hj : r.toNat < chs.cps.toList.length := by
    rw [← TL.len_tl chs, chs_len]
    omega
  have ha : r.toNat < chs.cps.size := by
    rw [Array.length_toList] at hj
    exact hj
  have g : chs.cps[r.toNat]? = some (chs.cps[r.toNat]) := Array.getElem?_eq_getElem ha
  refine ⟨chs, r, _, rfl, rfl, h0, by omega, (by rw [chs_len]; omega), g, ?_⟩
  refine q _ _ (fun y hy => ?_) rfl b1 z1
  have hy : y ∈ [chs.cps[r.toNat]] := hy
  rw [List.mem_singleton.mp hy]
  exact List.all_eq_true.mp chs_ok _ (by simp)

abbrev s_anyText : Stmt := topS 30
abbrev N_anyText : List Str := ["tape", "most", "parts", "k"]
theorem sc_anyText : FnScope N_anyText ["tape", "most"] (defScope s_anyText) := ⟨rfl, rfl, rfl, by decide +kernel, rfl, by decide +kernel, by decide +kernel⟩
theorem ok_any (F : Fun K "_law_any_text" "_law_any_text" s_anyText f fd) (T : Nm mg) (C_law_take : Cal P w K mg base CX0 1 "_law_take" spTake) (C_law_char : Cal P w K mg base CX0 2 "_law_char" spChar) (C_law_snippet : Cal P w K mg base CX0 2 "_law_snippet" spSnippet) :
    FnOk P w K mg base CX0 3 f fd ["tape", "most"] spAny := by
  refine F.ok sc_anyText (fun vs H Q E h => ?_) (fun cdv A outer s H vs Q E hr h => ?_)
  · obtain ⟨t, c, m, rfl, _⟩ := h
    rfl
  obtain ⟨t, c, m, rfl, z, hm, q⟩ := h
  refine ⟨_, (pss_cons (ps_set (i := 2) sc_anyText.nd rfl (Or.inl rfl) (pe_lst pa_nil))
    (pss_cons (ps_for PassesOwn.never rfl (pi_range1 (by rfl) T.range (pa_cons (pe_c C_law_take hr (by first | decide | omega) pass0 (pa_cons (pv 0) (pa_cons (pe_op op_add (pv 1) pe_int) pa_nil))) pa_nil)) (pg_name (i := 3) sc_anyText.nd rfl (Or.inl rfl)) (pss_one (ps_if (pt_cmpR op_eq (pe_c C_law_take hr (by first | decide | omega) pass0 (pa_cons (pv 0) (pa_cons pe_int pa_nil))) pe_int (nomark _)) (pss_one (ps_expr (pe_bm PySem.F.plainAttrs_list PySem.F.slot_list_append PySem.F.type_list_append mt_append (pv 2) (pa_cons (pe_c C_law_char hr (by first | decide | omega) pass0 (pa_cons (pv 0) pa_nil)) pa_nil)))) (pss_one (ps_expr (pe_bm PySem.F.plainAttrs_list PySem.F.slot_list_append PySem.F.type_list_append mt_append (pv 2) (pa_cons (pe_c C_law_snippet hr (by first | decide | omega) pass0 (pa_cons (pv 0) pa_nil)) pa_nil)))))))
    (pss_one (ps_ret (pe_join pe_str (pv 2)))))), ?_⟩
  refine ⟨Nat.zero_le _, fun L nL => ?_⟩
  have z1 : Tp (upd H L (.lst [])) t c := z.new nL
  have Lt : L ≠ t := (z.nt nL).symm
  have Lc : L ≠ c := (z.nc nL).symm
  refine ⟨_, rfl, _, rfl, _, _, rfl, rfl, t, c, _, rfl, z1, by omega, by omega, fun r H1 h0 h1 b1 z2 => ⟨r, rfl, by omega, by omega, ?_⟩⟩
  refine for_range (lo := 0) (n := r.toNat) (fun i σ H' => ∃ (v : Option V) (zs : List Str), σ = [some (.ref t), some (.int m), some (.ref L), v] ∧ But t H H' ∧ Tp H' t c ∧ H' L = some (.lst (zs.map V.str)) ∧ zs.length = i ∧ ∀ y ∈ zs, OkT y ∧ y.length ≤ 45)
    ⟨none, [], rfl, (But.of (same_new nL)).trans b1, z2, b1 _ _ Lt upd_same, rfl, fun _ h => nomatch h⟩ ?_ ?_
  · rintro i σ H' hi ⟨v, zs, rfl, b2, z3, hL, hl, hz⟩
    have go : ∀ (y : Str) (H4 : Hp), OkT y → y.length ≤ 45 → But t H' H4 → Tp H4 t c → ∃ (l : Addr) (xs : List V) (u : V), V.ref L = .ref l ∧ [V.str y] = [u] ∧ H4 l = some (.lst xs) ∧ xs.length < sizeLine ∧
        ∃ (v : Option V) (zs : List Str), [some (V.ref t), some (.int m), some (.ref L), some (.int (0 + (i : Nat)))] = [some (.ref t), some (.int m), some (.ref L), v] ∧ But t H (upd H4 l (.lst (xs ++ [u]))) ∧ Tp (upd H4 l (.lst (xs ++ [u]))) t c ∧ upd H4 l (.lst (xs ++ [u])) L = some (.lst (zs.map V.str)) ∧ zs.length = i + 1 ∧ ∀ y ∈ zs, OkT y ∧ y.length ≤ 45 := by
      intro y H4 oy ly b4 z4
      refine ⟨L, _, _, rfl, rfl, b4 _ _ Lt hL, ?_, _, zs ++ [y], rfl, fun b o nb e => ?_, z4.upd Lt.symm Lc.symm, ?_, by simp [hl], fun x hx => ?_⟩
      · rw [List.length_map]; exact Nat.lt_of_lt_of_le (show zs.length < 1000 by omega) (by decide)
      · rw [upd_ne (ne_of_none e nL)]
        exact b4 _ _ nb (b2 _ _ nb e)
      · rw [upd_same, List.map_append] <;> rfl
      · rcases List.mem_append.mp hx with hx | hx
        · exact hz x hx
        · rw [List.mem_singleton.mp hx]
          exact ⟨oy, ly⟩
    refine ⟨_, rfl, t, c, 3, rfl, z3, by decide, by decide, fun r2 H3 g0 g1 b3 z4 => ⟨rfl, _, rfl, ?_⟩⟩
    have hL3 := b3 _ _ Lt hL
    refine ite2 (fun _ => ?_) (fun _ => ?_)
    · refine ⟨_, rfl, .inl ⟨rfl, _, SqL.of hL3⟩, _, rfl, t, c, rfl, z4, fun y H4 oy ly b4 z5 => ?_⟩
      exact go y H4 oy (by omega) (b3.trans b4) z5
    · refine ⟨_, rfl, .inl ⟨rfl, _, SqL.of hL3⟩, _, rfl, t, c, rfl, z4, fun y H4 oy ly b4 z5 => ?_⟩
      exact go y H4 oy ly (b3.trans b4) z5
  · rintro σ H' ⟨v, zs, rfl, b2, z3, hL, hl, hz⟩
    have sl := sum_len_le (n := 45) fun y hy => (hz y hy).2
    have zl : zs.length ≤ m := by omega
    have zm : 45 * zs.length ≤ 45 * m := Nat.mul_le_mul_left _ zl
    refine ⟨⟨_, rfl⟩, _, rfl, _, L, zs, rfl, rfl, .inl (.inl (.inl hL)), ?_, ?_⟩
    · show (zs.map (·.length)).sum + zs.length * 0 ≤ 16777216
      omega
    · exact q _ _ (OkT.join rfl fun y hy => (hz y hy).1) (by rw [join_len _ rfl]; omega) b2 z3
end

end Sn

namespace Sn
open PySem PySem.Spec PyProof.Rows L2 TL
/-! ### the program's functions of edits -/
structure NmJ (K : PySem.W.Frag) (mg : Str → Option Value) (C : Addr) (tL tP : PySem.Tok) : Prop extends Nm mg where
  ord : mg "ord" = none
  g_LONGEST : mg "LONGEST" = some (.int 4000 tL)
  g_PERCENT : mg "PERCENT" = some (.int 37 tP)
  c_InvalidEdit : mg "InvalidEdit" = some (.ref C)
  xI : PySem.W.excIn K C [.type "ValueError", .type "Exception", .type "BaseException", .type "object"] "ValueError.__new__" = true
  kI : PySem.W.keepIn K (.ref C) = true
  bI : PySem.W.subIn K (.ref C) (.type "BaseException") = some true
  tI : PySem.W.typeIn K (.ref C) = some (.type "type")
  te : PySem.W.exmOne K (.ref C) (.ref C) = some true
abbrev NL : Str := ("\n" : Str)
theorem nl_eq : NL = ⟨#[10]⟩ := by decide +kernel
theorem sp_eq : (" " : Str) = ⟨#[32]⟩ := by decide +kernel
theorem til_eq : ("~" : Str) = ⟨#[126]⟩ := by decide +kernel
theorem str_one {c : Nat} : (V.str ⟨#[c]⟩ = V.str NL) ↔ c = 10 := by
  rw [nl_eq]
  constructor
  · intro h
    injection h with h
    injection h with h
    simpa using h
  · intro h
    rw [h]
theorem le_sg (a c : Nat) : (!decide ((⟨#[c]⟩ : Str).cps.toList < (⟨#[a]⟩ : Str).cps.toList)) = decide (a ≤ c) := le_one a c
theorem okc_iff (c : Nat) : okc c = true ↔ c = 10 ∨ (32 ≤ c ∧ c ≤ 126 ∧ c ≠ 37) := by
  unfold okc
  simp [and_assoc]
theorem nat_of {o : Int} (h : 0 ≤ o) : ∃ n : Nat, o = (n : Int) := ⟨o.toNat, by omega⟩
section
variable {P : Program} {w : World} {K : PySem.W.Frag} {mg : Str → Option Value} {base : Heap} {f : Addr} {fd : FuncData} {C : Addr} {tL tP : PySem.Tok}
abbrev s_may_stand : Stmt := topS 6
abbrev N_may_stand : List Str := ["characters", "sign"]
theorem sc_may_stand : FnScope N_may_stand ["characters"] (defScope s_may_stand) := ⟨rfl, rfl, rfl, by decide +kernel, rfl, by decide +kernel, by decide +kernel⟩
theorem ok_may_stand (F : Fun K "may_stand" "may_stand" s_may_stand f fd) (T : NmJ K mg C tL tP) : FnOk P w K mg base CX0 1 f fd ["characters"] spMay := by
  refine F.ok sc_may_stand (fun vs H Q E h => ?_) (fun cdv A outer s H vs Q E hr h => ?_)
  · obtain ⟨z, rfl, _⟩ := h
    rfl
  obtain ⟨z, rfl, q⟩ := h
  refine ⟨_, (pss_cons (ps_for PassesOwn.never rfl (pi_str (pv 0)) (pg_name (i := 1) sc_may_stand.nd rfl (Or.inl rfl)) (pss_cons (ps_if (PW.pt (pw_and (pt_cmpR op_ne (pv 1) pe_str (nomark _)) (pw_and1 (pt_not (pt_chain op_le_str op_le_str pe_str (pv 1) pe_str))))) (pss_one (ps_ret pe_bl)) pss_nil)
    (pss_one (ps_if (pt_cmpR op_eq (pe_callB call_ord (by rfl) T.ord (by decide +kernel) (pa_cons (pv 1) pa_nil)) (pe_glob (v := .int 37) (by rfl) T.g_PERCENT ⟨_, rfl⟩) (nomark _)) (pss_one (ps_ret pe_bl)) pss_nil))))
    (pss_one (ps_ret pe_bl))), ?_⟩
  refine ⟨_, rfl, z, rfl, for_str (x := z) (fun i σ H' => H' = H ∧ ∃ v, σ = [some (.str z), v] ∧ ((tl z).take i).all okc = true) ⟨rfl, none, rfl, by rw [List.take_zero]; rfl⟩ ?_ ?_⟩
  · rintro i c σ H' hi ⟨rfl, v, rfl, hk⟩
    have bad : okc c = false → Q (.bl false) H' := fun hc => by
      have e : (tl z).all okc = false := by
        rw [List.all_eq_false]
        exact ⟨c, List.mem_of_getElem? hi, by rw [hc]; exact Bool.false_ne_true⟩
      rw [e] at q
      exact q
    have good : okc c = true → ((tl z).take (i + 1)).all okc = true := fun hc => by
      rw [List.take_add_one, show (tl z)[i]? = some c from hi, List.all_append, hk]
      simp [hc]
    refine ⟨_, rfl, rfl, _, rfl, ?_⟩
    have rest : ¬ (c = 37 ∧ False) → (c = 10 ∨ 32 ≤ c ∧ c ≤ 126) → (c ≠ 37 → okc c = true) := fun _ h h37 => (okc_iff c).mpr (by omega)
    by_cases h10 : c = 10
    · refine iteNS (str_one.mpr h10) ?_
      refine ⟨_, rfl, _, rfl, rfl, rfl, _, rfl, ite2 (fun e => ?_) (fun e => ⟨rfl, _, rfl, good ((okc_iff c).mpr (.inl h10))⟩)⟩
      exact absurd (of_decide_eq_true e) (by rw [h10]; decide)
    · refine iteNN (fun k => h10 (str_one.mp k)) ?_
      refine ⟨_, rfl, _, _, rfl, rfl, _, rfl, ?_⟩
      rw [sp_eq, le_sg]
      by_cases h1 : 32 ≤ c
      · refine iteP h1 ?_
        refine ⟨_, _, rfl, rfl, _, rfl, ?_⟩
        rw [til_eq, le_sg]
        by_cases h2 : c ≤ 126
        · refine iteNS h2 ?_
          refine ⟨_, rfl, _, rfl, rfl, rfl, _, rfl, ite2 (fun e => ?_) (fun e => ?_)⟩
          · have e : V.int (c : Int) = V.int 37 := of_decide_eq_true e
            injection e with e
            refine bad ?_
            have : c = 37 := by omega
            rw [this]
            rfl
          · refine ⟨rfl, _, rfl, good ((okc_iff c).mpr (.inr ⟨h1, h2, fun k => e (decide_eq_true ?_)⟩))⟩
            rw [k]
            rfl
        · refine iteNN h2 ?_
          exact bad (Bool.eq_false_iff.mpr fun k => by have := (okc_iff c).mp k; omega)
      · refine iteN h1 ?_
        refine ⟨_, rfl, ?_⟩
        exact bad (Bool.eq_false_iff.mpr fun k => by have := (okc_iff c).mp k; omega)
  · rintro σ H' ⟨rfl, v, rfl, hk⟩
    rw [show List.take z.cps.toList.length (tl z) = tl z from List.take_length] at hk
    rw [hk] at q
    exact q
end

end Sn

namespace Sn
open PySem PySem.Spec PyProof.Rows L2 TL
section
variable {P : Program} {w : World} {K : PySem.W.Frag} {mg : Str → Option Value} {base : Heap} {f : Addr} {fd : FuncData} {C : Addr} {tL tP : PySem.Tok}
theorem jgo_cons (z : List Nat) (d : Nat) (s e : Int) (n : List Nat) (r : List (Int × Int × List Nat)) (h : (d : Int) ≤ s ∧ s ≤ e ∧ e ≤ (z.length : Int) ∧ n.all okc = true) :
    jgo z d ((s, e, n) :: r) = (jgo z e.toNat r).map fun t => (z.drop d).take (s.toNat - d) ++ (n ++ t) := by
  show (if _ then _ else _) = _
  rw [if_pos h]
theorem jgo_bad (z : List Nat) (d : Nat) (s e : Int) (n : List Nat) (r : List (Int × Int × List Nat)) (h : ¬ ((d : Int) ≤ s ∧ s ≤ e ∧ e ≤ (z.length : Int) ∧ n.all okc = true)) :
    jgo z d ((s, e, n) :: r) = none := by
  show (if _ then _ else _) = _
  rw [if_neg h]
theorem joint_none {z : List Nat} {l : List (Int × Int × List Nat)} (h : jgo z 0 l = none) : joint z l = none := by
  unfold joint
  rw [h]
theorem joint_some {z r : List Nat} {l : List (Int × Int × List Nat)} (h : jgo z 0 l = some r) : joint z l = if r.length ≤ 4000 then some r else none := by
  unfold joint
  rw [h]
theorem news_take {eds : List (Int × Int × Str)} {i : Nat} {s e : Int} {n : Str} (h : eds[i]? = some (s, e, n)) : news (eds.take (i + 1)) = news (eds.take i) + n.length := by
  unfold news
  rw [List.take_add_one, h, List.map_append, List.sum_append]
  rfl
theorem news_le (eds : List (Int × Int × Str)) (i : Nat) : news (eds.take i) ≤ news eds := by
  conv => rhs; rw [← List.take_append_drop i eds]
  unfold news
  rw [List.map_append, List.sum_append]
  omega
theorem cutS_len (z : Str) (a b : Nat) (h : a ≤ (tl z).length) : (cutS z (some (a : Int)) (some (b : Int))).length ≤ b - a := by
  rw [len_tl, tl_cut_mid z a b h, List.length_take]
  omega
theorem cutS_len_from (z : Str) (a : Nat) : (cutS z (some (a : Int)) none).length = (tl z).length - a := by
  rw [len_tl, tl_cut_from, List.length_drop]
abbrev s_apply_joint : Stmt := topS 7
abbrev N_apply_joint : List Str := ["text", "edits", "parts", "done", "start", "end", "new", "result"]
theorem sc_apply_joint : FnScope N_apply_joint ["text", "edits"] (defScope s_apply_joint) := ⟨rfl, rfl, rfl, by decide +kernel, rfl, by decide +kernel, by decide +kernel⟩
theorem ok_apply_joint (F : Fun K "apply_joint" "apply_joint" s_apply_joint f fd) (T : NmJ K mg C tL tP) (C_may_stand : Cal P w K mg base CX0 1 "may_stand" spMay) : FnOk P w K mg base (L2.CX P w) 2 f fd ["text", "edits"] (spJoint C) := by
  refine F.okX sc_apply_joint (fun vs H Q E h => ?_) (fun cdv A outer s H vs Q E hr h => ?_)
  · obtain ⟨z, le, eds, rfl, _⟩ := h
    rfl
  obtain ⟨z, le, eds, rfl, ⟨rs, hle, hrl, hrs⟩, hz, hel, hnl, kQ, kE⟩ := h
  refine ⟨_, (pss_cons (ps_set (i := 2) sc_apply_joint.nd rfl (Or.inl rfl) (pe_lst pa_nil))
    (pss_cons (ps_set (i := 3) sc_apply_joint.nd rfl (Or.inl rfl) pe_int)
    (pss_cons (ps_for (passes_of rfl) rfl (pi_list (pv 1)) (pg_tup rfl (pgs_cons (pg_name (i := 4) sc_apply_joint.nd rfl (Or.inl rfl)) (pgs_cons (pg_name (i := 5) sc_apply_joint.nd rfl (Or.inl rfl)) (pgs_cons (pg_name (i := 6) sc_apply_joint.nd rfl (Or.inl rfl)) pgs_nil)))) (pss_cons (ps_if (pt_not (pt_chain3 op_le op_le op_le (pv 3) (pv 4) (pv 5) (pe_callB call_len_str (by rfl) T.len PySem.boot_len (pa_cons (pv 0) pa_nil)))) (pss_one (ps_raise rfl (takes_of rfl rfl rfl rfl) (pmk_own PySem.F.excBase_ValueError T.xI T.c_InvalidEdit T.kI (raises_own T.bI T.tI) rfl))) pss_nil)
    (pss_cons (ps_if (pt_not (pt_val (pe_c C_may_stand hr (by first | decide | omega) pass0 (pa_cons (pv 6) pa_nil)))) (pss_one (ps_raise rfl (takes_of rfl rfl rfl rfl) (pmk_own PySem.F.excBase_ValueError T.xI T.c_InvalidEdit T.kI (raises_own T.bI T.tI) rfl))) pss_nil)
    (pss_cons (ps_expr (pe_bm PySem.F.plainAttrs_list PySem.F.slot_list_append PySem.F.type_list_append mt_append (pv 2) (pa_cons (pe_slice sl_str (pv 0) (po_some (pv 3)) (po_some (pv 4))) pa_nil)))
    (pss_cons (ps_expr (pe_bm PySem.F.plainAttrs_list PySem.F.slot_list_append PySem.F.type_list_append mt_append (pv 2) (pa_cons (pv 6) pa_nil)))
    (pss_one (ps_set (i := 3) sc_apply_joint.nd rfl (Or.inl rfl) (pv 5))))))))
    (pss_cons (ps_expr (pe_bm PySem.F.plainAttrs_list PySem.F.slot_list_append PySem.F.type_list_append mt_append (pv 2) (pa_cons (pe_slice sl_str (pv 0) (po_some (pv 3)) po_none) pa_nil)))
    (pss_cons (ps_set (i := 7) sc_apply_joint.nd rfl (Or.inl rfl) (pe_join pe_str (pv 2)))
    (pss_cons (ps_if (pt_cmpR op_gt (pe_callB call_len_str (by rfl) T.len PySem.boot_len (pa_cons (pv 7) pa_nil)) (pe_glob (v := .int 4000) (by rfl) T.g_LONGEST ⟨_, rfl⟩) (nomark _)) (pss_one (ps_raise rfl (takes_of rfl rfl rfl rfl) (pmk_own PySem.F.excBase_ValueError T.xI T.c_InvalidEdit T.kI (raises_own T.bI T.tI) rfl))) pss_nil)
    (pss_one (ps_ret (pv 7))))))))), ?_⟩
  have hz' : (tl z).length ≤ 1000000 := by rw [← len_tl]; exact hz
  refine ⟨Nat.zero_le _, fun L nL => ?_⟩
  refine ⟨_, rfl, le, rfl, ⟨_, .inl (.inl (same_new nL _ _ hle))⟩, for_list (K := K) (a := le) (xs := rs.map V.ref) (fun i σ H' => ∃ (d : Nat) (ps : List Str) (v4 v5 v6 : Option V), σ = [some (.str z), some (.ref le), some (.ref L), some (.int (d : Int)), v4, v5, v6, none] ∧
      Same H H' ∧ H' L = some (.lst (ps.map V.str)) ∧ ps.length = 2 * i ∧ d ≤ (tl z).length ∧ (ps.map (·.length)).sum ≤ d + news (eds.take i) ∧ jgo (tl z) 0 (edl eds) = (jgo (tl z) d ((edl eds).drop i)).map fun t => (ps.map tl).flatten ++ t)
    ⟨0, [], none, none, none, rfl, same_new nL, upd_same, rfl, Nat.zero_le _, Nat.zero_le _, by rw [List.drop_zero]; simp⟩ (fun i σ H' _ ⟨_, _, _, _, _, _, sm, _⟩ => .inl (.inl (sm _ _ hle))) ?_ ?_⟩
  · rintro i x σ H' hi ⟨d, ps, v4, v5, v6, rfl, sm, hL, hpl, hd, hsum, hj⟩
    obtain ⟨r, hri, rfl⟩ : ∃ r, rs[i]? = some r ∧ x = V.ref r := by
      rw [List.getElem?_map] at hi
      cases e : rs[i]? with
      | none => rw [e] at hi; cases hi
      | some u => rw [e] at hi; exact ⟨u, rfl, (Option.some.inj hi).symm⟩
    have hi1 : i < eds.length := by
      rw [← hrl]
      exact (List.getElem?_eq_some_iff.mp hri).1
    obtain ⟨⟨st, en, nw⟩, hei⟩ : ∃ x, eds[i]? = some x := ⟨_, List.getElem?_eq_getElem hi1⟩
    have hr3 := sm _ _ (hrs i r st en nw hri hei)
    have hdrop : (edl eds).drop i = (st, en, tl nw) :: (edl eds).drop (i + 1) := by
      have h1 : i < (edl eds).length := by unfold edl; rw [List.length_map]; exact hi1
      have h2 : (edl eds)[i]? = some (st, en, tl nw) := by unfold edl; rw [List.getElem?_map, hei]; rfl
      rw [List.drop_eq_getElem_cons h1]
      congr 1
      exact Option.some.inj ((List.getElem?_eq_getElem h1).symm.trans h2)
    rw [hdrop] at hj
    have bad : ¬ ((d : Int) ≤ st ∧ st ≤ en ∧ en ≤ ((tl z).length : Int) ∧ (tl nw).all okc = true) → E (.ref C) none H' := fun hb => kE H' (joint_none (by rw [hj, jgo_bad _ _ _ _ _ _ hb]; rfl)) sm
    have hlen : z.length = (tl z).length := len_tl z
    refine ⟨r, _, rfl, .inl (.inl hr3), rfl, _, _, rfl, _, _, rfl, _, _, rfl, rfl, ?_⟩
    refine ⟨_, rfl, _, rfl, _, _, rfl, rfl, _, rfl, ?_⟩
    by_cases h1 : (d : Int) ≤ st
    rotate_left
    · exact iteN h1 ⟨_, rfl, bad fun k => h1 k.1⟩
    refine iteP h1 ⟨_, rfl, _, _, rfl, rfl, _, rfl, ?_⟩
    by_cases h2 : st ≤ en
    rotate_left
    · exact iteN h2 ⟨_, rfl, bad fun k => h2 k.2.1⟩
    refine iteP h2 ⟨_, rfl, z, rfl, small hz, _, _, rfl, rfl, _, rfl, ?_⟩
    by_cases h3 : en ≤ (z.length : Int)
    rotate_left
    · exact iteNN h3 (bad fun k => h3 (by omega))
    refine iteNS h3 ?_
    refine ⟨_, rfl, nw, rfl, _, rfl, ?_⟩
    by_cases h4 : (tl nw).all okc = true
    rotate_left
    · rw [Bool.eq_false_iff.mpr h4]
      exact bad fun k => h4 k.2.2.2
    rw [h4]
    obtain ⟨sn, rfl⟩ := nat_of (o := st) (by omega)
    obtain ⟨nn, rfl⟩ := nat_of (o := en) (by omega)
    have hn : nw.length ≤ news eds := by
      have k1 := news_take hei
      have k2 := news_le eds (i + 1)
      omega
    have c1 : (ps.map V.str).length < sizeLine := by
      rw [List.length_map]
      exact Nat.lt_of_le_of_lt (show ps.length ≤ 2000 by omega) (by decide)
    -- parts.append(text[done:start])
    refine ⟨_, rfl, .inl ⟨rfl, _, SqL.of hL⟩, _, rfl, _, rfl, _, rfl, _, rfl, _, rfl, z, rfl, small hz, L, _, _, rfl, rfl, hL, c1, ?_⟩
    -- parts.append(new)
    have e1 : upd H' L (.lst (ps.map V.str ++ [.str (cutS z (some (d : Int)) (some (sn : Int)))])) L = some (.lst ((ps ++ [cutS z (some (d : Int)) (some (sn : Int))]).map V.str)) := by
      rw [upd_same, List.map_append] <;> rfl
    have c2 : ((ps ++ [cutS z (some (d : Int)) (some (sn : Int))]).map V.str).length < sizeLine := by
      rw [List.length_map, List.length_append, List.length_singleton]
      exact Nat.lt_of_le_of_lt (show ps.length + 1 ≤ 2001 by omega) (by decide)
    refine ⟨_, rfl, .inl ⟨rfl, _, SqL.of e1⟩, _, rfl, L, _, _, rfl, rfl, e1, c2, ?_⟩
    -- done = end
    refine ⟨_, rfl, nn, ps ++ [cutS z (some (d : Int)) (some (sn : Int)), nw], _, _, _, rfl, fun b o eb => ?_, ?_, ?_, by omega, ?_, ?_⟩
    · have nb : b ≠ L := ne_of_none eb nL
      rw [upd_ne nb, upd_ne nb]
      exact sm _ _ eb
    · rw [upd_same, List.map_append, List.map_append, List.append_assoc] <;> rfl
    · rw [List.length_append]
      show ps.length + 2 = 2 * (i + 1)
      omega
    · rw [List.map_append, List.sum_append, news_take hei]
      have k := cutS_len z d sn hd
      show _ + ((cutS z (some (d : Int)) (some (sn : Int))).length + (nw.length + 0)) ≤ _
      omega
    · rw [hj, jgo_cons _ _ _ _ _ _ ⟨h1, h2, by omega, h4⟩, Option.map_map, Int.toNat_natCast, Int.toNat_natCast]
      refine congrArg (fun g => Option.map g _) (funext fun t => ?_)
      show (ps.map tl).flatten ++ (((tl z).drop d).take (sn - d) ++ (tl nw ++ t)) = ((ps ++ [cutS z (some (d : Int)) (some (sn : Int)), nw]).map tl).flatten ++ t
      rw [List.map_append, List.flatten_append]
      show _ = _ ++ (tl (cutS z (some (d : Int)) (some (sn : Int))) ++ (tl nw ++ [])) ++ t
      rw [tl_cut_mid z d sn hd, List.append_nil]
      simp only [List.append_assoc]
  · rintro σ H' ⟨d, ps, v4, v5, v6, rfl, sm, hL, hpl, hd, hsum, hj⟩
    rw [List.length_map, hrl] at hpl hj hsum
    have hdn : (edl eds).drop eds.length = [] := List.drop_eq_nil_of_le (by unfold edl; rw [List.length_map]; exact Nat.le_refl _)
    rw [List.take_length] at hsum
    have c1 : (ps.map V.str).length < sizeLine := by
      rw [List.length_map]
      exact Nat.lt_of_le_of_lt (show ps.length ≤ 2000 by omega) (by decide)
    -- parts.append(text[done:])
    refine ⟨_, rfl, .inl ⟨rfl, _, SqL.of hL⟩, _, rfl, _, rfl, _, rfl, z, rfl, small hz, L, _, _, rfl, rfl, hL, c1, ?_⟩
    have e1 : upd H' L (.lst (ps.map V.str ++ [.str (cutS z (some (d : Int)) none)])) L = some (.lst ((ps ++ [cutS z (some (d : Int)) none]).map V.str)) := by
      rw [upd_same, List.map_append] <;> rfl
    have s2 : Same H (upd H' L (.lst (ps.map V.str ++ [.str (cutS z (some (d : Int)) none)]))) := fun b o eb => by
      rw [upd_ne (ne_of_none eb nL)]
      exact sm _ _ eb
    have hlast := cutS_len_from z d
    have hsum2 : ((ps ++ [cutS z (some (d : Int)) none]).map (·.length)).sum ≤ 2000000 := by
      rw [List.map_append, List.sum_append]
      show _ + ((cutS z (some (d : Int)) none).length + 0) ≤ _
      omega
    have htl : tl (Txt.join ("" : Str) (ps ++ [cutS z (some (d : Int)) none])) = (ps.map tl).flatten ++ (tl z).drop d := by
      rw [tl_join0 _ rfl, List.map_append, List.flatten_append]
      show _ ++ (tl (cutS z (some (d : Int)) none) ++ []) = _
      rw [tl_cut_from, List.append_nil]
    have hj2 : jgo (tl z) 0 (edl eds) = some ((ps.map tl).flatten ++ (tl z).drop d) := by
      rw [hj, hdn]
      rfl
    have hjl := join_len ("" : Str) rfl (ps ++ [cutS z (some (d : Int)) none])
    -- result
    refine ⟨⟨_, rfl⟩, _, rfl, _, L, _, rfl, rfl, .inl (.inl (.inl e1)), ?_, ?_⟩
    · show ((ps ++ [cutS z (some (d : Int)) none]).map (·.length)).sum + (ps ++ [cutS z (some (d : Int)) none]).length * 0 ≤ 16777216
      omega
    generalize Txt.join ("" : Str) (ps ++ [cutS z (some (d : Int)) none]) = R at htl hjl ⊢
    have hRl : R.length = ((ps.map tl).flatten ++ (tl z).drop d).length := by rw [len_tl, htl]
    refine ⟨_, rfl, R, rfl, Nat.le_trans (show R.length ≤ 2000000 by omega) (by decide), _, _, rfl, rfl, _, rfl, ite2 (fun e => ?_) (fun e => ?_)⟩
    · have e : (4000 : Int) < (R.length : Int) := of_decide_eq_true e
      refine kE _ ?_ s2
      rw [joint_some hj2, if_neg (by omega)]
    · have e : ¬ (4000 : Int) < (R.length : Int) := fun k => e (decide_eq_true k)
      refine ⟨_, rfl, ?_⟩
      have er : R = strL ((ps.map tl).flatten ++ (tl z).drop d) := ext_tl htl
      rw [er]
      exact kQ _ _ (by rw [joint_some hj2, if_pos (by omega)]) s2
abbrev s_apply_edit : Stmt := topS 8
abbrev N_apply_edit : List Str := ["text", "edit"]
theorem sc_apply_edit : FnScope N_apply_edit ["text", "edit"] (defScope s_apply_edit) := ⟨rfl, rfl, rfl, by decide +kernel, rfl, by decide +kernel, by decide +kernel⟩
theorem ok_apply_edit (F : Fun K "apply_edit" "apply_edit" s_apply_edit f fd) (T : NmJ K mg C tL tP) (C_apply_joint : Cal P w K mg base (L2.CX P w) 2 "apply_joint" (spJoint C)) : FnOk P w K mg base (L2.CX P w) 3 f fd ["text", "edit"] (spEdit C) := by
  refine F.okX sc_apply_edit (fun vs H Q E h => ?_) (fun cdv A outer s H vs Q E hr h => ?_)
  · obtain ⟨z, ed, st, e, n, rfl, _⟩ := h
    rfl
  obtain ⟨z, ed, st, e, n, rfl, hed, hz, hn, kQ, kE⟩ := h
  refine ⟨_, (pss_one (ps_ret (pe_c C_apply_joint hr (by first | decide | omega) (passes_call (takes_of rfl rfl rfl rfl) (fun _ _ _ _ h => h)) (pa_cons (pv 0) (pa_cons (pe_lst (pa_cons (pv 1) pa_nil)) pa_nil))))), ?_⟩
  refine ⟨_, rfl, _, rfl, (by show 1 ≤ sizeLine; decide), fun L nL => ?_⟩
  have s1 : Same H (upd H L (.lst [.ref ed])) := same_new nL
  refine ⟨z, L, [(st, e, n)], rfl, ⟨[ed], upd_same, rfl, fun i r s' e' n' p q => ?_⟩, hz, (by show 1 ≤ 1000; decide), (by show n.length + 0 ≤ 1000000; omega), fun r H' hj sm => kQ r H' hj (s1.trans sm), fun H' hj sm => kE H' hj (s1.trans sm)⟩
  cases i with
  | zero =>
    cases p
    cases q
    exact s1 _ _ hed
  | succ i => cases p
end

end Sn

namespace Sn
open PySem PySem.Spec PyProof.Rows L2 TL
/-! ### one edit -/
/-- it fits -/
def Fits (z : List Nat) (s e : Int) (n : List Nat) : Prop := 0 ≤ s ∧ s ≤ e ∧ e ≤ (z.length : Int) ∧ n.all okc = true ∧ (z.length : Int) - (e - s) + n.length ≤ 4000
instance (z : List Nat) (s e : Int) (n : List Nat) : Decidable (Fits z s e n) := by unfold Fits; exact inferInstance
theorem joint_one (z : List Nat) (s e : Int) (n : List Nat) : joint z [(s, e, n)] = if Fits z s e n then some (z.take s.toNat ++ (n ++ z.drop e.toNat)) else none := by
  by_cases h : ((0 : Nat) : Int) ≤ s ∧ s ≤ e ∧ e ≤ (z.length : Int) ∧ n.all okc = true
  · have e1 : jgo z 0 [(s, e, n)] = some (z.take s.toNat ++ (n ++ z.drop e.toNat)) := by
      rw [jgo_cons _ _ _ _ _ _ h]
      rfl
    rw [joint_some e1]
    have hl : (z.take s.toNat ++ (n ++ z.drop e.toNat)).length = s.toNat + (n.length + (z.length - e.toNat)) := by
      rw [List.length_append, List.length_append, List.length_take, List.length_drop]
      omega
    by_cases h2 : Fits z s e n
    · rw [if_pos h2, if_pos (by have := h2.2.2.2.2; omega)]
    · rw [if_neg h2, if_neg fun k => h2 ⟨h.1, h.2.1, h.2.2.1, h.2.2.2, by omega⟩]
  · rw [joint_none (jgo_bad _ _ _ _ _ _ h), if_neg fun k => h ⟨k.1, k.2.1, k.2.2.1, k.2.2.2.1⟩]
theorem take_all {z : List Nat} {p : Nat → Bool} (h : z.all p = true) (k : Nat) : (z.take k).all p = true := List.all_eq_true.mpr fun x hx => List.all_eq_true.mp h x (List.mem_of_mem_take hx)
theorem drop_all {z : List Nat} {p : Nat → Bool} (h : z.all p = true) (k : Nat) : (z.drop k).all p = true := List.all_eq_true.mpr fun x hx => List.all_eq_true.mp h x (List.mem_of_mem_drop hx)
/-- the inverse of an edit gives the text back -/
theorem joint_back {z n : List Nat} {s e : Nat} (h : Fits z s e n) (hz : z.all okc = true) (hl : z.length ≤ 4000) :
    joint (z.take s ++ (n ++ z.drop e)) [((s : Int), (s : Int) + (n.length : Int), (z.drop s).take (e - s))] = some z := by
  obtain ⟨h1, h2, h3, h4, h5⟩ := h
  have l1 : (z.take s).length = s := by rw [List.length_take]; omega
  have l2 : (z.take s ++ (n ++ z.drop e)).length = s + (n.length + (z.length - e)) := by rw [List.length_append, List.length_append, l1, List.length_drop]
  have l3 : ((z.drop s).take (e - s)).length = e - s := by rw [List.length_take, List.length_drop]; omega
  have e1 : ((s : Int) + (n.length : Int)).toNat = s + n.length := by omega
  have d1 : (z.take s ++ (n ++ z.drop e)).drop (s + n.length) = z.drop e := by
    rw [← List.append_assoc]
    exact List.drop_left' (by rw [List.length_append, l1])
  have d2 : (z.take s ++ (n ++ z.drop e)).take s = z.take s := List.take_left' l1
  have d3 : z.take s ++ ((z.drop s).take (e - s) ++ z.drop e) = z := by
    have e3 : z.drop e = (z.drop s).drop (e - s) := by rw [List.drop_drop, show s + (e - s) = e by omega]
    rw [e3, List.take_append_drop, List.take_append_drop]
  rw [joint_one, if_pos ⟨h1, by omega, by omega, take_all (drop_all hz _) _, by omega⟩, e1, Int.toNat_natCast, d1, d2, d3]

end Sn

namespace Sn
open PySem PySem.Spec PyProof.Rows L2 TL
/-! ### the program's tokens -/
structure Nm5 (K : PySem.W.Frag) (mg : Str → Option Value) (aW : Addr) (tS : PySem.Tok) : Prop extends Nm mg where
  g_WORDS : mg "WORDS" = some (.ref aW)
  wt : ∃ (o : Obj) (its : Array Value) (n : Nat), K.lookup aW = some o ∧ o.cls = .type "tuple" ∧ o.data = .seq its n ∧ its.size ≤ sizeLine ∧ Vals (wds.map V.str) its.toList
  g_SIGNS : mg "SIGNS" = some (.str "()[],:.=<+-*/" tS)
def spLet (p : Nat → Bool) : Sp := fun vs H Q _ => ∃ c : Nat, vs = [.str ⟨#[c]⟩] ∧ Q (.bl (p c)) H
def spRun (p : Nat → Bool) : Sp := fun vs H Q _ => ∃ (z : Str) (i : Nat), vs = [.str z, .int (i : Int)] ∧ i ≤ (tl z).length ∧ z.length ≤ 1000000 ∧ Q (.int ((run p (tl z) i : Nat) : Int)) H
def spTokAt : Sp := fun vs H Q _ => ∃ (z : Str) (i c : Nat), vs = [.str z, .int (i : Int)] ∧ (tl z)[i]? = some c ∧ z.length ≤ 1000000 ∧ ∀ p H', Same H H' → H p = none → H' p = some (.tup (tkV (tokC (tl z) i c))) → Q (.ref p) H'
def spBetween : Sp := fun vs H Q _ => ∃ (z : Str) (s e : Nat), vs = [.str z, .int (s : Int), .int (e : Int)] ∧ e ≤ (tl z).length ∧ z.length ≤ 1000000 ∧ ∀ p H', Same H H' → H p = none → LT H' p ((toks (tl z) s e).map tkV) → Q (.ref p) H'
def spTokens : Sp := fun vs H Q _ => ∃ z : Str, vs = [.str z] ∧ z.length ≤ 1000000 ∧ ∀ p H', Same H H' → H p = none → LT H' p ((toks (tl z) 0 (tl z).length).map tkV) → Q (.ref p) H'
theorem le_sg5 (a c : Nat) : (!decide ((⟨#[c]⟩ : Str).cps.toList < (⟨#[a]⟩ : Str).cps.toList)) = decide (a ≤ c) := by
  have : (!decide ([c] < [a])) = decide (a ≤ c) := by
    have k : ([c] < [a]) ↔ c < a := by
      constructor
      · intro h
        cases h with
        | rel h => exact h
        | cons h => cases h
      · exact fun h => .rel h
    by_cases h : c < a
    · rw [decide_eq_true (k.mpr h), decide_eq_false (by omega)]
      rfl
    · rw [decide_eq_false (fun z => h (k.mp z)), decide_eq_true (by omega)]
      rfl
  exact this
theorem ge_sg5 (a c : Nat) : (!decide ((⟨#[a]⟩ : Str).cps.toList < (⟨#[c]⟩ : Str).cps.toList)) = decide (c ≤ a) := le_sg5 c a
theorem one5 {c d : Nat} : (V.str ⟨#[c]⟩ = V.str ⟨#[d]⟩) ↔ c = d := by
  constructor
  · intro h
    injection h with h
    injection h with h
    simpa using h
  · intro h
    rw [h]
theorem s_a : ("a" : Str) = ⟨#[97]⟩ := by decide +kernel
theorem s_z : ("z" : Str) = ⟨#[122]⟩ := by decide +kernel
theorem s_A : ("A" : Str) = ⟨#[65]⟩ := by decide +kernel
theorem s_Z : ("Z" : Str) = ⟨#[90]⟩ := by decide +kernel
theorem s_0 : ("0" : Str) = ⟨#[48]⟩ := by decide +kernel
theorem s_9 : ("9" : Str) = ⟨#[57]⟩ := by decide +kernel
theorem s_us : ("_" : Str) = ⟨#[95]⟩ := by decide +kernel
theorem s_sp : (" " : Str) = ⟨#[32]⟩ := by decide +kernel
theorem s_nl : ("\n" : Str) = ⟨#[10]⟩ := by decide +kernel
theorem s_ha : ("#" : Str) = ⟨#[35]⟩ := by decide +kernel
theorem s_eq2 : ("==" : Str) = ⟨#[61, 61]⟩ := by decide +kernel
theorem str_L {z : Str} {l : List Nat} : (V.str z = V.str ⟨l.toArray⟩) ↔ tl z = l := by
  constructor
  · intro h
    injection h with h
    rw [h]
  · intro h
    rw [← h]
theorem toNat_lt {l : List Nat} {i c : Nat} (h : l[i]? = some c) : i < l.length := (List.getElem?_eq_some_iff.mp h).1
/-- the sign at a place of a text, as the rules ask for it -/
theorem item_of {z : Str} {i c : Nat} (h : (tl z)[i]? = some c) (hz : z.length ≤ 1000000) : (0 : Int) ≤ (i : Int) ∧ (i : Int) < 2 ^ 63 ∧ (i : Int) < (z.length : Int) ∧ z.cps[((i : Int)).toNat]? = some c := by
  have := toNat_lt h
  have e := len_tl z
  refine ⟨by omega, by omega, by omega, ?_⟩
  rw [Int.toNat_natCast, ← Array.getElem?_toList]
  exact h
section
variable {P : Program} {w : World} {K : PySem.W.Frag} {mg : Str → Option Value} {base : Heap} {f : Addr} {fd : FuncData} {aW : Addr} {tS : PySem.Tok}
abbrev s_is_letter : Stmt := topS 14
abbrev N_is_letter : List Str := ["sign"]
theorem sc_is_letter : FnScope N_is_letter ["sign"] (defScope s_is_letter) := ⟨rfl, rfl, rfl, by decide +kernel, rfl, by decide +kernel, by decide +kernel⟩
theorem letter_read {c : Nat} {H : Hp} {Q : VK} {σ : L2.St} (hs : σ[0]? = some (some (.str ⟨#[c]⟩))) (q : Q (.bl (isL c)) H) :
    (tOrV (tChain (fun x y H Q => ∃ i j, x = .str i ∧ y = .str j ∧ Q (.bl (!decide (j.cps.toList < i.cps.toList))) H) (fun x y H Q => ∃ i j, x = .str i ∧ y = .str j ∧ Q (.bl (!decide (j.cps.toList < i.cps.toList))) H) (tC (.str "a")) (tVar 0) (tC (.str "z")))
      (tChain (fun x y H Q => ∃ i j, x = .str i ∧ y = .str j ∧ Q (.bl (!decide (j.cps.toList < i.cps.toList))) H) (fun x y H Q => ∃ i j, x = .str i ∧ y = .str j ∧ Q (.bl (!decide (j.cps.toList < i.cps.toList))) H) (tC (.str "A")) (tVar 0) (tC (.str "Z")))) σ H Q := by
  rw [s_a, s_z, s_A, s_Z]
  unfold isL at q
  have second : Q (.bl (decide (65 ≤ c) && decide (c ≤ 90))) H → (tChain (fun x y H Q => ∃ i j, x = .str i ∧ y = .str j ∧ Q (.bl (!decide (j.cps.toList < i.cps.toList))) H) (fun x y H Q => ∃ i j, x = .str i ∧ y = .str j ∧ Q (.bl (!decide (j.cps.toList < i.cps.toList))) H) (tC (.str ⟨#[65]⟩)) (tVar 0) (tC (.str ⟨#[90]⟩))) σ H Q := fun q => by
    refine ⟨_, hs, _, _, rfl, rfl, _, rfl, ?_⟩
    rw [le_sg5]
    by_cases h : 65 ≤ c
    · refine iteP h ⟨_, _, rfl, rfl, ?_⟩
      rw [ge_sg5]
      rw [decide_eq_true h, Bool.true_and] at q
      exact q
    · rw [decide_eq_false h, Bool.false_and] at q
      exact iteN h q
  refine ⟨_, hs, _, _, rfl, rfl, _, rfl, ?_⟩
  rw [le_sg5]
  by_cases h : 97 ≤ c
  · refine iteP h ⟨_, _, rfl, rfl, _, rfl, ?_⟩
    rw [ge_sg5]
    rw [decide_eq_true h, Bool.true_and] at q
    by_cases h2 : c ≤ 122
    · rw [decide_eq_true h2, Bool.true_or] at q
      exact iteP h2 q
    · rw [decide_eq_false h2, Bool.false_or] at q
      exact iteN h2 (second q)
  · rw [decide_eq_false h, Bool.false_and, Bool.false_or] at q
    exact iteN h ⟨_, rfl, second q⟩
theorem digit_read {c : Nat} {H : Hp} {Q : VK} {σ : L2.St} (hs : σ[0]? = some (some (.str ⟨#[c]⟩))) (q : Q (.bl (isD c)) H) :
    (tChain (fun x y H Q => ∃ i j, x = .str i ∧ y = .str j ∧ Q (.bl (!decide (j.cps.toList < i.cps.toList))) H) (fun x y H Q => ∃ i j, x = .str i ∧ y = .str j ∧ Q (.bl (!decide (j.cps.toList < i.cps.toList))) H) (tC (.str "0")) (tVar 0) (tC (.str "9"))) σ H Q := by
  rw [s_0, s_9]
  unfold isD at q
  refine ⟨_, hs, _, _, rfl, rfl, _, rfl, ?_⟩
  rw [le_sg5]
  by_cases h : 48 ≤ c
  · refine iteP h ⟨_, _, rfl, rfl, ?_⟩
    rw [ge_sg5]
    rw [decide_eq_true h, Bool.true_and] at q
    exact q
  · rw [decide_eq_false h, Bool.false_and] at q
    exact iteN h q
theorem ok_is_letter (F : Fun K "is_letter" "is_letter" s_is_letter f fd) : FnOk P w K mg base CX0 1 f fd ["sign"] (spLet isL) := by
  refine F.ok sc_is_letter (fun vs H Q E h => ?_) (fun cdv A outer s H vs Q E hr h => ?_)
  · obtain ⟨c, rfl, _⟩ := h
    rfl
  obtain ⟨c, rfl, q⟩ := h
  refine ⟨_, (pss_one (ps_ret (pe_or (pe_chain op_le_str op_le_str pe_str (pv 0) pe_str) (pe_one (pe_chain op_le_str op_le_str pe_str (pv 0) pe_str))))), ?_⟩
  exact letter_read rfl q
abbrev s_is_digit : Stmt := topS 15
abbrev N_is_digit : List Str := ["sign"]
theorem sc_is_digit : FnScope N_is_digit ["sign"] (defScope s_is_digit) := ⟨rfl, rfl, rfl, by decide +kernel, rfl, by decide +kernel, by decide +kernel⟩
theorem ok_is_digit (F : Fun K "is_digit" "is_digit" s_is_digit f fd) : FnOk P w K mg base CX0 1 f fd ["sign"] (spLet isD) := by
  refine F.ok sc_is_digit (fun vs H Q E h => ?_) (fun cdv A outer s H vs Q E hr h => ?_)
  · obtain ⟨c, rfl, _⟩ := h
    rfl
  obtain ⟨c, rfl, q⟩ := h
  refine ⟨_, (pss_one (ps_ret (pe_chain op_le_str op_le_str pe_str (pv 0) pe_str))), ?_⟩
  exact digit_read rfl q
abbrev s_line_end : Stmt := topS 10
abbrev N_line_end : List Str := ["text", "offset", "found"]
theorem sc_line_end : FnScope N_line_end ["text", "offset"] (defScope s_line_end) := ⟨rfl, rfl, rfl, by decide +kernel, rfl, by decide +kernel, by decide +kernel⟩
theorem ok_line_end (F : Fun K "line_end" "line_end" s_line_end f fd) (T : Nm5 K mg aW tS) : FnOk P w K mg base CX0 1 f fd ["text", "offset"] (spRun fun d => d != 10) := by
  refine F.ok sc_line_end (fun vs H Q E h => ?_) (fun cdv A outer s H vs Q E hr h => ?_)
  · obtain ⟨z, i, rfl, _⟩ := h
    rfl
  obtain ⟨z, i, rfl, hi, hz, q⟩ := h
  refine ⟨_, (pss_cons (ps_set (i := 2) sc_line_end.nd rfl (Or.inl rfl) (pe_bm PySem.F.plainAttrs_str PySem.F.slot_str_find PySem.F.type_str_find mt_find3 (pv 0) (pa_cons pe_str (pa_cons (pv 1) pa_nil))))
    (pss_one (ps_ret (pe_ifExp (pt_cmpR op_lt (pv 2) pe_int (nomark _)) (pe_callB call_len_str (by rfl) T.len PySem.boot_len (pa_cons (pv 0) pa_nil)) (pv 2))))), ?_⟩
  have e := len_tl z
  have k := run_le (p := fun d => d != 10) (l := tl z) hi
  refine ⟨_, rfl, rfl, _, rfl, z, ("\n" : Str), (i : Int), rfl, rfl, ?_⟩
  dsimp only
  rw [s_nl, find_run z 10 i hi]
  by_cases h : run (fun d => d != 10) (tl z) i < (tl z).length
  · rw [if_pos h]
    refine ⟨_, rfl, _, _, rfl, rfl, _, rfl, iteN (by omega) ⟨_, rfl, q⟩⟩
  · rw [if_neg h]
    refine ⟨_, rfl, _, _, rfl, rfl, _, rfl, iteP (by decide) ⟨_, rfl, z, rfl, small hz, ?_⟩⟩
    rw [e, show (tl z).length = run (fun d => d != 10) (tl z) i by omega]
    exact q
abbrev s_word_end : Stmt := topS 16
abbrev N_word_end : List Str := ["text", "start", "end"]
theorem sc_word_end : FnScope N_word_end ["text", "start"] (defScope s_word_end) := ⟨rfl, rfl, rfl, by decide +kernel, rfl, by decide +kernel, by decide +kernel⟩
theorem ok_word_end (F : Fun K "word_end" "word_end" s_word_end f fd) (T : Nm5 K mg aW tS) (C_is_letter : Cal P w K mg base CX0 1 "is_letter" (spLet isL)) (C_is_digit : Cal P w K mg base CX0 1 "is_digit" (spLet isD)) : FnOk P w K mg base CX0 2 f fd ["text", "start"] (spRun isW) := by
  refine F.ok sc_word_end (fun vs H Q E h => ?_) (fun cdv A outer s H vs Q E hr h => ?_)
  · obtain ⟨z, i, rfl, _⟩ := h
    rfl
  obtain ⟨z, i, rfl, hi, hz, q⟩ := h
  refine ⟨_, (pss_cons (ps_set (i := 2) sc_word_end.nd rfl (Or.inl rfl) (pv 1))
    (pss_cons (ps_while PassesOwn.never (PW.pt (pw_and (pt_cmpR op_lt (pv 2) (pe_callB call_len_str (by rfl) T.len PySem.boot_len (pa_cons (pv 0) pa_nil)) (nomark _)) (pw_and1 (PW.pt (pw_or (pt_val (pe_c C_is_letter hr (by first | decide | omega) pass0 (pa_cons (pe_item_str (pv 0) (pv 2) (fun _ _ => rfl)) pa_nil))) (pw_or (pt_val (pe_c C_is_digit hr (by first | decide | omega) pass0 (pa_cons (pe_item_str (pv 0) (pv 2) (fun _ _ => rfl)) pa_nil))) (pw_or1 (pt_cmpR op_eq (pe_item_str (pv 0) (pv 2) (fun _ _ => rfl)) pe_str (nomark _))))))))) (pss_one (ps_aug (i := 2) sc_word_end.nd rfl (Or.inl rfl) pe_int ip_add)))
    (pss_one (ps_ret (pv 2))))), ?_⟩
  have e := len_tl z
  refine ⟨_, rfl, while_m (fun σ H' => H' = H ∧ ∃ j : Nat, σ = [some (.str z), some (.int (i : Int)), some (.int (j : Int))] ∧ j ≤ (tl z).length ∧ run isW (tl z) i = run isW (tl z) j)
    (fun σ _ => match σ with | [_, _, some (.int j)] => (tl z).length - j.toNat | _ => 0) ⟨rfl, i, rfl, hi, rfl⟩ ?_⟩
  rintro σ H' ⟨rfl, j, rfl, hj, hr⟩
  have stop : run isW (tl z) j = j → Q (.int (j : Int)) H' := fun k => by
    rw [hr, k] at q
    exact q
  refine ⟨_, rfl, _, rfl, z, rfl, small hz, _, _, rfl, rfl, _, rfl, ?_⟩
  by_cases h : j < (tl z).length
  · refine iteP (show (j : Int) < (z.length : Int) by omega) ?_
    have hg := List.getElem?_eq_getElem h
    generalize (tl z)[j] = c at hg
    obtain ⟨i1, i2, i3, i4⟩ := item_of hg hz
    have again : isW c = true → H' = H' ∧ (∃ j' : Nat, [some (V.str z), some (.int (i : Int)), some (.int ((j : Int) + 1))] = [some (V.str z), some (.int (i : Int)), some (.int (j' : Int))] ∧ j' ≤ (tl z).length ∧ run isW (tl z) i = run isW (tl z) j') := fun hw =>
      ⟨rfl, j + 1, rfl, h, by rw [hr, run_step hg hw]⟩
    have less : (tl z).length - ((j : Int) + 1).toNat < (tl z).length - ((j : Int)).toNat := by omega
    refine ⟨_, rfl, _, rfl, z, (j : Int), c, rfl, rfl, i1, i2, i3, i4, c, rfl, _, rfl, ?_⟩
    by_cases w1 : isL c = true
    · rw [w1]
      refine wN ⟨_, rfl, _, _, rfl, rfl, ?_⟩
      exact ⟨again (by unfold isW; rw [w1]; rfl), less⟩
    rw [Bool.eq_false_iff.mpr w1]
    refine ⟨_, rfl, _, rfl, z, (j : Int), c, rfl, rfl, i1, i2, i3, i4, c, rfl, _, rfl, ?_⟩
    by_cases w2 : isD c = true
    · rw [w2]
      refine wN ⟨_, rfl, _, _, rfl, rfl, ?_⟩
      exact ⟨again (by unfold isW; rw [w2, Bool.true_or, Bool.or_true]), less⟩
    rw [Bool.eq_false_iff.mpr w2]
    refine ⟨_, rfl, _, rfl, z, (j : Int), c, rfl, rfl, i1, i2, i3, i4, rfl, _, rfl, ?_⟩
    rw [s_us]
    by_cases w3 : c = 95
    · refine iteP (one5.mpr w3) ?_
      refine wN ⟨_, rfl, _, _, rfl, rfl, ?_⟩
      exact ⟨again (by rw [w3]; rfl), less⟩
    · refine iteN (fun k => w3 (one5.mp k)) ?_
      refine ⟨_, rfl, stop (run_stop hg ?_)⟩
      unfold isW
      rw [Bool.eq_false_iff.mpr w1, Bool.eq_false_iff.mpr w2]
      simpa using w3
  · refine iteN (show ¬ (j : Int) < (z.length : Int) by omega) ?_
    exact ⟨_, rfl, stop (run_end (by omega))⟩
abbrev s_digits_end : Stmt := topS 17
abbrev N_digits_end : List Str := ["text", "start", "end"]
theorem sc_digits_end : FnScope N_digits_end ["text", "start"] (defScope s_digits_end) := ⟨rfl, rfl, rfl, by decide +kernel, rfl, by decide +kernel, by decide +kernel⟩
theorem ok_digits_end (F : Fun K "digits_end" "digits_end" s_digits_end f fd) (T : Nm5 K mg aW tS) (C_is_digit : Cal P w K mg base CX0 1 "is_digit" (spLet isD)) : FnOk P w K mg base CX0 2 f fd ["text", "start"] (spRun isD) := by
  refine F.ok sc_digits_end (fun vs H Q E h => ?_) (fun cdv A outer s H vs Q E hr h => ?_)
  · obtain ⟨z, i, rfl, _⟩ := h
    rfl
  obtain ⟨z, i, rfl, hi, hz, q⟩ := h
  refine ⟨_, (pss_cons (ps_set (i := 2) sc_digits_end.nd rfl (Or.inl rfl) (pv 1))
    (pss_cons (ps_while PassesOwn.never (PW.pt (pw_and (pt_cmpR op_lt (pv 2) (pe_callB call_len_str (by rfl) T.len PySem.boot_len (pa_cons (pv 0) pa_nil)) (nomark _)) (pw_and1 (pt_val (pe_c C_is_digit hr (by first | decide | omega) pass0 (pa_cons (pe_item_str (pv 0) (pv 2) (fun _ _ => rfl)) pa_nil)))))) (pss_one (ps_aug (i := 2) sc_digits_end.nd rfl (Or.inl rfl) pe_int ip_add)))
    (pss_one (ps_ret (pv 2))))), ?_⟩
  have e := len_tl z
  refine ⟨_, rfl, while_m (fun σ H' => H' = H ∧ ∃ j : Nat, σ = [some (.str z), some (.int (i : Int)), some (.int (j : Int))] ∧ j ≤ (tl z).length ∧ run isD (tl z) i = run isD (tl z) j)
    (fun σ _ => match σ with | [_, _, some (.int j)] => (tl z).length - j.toNat | _ => 0) ⟨rfl, i, rfl, hi, rfl⟩ ?_⟩
  rintro σ H' ⟨rfl, j, rfl, hj, hr⟩
  have stop : run isD (tl z) j = j → Q (.int (j : Int)) H' := fun k => by
    rw [hr, k] at q
    exact q
  refine ⟨_, rfl, _, rfl, z, rfl, small hz, _, _, rfl, rfl, _, rfl, ?_⟩
  by_cases h : j < (tl z).length
  · refine iteP (show (j : Int) < (z.length : Int) by omega) ?_
    have hg := List.getElem?_eq_getElem h
    generalize (tl z)[j] = c at hg
    obtain ⟨i1, i2, i3, i4⟩ := item_of hg hz
    refine ⟨_, rfl, _, rfl, z, (j : Int), c, rfl, rfl, i1, i2, i3, i4, c, rfl, _, rfl, ?_⟩
    by_cases w1 : isD c = true
    · rw [w1]
      refine wN ⟨_, rfl, _, _, rfl, rfl, ?_⟩
      exact ⟨⟨rfl, j + 1, rfl, h, by rw [hr, run_step hg w1]⟩, (by show (tl z).length - ((j : Int) + 1).toNat < (tl z).length - ((j : Int)).toNat; omega)⟩
    rw [Bool.eq_false_iff.mpr w1]
    exact ⟨_, rfl, stop (run_stop hg (Bool.eq_false_iff.mpr w1))⟩
  · refine iteN (show ¬ (j : Int) < (z.length : Int) by omega) ?_
    exact ⟨_, rfl, stop (run_end (by omega))⟩
end

end Sn

namespace Sn
open PySem PySem.Spec PyProof.Rows L2 TL
section
variable {P : Program} {w : World} {K : PySem.W.Frag} {mg : Str → Option Value} {base : Heap} {f : Addr} {fd : FuncData} {aW : Addr} {tS : PySem.Tok}
theorem tok_L {l : List Nat} {i c : Nat} (h : isL c = true) : tokC l i c = (if inV (.str (strL ((l.drop i).take (run isW l i - i)))) (wds.map V.str) = true then ("word" : Str) else ("name" : Str), i, run isW l i) := by
  unfold tokC
  rw [if_pos h]
theorem tok_D {l : List Nat} {i c : Nat} (h : isL c = false) (h2 : isD c = true) : tokC l i c = (("number" : Str), i, run isD l i) := by
  unfold tokC
  rw [h, if_neg Bool.false_ne_true, if_pos h2]
theorem tok_E {l : List Nat} {i c : Nat} (h : isL c = false) (h2 : isD c = false) (h3 : (l.drop i).take 2 = [61, 61]) : tokC l i c = (("sign" : Str), i, i + 2) := by
  unfold tokC
  rw [h, if_neg Bool.false_ne_true, h2, if_neg Bool.false_ne_true, if_pos h3]
theorem tok_S {l : List Nat} {i c : Nat} (h : isL c = false) (h2 : isD c = false) (h3 : ¬ (l.drop i).take 2 = [61, 61]) : tokC l i c = (if c ∈ tl sgs then ("sign" : Str) else ("wrong" : Str), i, i + 1) := by
  unfold tokC
  rw [h, if_neg Bool.false_ne_true, h2, if_neg Bool.false_ne_true, if_neg h3]
theorem cut_eq (z : Str) (i e : Nat) (h : i ≤ (tl z).length) : cutS z (some (i : Int)) (some (e : Int)) = strL (((tl z).drop i).take (e - i)) := ext_tl (tl_cut_mid z i e h)
theorem wds_flat : (wds.map V.str).all flatV = true := by decide +kernel
abbrev s_token_at : Stmt := topS 18
abbrev N_token_at : List Str := ["text", "start", "sign", "end"]
theorem sc_token_at : FnScope N_token_at ["text", "start"] (defScope s_token_at) := ⟨rfl, rfl, rfl, by decide +kernel, rfl, by decide +kernel, by decide +kernel⟩
theorem ok_token_at (F : Fun K "token_at" "token_at" s_token_at f fd) (T : Nm5 K mg aW tS) (C_is_letter : Cal P w K mg base CX0 1 "is_letter" (spLet isL)) (C_is_digit : Cal P w K mg base CX0 1 "is_digit" (spLet isD))
    (C_word_end : Cal P w K mg base CX0 2 "word_end" (spRun isW)) (C_digits_end : Cal P w K mg base CX0 2 "digits_end" (spRun isD)) : FnOk P w K mg base CX0 3 f fd ["text", "start"] spTokAt := by
  refine F.ok sc_token_at (fun vs H Q E h => ?_) (fun cdv A outer s H vs Q E hr h => ?_)
  · obtain ⟨z, i, c, rfl, _⟩ := h
    rfl
  obtain ⟨z, i, c, rfl, hc, hz, q⟩ := h
  refine ⟨_, (pss_cons (ps_set (i := 2) sc_token_at.nd rfl (Or.inl rfl) (pe_item_str (pv 0) (pv 1) (fun _ _ => rfl)))
    (pss_cons (ps_if (pt_val (pe_c C_is_letter hr (by first | decide | omega) pass0 (pa_cons (pv 2) pa_nil))) (pss_cons (ps_set (i := 3) sc_token_at.nd rfl (Or.inl rfl) (pe_c C_word_end hr (by first | decide | omega) pass0 (pa_cons (pv 0) (pa_cons (pv 1) pa_nil))))
    (pss_one (ps_ret (pe_tup (pa_cons (pe_ifExp (pt_cmpR op_in_seq (pe_slice sl_str (pv 0) (po_some (pv 1)) (po_some (pv 3))) (pe_glob (v := .ref aW) (by rfl) T.g_WORDS rfl) (by rfl)) pe_str pe_str) (pa_cons (pv 1) (pa_cons (pv 3) pa_nil))))))) pss_nil)
    (pss_cons (ps_if (pt_val (pe_c C_is_digit hr (by first | decide | omega) pass0 (pa_cons (pv 2) pa_nil))) (pss_one (ps_ret (pe_tup (pa_cons pe_str (pa_cons (pv 1) (pa_cons (pe_c C_digits_end hr (by first | decide | omega) pass0 (pa_cons (pv 0) (pa_cons (pv 1) pa_nil))) pa_nil)))))) pss_nil)
    (pss_cons (ps_if (pt_cmpR op_eq (pe_slice sl_str (pv 0) (po_some (pv 1)) (po_some (pe_op op_add (pv 1) pe_int))) pe_str (nomark _)) (pss_one (ps_ret (pe_tup (pa_cons pe_str (pa_cons (pv 1) (pa_cons (pe_op op_add (pv 1) pe_int) pa_nil)))))) pss_nil)
    (pss_one (ps_ret (pe_tup (pa_cons (pe_ifExp (pt_cmpR op_in_sign (pv 2) (pe_glob (v := .str "()[],:.=<+-*/") (by rfl) T.g_SIGNS ⟨_, rfl⟩) (by rfl)) pe_str pe_str) (pa_cons (pv 1) (pa_cons (pe_op op_add (pv 1) pe_int) pa_nil)))))))))), ?_⟩
  have e := len_tl z
  have hi := toNat_lt hc
  obtain ⟨i1, i2, i3, i4⟩ := item_of hc hz
  have fin : ∀ (x : Tok) (p : Addr), tokC (tl z) i c = x → H p = none → Q (.ref p) (upd H p (.tup (tkV x))) := fun x p ex np => q p _ (same_new np) np (by rw [upd_same, ex])
  refine ⟨_, rfl, _, rfl, z, (i : Int), c, rfl, rfl, i1, i2, i3, i4, ?_⟩
  refine ⟨_, rfl, c, rfl, _, rfl, ?_⟩
  by_cases w1 : isL c = true
  · rw [w1]
    refine ⟨_, rfl, _, rfl, z, i, rfl, by omega, hz, ?_⟩
    have r1 := run_ge isW (tl z) i
    refine ⟨_, rfl, _, rfl, _, rfl, _, rfl, _, rfl, z, rfl, small hz, aW, _, rfl, .inr (.inr T.wt), rfl, wds_flat, _, rfl, ?_⟩
    rw [cut_eq z i _ (by omega)]
    have ex := tok_L (l := tl z) (i := i) w1
    refine ite2 (fun k => ?_) (fun k => ?_)
    · have k : inV (.str (strL (((tl z).drop i).take (run isW (tl z) i - i)))) (wds.map V.str) = true := k
      rw [if_pos k] at ex
      exact ⟨_, rfl, _, rfl, (by show 3 ≤ sizeLine; decide), fun p np => fin _ p ex np⟩
    · have k : ¬ inV (.str (strL (((tl z).drop i).take (run isW (tl z) i - i)))) (wds.map V.str) = true := k
      rw [if_neg k] at ex
      exact ⟨_, rfl, _, rfl, (by show 3 ≤ sizeLine; decide), fun p np => fin _ p ex np⟩
  have w1 := Bool.eq_false_iff.mpr w1
  rw [w1]
  refine ⟨_, rfl, c, rfl, _, rfl, ?_⟩
  by_cases w2 : isD c = true
  · rw [w2]
    refine ⟨_, rfl, _, rfl, _, rfl, z, i, rfl, by omega, hz, (by show 3 ≤ sizeLine; decide), fun p np => fin _ p (tok_D w1 w2) np⟩
  have w2 := Bool.eq_false_iff.mpr w2
  rw [w2]
  refine ⟨_, rfl, _, rfl, _, rfl, _, rfl, _, _, rfl, rfl, _, rfl, z, rfl, small hz, rfl, _, rfl, ?_⟩
  dsimp only
  rw [show (i : Int) + 2 = ((i + 2 : Nat) : Int) by omega, cut_eq z i _ (by omega), show i + 2 - i = 2 by omega, s_eq2]
  by_cases w3 : ((tl z).drop i).take 2 = [61, 61]
  · refine iteP (str_L.mpr w3) ?_
    exact ⟨_, rfl, _, rfl, _, _, rfl, rfl, (by show 3 ≤ sizeLine; decide), fun p np => fin _ p (tok_E w1 w2 w3) np⟩
  · refine iteN (fun k => w3 (str_L.mp k)) ?_
    refine ⟨_, rfl, c, sgs, rfl, rfl, _, rfl, ?_⟩
    have ex := tok_S w1 w2 w3
    by_cases w4 : c ∈ tl sgs
    · rw [if_pos w4] at ex
      refine iteP w4 ?_
      exact ⟨_, rfl, _, rfl, _, _, rfl, rfl, (by show 3 ≤ sizeLine; decide), fun p np => fin _ p ex np⟩
    · rw [if_neg w4] at ex
      refine iteN w4 ?_
      exact ⟨_, rfl, _, rfl, _, _, rfl, rfl, (by show 3 ≤ sizeLine; decide), fun p np => fin _ p ex np⟩
theorem toks_len {l : List Nat} {a e : Nat} : (toks l a e).length ≤ e := by
  have k : ∀ (s : List Nat) (a b : Nat) (cm : Bool), (scan l s a b cm).length ≤ s.length := by
    intro s
    induction s with
    | nil => exact fun _ _ _ => Nat.le_refl _
    | cons c r ih =>
      intro a b cm
      show (if _ then _ else _ : List Tok).length ≤ r.length + 1
      split
      · exact Nat.le_succ_of_le (ih _ _ _)
      · split
        · exact Nat.le_succ_of_le (ih _ _ _)
        · exact Nat.succ_le_succ (ih _ _ _)
  have := k ((l.take e).drop a) a 0 false
  rw [List.length_drop, List.length_take] at this
  unfold toks
  omega
abbrev s_tokens_between : Stmt := topS 19
abbrev N_tokens_between : List Str := ["text", "start", "end", "found", "at", "token"]
theorem sc_tokens_between : FnScope N_tokens_between ["text", "start", "end"] (defScope s_tokens_between) := ⟨rfl, rfl, rfl, by decide +kernel, rfl, by decide +kernel, by decide +kernel⟩
theorem ok_tokens_between (F : Fun K "tokens_between" "tokens_between" s_tokens_between f fd) (T : Nm5 K mg aW tS) (C_line_end : Cal P w K mg base CX0 1 "line_end" (spRun fun d => d != 10)) (C_token_at : Cal P w K mg base CX0 3 "token_at" spTokAt) :
    FnOk P w K mg base CX0 4 f fd ["text", "start", "end"] spBetween := by
  refine F.ok sc_tokens_between (fun vs H Q E h => ?_) (fun cdv A outer s H vs Q E hr h => ?_)
  · obtain ⟨z, a0, e, rfl, _⟩ := h
    rfl
  obtain ⟨z, a0, e, rfl, he, hz, q⟩ := h
  refine ⟨_, (pss_cons (ps_set (i := 3) sc_tokens_between.nd rfl (Or.inl rfl) (pe_lst pa_nil))
    (pss_cons (ps_set (i := 4) sc_tokens_between.nd rfl (Or.inl rfl) (pv 1))
    (pss_cons (ps_while PassesOwn.never (pt_cmpR op_lt (pv 4) (pv 2) (nomark _)) (pss_one (ps_if (PW.pt (pw_or (pt_cmpR op_eq (pe_item_str (pv 0) (pv 4) (fun _ _ => rfl)) pe_str (nomark _)) (pw_or1 (pt_cmpR op_eq (pe_item_str (pv 0) (pv 4) (fun _ _ => rfl)) pe_str (nomark _))))) (pss_one (ps_aug (i := 4) sc_tokens_between.nd rfl (Or.inl rfl) pe_int ip_add)) (pss_one (ps_if (pt_cmpR op_eq (pe_item_str (pv 0) (pv 4) (fun _ _ => rfl)) pe_str (nomark _)) (pss_one (ps_set (i := 4) sc_tokens_between.nd rfl (Or.inl rfl) (pe_c C_line_end hr (by first | decide | omega) pass0 (pa_cons (pv 0) (pa_cons (pv 4) pa_nil))))) (pss_cons (ps_set (i := 5) sc_tokens_between.nd rfl (Or.inl rfl) (pe_c C_token_at hr (by first | decide | omega) pass0 (pa_cons (pv 0) (pa_cons (pv 4) pa_nil))))
    (pss_cons (ps_expr (pe_bm PySem.F.plainAttrs_list PySem.F.slot_list_append PySem.F.type_list_append mt_append (pv 3) (pa_cons (pv 5) pa_nil)))
    (pss_one (ps_set (i := 4) sc_tokens_between.nd rfl (Or.inl rfl) (pe_ix (r := rIxT K) ix_tup (pv 5) pe_int (fun _ _ => rfl)))))))))))
    (pss_one (ps_ret (pv 3)))))), ?_⟩
  have el := len_tl z
  refine ⟨Nat.zero_le _, fun L nL => ?_⟩
  refine ⟨_, rfl, while_m (fun σ H' => ∃ (a : Nat) (v5 : Option V) (pre : List Tok), σ = [some (.str z), some (.int (a0 : Int)), some (.int (e : Int)), some (.ref L), some (.int (a : Int)), v5] ∧ Same H H' ∧ LT H' L (pre.map tkV) ∧ toks (tl z) a0 e = pre ++ toks (tl z) a e)
    (fun σ _ => match σ with | [_, _, _, _, some (.int j), _] => e - j.toNat | _ => 0) ⟨a0, none, [], rfl, same_new nL, ⟨[], upd_same, rfl, fun _ _ _ h _ => by simp at h⟩, rfl⟩ ?_⟩
  rintro σ H1 ⟨a, v5, pre, rfl, sm, lt, ht⟩
  refine ⟨_, rfl, _, rfl, _, _, rfl, rfl, _, rfl, ?_⟩
  by_cases h : a < e
  rotate_left
  · refine iteN (by omega) ⟨_, rfl, ?_⟩
    rw [toks_end (l := tl z) (a := a) (e := e) (by omega), List.append_nil] at ht
    rw [← ht] at lt
    exact q L H1 sm nL lt
  refine iteP (by omega) ?_
  have hal : a < (tl z).length := by omega
  have hg := List.getElem?_eq_getElem hal
  generalize (tl z)[a] = c at hg
  obtain ⟨i1, i2, i3, i4⟩ := item_of hg hz
  refine wN ?_
  -- a blank
  have blank : (c = 32 ∨ c = 10) → (∃ (a' : Nat) (v5' : Option V) (pre' : List Tok), [some (V.str z), some (.int (a0 : Int)), some (.int (e : Int)), some (.ref L), some (.int ((a : Int) + 1)), v5] = [some (V.str z), some (.int (a0 : Int)), some (.int (e : Int)), some (.ref L), some (.int (a' : Int)), v5'] ∧
      Same H H1 ∧ LT H1 L (pre'.map tkV) ∧ toks (tl z) a0 e = pre' ++ toks (tl z) a' e) ∧ e - ((a : Int) + 1).toNat < e - ((a : Int)).toNat := fun hb =>
    ⟨⟨a + 1, v5, pre, rfl, sm, lt, by rw [ht, toks_blank he h hg hb]⟩, by omega⟩
  refine ⟨_, rfl, _, rfl, z, (a : Int), c, rfl, rfl, i1, i2, i3, i4, rfl, _, rfl, ?_⟩
  rw [s_sp, s_nl, s_ha]
  by_cases b1 : c = 32
  · refine iteP (one5.mpr b1) ?_
    exact ⟨_, rfl, _, _, rfl, rfl, blank (.inl b1)⟩
  refine iteN (fun k => b1 (one5.mp k)) ?_
  refine ⟨_, rfl, _, rfl, z, (a : Int), c, rfl, rfl, i1, i2, i3, i4, rfl, _, rfl, ?_⟩
  by_cases b2 : c = 10
  · refine iteP (one5.mpr b2) ?_
    exact ⟨_, rfl, _, _, rfl, rfl, blank (.inr b2)⟩
  refine iteN (fun k => b2 (one5.mp k)) ?_
  refine ⟨_, rfl, _, rfl, z, (a : Int), c, rfl, rfl, i1, i2, i3, i4, rfl, _, rfl, ?_⟩
  by_cases b3 : c = 35
  · refine iteP (one5.mpr b3) ?_
    subst b3
    refine ⟨_, rfl, _, rfl, z, a, rfl, by omega, hz, ?_⟩
    have r1 : run (fun d => d != 10) (tl z) a = run (fun d => d != 10) (tl z) (a + 1) := run_step hg rfl
    have r2 := run_ge (fun d => d != 10) (tl z) (a + 1)
    refine ⟨⟨run (fun d => d != 10) (tl z) a, v5, pre, rfl, sm, lt, by rw [ht, toks_note he h hg]⟩, ?_⟩
    show e - ((run (fun d => d != 10) (tl z) a : Nat) : Int).toNat < e - ((a : Int)).toNat
    omega
  refine iteN (fun k => b3 (one5.mp k)) ?_
  refine ⟨_, rfl, _, rfl, z, a, c, rfl, hg, hz, fun p H2 s2 np hp => ?_⟩
  obtain ⟨t1, t2⟩ := tok_end hg
  obtain ⟨ys, h1, h2, h3⟩ := (lt.same s2).push hp
  have plen : pre.length ≤ (toks (tl z) a0 e).length := by
    rw [ht, List.length_append]
    omega
  have tlen := toks_len (l := tl z) (a := a0) (e := e)
  have Lp : p ≠ L := ne_of hp h1 (by intro z; cases z)
  refine ⟨_, rfl, .inl ⟨rfl, _, SqL.of h1⟩, _, rfl, L, ys, _, rfl, rfl, h1, Nat.lt_of_le_of_lt (show ys.length ≤ 1000000 by rw [h2, List.length_map]; omega) (by decide), ?_⟩
  refine ⟨_, rfl, p, _, 2, _, rfl, rfl, .inl (.inl (by rw [upd_ne Lp]; exact hp)), rfl, ?_⟩
  refine ⟨⟨(tokC (tl z) a c).2.2, _, pre ++ [tokC (tl z) a c], rfl, fun b o eb => ?_, ?_, ?_⟩, ?_⟩
  · rw [upd_ne (ne_of_none eb nL)]
    exact s2 _ _ (sm _ _ eb)
  · rw [List.map_append]
    exact h3
  · rw [ht, toks_tok he h hg (fun k => k.elim b1 b2) b3, List.append_assoc]
    rfl
  · show e - ((((tokC (tl z) a c).2.2 : Nat) : Int)).toNat < e - ((a : Int)).toNat
    omega
/-- tokens, as data -/
def tokD (x : Tok) : PyData := .tuple [.str x.1, .int (x.2.1 : Int), .int (x.2.2 : Int)]
theorem lt_dpAll {H : Hp} : ∀ {rs : List Addr} {ts : List Tok}, rs.length = ts.length → (∀ (i : Nat) (r : Addr) (xs : List V), rs[i]? = some r → (ts.map tkV)[i]? = some xs → H r = some (.tup xs)) → DpAll K H (rs.map V.ref) (ts.map tokD)
  | [], [], _, _ => .nil
  | r :: rs, t :: ts, h, k => .cons (.tup (.inl (.inl (k 0 r (tkV t) rfl rfl))) (.cons (.str _) (.cons (.int _) (.cons (.int _) .nil)))) (lt_dpAll (by simpa using h) fun i => k (i + 1))
theorem lt_dp {H : Hp} {p : Addr} {ts : List Tok} (h : LT H p (ts.map tkV)) : Dp K H (.ref p) (.list (ts.map tokD)) := by
  obtain ⟨rs, h1, h2, h3⟩ := h
  exact .lst (.inl (.inl h1)) (lt_dpAll (by rw [h2, List.length_map]) h3)
theorem sort_ok (l : List Nat) (i c : Nat) : PyData.strOk (tokC l i c).1 = true := by
  have k1 : PyData.strOk ("word" : Str) = true := by decide +kernel
  have k2 : PyData.strOk ("name" : Str) = true := by decide +kernel
  have k3 : PyData.strOk ("number" : Str) = true := by decide +kernel
  have k4 : PyData.strOk ("sign" : Str) = true := by decide +kernel
  have k5 : PyData.strOk ("wrong" : Str) = true := by decide +kernel
  unfold tokC
  split
  · show PyData.strOk (if _ then _ else _) = true
    split <;> assumption
  · split
    · exact k3
    · split
      · exact k4
      · show PyData.strOk (if _ then _ else _) = true
        split <;> assumption
theorem toks_ok {l : List Nat} {a e : Nat} : ∀ x ∈ toks l a e, PyData.strOk x.1 = true := by
  have k : ∀ (s : List Nat) (a b : Nat) (cm : Bool), ∀ x ∈ scan l s a b cm, PyData.strOk x.1 = true := by
    intro s
    induction s with
    | nil => exact fun _ _ _ x h => nomatch h
    | cons c r ih =>
      intro a b cm x hx
      have hx : x ∈ (if a < b ∨ (cm = true ∧ c ≠ 10) ∨ c = 32 ∨ c = 10 then scan l r (a + 1) b (cm && c != 10) else if c = 35 then scan l r (a + 1) b true else tokC l a c :: scan l r (a + 1) (tokC l a c).2.2 false) := hx
      split at hx
      · exact ih _ _ _ x hx
      · split at hx
        · exact ih _ _ _ x hx
        · rcases List.mem_cons.mp hx with hx | hx
          · rw [hx]
            exact sort_ok l a c
          · exact ih _ _ _ x hx
  exact fun x hx => k _ _ _ _ x hx
theorem toks_shaped {ts : List Tok} (h : ∀ x ∈ ts, PyData.strOk x.1 = true) : SeqAt.shaped (.list (ts.map tokD)) = true := by
  have c : ∀ {l : List Tok}, (∀ x ∈ l, PyData.strOk x.1 = true) → PyData.canLayAll0 (l.map tokD) = true := by
    intro l
    induction l with
    | nil => exact fun _ => rfl
    | cons x r ih =>
      intro h
      have h1 := h x List.mem_cons_self
      have h2 := ih fun y hy => h y (List.mem_cons_of_mem _ hy)
      show (PyData.canLay0 (tokD x) && PyData.canLayAll0 (r.map tokD)) = true
      rw [h2, Bool.and_true]
      show (PyData.strOk x.1 && (true && (true && true))) = true
      rw [h1]
      rfl
  have d : ∀ {l : List Tok}, PyData.depthAll (l.map tokD) ≤ 1 := by
    intro l
    induction l with
    | nil => exact Nat.zero_le _
    | cons x r ih =>
      show max (PyData.depth (tokD x)) (PyData.depthAll (r.map tokD)) ≤ 1
      have : PyData.depth (tokD x) = 1 := rfl
      omega
  show (PyData.canLay0 (.list (ts.map tokD)) && decide (PyData.depth (.list (ts.map tokD)) ≤ 64)) = true
  have h1 : PyData.canLay0 (.list (ts.map tokD)) = true := c h
  have h2 : PyData.depth (.list (ts.map tokD)) ≤ 64 := by
    show PyData.depthAll (ts.map tokD) + 1 ≤ 64
    have := d (l := ts)
    omega
  rw [h1, decide_eq_true h2]
  rfl
/-- is it one name, and nothing else -/
def nameB (z : Str) : Bool := PyData.eqv (.list ((toks (tl z) 0 (tl z).length).map tokD)) (.list [.tuple [.str "name", .int 0, .int (z.length : Int)]])
def spIsName : Sp := fun vs H Q _ => ∃ z : Str, vs = [.str z] ∧ z.length ≤ 1000000 ∧ ∀ H', Same H H' → Q (.bl (nameB z)) H'
theorem name_shaped (n : Int) : SeqAt.shaped (.list [.tuple [.str "name", .int 0, .int n]]) = true := by
  have k2 : PyData.strOk ("name" : Str) = true := by decide +kernel
  show (((PyData.strOk ("name" : Str) && (true && (true && true))) && true) && decide (PyData.depth (.list [.tuple [.str "name", .int 0, .int n]]) ≤ 64)) = true
  rw [k2]
  rfl
end

end Sn

namespace Sn
open PySem PySem.Spec PyProof.Rows L2 TL
/-! ### the law's own tokens -/
def spLRun : Sp := fun vs H Q _ => ∃ (z : Str) (i c : Nat), vs = [.str z, .int (i : Int)] ∧ (tl z)[i]? = some c ∧ z.length ≤ 1000000 ∧ Q (.int (((if isD c = true then run isD (tl z) i else run isW (tl z) i) : Nat) : Int)) H
section
variable {P : Program} {w : World} {K : PySem.W.Frag} {mg : Str → Option Value} {base : Heap} {f : Addr} {fd : FuncData} {aW : Addr} {tS : PySem.Tok}
abbrev s_lLetter : Stmt := topS 31
abbrev N_lLetter : List Str := ["char"]
theorem sc_lLetter : FnScope N_lLetter ["char"] (defScope s_lLetter) := ⟨rfl, rfl, rfl, by decide +kernel, rfl, by decide +kernel, by decide +kernel⟩
theorem ok_lLetter (F : Fun K "_law_is_letter" "_law_is_letter" s_lLetter f fd) : FnOk P w K mg base CX0 1 f fd ["char"] (spLet isL) := by
  refine F.ok sc_lLetter (fun vs H Q E h => ?_) (fun cdv A outer s H vs Q E hr h => ?_)
  · obtain ⟨c, rfl, _⟩ := h
    rfl
  obtain ⟨c, rfl, q⟩ := h
  refine ⟨_, (pss_one (ps_ret (pe_or (pe_chain op_le_str op_le_str pe_str (pv 0) pe_str) (pe_one (pe_chain op_le_str op_le_str pe_str (pv 0) pe_str))))), ?_⟩
  exact letter_read rfl q
abbrev s_lDigit : Stmt := topS 32
abbrev N_lDigit : List Str := ["char"]
theorem sc_lDigit : FnScope N_lDigit ["char"] (defScope s_lDigit) := ⟨rfl, rfl, rfl, by decide +kernel, rfl, by decide +kernel, by decide +kernel⟩
theorem ok_lDigit (F : Fun K "_law_is_digit" "_law_is_digit" s_lDigit f fd) : FnOk P w K mg base CX0 1 f fd ["char"] (spLet isD) := by
  refine F.ok sc_lDigit (fun vs H Q E h => ?_) (fun cdv A outer s H vs Q E hr h => ?_)
  · obtain ⟨c, rfl, _⟩ := h
    rfl
  obtain ⟨c, rfl, q⟩ := h
  refine ⟨_, (pss_one (ps_ret (pe_chain op_le_str op_le_str pe_str (pv 0) pe_str))), ?_⟩
  exact digit_read rfl q
theorem drop_get {l : List Nat} {i j : Nat} : (l.drop i)[j]? = l[i + j]? := List.getElem?_drop
abbrev s_lRun : Stmt := topS 33
abbrev N_lRun : List Str := ["text", "at", "end", "char"]
theorem sc_lRun : FnScope N_lRun ["text", "at"] (defScope s_lRun) := ⟨rfl, rfl, rfl, by decide +kernel, rfl, by decide +kernel, by decide +kernel⟩
theorem ok_lRun (F : Fun K "_law_run" "_law_run" s_lRun f fd) (C_law_is_letter : Cal P w K mg base CX0 1 "_law_is_letter" (spLet isL)) (C_law_is_digit : Cal P w K mg base CX0 1 "_law_is_digit" (spLet isD)) : FnOk P w K mg base CX0 2 f fd ["text", "at"] spLRun := by
  refine F.ok sc_lRun (fun vs H Q E h => ?_) (fun cdv A outer s H vs Q E hr h => ?_)
  · obtain ⟨z, i, c, rfl, _⟩ := h
    rfl
  obtain ⟨z, i, c, rfl, hc, hz, q⟩ := h
  refine ⟨_, (pss_cons (ps_set (i := 2) sc_lRun.nd rfl (Or.inl rfl) (pv 1))
    (pss_cons (ps_if (pt_val (pe_c C_law_is_digit hr (by first | decide | omega) pass0 (pa_cons (pe_item_str (pv 0) (pv 1) (fun _ _ => rfl)) pa_nil))) (pss_cons (ps_for PassesOwn.never rfl (pi_str (pe_slice sl_str (pv 0) (po_some (pv 1)) po_none)) (pg_name (i := 3) sc_lRun.nd rfl (Or.inl rfl)) (pss_cons (ps_if (PW.pt (pw_and (pt_cmpR op_ge (pv 2) pe_int (nomark _)) (pw_and1 (pt_not (pt_val (pe_c C_law_is_digit hr (by first | decide | omega) pass0 (pa_cons (pv 3) pa_nil))))))) (pss_one (ps_ret (pv 2))) pss_nil)
    (pss_one (ps_set (i := 2) sc_lRun.nd rfl (Or.inl rfl) (pe_op op_add (pv 2) pe_int)))))
    (pss_one (ps_ret (pv 2)))) pss_nil)
    (pss_cons (ps_for PassesOwn.never rfl (pi_str (pe_slice sl_str (pv 0) (po_some (pv 1)) po_none)) (pg_name (i := 3) sc_lRun.nd rfl (Or.inl rfl)) (pss_cons (ps_if (PW.pt (pw_and (pt_not (pt_val (pe_c C_law_is_letter hr (by first | decide | omega) pass0 (pa_cons (pv 3) pa_nil)))) (pw_and (pt_not (pt_val (pe_c C_law_is_digit hr (by first | decide | omega) pass0 (pa_cons (pv 3) pa_nil)))) (pw_and1 (pt_cmpR op_ne (pv 3) pe_str (nomark _)))))) (pss_one (ps_ret (pv 2))) pss_nil)
    (pss_one (ps_set (i := 2) sc_lRun.nd rfl (Or.inl rfl) (pe_op op_add (pv 2) pe_int)))))
    (pss_one (ps_ret (pv 2)))))), ?_⟩
  have e := len_tl z
  have hi := toNat_lt hc
  obtain ⟨i1, i2, i3, i4⟩ := item_of hc hz
  refine ⟨_, rfl, _, rfl, _, rfl, z, (i : Int), c, rfl, rfl, i1, i2, i3, i4, c, rfl, _, rfl, ?_⟩
  have hx := tl_cut_from z i
  have hxl : (cutS z (some (i : Int)) none).cps.toList.length = (tl z).length - i := by
    show (tl (cutS z (some (i : Int)) none)).length = _
    rw [hx, List.length_drop]
  by_cases w1 : isD c = true
  · rw [w1]
    rw [if_pos w1] at q
    refine ⟨_, rfl, _, rfl, _, rfl, z, rfl, small hz, _, rfl, ?_⟩
    generalize cutS z (some (i : Int)) none = x at hx hxl ⊢
    refine for_str (x := x) (fun j σ H' => H' = H ∧ ∃ v, σ = [some (.str z), some (.int (i : Int)), some (.int ((i + j : Nat) : Int)), v] ∧ run isD (tl z) i = run isD (tl z) (i + j)) ⟨rfl, none, rfl, rfl⟩ ?_ ?_
    · rintro j d σ H' hj ⟨rfl, v, rfl, hr⟩
      have hg : (tl z)[i + j]? = some d := by
        rw [← drop_get, ← hx]
        exact hj
      refine ⟨_, rfl, _, _, rfl, rfl, _, rfl, iteP (by omega) ?_⟩
      refine ⟨_, rfl, d, rfl, _, rfl, ?_⟩
      by_cases w2 : isD d = true
      · rw [w2]
        refine ⟨_, rfl, _, _, rfl, rfl, rfl, _, rfl, ?_⟩
        rw [hr, run_step hg w2]
        rfl
      · have w2 := Bool.eq_false_iff.mpr w2
        rw [w2]
        refine ⟨_, rfl, ?_⟩
        rw [hr, run_stop hg w2] at q
        exact q
    · rintro σ H' ⟨rfl, v, rfl, hr⟩
      rw [hxl, show i + ((tl z).length - i) = (tl z).length by omega] at *
      rw [hr, run_end (Nat.le_refl _)] at q
      exact ⟨_, rfl, q⟩
  · have w1 := Bool.eq_false_iff.mpr w1
    rw [w1]
    rw [w1, if_neg Bool.false_ne_true] at q
    refine ⟨_, rfl, _, rfl, _, rfl, z, rfl, small hz, _, rfl, ?_⟩
    generalize cutS z (some (i : Int)) none = x at hx hxl ⊢
    refine for_str (x := x) (fun j σ H' => H' = H ∧ ∃ v, σ = [some (.str z), some (.int (i : Int)), some (.int ((i + j : Nat) : Int)), v] ∧ run isW (tl z) i = run isW (tl z) (i + j)) ⟨rfl, none, rfl, rfl⟩ ?_ ?_
    · rintro j d σ H' hj ⟨rfl, v, rfl, hr⟩
      have hg : (tl z)[i + j]? = some d := by
        rw [← drop_get, ← hx]
        exact hj
      have go : isW d = true → H' = H' ∧ ∃ v', [some (V.str z), some (.int (i : Int)), some (.int (((i + j : Nat) : Int) + 1)), some (.str ⟨#[d]⟩)] = [some (V.str z), some (.int (i : Int)), some (.int ((i + (j + 1) : Nat) : Int)), v'] ∧ run isW (tl z) i = run isW (tl z) (i + (j + 1)) := fun hw => by
        refine ⟨rfl, _, rfl, ?_⟩
        rw [hr, run_step hg hw]
        rfl
      refine ⟨_, rfl, d, rfl, _, rfl, ?_⟩
      by_cases w2 : isL d = true
      · rw [w2]
        refine ⟨_, rfl, _, _, rfl, rfl, go (by unfold isW; rw [w2]; rfl)⟩
      have w2 := Bool.eq_false_iff.mpr w2
      rw [w2]
      refine ⟨_, rfl, d, rfl, _, rfl, ?_⟩
      by_cases w3 : isD d = true
      · rw [w3]
        refine ⟨_, rfl, _, _, rfl, rfl, go (by unfold isW; rw [w3, Bool.true_or, Bool.or_true])⟩
      have w3 := Bool.eq_false_iff.mpr w3
      rw [w3]
      refine ⟨_, rfl, rfl, _, rfl, ?_⟩
      rw [s_us]
      by_cases w4 : d = 95
      · refine iteNS (one5.mpr w4) ?_
        exact ⟨_, rfl, _, _, rfl, rfl, go (by rw [w4]; rfl)⟩
      · refine iteNN (fun k => w4 (one5.mp k)) ?_
        refine ⟨_, rfl, ?_⟩
        rw [hr, run_stop hg (by unfold isW; rw [w2, w3]; simpa using w4)] at q
        exact q
    · rintro σ H' ⟨rfl, v, rfl, hr⟩
      rw [hxl, show i + ((tl z).length - i) = (tl z).length by omega] at *
      rw [hr, run_end (Nat.le_refl _)] at q
      exact ⟨_, rfl, q⟩
abbrev s_lToken : Stmt := topS 34
abbrev N_lToken : List Str := ["text", "at", "words", "char", "end"]
theorem sc_lToken : FnScope N_lToken ["text", "at"] (defScope s_lToken) := ⟨rfl, rfl, rfl, by decide +kernel, rfl, by decide +kernel, by decide +kernel⟩
def pcs_lToken_1 : List Str := ["\x69mport", "data", "trait", "with", "impl", "for", "def", "let", "in", "if", "then", "else", "loop"]
def pcs_lToken_2 : List Str := ["times", "do", "not", "and", "or", "True", "False"]
theorem pcs_words : pcs_lToken_1 ++ pcs_lToken_2 = wds := by decide +kernel
theorem ok_lToken (F : Fun K "_law_token" "_law_token" s_lToken f fd) (T : Nm mg) (C_law_is_letter : Cal P w K mg base CX0 1 "_law_is_letter" (spLet isL)) (C_law_is_digit : Cal P w K mg base CX0 1 "_law_is_digit" (spLet isD)) (C_law_run : Cal P w K mg base CX0 2 "_law_run" spLRun) :
    FnOk P w K mg base CX0 3 f fd ["text", "at"] spTokAt := by
  refine F.ok sc_lToken (fun vs H Q E h => ?_) (fun cdv A outer s H vs Q E hr h => ?_)
  · obtain ⟨z, i, c, rfl, _⟩ := h
    rfl
  obtain ⟨z, i, c, rfl, hc, hz, q⟩ := h
  refine ⟨_, (pss_cons (ps_set (i := 2) sc_lToken.nd rfl (Or.inl rfl) (pe_lst (pa_strs pcs_lToken_1)))
    (pss_cons (ps_set (i := 2) sc_lToken.nd rfl (Or.inl rfl) (pe_op op_cat (pv 2) (pe_lst (pa_strs pcs_lToken_2))))
    (pss_cons (ps_set (i := 3) sc_lToken.nd rfl (Or.inl rfl) (pe_item_str (pv 0) (pv 1) (fun _ _ => rfl)))
    (pss_cons (ps_if (pt_val (pe_c C_law_is_letter hr (by first | decide | omega) pass0 (pa_cons (pv 3) pa_nil))) (pss_cons (ps_set (i := 4) sc_lToken.nd rfl (Or.inl rfl) (pe_c C_law_run hr (by first | decide | omega) pass0 (pa_cons (pv 0) (pa_cons (pv 1) pa_nil))))
    (pss_one (ps_ret (pe_tup (pa_cons (pe_ifExp (pt_cmpR op_in_seq (pe_slice sl_str (pv 0) (po_some (pv 1)) (po_some (pv 4))) (pv 2) (by rfl)) pe_str pe_str) (pa_cons (pv 1) (pa_cons (pv 4) pa_nil))))))) pss_nil)
    (pss_cons (ps_if (pt_val (pe_c C_law_is_digit hr (by first | decide | omega) pass0 (pa_cons (pv 3) pa_nil))) (pss_one (ps_ret (pe_tup (pa_cons pe_str (pa_cons (pv 1) (pa_cons (pe_c C_law_run hr (by first | decide | omega) pass0 (pa_cons (pv 0) (pa_cons (pv 1) pa_nil))) pa_nil)))))) pss_nil)
    (pss_cons (ps_if (pt_cmpR op_eq (pe_slice sl_str (pv 0) (po_some (pv 1)) (po_some (pe_op op_add (pv 1) pe_int))) pe_str (nomark _)) (pss_one (ps_ret (pe_tup (pa_cons pe_str (pa_cons (pv 1) (pa_cons (pe_op op_add (pv 1) pe_int) pa_nil)))))) pss_nil)
    (pss_one (ps_ret (pe_tup (pa_cons (pe_ifExp (pt_cmpR op_in_sign (pv 3) pe_str (by rfl)) pe_str pe_str) (pa_cons (pv 1) (pa_cons (pe_op op_add (pv 1) pe_int) pa_nil)))))))))))), ?_⟩
  have e := len_tl z
  have hi := toNat_lt hc
  obtain ⟨i1, i2, i3, i4⟩ := item_of hc hz
  refine ⟨(by show 13 ≤ sizeLine; decide), fun l1 n1 => ?_⟩
  refine ⟨_, rfl, (by show 7 ≤ sizeLine; decide), fun l2 n2 => ?_⟩
  have e1 : upd (upd H l1 (.lst (pcs_lToken_1.map V.str))) l2 (.lst (pcs_lToken_2.map V.str)) l1 = some (.lst (pcs_lToken_1.map V.str)) := by
    rw [upd_ne (ne_of_none upd_same n2), upd_same]
  refine ⟨l1, l2, _, _, rfl, rfl, e1, upd_same, (by show 20 ≤ sizeLine; decide), fun p np => ?_⟩
  have b1 : Same H (upd (upd (upd H l1 (.lst (pcs_lToken_1.map V.str))) l2 (.lst (pcs_lToken_2.map V.str))) p (.lst (pcs_lToken_1.map V.str ++ pcs_lToken_2.map V.str))) := ((same_new n1).trans (same_new n2)).trans (same_new np)
  have hp : upd (upd (upd H l1 (.lst (pcs_lToken_1.map V.str))) l2 (.lst (pcs_lToken_2.map V.str))) p (.lst (pcs_lToken_1.map V.str ++ pcs_lToken_2.map V.str)) p = some (.lst (wds.map V.str)) := by
    rw [upd_same, ← List.map_append, pcs_words]
  show tSeq _ _ _ _ (upd (upd (upd H l1 (.lst (pcs_lToken_1.map V.str))) l2 (.lst (pcs_lToken_2.map V.str))) p (.lst (pcs_lToken_1.map V.str ++ pcs_lToken_2.map V.str)))
  generalize upd (upd (upd H l1 (.lst (pcs_lToken_1.map V.str))) l2 (.lst (pcs_lToken_2.map V.str))) p (.lst (pcs_lToken_1.map V.str ++ pcs_lToken_2.map V.str)) = H1 at b1 hp ⊢
  have fin : ∀ (x : Tok) (p : Addr), tokC (tl z) i c = x → H1 p = none → Q (.ref p) (upd H1 p (.tup (tkV x))) := fun x p ex np => q p _ (b1.trans (same_new np)) (b1.free np) (by rw [upd_same, ex])
  refine ⟨_, rfl, _, rfl, z, (i : Int), c, rfl, rfl, i1, i2, i3, i4, ?_⟩
  refine ⟨_, rfl, c, rfl, _, rfl, ?_⟩
  have nd : isL c = true → isD c = false := fun h => by
    unfold isL at h
    unfold isD
    rw [Bool.and_eq_false_iff, decide_eq_false_iff_not, decide_eq_false_iff_not]
    simp only [Bool.or_eq_true, Bool.and_eq_true, decide_eq_true_eq] at h
    omega
  by_cases w1 : isL c = true
  · rw [w1]
    refine ⟨_, rfl, _, rfl, z, i, c, rfl, hc, hz, ?_⟩
    rw [nd w1, if_neg Bool.false_ne_true]
    have r1 := run_ge isW (tl z) i
    refine ⟨_, rfl, _, rfl, _, rfl, _, rfl, _, rfl, z, rfl, small hz, _, rfl, p, _, rfl, .inl (.inl (.inl hp)), rfl, wds_flat, _, rfl, ?_⟩
    rw [cut_eq z i _ (by omega)]
    have ex := tok_L (l := tl z) (i := i) w1
    refine ite2 (fun k => ?_) (fun k => ?_)
    · have k : inV (.str (strL (((tl z).drop i).take (run isW (tl z) i - i)))) (wds.map V.str) = true := k
      rw [if_pos k] at ex
      exact ⟨_, rfl, _, rfl, (by show 3 ≤ sizeLine; decide), fun p np => fin _ p ex np⟩
    · have k : ¬ inV (.str (strL (((tl z).drop i).take (run isW (tl z) i - i)))) (wds.map V.str) = true := k
      rw [if_neg k] at ex
      exact ⟨_, rfl, _, rfl, (by show 3 ≤ sizeLine; decide), fun p np => fin _ p ex np⟩
  have w1 := Bool.eq_false_iff.mpr w1
  rw [w1]
  refine ⟨_, rfl, c, rfl, _, rfl, ?_⟩
  by_cases w2 : isD c = true
  · rw [w2]
    refine ⟨_, rfl, _, rfl, _, rfl, z, i, c, rfl, hc, hz, (by show 3 ≤ sizeLine; decide), fun p np => ?_⟩
    rw [if_pos w2]
    exact fin _ p (tok_D w1 w2) np
  have w2 := Bool.eq_false_iff.mpr w2
  rw [w2]
  refine ⟨_, rfl, _, rfl, _, rfl, _, rfl, _, _, rfl, rfl, _, rfl, z, rfl, small hz, rfl, _, rfl, ?_⟩
  dsimp only
  rw [show (i : Int) + 2 = ((i + 2 : Nat) : Int) by omega, cut_eq z i _ (by omega), show i + 2 - i = 2 by omega, s_eq2]
  by_cases w3 : ((tl z).drop i).take 2 = [61, 61]
  · refine iteP (str_L.mpr w3) ?_
    exact ⟨_, rfl, _, rfl, _, _, rfl, rfl, (by show 3 ≤ sizeLine; decide), fun p np => fin _ p (tok_E w1 w2 w3) np⟩
  · refine iteN (fun k => w3 (str_L.mp k)) ?_
    refine ⟨_, rfl, c, sgs, rfl, rfl, _, rfl, ?_⟩
    have ex := tok_S w1 w2 w3
    by_cases w4 : c ∈ tl sgs
    · rw [if_pos w4] at ex
      refine iteP w4 ?_
      exact ⟨_, rfl, _, rfl, _, _, rfl, rfl, (by show 3 ≤ sizeLine; decide), fun p np => fin _ p ex np⟩
    · rw [if_neg w4] at ex
      refine iteN w4 ?_
      exact ⟨_, rfl, _, rfl, _, _, rfl, rfl, (by show 3 ≤ sizeLine; decide), fun p np => fin _ p ex np⟩
theorem scan_cons {l s : List Nat} {c a b : Nat} {cm : Bool} : scan l (c :: s) a b cm = if a < b ∨ (cm = true ∧ c ≠ 10) ∨ c = 32 ∨ c = 10 then scan l s (a + 1) b (cm && c != 10) else if c = 35 then scan l s (a + 1) b true else tokC l a c :: scan l s (a + 1) (tokC l a c).2.2 false := rfl
abbrev s_lTokens : Stmt := topS 35
abbrev N_lTokens : List Str := ["text", "result", "behind", "comment", "at", "char"]
theorem sc_lTokens : FnScope N_lTokens ["text"] (defScope s_lTokens) := ⟨rfl, rfl, rfl, by decide +kernel, rfl, by decide +kernel, by decide +kernel⟩
theorem ok_lTokens (F : Fun K "_law_tokens" "_law_tokens" s_lTokens f fd) (T : Nm mg) (C_law_token : Cal P w K mg base CX0 3 "_law_token" spTokAt) : FnOk P w K mg base CX0 4 f fd ["text"] spTokens := by
  refine F.ok sc_lTokens (fun vs H Q E h => ?_) (fun cdv A outer s H vs Q E hr h => ?_)
  · obtain ⟨z, rfl, _⟩ := h
    rfl
  obtain ⟨z, rfl, hz, q⟩ := h
  refine ⟨_, (pss_cons (ps_set (i := 1) sc_lTokens.nd rfl (Or.inl rfl) (pe_lst pa_nil))
    (pss_cons (ps_set (i := 2) sc_lTokens.nd rfl (Or.inl rfl) pe_int)
    (pss_cons (ps_set (i := 3) sc_lTokens.nd rfl (Or.inl rfl) pe_bl)
    (pss_cons (ps_for PassesOwn.never rfl (pi_range1 (by rfl) T.range (pa_cons (pe_callB call_len_str (by rfl) T.len PySem.boot_len (pa_cons (pv 0) pa_nil)) pa_nil)) (pg_name (i := 4) sc_lTokens.nd rfl (Or.inl rfl)) (pss_cons (ps_set (i := 5) sc_lTokens.nd rfl (Or.inl rfl) (pe_item_str (pv 0) (pv 4) (fun _ _ => rfl)))
    (C8.pss_cut (ps_if (pt_cmpR op_eq (pv 5) pe_str (nomark _)) (pss_one (ps_set (i := 3) sc_lTokens.nd rfl (Or.inl rfl) pe_bl)) pss_nil)
    (pss_cons (ps_if (PW.pt (pw_or (pt_cmpR op_lt (pv 4) (pv 2) (nomark _)) (pw_or (pt_val (pv 3)) (pw_or (pt_cmpR op_eq (pv 5) pe_str (nomark _)) (pw_or1 (pt_cmpR op_eq (pv 5) pe_str (nomark _))))))) (pss_one ps_continue) pss_nil)
    (pss_one (ps_if (pt_cmpR op_eq (pv 5) pe_str (nomark _)) (pss_one (ps_set (i := 3) sc_lTokens.nd rfl (Or.inl rfl) pe_bl)) (pss_cons (ps_expr (pe_bm PySem.F.plainAttrs_list PySem.F.slot_list_append PySem.F.type_list_append mt_append (pv 1) (pa_cons (pe_c C_law_token hr (by first | decide | omega) pass0 (pa_cons (pv 0) (pa_cons (pv 4) pa_nil))) pa_nil)))
    (pss_one (ps_set (i := 2) sc_lTokens.nd rfl (Or.inl rfl) (pe_ix (r := rIxT K) ix_tup (pe_ix (r := rIxL K) ix_list (pv 1) (pe_un un_neg pe_int) (fun _ _ => rfl)) pe_int (fun _ _ => rfl)))))))))))
    (pss_one (ps_ret (pv 1))))))), ?_⟩
  have e := len_tl z
  refine ⟨Nat.zero_le _, fun L nL => ?_⟩
  refine ⟨_, rfl, z, rfl, small hz, (z.length : Int), rfl, by omega, by omega, ?_⟩
  refine for_range (lo := 0) (n := ((z.length : Nat) : Int).toNat) (fun i σ H' => ∃ (b : Nat) (cm : Bool) (pre : List Tok) (v4 v5 : Option V), σ = [some (.str z), some (.ref L), some (.int (b : Int)), some (.bl cm), v4, v5] ∧ Same H H' ∧ LT H' L (pre.map tkV) ∧ toks (tl z) 0 (tl z).length = pre ++ scan (tl z) ((tl z).drop i) i b cm)
    ⟨0, false, [], none, none, rfl, same_new nL, ⟨[], upd_same, rfl, fun _ _ _ h _ => by simp at h⟩, by unfold toks; rw [List.take_length, List.drop_zero]; rfl⟩ ?_ ?_
  · rintro i σ H1 hi ⟨b, cm, pre, v4, v5, rfl, sm, lt, ht⟩
    have hil : i < (tl z).length := by omega
    have hg := List.getElem?_eq_getElem hil
    have hd := List.drop_eq_getElem_cons hil
    rw [hd, scan_cons] at ht
    generalize (tl z)[i] = c at hg ht
    obtain ⟨i1, i2, i3, i4⟩ := item_of hg hz
    have ei : (0 : Int) + (i : Nat) = (i : Int) := Int.zero_add _
    rw [ei]
    refine ⟨_, rfl, _, rfl, z, (i : Int), c, rfl, rfl, i1, i2, i3, i4, ?_⟩
    refine ⟨fun σ H' => H' = H1 ∧ σ = [some (.str z), some (.ref L), some (.int (b : Int)), some (.bl (cm && c != 10)), some (.int (i : Int)), some (.str ⟨#[c]⟩)], ?_, ?_⟩
    · refine ⟨_, rfl, rfl, _, rfl, ?_⟩
      rw [s_nl]
      by_cases h10 : c = 10
      · refine iteP (one5.mpr h10) ⟨rfl, ?_⟩
        rw [h10]
        show _ = [_, _, _, some (V.bl (cm && false)), _, _]
        rw [Bool.and_false]
        rfl
      · refine iteN (fun k => h10 (one5.mp k)) ⟨rfl, ?_⟩
        have : (c != 10) = true := by simpa using h10
        rw [this, Bool.and_true]
        rfl
    rintro σ H2 ⟨rfl, rfl⟩
    have skip : (i < b ∨ (cm = true ∧ c ≠ 10) ∨ c = 32 ∨ c = 10) → ∃ (b' : Nat) (cm' : Bool) (pre' : List Tok) (v4' v5' : Option V), [some (V.str z), some (.ref L), some (.int (b : Int)), some (.bl (cm && c != 10)), some (.int (i : Int)), some (.str ⟨#[c]⟩)] = [some (V.str z), some (.ref L), some (.int (b' : Int)), some (.bl cm'), v4', v5'] ∧ Same H H2 ∧ LT H2 L (pre'.map tkV) ∧
        toks (tl z) 0 (tl z).length = pre' ++ scan (tl z) ((tl z).drop (i + 1)) (i + 1) b' cm' := fun k => by
      rw [if_pos k] at ht
      exact ⟨b, _, pre, _, _, rfl, sm, lt, ht⟩
    have ccm : (cm && c != 10) = true ↔ (cm = true ∧ c ≠ 10) := by
      rw [Bool.and_eq_true]
      simp
    refine ⟨_, rfl, _, rfl, _, _, rfl, rfl, _, rfl, ?_⟩
    by_cases k1 : i < b
    · exact iteP (by omega) (skip (.inl k1))
    refine iteN (by omega) ⟨_, rfl, _, rfl, ?_⟩
    by_cases k2 : (cm && c != 10) = true
    · have := skip (.inr (.inl (ccm.mp k2)))
      rw [k2] at this ⊢
      exact this
    have k2' := Bool.eq_false_iff.mpr k2
    rw [k2'] at skip ⊢
    refine ⟨_, rfl, rfl, _, rfl, ?_⟩
    rw [s_sp, s_nl, s_ha]
    by_cases k3 : c = 32
    · exact iteP (one5.mpr k3) (skip (.inr (.inr (.inl k3))))
    refine iteN (fun k => k3 (one5.mp k)) ?_
    refine ⟨_, rfl, rfl, _, rfl, ?_⟩
    by_cases k4 : c = 10
    · exact iteP (one5.mpr k4) (skip (.inr (.inr (.inr k4))))
    refine iteN (fun k => k4 (one5.mp k)) ?_
    have no : ¬ (i < b ∨ (cm = true ∧ c ≠ 10) ∨ c = 32 ∨ c = 10) := fun k => k.elim k1 fun k => k.elim (fun k => k2 (ccm.mpr k)) fun k => k.elim k3 k4
    rw [if_neg no] at ht
    refine ⟨_, rfl, rfl, _, rfl, ?_⟩
    by_cases k5 : c = 35
    · rw [if_pos k5] at ht
      refine iteP (one5.mpr k5) ?_
      exact ⟨b, true, pre, _, _, rfl, sm, lt, ht⟩
    rw [if_neg k5] at ht
    refine iteN (fun k => k5 (one5.mp k)) ?_
    obtain ⟨rs0, h0, _⟩ := id lt
    refine ⟨_, rfl, .inl ⟨rfl, _, SqL.of h0⟩, _, rfl, _, rfl, z, i, c, rfl, hg, hz, fun p H3 s3 np hp => ?_⟩
    obtain ⟨ys, h1, h2, h3⟩ := (lt.same s3).push hp
    have tlen := toks_len (l := tl z) (a := 0) (e := (tl z).length)
    have plen : pre.length ≤ (toks (tl z) 0 (tl z).length).length := by
      rw [ht, List.length_append]
      omega
    have Lp : p ≠ L := ne_of hp h1 (by intro z; cases z)
    refine ⟨L, ys, _, rfl, rfl, h1, Nat.lt_of_le_of_lt (show ys.length ≤ 1000000 by rw [h2, List.length_map]; omega) (by decide), ?_⟩
    refine ⟨_, rfl, _, rfl, L, _, _, _, rfl, rfl, .inl (.inl upd_same), atI_last _ _, p, _, 2, _, rfl, rfl, .inl (.inl (by rw [upd_ne Lp]; exact hp)), rfl, ?_⟩
    refine ⟨(tokC (tl z) i c).2.2, false, pre ++ [tokC (tl z) i c], _, _, rfl, fun b o eb => ?_, ?_, ?_⟩
    · rw [upd_ne (ne_of_none eb nL)]
      exact s3 _ _ (sm _ _ eb)
    · rw [List.map_append]
      exact h3
    · rw [ht, List.append_assoc]
      rfl
  · rintro σ H1 ⟨b, cm, pre, v4, v5, rfl, sm, lt, ht⟩
    rw [show ((z.length : Nat) : Int).toNat = (tl z).length by omega, List.drop_length] at ht
    have ht2 : toks (tl z) 0 (tl z).length = pre := by
      rw [ht]
      show pre ++ [] = pre
      rw [List.append_nil]
    rw [← ht2] at lt
    exact ⟨_, rfl, q L H1 sm nL lt⟩
end

end Sn

namespace Sn
open PySem PySem.Spec PyProof.Rows L2 TL
/-! ### copies -/
/-- equal data, none of which stands at an address of S -/
def AlS (S : Addr → Prop) (H : Hp) : Nat → V → V → Prop
  | 0, _, _ => False
  | n + 1, x, y => (x = y ∧ sca x = true) ∨
    (∃ a b xs ys, x = .ref a ∧ y = .ref b ∧ ¬ S a ∧ ¬ S b ∧ H a = some (.tup xs) ∧ H b = some (.tup ys) ∧ xs.length = ys.length ∧ xs.length ≤ 1000000 ∧ ∀ (i : Nat) (u v : V), xs[i]? = some u → ys[i]? = some v → AlS S H n u v) ∨
    (∃ a b xs ys, x = .ref a ∧ y = .ref b ∧ ¬ S a ∧ ¬ S b ∧ H a = some (.lst xs) ∧ H b = some (.lst ys) ∧ xs.length = ys.length ∧ xs.length ≤ 1000000 ∧ ∀ (i : Nat) (u v : V), xs[i]? = some u → ys[i]? = some v → AlS S H n u v)
/-- heaps that agree but at S -/
def SameS (S : Addr → Prop) (H H' : Hp) : Prop := ∀ b o, ¬ S b → H b = some o → H' b = some o
theorem AlS.same {S : Addr → Prop} {H H' : Hp} (s : SameS S H H') : ∀ {n : Nat} {x y : V}, AlS S H n x y → AlS S H' n x y
  | 0, _, _, h => h
  | n + 1, x, y, h => by
    rcases h with h | ⟨a, b, xs, ys, e1, e2, g1, g2, h1, h2, hl, hm, h⟩ | ⟨a, b, xs, ys, e1, e2, g1, g2, h1, h2, hl, hm, h⟩
    · exact .inl h
    · exact .inr (.inl ⟨a, b, xs, ys, e1, e2, g1, g2, s _ _ g1 h1, s _ _ g2 h2, hl, hm, fun i u v p q => AlS.same s (h i u v p q)⟩)
    · exact .inr (.inr ⟨a, b, xs, ys, e1, e2, g1, g2, s _ _ g1 h1, s _ _ g2 h2, hl, hm, fun i u v p q => AlS.same s (h i u v p q)⟩)
theorem AlS.al {S : Addr → Prop} {H : Hp} : ∀ {n : Nat} {x y : V}, AlS S H n x y → Al H n x y
  | 0, _, _, h => h
  | n + 1, x, y, h => by
    rcases h with h | ⟨a, b, xs, ys, e1, e2, g1, g2, h1, h2, hl, hm, h⟩ | ⟨a, b, xs, ys, e1, e2, g1, g2, h1, h2, hl, hm, h⟩
    · exact .inl h
    · exact .inr (.inl ⟨a, b, xs, ys, e1, e2, h1, h2, hl, hm, fun i u v p q => (h i u v p q).al⟩)
    · exact .inr (.inr ⟨a, b, xs, ys, e1, e2, h1, h2, hl, hm, fun i u v p q => (h i u v p q).al⟩)
theorem AlS.of {H : Hp} : ∀ {n : Nat} {x y : V}, Al H n x y → AlS (fun _ => False) H n x y
  | 0, _, _, h => h
  | n + 1, x, y, h => by
    rcases h with h | ⟨a, b, xs, ys, e1, e2, h1, h2, hl, hm, h⟩ | ⟨a, b, xs, ys, e1, e2, h1, h2, hl, hm, h⟩
    · exact .inl h
    · exact .inr (.inl ⟨a, b, xs, ys, e1, e2, id, id, h1, h2, hl, hm, fun i u v p q => .of (h i u v p q)⟩)
    · exact .inr (.inr ⟨a, b, xs, ys, e1, e2, id, id, h1, h2, hl, hm, fun i u v p q => .of (h i u v p q)⟩)
/-- a place that is free is none of the data's -/
theorem AlS.more {S : Addr → Prop} {H : Hp} {D : Addr} (hD : H D = none) : ∀ {n : Nat} {x y : V}, AlS S H n x y → AlS (fun a => S a ∨ a = D) H n x y
  | 0, _, _, h => h
  | n + 1, x, y, h => by
    have no : ∀ {a : Addr} {o : HO}, ¬ S a → H a = some o → ¬ (S a ∨ a = D) := fun {a o} g e k => k.elim g fun z => by rw [z, hD] at e; cases e
    rcases h with h | ⟨a, b, xs, ys, e1, e2, g1, g2, h1, h2, hl, hm, h⟩ | ⟨a, b, xs, ys, e1, e2, g1, g2, h1, h2, hl, hm, h⟩
    · exact .inl h
    · exact .inr (.inl ⟨a, b, xs, ys, e1, e2, no g1 h1, no g2 h2, h1, h2, hl, hm, fun i u v p q => AlS.more hD (h i u v p q)⟩)
    · exact .inr (.inr ⟨a, b, xs, ys, e1, e2, no g1 h1, no g2 h2, h1, h2, hl, hm, fun i u v p q => AlS.more hD (h i u v p q)⟩)
theorem AlS.less {S : Addr → Prop} {H : Hp} {D : Addr} : ∀ {n : Nat} {x y : V}, AlS (fun a => S a ∨ a = D) H n x y → AlS S H n x y
  | 0, _, _, h => h
  | n + 1, x, y, h => by
    rcases h with h | ⟨a, b, xs, ys, e1, e2, g1, g2, h1, h2, hl, hm, h⟩ | ⟨a, b, xs, ys, e1, e2, g1, g2, h1, h2, hl, hm, h⟩
    · exact .inl h
    · exact .inr (.inl ⟨a, b, xs, ys, e1, e2, fun k => g1 (.inl k), fun k => g2 (.inl k), h1, h2, hl, hm, fun i u v p q => AlS.less (h i u v p q)⟩)
    · exact .inr (.inr ⟨a, b, xs, ys, e1, e2, fun k => g1 (.inl k), fun k => g2 (.inl k), h1, h2, hl, hm, fun i u v p q => AlS.less (h i u v p q)⟩)
def spCopy (n : Nat) : Sp := fun vs H Q _ => ∃ x, vs = [x] ∧ Al H n x x ∧ ∀ y H', Same H H' → (∀ S : Addr → Prop, (∀ a, S a → H a ≠ none) → AlS S H n x x → AlS S H' n x y) → Q y H'
structure NmC (mg : Str → Option Value) : Prop extends Nm mg where
  dict_ : mg "dict" = none
section
variable {P : Program} {w : World} {K : PySem.W.Frag} {mg : Str → Option Value} {base : Heap} {f : Addr} {fd : FuncData}
/-- the items' copies in the list at D so far -/
structure CpI (H : Hp) (n : Nat) (xs : List V) (D : Addr) (i : Nat) (H' : Hp) : Prop where
  sm : Same H H'
  ex : ∃ ys : List V, H' D = some (.lst ys) ∧ ys.length = i ∧ ∀ S : Addr → Prop, (∀ a, S a → H a ≠ none) → ∀ (j : Nat) (u v : V), xs[j]? = some u → ys[j]? = some v → AlS S H n u u → AlS (fun a => S a ∨ a = D) H' n u v
theorem CpI.start {H : Hp} {n : Nat} {xs : List V} {D : Addr} (hD : H D = none) : CpI H n xs D 0 (upd H D (.lst [])) := ⟨same_new hD, [], upd_same, rfl, fun _ _ _ _ _ _ h _ => by simp at h⟩
theorem CpI.turn {H H3 H4 : Hp} {n i : Nat} {xs : List V} {D : Addr} {x y : V} (hD : H D = none) (c : CpI H n xs D i H3) (hx : xs[i]? = some x) (hm : xs.length ≤ 1000000) (s4 : Same H3 H4) (al : ∀ S : Addr → Prop, (∀ a, S a → H3 a ≠ none) → AlS S H3 n x x → AlS S H4 n x y) :
    ∃ acc, H4 D = some (.lst acc) ∧ acc.length < sizeLine ∧ CpI H n xs D (i + 1) (upd H4 D (.lst (acc ++ [y]))) := by
  obtain ⟨sm, ys, hd, hl, h⟩ := c
  have hi : i < xs.length := (List.getElem?_eq_some_iff.mp hx).1
  refine ⟨ys, s4 _ _ hd, Nat.lt_of_lt_of_le (show ys.length < 1000000 by omega) (by decide), fun b o e => ?_, ys ++ [y], upd_same, by simp [hl], fun S hS j u v hu hv hs => ?_⟩
  · rw [upd_ne (ne_of_none e hD)]
    exact s4 _ _ (sm _ _ e)
  · have up : SameS (fun a => S a ∨ a = D) H4 (upd H4 D (.lst (ys ++ [y]))) := fun b o nb e => by
      rw [upd_ne fun z => nb (.inr z)]
      exact e
    by_cases hj : j < i
    · rw [List.getElem?_append_left (by omega)] at hv
      exact ((h S hS j u v hu hv hs).same fun b o _ e => s4 _ _ e).same up
    · have hj2 : j = i := by
        have := (List.getElem?_eq_some_iff.mp hv).1
        rw [List.length_append, List.length_singleton] at this
        omega
      subst hj2
      have e1 : u = x := Option.some.inj (hu.symm.trans hx)
      subst e1
      rw [List.getElem?_append_right (by omega), hl, Nat.sub_self] at hv
      have e2 : y = v := Option.some.inj hv
      subst e2
      have k := al (fun a => S a ∨ a = D) (fun a ha => by
        rcases ha with ha | ha
        · cases e : H a with
          | none => exact absurd e (hS a ha)
          | some o =>
            rw [sm _ _ e]
            exact fun z => nomatch z
        · rw [ha, hd]
          exact fun z => nomatch z) ((hs.more hD).same fun b o _ e => sm _ _ e)
      exact k.same up
abbrev s_copy : Stmt := topS 27
abbrev N_copy : List Str := ["thing", "result", "key", "item"]
theorem sc_copy : FnScope N_copy ["thing"] (defScope s_copy) := ⟨rfl, rfl, rfl, by decide +kernel, rfl, by decide +kernel, by decide +kernel⟩
theorem ok_copy {n : Nat} (F : Fun K "_law_copy" "_law_copy" s_copy f fd) (T : Nm mg) (dict_ : mg "dict" = none) (C_law_copy : Cal P w K mg base CX0 n "_law_copy" (spCopy n)) : FnOk P w K mg base CX0 (n + 1) f fd ["thing"] (spCopy (n + 1)) := by
  refine F.ok sc_copy (fun vs H Q E h => ?_) (fun cdv A outer s H vs Q E hr h => ?_)
  · obtain ⟨x, rfl, _⟩ := h
    rfl
  obtain ⟨x, rfl, al, q⟩ := h
  have T : NmC mg := ⟨T, dict_⟩
  refine ⟨_, (pss_cons (ps_if (pt_val (pe_callB call_isi (by rfl) T.isinstance (by decide +kernel) (pa_cons (pv 0) (pa_cons (pe_bltn (v := .ty "list") (u := .type "list") (by rfl) T.list_ (by decide +kernel) rfl) pa_nil)))) (pss_one (ps_ret (pe_lc (own := [(("item" : Str), 3)]) (g := (gName 3)) (tt := tYes) rfl sc_copy.nd (pi_list (pv 0)) (blkOk_by (N := N_copy) (sc := defScope s_copy) (by decide +kernel)) (fun _ _ _ _ _ => (pg_name (i := 3) sc_copy.nd rfl (Or.inl rfl))) (fun _ _ _ _ _ => pts_nil) (fun _ _ _ _ _ => (pe_c C_law_copy hr (by first | decide | omega) pass0 (pa_cons (pv 3) pa_nil)))))) pss_nil)
    (pss_cons (ps_if (pt_val (pe_callB call_isi (by rfl) T.isinstance (by decide +kernel) (pa_cons (pv 0) (pa_cons (pe_bltn (v := .ty "tuple") (u := .type "tuple") (by rfl) T.tuple_ (by decide +kernel) rfl) pa_nil)))) (pss_one (ps_ret (pe_callTy call_tuple_of (by rfl) T.tuple_ (by decide +kernel) (pa_cons (pe_lc (own := [(("item" : Str), 3)]) (g := (gName 3)) (tt := tYes) rfl sc_copy.nd (pi_tup (pv 0)) (blkOk_by (N := N_copy) (sc := defScope s_copy) (by decide +kernel)) (fun _ _ _ _ _ => (pg_name (i := 3) sc_copy.nd rfl (Or.inl rfl))) (fun _ _ _ _ _ => pts_nil) (fun _ _ _ _ _ => (pe_c C_law_copy hr (by first | decide | omega) pass0 (pa_cons (pv 3) pa_nil)))) pa_nil)))) pss_nil)
    (pss_cons (ps_if (pt_val (pe_callB call_isi (by rfl) T.isinstance (by decide +kernel) (pa_cons (pv 0) (pa_cons (pe_bltn (v := .ty "dict") (u := .type "dict") (by rfl) T.dict_ (by decide +kernel) rfl) pa_nil)))) (pss_cons ps_never
    (pss_cons ps_never
    (pss_one ps_never))) pss_nil)
    (pss_one (ps_ret (pv 0)))))), ?_⟩
  rcases al with ⟨_, hx⟩ | ⟨a, b, xs, ys, rfl, e, ha, _, _, hm, al⟩ | ⟨a, b, xs, ys, rfl, e, ha, _, _, hm, al⟩
  · have fin : Q x H := q x H (Same.refl H) fun S _ _ => .inl ⟨rfl, hx⟩
    have ty : ∃ t : String, TyX K H x (.type t) ∧ kitB t "list" = some false ∧ kitB t "tuple" = some false ∧ kitB t "dict" = some false := by
      cases x with
      | non => exact ⟨_, .base .non, by decide +kernel, by decide +kernel, by decide +kernel⟩
      | bl k => exact ⟨_, .base (.bl k), by decide +kernel, by decide +kernel, by decide +kernel⟩
      | int k => exact ⟨_, .base (.int k), by decide +kernel, by decide +kernel, by decide +kernel⟩
      | str k => exact ⟨_, .base (.str k), by decide +kernel, by decide +kernel, by decide +kernel⟩
      | byt z => cases hx
      | flt z => cases hx
      | ref z => cases hx
      | ty z => cases hx
    obtain ⟨t, ty, k1, k2, k3⟩ := ty
    refine ⟨_, rfl, _, _, _, _, false, rfl, .ty _, ty, kit_ty k1, _, rfl, ?_⟩
    refine ⟨_, rfl, _, _, _, _, false, rfl, .ty _, ty, kit_ty k2, _, rfl, ?_⟩
    refine ⟨_, rfl, _, _, _, _, false, rfl, .ty _, ty, kit_ty k3, _, rfl, ?_⟩
    exact ⟨_, rfl, fin⟩
  · have e : b = a := by injection e with e; exact e.symm
    subst e
    have ey : xs = ys := by rename_i h _; exact by rw [ha] at h; injection h with h; injection h
    subst ey
    refine ⟨_, rfl, _, _, _, _, false, rfl, .ty _, .base (.tup ha), kit_ty (by decide +kernel), _, rfl, ?_⟩
    refine ⟨_, rfl, _, _, _, _, true, rfl, .ty _, .base (.tup ha), kit_ty (by decide +kernel), _, rfl, ?_⟩
    refine ⟨_, rfl, b, rfl, ⟨_, .inl (.inl ha)⟩, fun D hD => ?_⟩
    refine lc_tup (K := K) (a := b) (xs := xs) (fun i H' => CpI H n xs D i H') (CpI.start hD) (fun i H' _ h => .inl (.inl (h.sm _ _ ha))) ?_ ?_
    · intro i x H' hi c
      refine ⟨rfl, ?_⟩
      refine ⟨_, rfl, x, rfl, (al i x x hi hi).same c.sm, fun y H4 s4 al4 => ?_⟩
      exact CpI.turn hD c hi hm s4 al4
    · intro H' c
      obtain ⟨sm, zs, hd, hl, h⟩ := c
      refine ⟨D, zs, rfl, .inl ⟨.inl (.inl hd), fun T nT => ?_⟩⟩
      refine q _ _ (sm.trans (same_new nT)) fun S hS as => ?_
      rcases as with ⟨_, as⟩ | ⟨a1, b1, xs1, ys1, e1, e2, g1, g2, h1, h2, _, _, as⟩ | ⟨a1, b1, xs1, ys1, e1, e2, g1, g2, h1, h2, _, _, as⟩
      · cases as
      · injection e1 with e1
        subst e1
        injection e2 with e2
        subst e2
        rw [ha] at h1 h2
        injection h1 with h1
        injection h1 with h1
        subst h1
        injection h2 with h2
        injection h2 with h2
        subst h2
        have nS : ¬ S T := fun k => hS T k (sm.free nT)
        refine .inr (.inl ⟨b, T, xs, zs, rfl, rfl, g1, nS, same_new nT _ _ (sm _ _ ha), upd_same, hl.symm, hm, fun i u v hu hv => ?_⟩)
        exact ((h S hS i u v hu hv (as i u u hu hu)).less).same fun b o _ e => same_new nT _ _ e
      · injection e1 with e1
        subst e1
        rw [ha] at h1
        cases h1
  · have e : b = a := by injection e with e; exact e.symm
    subst e
    have ey : xs = ys := by rename_i h _; exact by rw [ha] at h; injection h with h; injection h
    subst ey
    refine ⟨_, rfl, _, _, _, _, true, rfl, .ty _, .base (.lst ha), kit_ty (by decide +kernel), _, rfl, ?_⟩
    refine ⟨_, rfl, b, rfl, ⟨_, .inl (.inl ha)⟩, fun D hD => ?_⟩
    refine lc_list (K := K) (a := b) (xs := xs) (fun i H' => CpI H n xs D i H') (CpI.start hD) (fun i H' _ h => .inl (.inl (h.sm _ _ ha))) ?_ ?_
    · intro i x H' hi c
      refine ⟨rfl, ?_⟩
      refine ⟨_, rfl, x, rfl, (al i x x hi hi).same c.sm, fun y H4 s4 al4 => ?_⟩
      exact CpI.turn hD c hi hm s4 al4
    · intro H' c
      obtain ⟨sm, zs, hd, hl, h⟩ := c
      refine q _ _ sm fun S hS as => ?_
      rcases as with ⟨_, as⟩ | ⟨a1, b1, xs1, ys1, e1, e2, g1, g2, h1, h2, _, _, as⟩ | ⟨a1, b1, xs1, ys1, e1, e2, g1, g2, h1, h2, _, _, as⟩
      · cases as
      · injection e1 with e1
        subst e1
        rw [ha] at h1
        cases h1
      · injection e1 with e1
        subst e1
        injection e2 with e2
        subst e2
        rw [ha] at h1 h2
        injection h1 with h1
        injection h1 with h1
        subst h1
        injection h2 with h2
        injection h2 with h2
        subst h2
        refine .inr (.inr ⟨b, D, xs, zs, rfl, rfl, g1, fun k => hS D k hD, sm _ _ ha, hd, hl.symm, hm, fun i u v hu hv => ?_⟩)
        exact (h S hS i u v hu hv (as i u u hu hu)).less
theorem no_copy0 : ∀ vs H Q E, ¬ spCopy 0 vs H Q E := fun vs H Q E h => by
  obtain ⟨x, _, al, _⟩ := h
  exact al
theorem copies {f : Addr} {fd : FuncData} (F : Fun K "_law_copy" "_law_copy" s_copy f fd) (b : Binds K fd ["thing"] []) (m : mg "_law_copy" = some (.ref f)) (T : Nm mg) (dict_ : mg "dict" = none) : ∀ n, Cal P w K mg base CX0 n "_law_copy" (spCopy n)
  | 0 => ⟨f, fd, _, none_left no_copy0, m, F.kp, b⟩
  | n + 1 => ⟨f, fd, _, ok_copy F T dict_ (copies F b m T dict_ n), m, F.kp, b⟩
end

end Sn

namespace Sn
open PySem PySem.Spec PyProof.Rows L2 TL
/-! ### the program's relexing, the law's lines -/
structure Nm6 (K : PySem.W.Frag) (mg : Str → Option Value) (C : Addr) (tL tP : PySem.Tok) (aW : Addr) (tS : PySem.Tok) : Prop extends NmJ K mg C tL tP, Nm5 K mg aW tS where
  min : mg "min" = none
  dict_ : mg "dict" = none
def spLineS : Sp := fun vs H Q _ => ∃ (z : Str) (o : Nat), vs = [.str z, .int (o : Int)] ∧ o ≤ (tl z).length ∧ z.length ≤ 1000000 ∧ Q (.int ((lineS (tl z) o : Nat) : Int)) H
/-- the law's end of a line: behind its newline -/
def lineN (l : List Nat) (o : Nat) : Nat := if lineE l o < l.length then lineE l o + 1 else l.length
def spLineN : Sp := fun vs H Q _ => ∃ (z : Str) (o : Nat), vs = [.str z, .int (o : Int)] ∧ o ≤ (tl z).length ∧ z.length ≤ 1000000 ∧ Q (.int ((lineN (tl z) o : Nat) : Int)) H
/-- the text behind an edit -/
def aft (z : Str) (s e : Nat) (n : Str) : List Nat := (tl z).take s ++ (tl n ++ (tl z).drop e)
def spRelexed : Sp := fun vs H Q _ => ∃ (z : Str) (lo ed : Addr) (s e : Nat) (n : Str), vs = [.str z, .ref lo, .ref ed] ∧ LT H lo ((toks (tl z) 0 (tl z).length).map tkV) ∧ H ed = some (.tup [.int (s : Int), .int (e : Int), .str n]) ∧ Fits (tl z) s e (tl n) ∧ (tl z).length ≤ 4000 ∧
  ∀ p q H', Same H H' → H' p = some (.tup [.ref q, .int ((((toks (tl z) 0 (tl z).length).filter (fun x => decide (x.2.1 < lineS (tl z) s))).length : Nat) : Int), .int ((((toks (tl z) 0 (tl z).length).filter (fun x => decide (lineE (tl z) e < x.2.1))).length : Nat) : Int)]) →
    LT H' q ((toks (aft z s e n) 0 (aft z s e n).length).map tkV) → Q (.ref p) H'
section
variable {P : Program} {w : World} {K : PySem.W.Frag} {mg : Str → Option Value} {base : Heap} {f : Addr} {fd : FuncData} {C : Addr} {tL tP : PySem.Tok} {aW : Addr} {tS : PySem.Tok}
abbrev s_line_start : Stmt := topS 9
abbrev N_line_start : List Str := ["text", "offset"]
theorem sc_line_start : FnScope N_line_start ["text", "offset"] (defScope s_line_start) := ⟨rfl, rfl, rfl, by decide +kernel, rfl, by decide +kernel, by decide +kernel⟩
theorem ok_line_start (F : Fun K "line_start" "line_start" s_line_start f fd) : FnOk P w K mg base CX0 1 f fd ["text", "offset"] spLineS := by
  refine F.ok sc_line_start (fun vs H Q E h => ?_) (fun cdv A outer s H vs Q E hr h => ?_)
  · obtain ⟨z, o, rfl, _⟩ := h
    rfl
  obtain ⟨z, o, rfl, ho, hz, q⟩ := h
  refine ⟨_, (pss_one (ps_ret (pe_op op_add (pe_bm PySem.F.plainAttrs_str PySem.F.slot_str_rfind PySem.F.type_str_rfind mt_rfind4 (pv 0) (pa_cons pe_str (pa_cons pe_int (pa_cons (pv 1) pa_nil)))) pe_int))), ?_⟩
  refine ⟨_, rfl, rfl, _, rfl, z, NL, 0, (o : Int), rfl, rfl, ?_⟩
  obtain ⟨b, e1, e2, e3⟩ := rfind_col z 10 o ho
  refine ⟨_, _, rfl, rfl, ?_⟩
  dsimp only
  rw [nl_eq, e1, show b = lineS (tl z) o by unfold lineS; omega]
  exact q
abbrev s_lStart : Stmt := topS 36
abbrev N_lStart : List Str := ["text", "offset", "start", "at"]
theorem sc_lStart : FnScope N_lStart ["text", "offset"] (defScope s_lStart) := ⟨rfl, rfl, rfl, by decide +kernel, rfl, by decide +kernel, by decide +kernel⟩
theorem ok_lStart (F : Fun K "_law_line_start" "_law_line_start" s_lStart f fd) (T : Nm mg) : FnOk P w K mg base CX0 1 f fd ["text", "offset"] spLineS := by
  refine F.ok sc_lStart (fun vs H Q E h => ?_) (fun cdv A outer s H vs Q E hr h => ?_)
  · obtain ⟨z, o, rfl, _⟩ := h
    rfl
  obtain ⟨z, o, rfl, ho, hz, q⟩ := h
  refine ⟨_, (pss_cons (ps_set (i := 2) sc_lStart.nd rfl (Or.inl rfl) pe_int)
    (pss_cons (ps_for PassesOwn.never rfl (pi_range1 (by rfl) T.range (pa_cons (pv 1) pa_nil)) (pg_name (i := 3) sc_lStart.nd rfl (Or.inl rfl)) (pss_one (ps_if (pt_cmpR op_eq (pe_item_str (pv 0) (pv 3) (fun _ _ => rfl)) pe_str (nomark _)) (pss_one (ps_set (i := 2) sc_lStart.nd rfl (Or.inl rfl) (pe_op op_add (pv 3) pe_int))) pss_nil)))
    (pss_one (ps_ret (pv 2))))), ?_⟩
  have el := len_tl z
  refine ⟨_, rfl, (o : Int), rfl, by omega, by omega, for_range (lo := 0) (n := ((o : Nat) : Int).toNat) (fun i σ H' => H' = H ∧ ∃ v, σ = [some (.str z), some (.int (o : Int)), some (.int ((lineS (tl z) i : Nat) : Int)), v]) ⟨rfl, none, rfl⟩ ?_ ?_⟩
  · rintro i σ H' hi ⟨rfl, v, rfl⟩
    have hil : i < (tl z).length := by omega
    have hg := List.getElem?_eq_getElem hil
    generalize (tl z)[i] = c at hg
    obtain ⟨i1, i2, i3, i4⟩ := item_of hg hz
    have ei : (0 : Int) + (i : Nat) = (i : Int) := Int.zero_add _
    rw [ei]
    refine ⟨_, rfl, _, rfl, z, (i : Int), c, rfl, rfl, i1, i2, i3, i4, rfl, _, rfl, ?_⟩
    rw [s_nl]
    have es := lineS_succ hg
    by_cases h10 : c = 10
    · refine iteP (one5.mpr h10) ⟨_, rfl, _, _, rfl, rfl, rfl, some (.int (i : Int)), ?_⟩
      rw [es, if_pos h10]
      rfl
    · refine iteN (fun k => h10 (one5.mp k)) ⟨rfl, some (.int (i : Int)), ?_⟩
      rw [es, if_neg h10]
      rfl
  · rintro σ H' ⟨rfl, v, rfl⟩
    exact ⟨_, rfl, q⟩
abbrev s_lEnd : Stmt := topS 37
abbrev N_lEnd : List Str := ["text", "offset", "at"]
theorem sc_lEnd : FnScope N_lEnd ["text", "offset"] (defScope s_lEnd) := ⟨rfl, rfl, rfl, by decide +kernel, rfl, by decide +kernel, by decide +kernel⟩
theorem ok_lEnd (F : Fun K "_law_line_end" "_law_line_end" s_lEnd f fd) (T : Nm mg) : FnOk P w K mg base CX0 1 f fd ["text", "offset"] spLineN := by
  refine F.ok sc_lEnd (fun vs H Q E h => ?_) (fun cdv A outer s H vs Q E hr h => ?_)
  · obtain ⟨z, o, rfl, _⟩ := h
    rfl
  obtain ⟨z, o, rfl, ho, hz, q⟩ := h
  refine ⟨_, (pss_cons (ps_for PassesOwn.never rfl (pi_range2 (by rfl) T.range (pa_cons (pv 1) (pa_cons (pe_callB call_len_str (by rfl) T.len PySem.boot_len (pa_cons (pv 0) pa_nil)) pa_nil))) (pg_name (i := 2) sc_lEnd.nd rfl (Or.inl rfl)) (pss_one (ps_if (pt_cmpR op_eq (pe_item_str (pv 0) (pv 2) (fun _ _ => rfl)) pe_str (nomark _)) (pss_one (ps_ret (pe_op op_add (pv 2) pe_int))) pss_nil)))
    (pss_one (ps_ret (pe_callB call_len_str (by rfl) T.len PySem.boot_len (pa_cons (pv 0) pa_nil))))), ?_⟩
  have el := len_tl z
  refine ⟨_, rfl, _, rfl, z, rfl, small hz, (o : Int), (z.length : Int), rfl, ⟨by omega, by omega, by omega, by omega⟩, for_range (lo := (o : Int)) (n := ((z.length : Int) - (o : Int)).toNat) (fun i σ H' => H' = H ∧ ∃ v, σ = [some (.str z), some (.int (o : Int)), v] ∧ lineE (tl z) o = lineE (tl z) (o + i)) ⟨rfl, none, rfl, rfl⟩ ?_ ?_⟩
  · rintro i σ H' hi ⟨rfl, v, rfl, hr⟩
    have hil : o + i < (tl z).length := by omega
    have hg := List.getElem?_eq_getElem hil
    generalize (tl z)[o + i] = c at hg
    obtain ⟨i1, i2, i3, i4⟩ := item_of hg hz
    have ei : (o : Int) + (i : Nat) = ((o + i : Nat) : Int) := by omega
    rw [ei]
    refine ⟨_, rfl, _, rfl, z, ((o + i : Nat) : Int), c, rfl, rfl, i1, i2, i3, i4, rfl, _, rfl, ?_⟩
    rw [s_nl]
    by_cases h10 : c = 10
    · refine iteP (one5.mpr h10) ⟨_, rfl, _, _, rfl, rfl, ?_⟩
      have e2 : lineE (tl z) (o + i) = o + i := run_stop hg (by rw [h10]; rfl)
      unfold lineN at q
      rw [hr, e2, if_pos hil] at q
      exact q
    · refine iteN (fun k => h10 (one5.mp k)) ⟨rfl, _, rfl, ?_⟩
      rw [hr]
      exact run_step hg (by simpa using h10)
  · rintro σ H' ⟨rfl, v, rfl, hr⟩
    refine ⟨_, rfl, z, rfl, small hz, ?_⟩
    have e2 : lineE (tl z) (o + ((z.length : Int) - (o : Int)).toNat) = (tl z).length := by
      rw [show o + ((z.length : Int) - (o : Int)).toNat = (tl z).length by omega]
      exact run_end (Nat.le_refl _)
    unfold lineN at q
    rw [hr, e2, if_neg (Nat.lt_irrefl _), ← el] at q
    exact q
end

end Sn

namespace Sn
open PySem PySem.Spec PyProof.Rows L2 TL
theorem LT.cat {H : Hp} {a b : Addr} {xss yss : List (List V)} (h : LT H a xss) (g : LT H b yss) : ∃ xs ys, H a = some (.lst xs) ∧ H b = some (.lst ys) ∧ xs.length = xss.length ∧ ys.length = yss.length ∧ ∀ p, H p = none → LT (upd H p (.lst (xs ++ ys))) p (xss ++ yss) := by
  obtain ⟨rs, h1, h2, h3⟩ := h
  obtain ⟨ts, g1, g2, g3⟩ := g
  refine ⟨_, _, h1, g1, by rw [List.length_map, h2], by rw [List.length_map, g2], fun p np => ⟨rs ++ ts, by rw [upd_same, List.map_append], by rw [List.length_append, List.length_append, h2, g2], fun i r xs k1 k2 => ?_⟩⟩
  by_cases hi : i < rs.length
  · rw [List.getElem?_append_left hi] at k1
    rw [List.getElem?_append_left (by omega)] at k2
    have k := h3 i r xs k1 k2
    rw [upd_ne (ne_of_none k np)]
    exact k
  · rw [List.getElem?_append_right (by omega)] at k1
    rw [List.getElem?_append_right (by omega), ← h2] at k2
    have k := g3 _ r xs k1 k2
    rw [upd_ne (ne_of_none k np)]
    exact k
theorem filter_take {α : Type} {p : α → Bool} {l : List α} {i : Nat} {x : α} (h : l[i]? = some x) : (l.take (i + 1)).filter p = (l.take i).filter p ++ (if p x = true then [x] else []) := by
  rw [List.take_add_one, h, List.filter_append]
  congr 1
  show [x].filter p = _
  by_cases hp : p x = true
  · rw [if_pos hp, List.filter_cons, if_pos hp]
    rfl
  · rw [if_neg hp, List.filter_cons, if_neg hp]
    rfl
/-- the i-th tuple of a list of tuples -/
theorem LT.get {H : Hp} {p : Addr} {ts : List Tok} (h : LT H p (ts.map tkV)) : ∃ rs : List Addr, H p = some (.lst (rs.map V.ref)) ∧ rs.length = ts.length ∧ ∀ (i : Nat) (x : V), (rs.map V.ref)[i]? = some x → ∃ (r : Addr) (t : Tok), x = .ref r ∧ ts[i]? = some t ∧ H r = some (.tup (tkV t)) := by
  obtain ⟨rs, h1, h2, h3⟩ := h
  rw [List.length_map] at h2
  refine ⟨rs, h1, h2, fun i x hx => ?_⟩
  rw [List.getElem?_map] at hx
  cases e : rs[i]? with
  | none => rw [e] at hx; cases hx
  | some r =>
    rw [e] at hx
    have hi : i < ts.length := by
      rw [← h2]
      exact (List.getElem?_eq_some_iff.mp e).1
    have ht := List.getElem?_eq_getElem hi
    exact ⟨r, ts[i], (Option.some.inj hx).symm, ht, h3 i r _ e (by rw [List.getElem?_map, ht]; rfl)⟩
section
variable {P : Program} {w : World} {K : PySem.W.Frag} {mg : Str → Option Value} {base : Heap} {f : Addr} {fd : FuncData} {C : Addr} {tL tP : PySem.Tok} {aW : Addr} {tS : PySem.Tok}
abbrev s_relexed : Stmt := topS 20
abbrev N_relexed : List Str := ["text", "old", "edit", "after", "start", "end", "new", "moved", "first", "last", "before", "between", "behind", "token", "sort", "at", "to"]
theorem sc_relexed : FnScope N_relexed ["text", "old", "edit"] (defScope s_relexed) := ⟨rfl, rfl, rfl, by decide +kernel, rfl, by decide +kernel, by decide +kernel⟩
theorem st_lc1 (x y u : V) (a b c d e f : Option V) : ((((((List.set (L2.start N_relexed [x, y, u]) 3 a).set 4 b).set 5 c).set 6 d).set 7 e).set 8 f) = [some x, some y, some u, a, b, c, d, e, f, none, none, none, none, none, none, none, none] := rfl
theorem st_lc2 (x y u : V) (a b c d e f g h : Option V) : (List.set [some x, some y, some u, a, b, c, d, e, f, none, none, none, none, none, none, none, none] 9 g).set 10 h = [some x, some y, some u, a, b, c, d, e, f, g, h, none, none, none, none, none, none] := rfl
theorem ok_relexed (F : Fun K "relexed" "relexed" s_relexed f fd) (T : Nm6 K mg C tL tP aW tS) (C_apply_edit : Cal P w K mg base (L2.CX P w) 3 "apply_edit" (spEdit C)) (C_line_start : Cal P w K mg base CX0 1 "line_start" spLineS)
    (C_line_end : Cal P w K mg base CX0 1 "line_end" (spRun fun d => d != 10)) (C_tokens_between : Cal P w K mg base CX0 4 "tokens_between" spBetween) : FnOk P w K mg base CX0 5 f fd ["text", "old", "edit"] spRelexed := by
  refine F.ok sc_relexed (fun vs H Q E h => ?_) (fun cdv A outer s H vs Q E hr h => ?_)
  · obtain ⟨z, lo, ed, st, e, n, rfl, _⟩ := h
    rfl
  obtain ⟨z, lo, ed, st, e, n, rfl, lt, hed, fits, hl4, q⟩ := h
  refine ⟨_, (pss_cons (ps_set (i := 3) sc_relexed.nd rfl (Or.inl rfl) (pe_c C_apply_edit hr (by first | decide | omega) passL (pa_cons (pv 0) (pa_cons (pv 2) pa_nil))))
    (pss_cons (ps_asg (pv 2) (pg_tup rfl (pgs_cons (pg_name (i := 4) sc_relexed.nd rfl (Or.inl rfl)) (pgs_cons (pg_name (i := 5) sc_relexed.nd rfl (Or.inl rfl)) (pgs_cons (pg_name (i := 6) sc_relexed.nd rfl (Or.inl rfl)) pgs_nil)))))
    (pss_cons (ps_set (i := 7) sc_relexed.nd rfl (Or.inr rfl) (pe_op op_sub (pe_callB call_len_str (by rfl) T.len PySem.boot_len (pa_cons (pv 6) pa_nil)) (pe_op op_sub (pv 5) (pv 4))))
    (pss_cons (ps_set (i := 8) sc_relexed.nd rfl (Or.inr rfl) (pe_c C_line_start hr (by first | decide | omega) pass0 (pa_cons (pv 0) (pa_cons (pv 4) pa_nil))))
    (pss_cons (ps_set (i := 9) sc_relexed.nd rfl (Or.inr rfl) (pe_c C_line_end hr (by first | decide | omega) pass0 (pa_cons (pv 0) (pa_cons (pv 5) pa_nil))))
    (pss_cons (ps_setLc (i := 10) (own := [(("token" : Str), 13)]) (g := (gName 13)) (tt := _) (by rfl) sc_relexed.nd rfl rfl (sw_true rfl rfl rfl (by decide +kernel)) (pi_list (pv 1)) (blkOk_by (N := N_relexed) (sc := defScope s_relexed) (by decide +kernel)) (fun _ _ _ _ _ => (pg_name (i := 13) sc_relexed.nd rfl (Or.inl rfl))) (fun _ _ _ _ _ => (pts_one (pt_cmpR op_lt (pe_ix (r := rIxT K) ix_tup (pv 13) pe_int (fun _ _ => rfl)) (pv 8) (nomark _)))) (fun _ _ _ _ _ => (pv 13)))
    (pss_cons (ps_set (i := 11) sc_relexed.nd rfl (Or.inl rfl) (pe_c C_tokens_between hr (by first | decide | omega) pass0 (pa_cons (pv 3) (pa_cons (pv 8) (pa_cons (pe_op op_add (pv 9) (pv 7)) pa_nil)))))
    (pss_cons (ps_setLc (i := 12) (own := [(("sort" : Str), 14), (("at" : Str), 15), (("to" : Str), 16)]) (g := (gTup K 3 (gCons (gName 14) (gCons (gName 15) (gCons (gName 16) gNil))))) (tt := _) (by rfl) sc_relexed.nd rfl rfl (sw_true rfl rfl rfl (by decide +kernel)) (pi_list (pv 1)) (blkOk_by (N := N_relexed) (sc := defScope s_relexed) (by decide +kernel)) (fun _ _ _ _ _ => (pg_tup rfl (pgs_cons (pg_name (i := 14) sc_relexed.nd rfl (Or.inl rfl)) (pgs_cons (pg_name (i := 15) sc_relexed.nd rfl (Or.inl rfl)) (pgs_cons (pg_name (i := 16) sc_relexed.nd rfl (Or.inl rfl)) pgs_nil))))) (fun _ _ _ _ _ => (pts_one (pt_cmpR op_gt (pv 15) (pv 9) (nomark _)))) (fun _ _ _ _ _ => (pe_tup (pa_cons (pv 14) (pa_cons (pe_op op_add (pv 15) (pv 7)) (pa_cons (pe_op op_add (pv 16) (pv 7)) pa_nil))))))
    (pss_one (ps_ret (pe_tup (pa_cons (pe_op op_cat (pe_op op_cat (pv 10) (pv 11)) (pv 12)) (pa_cons (pe_callB call_len_seq (by rfl) T.len PySem.boot_len (pa_cons (pv 10) pa_nil)) (pa_cons (pe_callB call_len_seq (by rfl) T.len PySem.boot_len (pa_cons (pv 12) pa_nil)) pa_nil)))))))))))))), ?_⟩
  have zl := len_tl z
  have nl' := len_tl n
  obtain ⟨f1, f2, f3, f4, f5⟩ := id fits
  have hj := joint_one (tl z) st e (tl n)
  rw [if_pos fits, Int.toNat_natCast, Int.toNat_natCast] at hj
  have tlen := toks_len (l := tl z) (a := 0) (e := (tl z).length)
  obtain ⟨x1, x2, x3, x4, x5⟩ := relex (l := tl z) (n := tl n) (s := st) (e := e) (by omega) (by omega)
  have J1 := run_ge (fun d => d != 10) (tl z) e
  have J2 := run_le (p := fun d => d != 10) (l := tl z) (i := e) (by omega)
  -- after
  refine ⟨_, rfl, _, rfl, z, ed, (st : Int), (e : Int), n, rfl, hed, by omega, by omega, fun r H1 hr1 s1 => ?_, fun H' k _ => ?_⟩
  rotate_left
  · rw [hj] at k
    cases k
  have er : r = aft z st e n := by
    rw [hj] at hr1
    exact (Option.some.inj hr1).symm
  subst er
  have hed1 := s1 _ _ hed
  have lt1 := lt.same s1
  refine ⟨_, rfl, ed, _, rfl, .inl (.inl hed1), rfl, _, _, rfl, _, _, rfl, _, _, rfl, rfl, ?_⟩
  refine ⟨_, rfl, n, rfl, small (by omega), _, rfl, _, rfl, _, _, rfl, rfl, _, _, rfl, rfl, ?_⟩
  dsimp only
  generalize hm : (n.length : Int) - ((e : Int) - (st : Int)) = m
  refine ⟨_, rfl, _, rfl, z, st, rfl, by omega, by omega, ?_⟩
  refine ⟨_, rfl, _, rfl, z, e, rfl, by omega, by omega, ?_⟩
  rw [st_lc1]
  -- before
  obtain ⟨rs, hlo, hrl, hrs⟩ := lt1.get
  refine ⟨_, rfl, lo, rfl, ⟨_, .inl (.inl hlo)⟩, fun D nD => ?_⟩
  refine lc_list (K := K) (a := lo) (xs := rs.map V.ref) (fun i H' => Same H1 H' ∧ LT H' D ((((toks (tl z) 0 (tl z).length).take i).filter (fun x => decide (x.2.1 < lineS (tl z) st))).map tkV))
    ⟨same_new nD, by rw [List.take_zero]; exact ⟨[], upd_same, rfl, fun _ _ _ h _ => by simp at h⟩⟩ (fun i H' _ h => h.1.seq (.inl (.inl hlo))) ?_ ?_
  · rintro i x H' hi ⟨sm, ltD⟩
    obtain ⟨r, t, rfl, ht, hrt⟩ := hrs i x hi
    have hr' := sm _ _ hrt
    refine ⟨rfl, ?_⟩
    have ft := filter_take (p := fun x : Tok => decide (x.2.1 < lineS (tl z) st)) ht
    refine ⟨_, rfl, r, _, 1, _, rfl, rfl, .inl (.inl hr'), rfl, _, rfl, _, _, rfl, rfl, _, rfl, ite2 (fun c => ?_) (fun c => ?_)⟩
    · have c : (t.2.1 : Int) < ((lineS (tl z) st : Nat) : Int) := of_decide_eq_true c
      obtain ⟨ys, k1, k2, k3⟩ := ltD.push hr'
      have yl : ys.length ≤ 4000 := by
        rw [k2, List.length_map]
        exact Nat.le_trans (List.length_filter_le _ _) (by rw [List.length_take]; omega)
      refine ⟨_, rfl, ys, k1, Nat.lt_of_le_of_lt yl (by decide), fun b o eb => ?_, ?_⟩
      · rw [upd_ne (ne_of_none eb nD)]
        exact sm _ _ eb
      · rw [ft, if_pos (decide_eq_true (by omega)), List.map_append]
        exact k3
    · have c : ¬ (t.2.1 : Int) < ((lineS (tl z) st : Nat) : Int) := fun k => c (decide_eq_true k)
      refine ⟨sm, ?_⟩
      rw [ft, if_neg (by rw [decide_eq_false (by omega)]; exact Bool.false_ne_true), List.append_nil]
      exact ltD
  rintro H2 ⟨s2, ltB⟩
  rw [List.length_map, hrl, List.take_length] at ltB
  -- between
  refine ⟨_, rfl, _, rfl, _, rfl, _, rfl, _, _, rfl, rfl, ?_⟩
  have eJ : ((run (fun d => d != 10) (tl z) e : Nat) : Int) + m = ((lineE (tl z) e - e + (st + (tl n).length) : Nat) : Int) := by
    have : lineE (tl z) e = run (fun d => d != 10) (tl z) e := rfl
    omega
  have afl : (aft z st e n).length ≤ 4000 := by
    unfold aft
    rw [List.length_append, List.length_append, List.length_take, List.length_drop]
    omega
  have ezr : tl (strL (aft z st e n)) = aft z st e n := rfl
  have zrl : (strL (aft z st e n)).length ≤ 1000000 := by
    rw [len_tl, ezr]
    omega
  dsimp only
  rw [eJ]
  refine ⟨strL (aft z st e n), lineS (tl z) st, _, rfl, x5, zrl, fun B H3 s3 nB ltC => ?_⟩
  rw [ezr] at ltC
  have ltB3 := ltB.same s3
  rw [st_lc2]
  -- behind
  have hlo3 := s3 _ _ (s2 _ _ hlo)
  refine ⟨_, rfl, lo, rfl, ⟨_, .inl (.inl hlo3)⟩, fun D2 nD2 => ?_⟩
  refine lc_list (K := K) (a := lo) (xs := rs.map V.ref) (fun i H' => Same H3 H' ∧ LT H' D2 (((((toks (tl z) 0 (tl z).length).take i).filter (fun x => decide (lineE (tl z) e < x.2.1))).map (mv e (st + (tl n).length))).map tkV))
    ⟨same_new nD2, by rw [List.take_zero]; exact ⟨[], upd_same, rfl, fun _ _ _ h _ => by simp at h⟩⟩ (fun i H' _ h => h.1.seq (.inl (.inl hlo3))) ?_ ?_
  · rintro i x H' hi ⟨sm, ltD⟩
    obtain ⟨r, t, rfl, ht, hrt⟩ := hrs i x hi
    have hr' := sm _ _ (s3 _ _ (s2 _ _ hrt))
    have ft := filter_take (p := fun x : Tok => decide (lineE (tl z) e < x.2.1)) ht
    refine ⟨r, _, rfl, .inl (.inl hr'), rfl, _, _, rfl, _, _, rfl, _, _, rfl, rfl, ?_⟩
    refine ⟨by simp [wipe, L2.start], ?_⟩
    refine ⟨_, rfl, _, rfl, _, _, rfl, rfl, _, rfl, ite2 (fun c => ?_) (fun c => ?_)⟩
    · have c : ((lineE (tl z) e : Nat) : Int) < (t.2.1 : Int) := of_decide_eq_true c
      have J1 : e ≤ lineE (tl z) e := J1
      have tin := toks_in (l := tl z) (e := (tl z).length) (Nat.le_refl _) (tl z).length 0 (by omega) t (List.mem_of_getElem? ht)
      refine ⟨_, rfl, _, rfl, _, rfl, _, _, rfl, rfl, _, rfl, _, rfl, _, _, rfl, rfl, (by show 3 ≤ sizeLine; decide), fun p np => ?_⟩
      have em : ([.str t.1, .int ((t.2.1 : Int) + m), .int ((t.2.2 : Int) + m)] : List V) = tkV (mv e (st + (tl n).length) t) := by
        show _ = [V.str t.1, V.int ((t.2.1 - e + (st + (tl n).length) : Nat) : Int), V.int ((t.2.2 - e + (st + (tl n).length) : Nat) : Int)]
        rw [show (t.2.1 : Int) + m = ((t.2.1 - e + (st + (tl n).length) : Nat) : Int) by omega, show (t.2.2 : Int) + m = ((t.2.2 - e + (st + (tl n).length) : Nat) : Int) by omega]
      have sp : Same H' (upd H' p (.tup [.str t.1, .int ((t.2.1 : Int) + m), .int ((t.2.2 : Int) + m)])) := same_new np
      obtain ⟨ys, k1, k2, k3⟩ := (ltD.same sp).push (r := p) (xs := tkV (mv e (st + (tl n).length) t)) (by rw [upd_same, em])
      have yl : ys.length ≤ 4000 := by
        rw [k2, List.length_map, List.length_map]
        exact Nat.le_trans (List.length_filter_le _ _) (by rw [List.length_take]; omega)
      refine ⟨ys, k1, Nat.lt_of_le_of_lt yl (by decide), fun b o eb => ?_, ?_⟩
      · rw [upd_ne (ne_of_none eb nD2)]
        exact sp _ _ (sm _ _ eb)
      · rw [ft, if_pos (decide_eq_true (by omega)), List.map_append, List.map_append]
        exact k3
    · have c : ¬ ((lineE (tl z) e : Nat) : Int) < (t.2.1 : Int) := fun k => c (decide_eq_true k)
      refine ⟨sm, ?_⟩
      rw [ft, if_neg (by rw [decide_eq_false (by omega)]; exact Bool.false_ne_true), List.append_nil]
      exact ltD
  rintro H4 ⟨s4, ltE⟩
  rw [List.length_map, hrl, List.take_length] at ltE
  have ltB4 := ltB3.same s4
  have ltC4 := ltC.same s4
  -- the whole
  have l1 : ((toks (tl z) 0 (tl z).length).filter (fun x => decide (x.2.1 < lineS (tl z) st))).length ≤ 4000 := Nat.le_trans (List.length_filter_le _ _) (by omega)
  have l2 := toks_len (l := aft z st e n) (a := lineS (tl z) st) (e := lineE (tl z) e - e + (st + (tl n).length))
  have l3 : ((toks (tl z) 0 (tl z).length).filter (fun x => decide (lineE (tl z) e < x.2.1))).length ≤ 4000 := Nat.le_trans (List.length_filter_le _ _) (by omega)
  have x5' : lineE (tl z) e - e + (st + (tl n).length) ≤ (aft z st e n).length := x5
  obtain ⟨xs, ys, k1, k2, k3, k4, k5⟩ := ltB4.cat ltC4
  rw [List.length_map] at k3 k4
  refine ⟨_, rfl, _, rfl, D, B, xs, ys, rfl, rfl, k1, k2, Nat.le_trans (show xs.length + ys.length ≤ 10000 by omega) (by decide), fun p np => ?_⟩
  have lt5 := k5 p np
  have s5 : Same H4 (upd H4 p (.lst (xs ++ ys))) := same_new np
  have ltE5 := ltE.same s5
  have ltB5 := ltB4.same s5
  generalize upd H4 p (.lst (xs ++ ys)) = H5 at lt5 s5 ltE5 ltB5 ⊢
  obtain ⟨xs2, ys2, m1, m2, m3, m4, m5⟩ := lt5.cat ltE5
  rw [List.length_append, List.length_map, List.length_map] at m3
  rw [List.length_map, List.length_map] at m4
  refine ⟨_, rfl, p, D2, xs2, ys2, rfl, rfl, m1, m2, Nat.le_trans (show xs2.length + ys2.length ≤ 20000 by omega) (by decide), fun p2 np2 => ?_⟩
  have lt6 := m5 p2 np2
  have s6 : Same H5 (upd H5 p2 (.lst (xs2 ++ ys2))) := same_new np2
  have ltE6 := ltE5.same s6
  have ltB6 := ltB5.same s6
  generalize upd H5 p2 (.lst (xs2 ++ ys2)) = H6 at lt6 s6 ltE6 ltB6 ⊢
  obtain ⟨rb, hb1, hb2, _⟩ := id ltB6
  obtain ⟨re, he1, he2, _⟩ := id ltE6
  refine ⟨_, rfl, D, _, rfl, .inl (.inl (.inl hb1)), _, rfl, D2, _, rfl, .inl (.inl (.inl he1)), (by show 3 ≤ sizeLine; decide), fun p3 np3 => ?_⟩
  refine q p3 p2 _ (((((s1.trans s2).trans s3).trans s4).trans (s5.trans s6)).trans (same_new np3)) ?_ ?_
  · rw [upd_same, List.length_map, List.length_map, hb2, he2, List.length_map, List.length_map, List.length_map]
  · have lt7 := lt6.same (same_new (o := .tup [.ref p2, .int (((rb.map V.ref).length : Nat) : Int), .int (((re.map V.ref).length : Nat) : Int)]) np3)
    have ex : toks (aft z st e n) 0 (aft z st e n).length = _ := x1
    rw [ex, List.map_append, List.map_append, ← List.append_assoc]
    exact lt7
end

end Sn

namespace Sn
open PySem PySem.Spec PyProof.Rows L2 TL
/-! ### the law of the relexing -/
theorem LT.al3 {H : Hp} {p q : Addr} {xss : List (List V)} (h : LT H p xss) (g : LT H q xss) (hl : xss.length ≤ 1000000) (hx : ∀ xs ∈ xss, xs.all sca = true ∧ xs.length ≤ 1000000) : Al H 3 (.ref p) (.ref q) := by
  obtain ⟨rs, h1, h2, h3⟩ := h
  obtain ⟨ts, g1, g2, g3⟩ := g
  refine Al.lst h1 g1 (by rw [List.length_map, List.length_map, h2, g2]) (by rw [List.length_map, h2]; exact hl) fun i u v a b => ?_
  rw [List.getElem?_map] at a b
  cases ea : rs[i]? with
  | none => rw [ea] at a; cases a
  | some r =>
    cases eb : ts[i]? with
    | none => rw [eb] at b; cases b
    | some t =>
      rw [ea] at a
      rw [eb] at b
      have e1 : u = V.ref r := (Option.some.inj a).symm
      have e2 : v = V.ref t := (Option.some.inj b).symm
      subst e1 e2
      have hi : i < xss.length := by
        rw [← h2]
        exact (List.getElem?_eq_some_iff.mp ea).1
      have k1 := h3 i r xss[i] ea (List.getElem?_eq_getElem hi)
      have k2 := g3 i t xss[i] eb (List.getElem?_eq_getElem hi)
      obtain ⟨s1, s2⟩ := hx _ (List.getElem_mem hi)
      exact Al.tup k1 k2 rfl s2 (al_eq (n := 0) s1)
/-- a list of as many items as the filtered tokens -/
def Cnt (H H' : Hp) (D : Addr) (k : Nat) : Prop := Same H H' ∧ ∃ ys : List V, H' D = some (.lst ys) ∧ ys.length = k
theorem Cnt.push {H H' : Hp} {D : Addr} {k : Nat} {x : V} (h : Cnt H H' D k) (nD : H D = none) (hk : k ≤ 4000) : ∃ acc, H' D = some (.lst acc) ∧ acc.length < sizeLine ∧ Cnt H (upd H' D (.lst (acc ++ [x]))) D (k + 1) := by
  obtain ⟨sm, ys, h1, h2⟩ := h
  refine ⟨ys, h1, Nat.lt_of_le_of_lt (by rw [h2]; exact hk) (by decide), fun b o eb => ?_, _, upd_same, by simp [h2]⟩
  rw [upd_ne (ne_of_none eb nD)]
  exact sm _ _ eb
theorem aft_len {z n : Str} {s e : Nat} (h : s ≤ e) (he : e ≤ (tl z).length) : (aft z s e n).length ≤ (tl z).length + (tl n).length := by
  unfold aft
  rw [List.length_append, List.length_append, List.length_take, List.length_drop]
  omega
theorem aft_ok {z n : Str} {s e : Nat} (hz : OkT z) (hn : OkT n) : ∀ c ∈ aft z s e n, okc c = true := fun c hc => by
  rcases List.mem_append.mp hc with hc | hc
  · exact hz c (List.mem_of_mem_take hc)
  · rcases List.mem_append.mp hc with hc | hc
    · exact hn c hc
    · exact hz c (List.mem_of_mem_drop hc)
section
variable {P : Program} {w : World} {K : PySem.W.Frag} {mg : Str → Option Value} {base : Heap} {f : Addr} {fd : FuncData} {C : Addr} {tL tP : PySem.Tok} {aW : Addr} {tS : PySem.Tok}
abbrev s_law : Stmt := topS 38
abbrev N_law : List Str := ["script", "tape", "text", "k", "start", "end", "new", "old", "before", "first", "last", "result", "kept", "behind", "expected", "token"]
theorem sc_law : FnScope N_law ["script"] (defScope s_law) := ⟨rfl, rfl, rfl, by decide +kernel, rfl, by decide +kernel, by decide +kernel⟩
theorem ok_law (F : Fun K "law" "law" s_law f fd) (T : Nm6 K mg C tL tP aW tS) (C_law_tape : Cal P w K mg base CX0 1 "_law_tape" (spTape K)) (C_law_take : Cal P w K mg base CX0 1 "_law_take" spTake) (C_law_any_text : Cal P w K mg base CX0 3 "_law_any_text" spAny)
    (C_law_snippet : Cal P w K mg base CX0 2 "_law_snippet" spSnippet) (C_law_same : Cal P w K mg base CX0 8 "_law_same" (spSame 4)) (C_law_copy : Cal P w K mg base CX0 4 "_law_copy" (spCopy 4)) (C_law_tokens : Cal P w K mg base CX0 4 "_law_tokens" spTokens)
    (C_law_line_start : Cal P w K mg base CX0 1 "_law_line_start" spLineS) (C_law_line_end : Cal P w K mg base CX0 1 "_law_line_end" spLineN) (C_relexed : Cal P w K mg base CX0 5 "relexed" spRelexed) :
    FnOk P w K mg base CX0 9 f fd ["script"] (spLaw K) := by
  refine F.ok sc_law (fun vs H Q E h => ?_) (fun cdv A outer s H vs Q E hr h => ?_)
  · obtain ⟨a, ns, rfl, _⟩ := h
    rfl
  obtain ⟨a, ns, rfl, hS, h63, q⟩ := h
  refine ⟨_, (pss_cons (ps_set (i := 1) sc_law.nd rfl (Or.inl rfl) (pe_c C_law_tape hr (by first | decide | omega) pass0 (pa_cons (pv 0) pa_nil)))
    (pss_cons (ps_set (i := 2) sc_law.nd rfl (Or.inl rfl) (pe_c C_law_any_text hr (by first | decide | omega) pass0 (pa_cons (pv 1) (pa_cons pe_int pa_nil))))
    (pss_cons (ps_for PassesOwn.never rfl (pi_range1 (by rfl) T.range (pa_cons (pe_op op_add pe_int (pe_c C_law_take hr (by first | decide | omega) pass0 (pa_cons (pv 1) (pa_cons pe_int pa_nil)))) pa_nil)) (pg_name (i := 3) sc_law.nd rfl (Or.inl rfl)) (pss_cons (ps_set (i := 4) sc_law.nd rfl (Or.inl rfl) (pe_c C_law_take hr (by first | decide | omega) pass0 (pa_cons (pv 1) (pa_cons (pe_op op_add (pe_callB call_len_str (by rfl) T.len PySem.boot_len (pa_cons (pv 2) pa_nil)) pe_int) pa_nil))))
    (pss_cons (ps_set (i := 5) sc_law.nd rfl (Or.inl rfl) (pe_callB (call_min2 rfl) (by rfl) T.min (by decide +kernel) (pa_cons (pe_callB call_len_str (by rfl) T.len PySem.boot_len (pa_cons (pv 2) pa_nil)) (pa_cons (pe_op op_add (pv 4) (pe_c C_law_take hr (by first | decide | omega) pass0 (pa_cons (pv 1) (pa_cons pe_int pa_nil)))) pa_nil))))
    (pss_cons (ps_set (i := 6) sc_law.nd rfl (Or.inl rfl) (pe_c C_law_snippet hr (by first | decide | omega) pass0 (pa_cons (pv 1) pa_nil)))
    (pss_cons (ps_set (i := 7) sc_law.nd rfl (Or.inl rfl) (pe_c C_law_tokens hr (by first | decide | omega) pass0 (pa_cons (pv 2) pa_nil)))
    (pss_cons (ps_set (i := 8) sc_law.nd rfl (Or.inl rfl) (pe_c C_law_copy hr (by first | decide | omega) pass0 (pa_cons (pv 7) pa_nil)))
    (pss_cons (ps_set (i := 9) sc_law.nd rfl (Or.inr rfl) (pe_c C_law_line_start hr (by first | decide | omega) pass0 (pa_cons (pv 2) (pa_cons (pv 4) pa_nil))))
    (pss_cons (ps_set (i := 10) sc_law.nd rfl (Or.inr rfl) (pe_c C_law_line_end hr (by first | decide | omega) pass0 (pa_cons (pv 2) (pa_cons (pv 5) pa_nil))))
    (pss_cons (ps_set (i := 11) sc_law.nd rfl (Or.inl rfl) (pe_op op_add_str (pe_op op_add_str (pe_slice sl_str (pv 2) po_none (po_some (pv 4))) (pv 6)) (pe_slice sl_str (pv 2) (po_some (pv 5)) po_none)))
    (pss_cons (ps_set (i := 12) sc_law.nd rfl (Or.inl rfl) (pe_callB call_len_seq (by rfl) T.len PySem.boot_len (pa_cons (pe_lc (own := [(("token" : Str), 15)]) (g := (gName 15)) (tt := _) rfl sc_law.nd (pi_list (pv 7)) (blkOk_by (N := N_law) (sc := defScope s_law) (by decide +kernel)) (fun _ _ _ _ _ => (pg_name (i := 15) sc_law.nd rfl (Or.inl rfl))) (fun _ _ _ _ _ => (pts_one (pt_cmpR op_le (pe_ix (r := rIxT K) ix_tup (pv 15) pe_int (fun _ _ => rfl)) (pv 9) (nomark _)))) (fun _ _ _ _ _ => (pv 15))) pa_nil)))
    (pss_cons (ps_set (i := 13) sc_law.nd rfl (Or.inl rfl) (pe_callB call_len_seq (by rfl) T.len PySem.boot_len (pa_cons (pe_lc (own := [(("token" : Str), 15)]) (g := (gName 15)) (tt := _) rfl sc_law.nd (pi_list (pv 7)) (blkOk_by (N := N_law) (sc := defScope s_law) (by decide +kernel)) (fun _ _ _ _ _ => (pg_name (i := 15) sc_law.nd rfl (Or.inl rfl))) (fun _ _ _ _ _ => (pts_one (pt_cmpR op_ge (pe_ix (r := rIxT K) ix_tup (pv 15) pe_int (fun _ _ => rfl)) (pv 10) (nomark _)))) (fun _ _ _ _ _ => (pv 15))) pa_nil)))
    (pss_cons (ps_set (i := 14) sc_law.nd rfl (Or.inl rfl) (pe_tup (pa_cons (pe_c C_law_tokens hr (by first | decide | omega) pass0 (pa_cons (pv 11) pa_nil)) (pa_cons (pv 12) (pa_cons (pv 13) pa_nil)))))
    (pss_cons (ps_if (PW.pt (pw_or (pt_not (pt_val (pe_c C_law_same hr (by first | decide | omega) pass0 (pa_cons (pe_c C_relexed hr (by first | decide | omega) pass0 (pa_cons (pv 2) (pa_cons (pv 7) (pa_cons (pe_tup (pa_cons (pv 4) (pa_cons (pv 5) (pa_cons (pv 6) pa_nil)))) pa_nil)))) (pa_cons (pv 14) pa_nil))))) (pw_or1 (pt_not (pt_val (pe_c C_law_same hr (by first | decide | omega) pass0 (pa_cons (pv 7) (pa_cons (pv 8) pa_nil)))))))) (pss_one (ps_ret pe_bl)) pss_nil)
    (pss_one (ps_set (i := 2) sc_law.nd rfl (Or.inl rfl) (pv 11))))))))))))))))
    (pss_one (ps_ret pe_bl))))), ?_⟩
  refine ⟨_, rfl, a, ns, rfl, hS, h63, fun t c H1 s1 nt nc tp1 => ?_⟩
  refine ⟨_, rfl, t, c, 22, rfl, tp1, by omega, fun z0 H2 oz0 lz0 b2 tp2 => ?_⟩
  refine ⟨_, rfl, t, c, 4, rfl, tp2, by decide, by decide, fun r0 H3 r00 r01 b3 tp3 => ⟨_, _, rfl, rfl, ?_⟩⟩
  refine ⟨_, rfl, by omega, by omega, for_range (lo := 0) (n := (1 + r0).toNat) (fun i σ H' => ∃ z v3 v4 v5 v6 v7 v8 v9 v10 v11 v12 v13 v14, σ = [some (.ref a), some (.ref t), some (.str z), v3, v4, v5, v6, v7, v8, v9, v10, v11, v12, v13, v14, none] ∧ OkT z ∧ z.length ≤ 990 + 45 * i ∧ Tp H' t c)
    ⟨z0, none, none, none, none, none, none, none, none, none, none, none, none, rfl, oz0, by omega, tp3⟩ ?_ (fun σ H' _ => q H')⟩
  rintro i σ H4 hi ⟨z, v3, v4, v5, v6, v7, v8, v9, v10, v11, v12, v13, v14, rfl, oz, lz, tp4⟩
  have hi4 : i < 4 := by omega
  have hzl := len_tl z
  -- start, end, new
  refine ⟨_, rfl, _, rfl, z, rfl, small (by omega), _, _, rfl, rfl, t, c, _, rfl, tp4, by omega, by omega, fun st H5 st0 st1 b5 tp5 => ?_⟩
  refine ⟨_, rfl, z, rfl, small (by omega), _, rfl, _, rfl, t, c, 12, rfl, tp5, by decide, by decide, fun r H6 h0 h1 b6 tp6 => ⟨_, _, rfl, rfl, _, _, rfl, ?_⟩⟩

  generalize hen : (if st + r < (z.length : Int) then st + r else (z.length : Int)) = en
  have en0 : st ≤ en := by rw [← hen]; split <;> omega
  have en1 : en ≤ (z.length : Int) := by rw [← hen]; split <;> omega
  clear hen
  obtain ⟨s, rfl⟩ := nat_of st0
  obtain ⟨e, rfl⟩ := nat_of (o := en) (by omega)
  have hse : s ≤ e := by omega
  have hez : e ≤ (tl z).length := by omega
  refine ⟨_, rfl, t, c, rfl, tp6, fun n H7 on ln b7 tp7 => ?_⟩
  have hnl := len_tl n
  -- old, before, first, last
  refine ⟨_, rfl, z, rfl, by omega, fun p H8 s8 np lt8 => ?_⟩
  have tlen := toks_len (l := tl z) (a := 0) (e := (tl z).length)
  have alp := LT.al lt8 lt8 (by rw [List.length_map]; omega) (tkV_sca _)
  refine ⟨_, rfl, .ref p, rfl, alp, fun y H9 s9 al9 => ?_⟩
  have aly := al9 (fun _ => False) (fun _ k => k.elim) (.of alp)
  clear al9
  have tp9 := (tp7.same s8).same s9
  have lt9 := lt8.same s9
  refine ⟨_, rfl, _, rfl, z, s, rfl, by omega, by omega, ?_⟩
  refine ⟨_, rfl, _, rfl, z, e, rfl, by omega, by omega, ?_⟩
  -- result
  have e1 : cutS z none (some (s : Int)) ++ n ++ cutS z (some (e : Int)) none = strL (aft z s e n) := ext_tl (by
    rw [tl_append, tl_append, tl_cut_to, tl_cut_from, List.append_assoc] <;> rfl)
  have lc1 : (cutS z none (some (s : Int))).length ≤ 4000 := Nat.le_trans (cutS_length _ _ _) (by omega)
  have lc2 : (cutS z (some (e : Int)) none).length ≤ 4000 := Nat.le_trans (cutS_length _ _ _) (by omega)
  refine ⟨_, rfl, _, rfl, _, rfl, z, rfl, small (by omega), _, rfl, _, _, rfl, rfl, small (by omega), _, rfl, _, rfl, _, rfl, z, rfl, small (by omega), _, _, rfl, rfl, ?_, ?_⟩
  · refine small ?_
    rw [len_tl (_ ++ _), tl_append, List.length_append, ← len_tl, ← len_tl]
    omega
  dsimp only
  rw [e1]
  -- kept
  obtain ⟨rs, hlo, hrl, hrs⟩ := lt9.get
  have tn : ∀ (i : Nat) (f : Tok → Bool), (((toks (tl z) 0 (tl z).length).take i).filter f).length ≤ 4000 := fun i f =>
    Nat.le_trans (List.length_filter_le _ _) (by rw [List.length_take]; omega)
  refine ⟨_, rfl, p, rfl, ⟨_, .inl (.inl hlo)⟩, fun D nD => ?_⟩
  refine lc_list (K := K) (a := p) (xs := rs.map V.ref) (fun i H' => Cnt H9 H' D (((toks (tl z) 0 (tl z).length).take i).filter (fun x => decide (x.2.2 ≤ lineS (tl z) s))).length)
    ⟨same_new nD, [], upd_same, by rw [List.take_zero]; rfl⟩ (fun i H' _ h => h.1.seq (.inl (.inl hlo))) ?_ ?_
  · rintro i x H' hi cn
    obtain ⟨r, tk, rfl, ht, hrt⟩ := hrs i x hi
    have hr' := cn.1 _ _ hrt
    refine ⟨rfl, ?_⟩
    have ft := filter_take (p := fun x : Tok => decide (x.2.2 ≤ lineS (tl z) s)) ht
    refine ⟨_, rfl, r, _, 2, _, rfl, rfl, .inl (.inl hr'), rfl, _, rfl, _, _, rfl, rfl, _, rfl, ite2 (fun c => ?_) (fun c => ?_)⟩
    · have c : (tk.2.2 : Int) ≤ ((lineS (tl z) s : Nat) : Int) := of_decide_eq_true c
      obtain ⟨ys, k1, k2, k3⟩ := cn.push (x := .ref r) nD (tn _ _)
      refine ⟨_, rfl, ys, k1, k2, ?_⟩
      rw [ft, if_pos (decide_eq_true (by omega)), List.length_append]
      exact k3
    · have c : ¬ (tk.2.2 : Int) ≤ ((lineS (tl z) s : Nat) : Int) := fun k => c (decide_eq_true k)
      rw [ft, if_neg (by rw [decide_eq_false (by omega)]; exact Bool.false_ne_true), List.append_nil]
      exact cn
  rintro H10 ⟨s10, ys, hD, yl⟩
  rw [List.length_map, hrl, List.take_length] at yl
  refine ⟨D, ys, rfl, .inl (.inl (.inl hD)), ?_⟩
  -- behind
  have hlo10 := s10 _ _ hlo
  refine ⟨_, rfl, p, rfl, ⟨_, .inl (.inl hlo10)⟩, fun D2 nD2 => ?_⟩
  refine lc_list (K := K) (a := p) (xs := rs.map V.ref) (fun i H' => Cnt H10 H' D2 (((toks (tl z) 0 (tl z).length).take i).filter (fun x => decide (lineN (tl z) e ≤ x.2.1))).length)
    ⟨same_new nD2, [], upd_same, by rw [List.take_zero]; rfl⟩ (fun i H' _ h => h.1.seq (.inl (.inl hlo10))) ?_ ?_
  · rintro i x H' hi cn
    obtain ⟨r, tk, rfl, ht, hrt⟩ := hrs i x hi
    have hr' := cn.1 _ _ (s10 _ _ hrt)
    refine ⟨rfl, ?_⟩
    have ft := filter_take (p := fun x : Tok => decide (lineN (tl z) e ≤ x.2.1)) ht
    refine ⟨_, rfl, r, _, 1, _, rfl, rfl, .inl (.inl hr'), rfl, _, rfl, _, _, rfl, rfl, _, rfl, ite2 (fun c => ?_) (fun c => ?_)⟩
    · have c : (tk.2.1 : Int) ≥ ((lineN (tl z) e : Nat) : Int) := of_decide_eq_true c
      obtain ⟨ys, k1, k2, k3⟩ := cn.push (x := .ref r) nD2 (tn _ _)
      refine ⟨_, rfl, ys, k1, k2, ?_⟩
      rw [ft, if_pos (decide_eq_true (by omega)), List.length_append]
      exact k3
    · have c : ¬ (tk.2.1 : Int) ≥ ((lineN (tl z) e : Nat) : Int) := fun k => c (decide_eq_true k)
      rw [ft, if_neg (by rw [decide_eq_false (by omega)]; exact Bool.false_ne_true), List.append_nil]
      exact cn
  rintro H11 ⟨s11, ys2, hD2, yl2⟩
  rw [List.length_map, hrl, List.take_length] at yl2
  refine ⟨D2, ys2, rfl, .inl (.inl (.inl hD2)), ?_⟩
  -- expected
  obtain ⟨x1, x2, x3, x4, x5⟩ := relex (l := tl z) (n := tl n) (s := s) (e := e) hse hez
  have afl : (aft z s e n).length ≤ (tl z).length + (tl n).length := aft_len hse hez
  have ezr : tl (strL (aft z s e n)) = aft z s e n := rfl
  have zrl : (strL (aft z s e n)).length ≤ 1000000 := by
    rw [len_tl, ezr]
    omega
  refine ⟨_, rfl, strL (aft z s e n), rfl, zrl, fun B H12 s12 nB ltB => ?_⟩
  rw [ezr] at ltB
  refine ⟨_, rfl, _, rfl, (by show 3 ≤ sizeLine; decide), fun E nE => ?_⟩
  rw [yl, yl2, ← x2, show ((toks (tl z) 0 (tl z).length).filter (fun x => decide (lineN (tl z) e ≤ x.2.1))).length = _ from x3.symm]
  have s13 := same_new (o := .tup [.ref B, .int (((((toks (tl z) 0 (tl z).length).filter (fun x => decide (x.2.1 < lineS (tl z) s))).length : Nat)) : Int), .int (((((toks (tl z) 0 (tl z).length).filter (fun x => decide (lineE (tl z) e < x.2.1))).length : Nat)) : Int)]) nE
  generalize hk1 : (((((toks (tl z) 0 (tl z).length).filter (fun x => decide (x.2.1 < lineS (tl z) s))).length : Nat)) : Int) = n1 at s13 ⊢
  generalize hk2 : (((((toks (tl z) 0 (tl z).length).filter (fun x => decide (lineE (tl z) e < x.2.1))).length : Nat)) : Int) = n2 at s13 ⊢
  have hE : upd H12 E (.tup [.ref B, .int n1, .int n2]) E = some (.tup [.ref B, .int n1, .int n2]) := upd_same
  have ltB13 := ltB.same s13
  have s9_13 := ((s10.trans s11).trans s12).trans s13
  generalize upd H12 E (.tup [.ref B, .int n1, .int n2]) = H13 at s13 hE ltB13 s9_13 ⊢
  have lt13 := lt9.same s9_13
  have tp13 := tp9.same s9_13
  have aly13 := aly.al.same s9_13
  -- relexed
  refine ⟨_, rfl, _, rfl, _, rfl, _, rfl, _, rfl, (by show 3 ≤ sizeLine; decide), fun d nd => ?_⟩
  have s14 := same_new (o := .tup [.int (s : Int), .int (e : Int), .str n]) nd
  refine ⟨z, p, d, s, e, n, rfl, lt13.same s14, upd_same, ⟨by omega, by omega, by omega, List.all_eq_true.mpr on, by omega⟩, by omega, fun p3 q3 H15 s15 h3 lt3 => ?_⟩
  rw [hk1, hk2] at h3
  have hE15 := s15 _ _ (s14 _ _ hE)
  have ltB15 := (ltB13.same s14).same s15
  refine ⟨_, rfl, _, _, rfl, Al.tup h3 hE15 rfl (by show 3 ≤ 1000000; decide) (fun i u v a b => ?_), _, rfl, ?_⟩
  · match i, a, b with
    | 0, a, b =>
      cases a
      cases b
      have tl2 := toks_len (l := aft z s e n) (a := 0) (e := (aft z s e n).length)
      exact LT.al3 lt3 ltB15 (by rw [List.length_map]; omega) (tkV_sca _)
    | 1, a, b =>
      cases a
      cases b
      exact Al.sc (n := 2) rfl
    | 2, a, b =>
      cases a
      cases b
      exact Al.sc (n := 2) rfl
    | k + 3, a, b => cases a
  -- the old ones
  refine ⟨_, rfl, _, rfl, _, _, rfl, (aly13.same s14).same s15, _, rfl, ?_⟩
  refine ⟨_, rfl, ?_⟩
  exact ⟨strL (aft z s e n), _, _, _, _, _, _, _, _, _, _, _, _, rfl, aft_ok oz on, by rw [len_tl, ezr]; omega, (tp13.same s14).same s15⟩
end

end Sn

namespace Sn
open PySem PySem.Spec PyProof.Rows L2 TL
theorem all_mk {l : PySem.W.OpenLaw} {w : World} {K : PySem.W.Frag} {h : Heap} {mg : Str → Option Value} {fa f0 f1 f2 f3 f4 f5 f6 f7 f8 f9 f10 f11 f12 f13 f14 f15 f16 f17 f18 f19 f20 f21 f22 f23 f24 f25 f26 f27 f28 : Addr}
    {od0 an0 od1 an1 od2 an2 od3 an3 od4 an4 od5 an5 od6 an6 od7 an7 od8 an8 od9 an9 od10 an10 od11 an11 od12 an12 od13 an13 od14 an14 od15 an15 od16 an16 od17 an17 od18 an18 od19 an19 od20 an20 od21 an21 od22 an22 od23 an23 od24 an24 od25 an25 od26 an26 od27 an27 od28 an28 : Option Addr} {sl0 sl1 sl2 sl3 sl4 sl5 sl6 sl7 sl8 sl9 sl10 sl11 sl12 sl13 sl14 sl15 sl16 sl17 sl18 sl19 sl20 sl21 sl22 sl23 sl24 sl25 sl26 sl27 sl28 : Array (Option Value)} {oc0 kV0 dc0 pm0 cd0 ct0 oc1 kV1 dc1 pm1 cd1 ct1 oc2 kV2 dc2 pm2 cd2 ct2 oc3 kV3 dc3 pm3 cd3 ct3 oc4 kV4 dc4 pm4 cd4 ct4 oc5 kV5 dc5 pm5 cd5 ct5 oc6 kV6 dc6 pm6 cd6 ct6 oc7 kV7 dc7 pm7 cd7 ct7 oc8 kV8 dc8 pm8 cd8 ct8 oc9 kV9 dc9 pm9 cd9 ct9 oc10 kV10 dc10 pm10 cd10 ct10 oc11 kV11 dc11 pm11 cd11 ct11 oc12 kV12 dc12 pm12 cd12 ct12 oc13 kV13 dc13 pm13 cd13 ct13 oc14 kV14 dc14 pm14 cd14 ct14 oc15 kV15 dc15 pm15 cd15 ct15 oc16 kV16 dc16 pm16 cd16 ct16 oc17 kV17 dc17 pm17 cd17 ct17 oc18 kV18 dc18 pm18 cd18 ct18 oc19 kV19 dc19 pm19 cd19 ct19 oc20 kV20 dc20 pm20 cd20 ct20 oc21 kV21 dc21 pm21 cd21 ct21 oc22 kV22 dc22 pm22 cd22 ct22 oc23 kV23 dc23 pm23 cd23 ct23 oc24 kV24 dc24 pm24 cd24 ct24 oc25 kV25 dc25 pm25 cd25 ct25 oc26 kV26 dc26 pm26 cd26 ct26 oc27 kV27 dc27 pm27 cd27 ct27 oc28 kV28 dc28 pm28 cd28 ct28 : Value}
    {C : Addr} {tL tP : PySem.Tok}
    {aW : Addr} {tS : PySem.Tok} {odW : Option Addr} {nW : Nat} {slW : Array (Option Value)} {u0 u1 u2 u3 u4 u5 u6 u7 u8 u9 u10 u11 u12 u13 u14 u15 u16 u17 u18 u19 : PySem.Tok} (X : K.In h) (G : h.Ns mainGlobals mg) (hfa : mg "law" = some (.ref fa))
    (a0 : PySem.W.nsIn K mainGlobals "may_stand" = some (some (.ref f0)))
    (l0 : K.lookup f0 = some ⟨oc0, od0, .func (PySem.W.fnOf "may_stand" "may_stand" (defArgs s_may_stand) (defBody s_may_stand) (defScope s_may_stand) .none kV0 dc0 pm0 an0 cd0 ct0), sl0⟩)
    (c0 : PySem.W.codeIn K cd0 "may_stand" = true)
    (k0 : PySem.W.keepIn K (.ref f0) = true)
    (a1 : PySem.W.nsIn K mainGlobals "apply_joint" = some (some (.ref f1)))
    (l1 : K.lookup f1 = some ⟨oc1, od1, .func (PySem.W.fnOf "apply_joint" "apply_joint" (defArgs s_apply_joint) (defBody s_apply_joint) (defScope s_apply_joint) .none kV1 dc1 pm1 an1 cd1 ct1), sl1⟩)
    (c1 : PySem.W.codeIn K cd1 "apply_joint" = true)
    (k1 : PySem.W.keepIn K (.ref f1) = true)
    (a2 : PySem.W.nsIn K mainGlobals "apply_edit" = some (some (.ref f2)))
    (l2 : K.lookup f2 = some ⟨oc2, od2, .func (PySem.W.fnOf "apply_edit" "apply_edit" (defArgs s_apply_edit) (defBody s_apply_edit) (defScope s_apply_edit) .none kV2 dc2 pm2 an2 cd2 ct2), sl2⟩)
    (c2 : PySem.W.codeIn K cd2 "apply_edit" = true)
    (k2 : PySem.W.keepIn K (.ref f2) = true)
    (a3 : PySem.W.nsIn K mainGlobals "line_start" = some (some (.ref f3)))
    (l3 : K.lookup f3 = some ⟨oc3, od3, .func (PySem.W.fnOf "line_start" "line_start" (defArgs s_line_start) (defBody s_line_start) (defScope s_line_start) .none kV3 dc3 pm3 an3 cd3 ct3), sl3⟩)
    (c3 : PySem.W.codeIn K cd3 "line_start" = true)
    (k3 : PySem.W.keepIn K (.ref f3) = true)
    (a4 : PySem.W.nsIn K mainGlobals "line_end" = some (some (.ref f4)))
    (l4 : K.lookup f4 = some ⟨oc4, od4, .func (PySem.W.fnOf "line_end" "line_end" (defArgs s_line_end) (defBody s_line_end) (defScope s_line_end) .none kV4 dc4 pm4 an4 cd4 ct4), sl4⟩)
    (c4 : PySem.W.codeIn K cd4 "line_end" = true)
    (k4 : PySem.W.keepIn K (.ref f4) = true)
    (a5 : PySem.W.nsIn K mainGlobals "is_letter" = some (some (.ref f5)))
    (l5 : K.lookup f5 = some ⟨oc5, od5, .func (PySem.W.fnOf "is_letter" "is_letter" (defArgs s_is_letter) (defBody s_is_letter) (defScope s_is_letter) .none kV5 dc5 pm5 an5 cd5 ct5), sl5⟩)
    (c5 : PySem.W.codeIn K cd5 "is_letter" = true)
    (k5 : PySem.W.keepIn K (.ref f5) = true)
    (a6 : PySem.W.nsIn K mainGlobals "is_digit" = some (some (.ref f6)))
    (l6 : K.lookup f6 = some ⟨oc6, od6, .func (PySem.W.fnOf "is_digit" "is_digit" (defArgs s_is_digit) (defBody s_is_digit) (defScope s_is_digit) .none kV6 dc6 pm6 an6 cd6 ct6), sl6⟩)
    (c6 : PySem.W.codeIn K cd6 "is_digit" = true)
    (k6 : PySem.W.keepIn K (.ref f6) = true)
    (a7 : PySem.W.nsIn K mainGlobals "word_end" = some (some (.ref f7)))
    (l7 : K.lookup f7 = some ⟨oc7, od7, .func (PySem.W.fnOf "word_end" "word_end" (defArgs s_word_end) (defBody s_word_end) (defScope s_word_end) .none kV7 dc7 pm7 an7 cd7 ct7), sl7⟩)
    (c7 : PySem.W.codeIn K cd7 "word_end" = true)
    (k7 : PySem.W.keepIn K (.ref f7) = true)
    (a8 : PySem.W.nsIn K mainGlobals "digits_end" = some (some (.ref f8)))
    (l8 : K.lookup f8 = some ⟨oc8, od8, .func (PySem.W.fnOf "digits_end" "digits_end" (defArgs s_digits_end) (defBody s_digits_end) (defScope s_digits_end) .none kV8 dc8 pm8 an8 cd8 ct8), sl8⟩)
    (c8 : PySem.W.codeIn K cd8 "digits_end" = true)
    (k8 : PySem.W.keepIn K (.ref f8) = true)
    (a9 : PySem.W.nsIn K mainGlobals "token_at" = some (some (.ref f9)))
    (l9 : K.lookup f9 = some ⟨oc9, od9, .func (PySem.W.fnOf "token_at" "token_at" (defArgs s_token_at) (defBody s_token_at) (defScope s_token_at) .none kV9 dc9 pm9 an9 cd9 ct9), sl9⟩)
    (c9 : PySem.W.codeIn K cd9 "token_at" = true)
    (k9 : PySem.W.keepIn K (.ref f9) = true)
    (a10 : PySem.W.nsIn K mainGlobals "tokens_between" = some (some (.ref f10)))
    (l10 : K.lookup f10 = some ⟨oc10, od10, .func (PySem.W.fnOf "tokens_between" "tokens_between" (defArgs s_tokens_between) (defBody s_tokens_between) (defScope s_tokens_between) .none kV10 dc10 pm10 an10 cd10 ct10), sl10⟩)
    (c10 : PySem.W.codeIn K cd10 "tokens_between" = true)
    (k10 : PySem.W.keepIn K (.ref f10) = true)
    (a11 : PySem.W.nsIn K mainGlobals "relexed" = some (some (.ref f11)))
    (l11 : K.lookup f11 = some ⟨oc11, od11, .func (PySem.W.fnOf "relexed" "relexed" (defArgs s_relexed) (defBody s_relexed) (defScope s_relexed) .none kV11 dc11 pm11 an11 cd11 ct11), sl11⟩)
    (c11 : PySem.W.codeIn K cd11 "relexed" = true)
    (k11 : PySem.W.keepIn K (.ref f11) = true)
    (a12 : PySem.W.nsIn K mainGlobals "_law_tape" = some (some (.ref f12)))
    (l12 : K.lookup f12 = some ⟨oc12, od12, .func (PySem.W.fnOf "_law_tape" "_law_tape" (defArgs s_tape) (defBody s_tape) (defScope s_tape) .none kV12 dc12 pm12 an12 cd12 ct12), sl12⟩)
    (c12 : PySem.W.codeIn K cd12 "_law_tape" = true)
    (k12 : PySem.W.keepIn K (.ref f12) = true)
    (a13 : PySem.W.nsIn K mainGlobals "_law_take" = some (some (.ref f13)))
    (l13 : K.lookup f13 = some ⟨oc13, od13, .func (PySem.W.fnOf "_law_take" "_law_take" (defArgs s_take) (defBody s_take) (defScope s_take) .none kV13 dc13 pm13 an13 cd13 ct13), sl13⟩)
    (c13 : PySem.W.codeIn K cd13 "_law_take" = true)
    (k13 : PySem.W.keepIn K (.ref f13) = true)
    (a14 : PySem.W.nsIn K mainGlobals "_law_is_integer" = some (some (.ref f14)))
    (l14 : K.lookup f14 = some ⟨oc14, od14, .func (PySem.W.fnOf "_law_is_integer" "_law_is_integer" (defArgs s_isInt) (defBody s_isInt) (defScope s_isInt) .none kV14 dc14 pm14 an14 cd14 ct14), sl14⟩)
    (c14 : PySem.W.codeIn K cd14 "_law_is_integer" = true)
    (k14 : PySem.W.keepIn K (.ref f14) = true)
    (a15 : PySem.W.nsIn K mainGlobals "_law_same_items" = some (some (.ref f15)))
    (l15 : K.lookup f15 = some ⟨oc15, od15, .func (PySem.W.fnOf "_law_same_items" "_law_same_items" (defArgs s_sameItems) (defBody s_sameItems) (defScope s_sameItems) .none kV15 dc15 pm15 an15 cd15 ct15), sl15⟩)
    (c15 : PySem.W.codeIn K cd15 "_law_same_items" = true)
    (k15 : PySem.W.keepIn K (.ref f15) = true)
    (a16 : PySem.W.nsIn K mainGlobals "_law_same" = some (some (.ref f16)))
    (l16 : K.lookup f16 = some ⟨oc16, od16, .func (PySem.W.fnOf "_law_same" "_law_same" (defArgs s_same) (defBody s_same) (defScope s_same) .none kV16 dc16 pm16 an16 cd16 ct16), sl16⟩)
    (c16 : PySem.W.codeIn K cd16 "_law_same" = true)
    (k16 : PySem.W.keepIn K (.ref f16) = true)
    (a17 : PySem.W.nsIn K mainGlobals "_law_copy" = some (some (.ref f17)))
    (l17 : K.lookup f17 = some ⟨oc17, od17, .func (PySem.W.fnOf "_law_copy" "_law_copy" (defArgs s_copy) (defBody s_copy) (defScope s_copy) .none kV17 dc17 pm17 an17 cd17 ct17), sl17⟩)
    (c17 : PySem.W.codeIn K cd17 "_law_copy" = true)
    (k17 : PySem.W.keepIn K (.ref f17) = true)
    (a18 : PySem.W.nsIn K mainGlobals "_law_snippet" = some (some (.ref f18)))
    (l18 : K.lookup f18 = some ⟨oc18, od18, .func (PySem.W.fnOf "_law_snippet" "_law_snippet" (defArgs s_snippet) (defBody s_snippet) (defScope s_snippet) .none kV18 dc18 pm18 an18 cd18 ct18), sl18⟩)
    (c18 : PySem.W.codeIn K cd18 "_law_snippet" = true)
    (k18 : PySem.W.keepIn K (.ref f18) = true)
    (a19 : PySem.W.nsIn K mainGlobals "_law_char" = some (some (.ref f19)))
    (l19 : K.lookup f19 = some ⟨oc19, od19, .func (PySem.W.fnOf "_law_char" "_law_char" (defArgs s_char) (defBody s_char) (defScope s_char) .none kV19 dc19 pm19 an19 cd19 ct19), sl19⟩)
    (c19 : PySem.W.codeIn K cd19 "_law_char" = true)
    (k19 : PySem.W.keepIn K (.ref f19) = true)
    (a20 : PySem.W.nsIn K mainGlobals "_law_any_text" = some (some (.ref f20)))
    (l20 : K.lookup f20 = some ⟨oc20, od20, .func (PySem.W.fnOf "_law_any_text" "_law_any_text" (defArgs s_anyText) (defBody s_anyText) (defScope s_anyText) .none kV20 dc20 pm20 an20 cd20 ct20), sl20⟩)
    (c20 : PySem.W.codeIn K cd20 "_law_any_text" = true)
    (k20 : PySem.W.keepIn K (.ref f20) = true)
    (a21 : PySem.W.nsIn K mainGlobals "_law_is_letter" = some (some (.ref f21)))
    (l21 : K.lookup f21 = some ⟨oc21, od21, .func (PySem.W.fnOf "_law_is_letter" "_law_is_letter" (defArgs s_lLetter) (defBody s_lLetter) (defScope s_lLetter) .none kV21 dc21 pm21 an21 cd21 ct21), sl21⟩)
    (c21 : PySem.W.codeIn K cd21 "_law_is_letter" = true)
    (k21 : PySem.W.keepIn K (.ref f21) = true)
    (a22 : PySem.W.nsIn K mainGlobals "_law_is_digit" = some (some (.ref f22)))
    (l22 : K.lookup f22 = some ⟨oc22, od22, .func (PySem.W.fnOf "_law_is_digit" "_law_is_digit" (defArgs s_lDigit) (defBody s_lDigit) (defScope s_lDigit) .none kV22 dc22 pm22 an22 cd22 ct22), sl22⟩)
    (c22 : PySem.W.codeIn K cd22 "_law_is_digit" = true)
    (k22 : PySem.W.keepIn K (.ref f22) = true)
    (a23 : PySem.W.nsIn K mainGlobals "_law_run" = some (some (.ref f23)))
    (l23 : K.lookup f23 = some ⟨oc23, od23, .func (PySem.W.fnOf "_law_run" "_law_run" (defArgs s_lRun) (defBody s_lRun) (defScope s_lRun) .none kV23 dc23 pm23 an23 cd23 ct23), sl23⟩)
    (c23 : PySem.W.codeIn K cd23 "_law_run" = true)
    (k23 : PySem.W.keepIn K (.ref f23) = true)
    (a24 : PySem.W.nsIn K mainGlobals "_law_token" = some (some (.ref f24)))
    (l24 : K.lookup f24 = some ⟨oc24, od24, .func (PySem.W.fnOf "_law_token" "_law_token" (defArgs s_lToken) (defBody s_lToken) (defScope s_lToken) .none kV24 dc24 pm24 an24 cd24 ct24), sl24⟩)
    (c24 : PySem.W.codeIn K cd24 "_law_token" = true)
    (k24 : PySem.W.keepIn K (.ref f24) = true)
    (a25 : PySem.W.nsIn K mainGlobals "_law_tokens" = some (some (.ref f25)))
    (l25 : K.lookup f25 = some ⟨oc25, od25, .func (PySem.W.fnOf "_law_tokens" "_law_tokens" (defArgs s_lTokens) (defBody s_lTokens) (defScope s_lTokens) .none kV25 dc25 pm25 an25 cd25 ct25), sl25⟩)
    (c25 : PySem.W.codeIn K cd25 "_law_tokens" = true)
    (k25 : PySem.W.keepIn K (.ref f25) = true)
    (a26 : PySem.W.nsIn K mainGlobals "_law_line_start" = some (some (.ref f26)))
    (l26 : K.lookup f26 = some ⟨oc26, od26, .func (PySem.W.fnOf "_law_line_start" "_law_line_start" (defArgs s_lStart) (defBody s_lStart) (defScope s_lStart) .none kV26 dc26 pm26 an26 cd26 ct26), sl26⟩)
    (c26 : PySem.W.codeIn K cd26 "_law_line_start" = true)
    (k26 : PySem.W.keepIn K (.ref f26) = true)
    (a27 : PySem.W.nsIn K mainGlobals "_law_line_end" = some (some (.ref f27)))
    (l27 : K.lookup f27 = some ⟨oc27, od27, .func (PySem.W.fnOf "_law_line_end" "_law_line_end" (defArgs s_lEnd) (defBody s_lEnd) (defScope s_lEnd) .none kV27 dc27 pm27 an27 cd27 ct27), sl27⟩)
    (c27 : PySem.W.codeIn K cd27 "_law_line_end" = true)
    (k27 : PySem.W.keepIn K (.ref f27) = true)
    (a28 : PySem.W.nsIn K mainGlobals "law" = some (some (.ref f28)))
    (l28 : K.lookup f28 = some ⟨oc28, od28, .func (PySem.W.fnOf "law" "law" (defArgs s_law) (defBody s_law) (defScope s_law) .none kV28 dc28 pm28 an28 cd28 ct28), sl28⟩)
    (c28 : PySem.W.codeIn K cd28 "law" = true)
    (k28 : PySem.W.keepIn K (.ref f28) = true)
    (z0 : PySem.W.nsIn K mainGlobals "abs" = some none)
    (z1 : PySem.W.nsIn K mainGlobals "int" = some none)
    (z2 : PySem.W.nsIn K mainGlobals "len" = some none)
    (z3 : PySem.W.nsIn K mainGlobals "range" = some none)
    (z4 : PySem.W.nsIn K mainGlobals "isinstance" = some none)
    (z5 : PySem.W.nsIn K mainGlobals "bool" = some none)
    (z6 : PySem.W.nsIn K mainGlobals "str" = some none)
    (z7 : PySem.W.nsIn K mainGlobals "tuple" = some none)
    (z8 : PySem.W.nsIn K mainGlobals "list" = some none)
    (z9 : PySem.W.nsIn K mainGlobals "min" = some none)
    (z10 : PySem.W.nsIn K mainGlobals "ord" = some none)
    (z11 : PySem.W.nsIn K mainGlobals "dict" = some none)
    (gL : PySem.W.nsIn K mainGlobals "LONGEST" = some (some (.int 4000 tL)))
    (gP : PySem.W.nsIn K mainGlobals "PERCENT" = some (some (.int 37 tP)))
    (aC : PySem.W.nsIn K mainGlobals "InvalidEdit" = some (some (.ref C)))
    (xI : PySem.W.excIn K C [.type "ValueError", .type "Exception", .type "BaseException", .type "object"] "ValueError.__new__" = true)
    (kI : PySem.W.keepIn K (.ref C) = true)
    (bI : PySem.W.subIn K (.ref C) (.type "BaseException") = some true)
    (tI : PySem.W.typeIn K (.ref C) = some (.type "type"))
    (iC : PySem.W.isClsIn K C = true)
    (sC : PySem.W.subIn K (.ref C) (.ref C) = some true)
    (gW : PySem.W.nsIn K mainGlobals "WORDS" = some (some (.ref aW)))
    (gS : PySem.W.nsIn K mainGlobals "SIGNS" = some (some (.str "()[],:.=<+-*/" tS)))
    (lW : K.lookup aW = some ⟨.type "tuple", odW, .seq #[.str "\x69mport" u0, .str "data" u1, .str "trait" u2, .str "with" u3, .str "impl" u4, .str "for" u5, .str "def" u6, .str "let" u7, .str "in" u8, .str "if" u9, .str "then" u10, .str "else" u11, .str "loop" u12, .str "times" u13, .str "do" u14, .str "not" u15, .str "and" u16, .str "or" u17, .str "True" u18, .str "False" u19] nW, slW⟩) :
    ∃ fd : FuncData, (∀ (s : Shared) (v : Value), BindsTo s fd ⟨[v], []⟩ [("script", v)]) ∧ ∀ base : Heap, K.In base → base.Ns mainGlobals mg → FnOk l.prog w K mg base CX0 9 fa fd ["script"] (spLaw K) := by
  have e := hfa.symm.trans (PySem.W.mg_of X G a28)
  cases e
  have F0 := fun_mk (st := s_may_stand) l0 c0 k0
  have b0 := F0.binds (ps := ["characters"]) fun _ _ _ _ _ _ us hl => match us, hl with | [_], _ => rfl
  have m0 := PySem.W.mg_of X G a0
  have F1 := fun_mk (st := s_apply_joint) l1 c1 k1
  have b1 := F1.binds (ps := ["text", "edits"]) fun _ _ _ _ _ _ us hl => match us, hl with | [_, _], _ => rfl
  have m1 := PySem.W.mg_of X G a1
  have F2 := fun_mk (st := s_apply_edit) l2 c2 k2
  have b2 := F2.binds (ps := ["text", "edit"]) fun _ _ _ _ _ _ us hl => match us, hl with | [_, _], _ => rfl
  have m2 := PySem.W.mg_of X G a2
  have F3 := fun_mk (st := s_line_start) l3 c3 k3
  have b3 := F3.binds (ps := ["text", "offset"]) fun _ _ _ _ _ _ us hl => match us, hl with | [_, _], _ => rfl
  have m3 := PySem.W.mg_of X G a3
  have F4 := fun_mk (st := s_line_end) l4 c4 k4
  have b4 := F4.binds (ps := ["text", "offset"]) fun _ _ _ _ _ _ us hl => match us, hl with | [_, _], _ => rfl
  have m4 := PySem.W.mg_of X G a4
  have F5 := fun_mk (st := s_is_letter) l5 c5 k5
  have b5 := F5.binds (ps := ["sign"]) fun _ _ _ _ _ _ us hl => match us, hl with | [_], _ => rfl
  have m5 := PySem.W.mg_of X G a5
  have F6 := fun_mk (st := s_is_digit) l6 c6 k6
  have b6 := F6.binds (ps := ["sign"]) fun _ _ _ _ _ _ us hl => match us, hl with | [_], _ => rfl
  have m6 := PySem.W.mg_of X G a6
  have F7 := fun_mk (st := s_word_end) l7 c7 k7
  have b7 := F7.binds (ps := ["text", "start"]) fun _ _ _ _ _ _ us hl => match us, hl with | [_, _], _ => rfl
  have m7 := PySem.W.mg_of X G a7
  have F8 := fun_mk (st := s_digits_end) l8 c8 k8
  have b8 := F8.binds (ps := ["text", "start"]) fun _ _ _ _ _ _ us hl => match us, hl with | [_, _], _ => rfl
  have m8 := PySem.W.mg_of X G a8
  have F9 := fun_mk (st := s_token_at) l9 c9 k9
  have b9 := F9.binds (ps := ["text", "start"]) fun _ _ _ _ _ _ us hl => match us, hl with | [_, _], _ => rfl
  have m9 := PySem.W.mg_of X G a9
  have F10 := fun_mk (st := s_tokens_between) l10 c10 k10
  have b10 := F10.binds (ps := ["text", "start", "end"]) fun _ _ _ _ _ _ us hl => match us, hl with | [_, _, _], _ => rfl
  have m10 := PySem.W.mg_of X G a10
  have F11 := fun_mk (st := s_relexed) l11 c11 k11
  have b11 := F11.binds (ps := ["text", "old", "edit"]) fun _ _ _ _ _ _ us hl => match us, hl with | [_, _, _], _ => rfl
  have m11 := PySem.W.mg_of X G a11
  have F12 := fun_mk (st := s_tape) l12 c12 k12
  have b12 := F12.binds (ps := ["script"]) fun _ _ _ _ _ _ us hl => match us, hl with | [_], _ => rfl
  have m12 := PySem.W.mg_of X G a12
  have F13 := fun_mk (st := s_take) l13 c13 k13
  have b13 := F13.binds (ps := ["tape", "many"]) fun _ _ _ _ _ _ us hl => match us, hl with | [_, _], _ => rfl
  have m13 := PySem.W.mg_of X G a13
  have F14 := fun_mk (st := s_isInt) l14 c14 k14
  have b14 := F14.binds (ps := ["actual"]) fun _ _ _ _ _ _ us hl => match us, hl with | [_], _ => rfl
  have m14 := PySem.W.mg_of X G a14
  have F15 := fun_mk (st := s_sameItems) l15 c15 k15
  have b15 := F15.binds (ps := ["actual", "expected"]) fun _ _ _ _ _ _ us hl => match us, hl with | [_, _], _ => rfl
  have m15 := PySem.W.mg_of X G a15
  have F16 := fun_mk (st := s_same) l16 c16 k16
  have b16 := F16.binds (ps := ["actual", "expected"]) fun _ _ _ _ _ _ us hl => match us, hl with | [_, _], _ => rfl
  have m16 := PySem.W.mg_of X G a16
  have F17 := fun_mk (st := s_copy) l17 c17 k17
  have b17 := F17.binds (ps := ["thing"]) fun _ _ _ _ _ _ us hl => match us, hl with | [_], _ => rfl
  have m17 := PySem.W.mg_of X G a17
  have F18 := fun_mk (st := s_snippet) l18 c18 k18
  have b18 := F18.binds (ps := ["tape"]) fun _ _ _ _ _ _ us hl => match us, hl with | [_], _ => rfl
  have m18 := PySem.W.mg_of X G a18
  have F19 := fun_mk (st := s_char) l19 c19 k19
  have b19 := F19.binds (ps := ["tape"]) fun _ _ _ _ _ _ us hl => match us, hl with | [_], _ => rfl
  have m19 := PySem.W.mg_of X G a19
  have F20 := fun_mk (st := s_anyText) l20 c20 k20
  have b20 := F20.binds (ps := ["tape", "most"]) fun _ _ _ _ _ _ us hl => match us, hl with | [_, _], _ => rfl
  have m20 := PySem.W.mg_of X G a20
  have F21 := fun_mk (st := s_lLetter) l21 c21 k21
  have b21 := F21.binds (ps := ["char"]) fun _ _ _ _ _ _ us hl => match us, hl with | [_], _ => rfl
  have m21 := PySem.W.mg_of X G a21
  have F22 := fun_mk (st := s_lDigit) l22 c22 k22
  have b22 := F22.binds (ps := ["char"]) fun _ _ _ _ _ _ us hl => match us, hl with | [_], _ => rfl
  have m22 := PySem.W.mg_of X G a22
  have F23 := fun_mk (st := s_lRun) l23 c23 k23
  have b23 := F23.binds (ps := ["text", "at"]) fun _ _ _ _ _ _ us hl => match us, hl with | [_, _], _ => rfl
  have m23 := PySem.W.mg_of X G a23
  have F24 := fun_mk (st := s_lToken) l24 c24 k24
  have b24 := F24.binds (ps := ["text", "at"]) fun _ _ _ _ _ _ us hl => match us, hl with | [_, _], _ => rfl
  have m24 := PySem.W.mg_of X G a24
  have F25 := fun_mk (st := s_lTokens) l25 c25 k25
  have b25 := F25.binds (ps := ["text"]) fun _ _ _ _ _ _ us hl => match us, hl with | [_], _ => rfl
  have m25 := PySem.W.mg_of X G a25
  have F26 := fun_mk (st := s_lStart) l26 c26 k26
  have b26 := F26.binds (ps := ["text", "offset"]) fun _ _ _ _ _ _ us hl => match us, hl with | [_, _], _ => rfl
  have m26 := PySem.W.mg_of X G a26
  have F27 := fun_mk (st := s_lEnd) l27 c27 k27
  have b27 := F27.binds (ps := ["text", "offset"]) fun _ _ _ _ _ _ us hl => match us, hl with | [_, _], _ => rfl
  have m27 := PySem.W.mg_of X G a27
  have F28 := fun_mk (st := s_law) l28 c28 k28
  refine ⟨PySem.W.fnOf "law" "law" (defArgs s_law) (defBody s_law) (defScope s_law) .none kV28 dc28 pm28 an28 cd28 ct28, fun s v => .of_eq rfl, fun base _ _ => ?_⟩
  have T : Nm6 K mg C tL tP aW tS := ⟨⟨⟨(PySem.W.mg_none_of X G z0), (PySem.W.mg_none_of X G z1), (PySem.W.mg_none_of X G z2), (PySem.W.mg_none_of X G z3), (PySem.W.mg_none_of X G z4), (PySem.W.mg_none_of X G z5), (PySem.W.mg_none_of X G z6), (PySem.W.mg_none_of X G z7), (PySem.W.mg_none_of X G z8)⟩, (PySem.W.mg_none_of X G z10), PySem.W.mg_of X G gL, PySem.W.mg_of X G gP, PySem.W.mg_of X G aC, xI, kI, bI, tI, exm_of bI iC tI sC⟩, PySem.W.mg_of X G gW, ⟨_, _, _, lW, rfl, rfl, (by show 20 ≤ sizeLine; decide), .cons ⟨_, rfl⟩ (.cons ⟨_, rfl⟩ (.cons ⟨_, rfl⟩ (.cons ⟨_, rfl⟩ (.cons ⟨_, rfl⟩ (.cons ⟨_, rfl⟩ (.cons ⟨_, rfl⟩ (.cons ⟨_, rfl⟩ (.cons ⟨_, rfl⟩ (.cons ⟨_, rfl⟩ (.cons ⟨_, rfl⟩ (.cons ⟨_, rfl⟩ (.cons ⟨_, rfl⟩ (.cons ⟨_, rfl⟩ (.cons ⟨_, rfl⟩ (.cons ⟨_, rfl⟩ (.cons ⟨_, rfl⟩ (.cons ⟨_, rfl⟩ (.cons ⟨_, rfl⟩ (.cons ⟨_, rfl⟩ (.nil))))))))))))))))))))⟩, PySem.W.mg_of X G gS, (PySem.W.mg_none_of X G z9), (PySem.W.mg_none_of X G z11)⟩
  have C_law_tape : Cal l.prog w K mg base CX0 1 "_law_tape" (spTape K) := ⟨_, _, _, ok_tape F12 T.toNmJ.toNm, m12, F12.kp, b12⟩
  have C_law_take : Cal l.prog w K mg base CX0 1 "_law_take" spTake := ⟨_, _, _, ok_take F13 T.toNmJ.toNm, m13, F13.kp, b13⟩
  have C_law_is_integer : Cal l.prog w K mg base CX0 1 "_law_is_integer" spIsInt := ⟨_, _, _, ok_isInt F14 T.toNmJ.toNm, m14, F14.kp, b14⟩
  have C_law_same : Cal l.prog w K mg base CX0 8 "_law_same" (spSame 4) := both F16 b16 m16 F15 b15 m15 T.toNmJ.toNm C_law_is_integer 4
  have C_law_snippet : Cal l.prog w K mg base CX0 2 "_law_snippet" spSnippet := ⟨_, _, _, ok_snippet F18 T.toNmJ.toNm C_law_take, m18, F18.kp, b18⟩
  have C_law_char : Cal l.prog w K mg base CX0 2 "_law_char" spChar := ⟨_, _, _, ok_char F19 T.toNmJ.toNm C_law_take, m19, F19.kp, b19⟩
  have C_law_any_text : Cal l.prog w K mg base CX0 3 "_law_any_text" spAny := ⟨_, _, _, ok_any F20 T.toNmJ.toNm C_law_take C_law_char C_law_snippet, m20, F20.kp, b20⟩
  have C_may_stand : Cal l.prog w K mg base CX0 1 "may_stand" spMay := ⟨_, _, _, ok_may_stand F0 T.toNmJ, m0, F0.kp, b0⟩
  have C_apply_joint : Cal l.prog w K mg base (L2.CX l.prog w) 2 "apply_joint" (spJoint C) := ⟨_, _, _, ok_apply_joint F1 T.toNmJ C_may_stand, m1, F1.kp, b1⟩
  have C_apply_edit : Cal l.prog w K mg base (L2.CX l.prog w) 3 "apply_edit" (spEdit C) := ⟨_, _, _, ok_apply_edit F2 T.toNmJ C_apply_joint, m2, F2.kp, b2⟩
  have C_law_copy : Cal l.prog w K mg base CX0 4 "_law_copy" (spCopy 4) := copies F17 b17 m17 T.toNmJ.toNm T.dict_ 4
  have C_line_start : Cal l.prog w K mg base CX0 1 "line_start" spLineS := ⟨_, _, _, ok_line_start F3, m3, F3.kp, b3⟩
  have C_line_end : Cal l.prog w K mg base CX0 1 "line_end" (spRun fun d => d != 10) := ⟨_, _, _, ok_line_end F4 T.toNm5, m4, F4.kp, b4⟩
  have C_is_letter : Cal l.prog w K mg base CX0 1 "is_letter" (spLet isL) := ⟨_, _, _, ok_is_letter F5, m5, F5.kp, b5⟩
  have C_is_digit : Cal l.prog w K mg base CX0 1 "is_digit" (spLet isD) := ⟨_, _, _, ok_is_digit F6, m6, F6.kp, b6⟩
  have C_word_end : Cal l.prog w K mg base CX0 2 "word_end" (spRun isW) := ⟨_, _, _, ok_word_end F7 T.toNm5 C_is_letter C_is_digit, m7, F7.kp, b7⟩
  have C_digits_end : Cal l.prog w K mg base CX0 2 "digits_end" (spRun isD) := ⟨_, _, _, ok_digits_end F8 T.toNm5 C_is_digit, m8, F8.kp, b8⟩
  have C_token_at : Cal l.prog w K mg base CX0 3 "token_at" spTokAt := ⟨_, _, _, ok_token_at F9 T.toNm5 C_is_letter C_is_digit C_word_end C_digits_end, m9, F9.kp, b9⟩
  have C_tokens_between : Cal l.prog w K mg base CX0 4 "tokens_between" spBetween := ⟨_, _, _, ok_tokens_between F10 T.toNm5 C_line_end C_token_at, m10, F10.kp, b10⟩
  have C_law_is_letter : Cal l.prog w K mg base CX0 1 "_law_is_letter" (spLet isL) := ⟨_, _, _, ok_lLetter F21, m21, F21.kp, b21⟩
  have C_law_is_digit : Cal l.prog w K mg base CX0 1 "_law_is_digit" (spLet isD) := ⟨_, _, _, ok_lDigit F22, m22, F22.kp, b22⟩
  have C_law_run : Cal l.prog w K mg base CX0 2 "_law_run" spLRun := ⟨_, _, _, ok_lRun F23 C_law_is_letter C_law_is_digit, m23, F23.kp, b23⟩
  have C_law_token : Cal l.prog w K mg base CX0 3 "_law_token" spTokAt := ⟨_, _, _, ok_lToken F24 T.toNm5.toNm C_law_is_letter C_law_is_digit C_law_run, m24, F24.kp, b24⟩
  have C_law_tokens : Cal l.prog w K mg base CX0 4 "_law_tokens" spTokens := ⟨_, _, _, ok_lTokens F25 T.toNm5.toNm C_law_token, m25, F25.kp, b25⟩
  have C_relexed : Cal l.prog w K mg base CX0 5 "relexed" spRelexed := ⟨_, _, _, ok_relexed F11 T C_apply_edit C_line_start C_line_end C_tokens_between, m11, F11.kp, b11⟩
  have C_law_line_start : Cal l.prog w K mg base CX0 1 "_law_line_start" spLineS := ⟨_, _, _, ok_lStart F26 T.toNmJ.toNm, m26, F26.kp, b26⟩
  have C_law_line_end : Cal l.prog w K mg base CX0 1 "_law_line_end" spLineN := ⟨_, _, _, ok_lEnd F27 T.toNmJ.toNm, m27, F27.kp, b27⟩
  exact ok_law F28 T C_law_tape C_law_take C_law_any_text C_law_snippet C_law_same C_law_copy C_law_tokens C_law_line_start C_law_line_end C_relexed
theorem walk {l : PySem.W.OpenLaw} {q : Program} {loose : List Str} {XP : (Str → Option Value) → Heap → Prop} {YP : World → Heap → Prop} {d : DefRec} {K : Params → PySem.W.Frag} (hn : l.most = some 63) (hdf : d.params.defaults = [])
    (hY : ∀ (w : World) (h : Heap), YP w h → (K w.params).In h)
    (F : ∀ (w : World) (mg : Str → Option Value) (fa : Addr) (h : Heap), (K w.params).In h → h.Ns mainGlobals mg → mg d.name = some (.ref fa) →
      ∃ fd : FuncData, (∀ (s : Shared) (u : Value), BindsTo s fd ⟨[u], []⟩ [("script", u)]) ∧ ∀ base : Heap, (K w.params).In base → base.Ns mainGlobals mg → FnOk l.prog w (K w.params) mg base CX0 9 fa fd ["script"] (spLaw (K w.params))) :
    PySem.W.WalkO q loose XP YP l.row.toRowW d [] (fun f vs => PySem.call f vs) :=
  L2.walk_of (n := 63) (k := 9) (x := "script") (CX := fun _ => CX0) (sp := fun w => spLaw (K w.params)) hn (by decide) hdf ⟨rfl, by decide, by decide⟩ hY F (fun _ _ a ns hl _ hS => ⟨a, ns, rfl, hS, hl, fun _ => rfl⟩) fun _ _ _ _ _ z => z
end Sn
open PySem PySem.W PyProof.Rows
set_option maxRecDepth 100000 in
set_option maxHeartbeats 0 in
theorem PySem.Challenge.cw_samenames_k06_relexing_holds : PySem.Challenge.rw_samenames_k06_relexing.Holds := by
  w_on; o_law; k_head; (case hw => w_witness2)
  k_fill
  refine Sn.walk (l := PySem.Challenge.rw_samenames_k06_relexing) rfl rfl (fun w h Y => PySem.W.kIn_of Y) ?F
  case F =>
    intro w mg fa h KX G hmg
    refine' Sn.all_mk KX G hmg ?a0 ?l0 ?c0 ?k0 ?a1 ?l1 ?c1 ?k1 ?a2 ?l2 ?c2 ?k2 ?a3 ?l3 ?c3 ?k3 ?a4 ?l4 ?c4 ?k4 ?a5 ?l5 ?c5 ?k5 ?a6 ?l6 ?c6 ?k6 ?a7 ?l7 ?c7 ?k7 ?a8 ?l8 ?c8 ?k8 ?a9 ?l9 ?c9 ?k9 ?a10 ?l10 ?c10 ?k10 ?a11 ?l11 ?c11 ?k11 ?a12 ?l12 ?c12 ?k12 ?a13 ?l13 ?c13 ?k13 ?a14 ?l14 ?c14 ?k14 ?a15 ?l15 ?c15 ?k15 ?a16 ?l16 ?c16 ?k16 ?a17 ?l17 ?c17 ?k17 ?a18 ?l18 ?c18 ?k18 ?a19 ?l19 ?c19 ?k19 ?a20 ?l20 ?c20 ?k20 ?a21 ?l21 ?c21 ?k21 ?a22 ?l22 ?c22 ?k22 ?a23 ?l23 ?c23 ?k23 ?a24 ?l24 ?c24 ?k24 ?a25 ?l25 ?c25 ?k25 ?a26 ?l26 ?c26 ?k26 ?a27 ?l27 ?c27 ?k27 ?a28 ?l28 ?c28 ?k28 ?z0 ?z1 ?z2 ?z3 ?z4 ?z5 ?z6 ?z7 ?z8 ?z9 ?z10 ?z11 ?gL ?gP ?aC ?xI ?kI ?bI ?tI ?iC ?sC ?gW ?gS ?lW
    (case a0 => k_is)
    (case l0 => k_is)
    (case c0 => k_is)
    (case k0 => k_is)
    (case a1 => k_is)
    (case l1 => k_is)
    (case c1 => k_is)
    (case k1 => k_is)
    (case a2 => k_is)
    (case l2 => k_is)
    (case c2 => k_is)
    (case k2 => k_is)
    (case a3 => k_is)
    (case l3 => k_is)
    (case c3 => k_is)
    (case k3 => k_is)
    (case a4 => k_is)
    (case l4 => k_is)
    (case c4 => k_is)
    (case k4 => k_is)
    (case a5 => k_is)
    (case l5 => k_is)
    (case c5 => k_is)
    (case k5 => k_is)
    (case a6 => k_is)
    (case l6 => k_is)
    (case c6 => k_is)
    (case k6 => k_is)
    (case a7 => k_is)
    (case l7 => k_is)
    (case c7 => k_is)
    (case k7 => k_is)
    (case a8 => k_is)
    (case l8 => k_is)
    (case c8 => k_is)
    (case k8 => k_is)
    (case a9 => k_is)
    (case l9 => k_is)
    (case c9 => k_is)
    (case k9 => k_is)
    (case a10 => k_is)
    (case l10 => k_is)
    (case c10 => k_is)
    (case k10 => k_is)
    (case a11 => k_is)
    (case l11 => k_is)
    (case c11 => k_is)
    (case k11 => k_is)
    (case a12 => k_is)
    (case l12 => k_is)
    (case c12 => k_is)
    (case k12 => k_is)
    (case a13 => k_is)
    (case l13 => k_is)
    (case c13 => k_is)
    (case k13 => k_is)
    (case a14 => k_is)
    (case l14 => k_is)
    (case c14 => k_is)
    (case k14 => k_is)
    (case a15 => k_is)
    (case l15 => k_is)
    (case c15 => k_is)
    (case k15 => k_is)
    (case a16 => k_is)
    (case l16 => k_is)
    (case c16 => k_is)
    (case k16 => k_is)
    (case a17 => k_is)
    (case l17 => k_is)
    (case c17 => k_is)
    (case k17 => k_is)
    (case a18 => k_is)
    (case l18 => k_is)
    (case c18 => k_is)
    (case k18 => k_is)
    (case a19 => k_is)
    (case l19 => k_is)
    (case c19 => k_is)
    (case k19 => k_is)
    (case a20 => k_is)
    (case l20 => k_is)
    (case c20 => k_is)
    (case k20 => k_is)
    (case a21 => k_is)
    (case l21 => k_is)
    (case c21 => k_is)
    (case k21 => k_is)
    (case a22 => k_is)
    (case l22 => k_is)
    (case c22 => k_is)
    (case k22 => k_is)
    (case a23 => k_is)
    (case l23 => k_is)
    (case c23 => k_is)
    (case k23 => k_is)
    (case a24 => k_is)
    (case l24 => k_is)
    (case c24 => k_is)
    (case k24 => k_is)
    (case a25 => k_is)
    (case l25 => k_is)
    (case c25 => k_is)
    (case k25 => k_is)
    (case a26 => k_is)
    (case l26 => k_is)
    (case c26 => k_is)
    (case k26 => k_is)
    (case a27 => k_is)
    (case l27 => k_is)
    (case c27 => k_is)
    (case k27 => k_is)
    (case a28 => k_is)
    (case l28 => k_is)
    (case c28 => k_is)
    (case k28 => k_is)
    (case z0 => k_is)
    (case z1 => k_is)
    (case z2 => k_is)
    (case z3 => k_is)
    (case z4 => k_is)
    (case z5 => k_is)
    (case z6 => k_is)
    (case z7 => k_is)
    (case z8 => k_is)
    (case z9 => k_is)
    (case z10 => k_is)
    (case z11 => k_is)
    (case gL => k_is)
    (case gP => k_is)
    (case aC => k_is)
    (case xI => k_exc)
    (case kI => k_is)
    (case bI => k_is)
    (case tI => k_is)
    (case iC => k_is)
    (case sC => k_is)
    (case gW => k_is)
    (case gS => k_is)
    (case lW => k_is)
