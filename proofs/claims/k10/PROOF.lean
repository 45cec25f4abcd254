import PyProof.Rows.All
import Wide.All
import OpenK.AllK
import Wide.FinOn
import PyProof.EqAt
import PyProof.EqKinds
import PyProof.TupleCall
import HandS.ForMost
import HandS.IsInst
import HandS.StrMore
import HandS.Codes
import HandS.Style
import HandS.Exc
import HandS.ExcOwn
import HandS.TryOnly
import HandS.ExcIs
import HandS.WordsExc
import HandS.Hot
import HandS.HotCalls
import HandS.ExcCtx
import HandS.Replace
import HandS.ReplaceLit
import HandS.ExcInit
import HandS.ExcField
import HandS.WrittenGet
import KE.KExcIs
import HandS.Deep
import PySem.Challenge.RW_samenames_k10_first_wrong_token
set_option Elab.async false
set_option linter.all false
set_option maxRecDepth 100000
set_option maxHeartbeats 4000000
/-! My own words over the hand layer: calls by name, heaps but for one place, texts, data. -/
namespace Sn
open PySem PySem.Spec PyProof.Rows L2

/-- a def that may be called by its name -/
structure Cal (P : Program) (w : World) (K : PySem.W.Frag) (mg : Str → Option Value) (base : Heap) (CX : CXT) (k : Nat) (x : Str) (sp : Sp) : Prop where
  ex : ∃ (f : Addr) (fd : FuncData) (ps : List Str), FnOk P w K mg base CX k f fd ps sp ∧ mg x = some (.ref f) ∧ PySem.W.keepIn K (.ref f) = true ∧ Binds K fd ps []
section
variable {X : Cx} {k j : Nat} {x : Str} {sp : Sp} {p pos : Pos} {e : Expr} {es : List Expr} {t : TA} {CX : CXT} {E : XK}
theorem pe_c (c : Cal X.prog X.w X.K X.mg X.base CX k x sp) (hr : Room j X.A) (hk : k ≤ j) (hx : Passes CX X E) (ha : PA X (e :: es) t) (hg : Gl X x := by rfl)
    (hdb : (x == ("__debug__" : Str)) = false := by decide) (he : starEach (e :: es) X.env = (false, eval e X.env) :: starEach es X.env := by rfl) (hpl : (backTo pos (starEach es X.env)).any (·.1) = false := by rfl) :
    PE X (.Call (.Name x p) (e :: es) [] pos) (tCall sp [] E t) := by
  obtain ⟨f, fd, ps, F, hm, kp, b⟩ := c.ex
  exact pe_call F (hr.mono hk) hg hm kp b .nil hx ha hdb he hpl
end

/-! ### displays of many written texts -/
def strOf : Expr → Option Str
  | .Constant (.str x) _ _ => some x
  | _ => none
def strsOf : List Expr → Option (List Str)
  | [] => some []
  | e :: r => match strOf e, strsOf r with
    | some x, some l => some (x :: l)
    | _, _ => none
theorem starEach_strs {env : Env} : ∀ {es : List Expr} {l : List Str}, strsOf es = some l → ∀ {e : Expr} {x : Str}, strOf e = some x → starEach (e :: es) env = (false, eval e env) :: starEach es env := by
  intro es l h e x hx
  unfold strOf at hx
  split at hx
  · rfl
  · cases hx
theorem pa_strsL {X : Cx} : ∀ (es : List Expr) (l : List Str), strsOf es = some l → PA X es (fun _ H Q => Q (l.map V.str) H)
  | [], l, h => by
    have e : l = [] := (Option.some.inj h).symm
    subst e
    exact pa_nil
  | e :: r, l, h => by
    unfold strsOf at h
    split at h
    · rename_i x m hx hm
      have el : l = x :: m := (Option.some.inj h).symm
      subst el
      have q := pa_strsL (X := X) r m hm
      have hs := starEach_strs (env := X.env) hm hx
      unfold strOf at hx
      split at hx
      · rename_i x' j pos
        have ex : x' = x := Option.some.inj hx
        subst ex
        exact pa_cons (te := tC (.str x')) (t := fun _ H Q => Q (m.map V.str) H) pe_str q hs
      · cases hx
    · cases h
theorem pa_strs {X : Cx} {es : List Expr} (l : List Str) (h : strsOf es = some l := by rfl) : PA X es (fun _ H Q => Q (l.map V.str) H) := pa_strsL es l h

/-! ### heaps -/
/-- all that was tracked but the object at t is as it was -/
def But (t : Addr) (H H' : Hp) : Prop := ∀ b o, b ≠ t → H b = some o → H' b = some o
theorem But.refl (t : Addr) (H : Hp) : But t H H := fun _ _ _ h => h
theorem But.trans {t : Addr} {H H1 H2 : Hp} (a : But t H H1) (b : But t H1 H2) : But t H H2 := fun c o n h => b c o n (a c o n h)
theorem But.of {t : Addr} {H H' : Hp} (s : Same H H') : But t H H' := fun b o _ h => s b o h
theorem same_new {H : Hp} {p : Addr} {o : HO} (h : H p = none) : Same H (upd H p o) := fun b u q => by
  rw [upd_ne (ne_of_none q h)]
  exact q
theorem But.upd {t : Addr} {H H1 : Hp} {o : HO} (b : But t H H1) : But t H (upd H1 t o) := fun c u n h => by
  rw [upd_ne n]
  exact b c u n h

/-! ### the tape -/
def tk (c : Addr) (a l se sa : Int) : List (Key × V) := [(.inr "cells", .ref c), (.inr "at", .int a), (.inr "left", .int l), (.inr "seed", .int se), (.inr "salt", .int sa)]
structure TkAt (H : Hp) (t c : Addr) (cs : List Int) (a l se sa : Int) : Prop where
  d : H t = some (.dK (tk c a l se sa))
  cl : H c = some (.lst (cs.map V.int))
  cp : ∀ x ∈ cs, 0 ≤ x
  a0 : 0 ≤ a
  l0 : 0 ≤ l
  s0 : 0 ≤ se
  s1 : se < 2147483647
/-- a tape stands at t -/
def Tp (H : Hp) (t c : Addr) : Prop := ∃ cs a l se sa, TkAt H t c cs a l se sa
theorem TkAt.ne {H : Hp} {t c : Addr} {cs : List Int} {a l se sa : Int} (z : TkAt H t c cs a l se sa) : c ≠ t := ne_of z.cl z.d (by intro q; cases q)
theorem Tp.same {H H' : Hp} {t c : Addr} (s : Same H H') : Tp H t c → Tp H' t c := fun ⟨cs, a, l, se, sa, z⟩ => ⟨cs, a, l, se, sa, s _ _ z.d, s _ _ z.cl, z.cp, z.a0, z.l0, z.s0, z.s1⟩
theorem Tp.ne {H : Hp} {t c b : Addr} (z : Tp H t c) {o : HO} (h : H b = some o) (hn : ∀ kvs, o ≠ .dK kvs) : b ≠ t := by
  obtain ⟨cs, a, l, se, sa, z⟩ := z
  exact ne_of h z.d (hn _)
theorem Tp.nt {H : Hp} {t c b : Addr} (z : Tp H t c) (h : H b = none) : t ≠ b := by
  obtain ⟨cs, a, l, se, sa, z⟩ := z
  exact ne_of_none z.d h
theorem Tp.nc {H : Hp} {t c b : Addr} (z : Tp H t c) (h : H b = none) : c ≠ b := by
  obtain ⟨cs, a, l, se, sa, z⟩ := z
  exact ne_of_none z.cl h
theorem Tp.upd {H : Hp} {t c b : Addr} {o : HO} (z : Tp H t c) (h1 : t ≠ b) (h2 : c ≠ b) : Tp (upd H b o) t c := by
  obtain ⟨cs, a, l, se, sa, z⟩ := z
  exact ⟨cs, a, l, se, sa, by rw [upd_ne h1]; exact z.d, by rw [upd_ne h2]; exact z.cl, z.cp, z.a0, z.l0, z.s0, z.s1⟩
theorem Tp.new {H : Hp} {t c b : Addr} {o : HO} (z : Tp H t c) (h : H b = none) : Tp (L2.upd H b o) t c := z.upd (z.nt h) (z.nc h)
section
variable {c : Addr} {a l se sa v : Int}
theorem g_cells : valV (tk c a l se sa) (.inr "cells") = some (.ref c) := by kernel_rfl
theorem g_at : valV (tk c a l se sa) (.inr "at") = some (.int a) := by kernel_rfl
theorem g_left : valV (tk c a l se sa) (.inr "left") = some (.int l) := by kernel_rfl
theorem g_seed : valV (tk c a l se sa) (.inr "seed") = some (.int se) := by kernel_rfl
theorem g_salt : valV (tk c a l se sa) (.inr "salt") = some (.int sa) := by kernel_rfl
theorem p_at : putK (tk c a l se sa) (.inr "at") (.int v) = tk c v l se sa := by kernel_rfl
theorem p_left : putK (tk c a l se sa) (.inr "left") (.int v) = tk c a v se sa := by kernel_rfl
theorem p_salt : putK (tk c a l se sa) (.inr "salt") (.int v) = tk c a l se v := by kernel_rfl
theorem tk_len : (tk c a l se sa).length < sizeLine := by
  show 5 < sizeLine
  decide
end
section
variable {H : Hp} {t c : Addr} {cs : List Int} {a l se sa v : Int}
theorem TkAt.dg (z : TkAt H t c cs a l se sa) {k : Key} {x : V} (h : valV (tk c a l se sa) k = some x) : DGet H t (kV k) (some x) := h ▸ DGet.k z.d
theorem TkAt.sAt (z : TkAt H t c cs a l se sa) (hv : 0 ≤ v) : TkAt (upd H t (.dK (tk c v l se sa))) t c cs v l se sa :=
  ⟨upd_same, by rw [upd_ne z.ne]; exact z.cl, z.cp, hv, z.l0, z.s0, z.s1⟩
theorem TkAt.sLeft (z : TkAt H t c cs a l se sa) (hv : 0 ≤ v) : TkAt (upd H t (.dK (tk c a v se sa))) t c cs a v se sa :=
  ⟨upd_same, by rw [upd_ne z.ne]; exact z.cl, z.cp, z.a0, hv, z.s0, z.s1⟩
theorem TkAt.sSalt (z : TkAt H t c cs a l se sa) : TkAt (upd H t (.dK (tk c a l se v))) t c cs a l se v :=
  ⟨upd_same, by rw [upd_ne z.ne]; exact z.cl, z.cp, z.a0, z.l0, z.s0, z.s1⟩
theorem TkAt.pAt (z : TkAt H t c cs a l se sa) : DPut H t (.str "at") (.int v) (upd H t (.dK (tk c v l se sa))) := p_at (c := c) (a := a) (l := l) (se := se) (sa := sa) (v := v) ▸ DPut.k (k := .inr "at") z.d tk_len
theorem TkAt.pLeft (z : TkAt H t c cs a l se sa) : DPut H t (.str "left") (.int v) (upd H t (.dK (tk c a v se sa))) := p_left (c := c) (a := a) (l := l) (se := se) (sa := sa) (v := v) ▸ DPut.k (k := .inr "left") z.d tk_len
theorem TkAt.pSalt (z : TkAt H t c cs a l se sa) : DPut H t (.str "salt") (.int v) (upd H t (.dK (tk c a l se v))) := p_salt (c := c) (a := a) (l := l) (se := se) (sa := sa) (v := v) ▸ DPut.k (k := .inr "salt") z.d tk_len
end

/-! ### texts -/
/-- a sign that may stand in a text -/
def okc (c : Nat) : Bool := c == 10 || (decide (32 ≤ c) && decide (c ≤ 126) && c != 37)
def OkT (z : Str) : Prop := ∀ c ∈ z.cps.toList, okc c = true
def okT (z : Str) : Bool := z.cps.toList.all okc
theorem OkT.of {z : Str} (h : okT z = true) : OkT z := List.all_eq_true.mp h
theorem OkT.append {x y : Str} (a : OkT x) (b : OkT y) : OkT (x ++ y) := fun c h => by
  rw [show (x ++ y).cps.toList = x.cps.toList ++ y.cps.toList from TL.tl_append x y] at h
  rcases List.mem_append.mp h with h | h
  · exact a c h
  · exact b c h
theorem joinL_nil : ∀ l : List (List Nat), TL.joinL [] l = l.flatten
  | [] => rfl
  | [p] => by simp [TL.joinL]
  | p :: q :: r => by
    show p ++ ([] ++ TL.joinL [] (q :: r)) = _
    rw [joinL_nil (q :: r), List.nil_append] <;> rfl
theorem tl_join0 (y : Str) (hy : TL.tl y = []) (l : List Str) : TL.tl (Txt.join y l) = (l.map TL.tl).flatten := by
  rw [TL.join_eq, TL.tl_join, hy, joinL_nil]
theorem OkT.join {y : Str} (hy : TL.tl y = []) {l : List Str} (h : ∀ z ∈ l, OkT z) : OkT (Txt.join y l) := fun c hc => by
  rw [show (Txt.join y l).cps.toList = (l.map TL.tl).flatten from tl_join0 y hy l] at hc
  obtain ⟨m, hm, hc⟩ := List.mem_flatten.mp hc
  obtain ⟨z, hz, rfl⟩ := List.mem_map.mp hm
  exact h z hz c hc
theorem sum_len_le {n : Nat} : ∀ {l : List Str}, (∀ z ∈ l, z.length ≤ n) → (l.map (·.length)).sum ≤ n * l.length
  | [], _ => by simp
  | z :: r, h => by
    have ih := sum_len_le (l := r) fun y hy => h y (List.mem_cons_of_mem _ hy)
    have h0 := h z List.mem_cons_self
    rw [List.map_cons, List.sum_cons, List.length_cons, Nat.mul_add]
    omega
theorem flat_len : ∀ l : List Str, ((l.map TL.tl).flatten).length = (l.map (·.length)).sum
  | [] => rfl
  | z :: r => by
    rw [List.map_cons, List.flatten_cons, List.length_append, flat_len r, List.map_cons, List.sum_cons, TL.len_tl z]
theorem join_len (y : Str) (hy : TL.tl y = []) (l : List Str) : (Txt.join y l).length = (l.map (·.length)).sum := by
  rw [TL.len_tl, tl_join0 y hy, flat_len]
theorem small {n : Nat} (h : n ≤ 1000000) : n ≤ sizeLine := Nat.le_trans h (by decide)

/-! ### data that are equal -/
def sca : V → Bool
  | .non => true
  | .bl _ => true
  | .int _ => true
  | .str _ => true
  | _ => false
def Al (H : Hp) : Nat → V → V → Prop
  | 0, _, _ => False
  | n + 1, x, y => (x = y ∧ sca x = true) ∨
    (∃ a b xs ys, x = .ref a ∧ y = .ref b ∧ H a = some (.tup xs) ∧ H b = some (.tup ys) ∧ xs.length = ys.length ∧ xs.length ≤ 1000000 ∧ ∀ (i : Nat) (u v : V), xs[i]? = some u → ys[i]? = some v → Al H n u v) ∨
    (∃ a b xs ys, x = .ref a ∧ y = .ref b ∧ H a = some (.lst xs) ∧ H b = some (.lst ys) ∧ xs.length = ys.length ∧ xs.length ≤ 1000000 ∧ ∀ (i : Nat) (u v : V), xs[i]? = some u → ys[i]? = some v → Al H n u v)
theorem Al.sc {H : Hp} {n : Nat} {x : V} (h : sca x = true) : Al H (n + 1) x x := .inl ⟨rfl, h⟩
theorem Al.same {H H' : Hp} (s : Same H H') : ∀ {n : Nat} {x y : V}, Al H n x y → Al H' n x y
  | 0, _, _, h => h
  | n + 1, x, y, h => by
    rcases h with h | ⟨a, b, xs, ys, e1, e2, h1, h2, hl, hm, h⟩ | ⟨a, b, xs, ys, e1, e2, h1, h2, hl, hm, h⟩
    · exact .inl h
    · exact .inr (.inl ⟨a, b, xs, ys, e1, e2, s _ _ h1, s _ _ h2, hl, hm, fun i u v p q => Al.same s (h i u v p q)⟩)
    · exact .inr (.inr ⟨a, b, xs, ys, e1, e2, s _ _ h1, s _ _ h2, hl, hm, fun i u v p q => Al.same s (h i u v p q)⟩)
theorem Al.tup {H : Hp} {n : Nat} {a b : Addr} {xs ys : List V} (h1 : H a = some (.tup xs)) (h2 : H b = some (.tup ys)) (hl : xs.length = ys.length) (hm : xs.length ≤ 1000000) (h : ∀ (i : Nat) (u v : V), xs[i]? = some u → ys[i]? = some v → Al H n u v) : Al H (n + 1) (.ref a) (.ref b) :=
  .inr (.inl ⟨a, b, xs, ys, rfl, rfl, h1, h2, hl, hm, h⟩)
theorem Al.lst {H : Hp} {n : Nat} {a b : Addr} {xs ys : List V} (h1 : H a = some (.lst xs)) (h2 : H b = some (.lst ys)) (hl : xs.length = ys.length) (hm : xs.length ≤ 1000000) (h : ∀ (i : Nat) (u v : V), xs[i]? = some u → ys[i]? = some v → Al H n u v) : Al H (n + 1) (.ref a) (.ref b) :=
  .inr (.inr ⟨a, b, xs, ys, rfl, rfl, h1, h2, hl, hm, h⟩)
/-- two tuples (lists) of the same plain values -/
theorem al_eq {H : Hp} {n : Nat} {xs : List V} (h : xs.all sca = true) : ∀ (i : Nat) (u v : V), xs[i]? = some u → xs[i]? = some v → Al H (n + 1) u v := fun i u v p q => by
  have e : u = v := Option.some.inj (p.symm.trans q)
  subst e
  exact Al.sc (List.all_eq_true.mp h u (List.mem_of_getElem? p))

/-! ### tests -/
theorem iteP {p A B : Prop} [Decidable p] (hp : p) (h : A) : if decide p = true then A else B := by
  rw [if_pos (decide_eq_true hp)]
  exact h
theorem iteN {p A B : Prop} [Decidable p] (hp : ¬ p) (h : B) : if decide p = true then A else B := by
  rw [if_neg (by rw [decide_eq_false hp]; exact Bool.false_ne_true)]
  exact h
theorem iteNN {p A B : Prop} [Decidable p] (hp : ¬ p) (h : A) : if (!decide p) = true then A else B := by
  rw [decide_eq_false hp]
  exact iteT h
theorem qP {p : Prop} [Decidable p] {Q : VK} {H : Hp} (hp : p) (h : Q (.bl true) H) : Q (.bl (decide p)) H := by
  rw [decide_eq_true hp]
  exact h
theorem none_left {P : Program} {w : World} {K : PySem.W.Frag} {mg : Str → Option Value} {base : Heap} {f : Addr} {fd : FuncData} {ps : List Str} {sp : Sp} (no : ∀ vs H Q E, ¬ sp vs H Q E) : FnOk P w K mg base CX0 0 f fd ps sp :=
  ⟨fun vs H Q E h => absurd h (no vs H Q E), fun A outer s H args us vs Q E _ _ _ _ h => absurd h (no vs H Q E)⟩

/-! ### promises of the law's own helpers -/
def spTape (K : PySem.W.Frag) : Sp := fun vs H Q _ => ∃ (a : Addr) (ns : List Int), vs = [.ref a] ∧ SqL K H a (ns.map V.int) ∧ ns.length ≤ 63 ∧ ∀ t c H', Same H H' → H t = none → H c = none → Tp H' t c → Q (.ref t) H'
def spTake : Sp := fun vs H Q _ => ∃ (t c : Addr) (n : Int), vs = [.ref t, .int n] ∧ Tp H t c ∧ 0 < n ∧ n < 1073741824 ∧ ∀ (r : Int) H', 0 ≤ r → r < n → But t H H' → Tp H' t c → Q (.int r) H'
def spIsInt : Sp := fun vs H Q _ => ∃ i : Int, vs = [.int i] ∧ Q (.bl true) H
def spSame (n : Nat) : Sp := fun vs H Q _ => ∃ x y, vs = [x, y] ∧ Al H n x y ∧ Q (.bl true) H
def spItems (n : Nat) : Sp := fun vs H Q _ => ∃ a b xs ys, vs = [.ref a, .ref b] ∧ ((H a = some (.tup xs) ∧ H b = some (.tup ys)) ∨ (H a = some (.lst xs) ∧ H b = some (.lst ys))) ∧ xs.length = ys.length ∧ xs.length ≤ 1000000 ∧
  (∀ (i : Nat) (u v : V), xs[i]? = some u → ys[i]? = some v → Al H n u v) ∧ Q (.bl true) H
def spSnippet : Sp := fun vs H Q _ => ∃ t c, vs = [.ref t] ∧ Tp H t c ∧ ∀ z H', OkT z → z.length ≤ 45 → But t H H' → Tp H' t c → Q (.str z) H'
def spChar : Sp := fun vs H Q _ => ∃ t c, vs = [.ref t] ∧ Tp H t c ∧ ∀ z H', OkT z → z.length = 1 → But t H H' → Tp H' t c → Q (.str z) H'
def spAny : Sp := fun vs H Q _ => ∃ (t c : Addr) (m : Nat), vs = [.ref t, .int m] ∧ Tp H t c ∧ m ≤ 100 ∧ ∀ z H', OkT z → z.length ≤ 45 * m → But t H H' → Tp H' t c → Q (.str z) H'

/-! ### a text walked sign by sign -/
theorem for_str {x : Str} {g : TG} {tb : TS} {D : Ends} {σ : L2.St} {H : Hp} (Pv : Nat → L2.St → Hp → Prop) (h0 : Pv 0 σ H)
    (hs : ∀ i c σ H, x.cps.toList[i]? = some c → Pv i σ H → g (.str ⟨#[c]⟩) σ H fun σ2 H2 => tb { D with nx := Pv (i + 1), ct := Pv (i + 1), bk := D.nx } σ2 H2) (hd : ∀ σ H, Pv x.cps.toList.length σ H → D.nx σ H) :
    ∃ W : Nat → Nat → L2.St → Hp → Prop, (∃ m, W 0 m σ H) ∧ ∀ i m σ H, W i m σ H →
      ((Its x).stop i H ∧ D.nx σ H) ∨ ((Its x).go i H ∧ ∃ Nx : L2.St → Hp → Prop, (∀ σ' H', Nx σ' H' → ∃ m', m' < m ∧ W (i + 1) m' σ' H') ∧ ∀ y H', (Its x).yld i H y H' → g y σ H' fun σ2 H2 => tb { D with nx := Nx, ct := Nx, bk := D.nx } σ2 H2) := by
  refine ⟨fun i m σ H => m = x.cps.toList.length - i ∧ i ≤ x.cps.toList.length ∧ Pv i σ H, ⟨x.cps.toList.length, by simp, Nat.zero_le _, h0⟩, ?_⟩
  rintro i m σ H ⟨rfl, hi, p⟩
  have hsz : x.cps.toList.length = x.cps.size := Array.length_toList
  by_cases hlt : i < x.cps.toList.length
  · refine .inr ⟨by show i < x.cps.size; omega, Pv (i + 1), fun σ' H' p' => ⟨x.cps.toList.length - (i + 1), by omega, rfl, hlt, p'⟩, fun y H' z => ?_⟩
    obtain ⟨e, c, hc, z⟩ := z
    subst e z
    exact hs i c σ _ (by rw [Array.getElem?_toList]; exact hc) p
  · have e : i = x.cps.toList.length := by omega
    subst e
    exact .inl ⟨by show x.cps.size ≤ _; omega, hd σ H p⟩
/-! ### a while by an invariant and a measure -/
theorem while_m {c : TT} {tb : TS} {D : Ends} {σ : L2.St} {H : Hp} (Pv : L2.St → Hp → Prop) (μ : L2.St → Hp → Nat) (h0 : Pv σ H)
    (hs : ∀ σ H, Pv σ H → c σ H fun b H1 => if b = true then ∃ N : L2.St → Hp → Prop, (∀ σ' H', N σ' H' → ∃ m', m' < μ σ H ∧ m' = μ σ' H' ∧ Pv σ' H') ∧ tb { D with nx := N, ct := N, bk := D.nx } σ H1 else D.nx σ H1) : tWhile c tb D σ H :=
  ⟨fun m σ H => m = μ σ H ∧ Pv σ H, ⟨_, rfl, h0⟩, fun m σ H h => by
    obtain ⟨rfl, p⟩ := h
    exact hs σ H p⟩
theorem wN {Pv : L2.St → Hp → Prop} {μ : L2.St → Hp → Nat} {k : Nat} {tb : TS} {D : Ends} {σ : L2.St} {H1 : Hp} (h : tb { D with nx := fun σ' H' => Pv σ' H' ∧ μ σ' H' < k, ct := fun σ' H' => Pv σ' H' ∧ μ σ' H' < k, bk := D.nx } σ H1) :
    ∃ N : L2.St → Hp → Prop, (∀ σ' H', N σ' H' → ∃ m', m' < k ∧ m' = μ σ' H' ∧ Pv σ' H') ∧ tb { D with nx := N, ct := N, bk := D.nx } σ H1 := ⟨_, fun _ _ n => ⟨_, n.2, rfl, n.1⟩, h⟩
def spLaw (K : PySem.W.Frag) : Sp := fun vs H Q _ => ∃ (a : Addr) (ns : List Int), vs = [.ref a] ∧ SqL K H a (ns.map V.int) ∧ ns.length ≤ 63 ∧ ∀ H', Q (.bl true) H'
end Sn

/-! Mathematics of texts: counting a sign, the last one, lines, cuts. -/
namespace Sn
open PySem PySem.Spec PyProof.Rows L2 PySem.StrLaws PySem.Builtin.Str TL
abbrev strL (l : List Nat) : Str := ⟨l.toArray⟩
/-! ### cuts -/
theorem tl_cut (z : Str) (lo hi : Option Int) : tl (cutS z lo hi) = ((tl z).drop (HT.sIx z.length 0 lo)).take (HT.sIx z.length z.length hi - HT.sIx z.length 0 lo) := rfl
theorem tl_cut_to (z : Str) (o : Nat) : tl (cutS z none (some (o : Int))) = (tl z).take o := by
  rw [tl_cut, HT.sIx_none, HT.sIx_nat, List.drop_zero, Nat.sub_zero, len_tl, List.take_eq_take_iff]
  omega
theorem tl_cut_from (z : Str) (o : Nat) : tl (cutS z (some (o : Int)) none) = (tl z).drop o := by
  rw [tl_cut, HT.sIx_none, HT.sIx_nat, len_tl]
  by_cases h : o ≤ (tl z).length
  · rw [Nat.min_eq_left h, List.take_of_length_le (by rw [List.length_drop] <;> omega)]
  · rw [Nat.min_eq_right (by omega), Nat.sub_self, List.take_zero, List.drop_eq_nil_of_le (by omega)]
theorem tl_cut_mid (z : Str) (a b : Nat) (h : a ≤ (tl z).length) : tl (cutS z (some (a : Int)) (some (b : Int))) = ((tl z).drop a).take (b - a) := by
  rw [tl_cut, HT.sIx_nat, HT.sIx_nat, len_tl, Nat.min_eq_left h, List.take_eq_take_iff, List.length_drop]
  omega
theorem len_eq (z : Str) : z.length = (tl z).length := len_tl z
/-! ### counting one sign -/
theorem drop_take_cons {l : List Nat} {a hi : Nat} (h : a < hi) (hl : hi ≤ l.length) : ∃ (h2 : a < l.length), (l.take hi).drop a = l[a] :: (l.take hi).drop (a + 1) := by
  have h2 : a < (l.take hi).length := by rw [List.length_take]; omega
  refine ⟨by omega, ?_⟩
  rw [List.drop_eq_getElem_cons h2, List.getElem_take]
theorem drop_take_nil {l : List Nat} {a hi : Nat} (h : hi ≤ a) : (l.take hi).drop a = [] := List.drop_eq_nil_of_le (by rw [List.length_take]; omega)
theorem occ_cnt (x : Str) (c hi limit : Nat) (hhi : hi ≤ (tl x).length) : ∀ (m a : Nat) (st : Array Nat × Nat), st.2 ≤ a → st.1.size + m ≤ limit → a + m = hi + 1 →
    (forIn (List.range' a m) st (occBody x ⟨#[c]⟩ hi limit)).run.fst.size = st.1.size + (((tl x).take hi).drop a).count c
  | 0, a, st, _, _, e => by
    rw [drop_take_nil (by omega)]
    rfl
  | m + 1, a, st, hf, hl, e => by
    have one : ∀ i, (i + (⟨#[c]⟩ : Str).length ≤ hi ∧ subAt x ⟨#[c]⟩ i = true) ↔ i < hi ∧ (tl x)[i]? = some c := fun i => by
      have k := subAt_one x c i
      have hx : x.length = (tl x).length := len_tl x
      have h1 : (⟨#[c]⟩ : Str).length = 1 := rfl
      constructor
      · intro h
        have z := k.mp ⟨by omega, h.2⟩
        exact ⟨by omega, z⟩
      · intro h
        have z := k.mpr h.2
        exact ⟨by omega, z.2⟩
    rw [List.range'_succ, List.forIn_cons]
    unfold occBody
    by_cases ha : a < hi
    · obtain ⟨h2, e2⟩ := drop_take_cons ha hhi
      rw [e2, List.count_cons]
      by_cases hc : (tl x)[a] = c
      · have k := (one a).mpr ⟨ha, by rw [List.getElem?_eq_getElem h2, hc]⟩
        rw [if_pos ⟨⟨⟨by omega, hf⟩, k.1⟩, k.2⟩]
        have ih := occ_cnt x c hi limit hhi m (a + 1) (st.1.push a, a + (⟨#[c]⟩ : Str).length) (Nat.le_refl _) (by show (st.1.push a).size + m ≤ limit; rw [Array.size_push]; omega) (by omega)
        have e3 : (st.1.push a).size = st.1.size + 1 := Array.size_push ..
        show (forIn (List.range' (a + 1) m) (st.1.push a, a + (⟨#[c]⟩ : Str).length) (occBody x ⟨#[c]⟩ hi limit)).run.fst.size = _
        rw [ih, e3, hc]
        simp
        omega
      · have k : ¬ ((((st.1.size < limit ∧ st.2 ≤ a) ∧ a + (⟨#[c]⟩ : Str).length ≤ hi) ∧ subAt x ⟨#[c]⟩ a = true)) := fun h => by
          have z := (one a).mp ⟨h.1.2, h.2⟩
          rw [List.getElem?_eq_getElem h2] at z
          exact hc (Option.some.inj z.2)
        rw [if_neg k]
        have ih := occ_cnt x c hi limit hhi m (a + 1) (st.1, st.2) (by show st.2 ≤ a + 1; omega) (by show st.1.size + m ≤ limit; omega) (by omega)
        show (forIn (List.range' (a + 1) m) (st.1, st.2) (occBody x ⟨#[c]⟩ hi limit)).run.fst.size = _
        rw [ih]
        have e4 : ((tl x)[a] == c) = false := beq_eq_false_iff_ne.mpr hc
        rw [e4, if_neg Bool.false_ne_true]
        rfl
    · have k : ¬ ((((st.1.size < limit ∧ st.2 ≤ a) ∧ a + (⟨#[c]⟩ : Str).length ≤ hi) ∧ subAt x ⟨#[c]⟩ a = true)) := fun h => by
        have z := (one a).mp ⟨h.1.2, h.2⟩
        omega
      rw [if_neg k]
      have em : m = 0 := by omega
      subst em
      rw [drop_take_nil (by omega)]
      rfl
theorem occ_count (x : Str) (c hi : Nat) (hhi : hi ≤ (tl x).length) : (occurrences x ⟨#[c]⟩ 0 hi (x.length + 1)).length = ((tl x).take hi).count c := by
  rw [occ_eq, Array.length_toList]
  have k := occ_cnt x c hi (x.length + 1) hhi (hi + 1 - 0) 0 (#[], 0) (Nat.le_refl _) (by show 0 + (hi + 1 - 0) ≤ x.length + 1; rw [len_tl]; omega) (by omega)
  rw [k, List.drop_zero]
  show 0 + _ = _
  omega
theorem count_all (x : Str) (c : Nat) : Txt.count x ⟨#[c]⟩ = (((tl x).count c : Nat) : Int) := by
  show (((occurrences x ⟨#[c]⟩ 0 x.length (x.length + 1)).length : Nat) : Int) = _
  rw [occ_count x c x.length (by rw [len_tl]; exact Nat.le_refl _), len_tl, List.take_length]
theorem toW (n o : Nat) (h : o ≤ n) : toIndexW n (o : Int) = o := by
  unfold toIndexW
  rw [if_neg (by omega)]
  omega
theorem fromI (n o : Nat) : fromIndex n (o : Int) = o := by
  unfold fromIndex
  rw [if_neg (by omega)]
  omega
theorem count_in (x : Str) (c o : Nat) (h : o ≤ (tl x).length) : Txt.countIn x ⟨#[c]⟩ 0 (o : Int) = ((((tl x).take o).count c : Nat) : Int) := by
  unfold Txt.countIn
  rw [toW _ _ (by rw [len_tl]; exact h), show fromIndex x.length 0 = 0 from fromI x.length 0, occ_count x c o h]
/-! ### the last newline -/
/-- how many signs stand behind the last c, k of them ahead -/
def colF (c k : Nat) : List Nat → Nat
  | [] => k
  | d :: r => if d = c then colF c 0 r else colF c (k + 1) r
theorem colF_snoc (c d : Nat) : ∀ (l : List Nat) (k : Nat), colF c k (l ++ [d]) = if d = c then 0 else colF c k l + 1
  | [], k => by
    show (if d = c then colF c 0 [] else colF c (k + 1) []) = _
    rfl
  | e :: r, k => by
    show (if e = c then colF c 0 (r ++ [d]) else colF c (k + 1) (r ++ [d])) = _
    rw [colF_snoc c d r 0, colF_snoc c d r (k + 1)]
    by_cases h : e = c
    · rw [if_pos h]
      show _ = if d = c then 0 else (if e = c then colF c 0 r else colF c (k + 1) r) + 1
      rw [if_pos h]
    · rw [if_neg h]
      show _ = if d = c then 0 else (if e = c then colF c 0 r else colF c (k + 1) r) + 1
      rw [if_neg h]
theorem colF_le (c : Nat) : ∀ (l : List Nat) (k : Nat), colF c k l ≤ k + l.length
  | [], k => Nat.le_refl _
  | e :: r, k => by
    show (if e = c then colF c 0 r else colF c (k + 1) r) ≤ k + (r.length + 1)
    have h0 := colF_le c r 0
    have h1 := colF_le c r (k + 1)
    split <;> omega
def valO : Option Nat → Nat
  | none => 0
  | some k => k + 1
theorem last_col (x : Str) (c hi : Nat) (hhi : hi ≤ (tl x).length) : ∀ (m a : Nat) (st : Option Nat), valO st ≤ a → a + m = hi + 1 → a ≤ hi →
    valO (forIn (List.range' a m) st (lastBody x ⟨#[c]⟩ hi)).run ≤ hi ∧ hi - valO (forIn (List.range' a m) st (lastBody x ⟨#[c]⟩ hi)).run = colF c (a - valO st) (((tl x).take hi).drop a)
  | 0, a, st, _, e, _ => by omega
  | m + 1, a, st, hf, e, hah => by
    have one : ∀ i, (i + (⟨#[c]⟩ : Str).length ≤ hi ∧ subAt x ⟨#[c]⟩ i = true) ↔ i < hi ∧ (tl x)[i]? = some c := fun i => by
      have k := subAt_one x c i
      have hx : x.length = (tl x).length := len_tl x
      have h1 : (⟨#[c]⟩ : Str).length = 1 := rfl
      constructor
      · intro h
        have z := k.mp ⟨by omega, h.2⟩
        exact ⟨by omega, z⟩
      · intro h
        have z := k.mpr h.2
        exact ⟨by omega, z.2⟩
    rw [List.range'_succ, List.forIn_cons]
    unfold lastBody
    by_cases ha : a < hi
    · obtain ⟨h2, e2⟩ := drop_take_cons ha hhi
      rw [e2]
      by_cases hc : (tl x)[a] = c
      · have k := (one a).mpr ⟨ha, by rw [List.getElem?_eq_getElem h2, hc]⟩
        rw [if_pos k]
        have ih := last_col x c hi hhi m (a + 1) (some a) (Nat.le_refl _) (by omega) (by omega)
        show valO (forIn (List.range' (a + 1) m) (some a) (lastBody x ⟨#[c]⟩ hi)).run ≤ hi ∧ hi - valO (forIn (List.range' (a + 1) m) (some a) (lastBody x ⟨#[c]⟩ hi)).run = if (tl x)[a] = c then _ else _
        rw [if_pos hc]
        have e5 : a + 1 - valO (some a) = 0 := by
          show a + 1 - (a + 1) = 0
          omega
        rw [e5] at ih
        exact ih
      · have k : ¬ (a + (⟨#[c]⟩ : Str).length ≤ hi ∧ subAt x ⟨#[c]⟩ a = true) := fun h => by
          have z := (one a).mp h
          rw [List.getElem?_eq_getElem h2] at z
          exact hc (Option.some.inj z.2)
        rw [if_neg k]
        have ih := last_col x c hi hhi m (a + 1) st (by omega) (by omega) (by omega)
        show valO (forIn (List.range' (a + 1) m) st (lastBody x ⟨#[c]⟩ hi)).run ≤ hi ∧ hi - valO (forIn (List.range' (a + 1) m) st (lastBody x ⟨#[c]⟩ hi)).run = if (tl x)[a] = c then _ else _
        rw [if_neg hc]
        have e5 : a + 1 - valO st = a - valO st + 1 := by omega
        rw [e5] at ih
        exact ih
    · have k : ¬ (a + (⟨#[c]⟩ : Str).length ≤ hi ∧ subAt x ⟨#[c]⟩ a = true) := fun h => by
        have z := (one a).mp h
        omega
      rw [if_neg k]
      have em : m = 0 := by omega
      subst em
      rw [drop_take_nil (by omega)]
      show valO st ≤ hi ∧ hi - valO st = a - valO st
      omega
/-- x.rfind(c, 0, o) + 1 is where the last line of x[:o] begins -/
theorem rfind_col (x : Str) (c o : Nat) (h : o ≤ (tl x).length) : ∃ b : Nat, Txt.rfindIn x ⟨#[c]⟩ 0 (o : Int) + 1 = (b : Int) ∧ b ≤ o ∧ o - b = colF c 0 ((tl x).take o) := by
  unfold Txt.rfindIn
  rw [toW _ _ (by rw [len_tl]; exact h), show fromIndex x.length 0 = 0 from fromI x.length 0, last_eq]
  have k := last_col x c o h (o + 1 - 0) 0 none (Nat.le_refl _) (by omega) (Nat.zero_le _)
  rw [List.drop_zero] at k
  refine ⟨_, ?_, k.1, k.2⟩
  cases (forIn (List.range' 0 (o + 1 - 0)) none (lastBody x ⟨#[c]⟩ o)).run with
  | none => rfl
  | some j => rfl
/-! ### lines -/
def rows (c : Nat) : List Nat → List Nat → List (List Nat)
  | acc, [] => [acc]
  | acc, d :: r => if d = c then acc :: rows c [] r else rows c (acc ++ [d]) r
theorem spl_rows (c : Nat) : ∀ (l acc : List Nat), spl [c] 0 acc l = rows c acc l
  | [], acc => by rw [spl_nil]; rfl
  | d :: r, acc => by
    by_cases h : d = c
    · have p : TL.pre [c] (d :: r) = true := by rw [h]; simp [TL.pre]
      rw [spl_hit p]
      show acc :: spl [c] 0 [] r = if d = c then _ else _
      rw [if_pos h, spl_rows c r []]
    · have p : TL.pre [c] (d :: r) = false := pre_of_head [] r h
      rw [spl_miss p, spl_rows c r (acc ++ [d])]
      show _ = if d = c then _ else _
      rw [if_neg h]
theorem split_rows (x : Str) (c : Nat) (hc : c < 256) : (Txt.split x ⟨#[c]⟩).map tl = rows c [] (tl x) := by
  rw [split_spl x ⟨#[c]⟩ (by show [c] ≠ []; simp) (kind_ok (by simp [hc]))]
  exact spl_rows c (tl x) []
theorem rows_len (c : Nat) : ∀ (l acc : List Nat), (rows c acc l).length = l.count c + 1
  | [], acc => rfl
  | d :: r, acc => by
    show (if d = c then acc :: rows c [] r else rows c (acc ++ [d]) r).length = _
    rw [List.count_cons]
    by_cases h : d = c
    · rw [if_pos h, List.length_cons, rows_len c r []]
      simp [h]
    · have h' : (d == c) = false := by simpa using h
      rw [if_neg h, rows_len c r]
      simp [h']
/-- the lengths of lines with their newlines -/
def lens (rs : List (List Nat)) : Nat := (rs.map fun r => r.length + 1).sum
theorem rows_at (c : Nat) : ∀ (l acc : List Nat) (o : Nat), o ≤ l.length → ∃ row, (rows c acc l)[(l.take o).count c]? = some row ∧ colF c acc.length (l.take o) ≤ row.length ∧
    lens ((rows c acc l).take ((l.take o).count c)) + colF c acc.length (l.take o) = acc.length + o
  | l, acc, 0, _ => by
    rw [List.take_zero]
    show ∃ row, (rows c acc l)[0]? = some row ∧ acc.length ≤ row.length ∧ lens ((rows c acc l).take 0) + acc.length = acc.length + 0
    have : ∀ (l acc : List Nat), ∃ row, (rows c acc l)[0]? = some row ∧ acc.length ≤ row.length := by
      intro l
      induction l with
      | nil => exact fun acc => ⟨acc, rfl, Nat.le_refl _⟩
      | cons d r ih =>
        intro acc
        show ∃ row, (if d = c then acc :: rows c [] r else rows c (acc ++ [d]) r)[0]? = some row ∧ _
        by_cases h : d = c
        · rw [if_pos h]
          exact ⟨acc, rfl, Nat.le_refl _⟩
        · rw [if_neg h]
          obtain ⟨row, h1, h2⟩ := ih (acc ++ [d])
          rw [List.length_append] at h2
          exact ⟨row, h1, by omega⟩
    obtain ⟨row, h1, h2⟩ := this l acc
    refine ⟨row, h1, h2, ?_⟩
    rw [List.take_zero]
    show 0 + acc.length = acc.length + 0
    omega
  | [], acc, o + 1, h => absurd h (by simp)
  | d :: r, acc, o + 1, h => by
    have ho : o ≤ r.length := by simpa using h
    rw [List.take_succ_cons, List.count_cons]
    by_cases e : d = c
    · subst e
      have ih := rows_at d r [] o ho
      obtain ⟨row, h1, h2, h3⟩ := ih
      have er : rows d acc (d :: r) = acc :: rows d [] r := by
        show (if d = d then _ else _) = _
        rw [if_pos rfl]
      have ec : colF d acc.length (d :: r.take o) = colF d 0 (r.take o) := by
        show (if d = d then _ else _) = _
        rw [if_pos rfl]
      rw [er, ec]
      simp only [beq_self_eq_true, if_true]
      refine ⟨row, by rw [List.getElem?_cons_succ]; exact h1, h2, ?_⟩
      rw [List.take_succ_cons]
      show (acc.length + 1) + lens _ + _ = _
      simp only [List.length_nil] at h3
      unfold lens at h3 ⊢
      omega
    · have er : rows c acc (d :: r) = rows c (acc ++ [d]) r := by
        show (if d = c then _ else _) = _
        rw [if_neg e]
      have ec : colF c acc.length (d :: r.take o) = colF c (acc.length + 1) (r.take o) := by
        show (if d = c then _ else _) = _
        rw [if_neg e]
      have eb : (d == c) = false := by simpa using e
      have ih := rows_at c r (acc ++ [d]) o ho
      rw [er, ec]
      simp only [eb, Bool.false_eq_true, if_false, Nat.add_zero]
      obtain ⟨row, h1, h2, h3⟩ := ih
      rw [List.length_append, List.length_singleton] at h2 h3
      exact ⟨row, h1, h2, by omega⟩
theorem join_lens (y : List Nat) (hy : y.length = 1) : ∀ rs : List (List Nat), rs ≠ [] → (joinL y rs).length + 1 = lens rs
  | [], h => absurd rfl h
  | [p], _ => by
    show p.length + 1 = (p.length + 1) + 0
    omega
  | p :: q :: r, _ => by
    show (p ++ (y ++ joinL y (q :: r))).length + 1 = (p.length + 1) + lens (q :: r)
    have ih := join_lens y hy (q :: r) (by simp)
    rw [List.length_append, List.length_append]
    omega
end Sn

/-! Mathematics of tokens. -/
namespace Sn
open PySem PySem.Spec PyProof.Rows L2 TL PySem.StrLaws PySem.Builtin.Str
/-! ### runs -/
def run (p : Nat → Bool) (l : List Nat) (i : Nat) : Nat := i + ((l.drop i).takeWhile p).length
theorem run_step {p : Nat → Bool} {l : List Nat} {i c : Nat} (h : l[i]? = some c) (hp : p c = true) : run p l i = run p l (i + 1) := by
  obtain ⟨hi, e⟩ := List.getElem?_eq_some_iff.mp h
  unfold run
  rw [List.drop_eq_getElem_cons hi, e, List.takeWhile_cons, if_pos hp, List.length_cons]
  omega
theorem run_stop {p : Nat → Bool} {l : List Nat} {i c : Nat} (h : l[i]? = some c) (hp : p c = false) : run p l i = i := by
  obtain ⟨hi, e⟩ := List.getElem?_eq_some_iff.mp h
  unfold run
  rw [List.drop_eq_getElem_cons hi, e, List.takeWhile_cons, if_neg (by rw [hp]; exact Bool.false_ne_true)]
  rfl
theorem run_end {p : Nat → Bool} {l : List Nat} {i : Nat} (h : l.length ≤ i) : run p l i = i := by
  unfold run
  rw [List.drop_eq_nil_of_le h]
  rfl
theorem run_ge (p : Nat → Bool) (l : List Nat) (i : Nat) : i ≤ run p l i := Nat.le_add_right _ _
theorem run_le {p : Nat → Bool} {l : List Nat} {i : Nat} (h : i ≤ l.length) : run p l i ≤ l.length := by
  unfold run
  have := (List.takeWhile_prefix (l := l.drop i) p).length_le
  rw [List.length_drop] at this
  omega
theorem run_at {p : Nat → Bool} {l : List Nat} : ∀ (m i a : Nat), a = i + m → (∀ k c, i ≤ k → k < a → l[k]? = some c → p c = true) → a ≤ l.length → (∀ c, l[a]? = some c → p c = false) → run p l i = a
  | 0, i, a, e, _, hl, hs => by
    have e : a = i := e
    subst e
    cases h : l[a]? with
    | none => exact run_end (List.getElem?_eq_none_iff.mp h)
    | some c => exact run_stop h (hs c h)
  | m + 1, i, a, e, hr, hl, hs => by
    have hi : i < l.length := by omega
    have hg := List.getElem?_eq_getElem hi
    rw [run_step hg (hr i _ (Nat.le_refl _) (by omega) hg)]
    exact run_at m (i + 1) a (by omega) (fun k c h1 h2 h3 => hr k c (by omega) h2 h3) hl hs
theorem run_in {p : Nat → Bool} {l : List Nat} : ∀ (m i : Nat), l.length = i + m → ∀ k c, i ≤ k → k < run p l i → l[k]? = some c → p c = true
  | 0, i, e, k, c, h1, h2, h3 => by
    rw [run_end (by omega)] at h2
    omega
  | m + 1, i, e, k, c, h1, h2, h3 => by
    have hi : i < l.length := by omega
    have hg := List.getElem?_eq_getElem hi
    by_cases hp : p l[i] = true
    · rw [run_step hg hp] at h2
      by_cases hk : k = i
      · subst hk
        rw [hg] at h3
        rw [← Option.some.inj h3]
        exact hp
      · exact run_in m (i + 1) (by omega) k c (by omega) h2 h3
    · rw [run_stop hg (Bool.eq_false_iff.mpr hp)] at h2
      omega
/-! ### signs -/
def isL (c : Nat) : Bool := (decide (97 ≤ c) && decide (c ≤ 122)) || (decide (65 ≤ c) && decide (c ≤ 90))
def isD (c : Nat) : Bool := decide (48 ≤ c) && decide (c ≤ 57)
def isW (c : Nat) : Bool := isL c || (isD c || c == 95)
def wds : List Str := ["\x69mport", "data", "trait", "with", "impl", "for", "def", "let", "in", "if", "then", "else", "loop", "times", "do", "not", "and", "or", "True", "False"]
def sgs : Str := "()[],:.=<+-*/"
/-- x.find(c, o): the end of the run of other signs, or -1 -/
theorem find_run (x : Str) (c o : Nat) (ho : o ≤ (tl x).length) : Txt.find3 x ⟨#[c]⟩ (o : Int) = if run (fun d => d != c) (tl x) o < (tl x).length then ((run (fun d => d != c) (tl x) o : Nat) : Int) else -1 := by
  have hx : x.length = (tl x).length := len_tl x
  have one : ∀ i, At x ⟨#[c]⟩ x.length i ↔ (tl x)[i]? = some c := fun i => subAt_one x c i
  have hf : fromIndex x.length (o : Int) = o := fromI _ _
  have h3 : Txt.find3 x ⟨#[c]⟩ (o : Int) = (match occurrences x ⟨#[c]⟩ o x.length 1 with | k :: _ => (k : Int) | [] => -1) := by
    show (match occurrences x ⟨#[c]⟩ (fromIndex x.length (o : Int)) x.length 1 with | k :: _ => (k : Int) | [] => -1) = _
    rw [hf]
  rw [h3, occ_eq]
  rcases occ_first x ⟨#[c]⟩ x.length 1 (Nat.le_refl 1) (List.range' o (x.length + 1 - o)) o (fun i hi => (List.mem_range'_1.mp hi).1) with ⟨h0, hn⟩ | ⟨pre, a, post, e, h0, ha, hn⟩
  · rw [h0]
    have er : run (fun d => d != c) (tl x) o = (tl x).length := run_at ((tl x).length - o) o (tl x).length (by omega) (fun k d h1 h2 h4 => by
      have k2 := hn k (List.mem_range'_1.mpr ⟨h1, by omega⟩)
      rw [one, h4] at k2
      simpa using fun z : d = c => k2 (by rw [z])) (Nat.le_refl _) (fun d h => by
        rw [List.getElem?_eq_none (Nat.le_refl _)] at h
        cases h)
    rw [er, if_neg (Nat.lt_irrefl _)]
  · have hoa : o ≤ a ∧ a < o + (x.length + 1 - o) := List.mem_range'_1.mp (by rw [e]; simp)
    have hac := (one a).mp ha
    have hal := (List.getElem?_eq_some_iff.mp hac).1
    have hpre : ∀ k, o ≤ k → k < a → k ∈ pre := by
      intro k h1 h2
      have hm : k ∈ List.range' o (x.length + 1 - o) := List.mem_range'_1.mpr ⟨h1, by omega⟩
      rw [e] at hm
      rcases List.mem_append.mp hm with hm | hm
      · exact hm
      · have hs : (List.range' o (x.length + 1 - o)).Pairwise (· < ·) := by
          first
            | exact List.pairwise_lt_range'
            | simpa using List.pairwise_lt_range' (s := o) (n := x.length + 1 - o)
        rw [e] at hs
        have h5 := (List.pairwise_cons.mp (List.pairwise_append.mp hs).2.1).1
        rcases List.mem_cons.mp hm with hm | hm
        · omega
        · have := h5 k hm
          omega
    have er : run (fun d => d != c) (tl x) o = a := run_at (a - o) o a (by omega) (fun k d h1 h2 h4 => by
      have k2 := hn k (hpre k h1 h2)
      rw [one, h4] at k2
      simpa using fun z : d = c => k2 (by rw [z])) (by omega) (fun d h => by
        rw [hac] at h
        rw [← Option.some.inj h]
        simp)
    rw [er, if_pos hal]
    generalize (forIn (List.range' o (x.length + 1 - o)) ((#[] : Array Nat), o) (occBody x ⟨#[c]⟩ x.length 1)).run.fst = arr at h0
    have h1 : arr.toList[0]? = some a := by simpa using h0
    cases hL : arr.toList with
    | nil => rw [hL] at h1; cases h1
    | cons b t =>
      rw [hL] at h1
      have : b = a := Option.some.inj h1
      rw [this]
/-! ### tokens -/
abbrev Tok := Str × Nat × Nat
def tokC (l : List Nat) (i c : Nat) : Tok :=
  if isL c = true then (if inV (.str (strL ((l.drop i).take (run isW l i - i)))) (wds.map V.str) = true then "word" else "name", i, run isW l i)
  else if isD c = true then ("number", i, run isD l i)
  else if (l.drop i).take 2 = [61, 61] then ("sign", i, i + 2)
  else (if c ∈ tl sgs then "sign" else "wrong", i, i + 1)
theorem tok_end {l : List Nat} {i c : Nat} (h : l[i]? = some c) : i < (tokC l i c).2.2 ∧ (tokC l i c).2.2 ≤ l.length := by
  have hi := (List.getElem?_eq_some_iff.mp h).1
  unfold tokC
  by_cases h1 : isL c = true
  · rw [if_pos h1]
    have hw : isW c = true := by unfold isW; rw [h1]; rfl
    have := run_ge isW l (i + 1)
    have h4 := run_le (p := isW) (l := l) (i := i) (by omega)
    have := run_step h hw
    exact ⟨by show i < run isW l i; omega, h4⟩
  · rw [if_neg h1]
    by_cases h2 : isD c = true
    · rw [if_pos h2]
      have := run_ge isD l (i + 1)
      have h3 := run_le (p := isD) (l := l) (i := i) (by omega)
      have := run_step h h2
      exact ⟨by show i < run isD l i; omega, h3⟩
    · rw [if_neg h2]
      by_cases h3 : (l.drop i).take 2 = [61, 61]
      · rw [if_pos h3]
        have := congrArg List.length h3
        rw [List.length_take, List.length_drop] at this
        have e : ([61, 61] : List Nat).length = 2 := rfl
        exact ⟨by show i < i + 2; omega, by show i + 2 ≤ l.length; omega⟩
      · rw [if_neg h3]
        exact ⟨by show i < i + 1; omega, by show i + 1 ≤ l.length; omega⟩
/-- the tokens at the places of s, the first of which is a; none begins ahead of b; cm: in a comment -/
def scan (l : List Nat) : List Nat → Nat → Nat → Bool → List Tok
  | [], _, _, _ => []
  | c :: r, a, b, cm =>
    if a < b ∨ (cm = true ∧ c ≠ 10) ∨ c = 32 ∨ c = 10 then scan l r (a + 1) b (cm && c != 10)
    else if c = 35 then scan l r (a + 1) b true
    else tokC l a c :: scan l r (a + 1) (tokC l a c).2.2 false
theorem scan_behind (l : List Nat) : ∀ (s : List Nat) (a b : Nat) (cm : Bool), b ≤ a → scan l s a b cm = scan l s a 0 cm
  | [], _, _, _, _ => rfl
  | c :: r, a, b, cm, h => by
    show (if a < b ∨ _ then _ else _) = (if a < 0 ∨ _ then _ else _)
    have e : (a < b ∨ (cm = true ∧ c ≠ 10) ∨ c = 32 ∨ c = 10) ↔ (a < 0 ∨ (cm = true ∧ c ≠ 10) ∨ c = 32 ∨ c = 10) :=
      ⟨fun z => z.elim (fun k => absurd k (by omega)) .inr, fun z => z.elim (fun k => absurd k (by omega)) .inr⟩
    by_cases k : a < 0 ∨ (cm = true ∧ c ≠ 10) ∨ c = 32 ∨ c = 10
    · rw [if_pos (e.mpr k), if_pos k, scan_behind l r (a + 1) b _ (by omega)]
    · rw [if_neg fun z => k (e.mp z), if_neg k, scan_behind l r (a + 1) b _ (by omega)]
theorem scan_skip (l : List Nat) : ∀ (s : List Nat) (a b : Nat), a ≤ b → scan l s a b false = scan l (s.drop (b - a)) b 0 false
  | [], a, b, _ => by rw [List.drop_nil]; rfl
  | c :: r, a, b, h => by
    by_cases e : a = b
    · subst e
      rw [Nat.sub_self, List.drop_zero, scan_behind l (c :: r) a a false (Nat.le_refl _)]
    · show (if a < b ∨ _ then _ else _) = _
      rw [if_pos (.inl (by omega))]
      have e2 : b - a = (b - (a + 1)) + 1 := by omega
      rw [e2, List.drop_succ_cons]
      exact scan_skip l r (a + 1) b (by omega)
theorem scan_comment (l : List Nat) : ∀ (k : Nat) (s : List Nat) (a : Nat), (∀ j, j < k → s[j]? ≠ some 10) → (s[k]? = none ∨ s[k]? = some 10) → scan l s a 0 true = scan l (s.drop k) (a + k) 0 false
  | 0, s, a, _, h => by
    rw [List.drop_zero, Nat.add_zero]
    cases s with
    | nil => rfl
    | cons c r =>
      have hc : c = 10 := by
        rcases h with h | h
        · cases h
        · exact Option.some.inj h
      subst hc
      show (if _ then _ else _) = (if _ then _ else _)
      rw [if_pos (.inr (.inr (.inr rfl))), if_pos (.inr (.inr (.inr rfl)))]
      rfl
  | k + 1, [], a, _, _ => by rw [List.drop_nil]; rfl
  | k + 1, c :: r, a, hn, h => by
    have hc : c ≠ 10 := fun z => hn 0 (by omega) (by rw [z]; rfl)
    show (if _ then _ else _) = _
    rw [if_pos (.inr (.inl ⟨rfl, hc⟩)), List.drop_succ_cons]
    have e : (true && c != 10) = true := by simpa using hc
    rw [e, scan_comment l k r (a + 1) (fun j hj => hn (j + 1) (by omega)) h]
    congr 1
    omega
/-- the tokens that begin from a on, ahead of e -/
def toks (l : List Nat) (a e : Nat) : List Tok := scan l ((l.take e).drop a) a 0 false
theorem toks_end {l : List Nat} {a e : Nat} (h : e ≤ a) : toks l a e = [] := by
  unfold toks
  rw [drop_take_nil h]
  rfl
section
variable {l : List Nat} {a e c : Nat}
theorem toks_cons (he : e ≤ l.length) (ha : a < e) (hc : l[a]? = some c) : toks l a e = if c = 32 ∨ c = 10 then toks l (a + 1) e else if c = 35 then scan l ((l.take e).drop (a + 1)) (a + 1) 0 true else tokC l a c :: scan l ((l.take e).drop (a + 1)) (a + 1) (tokC l a c).2.2 false := by
  obtain ⟨h2, e2⟩ := drop_take_cons ha he
  have ec : l[a] = c := Option.some.inj ((List.getElem?_eq_getElem h2).symm.trans hc)
  unfold toks
  rw [e2, ec]
  show (if _ then _ else _) = _
  by_cases h : c = 32 ∨ c = 10
  · rw [if_pos (.inr (.inr h)), if_pos h]
    rfl
  · rw [if_neg (by rintro (z | ⟨z, _⟩ | z); · omega
                   · cases z
                   · exact h z), if_neg h]
theorem toks_blank (he : e ≤ l.length) (ha : a < e) (hc : l[a]? = some c) (h : c = 32 ∨ c = 10) : toks l a e = toks l (a + 1) e := by
  rw [toks_cons he ha hc, if_pos h]
theorem toks_note (he : e ≤ l.length) (ha : a < e) (hc : l[a]? = some 35) : toks l a e = toks l (run (fun d => d != 10) l a) e := by
  have r1 : run (fun d => d != 10) l a = run (fun d => d != 10) l (a + 1) := run_step hc rfl
  have r2 := run_ge (fun d => d != 10) l (a + 1)
  have r3 := run_le (p := fun d => d != 10) (l := l) (i := a) (by omega)
  rw [toks_cons he ha hc, if_neg (by decide), if_pos rfl]
  unfold toks
  generalize hJ : run (fun d => d != 10) l a = J at r1 r3 ⊢
  have hin : ∀ (k d : Nat), a ≤ k → k < J → l[k]? = some d → (d != 10) = true := fun k d h1 h2 h3 => run_in (p := fun d => d != 10) (l := l) (l.length - a) a (by omega) k d h1 (by rw [hJ]; exact h2) h3
  have gs : ∀ j, ((l.take e).drop (a + 1))[j]? = if a + 1 + j < e then l[a + 1 + j]? else none := fun j => by
    rw [List.getElem?_drop, List.getElem?_take]
  by_cases hJe : J < e
  · rw [scan_comment l (J - (a + 1)) ((l.take e).drop (a + 1)) (a + 1) ?_ ?_, List.drop_drop, show a + 1 + (J - (a + 1)) = J by omega]
    · intro j hj
      rw [gs, if_pos (by omega)]
      intro z
      have := hin (a + 1 + j) 10 (by omega) (by omega) z
      simp at this
    · rw [gs, if_pos (by omega), show a + 1 + (J - (a + 1)) = J by omega]
      cases h : l[J]? with
      | none => exact .inl rfl
      | some d =>
        refine .inr (congrArg some ?_)
        by_cases hd : d = 10
        · exact hd
        · have k1 := run_step (p := fun d => d != 10) h (by simpa using hd)
          have k2 := run_ge (fun d => d != 10) l (J + 1)
          have k3 : run (fun d => d != 10) l J = J := by
            have hJ2 : run (fun d => d != 10) l a = J := hJ
            unfold run at hJ2 ⊢
            have e1 : (l.drop a).dropWhile (fun d => d != 10) = l.drop J := by
              rw [← hJ2, ← List.drop_drop]
              conv => rhs; rw [← List.takeWhile_append_dropWhile (p := fun d => d != 10) (l := l.drop a)]
              rw [List.drop_left' (by rw [List.takeWhile_append_dropWhile])]
            have e2 : (l.drop J).takeWhile (fun d => d != 10) = [] := by
              rw [← e1]
              cases hw : (l.drop a).dropWhile (fun d => d != 10) with
              | nil => rfl
              | cons x t =>
                have := List.head?_dropWhile_not (fun d => d != 10) (l.drop a)
                rw [hw] at this
                simp at this
                rw [List.takeWhile_cons, if_neg]
                simpa using this
            rw [e2]
            rfl
          omega
  · have hJe2 : e ≤ J := by omega
    rw [drop_take_nil hJe2, scan_comment l ((l.take e).drop (a + 1)).length ((l.take e).drop (a + 1)) (a + 1) ?_ (.inl (List.getElem?_eq_none (Nat.le_refl _))), List.drop_length]
    · rfl
    · intro j hj
      rw [List.length_drop, List.length_take] at hj
      rw [gs, if_pos (by omega)]
      intro z
      have := hin (a + 1 + j) 10 (by omega) (by omega) z
      simp at this
theorem toks_tok (he : e ≤ l.length) (ha : a < e) (hc : l[a]? = some c) (h1 : ¬ (c = 32 ∨ c = 10)) (h2 : c ≠ 35) : toks l a e = tokC l a c :: toks l (tokC l a c).2.2 e := by
  rw [toks_cons he ha hc, if_neg h1, if_neg h2]
  have k := tok_end hc
  rw [scan_skip l _ (a + 1) (tokC l a c).2.2 (by omega), List.drop_drop]
  unfold toks
  rw [show a + 1 + ((tokC l a c).2.2 - (a + 1)) = (tokC l a c).2.2 by omega]
end
/-! ### a list of tuples -/
def LT (H : Hp) (p : Addr) (xss : List (List V)) : Prop := ∃ rs : List Addr, H p = some (.lst (rs.map V.ref)) ∧ rs.length = xss.length ∧ ∀ (i : Nat) (r : Addr) (xs : List V), rs[i]? = some r → xss[i]? = some xs → H r = some (.tup xs)
theorem LT.same {H H' : Hp} {p : Addr} {xss : List (List V)} (s : Same H H') : LT H p xss → LT H' p xss := fun ⟨rs, h1, h2, h3⟩ => ⟨rs, s _ _ h1, h2, fun i r xs a b => s _ _ (h3 i r xs a b)⟩
theorem LT.push {H : Hp} {p r : Addr} {xss : List (List V)} {xs : List V} (h : LT H p xss) (hr : H r = some (.tup xs)) : ∃ ys, H p = some (.lst ys) ∧ ys.length = xss.length ∧ LT (upd H p (.lst (ys ++ [.ref r]))) p (xss ++ [xs]) := by
  obtain ⟨rs, h1, h2, h3⟩ := h
  refine ⟨rs.map V.ref, h1, by rw [List.length_map]; exact h2, rs ++ [r], by rw [upd_same, List.map_append]; rfl, by simp [h2], fun i x ys a b => ?_⟩
  by_cases hi : i < rs.length
  · rw [List.getElem?_append_left hi] at a
    rw [List.getElem?_append_left (by omega)] at b
    have k := h3 i x ys a b
    rw [upd_ne (ne_of k h1 (by intro z; cases z))]
    exact k
  · have hi2 : i = rs.length := by
      have := (List.getElem?_eq_some_iff.mp a).1
      rw [List.length_append, List.length_singleton] at this
      omega
    subst hi2
    rw [List.getElem?_append_right (Nat.le_refl _), Nat.sub_self] at a
    rw [List.getElem?_append_right (by omega), h2, Nat.sub_self] at b
    cases a
    cases b
    rw [upd_ne (ne_of hr h1 (by intro z; cases z))]
    exact hr
theorem LT.al {H : Hp} {p q : Addr} {xss : List (List V)} (h : LT H p xss) (g : LT H q xss) (hl : xss.length ≤ 1000000) (hx : ∀ xs ∈ xss, xs.all sca = true ∧ xs.length ≤ 1000000) : Al H 4 (.ref p) (.ref q) := by
  obtain ⟨rs, h1, h2, h3⟩ := h
  obtain ⟨ts, g1, g2, g3⟩ := g
  refine Al.lst h1 g1 (by rw [List.length_map, List.length_map, h2, g2]) (by rw [List.length_map, h2]; exact hl) fun i u v a b => ?_
  rw [List.getElem?_map] at a b
  cases ea : rs[i]? with
  | none => rw [ea] at a; cases a
  | some r =>
    cases eb : ts[i]? with
    | none => rw [eb] at b; cases b
    | some t =>
      rw [ea] at a
      rw [eb] at b
      have e1 : u = V.ref r := (Option.some.inj a).symm
      have e2 : v = V.ref t := (Option.some.inj b).symm
      subst e1 e2
      have hi : i < xss.length := by
        rw [← h2]
        exact (List.getElem?_eq_some_iff.mp ea).1
      have k1 := h3 i r xss[i] ea (List.getElem?_eq_getElem hi)
      have k2 := g3 i t xss[i] eb (List.getElem?_eq_getElem hi)
      obtain ⟨s1, s2⟩ := hx _ (List.getElem_mem hi)
      exact Al.tup k1 k2 rfl s2 (al_eq (n := 1) s1)
def tkV (x : Tok) : List V := [.str x.1, .int (x.2.1 : Int), .int (x.2.2 : Int)]
theorem tkV_sca (ts : List Tok) : ∀ xs ∈ ts.map tkV, xs.all sca = true ∧ xs.length ≤ 1000000 := fun xs h => by
  obtain ⟨x, _, rfl⟩ := List.mem_map.mp h
  exact ⟨rfl, by show 3 ≤ 1000000; decide⟩
end Sn

/-! The mirror of the parser: data, trees, reading. -/
namespace Sn
open PySem PySem.Spec PyProof.Rows L2 TL
/-! ### data -/
inductive D where
  | non
  | bl (b : Bool)
  | int (i : Int)
  | str (x : Str)
  | tup (l : D)
  | nil
  | cons (h t : D)
def ofL : List D → D
  | [] => .nil
  | d :: r => .cons d (ofL r)
mutual
/-- v stands for the data -/
def DT (H : Hp) : D → V → Prop
  | .non, v => v = .non
  | .bl b, v => v = .bl b
  | .int i, v => v = .int i
  | .str s, v => v = .str s
  | .tup l, v => ∃ a vs, v = .ref a ∧ H a = some (.tup vs) ∧ vs.length ≤ 1000000 ∧ DTs H l vs
  | .nil, _ => False
  | .cons _ _, _ => False
def DTs (H : Hp) : D → List V → Prop
  | .nil, vs => vs = []
  | .cons h t, vs => ∃ v r, vs = v :: r ∧ DT H h v ∧ DTs H t r
  | .non, _ => False
  | .bl _, _ => False
  | .int _, _ => False
  | .str _, _ => False
  | .tup _, _ => False
end
/-- tuples stay -/
def Tups (H H' : Hp) : Prop := ∀ a vs, H a = some (.tup vs) → H' a = some (.tup vs)
mutual
theorem DT.keep {H H' : Hp} (s : Tups H H') : ∀ (d : D) (v : V), DT H d v → DT H' d v
  | .non, _, h => h
  | .bl _, _, h => h
  | .int _, _, h => h
  | .str _, _, h => h
  | .tup l, v, h => by
    unfold DT at h ⊢
    obtain ⟨a, vs, e, h1, h2, h3⟩ := h
    exact ⟨a, vs, e, s _ _ h1, h2, DTs.keep s l vs h3⟩
  | .nil, _, h => by unfold DT at h; exact h.elim
  | .cons _ _, _, h => by unfold DT at h; exact h.elim
theorem DTs.keep {H H' : Hp} (s : Tups H H') : ∀ (d : D) (vs : List V), DTs H d vs → DTs H' d vs
  | .nil, _, h => h
  | .cons a t, vs, h => by
    unfold DTs at h ⊢
    obtain ⟨v, r, e, h1, h2⟩ := h
    exact ⟨v, r, e, DT.keep s a v h1, DTs.keep s t r h2⟩
  | .non, _, h => by unfold DTs at h; exact h.elim
  | .bl _, _, h => by unfold DTs at h; exact h.elim
  | .int _, _, h => by unfold DTs at h; exact h.elim
  | .str _, _, h => by unfold DTs at h; exact h.elim
  | .tup _, _, h => by unfold DTs at h; exact h.elim
end
/-- how deep data are -/
def dep : D → Nat
  | .tup l => dep l + 1
  | .cons h t => max (dep h) (dep t)
  | _ => 0
mutual
theorem DT.al {H : Hp} : ∀ (d : D) (x y : V) (n : Nat), dep d < n → DT H d x → DT H d y → Al H n x y
  | .non, x, y, n, hn, h1, h2 => by
    obtain ⟨m, rfl⟩ : ∃ m, n = m + 1 := ⟨n - 1, by omega⟩
    unfold DT at h1 h2
    subst h1 h2
    exact Al.sc rfl
  | .bl b, x, y, n, hn, h1, h2 => by
    obtain ⟨m, rfl⟩ : ∃ m, n = m + 1 := ⟨n - 1, by omega⟩
    unfold DT at h1 h2
    subst h1 h2
    exact Al.sc rfl
  | .int i, x, y, n, hn, h1, h2 => by
    obtain ⟨m, rfl⟩ : ∃ m, n = m + 1 := ⟨n - 1, by omega⟩
    unfold DT at h1 h2
    subst h1 h2
    exact Al.sc rfl
  | .str s, x, y, n, hn, h1, h2 => by
    obtain ⟨m, rfl⟩ : ∃ m, n = m + 1 := ⟨n - 1, by omega⟩
    unfold DT at h1 h2
    subst h1 h2
    exact Al.sc rfl
  | .tup l, x, y, n, hn, h1, h2 => by
    obtain ⟨m, rfl⟩ : ∃ m, n = m + 1 := ⟨n - 1, by omega⟩
    unfold DT at h1 h2
    obtain ⟨a, xs, rfl, ha, hl, k1⟩ := h1
    obtain ⟨b, ys, rfl, hb, _, k2⟩ := h2
    have hd : dep l < m := by
      have : dep (.tup l) = dep l + 1 := rfl
      omega
    have q := DTs.al l xs ys m hd k1 k2
    exact Al.tup ha hb q.1 hl q.2
  | .nil, _, _, _, _, h, _ => by unfold DT at h; exact h.elim
  | .cons _ _, _, _, _, _, h, _ => by unfold DT at h; exact h.elim
theorem DTs.al {H : Hp} : ∀ (d : D) (xs ys : List V) (n : Nat), dep d < n → DTs H d xs → DTs H d ys → xs.length = ys.length ∧ ∀ (i : Nat) (u v : V), xs[i]? = some u → ys[i]? = some v → Al H n u v
  | .nil, xs, ys, n, hn, h1, h2 => by
    unfold DTs at h1 h2
    subst h1 h2
    exact ⟨rfl, fun i u v h => by simp at h⟩
  | .cons a t, xs, ys, n, hn, h1, h2 => by
    unfold DTs at h1 h2
    obtain ⟨x, r, rfl, p1, p2⟩ := h1
    obtain ⟨y, q, rfl, p3, p4⟩ := h2
    have e : dep (.cons a t) = max (dep a) (dep t) := rfl
    have k := DTs.al t r q n (by omega) p2 p4
    refine ⟨by rw [List.length_cons, List.length_cons, k.1], fun i u v g1 g2 => ?_⟩
    cases i with
    | zero =>
      have e1 : x = u := by simpa using g1
      have e2 : y = v := by simpa using g2
      subst e1 e2
      exact DT.al a x y n (by omega) p1 p3
    | succ i => exact k.2 i u v (by simpa using g1) (by simpa using g2)
  | .non, _, _, _, _, h, _ => by unfold DTs at h; exact h.elim
  | .bl _, _, _, _, _, h, _ => by unfold DTs at h; exact h.elim
  | .int _, _, _, _, _, h, _ => by unfold DTs at h; exact h.elim
  | .str _, _, _, _, _, h, _ => by unfold DTs at h; exact h.elim
  | .tup _, _, _, _, _, h, _ => by unfold DTs at h; exact h.elim
end
theorem DT.str {H : Hp} {s : Str} : DT H (.str s) (.str s) := by unfold DT; rfl
theorem DT.int {H : Hp} {i : Int} : DT H (.int i) (.int i) := by unfold DT; rfl
theorem DT.bl {H : Hp} {b : Bool} : DT H (.bl b) (.bl b) := by unfold DT; rfl
theorem DT.non {H : Hp} : DT H .non .non := by unfold DT; rfl
theorem DTs.nil {H : Hp} : DTs H .nil [] := by unfold DTs; rfl
theorem DTs.cons {H : Hp} {h t : D} {v : V} {r : List V} (a : DT H h v) (b : DTs H t r) : DTs H (.cons h t) (v :: r) := by unfold DTs; exact ⟨v, r, rfl, a, b⟩
theorem DT.tup {H : Hp} {l : D} {a : Addr} {vs : List V} (h : H a = some (.tup vs)) (hl : vs.length ≤ 1000000) (k : DTs H l vs) : DT H (.tup l) (.ref a) := by unfold DT; exact ⟨a, vs, rfl, h, hl, k⟩
theorem DTs.snoc {H : Hp} {d : D} {v : V} (hd : DT H d v) : ∀ (ds : List D) (vs : List V), DTs H (ofL ds) vs → DTs H (ofL (ds ++ [d])) (vs ++ [v])
  | [], vs, h => by
    unfold ofL DTs at h
    subst h
    exact DTs.cons hd DTs.nil
  | a :: r, vs, h => by
    have h : DTs H (.cons a (ofL r)) vs := h
    unfold DTs at h
    obtain ⟨x, q, rfl, h1, h2⟩ := h
    exact DTs.cons h1 (DTs.snoc hd r q h2)
theorem DTs.len {H : Hp} : ∀ (ds : List D) (vs : List V), DTs H (ofL ds) vs → vs.length = ds.length
  | [], vs, h => by
    unfold ofL DTs at h
    subst h
    rfl
  | a :: r, vs, h => by
    have h : DTs H (.cons a (ofL r)) vs := h
    unfold DTs at h
    obtain ⟨x, q, rfl, _, h2⟩ := h
    rw [List.length_cons, List.length_cons, DTs.len r q h2]
/-! ### trees -/
structure Tn where
  tag : Str
  s : Nat
  e : Nat
  rest : List D
def Tn.d (t : Tn) : D := .tup (.cons (.str t.tag) (.cons (.int (t.s : Int)) (.cons (.int (t.e : Int)) (ofL t.rest))))
/-- a tree's tuple -/
theorem Tn.at_ {H : Hp} {t : Tn} {v : V} (h : DT H t.d v) : ∃ a r, v = .ref a ∧ H a = some (.tup (.str t.tag :: .int (t.s : Int) :: .int (t.e : Int) :: r)) ∧ DTs H (ofL t.rest) r ∧ r.length + 3 ≤ 1000000 := by
  unfold Tn.d DT at h
  obtain ⟨a, vs, rfl, h1, h2, h3⟩ := h
  unfold DTs DTs DTs at h3
  obtain ⟨v1, r1, rfl, k1, v2, r2, rfl, k2, v3, r3, rfl, k3, k4⟩ := h3
  unfold DT at k1 k2 k3
  subst k1 k2 k3
  exact ⟨a, r3, rfl, h1, k4, h2⟩
theorem Tn.mk_ {H : Hp} {t : Tn} {a : Addr} {r : List V} (h : H a = some (.tup (.str t.tag :: .int (t.s : Int) :: .int (t.e : Int) :: r))) (k : DTs H (ofL t.rest) r) (hl : r.length + 3 ≤ 1000000) : DT H t.d (.ref a) :=
  DT.tup h hl (.cons DT.str (.cons DT.int (.cons DT.int k)))
/-! ### reading -/
structure Src where
  r : Addr
  l : List Nat
  ts : List Tok
inductive Rs (α : Type) where
  | ok (x : α) (a : Nat)
  | no (s e : Nat)
  | un
def Rs.bind {α β : Type} : Rs α → (α → Nat → Rs β) → Rs β
  | .ok x a, f => f x a
  | .no s e, _ => .no s e
  | .un, _ => .un
namespace Src
variable (S : Src)
def n : Nat := S.ts.length
def wd (a : Nat) : List Nat := match S.ts[a]? with
  | some t => (S.l.drop t.2.1).take (t.2.2 - t.2.1)
  | none => []
def so (a : Nat) : Str := match S.ts[a]? with
  | some t => t.1
  | none => ""
def st (a : Nat) : Nat := match S.ts[a]? with
  | some t => t.2.1
  | none => 0
def en (a : Nat) : Nat := match S.ts[a]? with
  | some t => t.2.2
  | none => 0
def fp (a : Nat) : Nat × Nat := match S.ts[a]? with
  | some t => (t.2.1, t.2.2)
  | none => match S.ts.getLast? with
    | some t => (t.2.2, t.2.2)
    | none => (0, 0)
def fail {α : Type} (a : Nat) : Rs α := .no (S.fp a).1 (S.fp a).2
/-- the words, as they are compared -/
def name : Str := "name"
def number : Str := "number"
def isN (a : Nat) : Bool := decide (S.so a = name)
def eqW (a : Nat) (w : Str) : Bool := decide (S.wd a = tl w)
def numv (l : List Nat) : Int := l.foldl (fun (v : Int) (c : Nat) => (v * 10 + ((c : Int) - 48)) % 4294967296) 0
def strW (a : Nat) : D := .str (strL (S.wd a))
/-- what is read behind a word -/
def part (V : Nat → Rs Tn) (w : Str) (a : Nat) : Rs Tn := if S.eqW a w = true then V (a + 1) else S.fail a
def letM (V : Nat → Rs Tn) (s a : Nat) : Rs Tn :=
  if S.isN a = true then (S.part V "=" (a + 1)).bind fun v a1 => (S.part V "in" a1).bind fun b a2 => .ok ⟨"let", s, b.e, [S.strW a, .int (S.st a : Int), v.d, b.d]⟩ a2 else S.fail a
def ifM (V : Nat → Rs Tn) (s a : Nat) : Rs Tn :=
  (V a).bind fun t a1 => (S.part V "then" a1).bind fun y a2 => (S.part V "else" a2).bind fun z a3 => .ok ⟨"if", s, z.e, [t.d, y.d, z.d]⟩ a3
def loopM (V : Nat → Rs Tn) (s a : Nat) : Rs Tn :=
  if S.isN a = true then (S.part V "=" (a + 1)).bind fun f a1 => (S.part V "times" a1).bind fun c a2 => (S.part V "do" a2).bind fun p a3 =>
    .ok ⟨"loop", s, p.e, [S.strW a, .int (S.st a : Int), f.d, c.d, p.d]⟩ a3 else S.fail a
/-- arguments behind the first -/
def argsM (V : Nat → Rs Tn) (s0 : Nat) (nm : D) (acc : List D) (a : Nat) : Rs Tn :=
  if S.eqW a "," = true then
    match V (a + 1) with
    | .ok t a' => if h : a < a' ∧ a < S.n then argsM V s0 nm (acc ++ [t.d]) a' else .un
    | .no s e => .no s e
    | .un => .un
  else if S.eqW a ")" = true then .ok ⟨"call", s0, S.en a, [nm, .tup (ofL acc)]⟩ (a + 1) else S.fail a
termination_by S.n + 1 - a
def namedM (V : Nat → Rs Tn) (a : Nat) : Rs Tn :=
  if S.isN a = true then
    if S.eqW (a + 1) "(" = true then
      if S.eqW (a + 2) ")" = true then .ok ⟨"call", S.st a, S.en (a + 2), [S.strW a, .tup .nil]⟩ (a + 3)
      else (V (a + 2)).bind fun t a' => S.argsM V (S.st a) (S.strW a) [t.d] a'
    else .ok ⟨"name", S.st a, S.en a, [S.strW a]⟩ (a + 1)
  else S.fail a
def simpM (V : Nat → Rs Tn) (a : Nat) : Rs Tn :=
  if S.isN a = true then S.namedM V a
  else if decide (S.so a = number) = true then .ok ⟨"number", S.st a, S.en a, [.int (numv (S.wd a))]⟩ (a + 1)
  else if S.eqW a "(" = true then (V (a + 1)).bind fun t a' => if S.eqW a' ")" = true then .ok ⟨"group", S.st a, S.en a', [t.d]⟩ (a' + 1) else S.fail a'
  else if (S.eqW a "True" || S.eqW a "False") = true then .ok ⟨"truth", S.st a, S.en a, [.bl (S.eqW a "True")]⟩ (a + 1)
  else S.fail a
def dotsM (t : Tn) (a : Nat) : Rs Tn :=
  if S.eqW a "." = true then
    if S.isN (a + 1) = true then
      if h : a < S.n then dotsM ⟨"field", t.s, S.st (a + 1) + (S.wd (a + 1)).length, [t.d, S.strW (a + 1)]⟩ (a + 2) else .un
    else S.fail (a + 1)
  else .ok t a
termination_by S.n + 1 - a
def reachM (V : Nat → Rs Tn) (a : Nat) : Rs Tn := (S.simpM V a).bind S.dotsM
/-- with what is read one "-" deeper -/
def signM (G : Nat → Rs Tn) (V : Nat → Rs Tn) (d a : Nat) : Rs Tn :=
  if S.eqW a "-" = true then
    if d = 30 then S.fail a else (G (a + 1)).bind fun t a' => .ok ⟨"minus", S.st a, t.e, [t.d]⟩ a'
  else S.reachM V a
def rank (w : List Nat) : Nat :=
  if w = tl "or" then 1 else if w = tl "and" then 2 else if w = tl "==" then 4 else if w = tl "<" then 4 else if w = tl "+" then 5 else if w = tl "-" then 5 else if w = tl "*" then 6 else if w = tl "/" then 6 else 0
def binT (l r : Tn) (w : List Nat) : Tn := ⟨"binary", l.s, r.e, [.str (strL w), l.d, r.d]⟩
def topR (r : Nat) : Nat := if r = 4 then 3 else r
def goM (R : Nat → Nat → Rs Tn) (least most : Nat) (left : Tn) (a : Nat) : Rs Tn :=
  if least ≤ rank (S.wd a) ∧ rank (S.wd a) ≤ most then
    match R (rank (S.wd a) + 1) (a + 1) with
    | .ok r a' => if h : a < a' ∧ a < S.n then goM R least (topR (rank (S.wd a))) (binT left r (S.wd a)) a' else .un
    | .no s e => .no s e
    | .un => .un
  else .ok left a
termination_by S.n + 1 - a
/-- N: chain(3) one deeper; G: the signed ones; R: chains of more -/
def chainM (N G : Nat → Rs Tn) (R : Nat → Nat → Rs Tn) (least d a : Nat) : Rs Tn :=
  if S.eqW a "not" = true ∧ least ≤ 3 then
    if d = 30 then S.fail a else (N (a + 1)).bind fun t a' => S.goM R least 3 ⟨"not", S.st a, t.e, [t.d]⟩ a'
  else (G a).bind fun t a' => S.goM R least 6 t a'
def chG (N G : Nat → Rs Tn) (d : Nat) : Nat → Nat → Nat → Rs Tn
  | 0, _, _ => .un
  | g + 1, least, a => S.chainM N G (chG N G d g) least d a
/-- a value, with what is read one deeper -/
def valM (V : Nat → Rs Tn) (Ch : Nat → Rs Tn) (d a : Nat) : Rs Tn :=
  if d = 30 ∨ S.n ≤ a then S.fail a
  else if S.eqW a "let" = true then S.letM V (S.st a) (a + 1)
  else if S.eqW a "if" = true then S.ifM V (S.st a) (a + 1)
  else if S.eqW a "loop" = true then S.loopM V (S.st a) (a + 1)
  else Ch a
/-- by how deep a reading goes -/
def rd : Nat → (Nat → Nat → Rs Tn) × (Nat → Nat → Rs Tn) × (Nat → Nat → Nat → Rs Tn)
  | 0 => (fun _ _ => .un, fun _ _ => .un, fun _ _ _ => .un)
  | k + 1 =>
    let B := rd k
    let val := fun d a => S.valM (B.1 (d + 1)) (B.2.2 1 (d + 1)) d a
    let sg := fun d a => S.signM (B.2.1 (d + 1)) (val d) d a
    (val, sg, fun least d a => S.chG (B.2.2 3 (d + 1)) (sg d) d 8 least a)
def val (k d a : Nat) : Rs Tn := (S.rd k).1 d a
def sg (k d a : Nat) : Rs Tn := (S.rd k).2.1 d a
def ch (k least d a : Nat) : Rs Tn := (S.rd k).2.2 least d a
theorem val_s (k d a : Nat) : S.val (k + 1) d a = S.valM (S.val k (d + 1)) (S.ch k 1 (d + 1)) d a := rfl
theorem sg_s (k d a : Nat) : S.sg (k + 1) d a = S.signM (S.sg k (d + 1)) (S.val (k + 1) d) d a := rfl
theorem ch_s (k least d a : Nat) : S.ch (k + 1) least d a = S.chG (S.ch k 3 (d + 1)) (S.sg (k + 1) d) d 8 least a := rfl
end Src
end Sn

/-! My own rules: three comparisons in a row, a text times a number, calls that may raise, isinstance in an except suite. -/
namespace Sn
open PySem PySem.Spec PyProof.Rows L2 TL
section
variable {X : Cx} {a b c d : Expr} {ta tb tc td : TE} {pos : Pos}
/-- a op1 b op2 c op3 d -/
def tChain3 (r r' r'' : R2) (ta tb tc td : TE) : TE := fun σ H Q => ta σ H fun x H1 => tb σ H1 fun y H2 => r x y H2 fun z H3 => ∃ k, z = .bl k ∧
  (if k = true then tc σ H3 fun w H4 => r' y w H4 fun z' H5 => ∃ k', z' = .bl k' ∧ (if k' = true then td σ H5 fun v H6 => r'' w v H6 Q else Q (.bl false) H5) else Q (.bl false) H3)
theorem pt_chain3 {op op' op'' : CmpOp} {r r' r'' : R2} (ho : OpR X (compareOp op) r) (ho' : OpR X (compareOp op') r') (ho'' : OpR X (compareOp op'') r'') (ha : PE X a ta) (hb : PE X b tb) (hc : PE X c tc) (hd : PE X d td)
    (hm : lastMarks [op, op', op''] [b, c, d] = false := by with_unfolding_all rfl) : PT X (.Compare a [op, op', op''] [b, c, d] pos) (tTest (tChain3 r r' r'' ta tb tc td)) := by
  refine ⟨fun pins s σ H Q I h => ?_⟩
  refine isTrue_chain (thn (ha.run pins s σ H _ I h) fun v s1 ⟨x, H1, I1, r1, q1⟩ => test_link (thn (hb.run pins s1 σ H1 _ I1 q1) fun u s2 ⟨y, H2, I2, r2, q2⟩ =>
    thn (ho pins s2 σ H2 x y v u _ I2 r1 r2 q2) fun e s3 ⟨z, H3, I3, r3, k, ez, q3⟩ => ?_)) hm
  subst ez
  cases r3
  refine wpAny_truthy_bool ?_
  cases k with
  | false =>
    obtain ⟨k', e', q'⟩ := q3
    cases e'
    exact ite_ff ⟨H3, I3, q'⟩
  | true =>
    refine ite_tt (test_link (thn (hc.run pins s3 σ H3 _ I3 q3) fun w' s4 ⟨z', H4, I4, r4, q4⟩ => thn (ho' pins s4 σ H4 y z' u w' _ I4 r2 r4 q4) fun d' s5 ⟨z2, H5, I5, r5, k2, e2, q5⟩ => ?_))
    subst e2
    cases r5
    refine wpAny_truthy_bool ?_
    cases k2 with
    | false =>
      obtain ⟨k', e', q'⟩ := q5
      cases e'
      exact ite_ff ⟨H5, I5, q'⟩
    | true =>
      refine ite_tt (test_last (thn (hd.run pins s5 σ H5 _ I5 q5) fun w2 s6 ⟨z6, H6, I6, r6, q6⟩ => thn (ho'' pins s6 σ H6 z' z6 w' w2 _ I6 r4 r6 q6) fun d' s7 ⟨z7, H7, I7, r7, k7, e7, q7⟩ => ?_))
      subst e7
      cases r7
      exact wpAny_truthy_bool ⟨H7, I7, q7⟩
/-- a text times a number -/
theorem op_mul_str : OpR X (binaryOp .Mult) (fun x y H Q => ∃ (z : Str) (n : Int), x = .str z ∧ y = .int n ∧ MulOk z n ∧ Q (.str (Txt.mul z n)) H) := by
  intro pins s σ H x y v u Q I rx ry h
  obtain ⟨z, n, rfl, rfl, hm, q⟩ := h
  obtain ⟨t, rfl⟩ := rx
  obtain ⟨t', rfl⟩ := ry
  exact SB.mul hm fun t' k => ⟨.str (Txt.mul z n), H, I.tok _, ⟨_, rfl⟩, q⟩
end
section
variable {X : Cx} {k j : Nat} {x : Str} {sp : Sp} {p pos : Pos} {e : Expr} {es : List Expr} {t : TA} {W : WX}
/-- a call within a try, what it lets out is the clause's -/
theorem pe_cS (c : Cal X.prog X.w X.K X.mg X.base (L2.CX X.prog X.w) k x sp) (hr : Room j X.A) (hk : k ≤ j) (tk : Takes X W) (ha : PA X (e :: es) t) (hg : Gl X x := by rfl)
    (hdb : (x == ("__debug__" : Str)) = false := by decide) (he : starEach (e :: es) X.env = (false, eval e X.env) :: starEach es X.env := by rfl) (hpl : (backTo pos (starEach es X.env)).any (·.1) = false := by rfl) :
    PE X (.Call (.Name x p) (e :: es) [] pos) (tCallS sp (WE W) t) := by
  obtain ⟨f, fd, ps, F, hm, kp, b⟩ := c.ex
  exact pe_callS F (hr.mono hk) hg hm kp b (fun σ => passAt tk σ) ha hdb he hpl
/-- isinstance(e, c), e what the suite holds; that it is of the class D is the reading's to say -/
theorem call_isX {D a : Addr} {oe : Obj} {cls : Value} {d : Option Addr} {pn : List (Addr × Obj)} (C : ExcC X.K D) (hz : Zc cls d oe) (hf : ∃ vs, oe.data = .fields vs) :
    CallR (X.suite a ((a, oe) :: pn)) (.builtin "isinstance") (fun xs H Q => cls = .ref D ∧ d = none ∧ rIsE X.K D a xs H Q) := by
  intro pins s σ H xs us Q I r h
  obtain ⟨rfl, rfl, h⟩ := h
  exact call_isE C hz hf pins s σ H xs us Q I r h
end

/-! ### edits -/
/-- the mirror of a joint edit: what stands from done on -/
def jgo (z : List Nat) : Nat → List (Int × Int × List Nat) → Option (List Nat)
  | done, [] => some (z.drop done)
  | done, (s, e, n) :: r => if (done : Int) ≤ s ∧ s ≤ e ∧ e ≤ (z.length : Int) ∧ n.all okc = true then (jgo z e.toNat r).map fun t => (z.drop done).take (s.toNat - done) ++ (n ++ t) else none
def joint (z : List Nat) (eds : List (Int × Int × List Nat)) : Option (List Nat) := match jgo z 0 eds with
  | some r => if r.length ≤ 4000 then some r else none
  | none => none
/-- a list of edits stands at le -/
def EdAt (H : Hp) (le : Addr) (eds : List (Int × Int × Str)) : Prop := ∃ rs : List Addr, H le = some (.lst (rs.map V.ref)) ∧ rs.length = eds.length ∧ ∀ (i : Nat) (r : Addr) (s e : Int) (n : Str), rs[i]? = some r → eds[i]? = some (s, e, n) → H r = some (.tup [.int s, .int e, .str n])
def edl (eds : List (Int × Int × Str)) : List (Int × Int × List Nat) := eds.map fun x => (x.1, x.2.1, tl x.2.2)
/-- the lengths of all new texts -/
def news (eds : List (Int × Int × Str)) : Nat := (eds.map fun x => x.2.2.length).sum
theorem EdAt.same {H H' : Hp} {le : Addr} {eds : List (Int × Int × Str)} (s : Same H H') : EdAt H le eds → EdAt H' le eds := fun ⟨rs, h1, h2, h3⟩ => ⟨rs, s _ _ h1, h2, fun i r a b n p q => s _ _ (h3 i r a b n p q)⟩
def spMay : Sp := fun vs H Q _ => ∃ z : Str, vs = [.str z] ∧ Q (.bl ((tl z).all okc)) H
def spIsText : Sp := fun vs H Q _ => ∃ z : Str, vs = [.str z] ∧ z.length ≤ 1000000 ∧ Q (.bl (decide (z.length ≤ 4000) && (tl z).all okc)) H
def spJoint (C : Addr) : Sp := fun vs H Q E => ∃ (z : Str) (le : Addr) (eds : List (Int × Int × Str)), vs = [.str z, .ref le] ∧ EdAt H le eds ∧ z.length ≤ 1000000 ∧ eds.length ≤ 1000 ∧ news eds ≤ 1000000 ∧
  (∀ r H', joint (tl z) (edl eds) = some r → Same H H' → Q (.str (strL r)) H') ∧ (∀ H', joint (tl z) (edl eds) = none → Same H H' → E (.ref C) none H')
def spEdit (C : Addr) : Sp := fun vs H Q E => ∃ (z : Str) (ed : Addr) (s e : Int) (n : Str), vs = [.str z, .ref ed] ∧ H ed = some (.tup [.int s, .int e, .str n]) ∧ z.length ≤ 1000000 ∧ n.length ≤ 1000000 ∧
  (∀ r H', joint (tl z) [(s, e, tl n)] = some r → Same H H' → Q (.str (strL r)) H') ∧ (∀ H', joint (tl z) [(s, e, tl n)] = none → Same H H' → E (.ref C) none H')
/-! ### signs in order -/
theorem le_one (a b : Nat) : (!decide ([b] < [a])) = decide (a ≤ b) := by
  have : ([b] < [a]) ↔ b < a := by
    constructor
    · intro h
      cases h with
      | rel h => exact h
      | cons h => cases h
    · exact fun h => .rel h
  by_cases h : b < a
  · rw [decide_eq_true (this.mpr h), decide_eq_false (by omega)]
    rfl
  · rw [decide_eq_false (fun k => h (this.mp k)), decide_eq_true (by omega)]
    rfl
/-! ### classes of errors, as the top has written them -/
theorem own_cls {K : PySem.W.Frag} {C S : Addr} (i : PySem.W.isClsIn K S = true) (t : PySem.W.typeIn K (.ref S) = some (.type "type")) (s : PySem.W.subIn K (.ref C) (.ref S) = some true) : PySem.W.kitCls K (.ref C) (.ref S) = some true := by
  have e2 : ((PySem.W.clsIn K S).isSome && PySem.W.typeIn K (.ref S) == some (.type "type")) = true := by
    have h2 : (PySem.W.clsIn K S).isSome = true := i
    rw [h2, t] <;> rfl
  show (if _ then _ else _) = _
  rw [if_pos e2]
  exact s
theorem exm_of {K : PySem.W.Frag} {S : Addr} (b : PySem.W.subIn K (.ref S) (.type "BaseException") = some true) (i : PySem.W.isClsIn K S = true) (t : PySem.W.typeIn K (.ref S) = some (.type "type")) (s : PySem.W.subIn K (.ref S) (.ref S) = some true) :
    PySem.W.exmOne K (.ref S) (.ref S) = some true := by
  have e1 : (PySem.W.subIn K (.ref S) (.type "BaseException") == some true) = true := by rw [b] <;> rfl
  show (if _ then _ else _) = _
  rw [if_pos e1]
  exact own_cls i t s
theorem kit_own {K : PySem.W.Frag} {C S : Addr} (i : PySem.W.isClsIn K S = true) (t : PySem.W.typeIn K (.ref S) = some (.type "type")) (s : PySem.W.subIn K (.ref C) (.ref S) = some true) : PySem.W.kitOne K (.ref C) (.ref S) = some true := by
  show (if _ then _ else _) = _
  split
  · rfl
  · exact own_cls i t s
theorem kit_blt {K : PySem.W.Frag} {C : Addr} {n : String} (m : PySem.W.kitMeta n = true) (s : PySem.W.subIn K (.ref C) (.type n) = some true) : PySem.W.kitOne K (.ref C) (.type n) = some true := by
  show (if _ then _ else (if _ then _ else _)) = _
  split
  · rfl
  · first
      | exact s
      | (rw [if_pos m]; exact s)
end Sn

/-! My own rules where an exception is handled: walks of lists, pairs taken apart, calls by name. -/
namespace Sn
open PySem PySem.Spec PyProof.Rows L2 TL HotX L2H
section
variable {prog : Program} {w : World} {A : Around} {E : Value → Shared → Prop} {s : Shared}
theorem list_end_hot {it l x1 : Addr} {i : Nat} {items : Array Value} {Q : Option Value → Shared → Prop} (hot : HotAt A x1 s.heap) (hit : s.heap.IsListIter it l i) (hl : s.heap.IsList l items) (hx : items[i]? = none)
    (hxi : x1 ≠ it) (hQ : ∀ h', (∀ b o, b ≠ it → s.heap.get? b = some o → h'.get? b = some o) → Q none { s with heap := h' }) : wpAny (model prog w) A (pyNext (.ref it)) Q E s := by
  obtain ⟨hh, o1, vs1, h1, d1, c1⟩ := hot
  obtain ⟨o, ho, hc, hd⟩ := id hit
  obtain ⟨ol, hol, _, nl, hdl⟩ := hl
  unfold pyNext
  refine wpAny_bind (wpAny_attempt (wpAny_callSpecial?_slot (name := Str.ofString "__next__") hit.typeIs slot_listiter_next
    (wpAny_call_entry slot_listiter_next hit.typeIs entry_listiter_next ?_ (args_listiter_next _))))
  show wpAny _ _ (field (.ref it) 0 >>= _) _ _ s
  refine wpAny_bind (wpAny_field ho hd (x := .ref l) rfl ?_)
  show wpAny _ _ (if (Value.ref l == Value.none) = true then _ else _) _ _ s
  rw [if_neg (show ¬ ((Value.ref l == Value.none) = true) from Bool.false_ne_true)]
  show wpAny _ _ (field (.ref it) 1 >>= _) _ _ s
  refine wpAny_bind (wpAny_field ho hd (x := .int i 0) rfl ?_)
  show wpAny _ _ (seqItems? (.ref l) >>= _) _ _ s
  refine wpAny_bind (wpAny_seqItems hol hdl ?_)
  simp only [Int.toNat_natCast, hx]
  refine wpAny_bind (wpAny_rule (wpAny_bind (wpAny_setField ho hd (by simp) ?_)))
  show wpAny _ _ (newExc (.type "StopIteration") [] >>= _) _ _ _
  refine wpAny_bind ?_
  simp only [newExc, newTuple]
  refine wpAny_bind (wpAny_newObj_type ?_ (by size_fits))
  refine wpAny_bind (m := firstArgMember _ _) (wpAny_of_eq (a := Value.none) (by first | rfl | (simp only [firstArgMember]; rfl)) ?_)
  refine wpAny_newObj_type ?_ (by size_fits)
  have hup : (s.heap.update it (Obj.mapFields (·.setIfInBounds 0 .none))).get? x1 = some o1 := by
    rw [Heap.get?_update_other _ _ (Ne.symm hxi)]
    exact h1
  refine raiseNew_hot ⟨hh, o1, vs1, Heap.get?_push_of_some _ (Heap.get?_push_of_some _ hup), d1, c1⟩ (Nat.ne_of_lt (Heap.lt_size (Heap.get?_push_of_some _ hup))) (Heap.get?_push_size _ rfl) rfl (by first | (simp; done) | (simp; omega) | (simp only [Array.size_append]; simp; omega)) ?_
  refine wpAny_bind (wpAny_isInstance (T := "StopIteration") (b := true) ⟨_, Heap.get?_update_self _ (Heap.get?_push_size _ rfl) rfl, rfl⟩ isSubtype_stop ?_)
  refine wpAny_pure (hQ _ fun b o hb e => ?_)
  have e2 : (s.heap.update it (Obj.mapFields (·.setIfInBounds 0 .none))).get? b = some o := by
    rw [Heap.get?_update_other _ _ (Ne.symm hb)]
    exact e
  rw [Heap.get?_update_other _ _ (Nat.ne_of_gt (Heap.lt_size (Heap.get?_push_of_some _ e2)))]
  exact Heap.get?_push_of_some _ (Heap.get?_push_of_some _ e2)
theorem tuple_end_hot {it l x1 : Addr} {i : Nat} {items : Array Value} {Q : Option Value → Shared → Prop} (hot : HotAt A x1 s.heap) (hit : s.heap.IsTupleIter it l i) (hl : s.heap.IsTuple l items) (hx : items[i]? = none)
    (hxi : x1 ≠ it) (hQ : ∀ h', (∀ b o, b ≠ it → s.heap.get? b = some o → h'.get? b = some o) → Q none { s with heap := h' }) : wpAny (model prog w) A (pyNext (.ref it)) Q E s := by
  obtain ⟨hh, o1, vs1, h1, d1, c1⟩ := hot
  obtain ⟨o, ho, hc, hd⟩ := id hit
  obtain ⟨ol, hol, _, nl, hdl⟩ := hl
  unfold pyNext
  refine wpAny_bind (wpAny_attempt (wpAny_callSpecial?_slot (name := Str.ofString "__next__") hit.typeIs F.slot_tuple_iterator_next
    (wpAny_call_entry F.slot_tuple_iterator_next hit.typeIs F.entry_tuple_iterator_next ?_ (F.args_tuple_iterator_next_1 _))))
  show wpAny _ _ (field (.ref it) 0 >>= _) _ _ s
  refine wpAny_bind (wpAny_field ho hd (x := .ref l) rfl ?_)
  show wpAny _ _ (if (Value.ref l == Value.none) = true then _ else _) _ _ s
  rw [if_neg (show ¬ ((Value.ref l == Value.none) = true) from Bool.false_ne_true)]
  show wpAny _ _ (field (.ref it) 1 >>= _) _ _ s
  refine wpAny_bind (wpAny_field ho hd (x := .int i 0) rfl ?_)
  show wpAny _ _ (seqItems? (.ref l) >>= _) _ _ s
  refine wpAny_bind (wpAny_seqItems hol hdl ?_)
  simp only [Int.toNat_natCast, hx]
  refine wpAny_bind (wpAny_rule (wpAny_bind (wpAny_setField ho hd (by simp) ?_)))
  show wpAny _ _ (newExc (.type "StopIteration") [] >>= _) _ _ _
  refine wpAny_bind ?_
  simp only [newExc, newTuple]
  refine wpAny_bind (wpAny_newObj_type ?_ (by size_fits))
  refine wpAny_bind (m := firstArgMember _ _) (wpAny_of_eq (a := Value.none) (by first | rfl | (simp only [firstArgMember]; rfl)) ?_)
  refine wpAny_newObj_type ?_ (by size_fits)
  have hup : (s.heap.update it (Obj.mapFields (·.setIfInBounds 0 .none))).get? x1 = some o1 := by
    rw [Heap.get?_update_other _ _ (Ne.symm hxi)]
    exact h1
  refine raiseNew_hot ⟨hh, o1, vs1, Heap.get?_push_of_some _ (Heap.get?_push_of_some _ hup), d1, c1⟩ (Nat.ne_of_lt (Heap.lt_size (Heap.get?_push_of_some _ hup))) (Heap.get?_push_size _ rfl) rfl (by first | (simp; done) | (simp; omega) | (simp only [Array.size_append]; simp; omega)) ?_
  refine wpAny_bind (wpAny_isInstance (T := "StopIteration") (b := true) ⟨_, Heap.get?_update_self _ (Heap.get?_push_size _ rfl) rfl, rfl⟩ isSubtype_stop ?_)
  refine wpAny_pure (hQ _ fun b o hb e => ?_)
  have e2 : (s.heap.update it (Obj.mapFields (·.setIfInBounds 0 .none))).get? b = some o := by
    rw [Heap.get?_update_other _ _ (Ne.symm hb)]
    exact e
  rw [Heap.get?_update_other _ _ (Nat.ne_of_gt (Heap.lt_size (Heap.get?_push_of_some _ e2)))]
  exact Heap.get?_push_of_some _ (Heap.get?_push_of_some _ e2)
theorem unpackItems_hot {t x1 : Addr} {items : Array Value} {Q : List Value → Shared → Prop} (hot : HotAt A x1 s.heap) (ht : s.heap.IsTuple t items)
    (hQ : ∀ h', Heap.ExtBut s.heap.objs.size s.heap h' → Q items.toList { s with heap := h' }) : wpAny (model prog w) A (unpackItems (.ref t) items.size none) Q E s := by
  obtain ⟨hh, o1, vs1, g1, d1, c1⟩ := hot
  have hlt : t ≠ s.heap.objs.size := by obtain ⟨o, ho, _⟩ := ht; exact Nat.ne_of_lt (Heap.lt_size ho)
  have hlx : x1 ≠ s.heap.objs.size := Nat.ne_of_lt (Heap.lt_size g1)
  unfold unpackItems
  refine wpAny_bind ?_
  · unfold notIterableAtAll
    refine wpAny_bind (wpAny_specialOf ht.typeIs F.slot_tuple_iter.lookup ?_)
    refine wpAny_pure ?_
    simp only [Bool.false_eq_true, if_false]
    refine wpAny_bind (wpAny_holding (wpAny_pyIter_tuple ht ?_))
    refine wpAny_bind (wpAny_holding (wpAny_draw_tuple hlt items.size 0 _ _ ⟨_, Heap.get?_push_size _ rfl, rfl, rfl⟩ (ht.push _) (by omega) fun h₁ hit₁ hs₁ => ?_))
    have hall : List.take items.size (List.drop 0 items.toList) = items.toList := by
      rw [List.drop_zero]; exact List.take_of_length_le (by simp)
    rw [hall]
    rw [if_neg (by simp)]
    have ht₁ : h₁.IsTuple t items := (ht.push _).extBut hs₁.extBut hlt
    have gx : h₁.get? x1 = some o1 := hs₁.extBut _ _ hlx (Heap.get?_push_of_some _ g1)
    refine wpAny_bind (wpAny_holding (tuple_end_hot ⟨hh, o1, vs1, gx, d1, c1⟩ hit₁ ht₁ (by simp) hlx fun h₂ he₂ => ?_))
    simp only [Option.isSome_none, Bool.false_eq_true, if_false]
    refine wpAny_pure (hQ h₂ fun b o hb e => he₂ b o hb (hs₁.extBut b o hb (Heap.get?_push_of_some _ e)))
theorem assign_Tuple_hot {env : Env} {elts : List Expr} {k : Nat} {pos : Pos} {t x1 : Addr} {items : Array Value} {Q : Unit → Shared → Prop} (hot : HotAt A x1 s.heap) (ht : s.heap.IsTuple t items)
    (hn : (assignEach elts env).length = items.size) (hstar : (assignEach elts env).findIdx? (·.1) = none)
    (h : ∀ h', Heap.ExtBut s.heap.objs.size s.heap h' → wpAny (model prog w) A (assignInOrder ((assignEach elts env).map (·.2)) items.toList) Q E { s with heap := h' }) :
    wpAny (model prog w) A (assign (.Tuple elts k pos) env (.ref t)) Q E s := by
  rw [arm_assign_Tuple]
  refine wpAny_bind (wpAny_standAt ?_)
  unfold unpack
  rw [hn, hstar]
  exact wpAny_bind (wpAny_holding (unpackItems_hot hot ht h))
end
section
variable {X : Cx} {pos : Pos}
theorem pg_tupH {es : List Expr} {k : Nat} {t : TGs} {n : Nat} (hc : HotC X) (h : PGs X es t)
    (hn : (assignEach es X.env).length = n := by rfl) (hst : (assignEach es X.env).findIdx? (·.1) = none := by rfl) : PG X (.Tuple es k pos) (gTup X.K n t) := by
  refine ⟨fun pins s σ H v u Q I r hw => ?_⟩
  obtain ⟨a, xs, e1, hq, hl, hw⟩ := hw
  subst e1
  cases r
  obtain ⟨its, rv, ht, hz⟩ := I.tuple hq
  obtain ⟨x1, hot⟩ := hc.at I
  refine assign_Tuple_hot hot ht (by simp [hn, ← hl, rv.length]) hst fun h' hx => ?_
  have I1 : Inv X pins σ H { s with heap := h' } := I.kept (t' := s.toks) fun b o e => hx b o (Nat.ne_of_lt (Heap.lt_size e)) e
  exact h.run pins _ σ H xs _ Q I1 (by simpa using rv) hw
end
theorem turn_listH {P : Program} {w : World} {K : PySem.W.Frag} {tg : Expr} (a it : Addr) : TurnH P w K tg (Itl K a) [it] it (fun i h => h.IsListIter it a i) where
  mem := by simp
  obj := fun i h st b hb => by
    have e : b = it := by simpa using hb
    subst e
    obtain ⟨o, e, c, d⟩ := st
    exact ⟨o, e, fun v z => by rw [d] at z; cases z⟩
  keep := fun i h h' st k => st.at fun o e => k it (by simp) o e
  item := by
    intro X hP hw hK hc i pins s σ H E I hf st hg
    subst hP hw hK
    obtain ⟨xs, x, hq, hx⟩ := hg
    obtain ⟨its, rv, p, hz⟩ := I.list hq
    obtain ⟨u, hu, ru⟩ := rv.get hx
    obtain ⟨f0, f1, f2, f3, f4, f5⟩ := hf it (by simp)
    refine wpAny_pyNext_list_item st p.isList (x := u) (by simpa using hu) fun h' st' sb => ?_
    have I1 : Inv X pins σ H { s with heap := h' } := I.turned (t' := s.toks) (fun b o hb e => (sb.2 b hb).trans e) f0 f1 f3 f4 f5
    obtain ⟨o, e, c, d⟩ := id st'
    exact ⟨u, rfl, go_of (s := { s with heap := h' }) e c d (by decide) ⟨x, H, I1, ru, ⟨rfl, fun ys hy => by rw [I.list_inj hy hq]; exact hx⟩, st', fun b hb => (hf b hb).1⟩⟩
  done := by
    intro X hP hw hK hc i pins s σ H E I hf st hg
    subst hP hw hK
    obtain ⟨xs, hq, hx⟩ := hg
    obtain ⟨its, rv, p, hz⟩ := I.list hq
    obtain ⟨f0, f1, f2, f3, f4, f5⟩ := hf it (by simp)
    have hl := rv.length
    obtain ⟨q, ⟨hh, v1, e1, c1⟩, hp⟩ := hc
    have P1 := I.pin q (List.mem_append_left _ hp)
    exact list_end_hot ⟨hh, q.2, v1, P1.1, e1, c1⟩ st p.isList (by simp; omega) (f5 q (List.mem_append_left _ hp)) fun h' eb => ⟨rfl, I.turned (t' := s.toks) (fun b o hb e => eb b o hb e) f0 f1 f3 f4 f5⟩
  self := fun _ _ _ _ _ st h => wpAny_pyIter_listiter st h
theorem pi_listH {X : Cx} {tg l : Expr} {tl : TE} (hl : PE X l tl) : PIH X tg l (iList X.K tl) := by
  refine ⟨fun pins s σ H R I h => ?_⟩
  refine thn (hl.run pins s σ H _ I h) fun v s1 ⟨x, H1, I1, r1, q1⟩ => ?_
  obtain ⟨a, e, ⟨xs, hq⟩, q⟩ := q1
  subst e
  cases r1
  obtain ⟨its, rv, p, hz⟩ := I1.list hq
  refine wpAny_pyIter_list p.isList ?_
  refine ⟨s1.heap.objs.size, [s1.heap.objs.size], _, _, H1, rfl, I1.kept (t' := s1.toks) fun b o e => Heap.get?_push_of_some _ e, turn_listH a _, ⟨_, Heap.get?_push_size _ rfl, rfl, rfl⟩, fun b hb => ?_, q⟩
  have e : b = s1.heap.objs.size := by simpa using hb
  subst e
  exact I1.fpOk (Nat.le_refl _) (I1.hok.fresh (Nat.le_refl _))
/-- a def that may be called by its name where an exception is handled -/
structure CalH (P : Program) (w : World) (K : PySem.W.Frag) (mg : Str → Option Value) (base : Heap) (k : Nat) (x : Str) (sp : Sp) : Prop where
  ex : ∃ (f : Addr) (fd : FuncData) (ps : List Str), FnH P w K mg base CX0 k f fd ps sp ∧ mg x = some (.ref f) ∧ PySem.W.keepIn K (.ref f) = true ∧ Binds K fd ps []
section
variable {X : Cx} {k j : Nat} {x : Str} {sp : Sp} {p pos : Pos} {e : Expr} {es : List Expr} {t : TA}
theorem pe_cH (c : CalH X.prog X.w X.K X.mg X.base k x sp) (hr : RoomH j X.A) (hk : k ≤ j) (hot : HotC X) (ha : PA X (e :: es) t) (hg : Gl X x := by rfl)
    (hdb : (x == ("__debug__" : Str)) = false := by decide) (he : starEach (e :: es) X.env = (false, eval e X.env) :: starEach es X.env := by rfl) (hpl : (backTo pos (starEach es X.env)).any (·.1) = false := by rfl) :
    PE X (.Call (.Name x p) (e :: es) [] pos) (tCallS sp (fun _ => E0) t) := by
  obtain ⟨f, fd, ps, F, hm, kp, b⟩ := c.ex
  exact pe_callH F (hr.mono hk) hot hg hm kp b (fun σ _ _ _ _ _ _ h => h.elim) ha hdb he hpl
end
section
variable {P : Program} {w : World} {K : PySem.W.Frag} {mg : Str → Option Value} {base : Heap}
/-- as Fun.ok, for a def that is called where an exception is handled -/
theorem okH {x qual : Str} {st : Stmt} {f : Addr} {fd : FuncData} {N ps : List Str} {k : Nat} {sp : Sp} (F : Fun K x qual st f fd) (S : FnScope N ps (defScope st)) (len : ∀ vs H Q E, sp vs H Q E → vs.length = ps.length)
    (hbody : ∀ (cdv : Value) (A : Around) (outer : List Env) (s : Shared) (H : Hp) (vs : List V) (Q : VK) (E : XK) (p : Addr × Obj), HotC (cxH CX0 P w K mg base N qual (defScope st) f cdv A outer s H E p).nox → RoomH k (A.deeper (envOfC qual (defScope st) s.heap.objs.size f cdv)) → sp vs H Q E →
      ∃ t, PSs (cxH CX0 P w K mg base N qual (defScope st) f cdv A outer s H E p).nox (defBody st) t ∧ t { nx := fun _ H' => Q .non H', rt := Q } (L2.start N vs) H) : FnH P w K mg base CX0 (k + 1) f fd ps sp := by
  obtain ⟨oc, od, kV, doc, pm, an, cdv, ct, osl, rfl, lk, hcd⟩ := F.ex
  refine fn_ofH lk hcd S len fun A outer s H vs Q E p hot hr hsp => ?_
  obtain ⟨t, h, q⟩ := hbody cdv A outer s H vs Q E p ⟨p, hot, List.mem_singleton.mpr rfl⟩ hr hsp
  exact ⟨t, h.nox, q⟩
/-- as Fun.okX, with the context of what is raised -/
theorem okXN {x qual : Str} {st : Stmt} {f : Addr} {fd : FuncData} {N ps : List Str} {k : Nat} {sp : Sp} (F : Fun K x qual st f fd) (S : FnScope N ps (defScope st)) (len : ∀ vs H Q E, sp vs H Q E → vs.length = ps.length)
    (hbody : ∀ (cdv : Value) (A : Around) (outer : List Env) (s : Shared) (H : Hp) (vs : List V) (Q : VK) (E : XK), Room k (A.deeper (envOfC qual (defScope st) s.heap.objs.size f cdv)) → sp vs H Q E →
      ∃ t, PSs (cxOf (L2N.CX P w) P w K mg base N qual (defScope st) f cdv A outer s H E) (defBody st) t ∧ t { nx := fun _ H' => Q .non H', rt := Q } (L2.start N vs) H) : FnOk P w K mg base (L2N.CX P w) (k + 1) f fd ps sp := by
  obtain ⟨oc, od, kV, doc, pm, an, cdv, ct, osl, rfl, lk, hcd⟩ := F.ex
  exact fn_of lk hcd S len fun A outer s H vs Q E hr hsp => hbody cdv A outer s H vs Q E hr hsp
theorem passLN {X : Cx} : Passes (L2N.CX X.prog X.w) X E0 := fun _ _ _ _ _ _ _ h => by
  obtain ⟨_, _, _, _, _, _, _, _, _, _, _, _, z⟩ := h
  exact z.elim
theorem takes0N {X : Cx} : L2N.Takes X (fun _ _ _ _ => False) := fun _ _ x => by
  obtain ⟨_, _, _, _, _, _, _, _, _, _, _, _, _, _, _, _, z⟩ := x
  exact z.elim
end
section
variable {X : Cx} {k j : Nat} {x : Str} {sp : Sp} {p pos : Pos} {e : Expr} {es : List Expr} {t : TA} {W : WX}
/-- a call within a try, what it lets out is the clause's -/
theorem pe_cSN (c : Cal X.prog X.w X.K X.mg X.base (L2N.CX X.prog X.w) k x sp) (hr : Room j X.A) (hk : k ≤ j) (tk : L2N.Takes X W) (ha : PA X (e :: es) t) (hg : Gl X x := by rfl)
    (hdb : (x == ("__debug__" : Str)) = false := by decide) (he : starEach (e :: es) X.env = (false, eval e X.env) :: starEach es X.env := by rfl) (hpl : (backTo pos (starEach es X.env)).any (·.1) = false := by rfl) :
    PE X (.Call (.Name x p) (e :: es) [] pos) (tCallS sp (WE W) t) := by
  obtain ⟨f, fd, ps, F, hm, kp, b⟩ := c.ex
  exact pe_callS F (hr.mono hk) hg hm kp b (fun σ => L2N.passAt tk σ) ha hdb he hpl
/-- the suite of an except clause bears what it handles -/
theorem hot_suite {a : Addr} {oe : Obj} {cls : Value} {d : Option Addr} {pn : List (Addr × Obj)} (hz : L2N.Zn cls d oe) (hf : ∃ vs, oe.data = .fields vs) : HotC (X.suite a ((a, oe) :: pn)) := by
  obtain ⟨vs, hd⟩ := hf
  exact ⟨(a, oe), ⟨rfl, vs, hd, hz.2.2 vs hd⟩, List.mem_cons_self⟩
theorem room_suite {a : Addr} {pn : List (Addr × Obj)} (hr : Room k X.A) : RoomH k (X.suite a pn).A := ⟨hr.dp, hr.un⟩
end
end Sn

/-! My own rules: replace of written texts behind a test against a written number. Mathematics of chunks. -/
namespace Sn
open PySem PySem.Spec PyProof.Rows L2 TL
section
variable {X : Cx} {a e : Expr} {ta te : TE} {pos cpos cp : Pos}
theorem pst_set {i : Nat} {x : Str} {pos' : Pos} (hN : X.N.Nodup) (hi : X.N[i]? = some x) (hx : Loc X.env.scope x) (he : PET X e te) (hs : swapsWith e (some (.Name x pos')) pos.line X.env = pure false := by rfl)
    (hf : X.fn x = true ∨ X.env.scope.names.lookup x = some .local := by first | exact .inl rfl | exact .inr rfl | assumption) : PST X (.Assign [.Name x pos'] e pos) (tAsg te (gName i)) := by
  intro pins s σ H D h0 I h
  refine wpAny_Assign_Name (thn (he pins s σ H _ h0 I h) fun v s1 ⟨y, H1, I1, r1, q1⟩ => store_ok I1 hN hi hx r1 (fun s2 I2 => ⟨_, H1, I2, q1⟩) hf) hs
theorem psst_one1 {st : Stmt} {t : TS} (h : PST X st t) : PSsT X [st] t := psst_cons h (PSsT.of pss_nil)
/-- a test against a written number: behind it a token is out -/
theorem ps_ifK {op : CmpOp} {r : R2} {n : Int} {j : Nat} {body orelse : List Stmt} {t u : TS} (ho : OpR X (compareOp op) r) (ha : PE X a ta) (hm : behindInMarks op (.Constant (.int n) j cp) = false) (hb : PSsT X body t) (hc : PSs X orelse u) :
    PS X (.If (.Compare a [op] [.Constant (.int n) j cp] cpos) body orelse pos) (tIfS (tTest (tOp r ta (tC (.int n)))) t u) := by
  refine ⟨fun pins s σ H D I h => ?_⟩
  refine wpAny_If (wpAny_isTrue_Compare1 (thn (ha.run pins s σ H _ I h) fun v s1 ⟨x, H1, I1, r1, q1⟩ => wpAny_Constant_int ?_) hm)
  refine wpAny_mono (PySem.wpAny_toks (ho pins { s1 with toks := s1.toks + 1 } σ H1 x (.int n) v _ _ (I1.tok _) r1 ⟨_, rfl⟩ q1)) (fun c s3 q => ?_) fun _ _ z => z.2
  obtain ⟨hk, z, H3, I3, r3, k, ez, q3⟩ := q
  subst ez
  cases r3
  have hk : s1.toks + 1 ≤ s3.toks := hk
  refine wpAny_truthy_bool ?_
  cases k with
  | true => exact hb pins s3 σ H3 D (by omega) I3 q3
  | false => exact hc.run pins s3 σ H3 D I3 q3
end
/-! ### lines of a text -/
abbrev NL : Str := ("\n" : Str)
theorem nl_eq : NL = ⟨#[10]⟩ := by decide +kernel
/-- the lines of a text -/
def rws (z : Str) : List (List Nat) := rows 10 [] (tl z)
theorem split_len (z : Str) : (Txt.split z NL).length = (rws z).length := by
  have k := congrArg List.length (split_rows z 10 (by decide))
  rw [List.length_map] at k
  rw [nl_eq]
  exact k
theorem split_at {z x : Str} {i : Nat} (h : (Txt.split z NL)[i]? = some x) : (rws z)[i]? = some (tl x) := by
  have k := split_rows z 10 (by decide)
  rw [nl_eq] at h
  unfold rws
  rw [← k, List.getElem?_map, h] <;> rfl
theorem rws_pos (z : Str) : 0 < (rws z).length := by
  unfold rws
  rw [rows_len]
  omega
theorem rws_le (z : Str) : (rws z).length ≤ (tl z).length + 1 := by
  unfold rws
  rw [rows_len]
  have := List.count_le_length (a := 10) (l := tl z)
  omega
theorem cutV_to (xs : List V) (o : Nat) : cutV xs none (some (o : Int)) = xs.take o := by
  unfold cutV
  rw [HT.sIx_none, HT.sIx_nat, List.drop_zero, Nat.sub_zero, List.take_eq_take_iff]
  omega
theorem cutV_from (xs : List V) (o : Nat) : cutV xs (some (o : Int)) none = xs.drop o := by
  unfold cutV
  rw [HT.sIx_none, HT.sIx_nat]
  rcases Nat.le_total o xs.length with h | h
  · rw [Nat.min_eq_left h, List.take_of_length_le (by rw [List.length_drop]; exact Nat.le_refl _)]
  · rw [Nat.min_eq_right h, Nat.sub_self, List.take_zero, List.drop_eq_nil_of_le h]
theorem row_le {z x : Str} {i : Nat} (h : (Txt.split z NL)[i]? = some x) : x.length ≤ (tl z).length := by
  have k := split_at h
  have : ∀ (l acc : List Nat) (i : Nat) (r : List Nat), (rows 10 acc l)[i]? = some r → r.length ≤ acc.length + l.length := by
    intro l
    induction l with
    | nil =>
      intro acc i r h
      cases i with
      | zero => rw [← Option.some.inj (show some acc = some r from h)]; exact Nat.le_add_right ..
      | succ i => cases h
    | cons d l ih =>
      intro acc i r h
      have h : (if d = 10 then acc :: rows 10 [] l else rows 10 (acc ++ [d]) l)[i]? = some r := h
      rw [List.length_cons]
      split at h
      · cases i with
        | zero => rw [← Option.some.inj (show some acc = some r from h)]; omega
        | succ i =>
          have z := ih [] i r h
          simp only [List.length_nil] at z
          omega
      · have z := ih _ i r h
        rw [List.length_append, List.length_singleton] at z
        omega
  have k2 := this _ _ _ _ k
  rw [len_tl x]
  simpa using k2
theorem s_sp7 : (" " : Str) = ⟨#[32]⟩ := by decide +kernel
theorem s_nl7 : ("\n" : Str) = ⟨#[10]⟩ := by decide +kernel
/-! ### where chunks begin -/
def beg (c : Nat) : Bool := c != 32 && c != 10
def stL : List Nat → Bool → Nat → List Nat
  | [], _, _ => []
  | c :: r, f, at_ => (if (f && beg c) = true then [at_] else []) ++ stL r (c == 10) (at_ + 1)
def lastf : List Nat → Bool → Bool
  | [], f => f
  | d :: r, _ => lastf r (d == 10)
theorem stL_snoc (c : Nat) : ∀ (l : List Nat) (f : Bool) (a : Nat), stL (l ++ [c]) f a = stL l f a ++ (if (lastf l f && beg c) = true then [a + l.length] else [])
  | [], f, a => by
    show (if (f && beg c) = true then [a] else []) ++ [] = [] ++ (if (f && beg c) = true then [a + 0] else [])
    simp
  | d :: r, f, a => by
    have ih := stL_snoc c r (d == 10) (a + 1)
    show (if (f && beg d) = true then [a] else []) ++ stL (r ++ [c]) (d == 10) (a + 1) = ((if (f && beg d) = true then [a] else []) ++ stL r (d == 10) (a + 1)) ++ (if (lastf r (d == 10) && beg c) = true then [a + (r.length + 1)] else [])
    rw [ih, List.append_assoc, show a + (r.length + 1) = a + 1 + r.length by omega]
theorem lastf_take : ∀ (l : List Nat) (i d : Nat) (f : Bool), l[i]? = some d → lastf (l.take (i + 1)) f = (d == 10)
  | [], i, d, f, h => by simp at h
  | e :: r, 0, d, f, h => by
    have : e = d := by simpa using h
    subst this
    rfl
  | e :: r, i + 1, d, f, h => by
    rw [List.take_succ_cons]
    exact lastf_take r i d (e == 10) (by simpa using h)
theorem stL_le : ∀ (l : List Nat) (f : Bool) (a : Nat), (stL l f a).length ≤ l.length
  | [], _, _ => Nat.le_refl _
  | c :: r, f, a => by
    have := stL_le r (c == 10) (a + 1)
    show ((if (f && beg c) = true then [a] else []) ++ stL r (c == 10) (a + 1)).length ≤ r.length + 1
    rw [List.length_append]
    split <;> simp <;> omega
/-- .. by lines -/
def rowSt : List (List Nat) → Nat → List Nat
  | [], _ => []
  | r :: rs, a => (if (r.head?.any fun c => c != 32) = true then [a] else []) ++ rowSt rs (a + r.length + 1)
theorem rowSt_rows : ∀ (l acc : List Nat) (a : Nat), (∀ c ∈ acc, c ≠ 10) → rowSt (rows 10 acc l) a = (match acc with
    | [] => stL l true a
    | c :: _ => (if (c != 32) = true then [a] else []) ++ stL l false (a + acc.length))
  | [], acc, a, h => by
    cases acc with
    | nil => rfl
    | cons c r => rfl
  | d :: r, acc, a, h => by
    show rowSt (if d = 10 then acc :: rows 10 [] r else rows 10 (acc ++ [d]) r) a = _
    by_cases hd : d = 10
    · subst hd
      rw [if_pos rfl]
      have ih := rowSt_rows r [] (a + acc.length + 1) (fun _ hc => nomatch hc)
      show (if (acc.head?.any fun c => c != 32) = true then [a] else []) ++ rowSt (rows 10 [] r) (a + acc.length + 1) = _
      rw [ih]
      cases acc with
      | nil =>
        show [] ++ stL r true (a + 0 + 1) = (if (true && beg 10) = true then [a] else []) ++ stL r (10 == 10) (a + 1)
        rfl
      | cons c q =>
        show (if (c != 32) = true then [a] else []) ++ stL r true (a + (c :: q).length + 1) = (if (c != 32) = true then [a] else []) ++ ((if (false && beg 10) = true then [a + (c :: q).length] else []) ++ stL r (10 == 10) (a + (c :: q).length + 1))
        rfl
    · rw [if_neg hd]
      have hd2 : (d == 10) = false := beq_eq_false_iff_ne.mpr hd
      have ih := rowSt_rows r (acc ++ [d]) a (fun c hc => by
        rcases List.mem_append.mp hc with hc | hc
        · exact h c hc
        · rw [List.mem_singleton.mp hc]; exact hd)
      rw [ih]
      cases acc with
      | nil =>
        show (if (d != 32) = true then [a] else []) ++ stL r false (a + 1) = (if (true && beg d) = true then [a] else []) ++ stL r (d == 10) (a + 1)
        have : (d != 10) = true := by simpa using hd
        rw [hd2]
        unfold beg
        rw [this, Bool.true_and, Bool.and_true]
      | cons c q =>
        show (if (c != 32) = true then [a] else []) ++ stL r false (a + (c :: (q ++ [d])).length) = (if (c != 32) = true then [a] else []) ++ ((if (false && beg d) = true then [a + (c :: q).length] else []) ++ stL r (d == 10) (a + (c :: q).length + 1))
        rw [hd2, show a + (c :: (q ++ [d])).length = a + (c :: q).length + 1 by simp; omega]
        rfl
theorem rowSt_snoc (r : List Nat) : ∀ (rs : List (List Nat)) (a : Nat), rowSt (rs ++ [r]) a = rowSt rs a ++ (if (r.head?.any fun c => c != 32) = true then [a + lens rs] else [])
  | [], a => by
    show (if (r.head?.any fun c => c != 32) = true then [a] else []) ++ [] = [] ++ (if (r.head?.any fun c => c != 32) = true then [a + 0] else [])
    simp
  | q :: rs, a => by
    have ih := rowSt_snoc r rs (a + q.length + 1)
    show (if (q.head?.any fun c => c != 32) = true then [a] else []) ++ rowSt (rs ++ [r]) (a + q.length + 1) = ((if (q.head?.any fun c => c != 32) = true then [a] else []) ++ rowSt rs (a + q.length + 1)) ++ _
    rw [ih, List.append_assoc, show a + lens (q :: rs) = a + q.length + 1 + lens rs by unfold lens; simp; omega]
theorem lens_snoc (rs : List (List Nat)) (r : List Nat) : lens (rs ++ [r]) = lens rs + (r.length + 1) := by
  unfold lens
  rw [List.map_append, List.sum_append]
  simp
theorem rowSt_len (l : List (List Nat)) (a : Nat) : (rowSt l a).length ≤ l.length := by
  induction l generalizing a with
  | nil => exact Nat.le_refl _
  | cons r rs ih =>
    have := ih (a + r.length + 1)
    show ((if (r.head?.any fun c => c != 32) = true then [a] else []) ++ rowSt rs (a + r.length + 1)).length ≤ rs.length + 1
    rw [List.length_append]
    split <;> simp <;> omega
/-- the chunks of a text, as pairs -/
def chV (l : List Nat) : List (List V) := List.zipWith (fun x y => [x, y]) ((stL l true 0).map fun n : Nat => V.int (n : Int)) ((((stL l true 0).map fun n : Nat => V.int (n : Int)).drop 1) ++ [V.int (l.length : Int)])
end Sn

/-! My own words: methods called by name, attributes, dicts of the module with get. -/
namespace Sn
open PySem PySem.Spec PyProof.Rows L2
section
variable {X : Cx} {e : Expr} {t t' : TE}
theorem PE.imp (h : PE X e t) (i : ∀ σ H Q, t' σ H Q → t σ H Q) : PE X e t' := ⟨fun pins s σ H Q I q => h.run pins s σ H Q I (i _ _ _ q)⟩
theorem PS.imp {st : Stmt} {u u' : TS} (h : PS X st u) (i : ∀ D σ H, u' D σ H → u D σ H) : PS X st u' := ⟨fun pins s σ H D I q => h.run pins s σ H D I (i _ _ _ q)⟩
def tUp (t : TE) : TE := fun σ H Q => ∃ Q' : VK, t σ H Q' ∧ ∀ v H1, Q' v H1 → Q v H1
theorem PE.up (h : PE X e t) : PE X e (tUp t) := ⟨fun pins s σ H Q I ⟨Q', a, b⟩ => thn (h.run pins s σ H Q' I a) fun v s1 ⟨x, H1, I1, r1, q1⟩ => ⟨x, H1, I1, r1, b _ _ q1⟩⟩
end
/-- a method that may be called by its name -/
structure CalM (P : Program) (w : World) (K : PySem.W.Frag) (mg : Str → Option Value) (base : Heap) (CX : CXT) (k : Nat) (C : Addr) (m : Str) (sp : Sp) : Prop where
  ex : ∃ (f : Addr) (fd : FuncData) (ps : List Str), FnOk P w K mg base CX k f fd ps sp ∧ Meth K C m f ∧ Binds K fd ps []
/-- an instance of the class at C with attributes of these names -/
def IsI (H : Hp) (C p : Addr) (ns : List Str) : Prop := ∃ dx fs, H p = some (.ins C dx fs) ∧ fs.map (·.1) = ns
theorem lookup_no : ∀ {fs : List (Str × V)} {ns : List Str} {m : Str}, fs.map (·.1) = ns → ns.contains m = false → fs.lookup m = none
  | [], _, _, _, _ => rfl
  | (n, v) :: r, _, m, h, hm => by
    subst h
    rw [List.map_cons, List.contains_cons, Bool.or_eq_false_iff] at hm
    rw [List.lookup_cons, hm.1]
    exact lookup_no rfl hm.2
def tMe (C : Addr) (ns : List Str) (sp : Sp) (E : XK) (ta : TE) (t : TA) : TE := fun σ H Q => ta σ H fun x H1 => ∃ p, x = .ref p ∧ IsI H1 C p ns ∧ t σ H1 fun vs H2 => sp (x :: vs) H2 Q E
section
variable {X : Cx} {k j : Nat} {C : Addr} {m : Str} {sp : Sp} {apos pos : Pos} {o e : Expr} {es : List Expr} {ta : TE} {t : TA} {CX : CXT} {E : XK} {pl : Sem Bool}
theorem pe_m (ns : List Str) (c : CalM X.prog X.w X.K X.mg X.base CX k C m sp) (cl : Cls X.K C) (hno : ns.contains m = false) (hr : Room j X.A) (hk : k ≤ j) (hx : Passes CX X E) (he : PE X o ta) (ha : PA X (e :: es) t)
    (hst : starEach (e :: es) X.env = (false, eval e X.env) :: starEach es X.env := by rfl) (hpl : (backTo pos (starEach es X.env)).any (·.1) = false := by rfl)
    (ht : eval (.Call (.Attribute o m apos) (e :: es) [] pos) X.env = (do
      let ov ← eval o X.env
      standAt apos.atName
      let (f, first) ← holding [ov] (getMethod ov m pl)
      callWith pos f first (backTo pos (starEach (e :: es) X.env)) (backToKw pos (keywordEach [] X.env))) := by rfl) :
    PE X (.Call (.Attribute o m apos) (e :: es) [] pos) (tMe C ns sp E ta t) := by
  obtain ⟨f, fd, ps, F, hm, b⟩ := c.ex
  refine PE.imp (pe_meth (PE.up he) cl hm F (hr.mono hk) b .nil hx ha hst hpl ht) fun σ H Q h => ⟨_, h, ?_⟩
  rintro v H1 ⟨p, rfl, ⟨dx, fs, hp, hn⟩, q⟩
  refine ⟨p, dx, fs, rfl, hp, lookup_no hn hno, ?_⟩
  simp only [List.append_nil]
  exact q
theorem pe_m0 (ns : List Str) (c : CalM X.prog X.w X.K X.mg X.base CX k C m sp) (cl : Cls X.K C) (hno : ns.contains m = false) (hr : Room j X.A) (hk : k ≤ j) (hx : Passes CX X E) (he : PE X o ta)
    (ht : eval (.Call (.Attribute o m apos) [] [] pos) X.env = (do
      let ov ← eval o X.env
      standAt apos.atName
      let (f, first) ← holding [ov] (getMethod ov m pl)
      callWith pos f first (backTo pos (starEach [] X.env)) (backToKw pos (keywordEach [] X.env))) := by rfl) :
    PE X (.Call (.Attribute o m apos) [] [] pos) (tMe C ns sp E ta tNil) := by
  obtain ⟨f, fd, ps, F, hm, b⟩ := c.ex
  refine PE.imp (pe_meth0 (PE.up he) cl hm F (hr.mono hk) b .nil hx ht) fun σ H Q h => ⟨_, h, ?_⟩
  rintro v H1 ⟨p, rfl, ⟨dx, fs, hp, hn⟩, q⟩
  refine ⟨p, dx, fs, rfl, hp, lookup_no hn hno, ?_⟩
  exact q
end
/-! ### a dict of the module: get with another value -/
section
variable {X : Cx}
/-- a written dict with text keys; what it has at a key -/
structure KdAt (K : PySem.W.Frag) (w : World) (a : Addr) : Prop where
  ex : ∃ es n, K.lookup a = some ⟨.type "dict", none, .dict es n, #[]⟩ ∧ PySem.W.KeysLit w.params es.toList
  low : (a == sysModules) = false
def KdGet (K : PySem.W.Frag) (a : Addr) (x : Str) (r : Option V) : Prop := ∃ u, PySem.W.nsIn K a x = some u ∧ RelO r u
theorem relO_getD {r : Option V} {u : Option Value} {v : V} {d : Value} (h : RelO r u) (k : RelV v d) : RelV (r.getD v) (u.getD d) := by
  cases r with
  | none =>
    cases u with
    | none => exact k
    | some u => exact h.elim
  | some r =>
    cases u with
    | none => exact h.elim
    | some u => exact h
def tKGet2 (K : PySem.W.Frag) (w : World) (td ty tx : TE) : TE := fun σ H Q => td σ H fun x H1 => ∃ a, x = .ref a ∧ KdAt K w a ∧ ty σ H1 fun y H2 => tx σ H2 fun z H3 => ∃ (s : Str) (r : Option V), y = .str s ∧ KdGet K a s r ∧ Q (r.getD z) H3
theorem pe_kget2 {o e f : Expr} {apos cpos : Pos} {td ty tx : TE} (ho : PE X o td) (he : PE X e ty) (hf : PE X f tx) (m : M2 X o "get" apos e f cpos) : PE X (.Call (.Attribute o "get" apos) [e, f] [] cpos) (tKGet2 X.K X.w td ty tx) := by
  refine ⟨fun pins s σ H Q I h => ?_⟩
  refine wpAny_Call_method m.base m.few m.line PySem.F.plainAttrs_dict PySem.F.slot_dict_get PySem.F.type_dict_get (thn (ho.run pins s σ H _ I h) fun u s1 ⟨x, H1, I1, rx, a, ex, ⟨⟨es, n, hl, hk⟩, low⟩, q1⟩ => ?_)
  subst ex
  obtain rfl : u = Value.ref a := rx
  have M0 := PySem.W.mapOf_K (prog := X.prog) (w := X.w) I1.kIn hl hk
  refine ⟨M0.typeIs, fun b q => ?_, ?_⟩
  · cases q
    exact ⟨_, I1.kIn _ _ hl, rfl⟩
  rw [m.trees]
  refine Calls.callWith_builtin rfl (Calls.evalArgs_plain (Calls.spliced_cons (thn (he.run pins s1 σ H1 _ I1 q1) fun iv s2 ⟨y, H2, I2, ry, q2⟩ =>
    Calls.spliced_cons (thn (hf.run pins s2 σ H2 _ I2 q2) fun fv s3 ⟨z, H3, I3, rz, x, r, ey, ⟨u0, e, ro⟩, q3⟩ => Calls.spliced_nil ?_))))
  subst ey
  obtain ⟨t, rfl⟩ := (show ∃ t, iv = Value.str x t from ry)
  have M3 := PySem.W.mapOf_K (prog := X.prog) (w := X.w) I3.kIn hl hk
  refine call_meetsIn PySem.F.slot_dict_get M3.typeIs PySem.F.entry_dict_get (PySem.F.args_dict_get_3 _ _ _) (meets_dict_get_default (strKind X.prog X.w) a (strKind_is X.prog X.w x t) low fv) ⟨_, M3, ?_⟩
  rw [PySem.W.find_K hl e]
  exact ⟨_, H3, I3.tok _, relO_getD ro rz, q3⟩
end
end Sn

/-! My own words: an own exception with its dict is raised, with the context that a suite wants; isinstance of it. -/
namespace Sn
open PySem PySem.Spec PyProof.Rows L2
section
variable {X : Cx} {e : Expr} {es : List Expr} {ta : TA} {p pos : Pos}
/-- the error is whole -/
theorem made_N {pins : List (Addr × Obj)} {σ : L2.St} {G1 G2 : Hp} {Q : XK} {u1 u2 u3 : Heap} {g1 g2 : Array GenState} {d1 d2 : Drawn} {t1 t2 : Nat} {w1 w2 : OsState} {a C dd : Addr} {fs : List (Str × V)} (R : Raises X (.ref C)) (I1 : Inv X pins σ G1 ⟨u1, g1, d1, t1, w1⟩)
    (fa : u1.objs.size ≤ a) (kp : ∀ b o, u1.get? b = some o → u2.get? b = some o) (un : Un (frs X.stack) [] (upd G1 a (exo a C none)) G2 u2 u3) (hk : HOk X.prog X.w G2 u3) (hw : w2 = w1) (bare : AllBare g2)
    (ea : G2 a = some (exo a C (some dd))) (ed : G2 dd = some (exd dd fs)) (nd : G1 dd = none) (q : Q (.ref C) (some dd) (upd (del G2 a) dd (.xd fs))) : L2N.MkP X pins σ Q (.ref a) ⟨u3, g2, d2, t2, w2⟩ := by
  obtain ⟨t0, G, J, kG, ge, he, na⟩ := mk_end0 (d2 := d2) (t2 := t2) I1 fa kp un hk hw bare ea ed nd
  refine ⟨a, _, _, ⟨G, g2, d2, t2, w2⟩, _, .ref C, some dd, rfl, J, kG, ge, he, ⟨rfl, rfl, ?_⟩, rfl, rfl, na, rfl, bare, R, q⟩
  intro vs hv
  cases hv
  rfl
theorem pmk_oexN {CX : CXT} {x : Str} {C fI : Addr} {k : Nat} {fd : FuncData} {ps : List Str} {sp : Sp} (T : OexC X.K C) (iC : PySem.W.findIn X.K (.ref C) "__init__" = some (some (.ref fI)))
    (tI : PySem.W.typeIn X.K (.ref fI) = some (.type "function")) (F1 : FnOk X.prog X.w X.K X.mg X.base CX k fI fd ps sp) (hr : Room (k + 1) X.A)
    (hb : Binds X.K fd ps []) (hx : Passes CX X (fun _ _ _ => False)) (hg : Gl X x) (hm : X.mg x = some (.ref C))
    (ha : PA X (e :: es) ta) (hdb : (x == ("__debug__" : Str)) = false := by decide)
    (he : starEach (e :: es) X.env = (false, eval e X.env) :: starEach es X.env := by rfl)
    (hpl : (backTo pos (starEach es X.env)).any (·.1) = false := by rfl) : L2N.PMk X (.Call (.Name x p) (e :: es) [] pos) (tMkO C sp [] ta) := by
  intro pins s σ H Q I0 wish
  obtain ⟨n1, n2, n3, n4, bm, n5, n6, n7, n8, n9, m0, m1, m2, m3, m4, atC, vb⟩ := T.cls
  refine wpAny_Call_Name_kw (ld_glob I0 hg hm ?_ hdb)
  refine PySem.W.callWith_K (h₀ := X.base) I0.ok.mod.kin T.kC (thn (ha.run pos pins s σ H _ I0 wish) ?_) he hpl
  rintro us v1 ⟨vs, G1, I1, r1, hz, q1⟩
  refine ⟨I1.kIn, ?_⟩
  show wpAny _ _ (call (.ref C) us) _ _ _
  obtain ⟨u0, g0, dw, tc, ow⟩ := v1
  have step1 : u0.objs.size ≤ u0.objs.size + 1 := Nat.le_succ _
  have free : G1 (u0.objs.size + 1) = none := I1.hok.fresh step1
  have goal1 := q1 (u0.objs.size + 1) free
  have grow : ∀ b o, u0.get? b = some o → ((u0.push (PySem.W.kdv_tup us)).push (PySem.HandSPX.excO C u0.objs.size)).get? b = some o := by
    intro b o q
    exact Heap.get?_push_of_some _ (Heap.get?_push_of_some _ q)
  have there : ((u0.push (PySem.W.kdv_tup us)).push (PySem.HandSPX.excO C u0.objs.size)).get? (u0.objs.size + 1) = some (PySem.HandSPX.excO C u0.objs.size) := by heap_get
  have I2 : Inv X pins σ (upd G1 (u0.objs.size + 1) (exo (u0.objs.size + 1) C none)) ⟨(u0.push (PySem.W.kdv_tup us)).push (PySem.HandSPX.excO C u0.objs.size), g0, dw, tc, ow⟩ :=
    I1.laid (t' := tc) (a := u0.objs.size + 1) (o := exo (u0.objs.size + 1) C none) (h' := (u0.push (PySem.W.kdv_tup us)).push (PySem.HandSPX.excO C u0.objs.size)) grow step1 (exo_ok there)
  rw [List.append_nil] at goal1
  have r2 : Vals (V.ref (u0.objs.size + 1) :: vs) (Value.ref (u0.objs.size + 1) :: us) := .cons rfl r1
  have hl : (Value.ref (u0.objs.size + 1) :: us ++ ([] : List Value)).length = ps.length := by
    have q := r2.length
    rw [F1.len _ _ _ _ goal1] at q
    rw [List.append_nil]
    exact q.symm
  have few : us.length ≤ sizeLine := by
    rw [← Paired.length r1, sizeLine_eq]
    omega
  have bd := hb _ (Value.ref (u0.objs.size + 1) :: us) I2.kIn hl
  rw [List.append_nil] at bd
  have run := F1.run _ X.stack _ _ ⟨Value.ref (u0.objs.size + 1) :: us, []⟩ (Value.ref (u0.objs.size + 1) :: us) _ _ (fun _ _ _ => False) (hr.make C us []) (I2.env0.make C us []) bd r2 goal1
  refine wpAny_call (PySem.HandSPX.call_own F.excBase_ValueError (fun Y => PySem.HandSPX.refsVE_contains Y bm vb) (I1.kIn _ _ atC) (PySem.W.looks_findIn I1.kIn iC) (fun self => PySem.W.bind_fn I1.kIn self tI) few (codeAny_mono run ?_))
  rintro (er | fl) s' after
  · exact hx pins σ _ _ er s' I2 after
  · cases fl with
    | next => exact False.elim after
    | brk => exact False.elim after
    | cont => exact False.elim after
    | ret u =>
      obtain ⟨v, G2, ow2, bare2, un2, hok2, rv, ev, d, fs, ea, ed, nd, q2⟩ := after
      subst ev
      obtain ⟨u2, g2, dw2, tc2, ow'⟩ := s'
      exact ⟨rv, made_N (raises_own T.exC T.tyC) I1 step1 grow un2 hok2 ow2 bare2 ea ed nd q2⟩
/-- isinstance(e, c), e what the suite holds, with its dict -/
theorem call_isXd {a : Addr} {oe : Obj} {cls : Value} {d : Option Addr} {pn : List (Addr × Obj)} (hz : L2N.Zn cls d oe) (hf : ∃ vs, oe.data = .fields vs) :
    CallR (X.suite a ((a, oe) :: pn)) (.builtin "isinstance") (fun xs H Q => ∃ (D dd : Addr) (fs : List (Str × V)), cls = .ref D ∧ d = some dd ∧ H dd = some (.xd fs) ∧ ExcC X.K D ∧ rIsE X.K D a xs H Q) := by
  intro pins s σ H xs us Q I r h
  obtain ⟨D, dd, fs, rfl, rfl, hdd, C, c, cv, b, rfl, hcv, e, q⟩ := h
  cases r with
  | cons rx rr =>
    cases rr with
    | cons rt rr =>
      cases rr
      cases rx
      obtain rfl := hcv _ rt
      obtain ⟨hget, _⟩ := I.pin (a, oe) (List.mem_append.mpr (.inl List.mem_cons_self))
      obtain ⟨vs, hv⟩ := hf
      obtain ⟨mA, hns, _⟩ := I.hok dd _ hdd
      obtain ⟨od, hod, _⟩ := lookIn_ns hns
      have J : PySem.W.InstAt s.heap a oe D (some od) := ⟨hget, hz.1, by unfold PySem.W.notCls; rw [hv] <;> rfl, by rw [hz.2.1]; exact hod⟩
      have hcl : (PySem.W.clsIn X.K D).isSome = true := by
        have := C.hd
        unfold PySem.W.hasDictIn at this
        cases k : PySem.W.clsIn X.K D with
        | none => rw [k] at this; cases this
        | some _ => rfl
      exact PySem.W.kia_one (PySem.W.kitx_exc hcl C.hg C.hk C.hs C.ha C.hn C.ht C.hm) I.kIn J e (fun z => nomatch z) fun tk => ⟨.bl b, H, I.kept (t' := tk) fun _ _ z => z, rfl, q⟩
end
end Sn

/-! Printed words and what is read of them. -/
namespace Sn
open PySem PySem.Spec PyProof.Rows L2 TL
/-- a printed word and its place -/
abbrev Wd := List Nat × Nat
def sortW (s : List Nat) : Str := match s with
  | [] => ""
  | c :: _ => if isL c = true then (if inV (.str (strL s)) (wds.map V.str) = true then "word" else "name") else if isD c = true then "number" else if s = [61, 61] then "sign" else if c ∈ tl sgs then "sign" else "wrong"
def tkW (w : Wd) : Tok := (sortW w.1, w.2, w.2 + w.1.length)
structure HasW (S : Src) (ws : List Wd) : Prop where
  ts : S.ts = ws.map tkW
  sl : ∀ w ∈ ws, (S.l.drop w.2).take w.1.length = w.1
/-- the words from a on -/
def At (S : Src) (a : Nat) (r : List Wd) : Prop := ∃ pre, HasW S (pre ++ r) ∧ pre.length = a
section
variable {S : Src} {a : Nat} {w : Wd} {r x y : List Wd}
theorem At.tok (h : At S a (w :: r)) : S.ts[a]? = some (tkW w) ∧ (S.l.drop w.2).take w.1.length = w.1 := by
  obtain ⟨pre, ⟨h1, h2⟩, rfl⟩ := h
  exact ⟨by rw [h1, List.getElem?_map, List.getElem?_append_right (Nat.le_refl _), Nat.sub_self]; rfl, h2 w (by simp)⟩
theorem At.wd (h : At S a (w :: r)) : S.wd a = w.1 := by
  obtain ⟨h1, h2⟩ := h.tok
  unfold Src.wd
  rw [h1]
  show (S.l.drop w.2).take (w.2 + w.1.length - w.2) = w.1
  rw [Nat.add_sub_cancel_left]
  exact h2
theorem At.so (h : At S a (w :: r)) : S.so a = sortW w.1 := by unfold Src.so; rw [h.tok.1]; rfl
theorem At.st (h : At S a (w :: r)) : S.st a = w.2 := by unfold Src.st; rw [h.tok.1]; rfl
theorem At.en (h : At S a (w :: r)) : S.en a = w.2 + w.1.length := by unfold Src.en; rw [h.tok.1]; rfl
theorem At.fp (h : At S a (w :: r)) : S.fp a = (w.2, w.2 + w.1.length) := by unfold Src.fp; rw [h.tok.1]; rfl
theorem At.lt (h : At S a (w :: r)) : a < S.n := (List.getElem?_eq_some_iff.mp h.tok.1).1
theorem At.next (h : At S a (w :: r)) : At S (a + 1) r := by
  obtain ⟨pre, h1, rfl⟩ := h
  exact ⟨pre ++ [w], by rw [List.append_assoc]; exact h1, by simp⟩
theorem At.app (h : At S a (x ++ y)) : At S (a + x.length) y := by
  obtain ⟨pre, h1, rfl⟩ := h
  exact ⟨pre ++ x, by rw [List.append_assoc]; exact h1, by simp⟩
theorem At.nil (h : At S a []) : S.n = a ∧ S.wd a = [] := by
  obtain ⟨pre, ⟨h1, _⟩, rfl⟩ := h
  have e : S.n = pre.length := by unfold Src.n; rw [h1]; simp
  exact ⟨e, by unfold Src.wd; rw [List.getElem?_eq_none (show S.ts.length ≤ _ from Nat.le_of_eq e)]⟩
theorem At.eqW (h : At S a (w :: r)) {s : Str} : S.eqW a s = decide (w.1 = tl s) := by unfold Src.eqW; rw [h.wd]
theorem At.yes (h : At S a (w :: r)) {s : Str} (e : w.1 = tl s) : S.eqW a s = true := by rw [h.eqW]; exact decide_eq_true e
theorem At.not (h : At S a (w :: r)) {s : Str} (e : w.1 ≠ tl s) : S.eqW a s = false := by rw [h.eqW]; exact decide_eq_false e
end
def lvM : Nat → Nat
  | 0 => 1 | 1 => 2 | 2 => 3 | 3 => 5 | 4 => 6 | _ => 7
/-- what may stand behind a tree that was printed at this level -/
def Stop (M : Nat) : List Wd → Prop
  | [] => True
  | w :: _ => Src.rank w.1 < lvM M ∧ w.1 ≠ tl "(" ∧ w.1 ≠ tl "."
theorem rank_le6 (l : List Nat) : Src.rank l ≤ 6 := by
  unfold Src.rank
  repeat (first | (split <;> first | omega | skip))
theorem lvM_mono : ∀ {L M : Nat}, L ≤ M → lvM L ≤ lvM M := by
  intro L M h
  have k : ∀ L M : Fin 6, L ≤ M → lvM L ≤ lvM M := by decide
  by_cases h1 : M < 6
  · exact k ⟨L, by omega⟩ ⟨M, h1⟩ h
  · have e : lvM M = 7 := by
      unfold lvM
      split <;> first | omega | rfl
    rw [e]
    unfold lvM
    split <;> omega
theorem Stop.mono {L M : Nat} {p : List Wd} (h : L ≤ M) : Stop L p → Stop M p := by
  cases p with
  | nil => exact id
  | cons w r => exact fun ⟨a, b⟩ => ⟨Nat.lt_of_lt_of_le a (lvM_mono h), b⟩
theorem Stop.word {M : Nat} {w : Wd} {r : List Wd} (h : Src.rank w.1 = 0 ∧ w.1 ≠ tl "(" ∧ w.1 ≠ tl ".") : Stop M (w :: r) := ⟨by rw [h.1]; unfold lvM; split <;> omega, h.2⟩
/-- what Stop tells of the reader -/
theorem Stop.rank {S : Src} {a M : Nat} {p : List Wd} (h : At S a p) (s : Stop M p) : Src.rank (S.wd a) < lvM M := by
  cases p with
  | nil => rw [h.nil.2]; unfold lvM; split <;> decide
  | cons w r => rw [h.wd]; exact s.1
theorem Stop.noP {S : Src} {a M : Nat} {p : List Wd} (h : At S a p) (s : Stop M p) : S.eqW a "(" = false := by
  cases p with
  | nil => unfold Src.eqW; rw [h.nil.2]; decide +kernel
  | cons w r => exact h.not s.2.1
theorem Stop.noD {S : Src} {a M : Nat} {p : List Wd} (h : At S a p) (s : Stop M p) : S.eqW a "." = false := by
  cases p with
  | nil => unfold Src.eqW; rw [h.nil.2]; decide +kernel
  | cons w r => exact h.not s.2.2
/-- chains -/
def CH (S : Src) (f d g least a : Nat) : Rs Tn := S.chG (S.ch f 3 (d + 1)) (S.sg (f + 1) d) d g least a
theorem ch_CH (S : Src) (f least d a : Nat) : S.ch (f + 1) least d a = CH S f d 8 least a := rfl
theorem CH_s (S : Src) (f d g least a : Nat) : CH S f d (g + 1) least a = S.chainM (S.ch f 3 (d + 1)) (S.sg (f + 1) d) (CH S f d g) least d a := rfl
/-- begins with none of these -/
def Hd (nw : List Wd) : Prop := ∃ w r, nw = w :: r ∧ w.1 ≠ tl "let" ∧ w.1 ≠ tl "if" ∧ w.1 ≠ tl "loop" ∧ w.1 ≠ tl ")"
def HdP (nw : List Wd) : Prop := ∃ w r, nw = w :: r ∧ w.1 ≠ tl ")"
theorem HdP.app {x y : List Wd} : HdP x → HdP (x ++ y) := fun ⟨w, r, e, h⟩ => ⟨w, r ++ y, by rw [e]; rfl, h⟩
theorem Hd.app {x y : List Wd} : Hd x → Hd (x ++ y) := fun ⟨w, r, e, h⟩ => ⟨w, r ++ y, by rw [e]; rfl, h⟩
/-- a value is read -/
def RdV (k : Nat) (nw : List Wd) (t : Tn) : Prop := HdP nw ∧ ∀ (S : Src) (a : Nat) (post : List Wd), At S a (nw ++ post) → Stop 0 post → ∀ f d, k + 2 ≤ f → d + 2 * k + 2 ≤ 30 → S.val f d a = .ok t (a + nw.length)
/-- a chain begins so -/
def RdG (k M lm : Nat) (nw : List Wd) (t : Tn) (tp : Nat) : Prop := Hd nw ∧ ∀ (S : Src) (a : Nat) (post : List Wd), At S a (nw ++ post) → Stop M post → ∀ f d g least, k ≤ f → d + 2 * k + 1 ≤ 30 → 1 ≤ least → least ≤ lm → 7 ≤ g + least →
  CH S f d (g + 1) least a = S.goM (CH S f d g) least tp t (a + nw.length)
/-- signed -/
def RdS (k : Nat) (nw : List Wd) (t : Tn) : Prop := (∃ w r, nw = w :: r ∧ w.1 ≠ tl "let" ∧ w.1 ≠ tl "if" ∧ w.1 ≠ tl "loop" ∧ w.1 ≠ tl ")" ∧ w.1 ≠ tl "not") ∧ ∀ (S : Src) (a : Nat) (post : List Wd), At S a (nw ++ post) → Stop 5 post → ∀ f d, k ≤ f → d + 2 * k + 1 ≤ 30 →
  S.sg (f + 1) d a = .ok t (a + nw.length)
/-- up to the dots -/
def RdD (nw : List Wd) (t : Tn) : Prop := (∃ w r, nw = w :: r ∧ w.1 ≠ tl "let" ∧ w.1 ≠ tl "if" ∧ w.1 ≠ tl "loop" ∧ w.1 ≠ tl ")" ∧ w.1 ≠ tl "not" ∧ w.1 ≠ tl "-") ∧ ∀ (S : Src) (V : Nat → Rs Tn) (a : Nat) (post : List Wd), At S a (nw ++ post) → S.eqW (a + nw.length) "(" = false →
  S.reachM V a = S.dotsM t (a + nw.length)
/-- a printed tree of this level -/
def Pr (k L : Nat) (nw : List Wd) (t : Tn) : Prop :=
  match L with
  | 0 => RdV k nw t
  | 5 => RdS k nw t
  | 6 => RdD nw t
  | M + 1 => ∃ tp, min 6 (lvM (M + 1)) ≤ tp ∧ RdG k (M + 1) (lvM (M + 1)) nw t tp
section
variable {k j M lm c L tp tp' : Nat} {nw nr : List Wd} {t t' : Tn} {w : Wd}
theorem RdV.mono (h : k ≤ j) (q : RdV k nw t) : RdV j nw t := ⟨q.1, fun S a p h1 h2 f d h3 h4 => q.2 S a p h1 h2 f d (by omega) (by omega)⟩
theorem RdG.mono (h : k ≤ j) (hl : L ≤ M) (hm : lm ≤ c) (q : RdG k M c nw t tp) : RdG j L lm nw t tp := ⟨q.1, fun S a p h1 h2 f d g least h3 h4 h5 h6 h7 => q.2 S a p h1 (h2.mono hl) f d g least (by omega) (by omega) h5 (by omega) h7⟩
theorem RdS.mono (h : k ≤ j) (q : RdS k nw t) : RdS j nw t := ⟨q.1, fun S a p h1 h2 f d h3 h4 => q.2 S a p h1 h2 f d (by omega) (by omega)⟩
theorem go_stop {S : Src} {R : Nat → Nat → Rs Tn} {least mo a : Nat} (h : Src.rank (S.wd a) < least) : S.goM R least mo t a = .ok t a := by
  rw [Src.goM, if_neg (by omega)]
theorem RdS.g (q : RdS k nw t) (hM : M ≤ 5) (hl : lm ≤ 7) : RdG k M lm nw t 6 := by
  obtain ⟨⟨w, r, rfl, n1, n2, n3, n5, n4⟩, q⟩ := q
  refine ⟨⟨w, r, rfl, n1, n2, n3, n5⟩, fun S a p h1 h2 f d g least h3 h4 h5 h6 h7 => ?_⟩
  rw [CH_s]
  unfold Src.chainM
  rw [if_neg (fun e => by rw [At.not (show At S a (w :: (r ++ p)) from h1) n4] at e; exact absurd e.1 (by decide)), q S a p h1 (h2.mono hM) f d h3 h4]
  rfl
theorem RdG.v (q : RdG k 0 1 nw t tp) : RdV k nw t := by
  obtain ⟨⟨w, r, rfl, n1, n2, n3, n5⟩, q⟩ := q
  refine ⟨⟨w, r, rfl, n5⟩, ?_⟩
  intro S a p h1 h2 f d h3 h4
  obtain ⟨f, rfl⟩ : ∃ f', f = f' + 2 := ⟨f - 2, by omega⟩
  have h1' : At S a (w :: (r ++ p)) := h1
  have ha := h1'.lt
  rw [Src.val_s]
  unfold Src.valM
  rw [if_neg (by omega), if_neg (by rw [h1'.not n1]; decide), if_neg (by rw [h1'.not n2]; decide), if_neg (by rw [h1'.not n3]; decide), ch_CH]
  rw [q S a p h1 h2 f (d + 1) 7 1 (by omega) (by omega) (Nat.le_refl _) (Nat.le_refl _) (by omega)]
  exact go_stop (h2.rank h1.app)
theorem RdG.bin (q : RdG k (c + 1) (lm) nw t tp) (q' : RdG k (c + 1) (lvM (c + 1)) nr t' tp') (hr : Src.rank w.1 + 1 = lvM (c + 1)) (hlm : lm ≤ Src.rank w.1) (ht : Src.rank w.1 ≤ tp) (n1 : w.1 ≠ tl "(") (n2 : w.1 ≠ tl ".") :
    RdG k (c + 1) lm (nw ++ w :: nr) (Src.binT t t' w.1) (Src.topR (Src.rank w.1)) := by
  refine ⟨q.1.app, fun S a p h1 h2 f d g least h3 h4 h5 h6 h7 => ?_⟩
  rw [List.append_assoc] at h1
  have h1 : At S a (nw ++ w :: (nr ++ p)) := h1
  rw [q.2 S a _ h1 ⟨by omega, n1, n2⟩ f d g least h3 h4 h5 h6 h7]
  have hw := h1.app
  have r6 := rank_le6 w.1
  obtain ⟨g, rfl⟩ : ∃ g', g = g' + 1 := ⟨g - 1, by omega⟩
  rw [Src.goM, hw.wd, if_pos (by omega), q'.2 S _ p hw.next h2 f d g _ h3 h4 (by omega) (by omega) (by omega)]
  have hn := hw.next.app
  rw [go_stop (by have := h2.rank hn; omega)]
  have hlt := hw.lt
  show (if h : a + nw.length < a + nw.length + 1 + nr.length ∧ a + nw.length < S.n then _ else _) = _
  rw [dif_pos ⟨by omega, hlt⟩]
  congr 1
  rw [List.length_append, List.length_cons]
  omega
/-! ### the forms -/
theorem ne_sort {u : List Nat} {s : Str} (h : sortW w.1 = s) (g : sortW u ≠ s) : w.1 ≠ u := fun e => g (by rw [← e]; exact h)
theorem sw_let : sortW (tl "let") = "word" := by decide +kernel
theorem sw_if : sortW (tl "if") = "word" := by decide +kernel
theorem sw_loop : sortW (tl "loop") = "word" := by decide +kernel
theorem sw_not : sortW (tl "not") = "word" := by decide +kernel
theorem sw_cl : sortW (tl ")") = "sign" := by decide +kernel
theorem sw_op : sortW (tl "(") = "sign" := by decide +kernel
theorem sw_mi : sortW (tl "-") = "sign" := by decide +kernel
theorem wn : ("word" : Str) ≠ "name" := by decide +kernel
theorem sn : ("sign" : Str) ≠ "name" := by decide +kernel
theorem wm : ("word" : Str) ≠ "number" := by decide +kernel
theorem sm : ("sign" : Str) ≠ "number" := by decide +kernel
theorem mn : ("number" : Str) ≠ "name" := by decide +kernel
theorem hd_of {s : Str} (h : sortW w.1 = s) (h1 : ("word" : Str) ≠ s) (h2 : ("sign" : Str) ≠ s) : ∃ w' r, w :: nw = w' :: r ∧ w'.1 ≠ tl "let" ∧ w'.1 ≠ tl "if" ∧ w'.1 ≠ tl "loop" ∧ w'.1 ≠ tl ")" ∧ w'.1 ≠ tl "not" ∧ w'.1 ≠ tl "-" :=
  ⟨w, nw, rfl, ne_sort h (by rw [sw_let]; exact h1), ne_sort h (by rw [sw_if]; exact h1), ne_sort h (by rw [sw_loop]; exact h1), ne_sort h (by rw [sw_cl]; exact h2), ne_sort h (by rw [sw_not]; exact h1), ne_sort h (by rw [sw_mi]; exact h2)⟩
theorem At.isN {S : Src} {a : Nat} {r : List Wd} (h : At S a (w :: r)) : S.isN a = decide (sortW w.1 = "name") := by unfold Src.isN; rw [h.so]; rfl
theorem At.nam {S : Src} {a : Nat} {r : List Wd} (h : At S a (w :: r)) (e : sortW w.1 = "name") : S.isN a = true := by rw [h.isN]; exact decide_eq_true e
theorem At.noN {S : Src} {a : Nat} {r : List Wd} {s : Str} (h : At S a (w :: r)) (e : sortW w.1 = s) (g : s ≠ "name") : S.isN a = false := by rw [h.isN]; exact decide_eq_false (by rw [e]; exact g)
theorem rdd_name (h : sortW w.1 = "name") : RdD [w] ⟨"name", w.2, w.2 + w.1.length, [.str (strL w.1)]⟩ := by
  refine ⟨hd_of h wn sn, fun S V a p h1 h2 => ?_⟩
  have h1 : At S a (w :: p) := h1
  have h2 : S.eqW (a + 1) "(" = false := h2
  unfold Src.reachM Src.simpM Src.namedM
  rw [if_pos (h1.nam h), if_pos (h1.nam h), h2, if_neg (by decide), h1.st, h1.en]
  unfold Src.strW
  rw [h1.wd]
  rfl
theorem rdd_num (h : sortW w.1 = "number") : RdD [w] ⟨"number", w.2, w.2 + w.1.length, [.int (Src.numv w.1)]⟩ := by
  refine ⟨hd_of h wm sm, fun S V a p h1 h2 => ?_⟩
  have h1 : At S a (w :: p) := h1
  unfold Src.reachM Src.simpM
  rw [if_neg (by rw [h1.noN h mn]; decide), if_pos (decide_eq_true (by rw [h1.so]; exact h)), h1.st, h1.en, h1.wd]
  rfl
theorem rdd_truth (b : Bool) (h : w.1 = if b = true then tl "True" else tl "False") : RdD [w] ⟨"truth", w.2, w.2 + w.1.length, [.bl b]⟩ := by
  have hs : sortW w.1 = "word" := by rw [h]; cases b <;> decide +kernel
  refine ⟨⟨w, [], rfl, by rw [h]; cases b <;> decide +kernel, by rw [h]; cases b <;> decide +kernel, by rw [h]; cases b <;> decide +kernel, by rw [h]; cases b <;> decide +kernel, by rw [h]; cases b <;> decide +kernel, by rw [h]; cases b <;> decide +kernel⟩, fun S V a p h1 h2 => ?_⟩
  have h1 : At S a (w :: p) := h1
  unfold Src.reachM Src.simpM
  rw [if_neg (by rw [h1.noN hs wn]; decide), if_neg (by rw [h1.so, hs]; decide +kernel), if_neg (by rw [h1.not (by rw [h]; cases b <;> decide +kernel)]; decide), h1.st, h1.en]
  cases b with
  | true => rw [h1.yes (s := "True") h, h1.not (s := "False") (by rw [h]; decide +kernel)]; rfl
  | false => rw [h1.yes (s := "False") h, h1.not (s := "True") (by rw [h]; decide +kernel)]; rfl
theorem rdd_field {wn : Wd} (q : RdD nw t) (h1 : w.1 = tl ".") (h2 : sortW wn.1 = "name") : RdD (nw ++ [w, wn]) ⟨"field", t.s, wn.2 + wn.1.length, [t.d, .str (strL wn.1)]⟩ := by
  obtain ⟨⟨u, r, rfl, hu⟩, q⟩ := q
  refine ⟨⟨u, r ++ [w, wn], rfl, hu⟩, fun S V a p k1 k2 => ?_⟩
  have k1 : At S a ((u :: r) ++ w :: wn :: p) := by rw [List.append_assoc] at k1; exact k1
  have kw := k1.app
  rw [q S V a _ k1 (kw.not (by rw [h1]; decide +kernel)), Src.dotsM, if_pos (kw.yes h1), if_pos (kw.next.nam h2), dif_pos kw.lt]
  unfold Src.strW
  rw [kw.next.st, kw.next.wd, List.length_append]
  rfl
theorem RdD.s (q : RdD nw t) : RdS 0 nw t := by
  obtain ⟨⟨u, r, rfl, n1, n2, n3, n4, n5, n6⟩, q⟩ := q
  refine ⟨⟨u, r, rfl, n1, n2, n3, n4, n5⟩, fun S a p h1 h2 f d h3 h4 => ?_⟩
  rw [Src.sg_s]
  unfold Src.signM
  rw [if_neg (by rw [At.not (show At S a (u :: (r ++ p)) from h1) n6]; decide), q S _ a p h1 (h2.noP h1.app), Src.dotsM, if_neg (by rw [h2.noD h1.app]; decide)]
theorem dots_stop {S : Src} {a M : Nat} {p : List Wd} (h : At S a p) (s : Stop M p) : S.dotsM t a = .ok t a := by rw [Src.dotsM, if_neg (by rw [s.noD h]; decide)]
theorem rds_group {w2 : Wd} (q : RdV k nw t) (h1 : w.1 = tl "(") (h2 : w2.1 = tl ")") : RdS (k + 1) (w :: (nw ++ [w2])) ⟨"group", w.2, w2.2 + w2.1.length, [t.d]⟩ := by
  refine ⟨⟨w, _, rfl, by rw [h1]; decide +kernel, by rw [h1]; decide +kernel, by rw [h1]; decide +kernel, by rw [h1]; decide +kernel, by rw [h1]; decide +kernel⟩, fun S a p k1 k2 f d k3 k4 => ?_⟩
  have k1 : At S a (w :: (nw ++ w2 :: p)) := by
    have e : w :: (nw ++ [w2]) ++ p = w :: (nw ++ w2 :: p) := by simp
    rw [e] at k1
    exact k1
  have hs : sortW w.1 = "sign" := by rw [h1]; exact sw_op
  have kn := k1.next
  have kp := kn.app
  rw [Src.sg_s]
  unfold Src.signM
  rw [if_neg (by rw [k1.not (by rw [h1]; decide +kernel)]; decide)]
  unfold Src.reachM Src.simpM
  rw [if_neg (by rw [k1.noN hs sn]; decide), if_neg (by rw [k1.so, hs]; decide +kernel), if_pos (k1.yes h1), q.2 S _ _ kn (Stop.word (by rw [h2]; decide +kernel)) (f + 1) d (by omega) (by omega)]
  show Rs.bind (if S.eqW (a + 1 + nw.length) ")" = true then _ else _) _ = _
  rw [if_pos (kp.yes h2), k1.st, kp.en]
  show S.dotsM _ _ = _
  have el : a + (w :: (nw ++ [w2])).length = a + 1 + nw.length + 1 := by rw [List.length_cons, List.length_append, List.length_singleton]; omega
  rw [el]
  exact dots_stop kp.next k2
theorem rds_minus (q : RdS k nw t) (h1 : w.1 = tl "-") : RdS (k + 1) (w :: nw) ⟨"minus", w.2, t.e, [t.d]⟩ := by
  refine ⟨⟨w, _, rfl, by rw [h1]; decide +kernel, by rw [h1]; decide +kernel, by rw [h1]; decide +kernel, by rw [h1]; decide +kernel, by rw [h1]; decide +kernel⟩, fun S a p k1 k2 f d k3 k4 => ?_⟩
  have k1 : At S a (w :: (nw ++ p)) := k1
  obtain ⟨f, rfl⟩ : ∃ f', f = f' + 1 := ⟨f - 1, by omega⟩
  rw [Src.sg_s]
  unfold Src.signM
  rw [if_pos (k1.yes h1), if_neg (by omega), q.2 S _ _ k1.next k2 f (d + 1) (by omega) (by omega), k1.st, List.length_cons]
  show Rs.ok _ _ = _
  congr 1
  omega
theorem rdg_not (q : RdG k 2 3 nw t tp) (h1 : w.1 = tl "not") : RdG (k + 1) 2 3 (w :: nw) ⟨"not", w.2, t.e, [t.d]⟩ 3 := by
  refine ⟨⟨w, _, rfl, by rw [h1]; decide +kernel, by rw [h1]; decide +kernel, by rw [h1]; decide +kernel, by rw [h1]; decide +kernel⟩, fun S a p k1 k2 f d g least k3 k4 k5 k6 k7 => ?_⟩
  have k1 : At S a (w :: (nw ++ p)) := k1
  obtain ⟨f, rfl⟩ : ∃ f', f = f' + 1 := ⟨f - 1, by omega⟩
  rw [CH_s]
  unfold Src.chainM
  rw [if_pos ⟨k1.yes h1, k6⟩, if_neg (by omega), ch_CH, q.2 S _ _ k1.next k2 f (d + 1) 7 3 (by omega) (by omega) (by decide) (by decide) (by decide), go_stop (least := 3) (k2.rank k1.next.app), k1.st, List.length_cons]
  show S.goM _ _ _ _ _ = _
  congr 1
  omega
/-! ### calls -/
def RdA (k : Nat) (nw : List Wd) (ts : List Tn) : Prop := HdP nw ∧ ∀ (S : Src) (a : Nat) (post : List Wd), At S a (nw ++ post) → Stop 0 post → ∀ f d, k + 2 ≤ f → d + 2 * k + 2 ≤ 30 → ∀ s0 nm,
  (S.val f d a).bind (fun t a' => S.argsM (S.val f d) s0 nm [t.d] a') = S.argsM (S.val f d) s0 nm (ts.map Tn.d) (a + nw.length)
theorem RdV.a (q : RdV k nw t) : RdA k nw [t] := ⟨q.1, fun S a p h1 h2 f d h3 h4 s0 nm => by rw [q.2 S a p h1 h2 f d h3 h4]; rfl⟩
theorem RdA.more {ts : List Tn} (q : RdA k nw ts) (q' : RdV k nr t) (h1 : w.1 = tl ",") : RdA k (nw ++ w :: nr) (ts ++ [t]) := by
  refine ⟨q.1.app, fun S a p k1 k2 f d k3 k4 s0 nm => ?_⟩
  rw [List.append_assoc] at k1
  have k1 : At S a (nw ++ w :: (nr ++ p)) := k1
  have kw := k1.app
  have hlt := kw.lt
  rw [q.2 S a _ k1 (Stop.word (by rw [h1]; decide +kernel)) f d k3 k4, Src.argsM, if_pos (kw.yes h1), q'.2 S _ p kw.next k2 f d k3 k4]
  show (if h : a + nw.length < a + nw.length + 1 + nr.length ∧ a + nw.length < S.n then _ else _) = _
  rw [dif_pos ⟨by omega, hlt⟩, List.map_append, List.length_append, List.length_cons]
  congr 1
  omega
theorem rds_call {ts : List Tn} {p1 p2 : Wd} (q : RdA k nw ts) (h : sortW w.1 = "name") (h1 : p1.1 = tl "(") (h2 : p2.1 = tl ")") : RdS (k + 1) (w :: p1 :: (nw ++ [p2])) ⟨"call", w.2, p2.2 + p2.1.length, [.str (strL w.1), .tup (ofL (ts.map Tn.d))]⟩ := by
  obtain ⟨⟨u, r, rfl, hu⟩, q⟩ := q
  obtain ⟨w', r', e', n1, n2, n3, n4, n5, n6⟩ := hd_of (nw := p1 :: (u :: r ++ [p2])) h wn sn
  cases e'
  refine ⟨⟨w, _, rfl, n1, n2, n3, n4, n5⟩, fun S a p k1 k2 f d k3 k4 => ?_⟩
  have k1 : At S a (w :: p1 :: (u :: r ++ p2 :: p)) := by
    have e : w :: p1 :: (u :: r ++ [p2]) ++ p = w :: p1 :: (u :: r ++ p2 :: p) := by simp
    rw [e] at k1
    exact k1
  have k2' := k1.next
  have k3' := k2'.next
  have kp := k3'.app
  rw [Src.sg_s]
  unfold Src.signM
  rw [if_neg (by rw [k1.not n6]; decide)]
  unfold Src.reachM Src.simpM Src.namedM
  rw [if_pos (k1.nam h), if_pos (k1.nam h), if_pos (k2'.yes h1), if_neg (by rw [At.not (show At S (a + 2) (u :: (r ++ p2 :: p)) from k3') hu]; decide)]
  have e := q S (a + 2) (p2 :: p) k3' (Stop.word (by rw [h2]; decide +kernel)) (f + 1) d (by omega) (by omega) (S.st a) (S.strW a)
  rw [e, Src.argsM, if_neg (by rw [At.not (show At S (a + 2 + (u :: r).length) (p2 :: p) from kp) (by rw [h2]; decide +kernel)]; decide), if_pos (At.yes (show At S (a + 2 + (u :: r).length) (p2 :: p) from kp) h2), k1.st, At.en (show At S (a + 2 + (u :: r).length) (p2 :: p) from kp)]
  unfold Src.strW
  rw [k1.wd]
  show S.dotsM _ _ = _
  have el : a + (w :: p1 :: (u :: r ++ [p2])).length = a + 2 + (u :: r).length + 1 := by rw [List.length_cons, List.length_cons, List.length_append, List.length_singleton]; omega
  rw [el]
  exact dots_stop kp.next k2
theorem rds_call0 {p1 p2 : Wd} (h : sortW w.1 = "name") (h1 : p1.1 = tl "(") (h2 : p2.1 = tl ")") : RdS 0 [w, p1, p2] ⟨"call", w.2, p2.2 + p2.1.length, [.str (strL w.1), .tup .nil]⟩ := by
  obtain ⟨w', r', e', n1, n2, n3, n4, n5, n6⟩ := hd_of (nw := [p1, p2]) h wn sn
  cases e'
  refine ⟨⟨w, _, rfl, n1, n2, n3, n4, n5⟩, fun S a p k1 k2 f d k3 k4 => ?_⟩
  have k1 : At S a (w :: p1 :: p2 :: p) := k1
  have k2' := k1.next
  have k3' := k2'.next
  rw [Src.sg_s]
  unfold Src.signM
  rw [if_neg (by rw [k1.not n6]; decide)]
  unfold Src.reachM Src.simpM Src.namedM
  rw [if_pos (k1.nam h), if_pos (k1.nam h), if_pos (k2'.yes h1), if_pos (At.yes (show At S (a + 2) (p2 :: p) from k3') h2), k1.st, At.en (show At S (a + 2) (p2 :: p) from k3')]
  unfold Src.strW
  rw [k1.wd]
  show S.dotsM _ _ = _
  exact dots_stop k3'.next k2
/-! ### wide forms -/
theorem part_ok {S : Src} {a f d : Nat} {p : List Wd} {s : Str} (q : RdV k nw t) (h1 : At S a (w :: (nw ++ p))) (e : w.1 = tl s) (h2 : Stop 0 p) (h3 : k + 2 ≤ f) (h4 : d + 2 * k + 2 ≤ 30) : S.part (S.val f d) s a = .ok t (a + 1 + nw.length) := by
  unfold Src.part
  rw [if_pos (h1.yes e)]
  exact q.2 S _ p h1.next h2 f d h3 h4
theorem rdv_if {t1 t2 t3 : Tn} {n1 n2 n3 : List Wd} {w1 w2 w3 : Wd} (q1 : RdV k n1 t1) (q2 : RdV k n2 t2) (q3 : RdV k n3 t3) (h1 : w1.1 = tl "if") (h2 : w2.1 = tl "then") (h3 : w3.1 = tl "else") :
    RdV (k + 1) (w1 :: (n1 ++ w2 :: (n2 ++ w3 :: n3))) ⟨"if", w1.2, t3.e, [t1.d, t2.d, t3.d]⟩ := by
  refine ⟨⟨w1, _, rfl, by rw [h1]; decide +kernel⟩, fun S a p k1 k2 f d k3 k4 => ?_⟩
  have k1 : At S a (w1 :: (n1 ++ w2 :: (n2 ++ w3 :: (n3 ++ p)))) := by
    have e : w1 :: (n1 ++ w2 :: (n2 ++ w3 :: n3)) ++ p = w1 :: (n1 ++ w2 :: (n2 ++ w3 :: (n3 ++ p))) := by simp
    rw [e] at k1
    exact k1
  obtain ⟨f, rfl⟩ : ∃ f', f = f' + 1 := ⟨f - 1, by omega⟩
  have ka := k1.lt
  rw [Src.val_s]
  unfold Src.valM
  rw [if_neg (by omega), if_neg (by rw [k1.not (by rw [h1]; decide +kernel)]; decide), if_pos (k1.yes h1)]
  unfold Src.ifM
  rw [q1.2 S _ _ k1.next (Stop.word (by rw [h2]; decide +kernel)) f (d + 1) (by omega) (by omega)]
  show Rs.bind (S.part (S.val f (d + 1)) "then" (a + 1 + n1.length)) _ = _
  have kb := k1.next.app
  rw [part_ok q2 kb h2 (Stop.word (by rw [h3]; decide +kernel)) (by omega) (by omega)]
  show Rs.bind (S.part (S.val f (d + 1)) "else" (a + 1 + n1.length + 1 + n2.length)) _ = _
  have kc := kb.next.app
  rw [part_ok q3 kc h3 k2 (by omega) (by omega), k1.st]
  show Rs.ok _ _ = _
  congr 1
  simp only [List.length_cons, List.length_append]
  omega
theorem rdv_let {t1 t2 : Tn} {n1 n2 : List Wd} {w1 wn w2 w3 : Wd} (q1 : RdV k n1 t1) (q2 : RdV k n2 t2) (h1 : w1.1 = tl "let") (hn : sortW wn.1 = "name") (h2 : w2.1 = tl "=") (h3 : w3.1 = tl "in") :
    RdV (k + 1) (w1 :: wn :: w2 :: (n1 ++ w3 :: n2)) ⟨"let", w1.2, t2.e, [.str (strL wn.1), .int (wn.2 : Int), t1.d, t2.d]⟩ := by
  refine ⟨⟨w1, _, rfl, by rw [h1]; decide +kernel⟩, fun S a p k1 k2 f d k3 k4 => ?_⟩
  have k1 : At S a (w1 :: wn :: w2 :: (n1 ++ w3 :: (n2 ++ p))) := by
    have e : w1 :: wn :: w2 :: (n1 ++ w3 :: n2) ++ p = w1 :: wn :: w2 :: (n1 ++ w3 :: (n2 ++ p)) := by simp
    rw [e] at k1
    exact k1
  obtain ⟨f, rfl⟩ : ∃ f', f = f' + 1 := ⟨f - 1, by omega⟩
  have ka := k1.lt
  have kn := k1.next
  have kb := kn.next
  have kc := kb.next.app
  rw [Src.val_s]
  unfold Src.valM
  rw [if_neg (by omega), if_pos (k1.yes h1)]
  unfold Src.letM
  rw [if_pos (kn.nam hn), part_ok q1 kb h2 (Stop.word (by rw [h3]; decide +kernel)) (by omega) (by omega)]
  show Rs.bind (S.part (S.val f (d + 1)) "in" (a + 1 + 1 + 1 + n1.length)) _ = _
  rw [part_ok q2 kc h3 k2 (by omega) (by omega), k1.st, kn.st]
  unfold Src.strW
  rw [kn.wd]
  show Rs.ok _ _ = _
  congr 1
  simp only [List.length_cons, List.length_append]
  omega
theorem rdv_loop {t1 t2 t3 : Tn} {n1 n2 n3 : List Wd} {w1 wn w2 w3 w4 : Wd} (q1 : RdV k n1 t1) (q2 : RdV k n2 t2) (q3 : RdV k n3 t3) (h1 : w1.1 = tl "loop") (hn : sortW wn.1 = "name") (h2 : w2.1 = tl "=") (h3 : w3.1 = tl "times") (h4 : w4.1 = tl "do") :
    RdV (k + 1) (w1 :: wn :: w2 :: (n1 ++ w3 :: (n2 ++ w4 :: n3))) ⟨"loop", w1.2, t3.e, [.str (strL wn.1), .int (wn.2 : Int), t1.d, t2.d, t3.d]⟩ := by
  refine ⟨⟨w1, _, rfl, by rw [h1]; decide +kernel⟩, fun S a p k1 k2 f d k3 k4 => ?_⟩
  have k1 : At S a (w1 :: wn :: w2 :: (n1 ++ w3 :: (n2 ++ w4 :: (n3 ++ p)))) := by
    have e : w1 :: wn :: w2 :: (n1 ++ w3 :: (n2 ++ w4 :: n3)) ++ p = w1 :: wn :: w2 :: (n1 ++ w3 :: (n2 ++ w4 :: (n3 ++ p))) := by simp
    rw [e] at k1
    exact k1
  obtain ⟨f, rfl⟩ : ∃ f', f = f' + 1 := ⟨f - 1, by omega⟩
  have ka := k1.lt
  have kn := k1.next
  have kb := kn.next
  have kc := kb.next.app
  have kd := kc.next.app
  rw [Src.val_s]
  unfold Src.valM
  rw [if_neg (by omega), if_neg (by rw [k1.not (by rw [h1]; decide +kernel)]; decide), if_neg (by rw [k1.not (by rw [h1]; decide +kernel)]; decide), if_pos (k1.yes h1)]
  unfold Src.loopM
  rw [if_pos (kn.nam hn), part_ok q1 kb h2 (Stop.word (by rw [h3]; decide +kernel)) (by omega) (by omega)]
  show Rs.bind (S.part (S.val f (d + 1)) "times" (a + 1 + 1 + 1 + n1.length)) _ = _
  rw [part_ok q2 kc h3 (Stop.word (by rw [h4]; decide +kernel)) (by omega) (by omega)]
  show Rs.bind (S.part (S.val f (d + 1)) "do" (a + 1 + 1 + 1 + n1.length + 1 + n2.length)) _ = _
  rw [part_ok q3 kd h4 k2 (by omega) (by omega), k1.st, kn.st]
  unfold Src.strW
  rw [kn.wd]
  show Rs.ok _ _ = _
  congr 1
  simp only [List.length_cons, List.length_append]
  omega
end
end Sn

/-! Texts that are printed word by word. -/
namespace Sn
open PySem PySem.Spec PyProof.Rows L2 TL
/-- one token by itself -/
def tkOk : List Nat → Bool
  | [] => false
  | c :: r => if isL c = true then r.all isW else if isD c = true then r.all isD else decide (c :: r = [61, 61]) || (r.isEmpty && (!isW c && (c != 32 && (c != 10 && c != 35))))
theorem tkOk_cons (c : Nat) (r : List Nat) : tkOk (c :: r) = if isL c = true then r.all isW else if isD c = true then r.all isD else decide (c :: r = [61, 61]) || (r.isEmpty && (!isW c && (c != 32 && (c != 10 && c != 35)))) := rfl
def melt (c d : Nat) : Bool := (isW c && isW d) || (c == 61 && d == 61)
/-- they do not melt -/
def Jn (l m : List Nat) : Prop := ∀ c d, l.getLast? = some c → m.head? = some d → melt c d = false
theorem jn_blank (l m : List Nat) {d : Nat} (h : d = 32 ∨ d = 10) : Jn l (d :: m) := by
  intro c e _ h2
  cases h2
  unfold melt
  rcases h with h | h <;> subst h <;> simp [show isW 32 = false from rfl, show isW 10 = false from rfl]
theorem jn_app {a b m : List Nat} (hb : b ≠ []) : Jn (a ++ b) m → Jn b m := fun h c d h1 h2 => h c d (by rw [List.getLast?_append, h1]; rfl) h2
theorem jn_app' {a b m : List Nat} (hb : b ≠ []) : Jn b m → Jn (a ++ b) m := fun h c d h1 h2 => h c d (by
  obtain ⟨z, hz⟩ := List.getLast?_isSome.mpr hb |> Option.isSome_iff_exists.mp
  rw [List.getLast?_append, hz] at h1
  rw [hz]
  exact h1) h2
theorem jn_head {l x m : List Nat} (hx : x ≠ []) : Jn l x → Jn l (x ++ m) := fun h c d h1 h2 => h c d h1 (by
  cases x with
  | nil => exact absurd rfl hx
  | cons y r => exact h2)
/-- a run that is exactly the word -/
theorem run_word {p : Nat → Bool} {L s m : List Nat} {i : Nat} (h : L.drop i = s ++ m) (hs : s.all p = true) (hm : ∀ d, m.head? = some d → p d = false) (hi : i ≤ L.length) : run p L i = i + s.length := by
  have e : L.length = i + (s ++ m).length := by rw [← h, List.length_drop]; omega
  rw [List.length_append] at e
  have g : ∀ k, L[i + k]? = (s ++ m)[k]? := fun k => by rw [← h, List.getElem?_drop]
  refine run_at s.length i _ rfl (fun k c h1 h2 h3 => ?_) (by omega) (fun c h1 => ?_)
  · obtain ⟨j, rfl⟩ : ∃ j, k = i + j := ⟨k - i, by omega⟩
    rw [g, List.getElem?_append_left (by omega)] at h3
    exact List.all_eq_true.mp hs c (List.mem_of_getElem? h3)
  · rw [g, List.getElem?_append_right (Nat.le_refl _), Nat.sub_self] at h1
    exact hm c (by rw [List.head?_eq_getElem?]; exact h1)
theorem isW_L {c : Nat} (h : isL c = true) : isW c = true := by unfold isW; rw [h]; rfl
theorem isW_D {c : Nat} (h : isD c = true) : isW c = true := by unfold isW; rw [h]; simp
theorem slice_word {L s m : List Nat} {i : Nat} (h : L.drop i = s ++ m) : (L.drop i).take s.length = s := by rw [h, List.take_left']; rfl
theorem all_getLast {p : Nat → Bool} {l : List Nat} {c : Nat} (h : l.all p = true) (hc : l.getLast? = some c) : p c = true := List.all_eq_true.mp h c (List.mem_of_getLast? hc)
theorem tok_word {L s m : List Nat} {i c : Nat} (h : L.drop i = s ++ m) (hs : tkOk s = true) (hj : Jn s m) (hi : i ≤ L.length) (hc : s.head? = some c) : tokC L i c = (sortW s, i, i + s.length) := by
  obtain ⟨r, rfl⟩ : ∃ r, s = c :: r := by
    cases s with
    | nil => cases hc
    | cons a r => cases hc; exact ⟨r, rfl⟩
  obtain ⟨z, hz⟩ : ∃ z, (c :: r).getLast? = some z := Option.isSome_iff_exists.mp (List.getLast?_isSome.mpr (by simp))
  have sl := slice_word h
  rw [tkOk_cons] at hs
  unfold tokC sortW
  by_cases h1 : isL c = true
  · rw [if_pos h1] at hs
    have hall : (c :: r).all isW = true := by rw [List.all_cons, isW_L h1]; exact hs
    have rw1 := run_word h hall (fun d hd => by
      have := hj z d hz hd
      unfold melt at this
      rw [all_getLast hall hz] at this
      simp at this
      exact this.1) hi
    simp only [h1, if_true]
    rw [rw1, Nat.add_sub_cancel_left, sl]
  · rw [if_neg h1] at hs
    by_cases h2 : isD c = true
    · rw [if_pos h2] at hs
      have hall : (c :: r).all isD = true := by rw [List.all_cons, h2]; exact hs
      have rw1 := run_word h hall (fun d hd => by
        have := hj z d hz hd
        unfold melt at this
        rw [isW_D (all_getLast hall hz)] at this
        simp at this
        have k := this.1
        unfold isW at k
        simp at k
        exact k.2.1) hi
      simp only [h1, h2, if_true]
      rw [rw1]
      rfl
    · rw [if_neg h2] at hs
      simp only [h1, h2, if_true, if_false]
      rw [Bool.or_eq_true] at hs
      by_cases h3 : c :: r = [61, 61]
      · have e : (L.drop i).take 2 = [61, 61] := by
          have e2 : (c :: r).length = 2 := by rw [h3]; rfl
          rw [← e2, sl, h3]
        rw [if_pos e, if_pos h3]
        rw [h3]
        rfl
      · have hr : r = [] ∧ isW c = false := by
          rcases hs with hs | hs
          · exact absurd (of_decide_eq_true hs) h3
          · simp at hs
            exact ⟨hs.1, hs.2.1⟩
        obtain ⟨rfl, hw⟩ := hr
        have e : ¬ (L.drop i).take 2 = [61, 61] := by
          rw [h]
          intro k
          cases m with
          | nil => cases k
          | cons d m =>
            have k : [c, d] = [61, 61] := k
            cases k
            have := hj 61 61 rfl rfl
            exact absurd this (by decide)
        rw [if_neg e, if_neg h3]
        rfl
theorem tk_head {s : List Nat} (hs : tkOk s = true) : ∃ c r, s = c :: r ∧ ¬ (c = 32 ∨ c = 10) ∧ c ≠ 35 := by
  cases s with
  | nil => cases hs
  | cons c r =>
    refine ⟨c, r, rfl, ?_, ?_⟩
    · rintro (rfl | rfl)
      · unfold tkOk at hs
        simp [show isL 32 = false from rfl, show isD 32 = false from rfl] at hs
      · unfold tkOk at hs
        simp [show isL 10 = false from rfl, show isD 10 = false from rfl] at hs
    · rintro rfl
      unfold tkOk at hs
      simp [show isL 35 = false from rfl, show isD 35 = false from rfl] at hs
/-- no token -/
def Gp (g : List Nat) : Prop := (g ≠ [] → ∃ d r, g = d :: r ∧ (d = 32 ∨ d = 10)) ∧ ∀ (L : List Nat) (i : Nat) (rest : List Nat), L.drop i = g ++ rest → i ≤ L.length → toks L i L.length = toks L (i + g.length) L.length
theorem gp_nil : Gp [] := ⟨fun h => absurd rfl h, fun L i rest h _ => rfl⟩
theorem drop_at {L : List Nat} {i c : Nat} {r : List Nat} (h : L.drop i = c :: r) : L[i]? = some c ∧ i < L.length ∧ L.drop (i + 1) = r := by
  have e : L[i]? = some c := by
    have : (L.drop i)[0]? = some c := by rw [h]; rfl
    rw [List.getElem?_drop, Nat.add_zero] at this
    exact this
  refine ⟨e, (List.getElem?_eq_some_iff.mp e).1, ?_⟩
  rw [← List.drop_drop, h]
  rfl
theorem gp_blank {d : Nat} {g : List Nat} (hd : d = 32 ∨ d = 10) (hg : Gp g) : Gp (d :: g) := by
  refine ⟨fun _ => ⟨d, g, rfl, hd⟩, fun L i rest h hi => ?_⟩
  obtain ⟨h1, h2, h3⟩ := drop_at (show L.drop i = d :: (g ++ rest) from h)
  rw [toks_blank (Nat.le_refl _) h2 h1 hd, hg.2 L (i + 1) rest h3 h2, List.length_cons]
  congr 1
  omega
/-- a comment up to the end of its line -/
theorem toks_comment {L rest : List Nat} {i : Nat} (x : List Nat) (hx : x.all (fun d => d != 10) = true) (h : L.drop i = 35 :: x ++ 10 :: rest) (hi : i ≤ L.length) : toks L i L.length = toks L (i + x.length + 1) L.length := by
  obtain ⟨h1, h2, h3⟩ := drop_at (show L.drop i = 35 :: (x ++ 10 :: rest) from h)
  rw [toks_note (Nat.le_refl _) h2 h1]
  have e := run_word (p := fun d => d != 10) (L := L) (s := 35 :: x) (m := 10 :: rest) h (by rw [List.all_cons, hx]; rfl) (fun d hd => by cases hd; rfl) hi
  rw [e, List.length_cons]
  congr 1
/-- the text and its words -/
structure TX (l : List Nat) (ws : List Wd) : Prop where
  tk : ∀ m, Jn l m → toks (l ++ m) 0 (l ++ m).length = ws.map tkW ++ toks (l ++ m) l.length (l ++ m).length
  sl : ∀ w ∈ ws, w.2 + w.1.length ≤ l.length ∧ (l.drop w.2).take w.1.length = w.1
  len : l.length ≤ 40 * ws.length
theorem tx_nil : TX [] [] := ⟨fun m _ => rfl, fun w h => absurd h (by simp), Nat.le_refl _⟩
theorem TX.put {l : List Nat} {ws : List Wd} {g s : List Nat} (X : TX l ws) (hg : Gp g) (hs : tkOk s = true) (hj : g = [] → Jn l s) (h1 : g.length ≤ 15) (h2 : s.length ≤ 25) : TX (l ++ g ++ s) (ws ++ [(s, l.length + g.length)]) := by
  obtain ⟨c, r, hs', n1, n2⟩ := tk_head hs
  have sne : s ≠ [] := by rw [hs']; simp
  refine ⟨fun m hm => ?_, fun w hw => ?_, ?_⟩
  · have hm' : Jn s m := jn_app sne hm
    have e1 : l ++ g ++ s ++ m = l ++ (g ++ (s ++ m)) := by simp
    have hL : Jn l (g ++ (s ++ m)) := by
      by_cases k : g = []
      · subst k
        show Jn l (s ++ m)
        exact jn_head sne (hj rfl)
      · obtain ⟨d, q, rfl, hd⟩ := hg.1 k
        exact jn_blank _ _ hd
    have d1 : (l ++ (g ++ (s ++ m))).drop l.length = g ++ (s ++ m) := by simp
    have d2 : (l ++ (g ++ (s ++ m))).drop (l.length + g.length) = s ++ m := by rw [← List.drop_drop, d1]; simp
    have hle : l.length ≤ (l ++ (g ++ (s ++ m))).length := by rw [List.length_append]; omega
    have hle2 : l.length + g.length ≤ (l ++ (g ++ (s ++ m))).length := by simp
    have hle3 : l.length + g.length < (l ++ (g ++ (s ++ m))).length := by rw [hs']; simp
    have hc : (l ++ (g ++ (s ++ m)))[l.length + g.length]? = some c := (drop_at (r := r ++ m) (by rw [d2, hs']; rfl)).1
    rw [e1, X.tk _ hL, hg.2 _ _ _ d1 hle, toks_tok (Nat.le_refl _) hle3 hc n1 n2, tok_word d2 hs hm' hle2 (by rw [hs']; rfl)]
    rw [List.map_append, List.append_assoc]
    congr 1
    show _ :: toks _ (l.length + g.length + s.length) _ = _ :: _
    congr 1
    simp [Nat.add_assoc]
  · rcases List.mem_append.mp hw with hw | hw
    · obtain ⟨k1, k2⟩ := X.sl w hw
      refine ⟨by rw [List.append_assoc, List.length_append]; omega, ?_⟩
      rw [List.append_assoc, List.drop_append_of_le_length (by omega), List.take_append_of_le_length (by rw [List.length_drop]; omega)]
      exact k2
    · rw [List.mem_singleton] at hw
      subst hw
      refine ⟨by simp [Nat.add_assoc], ?_⟩
      have : (l ++ g ++ s).drop (l.length + g.length) = s := by
        have e : l.length + g.length = (l ++ g).length := by simp
        rw [e, List.drop_left']
        rfl
      show (List.drop (l.length + g.length) (l ++ g ++ s)).take s.length = s
      rw [this, List.take_length]
  · have := X.len
    simp only [List.length_append, List.length_singleton]
    omega
theorem TX.all {l : List Nat} {ws : List Wd} (X : TX l ws) : toks l 0 l.length = ws.map tkW := by
  have := X.tk [] (fun c d _ h => by cases h)
  rw [List.append_nil, toks_end (Nat.le_refl _), List.append_nil] at this
  exact this
theorem TX.has {l : List Nat} {ws : List Wd} (X : TX l ws) (r : Addr) : HasW ⟨r, l, toks l 0 l.length⟩ ws := ⟨X.all, fun w h => (X.sl w h).2⟩
/-- the whole text is this value -/
theorem TX.val {l : List Nat} {ws more : List Wd} {k : Nat} {t : Tn} (X : TX l (ws ++ more)) (q : RdV k ws t) (hk : 2 * k + 2 ≤ 30) (hs : Stop 0 more) (r : Addr) : (⟨r, l, toks l 0 l.length⟩ : Src).val (k + 2) 0 0 = .ok t ws.length := by
  have := q.2 ⟨r, l, toks l 0 l.length⟩ 0 more ⟨[], X.has r, rfl⟩ hs (k + 2) 0 (Nat.le_refl _) (by omega)
  rw [Nat.zero_add] at this
  exact this
end Sn

/-! The dict of ranks. -/
namespace Sn
open PySem PySem.Spec PyProof.Rows L2 TL
/-- the entries as they are written -/
abbrev rkE (P : Params) (k0 k1 k2 k3 k4 k5 k6 k7 v0 v1 v2 v3 v4 v5 v6 v7 : PySem.Tok) : Array DictEntry :=
  #[⟨PyData.keyHash P "or", .str "or" k0, .int 1 v0⟩, ⟨PyData.keyHash P "and", .str "and" k1, .int 2 v1⟩, ⟨PyData.keyHash P "==", .str "==" k2, .int 4 v2⟩, ⟨PyData.keyHash P "<", .str "<" k3, .int 4 v3⟩, ⟨PyData.keyHash P "+", .str "+" k4, .int 5 v4⟩,
    ⟨PyData.keyHash P "-", .str "-" k5, .int 5 v5⟩, ⟨PyData.keyHash P "*", .str "*" k6, .int 6 v6⟩, ⟨PyData.keyHash P "/", .str "/" k7, .int 6 v7⟩]
section
variable {K : PySem.W.Frag} {w : World} {aR : Addr} {n : Nat} {k0 k1 k2 k3 k4 k5 k6 k7 v0 v1 v2 v3 v4 v5 v6 v7 : PySem.Tok}
theorem rk_lit : PySem.W.KeysLit w.params (rkE w.params k0 k1 k2 k3 k4 k5 k6 k7 v0 v1 v2 v3 v4 v5 v6 v7).toList :=
  ⟨⟨_, _, rfl, rfl⟩, ⟨_, _, rfl, rfl⟩, ⟨_, _, rfl, rfl⟩, ⟨_, _, rfl, rfl⟩, ⟨_, _, rfl, rfl⟩, ⟨_, _, rfl, rfl⟩, ⟨_, _, rfl, rfl⟩, ⟨_, _, rfl, rfl⟩, trivial⟩
theorem rk_kd (h : K.lookup aR = some ⟨.type "dict", none, .dict (rkE w.params k0 k1 k2 k3 k4 k5 k6 k7 v0 v1 v2 v3 v4 v5 v6 v7) n, #[]⟩) (low : (aR == sysModules) = false) : KdAt K w aR := ⟨⟨_, _, h, rk_lit⟩, low⟩
theorem rk_eq {l : List Nat} {x : Str} : (x == strL l) = decide (l = tl x) := by
  by_cases k : l = tl x
  · rw [decide_eq_true k]
    have : strL l = x := ext_tl k
    rw [this]
    exact beq_self_eq_true x
  · rw [decide_eq_false k]
    refine beq_eq_false_iff_ne.mpr fun e => k ?_
    rw [e]
theorem rkd_all (h : K.lookup aR = some ⟨.type "dict", none, .dict (rkE w.params k0 k1 k2 k3 k4 k5 k6 k7 v0 v1 v2 v3 v4 v5 v6 v7) n, #[]⟩) (l : List Nat) :
    ∃ r : Option V, KdGet K aR (strL l) r ∧ r.getD (.int 0) = .int ((Src.rank l : Nat) : Int) ∧ (0 < Src.rank l → KDct K w aR (strL l) (.int ((Src.rank l : Nat) : Int))) := by
  have ns : PySem.W.nsIn K aR (strL l) = some (if l = tl "or" then some (.int 1 v0) else if l = tl "and" then some (.int 2 v1) else if l = tl "==" then some (.int 4 v2) else if l = tl "<" then some (.int 4 v3) else
      if l = tl "+" then some (.int 5 v4) else if l = tl "-" then some (.int 5 v5) else if l = tl "*" then some (.int 6 v6) else if l = tl "/" then some (.int 6 v7) else none) := by
    unfold PySem.W.nsIn
    rw [h]
    simp only [rkE, List.find?, Value.isStr, rk_eq]
    by_cases c0 : l = tl "or"
    · rw [decide_eq_true c0, if_pos c0]
    rw [decide_eq_false c0, if_neg c0]
    by_cases c1 : l = tl "and"
    · rw [decide_eq_true c1, if_pos c1]
    rw [decide_eq_false c1, if_neg c1]
    by_cases c2 : l = tl "=="
    · rw [decide_eq_true c2, if_pos c2]
    rw [decide_eq_false c2, if_neg c2]
    by_cases c3 : l = tl "<"
    · rw [decide_eq_true c3, if_pos c3]
    rw [decide_eq_false c3, if_neg c3]
    by_cases c4 : l = tl "+"
    · rw [decide_eq_true c4, if_pos c4]
    rw [decide_eq_false c4, if_neg c4]
    by_cases c5 : l = tl "-"
    · rw [decide_eq_true c5, if_pos c5]
    rw [decide_eq_false c5, if_neg c5]
    by_cases c6 : l = tl "*"
    · rw [decide_eq_true c6, if_pos c6]
    rw [decide_eq_false c6, if_neg c6]
    by_cases c7 : l = tl "/"
    · rw [decide_eq_true c7, if_pos c7]
    rw [decide_eq_false c7, if_neg c7]
    rfl
  unfold Src.rank
  by_cases c0 : l = tl "or"
  · rw [if_pos c0] at ns ⊢
    exact ⟨some (.int 1), ⟨_, ns, ⟨_, rfl⟩⟩, rfl, fun _ => ⟨_, _, _, h, rk_lit, ns, ⟨_, rfl⟩⟩⟩
  rw [if_neg c0] at ns ⊢
  by_cases c1 : l = tl "and"
  · rw [if_pos c1] at ns ⊢
    exact ⟨some (.int 2), ⟨_, ns, ⟨_, rfl⟩⟩, rfl, fun _ => ⟨_, _, _, h, rk_lit, ns, ⟨_, rfl⟩⟩⟩
  rw [if_neg c1] at ns ⊢
  by_cases c2 : l = tl "=="
  · rw [if_pos c2] at ns ⊢
    exact ⟨some (.int 4), ⟨_, ns, ⟨_, rfl⟩⟩, rfl, fun _ => ⟨_, _, _, h, rk_lit, ns, ⟨_, rfl⟩⟩⟩
  rw [if_neg c2] at ns ⊢
  by_cases c3 : l = tl "<"
  · rw [if_pos c3] at ns ⊢
    exact ⟨some (.int 4), ⟨_, ns, ⟨_, rfl⟩⟩, rfl, fun _ => ⟨_, _, _, h, rk_lit, ns, ⟨_, rfl⟩⟩⟩
  rw [if_neg c3] at ns ⊢
  by_cases c4 : l = tl "+"
  · rw [if_pos c4] at ns ⊢
    exact ⟨some (.int 5), ⟨_, ns, ⟨_, rfl⟩⟩, rfl, fun _ => ⟨_, _, _, h, rk_lit, ns, ⟨_, rfl⟩⟩⟩
  rw [if_neg c4] at ns ⊢
  by_cases c5 : l = tl "-"
  · rw [if_pos c5] at ns ⊢
    exact ⟨some (.int 5), ⟨_, ns, ⟨_, rfl⟩⟩, rfl, fun _ => ⟨_, _, _, h, rk_lit, ns, ⟨_, rfl⟩⟩⟩
  rw [if_neg c5] at ns ⊢
  by_cases c6 : l = tl "*"
  · rw [if_pos c6] at ns ⊢
    exact ⟨some (.int 6), ⟨_, ns, ⟨_, rfl⟩⟩, rfl, fun _ => ⟨_, _, _, h, rk_lit, ns, ⟨_, rfl⟩⟩⟩
  rw [if_neg c6] at ns ⊢
  by_cases c7 : l = tl "/"
  · rw [if_pos c7] at ns ⊢
    exact ⟨some (.int 6), ⟨_, ns, ⟨_, rfl⟩⟩, rfl, fun _ => ⟨_, _, _, h, rk_lit, ns, ⟨_, rfl⟩⟩⟩
  rw [if_neg c7] at ns ⊢
  exact ⟨none, ⟨_, ns, trivial⟩, rfl, fun z => absurd z (by decide)⟩
end
end Sn

/-! The mirror of the parser: items. -/
namespace Sn
open PySem PySem.Spec PyProof.Rows L2 TL
abbrev tD (l : List D) : D := .tup (ofL l)
namespace Src
variable (S : Src)
def markR (a : Nat) : Rs D := if S.isN a = true then .ok (tD [S.strW a, .int (S.st a : Int)]) (a + 1) else S.fail a
def expR (w : Str) (a : Nat) : Rs D := if S.eqW a w = true then .ok .non (a + 1) else S.fail a
def fieldR (a : Nat) : Rs D := (S.markR a).bind fun x a1 => (S.expR ":" a1).bind fun _ a2 => (S.markR a2).bind fun y a3 => .ok (tD [x, y]) a3
def optR (a : Nat) : Rs D := if S.eqW a ":" = true then S.markR (a + 1) else .ok .non a
def boundR (a : Nat) : Rs D := (S.markR a).bind fun x a1 => (S.optR a1).bind fun y a2 => .ok (tD [x, y]) a2
/-- more of them, behind commas -/
def moreR (R : Nat → Rs D) (acc : List D) (a : Nat) : Rs (List D) :=
  if S.eqW a "," = true then
    match R (a + 1) with
    | .ok x a' => if h : a < a' ∧ a < S.n then moreR R (acc ++ [x]) a' else .un
    | .no s e => .no s e
    | .un => .un
  else .ok acc a
termination_by S.n + 1 - a
def fieldsR (a : Nat) : Rs D := (S.expR "(" a).bind fun _ a1 => (if S.eqW a1 ")" = true then (.ok [] a1 : Rs (List D)) else (S.fieldR a1).bind fun x a2 => S.moreR S.fieldR [x] a2).bind fun xs a3 => (S.expR ")" a3).bind fun _ a4 => .ok (tD xs) a4
def boundsR (a : Nat) : Rs D := (if S.eqW a "[" = true then ((S.boundR (a + 1)).bind fun x a2 => S.moreR S.boundR [x] a2).bind fun xs a3 => (S.expR "]" a3).bind fun _ a4 => (.ok xs a4 : Rs (List D)) else .ok [] a).bind fun xs a5 => .ok (tD xs) a5
def importR (a : Nat) : Rs D := (S.markR a).bind fun x a1 => (S.expR ":" a1).bind fun _ a2 => (S.markR a2).bind fun y a3 => (S.moreR S.markR [y] a3).bind fun ys a4 => .ok (tD [.str "\x69mport", x, tD ys]) a4
def traitR (a : Nat) : Rs D := (S.markR a).bind fun x a1 => (S.expR "with" a1).bind fun _ a2 => (S.markR a2).bind fun y a3 => (S.expR "(" a3).bind fun _ a4 => (S.markR a4).bind fun z a5 => (S.moreR S.fieldR [] a5).bind fun xs a6 =>
  (S.expR ")" a6).bind fun _ a7 => (S.expR ":" a7).bind fun _ a8 => (S.markR a8).bind fun r a9 => .ok (tD [.str "trait", x, y, z, tD xs, r]) a9
def implR (V : Nat → Rs Tn) (a : Nat) : Rs D := (S.markR a).bind fun x a1 => (S.expR "for" a1).bind fun _ a2 => (S.markR a2).bind fun y a3 => (S.part V "=" a3).bind fun t a4 => .ok (tD [.str "impl", x, y, t.d]) a4
def defR (V : Nat → Rs Tn) (a : Nat) : Rs D := (S.markR a).bind fun x a1 => (S.boundsR a1).bind fun y a2 => (S.fieldsR a2).bind fun z a3 => (S.optR a3).bind fun r a4 => (S.part V "=" a4).bind fun t a5 => .ok (tD [.str "def", x, y, z, r, t.d]) a5
def dataR (a : Nat) : Rs D := (S.markR a).bind fun x a1 => (S.fieldsR a1).bind fun y a2 => .ok (tD [.str "data", x, y]) a2
def itemR (V : Nat → Rs Tn) (a : Nat) : Rs D :=
  if ¬ a < S.n then .ok (tD [.str "blank"]) a
  else if S.eqW a "\x69mport" = true then S.importR (a + 1)
  else if S.eqW a "data" = true then S.dataR (a + 1)
  else if S.eqW a "trait" = true then S.traitR (a + 1)
  else if S.eqW a "impl" = true then S.implR V (a + 1)
  else (S.expR "def" a).bind fun _ a1 => S.defR V a1
end Src
end Sn

/-! Printed items and what is read of them. -/
namespace Sn
open PySem PySem.Spec PyProof.Rows L2 TL
abbrev mkT (w : Wd) : D := tD [.str (strL w.1), .int (w.2 : Int)]
def StopE : List Wd → Prop
  | [] => True
  | w :: _ => w.1 ≠ tl ":"
section
variable {S : Src} {a : Nat} {w c w2 : Wd} {r : List Wd} {s : Str}
theorem At.mark (h : At S a (w :: r)) (hn : sortW w.1 = "name") : S.markR a = .ok (mkT w) (a + 1) := by
  unfold Src.markR
  rw [if_pos (h.nam hn), h.st]
  unfold Src.strW
  rw [h.wd]
theorem At.exp (h : At S a (w :: r)) (e : w.1 = tl s) : S.expR s a = .ok .non (a + 1) := by
  unfold Src.expR
  rw [if_pos (h.yes e)]
end
/-- an element is read -/
def ElR (R : Src → Nat → Rs D) (nw : List Wd) (x : D) : Prop := HdP nw ∧ ∀ (S : Src) (a : Nat) (post : List Wd), At S a (nw ++ post) → StopE post → R S a = .ok x (a + nw.length)
def SqR (R : Src → Nat → Rs D) (nw : List Wd) (xs : List D) : Prop := HdP nw ∧ ∀ (S : Src) (a : Nat) (post : List Wd), At S a (nw ++ post) → StopE post → ∃ x0 a0, R S a = .ok x0 a0 ∧ a < a0 ∧ S.moreR (R S) [x0] a0 = S.moreR (R S) xs (a + nw.length)
section
variable {R : Src → Nat → Rs D} {nw nr : List Wd} {x : D} {xs : List D} {w c w2 : Wd}
theorem nm_cl (h : sortW w.1 = "name") : w.1 ≠ tl ")" := ne_sort h (by rw [sw_cl]; exact sn)
theorem el_mark (h : sortW w.1 = "name") : ElR (fun S => S.markR) [w] (mkT w) := ⟨⟨w, [], rfl, nm_cl h⟩, fun S a p h1 _ => At.mark (r := p) h1 h⟩
theorem el_field (h : sortW w.1 = "name") (hc : c.1 = tl ":") (h2 : sortW w2.1 = "name") : ElR (fun S => S.fieldR) [w, c, w2] (tD [mkT w, mkT w2]) := by
  refine ⟨⟨w, _, rfl, nm_cl h⟩, fun S a p h1 _ => ?_⟩
  have h1 : At S a (w :: c :: w2 :: p) := h1
  show S.fieldR a = _
  unfold Src.fieldR
  rw [h1.mark h]
  show Rs.bind (S.expR ":" (a + 1)) _ = _
  rw [h1.next.exp hc]
  show Rs.bind (S.markR (a + 1 + 1)) _ = _
  rw [h1.next.next.mark h2]
  rfl
theorem el_bound2 (h : sortW w.1 = "name") (hc : c.1 = tl ":") (h2 : sortW w2.1 = "name") : ElR (fun S => S.boundR) [w, c, w2] (tD [mkT w, mkT w2]) := by
  refine ⟨⟨w, _, rfl, nm_cl h⟩, fun S a p h1 _ => ?_⟩
  have h1 : At S a (w :: c :: w2 :: p) := h1
  show S.boundR a = _
  unfold Src.boundR
  rw [h1.mark h]
  show Rs.bind (S.optR (a + 1)) _ = _
  unfold Src.optR
  rw [if_pos (h1.next.yes hc), h1.next.next.mark h2]
  rfl
theorem StopE.no {S : Src} {a : Nat} {p : List Wd} (h : At S a p) (s : StopE p) : S.eqW a ":" = false := by
  cases p with
  | nil => unfold Src.eqW; rw [h.nil.2]; decide +kernel
  | cons w r => exact h.not s
theorem el_bound1 (h : sortW w.1 = "name") : ElR (fun S => S.boundR) [w] (tD [mkT w, .non]) := by
  refine ⟨⟨w, _, rfl, nm_cl h⟩, fun S a p h1 h2 => ?_⟩
  have h1 : At S a (w :: p) := h1
  show S.boundR a = _
  unfold Src.boundR
  rw [h1.mark h]
  show Rs.bind (S.optR (a + 1)) _ = _
  unfold Src.optR
  rw [if_neg (by rw [h2.no h1.next]; decide)]
  rfl
theorem ElR.one (q : ElR R nw x) : SqR R nw [x] := by
  refine ⟨q.1, fun S a p h1 h2 => ⟨x, a + nw.length, q.2 S a p h1 h2, ?_, rfl⟩⟩
  obtain ⟨w, r, rfl, _⟩ := q.1
  rw [List.length_cons]
  omega
theorem SqR.more (q : SqR R nw xs) (q' : ElR R nr x) (hc : c.1 = tl ",") : SqR R (nw ++ c :: nr) (xs ++ [x]) := by
  refine ⟨q.1.app, fun S a p h1 h2 => ?_⟩
  rw [List.append_assoc] at h1
  have h1 : At S a (nw ++ c :: (nr ++ p)) := h1
  obtain ⟨x0, a0, e1, e2, e3⟩ := q.2 S a _ h1 (show c.1 ≠ tl ":" by rw [hc]; decide +kernel)
  refine ⟨x0, a0, e1, e2, ?_⟩
  have hw := h1.app
  have hlt := hw.lt
  rw [e3, Src.moreR, if_pos (hw.yes hc), q'.2 S _ p hw.next h2]
  show (if h : a + nw.length < a + nw.length + 1 + nr.length ∧ a + nw.length < S.n then _ else _) = _
  rw [dif_pos ⟨by omega, hlt⟩, List.length_append, List.length_cons]
  congr 1
  omega
/-- the list ends -/
theorem more_end {S : Src} {R : Nat → Rs D} {a : Nat} {r : List Wd} (h : At S a r) (hn : ∀ w r', r = w :: r' → w.1 ≠ tl ",") : S.moreR R xs a = .ok xs a := by
  have e : S.eqW a "," = false := by
    cases r with
    | nil => unfold Src.eqW; rw [h.nil.2]; decide +kernel
    | cons w r => exact h.not (hn w r rfl)
  rw [Src.moreR, if_neg (by rw [e]; decide)]
end
/-- fields in brackets -/
def FlB (nw : List Wd) (xs : List D) : Prop := ∃ p1 nn p2, nw = p1 :: (nn ++ [p2]) ∧ p1.1 = tl "(" ∧ p2.1 = tl ")" ∧ ((nn = [] ∧ xs = []) ∨ SqR (fun S => S.fieldR) nn xs)
def TrB (nw : List Wd) (wf : Wd) (xs : List D) : Prop := ∃ p1 nn p2, nw = p1 :: wf :: (nn ++ [p2]) ∧ p1.1 = tl "(" ∧ p2.1 = tl ")" ∧ sortW wf.1 = "name" ∧ ((nn = [] ∧ xs = []) ∨ ∃ c n', nn = c :: n' ∧ c.1 = tl "," ∧ SqR (fun S => S.fieldR) n' xs)
/-- bounds in brackets, or none -/
def BoB (nw : List Wd) (xs : List D) : Prop := (nw = [] ∧ xs = []) ∨ ∃ p1 nn p2, nw = p1 :: (nn ++ [p2]) ∧ p1.1 = tl "[" ∧ p2.1 = tl "]" ∧ SqR (fun S => S.boundR) nn xs
section
variable {S : Src} {a : Nat} {nw post : List Wd} {xs : List D}
theorem FlB.read (q : FlB nw xs) (h : At S a (nw ++ post)) : S.fieldsR a = .ok (tD xs) (a + nw.length) := by
  obtain ⟨p1, nn, p2, rfl, h1, h2, h3⟩ := q
  have h : At S a (p1 :: (nn ++ p2 :: post)) := by
    have e : p1 :: (nn ++ [p2]) ++ post = p1 :: (nn ++ p2 :: post) := by simp
    rw [e] at h
    exact h
  have el : a + (p1 :: (nn ++ [p2])).length = a + 1 + nn.length + 1 := by rw [List.length_cons, List.length_append, List.length_singleton]; omega
  rw [el]
  unfold Src.fieldsR
  rw [h.exp h1]
  show Rs.bind (if S.eqW (a + 1) ")" = true then _ else _) _ = _
  have hb := h.next.app
  rcases h3 with ⟨rfl, rfl⟩ | ⟨⟨u, r, rfl, hu⟩, q⟩
  · have hn : At S (a + 1) (p2 :: post) := h.next
    rw [if_pos (hn.yes h2)]
    show Rs.bind (S.expR ")" (a + 1)) _ = _
    rw [hn.exp h2]
    rfl
  · have hn : At S (a + 1) (u :: (r ++ p2 :: post)) := h.next
    rw [if_neg (by rw [hn.not hu]; decide)]
    obtain ⟨x0, a0, e1, _, e3⟩ := q S (a + 1) (p2 :: post) h.next (show p2.1 ≠ tl ":" by rw [h2]; decide +kernel)
    have e1 : S.fieldR (a + 1) = .ok x0 a0 := e1
    rw [e1]
    show Rs.bind (S.moreR S.fieldR [x0] a0) _ = _
    have e3 : S.moreR S.fieldR [x0] a0 = S.moreR S.fieldR xs (a + 1 + (u :: r).length) := e3
    rw [e3, more_end hb (fun w r' e => by cases e; rw [h2]; decide +kernel)]
    show Rs.bind (S.expR ")" (a + 1 + (u :: r).length)) _ = _
    rw [hb.exp h2]
    rfl
theorem BoB.read (q : BoB nw xs) (h : At S a (nw ++ post)) (hp : ∀ w r, post = w :: r → w.1 ≠ tl "[") : S.boundsR a = .ok (tD xs) (a + nw.length) := by
  unfold Src.boundsR
  rcases q with ⟨rfl, rfl⟩ | ⟨p1, nn, p2, rfl, h1, h2, q⟩
  · have e : S.eqW a "[" = false := by
      have h : At S a post := h
      cases post with
      | nil => unfold Src.eqW; rw [h.nil.2]; decide +kernel
      | cons w r => exact h.not (hp w r rfl)
    rw [if_neg (by rw [e]; decide)]
    rfl
  · have h : At S a (p1 :: (nn ++ p2 :: post)) := by
      have e : p1 :: (nn ++ [p2]) ++ post = p1 :: (nn ++ p2 :: post) := by simp
      rw [e] at h
      exact h
    have el : a + (p1 :: (nn ++ [p2])).length = a + 1 + nn.length + 1 := by rw [List.length_cons, List.length_append, List.length_singleton]; omega
    rw [el, if_pos (h.yes h1)]
    have hb := h.next.app
    obtain ⟨x0, a0, e1, _, e3⟩ := q.2 S (a + 1) (p2 :: post) h.next (show p2.1 ≠ tl ":" by rw [h2]; decide +kernel)
    have e1 : S.boundR (a + 1) = .ok x0 a0 := e1
    have e3 : S.moreR S.boundR [x0] a0 = S.moreR S.boundR xs (a + 1 + nn.length) := e3
    rw [e1]
    show Rs.bind (Rs.bind (S.moreR S.boundR [x0] a0) _) _ = _
    rw [e3, more_end hb (fun w r' e => by cases e; rw [h2]; decide +kernel)]
    show Rs.bind (Rs.bind (S.expR "]" (a + 1 + nn.length)) _) _ = _
    rw [hb.exp h2]
    rfl
end
/-- a whole item -/
def ItR (nw : List Wd) (x : D) : Prop := ∀ (S : Src), At S 0 nw → S.itemR (S.val 5 0) 0 = .ok x nw.length
def DefR (nw : List Wd) (x : D) : Prop := ∀ (S : Src) (a : Nat), At S a nw → S.defR (S.val 5 0) a = .ok x (a + nw.length)
section
variable {k : Nat} {nw n1 n2 n3 : List Wd} {xs ys : List D} {x : D} {t : Tn} {w0 w1 w2 w3 w4 w5 w6 wc : Wd}
theorem it_head {S : Src} {r : List Wd} (h : At S 0 (w0 :: r)) : ¬ ¬ 0 < S.n := fun z => z h.lt
theorem it_import (h0 : w0.1 = tl "\x69mport") (h1 : sortW w1.1 = "name") (hc : wc.1 = tl ":") (q : SqR (fun S => S.markR) nw xs) : ItR (w0 :: w1 :: wc :: nw) (tD [.str "\x69mport", mkT w1, tD xs]) := by
  intro S h
  unfold Src.itemR
  rw [if_neg (it_head h), if_pos (h.yes h0)]
  unfold Src.importR
  rw [h.next.mark h1]
  show Rs.bind (S.expR ":" (0 + 1 + 1)) _ = _
  rw [h.next.next.exp hc]
  have hn := h.next.next.next
  rw [← List.append_nil nw] at hn
  obtain ⟨x0, a0, e1, _, e3⟩ := q.2 S _ [] hn trivial
  show Rs.bind (S.markR (0 + 1 + 1 + 1)) _ = _
  have e1 : S.markR (0 + 1 + 1 + 1) = .ok x0 a0 := e1
  have e3 : S.moreR S.markR [x0] a0 = S.moreR S.markR xs (0 + 1 + 1 + 1 + nw.length) := e3
  rw [e1]
  show Rs.bind (S.moreR S.markR [x0] a0) _ = _
  rw [e3, more_end hn.app (fun w r e => by cases e)]
  show Rs.ok _ _ = _
  congr 1
  simp only [List.length_cons]
  omega
theorem it_data (h0 : w0.1 = tl "data") (h1 : sortW w1.1 = "name") (q : FlB nw xs) : ItR (w0 :: w1 :: nw) (tD [.str "data", mkT w1, tD xs]) := by
  intro S h
  unfold Src.itemR
  rw [if_neg (it_head h), if_neg (by rw [h.not (by rw [h0]; decide +kernel)]; decide), if_pos (h.yes h0)]
  unfold Src.dataR
  rw [h.next.mark h1]
  show Rs.bind (S.fieldsR (0 + 1 + 1)) _ = _
  have hn := h.next.next
  rw [← List.append_nil nw] at hn
  rw [q.read hn]
  show Rs.ok _ _ = _
  congr 1
  simp only [List.length_cons]
  omega
theorem it_trait (h0 : w0.1 = tl "trait") (h1 : sortW w1.1 = "name") (h2 : w2.1 = tl "with") (h3 : sortW w3.1 = "name") (q : TrB nw w4 xs) (h5 : w5.1 = tl ":") (h6 : sortW w6.1 = "name") :
    ItR (w0 :: w1 :: w2 :: w3 :: (nw ++ [w5, w6])) (tD [.str "trait", mkT w1, mkT w3, mkT w4, tD xs, mkT w6]) := by
  obtain ⟨p1, nn, p2, rfl, g1, g2, g3, g4⟩ := q
  intro S h
  have h : At S 0 (w0 :: w1 :: w2 :: w3 :: p1 :: w4 :: (nn ++ p2 :: w5 :: w6 :: [])) := by
    have e : w0 :: w1 :: w2 :: w3 :: (p1 :: w4 :: (nn ++ [p2]) ++ [w5, w6]) = w0 :: w1 :: w2 :: w3 :: p1 :: w4 :: (nn ++ p2 :: w5 :: w6 :: []) := by simp
    rw [e] at h
    exact h
  unfold Src.itemR
  rw [if_neg (it_head h), if_neg (by rw [h.not (by rw [h0]; decide +kernel)]; decide), if_neg (by rw [h.not (by rw [h0]; decide +kernel)]; decide), if_pos (h.yes h0)]
  unfold Src.traitR
  have a1 := h.next
  have a2 := a1.next
  have a3 := a2.next
  have a4 := a3.next
  have a5 := a4.next
  have a6 := a5.next
  have a7 := a6.app
  rw [a1.mark h1]
  show Rs.bind (S.expR "with" (0 + 1 + 1)) _ = _
  rw [a2.exp h2]
  show Rs.bind (S.markR (0 + 1 + 1 + 1)) _ = _
  rw [a3.mark h3]
  show Rs.bind (S.expR "(" (0 + 1 + 1 + 1 + 1)) _ = _
  rw [a4.exp g1]
  show Rs.bind (S.markR (0 + 1 + 1 + 1 + 1 + 1)) _ = _
  rw [a5.mark g3]
  have mr : S.moreR S.fieldR [] (0 + 1 + 1 + 1 + 1 + 1 + 1) = .ok xs (0 + 1 + 1 + 1 + 1 + 1 + 1 + nn.length) := by
    rcases g4 with ⟨rfl, rfl⟩ | ⟨c, n', rfl, hc, q⟩
    · exact more_end a7 (fun w r e => by cases e; rw [g2]; decide +kernel)
    · have a6' : At S (0 + 1 + 1 + 1 + 1 + 1 + 1) (c :: (n' ++ p2 :: w5 :: w6 :: [])) := a6
      obtain ⟨x0, a0, e1, e2, e3⟩ := q.2 S _ _ a6'.next (show p2.1 ≠ tl ":" by rw [g2]; decide +kernel)
      have e1 : S.fieldR (0 + 1 + 1 + 1 + 1 + 1 + 1 + 1) = .ok x0 a0 := e1
      have e3 : S.moreR S.fieldR [x0] a0 = S.moreR S.fieldR xs (0 + 1 + 1 + 1 + 1 + 1 + 1 + 1 + n'.length) := e3
      have hlt := a6'.lt
      rw [Src.moreR, if_pos (a6'.yes hc), e1]
      show (if h : 0 + 1 + 1 + 1 + 1 + 1 + 1 < a0 ∧ 0 + 1 + 1 + 1 + 1 + 1 + 1 < S.n then S.moreR S.fieldR ([] ++ [x0]) a0 else _) = _
      rw [dif_pos ⟨by omega, hlt⟩]
      show S.moreR S.fieldR [x0] a0 = _
      have el : 0 + 1 + 1 + 1 + 1 + 1 + 1 + (c :: n').length = 0 + 1 + 1 + 1 + 1 + 1 + 1 + 1 + n'.length := by rw [List.length_cons]; omega
      rw [e3, el]
      rw [el] at a7
      exact more_end a7 (fun w r e => by cases e; rw [g2]; decide +kernel)
  show Rs.bind (S.moreR S.fieldR [] (0 + 1 + 1 + 1 + 1 + 1 + 1)) _ = _
  rw [mr]
  show Rs.bind (S.expR ")" (0 + 1 + 1 + 1 + 1 + 1 + 1 + nn.length)) _ = _
  rw [a7.exp g2]
  show Rs.bind (S.expR ":" (0 + 1 + 1 + 1 + 1 + 1 + 1 + nn.length + 1)) _ = _
  rw [a7.next.exp h5]
  show Rs.bind (S.markR (0 + 1 + 1 + 1 + 1 + 1 + 1 + nn.length + 1 + 1)) _ = _
  rw [a7.next.next.mark h6]
  show Rs.ok _ _ = _
  congr 1
  simp only [List.length_cons, List.length_append, List.length_nil]
  omega
theorem it_impl (h0 : w0.1 = tl "impl") (h1 : sortW w1.1 = "name") (h2 : w2.1 = tl "for") (h3 : sortW w3.1 = "name") (h4 : w4.1 = tl "=") (q : RdV 2 nw t) : ItR (w0 :: w1 :: w2 :: w3 :: w4 :: nw) (tD [.str "impl", mkT w1, mkT w3, t.d]) := by
  intro S h
  unfold Src.itemR
  rw [if_neg (it_head h), if_neg (by rw [h.not (by rw [h0]; decide +kernel)]; decide), if_neg (by rw [h.not (by rw [h0]; decide +kernel)]; decide), if_neg (by rw [h.not (by rw [h0]; decide +kernel)]; decide), if_pos (h.yes h0)]
  unfold Src.implR
  have a1 := h.next
  have a2 := a1.next
  have a3 := a2.next
  have a4 := a3.next
  rw [← List.append_nil nw] at a4
  rw [a1.mark h1]
  show Rs.bind (S.expR "for" (0 + 1 + 1)) _ = _
  rw [a2.exp h2]
  show Rs.bind (S.markR (0 + 1 + 1 + 1)) _ = _
  rw [a3.mark h3]
  show Rs.bind (S.part (S.val 5 0) "=" (0 + 1 + 1 + 1 + 1)) _ = _
  rw [part_ok q a4 h4 trivial (by decide) (by decide)]
  show Rs.ok _ _ = _
  congr 1
  simp only [List.length_cons]
  omega
theorem it_def (h0 : w0.1 = tl "def") (q : DefR nw x) : ItR (w0 :: nw) x := by
  intro S h
  unfold Src.itemR
  rw [if_neg (it_head h), if_neg (by rw [h.not (by rw [h0]; decide +kernel)]; decide), if_neg (by rw [h.not (by rw [h0]; decide +kernel)]; decide), if_neg (by rw [h.not (by rw [h0]; decide +kernel)]; decide), if_neg (by rw [h.not (by rw [h0]; decide +kernel)]; decide), h.exp h0]
  show S.defR (S.val 5 0) (0 + 1) = _
  rw [q S (0 + 1) h.next, List.length_cons]
  congr 1
  omega
/-- ": K", or nothing -/
def OpB (nw : List Wd) (r : D) : Prop := (nw = [] ∧ r = .non) ∨ ∃ c w, nw = [c, w] ∧ c.1 = tl ":" ∧ sortW w.1 = "name" ∧ r = mkT w
theorem def_ok {r : D} (h1 : sortW w1.1 = "name") (qb : BoB n1 xs) (qf : FlB n2 ys) (qr : OpB n3 r) (h4 : w4.1 = tl "=") (q : RdV 2 nw t) : DefR (w1 :: (n1 ++ (n2 ++ (n3 ++ w4 :: nw)))) (tD [.str "def", mkT w1, tD xs, tD ys, r, t.d]) := by
  intro S a h
  unfold Src.defR
  have a1 := h.next
  rw [h.mark h1]
  show Rs.bind (S.boundsR (a + 1)) _ = _
  rw [qb.read a1 (fun w r e => by
    obtain ⟨p1, nn, p2, rfl, g1, _⟩ := qf
    cases e
    rw [g1]
    decide +kernel)]
  have a2 := a1.app
  show Rs.bind (S.fieldsR (a + 1 + n1.length)) _ = _
  rw [qf.read a2]
  have a3 := a2.app
  show Rs.bind (S.optR (a + 1 + n1.length + n2.length)) _ = _
  have op : S.optR (a + 1 + n1.length + n2.length) = .ok r (a + 1 + n1.length + n2.length + n3.length) := by
    unfold Src.optR
    rcases qr with ⟨rfl, rfl⟩ | ⟨c, wr, rfl, hc, hn, rfl⟩
    · have a3' : At S (a + 1 + n1.length + n2.length) (w4 :: nw) := a3
      rw [if_neg (by rw [a3'.not (by rw [h4]; decide +kernel)]; decide)]
      rfl
    · have a3' : At S (a + 1 + n1.length + n2.length) (c :: wr :: w4 :: nw) := a3
      rw [if_pos (a3'.yes hc), a3'.next.mark hn]
      rfl
  rw [op]
  have a4 := a3.app
  rw [← List.append_nil nw] at a4
  show Rs.bind (S.part (S.val 5 0) "=" (a + 1 + n1.length + n2.length + n3.length)) _ = _
  rw [part_ok q a4 h4 trivial (by decide) (by decide)]
  show Rs.ok _ _ = _
  congr 1
  simp only [List.length_cons, List.length_append]
  omega
theorem it_blank {S : Src} (h : S.n = 0) (V : Nat → Rs Tn) : S.itemR V 0 = .ok (tD [.str "blank"]) 0 := by
  unfold Src.itemR
  rw [if_pos (by omega)]
end
end Sn

/-! Mathematics of tokens behind an edit. -/
namespace Sn
open PySem PySem.Spec PyProof.Rows L2 TL
theorem run_out {p : Nat → Bool} {l : List Nat} : ∀ (m i : Nat), l.length = i + m → ∀ d, l[run p l i]? = some d → p d = false
  | 0, i, e, d, h => by
    rw [run_end (by omega), List.getElem?_eq_none (by omega)] at h
    cases h
  | m + 1, i, e, d, h => by
    have hi : i < l.length := by omega
    have hg := List.getElem?_eq_getElem hi
    by_cases hp : p l[i] = true
    · rw [run_step hg hp] at h
      exact run_out m (i + 1) (by omega) d h
    · rw [run_stop hg (Bool.eq_false_iff.mpr hp), hg] at h
      rw [← Option.some.inj h]
      exact Bool.eq_false_iff.mpr hp
theorem isW10 : isW 10 = false := rfl
theorem isD10 : isD 10 = false := rfl
/-- a token has no newline -/
theorem tok_clean {l : List Nat} {i c : Nat} (h : l[i]? = some c) (hc : c ≠ 10) : ∀ k, i ≤ k → k < (tokC l i c).2.2 → l[k]? ≠ some 10 := by
  have hi := (List.getElem?_eq_some_iff.mp h).1
  intro k h1 h2 h3
  unfold tokC at h2
  by_cases w1 : isL c = true
  · rw [if_pos w1] at h2
    have := run_in (p := isW) (l := l) (l.length - i) i (by omega) k 10 h1 h2 h3
    rw [isW10] at this
    cases this
  · rw [if_neg w1] at h2
    by_cases w2 : isD c = true
    · rw [if_pos w2] at h2
      have := run_in (p := isD) (l := l) (l.length - i) i (by omega) k 10 h1 h2 h3
      rw [isD10] at this
      cases this
    · rw [if_neg w2] at h2
      by_cases w3 : (l.drop i).take 2 = [61, 61]
      · rw [if_pos w3] at h2
        have h2 : k < i + 2 := h2
        have g : ((l.drop i).take 2)[k - i]? = l[k]? := by
          rw [List.getElem?_take, if_pos (by omega), List.getElem?_drop, show i + (k - i) = k by omega]
        rw [w3, h3] at g
        have : k - i = 0 ∨ k - i = 1 := by omega
        rcases this with e | e <;> rw [e] at g <;> cases g
      · rw [if_neg w3] at h2
        have h2 : k < i + 1 := h2
        have : k = i := by omega
        subst this
        rw [h] at h3
        exact hc (Option.some.inj h3)
theorem tok_start (l : List Nat) (i c : Nat) : (tokC l i c).2.1 = i := by
  unfold tokC
  split
  · rfl
  · split
    · rfl
    · split <;> rfl
/-- where the tokens of toks stand -/
theorem toks_in {l : List Nat} {e : Nat} (he : e ≤ l.length) : ∀ (m a : Nat), e ≤ a + m → ∀ x ∈ toks l a e, a ≤ x.2.1 ∧ x.2.1 < e ∧ x.2.1 < x.2.2 ∧ x.2.2 ≤ l.length ∧ l[x.2.1]? ≠ some 10 ∧ ∀ k, x.2.1 ≤ k → k < x.2.2 → l[k]? ≠ some 10
  | 0, a, h, x, hx => by
    rw [toks_end (by omega)] at hx
    cases hx
  | m + 1, a, h, x, hx => by
    by_cases ha : a < e
    · have hal : a < l.length := by omega
      have hg := List.getElem?_eq_getElem hal
      generalize l[a] = c at hg
      by_cases b1 : c = 32 ∨ c = 10
      · rw [toks_blank he ha hg b1] at hx
        obtain ⟨k1, k2⟩ := toks_in he m (a + 1) (by omega) x hx
        exact ⟨by omega, k2⟩
      · by_cases b2 : c = 35
        · subst b2
          have r1 : run (fun d => d != 10) l a = run (fun d => d != 10) l (a + 1) := run_step hg rfl
          have r2 := run_ge (fun d => d != 10) l (a + 1)
          rw [toks_note he ha hg] at hx
          obtain ⟨k1, k2⟩ := toks_in he m _ (by omega) x hx
          exact ⟨by omega, k2⟩
        · rw [toks_tok he ha hg b1 b2] at hx
          obtain ⟨t1, t2⟩ := tok_end hg
          rcases List.mem_cons.mp hx with hx | hx
          · subst hx
            rw [tok_start]
            exact ⟨Nat.le_refl _, ha, t1, t2, by rw [hg]; exact fun z => b1 (.inr (Option.some.inj z)), tok_clean hg fun z => b1 (.inr z)⟩
          · obtain ⟨k1, k2⟩ := toks_in he m _ (by omega) x hx
            exact ⟨by omega, k2⟩
    · rw [toks_end (by omega)] at hx
      cases hx
/-- the tokens ahead of the boundary m, then those behind it -/
theorem toks_split {l : List Nat} {m e : Nat} (he : e ≤ l.length) (hm : m ≤ e) (hb : (0 < m ∧ l[m - 1]? = some 10) ∨ l[m]? = some 10 ∨ m = e) : ∀ (n a : Nat), m ≤ a + n → a ≤ m → toks l a e = toks l a m ++ toks l m e
  | 0, a, h, ha => by
    have : a = m := by omega
    subst this
    rw [toks_end (Nat.le_refl a)]
    rfl
  | n + 1, a, h, ha => by
    by_cases ham : a = m
    · subst ham
      rw [toks_end (Nat.le_refl a)]
      rfl
    have hal : a < l.length := by omega
    have hg := List.getElem?_eq_getElem hal
    generalize l[a] = c at hg
    have jump : ∀ b, a < b → (∀ k, a ≤ k → k < b → l[k]? ≠ some 10) → toks l b e = toks l b m ++ toks l m e := fun b hab hk => by
      by_cases hbm : b ≤ m
      · exact toks_split he hm hb n b (by omega) hbm
      · have : m = e := by
          rcases hb with ⟨h0, hb⟩ | hb | hb
          · exact absurd hb (hk (m - 1) (by omega) (by omega))
          · exact absurd hb (hk m (by omega) (by omega))
          · exact hb
        subst this
        rw [toks_end (show m ≤ b by omega), toks_end (Nat.le_refl m)]
        rfl
    by_cases b1 : c = 32 ∨ c = 10
    · rw [toks_blank he (by omega) hg b1, toks_blank (by omega) (by omega) hg b1]
      exact toks_split he hm hb n (a + 1) (by omega) (by omega)
    · by_cases b2 : c = 35
      · subst b2
        have r1 : run (fun d => d != 10) l a = run (fun d => d != 10) l (a + 1) := run_step hg rfl
        have r2 := run_ge (fun d => d != 10) l (a + 1)
        rw [toks_note he (by omega) hg, toks_note (by omega) (by omega) hg]
        refine jump _ (by omega) fun k h1 h2 h3 => ?_
        have := run_in (p := fun d => d != 10) (l := l) (l.length - a) a (by omega) k 10 h1 h2 h3
        simp at this
      · rw [toks_tok he (by omega) hg b1 b2, toks_tok (by omega) (by omega) hg b1 b2, jump _ (tok_end hg).1 (tok_clean hg fun z => b1 (.inr z))]
        rfl
theorem run_congr {p : Nat → Bool} {l r : List Nat} {a m : Nat} (hk : ∀ k, a ≤ k → k < m → l[k]? = r[k]?) (hm : l[m - 1]? = some 10) (ham : a ≤ m - 1) (hm0 : 0 < m) (hr : m ≤ r.length) (hp : p 10 = false) : run p l a = run p r a := by
  have hml := (List.getElem?_eq_some_iff.mp hm).1
  have hb : run p l a ≤ m - 1 := by
    refine Nat.le_of_not_lt fun hlt => ?_
    have := run_in (p := p) (l := l) (l.length - a) a (by omega) (m - 1) 10 ham hlt hm
    rw [hp] at this
    cases this
  have h1 := run_ge p l a
  exact (run_at (p := p) (l := r) (run p l a - a) a (run p l a) (by omega) (fun k c k1 k2 k3 => by
    rw [← hk k k1 (by omega)] at k3
    exact run_in (l.length - a) a (by omega) k c k1 k2 k3) (by omega) (fun c hc => by
    rw [← hk _ h1 (by omega)] at hc
    exact run_out (l.length - a) a (by omega) c hc)).symm
theorem tok_congr {l r : List Nat} {a m c : Nat} (ht : l.take m = r.take m) (hm : l[m - 1]? = some 10) (hm0 : 0 < m) (hr : m ≤ r.length) (ha : a < m) (hc : l[a]? = some c) (h10 : c ≠ 10) : tokC l a c = tokC r a c := by
  have hk : ∀ k, a ≤ k → k < m → l[k]? = r[k]? := fun k _ h => by
    have h1 : (l.take m)[k]? = l[k]? := by rw [List.getElem?_take, if_pos h]
    have h2 : (r.take m)[k]? = r[k]? := by rw [List.getElem?_take, if_pos h]
    rw [← h1, ← h2, ht]
  have ham : a ≤ m - 1 := by omega
  have hne : a ≠ m - 1 := fun z => by
    rw [z, hm] at hc
    exact h10 (Option.some.inj hc).symm
  have hml := (List.getElem?_eq_some_iff.mp hm).1
  have eW := run_congr (p := isW) hk hm ham hm0 hr isW10
  have eD := run_congr (p := isD) hk hm ham hm0 hr isD10
  have cut : ∀ n, a + n ≤ m → (l.drop a).take n = (r.drop a).take n := fun n hn => by
    have k : ∀ q : List Nat, (q.drop a).take n = ((q.take m).drop a).take n := fun q => by
      rw [List.drop_take, List.take_take, Nat.min_eq_left (by omega)]
    rw [k l, k r, ht]
  have hb : run isW l a ≤ m - 1 := by
    refine Nat.le_of_not_lt fun hlt => ?_
    have := run_in (p := isW) (l := l) (l.length - a) a (by omega) (m - 1) 10 ham hlt hm
    rw [isW10] at this
    cases this
  unfold tokC
  rw [← eW, ← eD, cut (run isW l a - a) (by omega), cut 2 (by omega)]
theorem toks_congr {l r : List Nat} {m : Nat} (ht : l.take m = r.take m) (hm : m = 0 ∨ l[m - 1]? = some 10) (hl : m ≤ l.length) (hr : m ≤ r.length) : ∀ (n a : Nat), m ≤ a + n → toks l a m = toks r a m
  | 0, a, h => by rw [toks_end (by omega), toks_end (by omega)]
  | n + 1, a, h => by
    by_cases ha : a < m
    · have hm := hm.resolve_left (by omega)
      have hg := List.getElem?_eq_getElem (show a < l.length by omega)
      generalize l[a] = c at hg
      have hg2 : r[a]? = some c := by
        have h1 : (l.take m)[a]? = l[a]? := by rw [List.getElem?_take, if_pos ha]
        have h2 : (r.take m)[a]? = r[a]? := by rw [List.getElem?_take, if_pos ha]
        rw [← h2, ← ht, h1, hg]
      by_cases b1 : c = 32 ∨ c = 10
      · rw [toks_blank hl ha hg b1, toks_blank hr ha hg2 b1]
        exact toks_congr ht (.inr hm) hl hr n (a + 1) (by omega)
      · by_cases b2 : c = 35
        · subst b2
          have r1 : run (fun d => d != 10) l a = run (fun d => d != 10) l (a + 1) := run_step hg rfl
          have r2 := run_ge (fun d => d != 10) l (a + 1)
          have hk : ∀ k, a ≤ k → k < m → l[k]? = r[k]? := fun k _ h => by
            have h1 : (l.take m)[k]? = l[k]? := by rw [List.getElem?_take, if_pos h]
            have h2 : (r.take m)[k]? = r[k]? := by rw [List.getElem?_take, if_pos h]
            rw [← h1, ← h2, ht]
          have er := run_congr (p := fun d => d != 10) hk hm (by omega) (by omega) hr (by rfl)
          rw [toks_note hl ha hg, toks_note hr ha hg2, ← er]
          exact toks_congr ht (.inr hm) hl hr n _ (by omega)
        · have et := tok_congr ht hm (by omega) hr ha hg fun z => b1 (.inr z)
          have := (tok_end hg).1
          rw [toks_tok hl ha hg b1 b2, toks_tok hr ha hg2 b1 b2, ← et, toks_congr ht (.inr hm) hl hr n _ (by omega)]
    · rw [toks_end (by omega), toks_end (by omega)]
/-- a token, moved from J to J' -/
def mv (J J' : Nat) (x : Tok) : Tok := (x.1, x.2.1 - J + J', x.2.2 - J + J')
theorem run_mv {p : Nat → Bool} {l r : List Nat} {a a' : Nat} (h : r.drop a' = l.drop a) : run p r a' = run p l a - a + a' := by
  unfold run
  rw [h]
  omega
theorem tok_mv {l r : List Nat} {J J' a c : Nat} (h : r.drop (a - J + J') = l.drop a) (hJ : J ≤ a) : tokC r (a - J + J') c = mv J J' (tokC l a c) := by
  have eW := run_mv (p := isW) h
  have eD := run_mv (p := isD) h
  have gW := run_ge isW l a
  have gD := run_ge isD l a
  unfold tokC mv
  rw [h, eW, eD, show run isW l a - a + (a - J + J') - (a - J + J') = run isW l a - a by omega]
  by_cases w1 : isL c = true
  · rw [if_pos w1, if_pos w1]
    refine Prod.ext rfl (Prod.ext rfl ?_)
    show run isW l a - a + (a - J + J') = run isW l a - J + J'
    omega
  · rw [if_neg w1, if_neg w1]
    by_cases w2 : isD c = true
    · rw [if_pos w2, if_pos w2]
      refine Prod.ext rfl (Prod.ext rfl ?_)
      show run isD l a - a + (a - J + J') = run isD l a - J + J'
      omega
    · rw [if_neg w2, if_neg w2]
      by_cases w3 : (l.drop a).take 2 = [61, 61]
      · rw [if_pos w3, if_pos w3]
        refine Prod.ext rfl (Prod.ext rfl ?_)
        show a - J + J' + 2 = a + 2 - J + J'
        omega
      · rw [if_neg w3, if_neg w3]
        refine Prod.ext rfl (Prod.ext rfl ?_)
        show a - J + J' + 1 = a + 1 - J + J'
        omega
theorem toks_mv {l r : List Nat} {J J' : Nat} (hd : r.drop J' = l.drop J) (hl : J ≤ l.length) (hr : J' ≤ r.length) : ∀ (n a : Nat), J ≤ a → l.length ≤ a + n → toks r (a - J + J') r.length = (toks l a l.length).map (mv J J') := by
  have hlen : r.length - J' = l.length - J := by
    have := congrArg List.length hd
    rw [List.length_drop, List.length_drop] at this
    exact this
  have drops : ∀ a, J ≤ a → r.drop (a - J + J') = l.drop a := fun a ha => by
    have h1 : r.drop (J' + (a - J)) = (r.drop J').drop (a - J) := by rw [List.drop_drop]
    have h2 : l.drop (J + (a - J)) = (l.drop J).drop (a - J) := by rw [List.drop_drop]
    rw [show a - J + J' = J' + (a - J) by omega, h1, hd, ← h2, show J + (a - J) = a by omega]
  intro n
  induction n with
  | zero =>
    intro a ha h
    rw [toks_end (by omega), toks_end (by omega)]
    rfl
  | succ n ih =>
    intro a ha h
    by_cases hal : a < l.length
    · have hg := List.getElem?_eq_getElem hal
      generalize l[a] = c at hg
      have hg2 : r[a - J + J']? = some c := by
        have h1 : (r.drop (a - J + J'))[0]? = r[a - J + J']? := by rw [List.getElem?_drop, Nat.add_zero]
        have h2 : (l.drop a)[0]? = l[a]? := by rw [List.getElem?_drop, Nat.add_zero]
        rw [← h1, drops a ha, h2, hg]
      have ha2 : a - J + J' < r.length := by omega
      by_cases b1 : c = 32 ∨ c = 10
      · rw [toks_blank (Nat.le_refl _) hal hg b1, toks_blank (Nat.le_refl _) ha2 hg2 b1, show a - J + J' + 1 = a + 1 - J + J' by omega]
        exact ih (a + 1) (by omega) (by omega)
      · by_cases b2 : c = 35
        · subst b2
          have r1 : run (fun d => d != 10) l a = run (fun d => d != 10) l (a + 1) := run_step hg rfl
          have r2 := run_ge (fun d => d != 10) l (a + 1)
          rw [toks_note (Nat.le_refl _) hal hg, toks_note (Nat.le_refl _) ha2 hg2, run_mv (drops a ha), show run (fun d => d != 10) l a - a + (a - J + J') = run (fun d => d != 10) l a - J + J' by omega]
          exact ih _ (by omega) (by omega)
        · obtain ⟨t1, t2⟩ := tok_end hg
          rw [toks_tok (Nat.le_refl _) hal hg b1 b2, toks_tok (Nat.le_refl _) ha2 hg2 b1 b2, tok_mv (drops a ha) ha, List.map_cons]
          congr 1
          exact ih _ (by omega) (by omega)
    · rw [toks_end (by omega), toks_end (by omega)]
      rfl
/-! ### lines -/
/-- where the line of o begins -/
def lineS (l : List Nat) (o : Nat) : Nat := o - colF 10 0 (l.take o)
theorem lineS_le (l : List Nat) (o : Nat) : lineS l o ≤ o := Nat.sub_le _ _
theorem lineS_succ {l : List Nat} {o c : Nat} (h : l[o]? = some c) : lineS l (o + 1) = if c = 10 then o + 1 else lineS l o := by
  unfold lineS
  have := colF_le 10 (l.take o) 0
  rw [List.length_take] at this
  rw [List.take_add_one, h, Option.toList_some, colF_snoc]
  split <;> omega
theorem lineS_at {l : List Nat} : ∀ {o : Nat}, o ≤ l.length → lineS l o = 0 ∨ l[lineS l o - 1]? = some 10
  | 0, _ => .inl rfl
  | o + 1, h => by
    have hg := List.getElem?_eq_getElem (show o < l.length by omega)
    rw [lineS_succ hg]
    by_cases hc : l[o] = 10
    · rw [if_pos hc]
      right
      rw [Nat.add_sub_cancel, hg, hc]
    · rw [if_neg hc]
      exact lineS_at (by omega)
/-- where the line of o ends: its newline, or the end -/
abbrev lineE (l : List Nat) (o : Nat) : Nat := run (fun d => d != 10) l o
theorem lineE_at {l : List Nat} {o : Nat} (h : o ≤ l.length) : lineE l o = l.length ∨ l[lineE l o]? = some 10 := by
  have h1 : lineE l o ≤ l.length := run_le (p := fun d => d != 10) h
  by_cases h2 : lineE l o < l.length
  · right
    have hg := List.getElem?_eq_getElem h2
    have := run_out (p := fun d => d != 10) (l := l) (l.length - o) o (by omega) _ hg
    rw [hg]
    simp at this
    rw [this]
  · exact .inl (by omega)
/-! ### relexing -/
theorem filter_all {α : Type} {p : α → Bool} : ∀ {l : List α}, (∀ x ∈ l, p x = true) → l.filter p = l := fun h => List.filter_eq_self.mpr h
theorem filter_none {α : Type} {p : α → Bool} : ∀ {l : List α}, (∀ x ∈ l, p x = false) → l.filter p = [] := fun h => List.filter_eq_nil_iff.mpr fun x hx => by rw [h x hx]; exact Bool.false_ne_true
section
variable {l n : List Nat} {s e : Nat}
/-- THE THEOREM: the tokens behind an edit -/
theorem relex (hs : s ≤ e) (he : e ≤ l.length) :
    toks (l.take s ++ (n ++ l.drop e)) 0 (l.take s ++ (n ++ l.drop e)).length =
      (toks l 0 l.length).filter (fun x => decide (x.2.1 < lineS l s)) ++ (toks (l.take s ++ (n ++ l.drop e)) (lineS l s) (lineE l e - e + (s + n.length)) ++ ((toks l 0 l.length).filter (fun x => decide (lineE l e < x.2.1))).map (mv e (s + n.length))) ∧
    ((toks l 0 l.length).filter (fun x => decide (x.2.1 < lineS l s))).length = ((toks l 0 l.length).filter (fun x => decide (x.2.2 ≤ lineS l s))).length ∧
    ((toks l 0 l.length).filter (fun x => decide (lineE l e < x.2.1))).length = ((toks l 0 l.length).filter (fun x => decide ((if lineE l e < l.length then lineE l e + 1 else l.length) ≤ x.2.1))).length ∧
    lineS l s ≤ lineE l e - e + (s + n.length) ∧ lineE l e - e + (s + n.length) ≤ (l.take s ++ (n ++ l.drop e)).length := by
  have hF := lineS_le l s
  have hFa := lineS_at (l := l) (o := s) (by omega)
  have hJ1 := run_ge (fun d => d != 10) l e
  have hJ2 := run_le (p := fun d => d != 10) he
  have hJa := lineE_at he
  have hJ1 : e ≤ lineE l e := hJ1
  have hJ2 : lineE l e ≤ l.length := hJ2
  generalize lineS l s = F at *
  generalize lineE l e = J at *
  generalize hR : l.take s ++ (n ++ l.drop e) = R
  have hRl : R.length = s + (n.length + (l.length - e)) := by
    rw [← hR, List.length_append, List.length_append, List.length_take, List.length_drop]
    omega
  have ht : l.take F = R.take F := by
    rw [← hR, List.take_append_of_le_length (by rw [List.length_take]; omega), List.take_take, Nat.min_eq_left hF]
  have hd0 : R.drop (s + n.length) = l.drop e := by
    rw [← hR, ← List.append_assoc, List.drop_left' (by rw [List.length_append, List.length_take]; omega)]
  have hdJ : R.drop (J - e + (s + n.length)) = l.drop J := by
    rw [show J - e + (s + n.length) = (s + n.length) + (J - e) by omega, ← List.drop_drop, hd0, List.drop_drop, show e + (J - e) = J by omega]
  generalize hJ' : J - e + (s + n.length) = J' at hdJ ⊢
  have gF : 0 < F → R[F - 1]? = some 10 := fun h0 => by
    have h1 : (l.take F)[F - 1]? = l[F - 1]? := by rw [List.getElem?_take, if_pos (by omega)]
    have h2 : (R.take F)[F - 1]? = R[F - 1]? := by rw [List.getElem?_take, if_pos (by omega)]
    rw [← h2, ← ht, h1]
    exact hFa.resolve_left (by omega)
  have gJ : R[J']? = some 10 ∨ J' = R.length := by
    rcases hJa with h | h
    · right
      omega
    · left
      have h1 : (R.drop J')[0]? = R[J']? := by rw [List.getElem?_drop, Nat.add_zero]
      have h2 : (l.drop J)[0]? = l[J]? := by rw [List.getElem?_drop, Nat.add_zero]
      rw [← h1, hdJ, h2, h]
  -- the old tokens, cut at F and at J
  have s1 : toks l 0 l.length = toks l 0 F ++ toks l F l.length := by
    by_cases h0 : F = 0
    · subst h0
      rw [toks_end (Nat.le_refl 0)]
      rfl
    · exact toks_split (Nat.le_refl _) (by omega) (.inl ⟨by omega, hFa.resolve_left h0⟩) F 0 (by omega) (by omega)
  have s2 : toks l 0 l.length = toks l 0 J ++ toks l J l.length := toks_split (Nat.le_refl _) hJ2 (by rcases hJa with h | h; exact .inr (.inr h); exact .inr (.inl h)) J 0 (by omega) (by omega)
  have in1 := toks_in (l := l) (e := F) (by omega) F 0 (by omega)
  have in2 := toks_in (l := l) (e := l.length) (Nat.le_refl _) l.length F (by omega)
  have in3 := toks_in (l := l) (e := J) hJ2 J 0 (by omega)
  have in4 := toks_in (l := l) (e := l.length) (Nat.le_refl _) l.length J (by omega)
  have fA : (toks l 0 l.length).filter (fun x => decide (x.2.1 < F)) = toks l 0 F := by
    rw [s1, List.filter_append, filter_all (fun x hx => decide_eq_true (in1 x hx).2.1), filter_none (fun x hx => decide_eq_false (by have := (in2 x hx).1; omega)), List.append_nil]
  have fA2 : (toks l 0 l.length).filter (fun x => decide (x.2.2 ≤ F)) = toks l 0 F := by
    rw [s1, List.filter_append, filter_all (fun x hx => decide_eq_true ?_), filter_none (fun x hx => decide_eq_false (by have := (in2 x hx).1; have := (in2 x hx).2.2.1; omega)), List.append_nil]
    obtain ⟨k1, k2, k3, k4, k5, k6⟩ := in1 x hx
    refine Nat.le_of_not_lt fun hlt => ?_
    exact k6 (F - 1) (by omega) (by omega) (hFa.resolve_left (by omega))
  have fB : (toks l 0 l.length).filter (fun x => decide (J < x.2.1)) = toks l J l.length := by
    rw [s2, List.filter_append, filter_none (fun x hx => decide_eq_false (by have := (in3 x hx).2.1; omega)), List.nil_append, filter_all fun x hx => decide_eq_true ?_]
    obtain ⟨k1, k2, k3, k4, k5, k6⟩ := in4 x hx
    refine Nat.lt_of_le_of_ne k1 fun hne => ?_
    rcases hJa with h | h
    · omega
    · exact k5 (by rw [← hne]; exact h)
  have fB2 : (toks l 0 l.length).filter (fun x => decide ((if J < l.length then J + 1 else l.length) ≤ x.2.1)) = toks l J l.length := by
    rw [s2, List.filter_append, filter_none (fun x hx => decide_eq_false (by have := (in3 x hx).2.1; split <;> omega)), List.nil_append, filter_all fun x hx => decide_eq_true ?_]
    obtain ⟨k1, k2, k3, k4, k5, k6⟩ := in4 x hx
    have : J ≠ x.2.1 := fun hne => by
      rcases hJa with h | h
      · omega
      · exact k5 (by rw [← hne]; exact h)
    split <;> omega
  have FJ : F ≤ J' := by omega
  have JR : J' ≤ R.length := by omega
  refine ⟨?_, by rw [fA, fA2], by rw [fB, fB2], FJ, JR⟩
  rw [fA, fB]
  have t1 : toks R 0 R.length = toks R 0 F ++ toks R F R.length := by
    by_cases h0 : F = 0
    · subst h0
      rw [toks_end (Nat.le_refl 0)]
      rfl
    · exact toks_split (Nat.le_refl _) (by omega) (.inl ⟨by omega, gF (by omega)⟩) F 0 (by omega) (by omega)
  have t2 : toks R F R.length = toks R F J' ++ toks R J' R.length := toks_split (Nat.le_refl _) JR (by rcases gJ with h | h; exact .inr (.inl h); exact .inr (.inr h)) J' F (by omega) FJ
  have t3 : toks R 0 F = toks l 0 F := (toks_congr ht hFa (by omega) (by omega) F 0 (by omega)).symm
  have t4 : toks R J' R.length = (toks l J l.length).map (mv e (s + n.length)) := by
    have := toks_mv (l := l) (r := R) (J := e) (J' := s + n.length) hd0 he (by omega) l.length J hJ1 (by omega)
    rw [hJ'] at this
    exact this
  rw [t1, t2, t3, t4]
end
end Sn

/-! A reading looks at no token behind its end: two sources, one of which has the first tokens of the other. -/
namespace Sn
open PySem PySem.Spec PyProof.Rows L2 TL
structure Pre (S S' : Src) (m : Nat) : Prop where
  le : m ≤ S.n
  n : S'.n = m
  ts : ∀ a, a < m → S'.ts[a]? = S.ts[a]?
  wd : ∀ a, a < m → S'.wd a = S.wd a
section
variable {S S' : Src} {m : Nat}
theorem Pre.so (P : Pre S S' m) {a : Nat} (h : a < m) : S'.so a = S.so a := by unfold Src.so; rw [P.ts a h]
theorem Pre.st (P : Pre S S' m) {a : Nat} (h : a < m) : S'.st a = S.st a := by unfold Src.st; rw [P.ts a h]
theorem Pre.en (P : Pre S S' m) {a : Nat} (h : a < m) : S'.en a = S.en a := by unfold Src.en; rw [P.ts a h]
theorem Pre.strW (P : Pre S S' m) {a : Nat} (h : a < m) : S'.strW a = S.strW a := by unfold Src.strW; rw [P.wd a h]
theorem Pre.isN (P : Pre S S' m) {a : Nat} (h : a < m) : S'.isN a = S.isN a := by unfold Src.isN; rw [P.so h]
theorem Pre.eqW (P : Pre S S' m) {a : Nat} (h : a < m) (w : Str) : S'.eqW a w = S.eqW a w := by unfold Src.eqW; rw [P.wd a h]
theorem Pre.fp (P : Pre S S' m) {a : Nat} (h : a < m) : S'.fp a = S.fp a := by
  have e : ∃ t, S.ts[a]? = some t := ⟨_, List.getElem?_eq_getElem (show a < S.ts.length from Nat.lt_of_lt_of_le h P.le)⟩
  obtain ⟨t, e⟩ := e
  have e' := P.ts a h
  unfold Src.fp
  rw [e', e]
theorem none_end {S : Src} {a : Nat} (h : S.n ≤ a) : S.ts[a]? = none := List.getElem?_eq_none h
theorem wd_none {S : Src} {a : Nat} (h : S.n ≤ a) : S.wd a = [] := by unfold Src.wd; rw [none_end h]
theorem eqW_none {S : Src} {a : Nat} (h : S.n ≤ a) {w : Str} (hw : tl w ≠ []) : S.eqW a w = false := by
  unfold Src.eqW
  rw [wd_none h]
  exact decide_eq_false (fun e => hw e.symm)
theorem isN_none {S : Src} {a : Nat} (h : S.n ≤ a) : S.isN a = false := by
  unfold Src.isN Src.so
  rw [none_end h]
  decide +kernel
end
def Ps {α : Type} (S : Src) (r : Rs α) (k : Nat) : Prop := (∃ x, r = .ok x k) ∨ r = S.fail k
def Mo {α : Type} (S : Src) (a : Nat) (r : Rs α) : Prop := ∃ k, a ≤ k ∧ Ps S r k
def Cz {α : Type} (S S' : Src) (m a : Nat) (r r' : Rs α) : Prop :=
  (∃ k, a ≤ k ∧ k < m ∧ ((∃ x, r = .ok x k ∧ r' = .ok x k) ∨ (r = S.fail k ∧ r' = S'.fail k))) ∨ (∃ k, m ≤ k ∧ a ≤ k ∧ Ps S r k ∧ Ps S' r' m)
/-- two readings; N: how many tokens may be left -/
structure Rg (S S' : Src) (m N : Nat) {α : Type} (R R' : Nat → Rs α) : Prop where
  lt : ∀ a, a < m → S.n ≤ a + N → Cz S S' m a (R a) (R' a)
  ge : ∀ a, m ≤ a → S.n ≤ a + N → Mo S a (R a)
  at_ : S.n ≤ m + N → Ps S' (R' m) m
section
variable {S S' : Src} {m N : Nat} {α β γ δ : Type}
theorem Mo.le {a b : Nat} {r : Rs α} (h : b ≤ a) : Mo S a r → Mo S b r := fun ⟨k, h1, h2⟩ => ⟨k, by omega, h2⟩
theorem Cz.le {a b : Nat} {r r' : Rs α} (h : b ≤ a) : Cz S S' m a r r' → Cz S S' m b r r' := fun c => c.elim (fun ⟨k, h1, h2, h3⟩ => .inl ⟨k, by omega, h2, h3⟩) fun ⟨k, h1, h2, h3⟩ => .inr ⟨k, h1, by omega, h3⟩
theorem Rg.mono {R R' : Nat → Rs α} {M : Nat} (h : M ≤ N) (r : Rg S S' m N R R') : Rg S S' m M R R' := ⟨fun a h1 h2 => r.lt a h1 (by omega), fun a h1 h2 => r.ge a h1 (by omega), fun h1 => r.at_ (by omega)⟩
/-- at any place up to m -/
theorem Rg.cz {R R' : Nat → Rs α} (r : Rg S S' m N R R') {a : Nat} (h : a ≤ m) (hn : S.n ≤ a + N) : Cz S S' m a (R a) (R' a) := by
  by_cases k : a < m
  · exact r.lt a k hn
  · obtain rfl : a = m := by omega
    obtain ⟨j, h1, h2⟩ := r.ge a (Nat.le_refl _) hn
    exact .inr ⟨j, h1, h1, h2, r.at_ hn⟩
theorem Rg.mo {R R' : Nat → Rs α} (r : Rg S S' m N R R') {a : Nat} (hn : S.n ≤ a + N) : Mo S a (R a) := by
  by_cases k : a < m
  · rcases r.lt a k hn with ⟨j, h1, h2, ⟨x, h3, _⟩ | ⟨h3, _⟩⟩ | ⟨j, h1, h2, h3, _⟩
    · exact ⟨j, h1, .inl ⟨x, h3⟩⟩
    · exact ⟨j, h1, .inr h3⟩
    · exact ⟨j, h2, h3⟩
  · exact r.ge a (by omega) hn
theorem rg_fail : Rg S S' m N (fun a => (S.fail a : Rs α)) (fun a => S'.fail a) :=
  ⟨fun a h _ => .inl ⟨a, Nat.le_refl _, h, .inr ⟨rfl, rfl⟩⟩, fun a _ _ => ⟨a, Nat.le_refl _, .inr rfl⟩, fun _ => .inr rfl⟩
theorem rg_ok (x : α) : Rg S S' m N (fun a => .ok x a) (fun a => .ok x a) :=
  ⟨fun a h _ => .inl ⟨a, Nat.le_refl _, h, .inl ⟨x, rfl, rfl⟩⟩, fun a _ _ => ⟨a, Nat.le_refl _, .inl ⟨x, rfl⟩⟩, fun _ => .inl ⟨x, rfl⟩⟩
theorem fail_bind {f : α → Nat → Rs β} {a : Nat} : (S.fail a : Rs α).bind f = S.fail a := rfl
theorem ps_bind {r : Rs α} {k : Nat} {f : α → Nat → Rs β} (h : Ps S r k) (g : ∀ x, Mo S k (f x k)) : Mo S k (r.bind f) := by
  rcases h with ⟨x, rfl⟩ | rfl
  · exact g x
  · exact ⟨k, Nat.le_refl _, .inr rfl⟩
theorem Rg.bind {R R' : Nat → Rs α} {f f' : α → Nat → Rs β} (r : Rg S S' m N R R') (h : ∀ x, Rg S S' m N (f x) (f' x)) : Rg S S' m N (fun a => (R a).bind (f)) (fun a => (R' a).bind (f')) := by
  have third : ∀ {a : Nat} {q : Rs α}, Ps S' q m → S.n ≤ m + N → Ps S' (q.bind f') m := fun {a q} hq hn => by
    rcases hq with ⟨x, rfl⟩ | rfl
    · exact (h x).at_ hn
    · exact .inr rfl
  refine ⟨fun a ha hn => ?_, fun a ha hn => ?_, fun hn => third (a := m) (r.at_ hn) hn⟩
  · rcases r.lt a ha hn with ⟨k, h1, h2, ⟨x, e1, e2⟩ | ⟨e1, e2⟩⟩ | ⟨k, h1, h2, h3, h4⟩
    · show Cz S S' m a ((R a).bind f) ((R' a).bind f')
      rw [e1, e2]
      exact ((h x).lt k h2 (by omega)).le h1
    · show Cz S S' m a ((R a).bind f) ((R' a).bind f')
      rw [e1, e2]
      exact .inl ⟨k, h1, h2, .inr ⟨rfl, rfl⟩⟩
    · obtain ⟨j, g1, g2⟩ := ps_bind h3 (f := f) fun x => (h x).ge k h1 (by omega)
      exact .inr ⟨j, by omega, by omega, g2, third (a := a) h4 (by omega)⟩
  · obtain ⟨k, h1, h2⟩ := r.ge a ha hn
    exact Mo.le h1 (ps_bind h2 fun x => (h x).mo (by omega))
/-- a test of the next token -/
structure Tt (S S' : Src) (m : Nat) (c c' : Nat → Bool) : Prop where
  same : ∀ a, a < m → c' a = c a
  no : c' m = false
  lt : ∀ a, c a = true → a < S.n
theorem Pre.tW (P : Pre S S' m) {w : Str} (hw : tl w ≠ []) : Tt S S' m (fun a => S.eqW a w) (fun a => S'.eqW a w) :=
  ⟨fun a h => P.eqW h w, eqW_none (Nat.le_of_eq P.n) hw, fun a h => by
    by_cases k : a < S.n
    · exact k
    · have h : S.eqW a w = true := h
      rw [eqW_none (by omega) hw] at h
      cases h⟩
theorem Pre.tN (P : Pre S S' m) : Tt S S' m S.isN S'.isN :=
  ⟨fun a h => P.isN h, isN_none (Nat.le_of_eq P.n), fun a h => by
    by_cases k : a < S.n
    · exact k
    · rw [isN_none (by omega)] at h
      cases h⟩
def ap2 {γ α : Type} (R : γ → Nat → Rs α) (x : γ) (b : Nat) : Rs α := R x b
theorem rg_if {c c' : Nat → Bool} (t : Tt S S' m c c') {p p' : Nat → γ} (hp : ∀ a, a < m → p' a = p a) {R1 R1' : γ → Nat → Rs α} {R2 R2' : Nat → Rs α} (h1 : 0 < N → ∀ x, Rg S S' m (N - 1) (R1 x) (R1' x)) (h2 : Rg S S' m N R2 R2') :
    Rg S S' m N (fun a => if c a = true then ap2 R1 (p a) (a + 1) else R2 a) (fun a => if c' a = true then ap2 R1' (p' a) (a + 1) else R2' a) := by
  refine ⟨fun a ha hn => ?_, fun a ha hn => ?_, fun hn => ?_⟩
  · show Cz S S' m a (if c a = true then R1 (p a) (a + 1) else R2 a) (if c' a = true then R1' (p' a) (a + 1) else R2' a)
    rw [t.same a ha, hp a ha]
    by_cases hc : c a = true
    · have := t.lt a hc
      rw [if_pos hc, if_pos hc]
      exact ((h1 (by omega) (p a)).cz (a := a + 1) (by omega) (by omega)).le (by omega)
    · rw [if_neg hc, if_neg hc]
      exact h2.lt a ha hn
  · show Mo S a (if c a = true then R1 (p a) (a + 1) else R2 a)
    by_cases hc : c a = true
    · have := t.lt a hc
      rw [if_pos hc]
      exact ((h1 (by omega) (p a)).mo (a := a + 1) (by omega)).le (by omega)
    · rw [if_neg hc]
      exact h2.ge a ha hn
  · show Ps S' (if c' m = true then R1' (p' m) (m + 1) else R2' m) m
    rw [t.no, if_neg (by decide)]
    exact h2.at_ hn
/-- the same, the token not taken -/
theorem rg_ifS {c c' : Nat → Bool} (t : Tt S S' m c c') {R1 R1' R2 R2' : Nat → Rs α} (h1 : Rg S S' m N R1 R1') (h2 : Rg S S' m N R2 R2') :
    Rg S S' m N (fun a => if c a = true then R1 a else R2 a) (fun a => if c' a = true then R1' a else R2' a) := by
  refine ⟨fun a ha hn => ?_, fun a ha hn => ?_, fun hn => ?_⟩
  · show Cz S S' m a (if c a = true then R1 a else R2 a) (if c' a = true then R1' a else R2' a)
    rw [t.same a ha]
    by_cases hc : c a = true
    · rw [if_pos hc, if_pos hc]
      exact h1.lt a ha hn
    · rw [if_neg hc, if_neg hc]
      exact h2.lt a ha hn
  · show Mo S a (if c a = true then R1 a else R2 a)
    by_cases hc : c a = true
    · rw [if_pos hc]
      exact h1.ge a ha hn
    · rw [if_neg hc]
      exact h2.ge a ha hn
  · show Ps S' (if c' m = true then R1' m else R2' m) m
    rw [t.no, if_neg (by decide)]
    exact h2.at_ hn
/-- a loop: as long as the test holds, the token is taken and B read -/
theorem rg_loop {c c' : γ → Nat → Bool} (t : ∀ x, Tt S S' m (c x) (c' x)) {p p' : Nat → β} (hp : ∀ a, a < m → p' a = p a) {B B' : γ → β → Nat → Rs δ} {Z Z' : γ → Nat → Rs α} {L L' : γ → Nat → Rs α} {nx : γ → β → δ → γ}
    (hB : ∀ x a, c x a = true → S.n ≤ a + N → Rg S S' m (N - 1) (B x (p a)) (B' x (p a))) (hZ : ∀ x, Rg S S' m N (Z x) (Z' x))
    (e : ∀ x a, S.n ≤ a + N → L x a = if c x a = true then (B x (p a) (a + 1)).bind (fun y a' => L (nx x (p a) y) a') else Z x a)
    (e' : ∀ x a, a ≤ m → S.n ≤ a + N → L' x a = if c' x a = true then (B' x (p' a) (a + 1)).bind (fun y a' => L' (nx x (p' a) y) a') else Z' x a) : ∀ x, Rg S S' m N (L x) (L' x) := by
  have at_ : ∀ x, S.n ≤ m + N → Ps S' (L' x m) m := fun x hn => by
    rw [e' x m (Nat.le_refl _) hn, (t x).no, if_neg (by decide)]
    exact (hZ x).at_ hn
  have ge : ∀ (j : Nat) (x : γ) (a : Nat), S.n - a ≤ j → S.n ≤ a + N → Mo S a (L x a) := by
    intro j
    induction j with
    | zero =>
      intro x a hj hn
      rw [e x a hn]
      by_cases hc : c x a = true
      · have := (t x).lt a hc
        omega
      · rw [if_neg hc]
        exact (hZ x).mo hn
    | succ j ih =>
      intro x a hj hn
      rw [e x a hn]
      by_cases hc : c x a = true
      · have := (t x).lt a hc
        rw [if_pos hc]
        obtain ⟨k, h1, h2⟩ := (hB x a hc hn).mo (a := a + 1) (by omega)
        exact Mo.le (show a ≤ k by omega) (ps_bind h2 fun y => ih _ k (by omega) (by omega))
      · rw [if_neg hc]
        exact (hZ x).mo hn
  have lt : ∀ (j : Nat) (x : γ) (a : Nat), S.n - a ≤ j → a < m → S.n ≤ a + N → Cz S S' m a (L x a) (L' x a) := by
    intro j
    induction j with
    | zero =>
      intro x a hj ha hn
      rw [e x a hn, e' x a (by omega) hn, (t x).same a ha]
      by_cases hc : c x a = true
      · have := (t x).lt a hc
        omega
      · rw [if_neg hc, if_neg hc]
        exact (hZ x).lt a ha hn
    | succ j ih =>
      intro x a hj ha hn
      rw [e x a hn, e' x a (by omega) hn, (t x).same a ha, hp a ha]
      by_cases hc : c x a = true
      · have := (t x).lt a hc
        rw [if_pos hc, if_pos hc]
        have third : ∀ {q : Rs δ}, Ps S' q m → Ps S' (q.bind fun y a' => L' (nx x (p a) y) a') m := fun {q} hq => by
          rcases hq with ⟨y, rfl⟩ | rfl
          · exact at_ _ (by omega)
          · exact .inr rfl
        rcases (hB x a hc hn).cz (a := a + 1) (by omega) (by omega) with ⟨k, h1, h2, ⟨y, e1, e2⟩ | ⟨e1, e2⟩⟩ | ⟨k, h1, h2, h3, h4⟩
        · rw [e1, e2]
          exact (ih (nx x (p a) y) k (by omega) h2 (by omega)).le (by omega)
        · rw [e1, e2]
          exact .inl ⟨k, by omega, h2, .inr ⟨rfl, rfl⟩⟩
        · obtain ⟨i, g1, g2⟩ := ps_bind h3 (f := fun y a' => L (nx x (p a) y) a') fun y => ge _ _ k (Nat.le_refl _) (by omega)
          exact .inr ⟨i, by omega, by omega, g2, third h4⟩
      · rw [if_neg hc, if_neg hc]
        exact (hZ x).lt a ha hn
  exact fun x => ⟨fun a ha hn => lt _ x a (Nat.le_refl _) ha hn, fun a _ hn => ge _ x a (Nat.le_refl _) hn, at_ x⟩
end
end Sn

/-! The parser's mirror by how many calls there are, and that it looks at no token behind its end. -/
namespace Sn
open PySem PySem.Spec PyProof.Rows L2 TL
mutual
def valB (S : Src) (b d a : Nat) : Rs Tn := if h : 10 ≤ b then S.valM (valB S (b - 3) (d + 1)) (chB S (b - 1) 1 (d + 1)) d a else .un
termination_by b
decreasing_by all_goals omega
def sgB (S : Src) (b d a : Nat) : Rs Tn := if h : 10 ≤ b then S.signM (sgB S (b - 1) (d + 1)) (valB S (b - 4) d) d a else .un
termination_by b
decreasing_by all_goals omega
def chB (S : Src) (b s d a : Nat) : Rs Tn := if h : 10 ≤ b then S.chainM (chB S (b - 2) 3 (d + 1)) (sgB S (b - 1) d) (fun l c => chB S (b - 1) l d c) s d a else .un
termination_by b
decreasing_by all_goals omega
end
theorem valB_s (S : Src) {b d a : Nat} (h : 10 ≤ b) : valB S b d a = S.valM (valB S (b - 3) (d + 1)) (chB S (b - 1) 1 (d + 1)) d a := by rw [valB, dif_pos h]
theorem sgB_s (S : Src) {b d a : Nat} (h : 10 ≤ b) : sgB S b d a = S.signM (sgB S (b - 1) (d + 1)) (valB S (b - 4) d) d a := by rw [sgB, dif_pos h]
theorem chB_s (S : Src) {b s d a : Nat} (h : 10 ≤ b) : chB S b s d a = S.chainM (chB S (b - 2) 3 (d + 1)) (sgB S (b - 1) d) (fun l c => chB S (b - 1) l d c) s d a := by rw [chB, dif_pos h]
theorem valB_n (S : Src) {b d a : Nat} (h : ¬ 10 ≤ b) : valB S b d a = .un := by rw [valB, dif_neg h]
theorem sgB_n (S : Src) {b d a : Nat} (h : ¬ 10 ≤ b) : sgB S b d a = .un := by rw [sgB, dif_neg h]
theorem chB_n (S : Src) {b s d a : Nat} (h : ¬ 10 ≤ b) : chB S b s d a = .un := by rw [chB, dif_neg h]
section
variable {S S' : Src} {m N : Nat}
theorem Cz.mo' {α : Type} {a : Nat} {r r' : Rs α} (h : a ≤ m) (c : Cz S S' m a r r') : Mo S' a r' := by
  rcases c with ⟨j, h1, h2, ⟨x, _, h3⟩ | ⟨_, h3⟩⟩ | ⟨j, h1, h2, _, h3⟩
  · exact ⟨j, h1, .inl ⟨x, h3⟩⟩
  · exact ⟨j, h1, .inr h3⟩
  · exact ⟨m, h, h3⟩
theorem Rg.mo' {α : Type} {R R' : Nat → Rs α} (r : Rg S S' m N R R') {a : Nat} (h : a ≤ m) (hn : S.n ≤ a + N) : Mo S' a (R' a) := (r.cz h hn).mo' h
theorem Pre.lt' (P : Pre S S' m) {a : Nat} {w : Str} (hw : tl w ≠ []) (h : S'.eqW a w = true) : a < m := by
  by_cases k : a < S'.n
  · rw [P.n] at k; exact k
  · rw [eqW_none (by omega) hw] at h
    cases h
theorem tW0 {w : Str} (h : (tl w).isEmpty = false) : tl w ≠ [] := fun e => by rw [e] at h; cases h
theorem rg_args (P : Pre S S' m) {V V' : Nat → Rs Tn} (hV : Rg S S' m N V V') (s0 : Nat) (nm : D) (acc : List D) : Rg S S' m N (S.argsM V s0 nm acc) (S'.argsM V' s0 nm acc) := by
  have hw : tl ("," : Str) ≠ [] := tW0 (by decide +kernel)
  refine rg_loop (γ := List D) (β := Unit) (δ := Tn) (c := fun _ a => S.eqW a ",") (c' := fun _ a => S'.eqW a ",") (fun _ => P.tW hw) (p := fun _ => ()) (p' := fun _ => ()) (fun _ _ => rfl) (B := fun _ _ => V) (B' := fun _ _ => V') (nx := fun acc _ t => acc ++ [t.d])
    (Z := fun acc a => if S.eqW a ")" = true then ap2 (fun (q : Nat) c => (.ok ⟨"call", s0, q, [nm, .tup (ofL acc)]⟩ c : Rs Tn)) (S.en a) (a + 1) else S.fail a) (Z' := fun acc a => if S'.eqW a ")" = true then ap2 (fun (q : Nat) c => (.ok ⟨"call", s0, q, [nm, .tup (ofL acc)]⟩ c : Rs Tn)) (S'.en a) (a + 1) else S'.fail a)
    (L := S.argsM V s0 nm) (L' := S'.argsM V' s0 nm) (fun x a _ _ => hV.mono (by omega)) (fun acc => ?_) (fun acc a hn => ?_) (fun acc a ha hn => ?_) acc
  · exact rg_if (P.tW (tW0 (by decide +kernel))) (p := S.en) (p' := S'.en) (fun a h => P.en h) (fun _ e => rg_ok _) rg_fail
  · rw [Src.argsM]
    by_cases h : S.eqW a "," = true
    · rw [if_pos h, if_pos h]
      have hlt := (P.tW hw).lt a h
      obtain ⟨k, g1, g2⟩ := (hV.mo (a := a + 1) (by omega))
      rcases g2 with ⟨y, ey⟩ | ey
      · rw [ey]
        exact dif_pos ⟨by omega, hlt⟩
      · rw [ey]
        rfl
    · rw [if_neg h, if_neg h] <;> rfl
  · rw [Src.argsM]
    by_cases h : S'.eqW a "," = true
    · rw [if_pos h, if_pos h]
      have hlt := P.lt' hw h
      obtain ⟨k, g1, g2⟩ := (hV.mo' (a := a + 1) (by omega) (by omega))
      rcases g2 with ⟨y, ey⟩ | ey
      · rw [ey]
        exact dif_pos ⟨by omega, by rw [P.n]; exact hlt⟩
      · rw [ey]
        rfl
    · rw [if_neg h, if_neg h] <;> rfl
theorem rg_more (P : Pre S S' m) {R R' : Nat → Rs D} (hR : Rg S S' m N R R') (acc : List D) : Rg S S' m N (S.moreR R acc) (S'.moreR R' acc) := by
  have hw : tl ("," : Str) ≠ [] := tW0 (by decide +kernel)
  refine rg_loop (γ := List D) (β := Unit) (δ := D) (c := fun _ a => S.eqW a ",") (c' := fun _ a => S'.eqW a ",") (fun _ => P.tW hw) (p := fun _ => ()) (p' := fun _ => ()) (fun _ _ => rfl) (B := fun _ _ => R) (B' := fun _ _ => R') (nx := fun acc _ t => acc ++ [t])
    (Z := fun acc a => .ok acc a) (Z' := fun acc a => .ok acc a) (L := S.moreR R) (L' := S'.moreR R') (fun x a _ _ => hR.mono (by omega)) (fun acc => rg_ok _) (fun acc a hn => ?_) (fun acc a ha hn => ?_) acc
  · rw [Src.moreR]
    by_cases h : S.eqW a "," = true
    · rw [if_pos h, if_pos h]
      have hlt := (P.tW hw).lt a h
      obtain ⟨k, g1, g2⟩ := (hR.mo (a := a + 1) (by omega))
      rcases g2 with ⟨y, ey⟩ | ey
      · rw [ey]
        exact dif_pos ⟨by omega, hlt⟩
      · rw [ey]
        rfl
    · rw [if_neg h, if_neg h] <;> rfl
  · rw [Src.moreR]
    by_cases h : S'.eqW a "," = true
    · rw [if_pos h, if_pos h]
      have hlt := P.lt' hw h
      obtain ⟨k, g1, g2⟩ := (hR.mo' (a := a + 1) (by omega) (by omega))
      rcases g2 with ⟨y, ey⟩ | ey
      · rw [ey]
        exact dif_pos ⟨by omega, by rw [P.n]; exact hlt⟩
      · rw [ey]
        rfl
    · rw [if_neg h, if_neg h] <;> rfl
theorem rg_dots (P : Pre S S' m) (t : Tn) : Rg S S' m N (S.dotsM t) (S'.dotsM t) := by
  have hw : tl ("." : Str) ≠ [] := tW0 (by decide +kernel)
  refine rg_loop (γ := Tn) (β := Unit) (δ := Nat × D) (c := fun _ a => S.eqW a ".") (c' := fun _ a => S'.eqW a ".") (fun _ => P.tW hw) (p := fun _ => ()) (p' := fun _ => ()) (fun _ _ => rfl)
    (B := fun _ _ b => if S.isN b = true then ap2 (fun (y : Nat × D) c => (.ok y c : Rs (Nat × D))) (S.st b + (S.wd b).length, S.strW b) (b + 1) else S.fail b) (B' := fun _ _ b => if S'.isN b = true then ap2 (fun (y : Nat × D) c => (.ok y c : Rs (Nat × D))) (S'.st b + (S'.wd b).length, S'.strW b) (b + 1) else S'.fail b)
    (nx := fun t _ y => ⟨"field", t.s, y.1, [t.d, y.2]⟩) (Z := fun t a => .ok t a) (Z' := fun t a => .ok t a) (L := S.dotsM) (L' := S'.dotsM) (fun x a _ _ => ?_) (fun t => rg_ok _) (fun t a hn => ?_) (fun t a ha hn => ?_) t
  · exact rg_if P.tN (p := fun b => (S.st b + (S.wd b).length, S.strW b)) (p' := fun b => (S'.st b + (S'.wd b).length, S'.strW b)) (fun a h => by show (_, _) = (_, _); rw [P.st h, P.wd a h, P.strW h]) (fun _ y => rg_ok _) rg_fail
  · rw [Src.dotsM]
    by_cases h : S.eqW a "." = true
    · rw [if_pos h, if_pos h]
      have hlt := (P.tW hw).lt a h
      by_cases k : S.isN (a + 1) = true
      · rw [if_pos k, if_pos k, dif_pos hlt]
        rfl
      · rw [if_neg k, if_neg k]
        rfl
    · rw [if_neg h, if_neg h] <;> rfl
  · rw [Src.dotsM]
    by_cases h : S'.eqW a "." = true
    · rw [if_pos h, if_pos h]
      have hlt := P.lt' hw h
      by_cases k : S'.isN (a + 1) = true
      · rw [if_pos k, if_pos k, dif_pos (by rw [P.n]; exact hlt)]
        rfl
      · rw [if_neg k, if_neg k]
        rfl
    · rw [if_neg h, if_neg h] <;> rfl
theorem rg_go (P : Pre S S' m) {R R' : Nat → Nat → Rs Tn} {least : Nat} (hl : 1 ≤ least) (hR : 0 < N → ∀ l, 1 ≤ l → Rg S S' m (N - 1) (R l) (R' l)) (most : Nat) (left : Tn) : Rg S S' m N (S.goM R least most left) (S'.goM R' least most left) := by
  have tt : ∀ x : Nat × Tn, Tt S S' m (fun a => decide (least ≤ Src.rank (S.wd a) ∧ Src.rank (S.wd a) ≤ x.1)) (fun a => decide (least ≤ Src.rank (S'.wd a) ∧ Src.rank (S'.wd a) ≤ x.1)) := fun x =>
    ⟨fun a h => by show decide _ = decide _; rw [P.wd a h], by
      show decide (least ≤ Src.rank (S'.wd m) ∧ Src.rank (S'.wd m) ≤ x.1) = false
      rw [wd_none (Nat.le_of_eq P.n)]
      refine decide_eq_false fun h => ?_
      have : Src.rank [] = 0 := by decide +kernel
      omega, fun a h => by
      have h := of_decide_eq_true h
      by_cases k : a < S.n
      · exact k
      · rw [wd_none (by omega)] at h
        have : Src.rank [] = 0 := by decide +kernel
        omega⟩
  have := rg_loop (γ := Nat × Tn) (β := List Nat) (δ := Tn) (c := fun x a => decide (least ≤ Src.rank (S.wd a) ∧ Src.rank (S.wd a) ≤ x.1)) (c' := fun x a => decide (least ≤ Src.rank (S'.wd a) ∧ Src.rank (S'.wd a) ≤ x.1)) tt (p := S.wd) (p' := S'.wd) (fun a h => P.wd a h)
    (B := fun _ w => R (Src.rank w + 1)) (B' := fun _ w => R' (Src.rank w + 1)) (nx := fun x w r => (Src.topR (Src.rank w), Src.binT x.2 r w)) (Z := fun x a => .ok x.2 a) (Z' := fun x a => .ok x.2 a) (L := fun x => S.goM R least x.1 x.2) (L' := fun x => S'.goM R' least x.1 x.2)
    (N := N) (fun x a hc hn => hR (by have := (tt x).lt a hc; omega) _ (by omega)) (fun x => rg_ok _) (fun x a hn => ?_) (fun x a ha hn => ?_) (most, left)
  · exact this
  · show S.goM R least x.1 x.2 a = _
    rw [Src.goM]
    by_cases h : least ≤ Src.rank (S.wd a) ∧ Src.rank (S.wd a) ≤ x.1
    · rw [if_pos h, if_pos (decide_eq_true h)]
      have hlt := (tt x).lt a (decide_eq_true h)
      obtain ⟨k, g1, g2⟩ := ((hR (by omega) (Src.rank (S.wd a) + 1) (by omega)).mo (a := a + 1) (by omega))
      rcases g2 with ⟨y, ey⟩ | ey
      · rw [ey]
        exact dif_pos ⟨by omega, hlt⟩
      · rw [ey]
        rfl
    · rw [if_neg h, if_neg (fun e => h (of_decide_eq_true e))]
  · show S'.goM R' least x.1 x.2 a = _
    rw [Src.goM]
    by_cases h : least ≤ Src.rank (S'.wd a) ∧ Src.rank (S'.wd a) ≤ x.1
    · rw [if_pos h, if_pos (decide_eq_true h)]
      have hlt : a < m := by
        by_cases k : a < S'.n
        · rw [P.n] at k; exact k
        · rw [wd_none (by omega)] at h
          have : Src.rank [] = 0 := by decide +kernel
          omega
      have := P.le
      obtain ⟨k, g1, g2⟩ := ((hR (by omega) (Src.rank (S'.wd a) + 1) (by omega)).mo' (a := a + 1) (by omega) (by omega))
      rcases g2 with ⟨y, ey⟩ | ey
      · rw [ey]
        exact dif_pos ⟨by omega, by rw [P.n]; exact hlt⟩
      · rw [ey]
        rfl
    · rw [if_neg h, if_neg (fun e => h (of_decide_eq_true e))]
theorem rg_named (P : Pre S S' m) {V V' : Nat → Rs Tn} (hV : 0 < N → Rg S S' m (N - 1) V V') : Rg S S' m N (S.namedM V) (S'.namedM V') := by
  have e : ∀ (S : Src) (V : Nat → Rs Tn), S.namedM V = fun a => if S.isN a = true then ap2 (fun (p : Nat × Nat × D) b => if S.eqW b "(" = true then ap2 (fun (_ : Unit) c => if S.eqW c ")" = true then ap2 (fun (q : Nat) c2 => .ok ⟨"call", p.1, q, [p.2.2, .tup .nil]⟩ c2) (S.en c) (c + 1) else (V c).bind fun t a' => S.argsM V p.1 p.2.2 [t.d] a') () (b + 1)
      else .ok ⟨"name", p.1, p.2.1, [p.2.2]⟩ b) (S.st a, S.en a, S.strW a) (a + 1) else S.fail a := fun S V => by funext a; unfold Src.namedM; rfl
  rw [e, e]
  refine rg_if P.tN (p := fun a => (S.st a, S.en a, S.strW a)) (p' := fun a => (S'.st a, S'.en a, S'.strW a)) (fun a h => by show (_, _, _) = (_, _, _); rw [P.st h, P.en h, P.strW h]) (fun h0 p => ?_) rg_fail
  refine rg_if (P.tW (tW0 (by decide +kernel))) (p := fun _ => ()) (p' := fun _ => ()) (fun _ _ => rfl) (fun h1 _ => ?_) (rg_ok _)
  refine rg_if (P.tW (tW0 (by decide +kernel))) (p := S.en) (p' := S'.en) (fun a h => P.en h) (fun _ q => rg_ok _) ?_
  exact Rg.bind ((hV h0).mono (by omega)) fun t => rg_args P ((hV h0).mono (by omega)) _ _ _
theorem rg_simp (P : Pre S S' m) {V V' : Nat → Rs Tn} (hV : 0 < N → Rg S S' m (N - 1) V V') : Rg S S' m N (S.simpM V) (S'.simpM V') := by
  have e : ∀ (S : Src) (V : Nat → Rs Tn), S.simpM V = fun a => if S.isN a = true then S.namedM V a else (fun a => if decide (S.so a = Src.number) = true then ap2 (fun (p : Nat × Nat × Int) b => .ok ⟨"number", p.1, p.2.1, [.int p.2.2]⟩ b) (S.st a, S.en a, Src.numv (S.wd a)) (a + 1)
      else (fun a => if S.eqW a "(" = true then ap2 (fun (s : Nat) b => (V b).bind fun t a' => (fun c => if S.eqW c ")" = true then ap2 (fun (q : Nat) c2 => .ok ⟨"group", s, q, [t.d]⟩ c2) (S.en c) (c + 1) else S.fail c) a') (S.st a) (a + 1)
      else (fun a => if (S.eqW a "True" || S.eqW a "False") = true then ap2 (fun (p : Nat × Nat × Bool) b => .ok ⟨"truth", p.1, p.2.1, [.bl p.2.2]⟩ b) (S.st a, S.en a, S.eqW a "True") (a + 1) else S.fail a) a) a) a := fun S V => by funext a; unfold Src.simpM; rfl
  rw [e, e]
  have tnum : Tt S S' m (fun a => decide (S.so a = Src.number)) (fun a => decide (S'.so a = Src.number)) := ⟨fun a h => by show decide _ = decide _; rw [P.so h], by
    show decide (S'.so m = Src.number) = false
    unfold Src.so
    rw [none_end (Nat.le_of_eq P.n)]
    decide +kernel, fun a h => by
    have h := of_decide_eq_true h
    by_cases k : a < S.n
    · exact k
    · unfold Src.so at h
      rw [none_end (by omega)] at h
      exact absurd h (by decide +kernel)⟩
  have ttr : Tt S S' m (fun a => S.eqW a "True" || S.eqW a "False") (fun a => S'.eqW a "True" || S'.eqW a "False") := ⟨fun a h => by show (_ || _) = (_ || _); rw [P.eqW h, P.eqW h], by
    show (S'.eqW m "True" || S'.eqW m "False") = false
    rw [eqW_none (Nat.le_of_eq P.n) (tW0 (by decide +kernel)), eqW_none (Nat.le_of_eq P.n) (tW0 (by decide +kernel))]
    rfl, fun a h => by
    have h : (S.eqW a "True" || S.eqW a "False") = true := h
    rw [Bool.or_eq_true] at h
    exact h.elim ((P.tW (tW0 (by decide +kernel))).lt a) ((P.tW (tW0 (by decide +kernel))).lt a)⟩
  refine rg_ifS P.tN (rg_named P hV) ?_
  refine rg_if tnum (p := fun a => (S.st a, S.en a, Src.numv (S.wd a))) (p' := fun a => (S'.st a, S'.en a, Src.numv (S'.wd a))) (fun a h => by show (_, _, _) = (_, _, _); rw [P.st h, P.en h, P.wd a h]) (fun _ p => rg_ok _) ?_
  refine rg_if (P.tW (tW0 (by decide +kernel))) (p := S.st) (p' := S'.st) (fun a h => P.st h) (fun h0 s => ?_) ?_
  · exact Rg.bind (hV h0) fun t => rg_if (P.tW (tW0 (by decide +kernel))) (p := S.en) (p' := S'.en) (fun a h => P.en h) (fun _ q => rg_ok _) rg_fail
  · exact rg_if ttr (p := fun a => (S.st a, S.en a, S.eqW a "True")) (p' := fun a => (S'.st a, S'.en a, S'.eqW a "True")) (fun a h => by show (_, _, _) = (_, _, _); rw [P.st h, P.en h, P.eqW h]) (fun _ p => rg_ok _) rg_fail
theorem rg_reach (P : Pre S S' m) {V V' : Nat → Rs Tn} (hV : 0 < N → Rg S S' m (N - 1) V V') : Rg S S' m N (S.reachM V) (S'.reachM V') := Rg.bind (rg_simp P hV) fun t => rg_dots P t
theorem rg_sign (P : Pre S S' m) {V V' G G' : Nat → Rs Tn} {d : Nat} (hV : 0 < N → Rg S S' m (N - 1) V V') (hG : d ≠ 30 → 0 < N → Rg S S' m (N - 1) G G') : Rg S S' m N (S.signM G V d) (S'.signM G' V' d) := by
  by_cases hd : d = 30
  · have e : ∀ (S : Src) (G V : Nat → Rs Tn), S.signM G V d = fun a => if S.eqW a "-" = true then S.fail a else S.reachM V a := fun S G V => by funext a; unfold Src.signM; rw [if_pos hd] <;> rfl
    rw [e, e]
    exact rg_ifS (P.tW (tW0 (by decide +kernel))) rg_fail (rg_reach P hV)
  · have e : ∀ (S : Src) (G V : Nat → Rs Tn), S.signM G V d = fun a => if S.eqW a "-" = true then ap2 (fun (s : Nat) b => (G b).bind fun t a' => .ok ⟨"minus", s, t.e, [t.d]⟩ a') (S.st a) (a + 1) else S.reachM V a := fun S G V => by funext a; unfold Src.signM; rw [if_neg hd] <;> rfl
    rw [e, e]
    exact rg_if (P.tW (tW0 (by decide +kernel))) (p := S.st) (p' := S'.st) (fun a h => P.st h) (fun h0 s => Rg.bind (hG hd h0) fun t => rg_ok _) (rg_reach P hV)
theorem rg_chain (P : Pre S S' m) {N3 N3' G G' : Nat → Rs Tn} {R R' : Nat → Nat → Rs Tn} {least d : Nat} (hl : 1 ≤ least) (h3 : d ≠ 30 → 0 < N → Rg S S' m (N - 1) N3 N3') (hG : Rg S S' m N G G') (hR : 0 < N → ∀ l, 1 ≤ l → Rg S S' m (N - 1) (R l) (R' l)) :
    Rg S S' m N (S.chainM N3 G R least d) (S'.chainM N3' G' R' least d) := by
  have hgo : ∀ t, Rg S S' m N (S.goM R least 6 t) (S'.goM R' least 6 t) := fun t => rg_go P hl hR 6 t
  by_cases h : least ≤ 3
  · by_cases hd : d = 30
    · have e : ∀ (S : Src) (N3 G : Nat → Rs Tn) (R : Nat → Nat → Rs Tn), S.chainM N3 G R least d = fun a => if S.eqW a "not" = true then S.fail a else (G a).bind fun t a' => S.goM R least 6 t a' := fun S N3 G R => by
        funext a
        unfold Src.chainM
        by_cases k : S.eqW a "not" = true
        · rw [if_pos ⟨k, h⟩, if_pos hd, if_pos k] <;> rfl
        · rw [if_neg (fun e => k e.1), if_neg k] <;> rfl
      rw [e, e]
      exact rg_ifS (P.tW (tW0 (by decide +kernel))) rg_fail (Rg.bind hG hgo)
    · have e : ∀ (S : Src) (N3 G : Nat → Rs Tn) (R : Nat → Nat → Rs Tn), S.chainM N3 G R least d = fun a => if S.eqW a "not" = true then ap2 (fun (s : Nat) b => (N3 b).bind fun t a' => S.goM R least 3 ⟨"not", s, t.e, [t.d]⟩ a') (S.st a) (a + 1) else (G a).bind fun t a' => S.goM R least 6 t a' := fun S N3 G R => by
        funext a
        unfold Src.chainM
        by_cases k : S.eqW a "not" = true
        · rw [if_pos ⟨k, h⟩, if_neg hd, if_pos k] <;> rfl
        · rw [if_neg (fun e => k e.1), if_neg k] <;> rfl
      rw [e, e]
      exact rg_if (P.tW (tW0 (by decide +kernel))) (p := S.st) (p' := S'.st) (fun a h => P.st h) (fun h0 s => Rg.bind (h3 hd h0) fun t => rg_go P hl (fun h1 l hl => (hR h0 l hl).mono (by omega)) 3 _) (Rg.bind hG hgo)
  · have e : ∀ (S : Src) (N3 G : Nat → Rs Tn) (R : Nat → Nat → Rs Tn), S.chainM N3 G R least d = fun a => (G a).bind fun t a' => S.goM R least 6 t a' := fun S N3 G R => by
      funext a
      unfold Src.chainM
      rw [if_neg (fun e => h e.2)]
    rw [e, e]
    exact Rg.bind hG hgo
theorem rg_part (P : Pre S S' m) {V V' : Nat → Rs Tn} {w : Str} (hw : tl w ≠ []) (hV : 0 < N → Rg S S' m (N - 1) V V') : Rg S S' m N (S.part V w) (S'.part V' w) := by
  have e : ∀ (S : Src) (V : Nat → Rs Tn), S.part V w = fun a => if S.eqW a w = true then ap2 (fun (_ : Unit) b => V b) () (a + 1) else S.fail a := fun S V => by funext a; rfl
  rw [e, e]
  exact rg_if (P.tW hw) (p := fun _ => ()) (p' := fun _ => ()) (fun _ _ => rfl) (fun h0 _ => hV h0) rg_fail
theorem rg_val (P : Pre S S' m) {V V' C C' : Nat → Rs Tn} {d : Nat} (hV : d ≠ 30 → Rg S S' m N V V') (hC : d ≠ 30 → Rg S S' m N C C') : Rg S S' m N (S.valM V C d) (S'.valM V' C' d) := by
  by_cases hd : d = 30
  · have e : ∀ (S : Src) (V C : Nat → Rs Tn), S.valM V C d = fun a => S.fail a := fun S V C => by funext a; unfold Src.valM; rw [if_pos (.inl hd)]
    rw [e, e]
    exact rg_fail
  have hV := hV hd
  have hC := hC hd
  have hV1 : 0 < N → Rg S S' m (N - 1) V V' := fun _ => hV.mono (by omega)
  have letE : ∀ (S : Src) (V : Nat → Rs Tn) (s : Nat), S.letM V s = fun a => if S.isN a = true then ap2 (fun (p : D × Nat) b => (S.part V "=" b).bind fun v a1 => (S.part V "in" a1).bind fun y a2 => .ok ⟨"let", s, y.e, [p.1, .int (p.2 : Int), v.d, y.d]⟩ a2) (S.strW a, S.st a) (a + 1) else S.fail a := fun S V s => by funext a; rfl
  have loopE : ∀ (S : Src) (V : Nat → Rs Tn) (s : Nat), S.loopM V s = fun a => if S.isN a = true then ap2 (fun (p : D × Nat) b => (S.part V "=" b).bind fun f a1 => (S.part V "times" a1).bind fun c a2 => (S.part V "do" a2).bind fun q a3 => .ok ⟨"loop", s, q.e, [p.1, .int (p.2 : Int), f.d, c.d, q.d]⟩ a3) (S.strW a, S.st a) (a + 1) else S.fail a := fun S V s => by funext a; rfl
  have hlet : ∀ {M : Nat} (s : Nat), M ≤ N → Rg S S' m M (S.letM V s) (S'.letM V' s) := fun {M} s hM => by
    rw [letE, letE]
    refine rg_if P.tN (p := fun a => (S.strW a, S.st a)) (p' := fun a => (S'.strW a, S'.st a)) (fun a h => by show (_, _) = (_, _); rw [P.strW h, P.st h]) (fun h0 p => ?_) rg_fail
    exact Rg.bind (rg_part P (tW0 (by decide +kernel)) fun _ => hV.mono (by omega)) fun v => Rg.bind (rg_part P (tW0 (by decide +kernel)) fun _ => hV.mono (by omega)) fun y => rg_ok _
  have hif : ∀ {M : Nat} (s : Nat), M ≤ N → Rg S S' m M (S.ifM V s) (S'.ifM V' s) := fun {M} s hM =>
    Rg.bind (hV.mono hM) fun t => Rg.bind (rg_part P (tW0 (by decide +kernel)) fun _ => hV.mono (by omega)) fun y => Rg.bind (rg_part P (tW0 (by decide +kernel)) fun _ => hV.mono (by omega)) fun z => rg_ok _
  have hloop : ∀ {M : Nat} (s : Nat), M ≤ N → Rg S S' m M (S.loopM V s) (S'.loopM V' s) := fun {M} s hM => by
    rw [loopE, loopE]
    refine rg_if P.tN (p := fun a => (S.strW a, S.st a)) (p' := fun a => (S'.strW a, S'.st a)) (fun a h => by show (_, _) = (_, _); rw [P.strW h, P.st h]) (fun h0 p => ?_) rg_fail
    exact Rg.bind (rg_part P (tW0 (by decide +kernel)) fun _ => hV.mono (by omega)) fun v => Rg.bind (rg_part P (tW0 (by decide +kernel)) fun _ => hV.mono (by omega)) fun y => Rg.bind (rg_part P (tW0 (by decide +kernel)) fun _ => hV.mono (by omega)) fun z => rg_ok _
  have base : Rg S S' m N (fun a => if S.eqW a "let" = true then ap2 (fun (s : Nat) b => S.letM V s b) (S.st a) (a + 1) else (fun a => if S.eqW a "if" = true then ap2 (fun (s : Nat) b => S.ifM V s b) (S.st a) (a + 1) else (fun a => if S.eqW a "loop" = true then ap2 (fun (s : Nat) b => S.loopM V s b) (S.st a) (a + 1) else C a) a) a)
      (fun a => if S'.eqW a "let" = true then ap2 (fun (s : Nat) b => S'.letM V' s b) (S'.st a) (a + 1) else (fun a => if S'.eqW a "if" = true then ap2 (fun (s : Nat) b => S'.ifM V' s b) (S'.st a) (a + 1) else (fun a => if S'.eqW a "loop" = true then ap2 (fun (s : Nat) b => S'.loopM V' s b) (S'.st a) (a + 1) else C' a) a) a) := by
    refine rg_if (P.tW (tW0 (by decide +kernel))) (p := S.st) (p' := S'.st) (fun a h => P.st h) (fun _ s => hlet s (by omega)) ?_
    refine rg_if (P.tW (tW0 (by decide +kernel))) (p := S.st) (p' := S'.st) (fun a h => P.st h) (fun _ s => hif s (by omega)) ?_
    exact rg_if (P.tW (tW0 (by decide +kernel))) (p := S.st) (p' := S'.st) (fun a h => P.st h) (fun _ s => hloop s (by omega)) hC
  have eS : ∀ (S : Src) (V C : Nat → Rs Tn) (a : Nat), ¬ S.n ≤ a → S.valM V C d a = if S.eqW a "let" = true then ap2 (fun (s : Nat) b => S.letM V s b) (S.st a) (a + 1) else (fun a => if S.eqW a "if" = true then ap2 (fun (s : Nat) b => S.ifM V s b) (S.st a) (a + 1) else (fun a => if S.eqW a "loop" = true then ap2 (fun (s : Nat) b => S.loopM V s b) (S.st a) (a + 1) else C a) a) a := fun S V C a h => by
    unfold Src.valM
    rw [if_neg (fun e => e.elim hd h)] <;> rfl
  refine ⟨fun a ha hn => ?_, fun a ha hn => ?_, fun hn => ?_⟩
  · have := P.le
    rw [eS S V C a (by omega), eS S' V' C' a (by rw [P.n]; omega)]
    exact base.lt a ha hn
  · by_cases k : S.n ≤ a
    · unfold Src.valM
      rw [if_pos (.inr k)]
      exact ⟨a, Nat.le_refl _, .inr rfl⟩
    · rw [eS S V C a k]
      exact base.ge a ha hn
  · unfold Src.valM
    rw [if_pos (.inr (Nat.le_of_eq P.n))]
    exact .inr rfl
/-- all of the mirror -/
theorem rg_all (P : Pre S S' m) : ∀ b : Nat, (∀ d N, d ≤ 30 → 5 * (30 - d) + N + 10 ≤ b → Rg S S' m N (valB S b d) (valB S' b d)) ∧ (∀ d N, d ≤ 30 → 5 * (30 - d) + N + 13 ≤ b → Rg S S' m N (sgB S b d) (sgB S' b d)) ∧
    (∀ s d N, 1 ≤ s → d ≤ 30 → 5 * (30 - d) + N + 14 ≤ b → Rg S S' m N (chB S b s d) (chB S' b s d)) := by
  intro b
  induction b using Nat.strongRecOn with
  | ind b ih =>
    refine ⟨fun d N hd hb => ?_, fun d N hd hb => ?_, fun s d N hs hd hb => ?_⟩
    · have e : ∀ S, valB S b d = S.valM (valB S (b - 3) (d + 1)) (chB S (b - 1) 1 (d + 1)) d := fun S => by funext a; exact valB_s S (by omega)
      rw [e, e]
      exact rg_val P (fun h => (ih (b - 3) (by omega)).1 (d + 1) N (by omega) (by omega)) fun h => (ih (b - 1) (by omega)).2.2 1 (d + 1) N (Nat.le_refl _) (by omega) (by omega)
    · have e : ∀ S, sgB S b d = S.signM (sgB S (b - 1) (d + 1)) (valB S (b - 4) d) d := fun S => by funext a; exact sgB_s S (by omega)
      rw [e, e]
      exact rg_sign P (fun h => (ih (b - 4) (by omega)).1 d (N - 1) hd (by omega)) fun h h0 => (ih (b - 1) (by omega)).2.1 (d + 1) (N - 1) (by omega) (by omega)
    · have e : ∀ S, chB S b s d = S.chainM (chB S (b - 2) 3 (d + 1)) (sgB S (b - 1) d) (fun l c => chB S (b - 1) l d c) s d := fun S => by funext a; exact chB_s S (by omega)
      rw [e, e]
      exact rg_chain P hs (fun h h0 => (ih (b - 2) (by omega)).2.2 3 (d + 1) (N - 1) (by decide) (by omega) (by omega)) ((ih (b - 1) (by omega)).2.1 d N hd (by omega)) fun h0 l hl => (ih (b - 1) (by omega)).2.2 l d (N - 1) hl hd (by omega)
/-! ### items -/
theorem rg_mark (P : Pre S S' m) : Rg S S' m N S.markR S'.markR := by
  have e : ∀ S : Src, S.markR = fun a => if S.isN a = true then ap2 (fun (p : D) b => .ok p b) (tD [S.strW a, .int (S.st a : Int)]) (a + 1) else S.fail a := fun S => by funext a; rfl
  rw [e, e]
  exact rg_if P.tN (p := fun a => tD [S.strW a, .int (S.st a : Int)]) (p' := fun a => tD [S'.strW a, .int (S'.st a : Int)]) (fun a h => by show tD _ = tD _; rw [P.strW h, P.st h]) (fun _ p => rg_ok _) rg_fail
theorem rg_exp (P : Pre S S' m) {w : Str} (hw : tl w ≠ []) : Rg S S' m N (S.expR w) (S'.expR w) := by
  have e : ∀ S : Src, S.expR w = fun a => if S.eqW a w = true then ap2 (fun (_ : Unit) b => .ok .non b) () (a + 1) else S.fail a := fun S => by funext a; rfl
  rw [e, e]
  exact rg_if (P.tW hw) (p := fun _ => ()) (p' := fun _ => ()) (fun _ _ => rfl) (fun _ _ => rg_ok _) rg_fail
theorem rg_field (P : Pre S S' m) : Rg S S' m N S.fieldR S'.fieldR := Rg.bind (rg_mark P) fun x => Rg.bind (rg_exp P (tW0 (by decide +kernel))) fun _ => Rg.bind (rg_mark P) fun y => rg_ok _
theorem rg_opt (P : Pre S S' m) : Rg S S' m N S.optR S'.optR := by
  have e : ∀ S : Src, S.optR = fun a => if S.eqW a ":" = true then ap2 (fun (_ : Unit) b => S.markR b) () (a + 1) else .ok .non a := fun S => by funext a; rfl
  rw [e, e]
  exact rg_if (P.tW (tW0 (by decide +kernel))) (p := fun _ => ()) (p' := fun _ => ()) (fun _ _ => rfl) (fun _ _ => rg_mark P) (rg_ok _)
theorem rg_bound (P : Pre S S' m) : Rg S S' m N S.boundR S'.boundR := Rg.bind (rg_mark P) fun x => Rg.bind (rg_opt P) fun y => rg_ok _
theorem rg_fields (P : Pre S S' m) : Rg S S' m N S.fieldsR S'.fieldsR := by
  refine Rg.bind (rg_exp P (tW0 (by decide +kernel))) fun _ => Rg.bind ?_ fun xs => Rg.bind (rg_exp P (tW0 (by decide +kernel))) fun _ => rg_ok _
  exact rg_ifS (P.tW (tW0 (by decide +kernel))) (rg_ok _) (Rg.bind (rg_field P) fun x => rg_more P (rg_field P) [x])
theorem rg_bounds (P : Pre S S' m) : Rg S S' m N S.boundsR S'.boundsR := by
  refine Rg.bind (R := fun a => if S.eqW a "[" = true then ap2 (fun (_ : Unit) b => ((S.boundR b).bind fun x a2 => S.moreR S.boundR [x] a2).bind fun xs a3 => (S.expR "]" a3).bind fun _ a4 => (.ok xs a4 : Rs (List D))) () (a + 1) else .ok [] a)
    (R' := fun a => if S'.eqW a "[" = true then ap2 (fun (_ : Unit) b => ((S'.boundR b).bind fun x a2 => S'.moreR S'.boundR [x] a2).bind fun xs a3 => (S'.expR "]" a3).bind fun _ a4 => (.ok xs a4 : Rs (List D))) () (a + 1) else .ok [] a) ?_ fun xs => rg_ok _
  refine rg_if (P.tW (tW0 (by decide +kernel))) (p := fun _ => ()) (p' := fun _ => ()) (fun _ _ => rfl) (fun _ _ => ?_) (rg_ok _)
  exact Rg.bind (Rg.bind (rg_bound P) fun x => rg_more P (rg_bound P) [x]) fun xs => Rg.bind (rg_exp P (tW0 (by decide +kernel))) fun _ => rg_ok _
theorem rg_import (P : Pre S S' m) : Rg S S' m N S.importR S'.importR := Rg.bind (rg_mark P) fun x => Rg.bind (rg_exp P (tW0 (by decide +kernel))) fun _ => Rg.bind (rg_mark P) fun y => Rg.bind (rg_more P (rg_mark P) [y]) fun ys => rg_ok _
theorem rg_trait (P : Pre S S' m) : Rg S S' m N S.traitR S'.traitR :=
  Rg.bind (rg_mark P) fun x => Rg.bind (rg_exp P (tW0 (by decide +kernel))) fun _ => Rg.bind (rg_mark P) fun y => Rg.bind (rg_exp P (tW0 (by decide +kernel))) fun _ => Rg.bind (rg_mark P) fun z => Rg.bind (rg_more P (rg_field P) []) fun xs =>
  Rg.bind (rg_exp P (tW0 (by decide +kernel))) fun _ => Rg.bind (rg_exp P (tW0 (by decide +kernel))) fun _ => Rg.bind (rg_mark P) fun r => rg_ok _
theorem rg_impl (P : Pre S S' m) {V V' : Nat → Rs Tn} (hV : Rg S S' m N V V') : Rg S S' m N (S.implR V) (S'.implR V') :=
  Rg.bind (rg_mark P) fun x => Rg.bind (rg_exp P (tW0 (by decide +kernel))) fun _ => Rg.bind (rg_mark P) fun y => Rg.bind (rg_part P (tW0 (by decide +kernel)) fun _ => hV.mono (by omega)) fun t => rg_ok _
theorem rg_def (P : Pre S S' m) {V V' : Nat → Rs Tn} (hV : Rg S S' m N V V') : Rg S S' m N (S.defR V) (S'.defR V') :=
  Rg.bind (rg_mark P) fun x => Rg.bind (rg_bounds P) fun y => Rg.bind (rg_fields P) fun z => Rg.bind (rg_opt P) fun r => Rg.bind (rg_part P (tW0 (by decide +kernel)) fun _ => hV.mono (by omega)) fun t => rg_ok _
theorem rg_data (P : Pre S S' m) : Rg S S' m N S.dataR S'.dataR := Rg.bind (rg_mark P) fun x => Rg.bind (rg_fields P) fun y => rg_ok _
theorem rg_item (P : Pre S S' m) {V V' : Nat → Rs Tn} (hV : Rg S S' m N V V') : Rg S S' m N (S.itemR V) (S'.itemR V') := by
  have hV' : ∀ {M : Nat}, M ≤ N → Rg S S' m M V V' := fun h => hV.mono h
  have base : Rg S S' m N (fun a => if S.eqW a "\x69mport" = true then ap2 (fun (_ : Unit) b => S.importR b) () (a + 1) else (fun a => if S.eqW a "data" = true then ap2 (fun (_ : Unit) b => S.dataR b) () (a + 1) else (fun a => if S.eqW a "trait" = true then ap2 (fun (_ : Unit) b => S.traitR b) () (a + 1) else
      (fun a => if S.eqW a "impl" = true then ap2 (fun (_ : Unit) b => S.implR V b) () (a + 1) else (S.expR "def" a).bind fun _ a1 => S.defR V a1) a) a) a)
      (fun a => if S'.eqW a "\x69mport" = true then ap2 (fun (_ : Unit) b => S'.importR b) () (a + 1) else (fun a => if S'.eqW a "data" = true then ap2 (fun (_ : Unit) b => S'.dataR b) () (a + 1) else (fun a => if S'.eqW a "trait" = true then ap2 (fun (_ : Unit) b => S'.traitR b) () (a + 1) else
      (fun a => if S'.eqW a "impl" = true then ap2 (fun (_ : Unit) b => S'.implR V' b) () (a + 1) else (S'.expR "def" a).bind fun _ a1 => S'.defR V' a1) a) a) a) := by
    refine rg_if (P.tW (tW0 (by decide +kernel))) (p := fun _ => ()) (p' := fun _ => ()) (fun _ _ => rfl) (fun _ _ => rg_import P) ?_
    refine rg_if (P.tW (tW0 (by decide +kernel))) (p := fun _ => ()) (p' := fun _ => ()) (fun _ _ => rfl) (fun _ _ => rg_data P) ?_
    refine rg_if (P.tW (tW0 (by decide +kernel))) (p := fun _ => ()) (p' := fun _ => ()) (fun _ _ => rfl) (fun _ _ => rg_trait P) ?_
    refine rg_if (P.tW (tW0 (by decide +kernel))) (p := fun _ => ()) (p' := fun _ => ()) (fun _ _ => rfl) (fun _ _ => rg_impl P (hV' (by omega))) ?_
    exact Rg.bind (rg_exp P (tW0 (by decide +kernel))) fun _ => rg_def P hV
  refine ⟨fun a ha hn => ?_, fun a ha hn => ?_, fun hn => ?_⟩
  · have := P.le
    unfold Src.itemR
    rw [if_neg (show ¬ ¬ a < S.n from fun h => h (by omega)), if_neg (show ¬ ¬ a < S'.n from fun h => h (by rw [P.n]; omega))]
    exact base.lt a ha hn
  · by_cases k : a < S.n
    · unfold Src.itemR
      rw [if_neg (fun h => h k)]
      exact base.ge a ha hn
    · unfold Src.itemR
      rw [if_pos k]
      exact ⟨a, Nat.le_refl _, .inl ⟨_, rfl⟩⟩
  · unfold Src.itemR
    rw [if_pos (by rw [P.n]; omega)]
    exact .inl ⟨_, rfl⟩
end
end Sn

/-! Texts that are cut at a token, or glued with a space between. -/
namespace Sn
open PySem PySem.Spec PyProof.Rows L2 TL
theorem get_take {l : List Nat} {e k : Nat} (h : k < e) : (l.take e)[k]? = l[k]? := List.getElem?_take_of_lt h
theorem len_take {l : List Nat} {e : Nat} (h : e ≤ l.length) : (l.take e).length = e := by rw [List.length_take]; omega
theorem run_cut {p : Nat → Bool} {l : List Nat} {e a : Nat} (h : run p l a ≤ e) (he : e ≤ l.length) : run p (l.take e) a = run p l a := by
  have hg := run_ge p l a
  refine run_at (run p l a - a) a _ (by omega) (fun k c h1 h2 h3 => ?_) (by rw [len_take he]; exact h) (fun c h1 => ?_)
  · rw [get_take (by omega)] at h3
    exact run_in (p := p) (l := l) (l.length - a) a (by omega) k c h1 h2 h3
  · have hlt : run p l a < e := by
      have := (List.getElem?_eq_some_iff.mp h1).1
      rw [len_take he] at this
      exact this
    rw [get_take hlt] at h1
    exact run_out (l.length - a) a (by omega) c h1
theorem cut_tok {l : List Nat} {e a c : Nat} (hc : l[a]? = some c) (h : (tokC l a c).2.2 ≤ e) (he : e ≤ l.length) : tokC (l.take e) a c = tokC l a c := by
  have hal := (List.getElem?_eq_some_iff.mp hc).1
  unfold tokC at h ⊢
  by_cases h1 : isL c = true
  · rw [if_pos h1] at h ⊢
    rw [if_pos h1]
    have hb : run isW l a ≤ e := h
    have hg := run_ge isW l a
    rw [run_cut hb he]
    have : ((l.take e).drop a).take (run isW l a - a) = (l.drop a).take (run isW l a - a) := by
      rw [List.drop_take, List.take_take, Nat.min_eq_left (by omega)]
    rw [this]
  · rw [if_neg h1] at h ⊢
    rw [if_neg h1]
    by_cases h2 : isD c = true
    · rw [if_pos h2] at h ⊢
      rw [if_pos h2]
      rw [run_cut (show run isD l a ≤ e from h) he]
    · rw [if_neg h2] at h ⊢
      rw [if_neg h2]
      have e1 : ((l.take e).drop a).take 2 = (l.drop a).take (min 2 (e - a)) := by rw [List.drop_take, List.take_take]
      by_cases h3 : (l.drop a).take 2 = [61, 61]
      · rw [if_pos h3] at h ⊢
        have h : a + 2 ≤ e := h
        rw [e1, Nat.min_eq_left (by omega), if_pos h3]
      · rw [if_neg h3] at h ⊢
        have h : a + 1 ≤ e := h
        rw [if_neg (fun z => h3 ?_)]
        rw [e1] at z
        by_cases k : a + 2 ≤ e
        · rw [Nat.min_eq_left (by omega)] at z
          exact z
        · have := congrArg List.length z
          rw [List.length_take] at this
          have e2 : ([61, 61] : List Nat).length = 2 := rfl
          omega
/-- cuts at a token's end and at its start -/
theorem toks_cut {l : List Nat} : ∀ (m a : Nat), l.length ≤ a + m → ∀ (i : Nat) (x : Tok), (toks l a l.length)[i]? = some x →
    toks (l.take x.2.2) a x.2.2 = (toks l a l.length).take (i + 1) ∧ toks (l.take x.2.1) a x.2.1 = (toks l a l.length).take i ∧ toks l x.2.2 l.length = (toks l a l.length).drop (i + 1) ∧ toks l x.2.1 l.length = (toks l a l.length).drop i
  | 0, a, h, i, x, hx => by
    rw [toks_end (by omega)] at hx
    simp at hx
  | m + 1, a, h, i, x, hx => by
    have mem := List.mem_of_getElem? hx
    obtain ⟨k1, k2, k3, k4, k5, _⟩ := toks_in (Nat.le_refl l.length) (m + 1) a h x mem
    have hal : a < l.length := by omega
    have hg := List.getElem?_eq_getElem hal
    generalize l[a] = c at hg
    have l2 := len_take (l := l) k4
    have l1 := len_take (l := l) (e := x.2.1) (by omega)
    by_cases b1 : c = 32 ∨ c = 10
    · rw [toks_blank (Nat.le_refl _) hal hg b1] at hx mem ⊢
      obtain ⟨j1, _⟩ := toks_in (Nat.le_refl l.length) m (a + 1) (by omega) x mem
      obtain ⟨g1, g2, g3, g4⟩ := toks_cut m (a + 1) (by omega) i x hx
      refine ⟨?_, ?_, g3, g4⟩
      · rw [toks_blank (by omega) (by omega) (by rw [get_take (by omega)]; exact hg) b1]
        exact g1
      · rw [toks_blank (by omega) (by omega) (by rw [get_take (by omega)]; exact hg) b1]
        exact g2
    · by_cases b2 : c = 35
      · subst b2
        have r1 : run (fun d => d != 10) l a = run (fun d => d != 10) l (a + 1) := run_step hg rfl
        have r2 := run_ge (fun d => d != 10) l (a + 1)
        rw [toks_note (Nat.le_refl _) hal hg] at hx mem ⊢
        obtain ⟨j1, _⟩ := toks_in (Nat.le_refl l.length) m _ (by omega) x mem
        obtain ⟨g1, g2, g3, g4⟩ := toks_cut m _ (by omega) i x hx
        refine ⟨?_, ?_, g3, g4⟩
        · rw [toks_note (by omega) (by omega) (by rw [get_take (by omega)]; exact hg), run_cut (by omega) k4]
          exact g1
        · rw [toks_note (by omega) (by omega) (by rw [get_take (by omega)]; exact hg), run_cut (by omega) (by omega)]
          exact g2
      · have t1 := tok_end hg
        have t2 := tok_start l a c
        have eall := toks_tok (Nat.le_refl l.length) hal hg b1 b2
        rw [eall] at hx mem ⊢
        cases i with
        | zero =>
          have hx : tokC l a c = x := by simpa using hx
          subst hx
          refine ⟨?_, ?_, ?_, ?_⟩
          · rw [toks_tok (by omega) (by omega) (by rw [get_take (by omega)]; exact hg) b1 b2, cut_tok hg (Nat.le_refl _) k4, toks_end (Nat.le_refl _)]
            rfl
          · rw [t2, toks_end (Nat.le_refl _)]
            rfl
          · rfl
          · rw [t2, eall]
            rfl
        | succ i =>
          have hx : (toks l (tokC l a c).2.2 l.length)[i]? = some x := by simpa using hx
          obtain ⟨j1, _⟩ := toks_in (Nat.le_refl l.length) m _ (by omega) x (List.mem_of_getElem? hx)
          obtain ⟨g1, g2, g3, g4⟩ := toks_cut m _ (by omega) i x hx
          refine ⟨?_, ?_, ?_, ?_⟩
          · rw [toks_tok (by omega) (by omega) (by rw [get_take (by omega)]; exact hg) b1 b2, cut_tok hg (by omega) k4, g1]
            rfl
          · rw [toks_tok (by omega) (by omega) (by rw [get_take (by omega)]; exact hg) b1 b2, cut_tok hg (by omega) (by omega), g2]
            rfl
          · rw [g3]
            rfl
          · rw [g4]
            rfl
theorem run_side {p : Nat → Bool} {u v : List Nat} {a : Nat} (hp : p 32 = false) (ha : a ≤ u.length) : run p (u ++ 32 :: v) a ≤ u.length := by
  by_cases h : run p (u ++ 32 :: v) a ≤ u.length
  · exact h
  · have g : (u ++ 32 :: v)[u.length]? = some 32 := by simp
    have := run_in (p := p) (l := u ++ 32 :: v) ((u ++ 32 :: v).length - a) a (by simp; omega) u.length 32 ha (by omega) g
    rw [hp] at this
    cases this
/-- glued with a space, there are no more tokens than in both -/
theorem toks_glue {u v : List Nat} : ∀ (m a : Nat), u.length ≤ a + m → a ≤ u.length → (toks (u ++ 32 :: v) a (u ++ 32 :: v).length).length ≤ (toks u a u.length).length + (toks v 0 v.length).length := by
  have hL : (u ++ 32 :: v).length = u.length + 1 + v.length := by simp; omega
  have eu : (u ++ 32 :: v).take u.length = u := by simp
  have ev : (u ++ 32 :: v).drop (u.length + 1) = v := by
    rw [show u.length + 1 = (u ++ [32]).length by simp, show u ++ 32 :: v = (u ++ [32]) ++ v by simp, List.drop_left']
    rfl
  have g32 : (u ++ 32 :: v)[u.length]? = some 32 := by simp
  have at_end : toks (u ++ 32 :: v) u.length (u ++ 32 :: v).length = toks (u ++ 32 :: v) (u.length + 1) (u ++ 32 :: v).length := toks_blank (Nat.le_refl _) (by omega) g32 (.inl rfl)
  have mvd : ∀ b, b ≤ v.length → (toks (u ++ 32 :: v) (b + (u.length + 1)) (u ++ 32 :: v).length).length = (toks v b v.length).length := fun b hb => by
    have := toks_mv (l := v) (r := u ++ 32 :: v) (J := 0) (J' := u.length + 1) (by rw [ev, List.drop_zero]) (Nat.zero_le _) (by omega) v.length b (Nat.zero_le _) (by omega)
    rw [Nat.sub_zero] at this
    rw [this, List.length_map]
  intro m
  induction m with
  | zero =>
    intro a h ha
    obtain rfl : a = u.length := by omega
    have := mvd 0 (Nat.zero_le _)
    rw [Nat.zero_add] at this
    rw [at_end, this]
    omega
  | succ m ih =>
    intro a h ha
    by_cases hu : a = u.length
    · subst hu
      have := mvd 0 (Nat.zero_le _)
      rw [Nat.zero_add] at this
      rw [at_end, this]
      omega
    have hal : a < u.length := by omega
    have hg := List.getElem?_eq_getElem hal
    generalize u[a] = c at hg
    have hg2 : (u ++ 32 :: v)[a]? = some c := by rw [List.getElem?_append_left hal]; exact hg
    by_cases b1 : c = 32 ∨ c = 10
    · rw [toks_blank (Nat.le_refl _) (by omega) hg2 b1, toks_blank (Nat.le_refl _) hal hg b1]
      exact ih (a + 1) (by omega) (by omega)
    · by_cases b2 : c = 35
      · subst b2
        have r1 : run (fun d => d != 10) u a = run (fun d => d != 10) u (a + 1) := run_step hg rfl
        have r2 := run_ge (fun d => d != 10) u (a + 1)
        have r3 := run_le (p := fun d => d != 10) (l := u) (i := a) (by omega)
        rw [toks_note (Nat.le_refl _) (by omega) hg2, toks_note (Nat.le_refl _) hal hg]
        by_cases hb : run (fun d => d != 10) u a < u.length
        · have e1 : run (fun d => d != 10) (u ++ 32 :: v) a = run (fun d => d != 10) u a := by
            refine run_at (run (fun d => d != 10) u a - a) a _ (by omega) (fun k d h1 h2 h3 => ?_) (by omega) (fun d h1 => ?_)
            · rw [List.getElem?_append_left (by omega)] at h3
              exact run_in (p := fun d => d != 10) (l := u) (u.length - a) a (by omega) k d h1 h2 h3
            · rw [List.getElem?_append_left hb] at h1
              exact run_out (u.length - a) a (by omega) d h1
          rw [e1]
          exact ih _ (by omega) (by omega)
        · have e0 : run (fun d => d != 10) u a = u.length := by omega
          have e1 : run (fun d => d != 10) (u ++ 32 :: v) a = run (fun d => d != 10) v 0 + (u.length + 1) := by
            refine run_at (run (fun d => d != 10) v 0 + (u.length + 1) - a) a _ (by omega) (fun k d h1 h2 h3 => ?_) (by have := run_le (p := fun d => d != 10) (l := v) (i := 0) (Nat.zero_le _); omega) (fun d h1 => ?_)
            · by_cases k1 : k < u.length
              · rw [List.getElem?_append_left k1] at h3
                exact run_in (p := fun d => d != 10) (l := u) (u.length - a) a (by omega) k d h1 (by omega) h3
              · by_cases k2 : k = u.length
                · subst k2
                  rw [g32] at h3
                  cases h3
                  rfl
                · rw [show k = (u.length + 1) + (k - (u.length + 1)) by omega, ← List.getElem?_drop, ev] at h3
                  exact run_in (p := fun d => d != 10) (l := v) v.length 0 (by omega) _ d (Nat.zero_le _) (by omega) h3
            · rw [Nat.add_comm, ← List.getElem?_drop, ev] at h1
              exact run_out v.length 0 (by omega) d h1
          have r5 := run_le (p := fun d => d != 10) (l := v) (i := 0) (Nat.zero_le _)
          rw [e1, mvd _ r5]
          have hb2 : v[run (fun d => d != 10) v 0]? = some 10 ∨ run (fun d => d != 10) v 0 = v.length := by
            by_cases k : run (fun d => d != 10) v 0 < v.length
            · have g := List.getElem?_eq_getElem k
              have o := run_out v.length 0 (by omega) _ g
              left
              rw [g]
              simpa using o
            · right
              omega
          have sp := toks_split (l := v) (m := run (fun d => d != 10) v 0) (e := v.length) (Nat.le_refl _) r5 (.inr hb2) v.length 0 (by omega) (Nat.zero_le _)
          rw [sp, List.length_append]
          omega
      · have hx : (tokC (u ++ 32 :: v) a c).2.2 ≤ u.length := by
          unfold tokC
          by_cases h1 : isL c = true
          · rw [if_pos h1]
            exact run_side rfl (by omega)
          · rw [if_neg h1]
            by_cases h2 : isD c = true
            · rw [if_pos h2]
              exact run_side rfl (by omega)
            · rw [if_neg h2]
              by_cases h3 : ((u ++ 32 :: v).drop a).take 2 = [61, 61]
              · rw [if_pos h3]
                show a + 2 ≤ u.length
                by_cases k : a + 1 < u.length
                · omega
                · have : a + 1 = u.length := by omega
                  have g : (((u ++ 32 :: v).drop a).take 2)[1]? = some 32 := by
                    rw [get_take (by decide), List.getElem?_drop, this]
                    exact g32
                  rw [h3] at g
                  cases g
              · rw [if_neg h3]
                show a + 1 ≤ u.length
                omega
        have ct := cut_tok hg2 hx (by omega)
        rw [eu] at ct
        have t1 := tok_end hg
        rw [toks_tok (Nat.le_refl _) (by omega) hg2 b1 b2, toks_tok (Nat.le_refl _) hal hg b1 b2, ← ct, List.length_cons, List.length_cons]
        have := ih (tokC u a c).2.2 (by omega) t1.2
        omega
/-! ### the reading of a whole text -/
def endR (S : Src) (t : D) (a : Nat) : Rs D := if a < S.n then S.fail a else .ok t a
def fullB (S : Src) (b : Nat) (a : Nat) : Rs D := (S.itemR (valB S b 0) a).bind (endR S)
section
variable {S S' : Src} {m N : Nat}
theorem rg_end (P : Pre S S' m) (t : D) : Rg S S' m N (endR S t) (endR S' t) := by
  refine ⟨fun a ha hn => ?_, fun a ha hn => ?_, fun hn => ?_⟩
  · have := P.le
    unfold endR
    rw [if_pos (by omega), if_pos (by rw [P.n]; exact ha)]
    exact .inl ⟨a, Nat.le_refl _, ha, .inr ⟨rfl, rfl⟩⟩
  · unfold endR
    split
    · exact ⟨a, Nat.le_refl _, .inr rfl⟩
    · exact ⟨a, Nat.le_refl _, .inl ⟨t, rfl⟩⟩
  · unfold endR
    rw [if_neg (by rw [P.n]; omega)]
    exact .inl ⟨t, rfl⟩
theorem rg_full (P : Pre S S' m) {b : Nat} (hb : N + 160 ≤ b) : Rg S S' m N (fullB S b) (fullB S' b) := Rg.bind (rg_item P ((rg_all P b).1 0 N (by decide) (by omega))) fun t => rg_end P t
end
/-- where reading a text fails -/
def plc (S : Src) (b : Nat) : Option (Nat × Nat) := match fullB S b 0 with
  | .no s e => some (s, e)
  | _ => none
/-- tokens stand in order -/
def Ord (ts : List Tok) : Prop := (∀ x ∈ ts, x.2.1 < x.2.2) ∧ ∀ (i j : Nat) (x y : Tok), ts[i]? = some x → ts[j]? = some y → i < j → x.2.2 ≤ y.2.1
theorem toks_ord (l : List Nat) : Ord (toks l 0 l.length) := by
  refine ⟨fun x hx => (toks_in (Nat.le_refl _) l.length 0 (by omega) x hx).2.2.1, fun i j x y hx hy hij => ?_⟩
  obtain ⟨_, _, g3, _⟩ := toks_cut (l := l) l.length 0 (by omega) i x hx
  have hy2 : (toks l x.2.2 l.length)[j - (i + 1)]? = some y := by
    rw [g3, List.getElem?_drop, show i + 1 + (j - (i + 1)) = j by omega]
    exact hy
  exact (toks_in (Nat.le_refl _) l.length x.2.2 (by omega) y (List.mem_of_getElem? hy2)).1
section
variable {S S' : Src} {m N b : Nat}
theorem fp_at {S : Src} {k : Nat} {x : Tok} (h : S.ts[k]? = some x) : S.fp k = (x.2.1, x.2.2) := by unfold Src.fp; rw [h]
theorem fp_end {S : Src} {k : Nat} {x : Tok} (h : S.n ≤ k) (hl : S.ts.getLast? = some x) : S.fp k = (x.2.2, x.2.2) := by unfold Src.fp; rw [none_end h, hl]
theorem fp_inj (o : Ord S.ts) {i j : Nat} {x : Tok} (hi : S.ts[i]? = some x) (h : S.fp j = (x.2.1, x.2.2)) : j = i := by
  have hx := o.1 x (List.mem_of_getElem? hi)
  by_cases hj : j < S.n
  · obtain ⟨y, hy⟩ : ∃ y, S.ts[j]? = some y := ⟨_, List.getElem?_eq_getElem (show j < S.ts.length from hj)⟩
    rw [fp_at hy] at h
    injection h with h1 h2
    have hy1 := o.1 y (List.mem_of_getElem? hy)
    by_cases h3 : j < i
    · have := o.2 j i y x hy hi h3
      omega
    · by_cases h4 : i < j
      · have := o.2 i j x y hi hy h4
        omega
      · omega
  · have hne : S.ts ≠ [] := fun e => by rw [e] at hi; simp at hi
    obtain ⟨z, hz⟩ := Option.isSome_iff_exists.mp (List.getLast?_isSome.mpr hne)
    rw [fp_end (by omega) hz] at h
    injection h with h1 h2
    omega
theorem pre_refl (S : Src) : Pre S S S.n := ⟨Nat.le_refl _, rfl, fun _ _ => rfl, fun _ _ => rfl⟩
/-- it is never undefined -/
theorem full_mo (hb : N + 160 ≤ b) (hn : S.n ≤ N) : Mo S 0 (fullB S b 0) := (rg_full (pre_refl S) hb).mo (a := 0) (by omega)
theorem plc_some {s e : Nat} (hb : N + 160 ≤ b) (hn : S.n ≤ N) (h : plc S b = some (s, e)) : ∃ k, fullB S b 0 = S.fail k ∧ S.fp k = (s, e) := by
  obtain ⟨k, _, ⟨x, hx⟩ | hx⟩ := full_mo (S := S) hb hn
  · unfold plc at h
    rw [hx] at h
    cases h
  · refine ⟨k, hx, ?_⟩
    unfold plc at h
    rw [hx] at h
    exact Option.some.inj h
/-- with the tokens ahead of the wrong one -/
theorem plc_before (P : Pre S S' m) (o : Ord S.ts) (hm : 0 < m) {x z : Tok} (hx : S.ts[m]? = some x) (hz : S'.ts.getLast? = some z) (hb : N + 160 ≤ b) (hn : S.n ≤ N) (h : plc S b = some (x.2.1, x.2.2)) : plc S' b = none ∨ plc S' b = some (z.2.2, z.2.2) := by
  obtain ⟨k, h1, h2⟩ := plc_some hb hn h
  have hk := fp_inj o hx h2
  subst hk
  rcases (rg_full P hb).lt 0 hm (by omega) with ⟨j, _, h3, ⟨y, h4, _⟩ | ⟨h4, _⟩⟩ | ⟨j, _, _, _, ⟨y, h4⟩ | h4⟩
  · rw [h1] at h4
    cases h4
  · rw [h1] at h4
    have e : S.fp k = S.fp j := by
      unfold Src.fail at h4
      injection h4 with a1 a2
      exact Prod.ext a1 a2
    have := fp_inj o hx (e.symm.trans (fp_at hx))
    omega
  · left
    unfold plc
    rw [h4]
  · right
    unfold plc
    rw [h4]
    show some ((S'.fp k).1, (S'.fp k).2) = _
    rw [fp_end (Nat.le_of_eq P.n) hz]
/-- with the wrong token the last one -/
theorem plc_with (P : Pre S S' (m + 1)) (o : Ord S.ts) {x : Tok} (hx : S.ts[m]? = some x) (hb : N + 160 ≤ b) (hn : S.n ≤ N) (h : plc S b = some (x.2.1, x.2.2)) : plc S' b = some (x.2.1, x.2.2) := by
  obtain ⟨k, h1, h2⟩ := plc_some hb hn h
  have hk := fp_inj o hx h2
  subst hk
  have inj : ∀ j, (S.fail k : Rs D) = S.fail j → j = k := fun j h4 => by
    have e : S.fp k = S.fp j := by
      unfold Src.fail at h4
      injection h4 with a1 a2
      exact Prod.ext a1 a2
    exact fp_inj o hx (e.symm.trans (fp_at hx))
  rcases (rg_full P hb).lt 0 (by omega) (by omega) with ⟨j, _, h3, ⟨y, h4, _⟩ | ⟨h4, h5⟩⟩ | ⟨j, h3, _, ⟨y, h4⟩ | h4, _⟩
  · rw [h1] at h4
    cases h4
  · rw [h1] at h4
    have := inj j h4
    subst this
    unfold plc
    rw [h5]
    show some ((S'.fp j).1, (S'.fp j).2) = _
    rw [P.fp (by omega), fp_at hx]
  · rw [h1] at h4
    cases h4
  · rw [h1] at h4
    have := inj j h4
    omega
end
end Sn

namespace Sn
open PySem PySem.Spec PyProof.Rows L2 TL
/-! ### the text -/
def topS (i : Nat) : Stmt := PySem.Challenge.pw_samenames_k10_first_wrong_token.main.body.getD i (.Pass ⟨0, 0, 0, 0⟩)
/-- the built-in names that stand as they are -/
structure Nm (mg : Str → Option Value) : Prop where
  abs : mg "abs" = none
  int_ : mg "int" = none
  len : mg "len" = none
  range : mg "range" = none
  isinstance : mg "isinstance" = none
  bool_ : mg "bool" = none
  str_ : mg "str" = none
  tuple_ : mg "tuple" = none
  list_ : mg "list" = none
section
variable {P : Program} {w : World} {K : PySem.W.Frag} {mg : Str → Option Value} {base : Heap} {f : Addr} {fd : FuncData}
abbrev s_tape : Stmt := topS 28
abbrev N_tape : List Str := ["script", "cell", "cells", "seed"]
theorem sc_tape : FnScope N_tape ["script"] (defScope s_tape) := ⟨rfl, rfl, rfl, by decide +kernel, rfl, by decide +kernel, by decide +kernel⟩
theorem nonneg_abs (i : Int) : 0 ≤ (if i < 0 then -i else i) := by
  split <;> omega
theorem ok_tape (F : Fun K "_law_tape" "_law_tape" s_tape f fd) (T : Nm mg) : FnOk P w K mg base CX0 1 f fd ["script"] (spTape K) := by
  refine F.ok sc_tape (fun vs H Q E h => ?_) (fun cdv A outer s H vs Q E hr h => ?_)
  · obtain ⟨a, ns, rfl, _⟩ := h
    rfl
  obtain ⟨a, ns, rfl, hS, hl, q⟩ := h
  refine ⟨_, (pss_cons (ps_setLc (i := 2) (own := [(("cell" : Str), 1)]) (g := (gName 1)) (tt := tYes) (by rfl) sc_tape.nd rfl rfl (sw_true rfl rfl rfl (by decide +kernel)) (pi_list (pv 0)) (blkOk_by (N := N_tape) (sc := defScope s_tape) (by decide +kernel)) (fun _ _ _ _ _ => (pg_name (i := 1) sc_tape.nd rfl (Or.inl rfl))) (fun _ _ _ _ _ => pts_nil) (fun _ _ _ _ _ => (pe_callB call_abs (by rfl) T.abs (by decide +kernel) (pa_cons (pe_callTy call_int1 (by rfl) T.int_ (by decide +kernel) (pa_cons (pv 1) pa_nil)) pa_nil))))
    (pss_cons (ps_set (i := 3) sc_tape.nd rfl (Or.inl rfl) pe_int)
    (pss_cons (ps_for PassesOwn.never rfl (pi_list (pv 2)) (pg_name (i := 1) sc_tape.nd rfl (Or.inl rfl)) (pss_one (ps_set (i := 3) sc_tape.nd rfl (Or.inl rfl) (pe_op op_mod (pe_callTy call_int1 (by rfl) T.int_ (by decide +kernel) (pa_cons (pe_op op_add (pe_op op_mul (pv 3) pe_int) (pv 1)) pa_nil)) pe_int))))
    (pss_one (ps_ret (pe_disp (pps_cons pe_str (pv 2) (pps_cons pe_str pe_int (pps_cons pe_str pe_int (pps_cons pe_str (pv 3) (pps_cons pe_str pe_int pps_nil))))) (by rfl) (by rfl) (fun z => by cases z) (by decide))))))), ?_⟩
  -- cells
  refine ⟨_, rfl, a, rfl, ⟨_, hS⟩, fun D hD => ?_⟩
  have s1 : Same H (upd H D (.lst [])) := same_new hD
  refine lc_list (K := K) (a := a) (xs := ns.map V.int) (fun i H' => Same H H' ∧ ∃ cs : List Int, H' D = some (.lst (cs.map V.int)) ∧ cs.length = i ∧ ∀ x ∈ cs, 0 ≤ x)
    ⟨s1, [], upd_same, rfl, fun _ h => nomatch h⟩ (fun i H' _ h => h.1.seq hS) ?_ ?_
  · rintro i x H' hi ⟨sm, cs, hd, hc, hp⟩
    obtain ⟨u, rfl⟩ : ∃ u, x = V.int u := by
      rw [List.getElem?_map] at hi
      cases e : ns[i]? with
      | none => rw [e] at hi; cases hi
      | some u => rw [e] at hi; exact ⟨u, (Option.some.inj hi).symm⟩
    have hi2 : i < ns.length := by
      have z := (List.getElem?_eq_some_iff.mp hi).1
      rwa [List.length_map] at z
    refine ⟨rfl, ?_⟩
    refine ⟨_, rfl, .inl ⟨_, rfl, _, rfl, cs.map V.int, hd, ?_, ?_⟩⟩
    · rw [List.length_map]; exact Nat.lt_of_lt_of_le (show cs.length < 1000 by omega) (by decide)
    · refine ⟨fun b o e => ?_, cs ++ [if u < 0 then -u else u], ?_, by simp [hc], fun y hy => ?_⟩
      · rw [upd_ne (ne_of_none e hD)]; exact sm _ _ e
      · rw [upd_same, List.map_append] <;> rfl
      · rcases List.mem_append.mp hy with hy | hy
        · exact hp y hy
        · rw [List.mem_singleton.mp hy]; exact nonneg_abs u
  · rintro H1 ⟨sm, cs, hd, hc, hp⟩
    -- seed
    refine ⟨_, rfl, D, rfl, ⟨_, .inl (.inl hd)⟩, for_list (K := K) (a := D) (xs := cs.map V.int) (fun i σ H' => ∃ (v : Option V) (se : Int), σ = [some (.ref a), v, some (.ref D), some (.int se)] ∧ H' = H1 ∧ 0 ≤ se ∧ se < 2147483647)
      ⟨none, 7, rfl, rfl, by decide, by decide⟩ (fun i σ H' _ ⟨_, _, _, e, _⟩ => by rw [e]; exact .inl (.inl hd)) ?_ ?_⟩
    · rintro i x σ H' hi ⟨v, se, rfl, rfl, h0, h1⟩
      obtain ⟨u, rfl⟩ : ∃ u, x = V.int u := by
        rw [List.getElem?_map] at hi
        cases e : cs[i]? with
        | none => rw [e] at hi; cases hi
        | some u => rw [e] at hi; exact ⟨u, (Option.some.inj hi).symm⟩
      refine ⟨_, rfl, _, _, rfl, rfl, .inr ⟨by decide, by decide⟩, _, rfl, _, _, rfl, rfl, .inl ⟨_, rfl, _, _, rfl, rfl, (by show (0 : Int) < 2147483647; decide), ?_⟩⟩
      exact ⟨_, _, rfl, rfl, Int.emod_nonneg _ (by decide), Int.emod_lt_of_pos _ (by decide)⟩
    · rintro σ H' ⟨v, se, rfl, rfl, h0, h1⟩
      -- the dict
      intro t ht
      have hDt : D ≠ t := ne_of_none hd ht
      refine ⟨_, rfl, ?_⟩
      refine ⟨_, rfl, ?_⟩
      refine ⟨upd_same, tk D 0 0 se 0, rfl, (by show 5 ≤ 15; decide), ?_⟩
      rw [upd_upd]
      have e : mergeK [] (tk D 0 0 se 0) = tk D 0 0 se 0 := by kernel_rfl
      rw [e]
      exact q t D _ (fun b o z => by rw [upd_ne (ne_of_none (sm _ _ z) ht)]; exact sm _ _ z) (sm.free ht) hD
        ⟨cs, 0, 0, se, 0, upd_same, by rw [upd_ne hDt]; exact hd, hp, by decide, by decide, h0, h1⟩

abbrev s_take : Stmt := topS 29
abbrev N_take : List Str := ["tape", "many", "drawn", "mixed"]
theorem sc_take : FnScope N_take ["tape", "many"] (defScope s_take) := ⟨rfl, rfl, rfl, by decide +kernel, rfl, by decide +kernel, by decide +kernel⟩
theorem ok_take (F : Fun K "_law_take" "_law_take" s_take f fd) (T : Nm mg) : FnOk P w K mg base CX0 1 f fd ["tape", "many"] spTake := by
  refine F.ok sc_take (fun vs H Q E h => ?_) (fun cdv A outer s H vs Q E hr h => ?_)
  · obtain ⟨t, c, n, rfl, _⟩ := h
    rfl
  obtain ⟨t, c, n, rfl, ⟨cs, a, l, se, sa, z⟩, hn, hn2, q⟩ := h
  refine ⟨_, (C8.pss_cut (ps_if (PW.pt (pw_and (pt_cmpR op_eq (pe_dget (hu_of hr) (pv 0) pe_str (fun _ _ => rfl)) pe_int (nomark _)) (pw_and1 (pt_cmpR op_lt (pe_dget (hu_of hr) (pv 0) pe_str (fun _ _ => rfl)) (pe_callB call_len_seq (by rfl) T.len PySem.boot_len (pa_cons (pe_dget (hu_of hr) (pv 0) pe_str (fun _ _ => rfl)) pa_nil)) (nomark _))))) (pss_cons (ps_dput (hu_of hr) (pv 0) pe_str (pe_ix (r := rIxL K) ix_list (pe_dget (hu_of hr) (pv 0) pe_str (fun _ _ => rfl)) (pe_dget (hu_of hr) (pv 0) pe_str (fun _ _ => rfl)) (fun _ _ => rfl)) rfl)
    (pss_one (ps_dput (hu_of hr) (pv 0) pe_str (pe_op op_add (pe_dget (hu_of hr) (pv 0) pe_str (fun _ _ => rfl)) pe_int) rfl))) pss_nil)
    (pss_cons (ps_if (pt_cmpR op_gt (pe_dget (hu_of hr) (pv 0) pe_str (fun _ _ => rfl)) pe_int (nomark _)) (pss_cons (ps_set (i := 2) sc_take.nd rfl (Or.inl rfl) (pe_op op_mod (pe_callTy call_int1 (by rfl) T.int_ (by decide +kernel) (pa_cons (pe_dget (hu_of hr) (pv 0) pe_str (fun _ _ => rfl)) pa_nil)) (pv 1)))
    (pss_cons (ps_dput (hu_of hr) (pv 0) pe_str (pe_op op_fdiv (pe_dget (hu_of hr) (pv 0) pe_str (fun _ _ => rfl)) (pv 1)) rfl)
    (pss_one (ps_ret (pv 2))))) pss_nil)
    (pss_cons (ps_dput (hu_of hr) (pv 0) pe_str (pe_op op_add (pe_dget (hu_of hr) (pv 0) pe_str (fun _ _ => rfl)) pe_int) rfl)
    (pss_cons (ps_set (i := 3) sc_take.nd rfl (Or.inl rfl) (pe_op op_mod (pe_callTy call_int1 (by rfl) T.int_ (by decide +kernel) (pa_cons (pe_op op_add (pe_op op_mul (pe_dget (hu_of hr) (pv 0) pe_str (fun _ _ => rfl)) pe_int) (pe_op op_mul (pe_dget (hu_of hr) (pv 0) pe_str (fun _ _ => rfl)) pe_int)) pa_nil)) pe_int))
    (pss_cons (ps_set (i := 3) sc_take.nd rfl (Or.inl rfl) (pe_op op_mod (pe_callTy call_int1 (by rfl) T.int_ (by decide +kernel) (pa_cons (pe_op op_add (pe_op op_add (pe_op op_mul (pv 3) (pv 3)) (pe_op op_mul (pe_dget (hu_of hr) (pv 0) pe_str (fun _ _ => rfl)) pe_int)) pe_int) pa_nil)) pe_int))
    (pss_one (ps_ret (pe_op op_mod (pe_callTy call_int1 (by rfl) T.int_ (by decide +kernel) (pa_cons (pv 3) pa_nil)) (pv 1))))))))), ?_⟩
  -- if tape['left'] == 0 and tape['at'] < len(tape['cells'])
  refine ⟨fun σ H' => σ = L2.start N_take [.ref t, .int n] ∧ ∃ a l, But t H H' ∧ TkAt H' t c cs a l se sa, ?_, ?_⟩
  · refine ⟨_, rfl, t, _, rfl, z.dg g_left, rfl, _, rfl, ?_⟩
    refine ite2 (fun _ => ?_) (fun _ => iteF ⟨rfl, a, l, But.refl t H, z⟩)
    refine ⟨_, rfl, t, _, rfl, z.dg g_at, _, rfl, t, _, rfl, z.dg g_cells, c, _, rfl, .inl (.inl (.inl z.cl)), _, _, rfl, rfl, _, rfl, ?_⟩
    refine ite2 (fun ha => ?_) (fun _ => ⟨rfl, a, l, But.refl t H, z⟩)
    have ha : a < ((cs.map V.int).length : Int) := of_decide_eq_true ha
    rw [List.length_map] at ha
    have hj : a.toNat < cs.length := by have := z.a0; omega
    have ea : a = (a.toNat : Int) := by have := z.a0; omega
    have g1 : (cs.map V.int)[a.toNat]? = some (.int cs[a.toNat]) := by
      rw [List.getElem?_map, List.getElem?_eq_getElem hj] <;> rfl
    refine ⟨_, rfl, t, _, rfl, z.dg g_cells, _, rfl, t, _, rfl, z.dg g_at, c, _, _, _, rfl, rfl, .inl (.inl z.cl), at_of ea g1, _, rfl, t, _, rfl, z.pLeft, ?_⟩
    have z1 := z.sLeft (v := cs[a.toNat]) (z.cp _ (List.getElem_mem hj))
    refine ⟨_, rfl, t, _, rfl, z1.dg g_at, _, _, rfl, rfl, _, rfl, t, _, rfl, z1.pAt, ?_⟩
    exact ⟨rfl, _, _, ((But.refl t H).upd).upd, z1.sAt (by have := z.a0; omega)⟩
  rintro σ H1 ⟨rfl, a, l, bt, z⟩
  -- if tape['left'] > 0
  refine ⟨_, rfl, t, _, rfl, z.dg g_left, _, _, rfl, rfl, _, rfl, ?_⟩
  refine ite2 (fun hl => ?_) (fun _ => ?_)
  · have hl : 0 < l := of_decide_eq_true hl
    refine ⟨_, rfl, t, _, rfl, z.dg g_left, .inl ⟨_, rfl, _, rfl, _, _, rfl, rfl, hn, ?_⟩⟩
    refine ⟨_, rfl, t, _, rfl, z.dg g_left, _, rfl, _, _, rfl, rfl, ⟨hn, hn2⟩, _, rfl, t, _, rfl, z.pLeft, ?_⟩
    refine ⟨_, rfl, ?_⟩
    exact q _ _ (Int.emod_nonneg _ (by omega)) (Int.emod_lt_of_pos _ hn) bt.upd ⟨cs, a, _, se, sa, z.sLeft (Int.ediv_nonneg z.l0 (by omega))⟩
  · refine ⟨_, rfl, t, _, rfl, z.dg g_salt, _, _, rfl, rfl, _, rfl, t, _, rfl, z.pSalt, ?_⟩
    have z1 := z.sSalt (v := sa + 1)
    have b1 : But t H (upd H1 t (.dK (tk c a l se (sa + 1)))) := bt.upd
    generalize upd H1 t (.dK (tk c a l se (sa + 1))) = H2 at z1 b1 ⊢
    refine ⟨_, rfl, t, _, rfl, z1.dg g_seed, _, _, rfl, rfl, .inr ⟨by decide, by decide⟩, _, rfl, t, _, rfl, z1.dg g_salt, _, _, rfl, rfl, .inr ⟨by decide, by decide⟩, _, _, rfl, rfl, .inl ⟨_, rfl, _, _, rfl, rfl, (by show (0 : Int) < 2147483647; decide), ?_⟩⟩
    have hm := Int.emod_lt_of_pos (se * 48271 + (sa + 1) * 69621) (show (0 : Int) < 2147483647 by decide)
    have hm0 := Int.emod_nonneg (se * 48271 + (sa + 1) * 69621) (show (2147483647 : Int) ≠ 0 by decide)
    generalize (se * 48271 + (sa + 1) * 69621) % 2147483647 = mx at hm hm0 ⊢
    refine ⟨_, rfl, _, rfl, _, _, rfl, rfl, .inl ⟨by omega, by omega⟩, _, rfl, t, _, rfl, z1.dg g_salt, _, _, rfl, rfl, .inr ⟨by decide, by decide⟩, _, _, rfl, rfl, _, _, rfl, rfl, .inl ⟨_, rfl, _, _, rfl, rfl, (by show (0 : Int) < 2147483399; decide), ?_⟩⟩
    refine ⟨_, rfl, .inl ⟨_, rfl, _, rfl, _, _, rfl, rfl, hn, ?_⟩⟩
    exact q _ _ (Int.emod_nonneg _ (by omega)) (Int.emod_lt_of_pos _ hn) b1 ⟨cs, a, l, se, _, z1⟩

abbrev s_isInt : Stmt := topS 30
abbrev N_isInt : List Str := ["actual"]
theorem sc_isInt : FnScope N_isInt ["actual"] (defScope s_isInt) := ⟨rfl, rfl, rfl, by decide +kernel, rfl, by decide +kernel, by decide +kernel⟩
theorem ok_isInt (F : Fun K "_law_is_integer" "_law_is_integer" s_isInt f fd) (T : Nm mg) : FnOk P w K mg base CX0 1 f fd ["actual"] spIsInt := by
  refine F.ok sc_isInt (fun vs H Q E h => ?_) (fun cdv A outer s H vs Q E hr h => ?_)
  · obtain ⟨i, rfl, _⟩ := h
    rfl
  obtain ⟨i, rfl, q⟩ := h
  refine ⟨_, (pss_one (ps_ret (pe_and (pe_callB call_isi (by rfl) T.isinstance (by decide +kernel) (pa_cons (pv 0) (pa_cons (pe_bltn (v := .ty "int") (u := .type "int") (by rfl) T.int_ (by decide +kernel) rfl) pa_nil))) (pe_one (pe_not (pe_callB call_isi (by rfl) T.isinstance (by decide +kernel) (pa_cons (pv 0) (pa_cons (pe_bltn (v := .ty "bool") (u := .type "bool") (by rfl) T.bool_ (by decide +kernel) rfl) pa_nil)))))))), ?_⟩
  refine ⟨_, rfl, _, _, _, _, true, rfl, .ty _, .base (.int _), kit_ty (by decide +kernel), _, rfl, ?_⟩
  refine ⟨_, rfl, _, _, _, _, false, rfl, .ty _, .base (.int _), kit_ty (by decide +kernel), _, rfl, q⟩

abbrev s_sameItems : Stmt := topS 31
abbrev N_sameItems : List Str := ["actual", "expected", "k"]
theorem sc_sameItems : FnScope N_sameItems ["actual", "expected"] (defScope s_sameItems) := ⟨rfl, rfl, rfl, by decide +kernel, rfl, by decide +kernel, by decide +kernel⟩
theorem ok_items {n : Nat} (F : Fun K "_law_same_items" "_law_same_items" s_sameItems f fd) (T : Nm mg) (C_law_same : Cal P w K mg base CX0 (2 * n) "_law_same" (spSame n)) : FnOk P w K mg base CX0 (2 * n + 1) f fd ["actual", "expected"] (spItems n) := by
  refine F.ok sc_sameItems (fun vs H Q E h => ?_) (fun cdv A outer s H vs Q E hr h => ?_)
  · obtain ⟨a, b, xs, ys, rfl, _⟩ := h
    rfl
  obtain ⟨a, b, xs, ys, rfl, hs, hl, hm, al, q⟩ := h
  have sa : SqL K H a xs ∨ SqT K H a xs := hs.elim (fun h => .inr (.inl (.inl h.1))) fun h => .inl (.inl (.inl h.1))
  have sb : SqL K H b ys ∨ SqT K H b ys := hs.elim (fun h => .inr (.inl (.inl h.2))) fun h => .inl (.inl (.inl h.2))
  refine ⟨_, (pss_cons (ps_if (pt_cmpR op_ne (pe_callB call_len_seq (by rfl) T.len PySem.boot_len (pa_cons (pv 0) pa_nil)) (pe_callB call_len_seq (by rfl) T.len PySem.boot_len (pa_cons (pv 1) pa_nil)) (nomark _)) (pss_one (ps_ret pe_bl)) pss_nil)
    (pss_cons (ps_for PassesOwn.never rfl (pi_range1 (by rfl) T.range (pa_cons (pe_callB call_len_seq (by rfl) T.len PySem.boot_len (pa_cons (pv 1) pa_nil)) pa_nil)) (pg_name (i := 2) sc_sameItems.nd rfl (Or.inl rfl)) (pss_one (ps_if (pt_not (pt_val (pe_c C_law_same hr (by first | decide | omega) pass0 (pa_cons (pe_ix (r := rIx K) ix_seq (pv 0) (pv 2) (fun _ _ => rfl)) (pa_cons (pe_ix (r := rIx K) ix_seq (pv 1) (pv 2) (fun _ _ => rfl)) pa_nil))))) (pss_one (ps_ret pe_bl)) pss_nil)))
    (pss_one (ps_ret pe_bl)))), ?_⟩
  refine ⟨_, rfl, a, xs, rfl, sa, _, rfl, b, ys, rfl, sb, rfl, _, rfl, ?_⟩
  refine iteNS (by rw [hl]) ?_
  refine ⟨_, rfl, b, ys, rfl, sb, _, rfl, by omega, by omega, for_range (lo := 0) (n := ((ys.length : Nat) : Int).toNat) (fun i σ H' => H' = H ∧ ∃ v, σ = [some (.ref a), some (.ref b), v]) ⟨rfl, none, rfl⟩ ?_ ?_⟩
  · rintro i σ H' hi ⟨rfl, v, rfl⟩
    have hi1 : i < ys.length := by omega
    have hi2 : i < xs.length := by omega
    have ei : ((0 : Int) + (i : Nat)) = ((i : Nat) : Int) := Int.zero_add _
    have g1 := List.getElem?_eq_getElem hi2
    have g2 := List.getElem?_eq_getElem hi1
    refine ⟨_, rfl, _, rfl, ?_⟩
    have r1 : ∀ {Q' : VK}, Q' xs[i] H' → rIx K (.ref a) (.int (0 + (i : Nat))) H' Q' := fun {Q'} h => sa.elim (fun s => .inl ⟨a, xs, _, _, rfl, rfl, s, at_of ei g1, h⟩) fun s => .inr (.inl ⟨a, xs, _, _, rfl, rfl, s, at_of ei g1, h⟩)
    have r2 : ∀ {Q' : VK}, Q' ys[i] H' → rIx K (.ref b) (.int (0 + (i : Nat))) H' Q' := fun {Q'} h => sb.elim (fun s => .inl ⟨b, ys, _, _, rfl, rfl, s, at_of ei g2, h⟩) fun s => .inr (.inl ⟨b, ys, _, _, rfl, rfl, s, at_of ei g2, h⟩)
    refine r1 ⟨_, rfl, _, rfl, r2 ?_⟩
    refine ⟨_, _, rfl, al i _ _ g1 g2, _, rfl, ?_⟩
    exact ⟨rfl, _, rfl⟩
  · rintro σ H' ⟨rfl, v, rfl⟩
    exact q

abbrev s_same : Stmt := topS 32
abbrev N_same : List Str := ["actual", "expected", "key"]
theorem sc_same : FnScope N_same ["actual", "expected"] (defScope s_same) := ⟨rfl, rfl, rfl, by decide +kernel, rfl, by decide +kernel, by decide +kernel⟩
theorem ok_same {n : Nat} (F : Fun K "_law_same" "_law_same" s_same f fd) (T : Nm mg) (C_law_is_integer : Cal P w K mg base CX0 1 "_law_is_integer" spIsInt) (C_law_same_items : Cal P w K mg base CX0 (2 * n + 1) "_law_same_items" (spItems n)) :
    FnOk P w K mg base CX0 (2 * n + 2) f fd ["actual", "expected"] (spSame (n + 1)) := by
  refine F.ok sc_same (fun vs H Q E h => ?_) (fun cdv A outer s H vs Q E hr h => ?_)
  · obtain ⟨x, y, rfl, _⟩ := h
    rfl
  obtain ⟨x, y, rfl, al, q⟩ := h
  refine ⟨_, (pss_cons (ps_if (pt_cmpR op_isN (pv 1) pe_non (nomark _)) (pss_one (ps_ret (pe_cmpR op_isN (pv 0) pe_non (nomark _)))) pss_nil)
    (pss_cons (ps_if (pt_val (pe_callB call_isi (by rfl) T.isinstance (by decide +kernel) (pa_cons (pv 1) (pa_cons (pe_bltn (v := .ty "bool") (u := .type "bool") (by rfl) T.bool_ (by decide +kernel) rfl) pa_nil)))) (pss_one (ps_ret (pe_and (pe_callB call_isi (by rfl) T.isinstance (by decide +kernel) (pa_cons (pv 0) (pa_cons (pe_bltn (v := .ty "bool") (u := .type "bool") (by rfl) T.bool_ (by decide +kernel) rfl) pa_nil))) (pe_one (pe_cmpR op_eq (pv 0) (pv 1) (nomark _)))))) pss_nil)
    (pss_cons (ps_if (pt_val (pe_callB call_isi (by rfl) T.isinstance (by decide +kernel) (pa_cons (pv 1) (pa_cons (pe_bltn (v := .ty "int") (u := .type "int") (by rfl) T.int_ (by decide +kernel) rfl) pa_nil)))) (pss_one (ps_ret (pe_and (pe_c C_law_is_integer hr (by first | decide | omega) pass0 (pa_cons (pv 0) pa_nil)) (pe_one (pe_cmpR op_eq (pv 0) (pv 1) (nomark _)))))) pss_nil)
    (pss_cons (ps_if (pt_val (pe_callB call_isi (by rfl) T.isinstance (by decide +kernel) (pa_cons (pv 1) (pa_cons (pe_bltn (v := .ty "str") (u := .type "str") (by rfl) T.str_ (by decide +kernel) rfl) pa_nil)))) (pss_one (ps_ret (pe_and (pe_callB call_isi (by rfl) T.isinstance (by decide +kernel) (pa_cons (pv 0) (pa_cons (pe_bltn (v := .ty "str") (u := .type "str") (by rfl) T.str_ (by decide +kernel) rfl) pa_nil))) (pe_one (pe_cmpR op_eq (pv 0) (pv 1) (nomark _)))))) pss_nil)
    (pss_cons (ps_if (pt_val (pe_callB call_isi (by rfl) T.isinstance (by decide +kernel) (pa_cons (pv 1) (pa_cons (pe_bltn (v := .ty "tuple") (u := .type "tuple") (by rfl) T.tuple_ (by decide +kernel) rfl) pa_nil)))) (pss_one (ps_ret (pe_and (pe_callB call_isi (by rfl) T.isinstance (by decide +kernel) (pa_cons (pv 0) (pa_cons (pe_bltn (v := .ty "tuple") (u := .type "tuple") (by rfl) T.tuple_ (by decide +kernel) rfl) pa_nil))) (pe_one (pe_c C_law_same_items hr (by first | decide | omega) pass0 (pa_cons (pv 0) (pa_cons (pv 1) pa_nil))))))) pss_nil)
    (pss_cons (ps_if (pt_val (pe_callB call_isi (by rfl) T.isinstance (by decide +kernel) (pa_cons (pv 1) (pa_cons (pe_bltn (v := .ty "list") (u := .type "list") (by rfl) T.list_ (by decide +kernel) rfl) pa_nil)))) (pss_one (ps_ret (pe_and (pe_callB call_isi (by rfl) T.isinstance (by decide +kernel) (pa_cons (pv 0) (pa_cons (pe_bltn (v := .ty "list") (u := .type "list") (by rfl) T.list_ (by decide +kernel) rfl) pa_nil))) (pe_one (pe_c C_law_same_items hr (by first | decide | omega) pass0 (pa_cons (pv 0) (pa_cons (pv 1) pa_nil))))))) pss_nil)
    (pss_cons ps_never
    (pss_cons ps_never
    (pss_cons ps_never
    (pss_one ps_never)))))))))), ?_⟩
  rcases al with ⟨rfl, hx⟩ | ⟨a, b, xs, ys, rfl, rfl, ha, hb, hl, hm, al⟩ | ⟨a, b, xs, ys, rfl, rfl, ha, hb, hl, hm, al⟩
  · cases x with
    | non => exact ⟨_, rfl, rfl, _, rfl, iteP rfl ⟨_, rfl, rfl, qP rfl q⟩⟩
    | bl k =>
      refine ⟨_, rfl, rfl, _, rfl, iteN (fun z => nomatch z) ?_⟩
      refine ⟨_, rfl, _, _, _, _, true, rfl, .ty _, .base (.bl _), kit_ty (by decide +kernel), _, rfl, ?_⟩
      refine ⟨_, rfl, _, _, _, _, true, rfl, .ty _, .base (.bl _), kit_ty (by decide +kernel), _, rfl, ?_⟩
      exact ⟨_, rfl, _, rfl, rfl, qP rfl q⟩
    | int i =>
      refine ⟨_, rfl, rfl, _, rfl, iteN (fun z => nomatch z) ?_⟩
      refine ⟨_, rfl, _, _, _, _, false, rfl, .ty _, .base (.int _), kit_ty (by decide +kernel), _, rfl, ?_⟩
      refine ⟨_, rfl, _, _, _, _, true, rfl, .ty _, .base (.int _), kit_ty (by decide +kernel), _, rfl, ?_⟩
      refine ⟨_, rfl, i, rfl, _, rfl, ?_⟩
      exact ⟨_, rfl, _, rfl, rfl, qP rfl q⟩
    | str z =>
      refine ⟨_, rfl, rfl, _, rfl, iteN (fun z => nomatch z) ?_⟩
      refine ⟨_, rfl, _, _, _, _, false, rfl, .ty _, .base (.str _), kit_ty (by decide +kernel), _, rfl, ?_⟩
      refine ⟨_, rfl, _, _, _, _, false, rfl, .ty _, .base (.str _), kit_ty (by decide +kernel), _, rfl, ?_⟩
      refine ⟨_, rfl, _, _, _, _, true, rfl, .ty _, .base (.str _), kit_ty (by decide +kernel), _, rfl, ?_⟩
      refine ⟨_, rfl, _, _, _, _, true, rfl, .ty _, .base (.str _), kit_ty (by decide +kernel), _, rfl, ?_⟩
      exact ⟨_, rfl, _, rfl, rfl, qP rfl q⟩
    | byt z => cases hx
    | flt z => cases hx
    | ref z => cases hx
    | ty z => cases hx
  · refine ⟨_, rfl, rfl, _, rfl, iteN (fun z => nomatch z) ?_⟩
    refine ⟨_, rfl, _, _, _, _, false, rfl, .ty _, .base (.tup hb), kit_ty (by decide +kernel), _, rfl, ?_⟩
    refine ⟨_, rfl, _, _, _, _, false, rfl, .ty _, .base (.tup hb), kit_ty (by decide +kernel), _, rfl, ?_⟩
    refine ⟨_, rfl, _, _, _, _, false, rfl, .ty _, .base (.tup hb), kit_ty (by decide +kernel), _, rfl, ?_⟩
    refine ⟨_, rfl, _, _, _, _, true, rfl, .ty _, .base (.tup hb), kit_ty (by decide +kernel), _, rfl, ?_⟩
    refine ⟨_, rfl, _, _, _, _, true, rfl, .ty _, .base (.tup ha), kit_ty (by decide +kernel), _, rfl, ?_⟩
    exact ⟨_, rfl, _, rfl, a, b, xs, ys, rfl, .inl ⟨ha, hb⟩, hl, hm, al, q⟩
  · refine ⟨_, rfl, rfl, _, rfl, iteN (fun z => nomatch z) ?_⟩
    refine ⟨_, rfl, _, _, _, _, false, rfl, .ty _, .base (.lst hb), kit_ty (by decide +kernel), _, rfl, ?_⟩
    refine ⟨_, rfl, _, _, _, _, false, rfl, .ty _, .base (.lst hb), kit_ty (by decide +kernel), _, rfl, ?_⟩
    refine ⟨_, rfl, _, _, _, _, false, rfl, .ty _, .base (.lst hb), kit_ty (by decide +kernel), _, rfl, ?_⟩
    refine ⟨_, rfl, _, _, _, _, false, rfl, .ty _, .base (.lst hb), kit_ty (by decide +kernel), _, rfl, ?_⟩
    refine ⟨_, rfl, _, _, _, _, true, rfl, .ty _, .base (.lst hb), kit_ty (by decide +kernel), _, rfl, ?_⟩
    refine ⟨_, rfl, _, _, _, _, true, rfl, .ty _, .base (.lst ha), kit_ty (by decide +kernel), _, rfl, ?_⟩
    exact ⟨_, rfl, _, rfl, a, b, xs, ys, rfl, .inr ⟨ha, hb⟩, hl, hm, al, q⟩
theorem no_same0 : ∀ vs H Q E, ¬ spSame 0 vs H Q E := fun vs H Q E h => by
  obtain ⟨x, y, _, al, _⟩ := h
  exact al
/-- both, as deep as one likes -/
theorem both {f g : Addr} {fd gd : FuncData} (FS : Fun K "_law_same" "_law_same" s_same f fd) (bS : Binds K fd ["actual", "expected"] []) (mS : mg "_law_same" = some (.ref f)) (FI : Fun K "_law_same_items" "_law_same_items" s_sameItems g gd) (bI : Binds K gd ["actual", "expected"] []) (mI : mg "_law_same_items" = some (.ref g))
    (T : Nm mg) (C_law_is_integer : Cal P w K mg base CX0 1 "_law_is_integer" spIsInt) : ∀ n, Cal P w K mg base CX0 (2 * n) "_law_same" (spSame n)
  | 0 => ⟨f, fd, _, none_left no_same0, mS, FS.kp, bS⟩
  | n + 1 => ⟨f, fd, _, ok_same FS T C_law_is_integer ⟨g, gd, _, ok_items FI T (both FS bS mS FI bI mI T C_law_is_integer n), mI, FI.kp, bI⟩, mS, FS.kp, bS⟩

end

end Sn

namespace Sn
open PySem PySem.Spec PyProof.Rows L2 TL
/-! ### the program's tokens -/
structure Nm5 (K : PySem.W.Frag) (mg : Str → Option Value) (aW : Addr) (tS : PySem.Tok) : Prop extends Nm mg where
  g_WORDS : mg "WORDS" = some (.ref aW)
  wt : ∃ (o : Obj) (its : Array Value) (n : Nat), K.lookup aW = some o ∧ o.cls = .type "tuple" ∧ o.data = .seq its n ∧ its.size ≤ sizeLine ∧ Vals (wds.map V.str) its.toList
  g_SIGNS : mg "SIGNS" = some (.str "()[],:.=<+-*/" tS)
def spLet (p : Nat → Bool) : Sp := fun vs H Q _ => ∃ c : Nat, vs = [.str ⟨#[c]⟩] ∧ Q (.bl (p c)) H
def spRun (p : Nat → Bool) : Sp := fun vs H Q _ => ∃ (z : Str) (i : Nat), vs = [.str z, .int (i : Int)] ∧ i ≤ (tl z).length ∧ z.length ≤ 1000000 ∧ Q (.int ((run p (tl z) i : Nat) : Int)) H
def spTokAt : Sp := fun vs H Q _ => ∃ (z : Str) (i c : Nat), vs = [.str z, .int (i : Int)] ∧ (tl z)[i]? = some c ∧ z.length ≤ 1000000 ∧ ∀ p H', Same H H' → H p = none → H' p = some (.tup (tkV (tokC (tl z) i c))) → Q (.ref p) H'
def spBetween : Sp := fun vs H Q _ => ∃ (z : Str) (s e : Nat), vs = [.str z, .int (s : Int), .int (e : Int)] ∧ e ≤ (tl z).length ∧ z.length ≤ 1000000 ∧ ∀ p H', Same H H' → H p = none → LT H' p ((toks (tl z) s e).map tkV) → Q (.ref p) H'
def spTokens : Sp := fun vs H Q _ => ∃ z : Str, vs = [.str z] ∧ z.length ≤ 1000000 ∧ ∀ p H', Same H H' → H p = none → LT H' p ((toks (tl z) 0 (tl z).length).map tkV) → Q (.ref p) H'
theorem le_sg5 (a c : Nat) : (!decide ((⟨#[c]⟩ : Str).cps.toList < (⟨#[a]⟩ : Str).cps.toList)) = decide (a ≤ c) := by
  have : (!decide ([c] < [a])) = decide (a ≤ c) := by
    have k : ([c] < [a]) ↔ c < a := by
      constructor
      · intro h
        cases h with
        | rel h => exact h
        | cons h => cases h
      · exact fun h => .rel h
    by_cases h : c < a
    · rw [decide_eq_true (k.mpr h), decide_eq_false (by omega)]
      rfl
    · rw [decide_eq_false (fun z => h (k.mp z)), decide_eq_true (by omega)]
      rfl
  exact this
theorem ge_sg5 (a c : Nat) : (!decide ((⟨#[a]⟩ : Str).cps.toList < (⟨#[c]⟩ : Str).cps.toList)) = decide (c ≤ a) := le_sg5 c a
theorem one5 {c d : Nat} : (V.str ⟨#[c]⟩ = V.str ⟨#[d]⟩) ↔ c = d := by
  constructor
  · intro h
    injection h with h
    injection h with h
    simpa using h
  · intro h
    rw [h]
theorem s_a : ("a" : Str) = ⟨#[97]⟩ := by decide +kernel
theorem s_z : ("z" : Str) = ⟨#[122]⟩ := by decide +kernel
theorem s_A : ("A" : Str) = ⟨#[65]⟩ := by decide +kernel
theorem s_Z : ("Z" : Str) = ⟨#[90]⟩ := by decide +kernel
theorem s_0 : ("0" : Str) = ⟨#[48]⟩ := by decide +kernel
theorem s_9 : ("9" : Str) = ⟨#[57]⟩ := by decide +kernel
theorem s_us : ("_" : Str) = ⟨#[95]⟩ := by decide +kernel
theorem s_sp : (" " : Str) = ⟨#[32]⟩ := by decide +kernel
theorem s_nl : ("\n" : Str) = ⟨#[10]⟩ := by decide +kernel
theorem s_ha : ("#" : Str) = ⟨#[35]⟩ := by decide +kernel
theorem s_eq2 : ("==" : Str) = ⟨#[61, 61]⟩ := by decide +kernel
theorem str_L {z : Str} {l : List Nat} : (V.str z = V.str ⟨l.toArray⟩) ↔ tl z = l := by
  constructor
  · intro h
    injection h with h
    rw [h]
  · intro h
    rw [← h]
theorem toNat_lt {l : List Nat} {i c : Nat} (h : l[i]? = some c) : i < l.length := (List.getElem?_eq_some_iff.mp h).1
/-- the sign at a place of a text, as the rules ask for it -/
theorem item_of {z : Str} {i c : Nat} (h : (tl z)[i]? = some c) (hz : z.length ≤ 1000000) : (0 : Int) ≤ (i : Int) ∧ (i : Int) < 2 ^ 63 ∧ (i : Int) < (z.length : Int) ∧ z.cps[((i : Int)).toNat]? = some c := by
  have := toNat_lt h
  have e := len_tl z
  refine ⟨by omega, by omega, by omega, ?_⟩
  rw [Int.toNat_natCast, ← Array.getElem?_toList]
  exact h
section
variable {P : Program} {w : World} {K : PySem.W.Frag} {mg : Str → Option Value} {base : Heap} {f : Addr} {fd : FuncData} {aW : Addr} {tS : PySem.Tok}
abbrev s_is_letter : Stmt := topS 9
abbrev N_is_letter : List Str := ["sign"]
theorem sc_is_letter : FnScope N_is_letter ["sign"] (defScope s_is_letter) := ⟨rfl, rfl, rfl, by decide +kernel, rfl, by decide +kernel, by decide +kernel⟩
theorem letter_read {c : Nat} {H : Hp} {Q : VK} {σ : L2.St} (hs : σ[0]? = some (some (.str ⟨#[c]⟩))) (q : Q (.bl (isL c)) H) :
    (tOrV (tChain (fun x y H Q => ∃ i j, x = .str i ∧ y = .str j ∧ Q (.bl (!decide (j.cps.toList < i.cps.toList))) H) (fun x y H Q => ∃ i j, x = .str i ∧ y = .str j ∧ Q (.bl (!decide (j.cps.toList < i.cps.toList))) H) (tC (.str "a")) (tVar 0) (tC (.str "z")))
      (tChain (fun x y H Q => ∃ i j, x = .str i ∧ y = .str j ∧ Q (.bl (!decide (j.cps.toList < i.cps.toList))) H) (fun x y H Q => ∃ i j, x = .str i ∧ y = .str j ∧ Q (.bl (!decide (j.cps.toList < i.cps.toList))) H) (tC (.str "A")) (tVar 0) (tC (.str "Z")))) σ H Q := by
  rw [s_a, s_z, s_A, s_Z]
  unfold isL at q
  have second : Q (.bl (decide (65 ≤ c) && decide (c ≤ 90))) H → (tChain (fun x y H Q => ∃ i j, x = .str i ∧ y = .str j ∧ Q (.bl (!decide (j.cps.toList < i.cps.toList))) H) (fun x y H Q => ∃ i j, x = .str i ∧ y = .str j ∧ Q (.bl (!decide (j.cps.toList < i.cps.toList))) H) (tC (.str ⟨#[65]⟩)) (tVar 0) (tC (.str ⟨#[90]⟩))) σ H Q := fun q => by
    refine ⟨_, hs, _, _, rfl, rfl, _, rfl, ?_⟩
    rw [le_sg5]
    by_cases h : 65 ≤ c
    · refine iteP h ⟨_, _, rfl, rfl, ?_⟩
      rw [ge_sg5]
      rw [decide_eq_true h, Bool.true_and] at q
      exact q
    · rw [decide_eq_false h, Bool.false_and] at q
      exact iteN h q
  refine ⟨_, hs, _, _, rfl, rfl, _, rfl, ?_⟩
  rw [le_sg5]
  by_cases h : 97 ≤ c
  · refine iteP h ⟨_, _, rfl, rfl, _, rfl, ?_⟩
    rw [ge_sg5]
    rw [decide_eq_true h, Bool.true_and] at q
    by_cases h2 : c ≤ 122
    · rw [decide_eq_true h2, Bool.true_or] at q
      exact iteP h2 q
    · rw [decide_eq_false h2, Bool.false_or] at q
      exact iteN h2 (second q)
  · rw [decide_eq_false h, Bool.false_and, Bool.false_or] at q
    exact iteN h ⟨_, rfl, second q⟩
theorem digit_read {c : Nat} {H : Hp} {Q : VK} {σ : L2.St} (hs : σ[0]? = some (some (.str ⟨#[c]⟩))) (q : Q (.bl (isD c)) H) :
    (tChain (fun x y H Q => ∃ i j, x = .str i ∧ y = .str j ∧ Q (.bl (!decide (j.cps.toList < i.cps.toList))) H) (fun x y H Q => ∃ i j, x = .str i ∧ y = .str j ∧ Q (.bl (!decide (j.cps.toList < i.cps.toList))) H) (tC (.str "0")) (tVar 0) (tC (.str "9"))) σ H Q := by
  rw [s_0, s_9]
  unfold isD at q
  refine ⟨_, hs, _, _, rfl, rfl, _, rfl, ?_⟩
  rw [le_sg5]
  by_cases h : 48 ≤ c
  · refine iteP h ⟨_, _, rfl, rfl, ?_⟩
    rw [ge_sg5]
    rw [decide_eq_true h, Bool.true_and] at q
    exact q
  · rw [decide_eq_false h, Bool.false_and] at q
    exact iteN h q
theorem ok_is_letter (F : Fun K "is_letter" "is_letter" s_is_letter f fd) : FnOk P w K mg base CX0 1 f fd ["sign"] (spLet isL) := by
  refine F.ok sc_is_letter (fun vs H Q E h => ?_) (fun cdv A outer s H vs Q E hr h => ?_)
  · obtain ⟨c, rfl, _⟩ := h
    rfl
  obtain ⟨c, rfl, q⟩ := h
  refine ⟨_, (pss_one (ps_ret (pe_or (pe_chain op_le_str op_le_str pe_str (pv 0) pe_str) (pe_one (pe_chain op_le_str op_le_str pe_str (pv 0) pe_str))))), ?_⟩
  exact letter_read rfl q
abbrev s_is_digit : Stmt := topS 10
abbrev N_is_digit : List Str := ["sign"]
theorem sc_is_digit : FnScope N_is_digit ["sign"] (defScope s_is_digit) := ⟨rfl, rfl, rfl, by decide +kernel, rfl, by decide +kernel, by decide +kernel⟩
theorem ok_is_digit (F : Fun K "is_digit" "is_digit" s_is_digit f fd) : FnOk P w K mg base CX0 1 f fd ["sign"] (spLet isD) := by
  refine F.ok sc_is_digit (fun vs H Q E h => ?_) (fun cdv A outer s H vs Q E hr h => ?_)
  · obtain ⟨c, rfl, _⟩ := h
    rfl
  obtain ⟨c, rfl, q⟩ := h
  refine ⟨_, (pss_one (ps_ret (pe_chain op_le_str op_le_str pe_str (pv 0) pe_str))), ?_⟩
  exact digit_read rfl q
abbrev s_line_end : Stmt := topS 4
abbrev N_line_end : List Str := ["text", "offset", "found"]
theorem sc_line_end : FnScope N_line_end ["text", "offset"] (defScope s_line_end) := ⟨rfl, rfl, rfl, by decide +kernel, rfl, by decide +kernel, by decide +kernel⟩
theorem ok_line_end (F : Fun K "line_end" "line_end" s_line_end f fd) (T : Nm5 K mg aW tS) : FnOk P w K mg base CX0 1 f fd ["text", "offset"] (spRun fun d => d != 10) := by
  refine F.ok sc_line_end (fun vs H Q E h => ?_) (fun cdv A outer s H vs Q E hr h => ?_)
  · obtain ⟨z, i, rfl, _⟩ := h
    rfl
  obtain ⟨z, i, rfl, hi, hz, q⟩ := h
  refine ⟨_, (pss_cons (ps_set (i := 2) sc_line_end.nd rfl (Or.inl rfl) (pe_bm PySem.F.plainAttrs_str PySem.F.slot_str_find PySem.F.type_str_find mt_find3 (pv 0) (pa_cons pe_str (pa_cons (pv 1) pa_nil))))
    (pss_one (ps_ret (pe_ifExp (pt_cmpR op_lt (pv 2) pe_int (nomark _)) (pe_callB call_len_str (by rfl) T.len PySem.boot_len (pa_cons (pv 0) pa_nil)) (pv 2))))), ?_⟩
  have e := len_tl z
  have k := run_le (p := fun d => d != 10) (l := tl z) hi
  refine ⟨_, rfl, rfl, _, rfl, z, ("\n" : Str), (i : Int), rfl, rfl, ?_⟩
  dsimp only
  rw [s_nl, find_run z 10 i hi]
  by_cases h : run (fun d => d != 10) (tl z) i < (tl z).length
  · rw [if_pos h]
    refine ⟨_, rfl, _, _, rfl, rfl, _, rfl, iteN (by omega) ⟨_, rfl, q⟩⟩
  · rw [if_neg h]
    refine ⟨_, rfl, _, _, rfl, rfl, _, rfl, iteP (by decide) ⟨_, rfl, z, rfl, small hz, ?_⟩⟩
    rw [e, show (tl z).length = run (fun d => d != 10) (tl z) i by omega]
    exact q
abbrev s_word_end : Stmt := topS 11
abbrev N_word_end : List Str := ["text", "start", "end"]
theorem sc_word_end : FnScope N_word_end ["text", "start"] (defScope s_word_end) := ⟨rfl, rfl, rfl, by decide +kernel, rfl, by decide +kernel, by decide +kernel⟩
theorem ok_word_end (F : Fun K "word_end" "word_end" s_word_end f fd) (T : Nm5 K mg aW tS) (C_is_letter : Cal P w K mg base CX0 1 "is_letter" (spLet isL)) (C_is_digit : Cal P w K mg base CX0 1 "is_digit" (spLet isD)) : FnOk P w K mg base CX0 2 f fd ["text", "start"] (spRun isW) := by
  refine F.ok sc_word_end (fun vs H Q E h => ?_) (fun cdv A outer s H vs Q E hr h => ?_)
  · obtain ⟨z, i, rfl, _⟩ := h
    rfl
  obtain ⟨z, i, rfl, hi, hz, q⟩ := h
  refine ⟨_, (pss_cons (ps_set (i := 2) sc_word_end.nd rfl (Or.inl rfl) (pv 1))
    (pss_cons (ps_while PassesOwn.never (PW.pt (pw_and (pt_cmpR op_lt (pv 2) (pe_callB call_len_str (by rfl) T.len PySem.boot_len (pa_cons (pv 0) pa_nil)) (nomark _)) (pw_and1 (PW.pt (pw_or (pt_val (pe_c C_is_letter hr (by first | decide | omega) pass0 (pa_cons (pe_item_str (pv 0) (pv 2) (fun _ _ => rfl)) pa_nil))) (pw_or (pt_val (pe_c C_is_digit hr (by first | decide | omega) pass0 (pa_cons (pe_item_str (pv 0) (pv 2) (fun _ _ => rfl)) pa_nil))) (pw_or1 (pt_cmpR op_eq (pe_item_str (pv 0) (pv 2) (fun _ _ => rfl)) pe_str (nomark _))))))))) (pss_one (ps_aug (i := 2) sc_word_end.nd rfl (Or.inl rfl) pe_int ip_add)))
    (pss_one (ps_ret (pv 2))))), ?_⟩
  have e := len_tl z
  refine ⟨_, rfl, while_m (fun σ H' => H' = H ∧ ∃ j : Nat, σ = [some (.str z), some (.int (i : Int)), some (.int (j : Int))] ∧ j ≤ (tl z).length ∧ run isW (tl z) i = run isW (tl z) j)
    (fun σ _ => match σ with | [_, _, some (.int j)] => (tl z).length - j.toNat | _ => 0) ⟨rfl, i, rfl, hi, rfl⟩ ?_⟩
  rintro σ H' ⟨rfl, j, rfl, hj, hr⟩
  have stop : run isW (tl z) j = j → Q (.int (j : Int)) H' := fun k => by
    rw [hr, k] at q
    exact q
  refine ⟨_, rfl, _, rfl, z, rfl, small hz, _, _, rfl, rfl, _, rfl, ?_⟩
  by_cases h : j < (tl z).length
  · refine iteP (show (j : Int) < (z.length : Int) by omega) ?_
    have hg := List.getElem?_eq_getElem h
    generalize (tl z)[j] = c at hg
    obtain ⟨i1, i2, i3, i4⟩ := item_of hg hz
    have again : isW c = true → H' = H' ∧ (∃ j' : Nat, [some (V.str z), some (.int (i : Int)), some (.int ((j : Int) + 1))] = [some (V.str z), some (.int (i : Int)), some (.int (j' : Int))] ∧ j' ≤ (tl z).length ∧ run isW (tl z) i = run isW (tl z) j') := fun hw =>
      ⟨rfl, j + 1, rfl, h, by rw [hr, run_step hg hw]⟩
    have less : (tl z).length - ((j : Int) + 1).toNat < (tl z).length - ((j : Int)).toNat := by omega
    refine ⟨_, rfl, _, rfl, z, (j : Int), c, rfl, rfl, i1, i2, i3, i4, c, rfl, _, rfl, ?_⟩
    by_cases w1 : isL c = true
    · rw [w1]
      refine wN ⟨_, rfl, _, _, rfl, rfl, ?_⟩
      exact ⟨again (by unfold isW; rw [w1]; rfl), less⟩
    rw [Bool.eq_false_iff.mpr w1]
    refine ⟨_, rfl, _, rfl, z, (j : Int), c, rfl, rfl, i1, i2, i3, i4, c, rfl, _, rfl, ?_⟩
    by_cases w2 : isD c = true
    · rw [w2]
      refine wN ⟨_, rfl, _, _, rfl, rfl, ?_⟩
      exact ⟨again (by unfold isW; rw [w2, Bool.true_or, Bool.or_true]), less⟩
    rw [Bool.eq_false_iff.mpr w2]
    refine ⟨_, rfl, _, rfl, z, (j : Int), c, rfl, rfl, i1, i2, i3, i4, rfl, _, rfl, ?_⟩
    rw [s_us]
    by_cases w3 : c = 95
    · refine iteP (one5.mpr w3) ?_
      refine wN ⟨_, rfl, _, _, rfl, rfl, ?_⟩
      exact ⟨again (by rw [w3]; rfl), less⟩
    · refine iteN (fun k => w3 (one5.mp k)) ?_
      refine ⟨_, rfl, stop (run_stop hg ?_)⟩
      unfold isW
      rw [Bool.eq_false_iff.mpr w1, Bool.eq_false_iff.mpr w2]
      simpa using w3
  · refine iteN (show ¬ (j : Int) < (z.length : Int) by omega) ?_
    exact ⟨_, rfl, stop (run_end (by omega))⟩
abbrev s_digits_end : Stmt := topS 12
abbrev N_digits_end : List Str := ["text", "start", "end"]
theorem sc_digits_end : FnScope N_digits_end ["text", "start"] (defScope s_digits_end) := ⟨rfl, rfl, rfl, by decide +kernel, rfl, by decide +kernel, by decide +kernel⟩
theorem ok_digits_end (F : Fun K "digits_end" "digits_end" s_digits_end f fd) (T : Nm5 K mg aW tS) (C_is_digit : Cal P w K mg base CX0 1 "is_digit" (spLet isD)) : FnOk P w K mg base CX0 2 f fd ["text", "start"] (spRun isD) := by
  refine F.ok sc_digits_end (fun vs H Q E h => ?_) (fun cdv A outer s H vs Q E hr h => ?_)
  · obtain ⟨z, i, rfl, _⟩ := h
    rfl
  obtain ⟨z, i, rfl, hi, hz, q⟩ := h
  refine ⟨_, (pss_cons (ps_set (i := 2) sc_digits_end.nd rfl (Or.inl rfl) (pv 1))
    (pss_cons (ps_while PassesOwn.never (PW.pt (pw_and (pt_cmpR op_lt (pv 2) (pe_callB call_len_str (by rfl) T.len PySem.boot_len (pa_cons (pv 0) pa_nil)) (nomark _)) (pw_and1 (pt_val (pe_c C_is_digit hr (by first | decide | omega) pass0 (pa_cons (pe_item_str (pv 0) (pv 2) (fun _ _ => rfl)) pa_nil)))))) (pss_one (ps_aug (i := 2) sc_digits_end.nd rfl (Or.inl rfl) pe_int ip_add)))
    (pss_one (ps_ret (pv 2))))), ?_⟩
  have e := len_tl z
  refine ⟨_, rfl, while_m (fun σ H' => H' = H ∧ ∃ j : Nat, σ = [some (.str z), some (.int (i : Int)), some (.int (j : Int))] ∧ j ≤ (tl z).length ∧ run isD (tl z) i = run isD (tl z) j)
    (fun σ _ => match σ with | [_, _, some (.int j)] => (tl z).length - j.toNat | _ => 0) ⟨rfl, i, rfl, hi, rfl⟩ ?_⟩
  rintro σ H' ⟨rfl, j, rfl, hj, hr⟩
  have stop : run isD (tl z) j = j → Q (.int (j : Int)) H' := fun k => by
    rw [hr, k] at q
    exact q
  refine ⟨_, rfl, _, rfl, z, rfl, small hz, _, _, rfl, rfl, _, rfl, ?_⟩
  by_cases h : j < (tl z).length
  · refine iteP (show (j : Int) < (z.length : Int) by omega) ?_
    have hg := List.getElem?_eq_getElem h
    generalize (tl z)[j] = c at hg
    obtain ⟨i1, i2, i3, i4⟩ := item_of hg hz
    refine ⟨_, rfl, _, rfl, z, (j : Int), c, rfl, rfl, i1, i2, i3, i4, c, rfl, _, rfl, ?_⟩
    by_cases w1 : isD c = true
    · rw [w1]
      refine wN ⟨_, rfl, _, _, rfl, rfl, ?_⟩
      exact ⟨⟨rfl, j + 1, rfl, h, by rw [hr, run_step hg w1]⟩, (by show (tl z).length - ((j : Int) + 1).toNat < (tl z).length - ((j : Int)).toNat; omega)⟩
    rw [Bool.eq_false_iff.mpr w1]
    exact ⟨_, rfl, stop (run_stop hg (Bool.eq_false_iff.mpr w1))⟩
  · refine iteN (show ¬ (j : Int) < (z.length : Int) by omega) ?_
    exact ⟨_, rfl, stop (run_end (by omega))⟩
end

end Sn

namespace Sn
open PySem PySem.Spec PyProof.Rows L2 TL
section
variable {P : Program} {w : World} {K : PySem.W.Frag} {mg : Str → Option Value} {base : Heap} {f : Addr} {fd : FuncData} {aW : Addr} {tS : PySem.Tok}
theorem tok_L {l : List Nat} {i c : Nat} (h : isL c = true) : tokC l i c = (if inV (.str (strL ((l.drop i).take (run isW l i - i)))) (wds.map V.str) = true then ("word" : Str) else ("name" : Str), i, run isW l i) := by
  unfold tokC
  rw [if_pos h]
theorem tok_D {l : List Nat} {i c : Nat} (h : isL c = false) (h2 : isD c = true) : tokC l i c = (("number" : Str), i, run isD l i) := by
  unfold tokC
  rw [h, if_neg Bool.false_ne_true, if_pos h2]
theorem tok_E {l : List Nat} {i c : Nat} (h : isL c = false) (h2 : isD c = false) (h3 : (l.drop i).take 2 = [61, 61]) : tokC l i c = (("sign" : Str), i, i + 2) := by
  unfold tokC
  rw [h, if_neg Bool.false_ne_true, h2, if_neg Bool.false_ne_true, if_pos h3]
theorem tok_S {l : List Nat} {i c : Nat} (h : isL c = false) (h2 : isD c = false) (h3 : ¬ (l.drop i).take 2 = [61, 61]) : tokC l i c = (if c ∈ tl sgs then ("sign" : Str) else ("wrong" : Str), i, i + 1) := by
  unfold tokC
  rw [h, if_neg Bool.false_ne_true, h2, if_neg Bool.false_ne_true, if_neg h3]
theorem cut_eq (z : Str) (i e : Nat) (h : i ≤ (tl z).length) : cutS z (some (i : Int)) (some (e : Int)) = strL (((tl z).drop i).take (e - i)) := ext_tl (tl_cut_mid z i e h)
theorem wds_flat : (wds.map V.str).all flatV = true := by decide +kernel
abbrev s_token_at : Stmt := topS 13
abbrev N_token_at : List Str := ["text", "start", "sign", "end"]
theorem sc_token_at : FnScope N_token_at ["text", "start"] (defScope s_token_at) := ⟨rfl, rfl, rfl, by decide +kernel, rfl, by decide +kernel, by decide +kernel⟩
theorem ok_token_at (F : Fun K "token_at" "token_at" s_token_at f fd) (T : Nm5 K mg aW tS) (C_is_letter : Cal P w K mg base CX0 1 "is_letter" (spLet isL)) (C_is_digit : Cal P w K mg base CX0 1 "is_digit" (spLet isD))
    (C_word_end : Cal P w K mg base CX0 2 "word_end" (spRun isW)) (C_digits_end : Cal P w K mg base CX0 2 "digits_end" (spRun isD)) : FnOk P w K mg base CX0 3 f fd ["text", "start"] spTokAt := by
  refine F.ok sc_token_at (fun vs H Q E h => ?_) (fun cdv A outer s H vs Q E hr h => ?_)
  · obtain ⟨z, i, c, rfl, _⟩ := h
    rfl
  obtain ⟨z, i, c, rfl, hc, hz, q⟩ := h
  refine ⟨_, (pss_cons (ps_set (i := 2) sc_token_at.nd rfl (Or.inl rfl) (pe_item_str (pv 0) (pv 1) (fun _ _ => rfl)))
    (pss_cons (ps_if (pt_val (pe_c C_is_letter hr (by first | decide | omega) pass0 (pa_cons (pv 2) pa_nil))) (pss_cons (ps_set (i := 3) sc_token_at.nd rfl (Or.inl rfl) (pe_c C_word_end hr (by first | decide | omega) pass0 (pa_cons (pv 0) (pa_cons (pv 1) pa_nil))))
    (pss_one (ps_ret (pe_tup (pa_cons (pe_ifExp (pt_cmpR op_in_seq (pe_slice sl_str (pv 0) (po_some (pv 1)) (po_some (pv 3))) (pe_glob (v := .ref aW) (by rfl) T.g_WORDS rfl) (by rfl)) pe_str pe_str) (pa_cons (pv 1) (pa_cons (pv 3) pa_nil))))))) pss_nil)
    (pss_cons (ps_if (pt_val (pe_c C_is_digit hr (by first | decide | omega) pass0 (pa_cons (pv 2) pa_nil))) (pss_one (ps_ret (pe_tup (pa_cons pe_str (pa_cons (pv 1) (pa_cons (pe_c C_digits_end hr (by first | decide | omega) pass0 (pa_cons (pv 0) (pa_cons (pv 1) pa_nil))) pa_nil)))))) pss_nil)
    (pss_cons (ps_if (pt_cmpR op_eq (pe_slice sl_str (pv 0) (po_some (pv 1)) (po_some (pe_op op_add (pv 1) pe_int))) pe_str (nomark _)) (pss_one (ps_ret (pe_tup (pa_cons pe_str (pa_cons (pv 1) (pa_cons (pe_op op_add (pv 1) pe_int) pa_nil)))))) pss_nil)
    (pss_one (ps_ret (pe_tup (pa_cons (pe_ifExp (pt_cmpR op_in_sign (pv 2) (pe_glob (v := .str "()[],:.=<+-*/") (by rfl) T.g_SIGNS ⟨_, rfl⟩) (by rfl)) pe_str pe_str) (pa_cons (pv 1) (pa_cons (pe_op op_add (pv 1) pe_int) pa_nil)))))))))), ?_⟩
  have e := len_tl z
  have hi := toNat_lt hc
  obtain ⟨i1, i2, i3, i4⟩ := item_of hc hz
  have fin : ∀ (x : Tok) (p : Addr), tokC (tl z) i c = x → H p = none → Q (.ref p) (upd H p (.tup (tkV x))) := fun x p ex np => q p _ (same_new np) np (by rw [upd_same, ex])
  refine ⟨_, rfl, _, rfl, z, (i : Int), c, rfl, rfl, i1, i2, i3, i4, ?_⟩
  refine ⟨_, rfl, c, rfl, _, rfl, ?_⟩
  by_cases w1 : isL c = true
  · rw [w1]
    refine ⟨_, rfl, _, rfl, z, i, rfl, by omega, hz, ?_⟩
    have r1 := run_ge isW (tl z) i
    refine ⟨_, rfl, _, rfl, _, rfl, _, rfl, _, rfl, z, rfl, small hz, aW, _, rfl, .inr (.inr T.wt), rfl, wds_flat, _, rfl, ?_⟩
    rw [cut_eq z i _ (by omega)]
    have ex := tok_L (l := tl z) (i := i) w1
    refine ite2 (fun k => ?_) (fun k => ?_)
    · have k : inV (.str (strL (((tl z).drop i).take (run isW (tl z) i - i)))) (wds.map V.str) = true := k
      rw [if_pos k] at ex
      exact ⟨_, rfl, _, rfl, (by show 3 ≤ sizeLine; decide), fun p np => fin _ p ex np⟩
    · have k : ¬ inV (.str (strL (((tl z).drop i).take (run isW (tl z) i - i)))) (wds.map V.str) = true := k
      rw [if_neg k] at ex
      exact ⟨_, rfl, _, rfl, (by show 3 ≤ sizeLine; decide), fun p np => fin _ p ex np⟩
  have w1 := Bool.eq_false_iff.mpr w1
  rw [w1]
  refine ⟨_, rfl, c, rfl, _, rfl, ?_⟩
  by_cases w2 : isD c = true
  · rw [w2]
    refine ⟨_, rfl, _, rfl, _, rfl, z, i, rfl, by omega, hz, (by show 3 ≤ sizeLine; decide), fun p np => fin _ p (tok_D w1 w2) np⟩
  have w2 := Bool.eq_false_iff.mpr w2
  rw [w2]
  refine ⟨_, rfl, _, rfl, _, rfl, _, rfl, _, _, rfl, rfl, _, rfl, z, rfl, small hz, rfl, _, rfl, ?_⟩
  dsimp only
  rw [show (i : Int) + 2 = ((i + 2 : Nat) : Int) by omega, cut_eq z i _ (by omega), show i + 2 - i = 2 by omega, s_eq2]
  by_cases w3 : ((tl z).drop i).take 2 = [61, 61]
  · refine iteP (str_L.mpr w3) ?_
    exact ⟨_, rfl, _, rfl, _, _, rfl, rfl, (by show 3 ≤ sizeLine; decide), fun p np => fin _ p (tok_E w1 w2 w3) np⟩
  · refine iteN (fun k => w3 (str_L.mp k)) ?_
    refine ⟨_, rfl, c, sgs, rfl, rfl, _, rfl, ?_⟩
    have ex := tok_S w1 w2 w3
    by_cases w4 : c ∈ tl sgs
    · rw [if_pos w4] at ex
      refine iteP w4 ?_
      exact ⟨_, rfl, _, rfl, _, _, rfl, rfl, (by show 3 ≤ sizeLine; decide), fun p np => fin _ p ex np⟩
    · rw [if_neg w4] at ex
      refine iteN w4 ?_
      exact ⟨_, rfl, _, rfl, _, _, rfl, rfl, (by show 3 ≤ sizeLine; decide), fun p np => fin _ p ex np⟩
theorem toks_len {l : List Nat} {a e : Nat} : (toks l a e).length ≤ e := by
  have k : ∀ (s : List Nat) (a b : Nat) (cm : Bool), (scan l s a b cm).length ≤ s.length := by
    intro s
    induction s with
    | nil => exact fun _ _ _ => Nat.le_refl _
    | cons c r ih =>
      intro a b cm
      show (if _ then _ else _ : List Tok).length ≤ r.length + 1
      split
      · exact Nat.le_succ_of_le (ih _ _ _)
      · split
        · exact Nat.le_succ_of_le (ih _ _ _)
        · exact Nat.succ_le_succ (ih _ _ _)
  have := k ((l.take e).drop a) a 0 false
  rw [List.length_drop, List.length_take] at this
  unfold toks
  omega
abbrev s_tokens_between : Stmt := topS 14
abbrev N_tokens_between : List Str := ["text", "start", "end", "found", "at", "token"]
theorem sc_tokens_between : FnScope N_tokens_between ["text", "start", "end"] (defScope s_tokens_between) := ⟨rfl, rfl, rfl, by decide +kernel, rfl, by decide +kernel, by decide +kernel⟩
theorem ok_tokens_between (F : Fun K "tokens_between" "tokens_between" s_tokens_between f fd) (T : Nm5 K mg aW tS) (C_line_end : Cal P w K mg base CX0 1 "line_end" (spRun fun d => d != 10)) (C_token_at : Cal P w K mg base CX0 3 "token_at" spTokAt) :
    FnOk P w K mg base CX0 4 f fd ["text", "start", "end"] spBetween := by
  refine F.ok sc_tokens_between (fun vs H Q E h => ?_) (fun cdv A outer s H vs Q E hr h => ?_)
  · obtain ⟨z, a0, e, rfl, _⟩ := h
    rfl
  obtain ⟨z, a0, e, rfl, he, hz, q⟩ := h
  refine ⟨_, (pss_cons (ps_set (i := 3) sc_tokens_between.nd rfl (Or.inl rfl) (pe_lst pa_nil))
    (pss_cons (ps_set (i := 4) sc_tokens_between.nd rfl (Or.inl rfl) (pv 1))
    (pss_cons (ps_while PassesOwn.never (pt_cmpR op_lt (pv 4) (pv 2) (nomark _)) (pss_one (ps_if (PW.pt (pw_or (pt_cmpR op_eq (pe_item_str (pv 0) (pv 4) (fun _ _ => rfl)) pe_str (nomark _)) (pw_or1 (pt_cmpR op_eq (pe_item_str (pv 0) (pv 4) (fun _ _ => rfl)) pe_str (nomark _))))) (pss_one (ps_aug (i := 4) sc_tokens_between.nd rfl (Or.inl rfl) pe_int ip_add)) (pss_one (ps_if (pt_cmpR op_eq (pe_item_str (pv 0) (pv 4) (fun _ _ => rfl)) pe_str (nomark _)) (pss_one (ps_set (i := 4) sc_tokens_between.nd rfl (Or.inl rfl) (pe_c C_line_end hr (by first | decide | omega) pass0 (pa_cons (pv 0) (pa_cons (pv 4) pa_nil))))) (pss_cons (ps_set (i := 5) sc_tokens_between.nd rfl (Or.inl rfl) (pe_c C_token_at hr (by first | decide | omega) pass0 (pa_cons (pv 0) (pa_cons (pv 4) pa_nil))))
    (pss_cons (ps_expr (pe_bm PySem.F.plainAttrs_list PySem.F.slot_list_append PySem.F.type_list_append mt_append (pv 3) (pa_cons (pv 5) pa_nil)))
    (pss_one (ps_set (i := 4) sc_tokens_between.nd rfl (Or.inl rfl) (pe_ix (r := rIxT K) ix_tup (pv 5) pe_int (fun _ _ => rfl)))))))))))
    (pss_one (ps_ret (pv 3)))))), ?_⟩
  have el := len_tl z
  refine ⟨Nat.zero_le _, fun L nL => ?_⟩
  refine ⟨_, rfl, while_m (fun σ H' => ∃ (a : Nat) (v5 : Option V) (pre : List Tok), σ = [some (.str z), some (.int (a0 : Int)), some (.int (e : Int)), some (.ref L), some (.int (a : Int)), v5] ∧ Same H H' ∧ LT H' L (pre.map tkV) ∧ toks (tl z) a0 e = pre ++ toks (tl z) a e)
    (fun σ _ => match σ with | [_, _, _, _, some (.int j), _] => e - j.toNat | _ => 0) ⟨a0, none, [], rfl, same_new nL, ⟨[], upd_same, rfl, fun _ _ _ h _ => by simp at h⟩, rfl⟩ ?_⟩
  rintro σ H1 ⟨a, v5, pre, rfl, sm, lt, ht⟩
  refine ⟨_, rfl, _, rfl, _, _, rfl, rfl, _, rfl, ?_⟩
  by_cases h : a < e
  rotate_left
  · refine iteN (by omega) ⟨_, rfl, ?_⟩
    rw [toks_end (l := tl z) (a := a) (e := e) (by omega), List.append_nil] at ht
    rw [← ht] at lt
    exact q L H1 sm nL lt
  refine iteP (by omega) ?_
  have hal : a < (tl z).length := by omega
  have hg := List.getElem?_eq_getElem hal
  generalize (tl z)[a] = c at hg
  obtain ⟨i1, i2, i3, i4⟩ := item_of hg hz
  refine wN ?_
  -- a blank
  have blank : (c = 32 ∨ c = 10) → (∃ (a' : Nat) (v5' : Option V) (pre' : List Tok), [some (V.str z), some (.int (a0 : Int)), some (.int (e : Int)), some (.ref L), some (.int ((a : Int) + 1)), v5] = [some (V.str z), some (.int (a0 : Int)), some (.int (e : Int)), some (.ref L), some (.int (a' : Int)), v5'] ∧
      Same H H1 ∧ LT H1 L (pre'.map tkV) ∧ toks (tl z) a0 e = pre' ++ toks (tl z) a' e) ∧ e - ((a : Int) + 1).toNat < e - ((a : Int)).toNat := fun hb =>
    ⟨⟨a + 1, v5, pre, rfl, sm, lt, by rw [ht, toks_blank he h hg hb]⟩, by omega⟩
  refine ⟨_, rfl, _, rfl, z, (a : Int), c, rfl, rfl, i1, i2, i3, i4, rfl, _, rfl, ?_⟩
  rw [s_sp, s_nl, s_ha]
  by_cases b1 : c = 32
  · refine iteP (one5.mpr b1) ?_
    exact ⟨_, rfl, _, _, rfl, rfl, blank (.inl b1)⟩
  refine iteN (fun k => b1 (one5.mp k)) ?_
  refine ⟨_, rfl, _, rfl, z, (a : Int), c, rfl, rfl, i1, i2, i3, i4, rfl, _, rfl, ?_⟩
  by_cases b2 : c = 10
  · refine iteP (one5.mpr b2) ?_
    exact ⟨_, rfl, _, _, rfl, rfl, blank (.inr b2)⟩
  refine iteN (fun k => b2 (one5.mp k)) ?_
  refine ⟨_, rfl, _, rfl, z, (a : Int), c, rfl, rfl, i1, i2, i3, i4, rfl, _, rfl, ?_⟩
  by_cases b3 : c = 35
  · refine iteP (one5.mpr b3) ?_
    subst b3
    refine ⟨_, rfl, _, rfl, z, a, rfl, by omega, hz, ?_⟩
    have r1 : run (fun d => d != 10) (tl z) a = run (fun d => d != 10) (tl z) (a + 1) := run_step hg rfl
    have r2 := run_ge (fun d => d != 10) (tl z) (a + 1)
    refine ⟨⟨run (fun d => d != 10) (tl z) a, v5, pre, rfl, sm, lt, by rw [ht, toks_note he h hg]⟩, ?_⟩
    show e - ((run (fun d => d != 10) (tl z) a : Nat) : Int).toNat < e - ((a : Int)).toNat
    omega
  refine iteN (fun k => b3 (one5.mp k)) ?_
  refine ⟨_, rfl, _, rfl, z, a, c, rfl, hg, hz, fun p H2 s2 np hp => ?_⟩
  obtain ⟨t1, t2⟩ := tok_end hg
  obtain ⟨ys, h1, h2, h3⟩ := (lt.same s2).push hp
  have plen : pre.length ≤ (toks (tl z) a0 e).length := by
    rw [ht, List.length_append]
    omega
  have tlen := toks_len (l := tl z) (a := a0) (e := e)
  have Lp : p ≠ L := ne_of hp h1 (by intro z; cases z)
  refine ⟨_, rfl, .inl ⟨rfl, _, SqL.of h1⟩, _, rfl, L, ys, _, rfl, rfl, h1, Nat.lt_of_le_of_lt (show ys.length ≤ 1000000 by rw [h2, List.length_map]; omega) (by decide), ?_⟩
  refine ⟨_, rfl, p, _, 2, _, rfl, rfl, .inl (.inl (by rw [upd_ne Lp]; exact hp)), rfl, ?_⟩
  refine ⟨⟨(tokC (tl z) a c).2.2, _, pre ++ [tokC (tl z) a c], rfl, fun b o eb => ?_, ?_, ?_⟩, ?_⟩
  · rw [upd_ne (ne_of_none eb nL)]
    exact s2 _ _ (sm _ _ eb)
  · rw [List.map_append]
    exact h3
  · rw [ht, toks_tok he h hg (fun k => k.elim b1 b2) b3, List.append_assoc]
    rfl
  · show e - ((((tokC (tl z) a c).2.2 : Nat) : Int)).toNat < e - ((a : Int)).toNat
    omega
/-- tokens, as data -/
def tokD (x : Tok) : PyData := .tuple [.str x.1, .int (x.2.1 : Int), .int (x.2.2 : Int)]
theorem lt_dpAll {H : Hp} : ∀ {rs : List Addr} {ts : List Tok}, rs.length = ts.length → (∀ (i : Nat) (r : Addr) (xs : List V), rs[i]? = some r → (ts.map tkV)[i]? = some xs → H r = some (.tup xs)) → DpAll K H (rs.map V.ref) (ts.map tokD)
  | [], [], _, _ => .nil
  | r :: rs, t :: ts, h, k => .cons (.tup (.inl (.inl (k 0 r (tkV t) rfl rfl))) (.cons (.str _) (.cons (.int _) (.cons (.int _) .nil)))) (lt_dpAll (by simpa using h) fun i => k (i + 1))
theorem lt_dp {H : Hp} {p : Addr} {ts : List Tok} (h : LT H p (ts.map tkV)) : Dp K H (.ref p) (.list (ts.map tokD)) := by
  obtain ⟨rs, h1, h2, h3⟩ := h
  exact .lst (.inl (.inl h1)) (lt_dpAll (by rw [h2, List.length_map]) h3)
theorem sort_ok (l : List Nat) (i c : Nat) : PyData.strOk (tokC l i c).1 = true := by
  have k1 : PyData.strOk ("word" : Str) = true := by decide +kernel
  have k2 : PyData.strOk ("name" : Str) = true := by decide +kernel
  have k3 : PyData.strOk ("number" : Str) = true := by decide +kernel
  have k4 : PyData.strOk ("sign" : Str) = true := by decide +kernel
  have k5 : PyData.strOk ("wrong" : Str) = true := by decide +kernel
  unfold tokC
  split
  · show PyData.strOk (if _ then _ else _) = true
    split <;> assumption
  · split
    · exact k3
    · split
      · exact k4
      · show PyData.strOk (if _ then _ else _) = true
        split <;> assumption
theorem toks_ok {l : List Nat} {a e : Nat} : ∀ x ∈ toks l a e, PyData.strOk x.1 = true := by
  have k : ∀ (s : List Nat) (a b : Nat) (cm : Bool), ∀ x ∈ scan l s a b cm, PyData.strOk x.1 = true := by
    intro s
    induction s with
    | nil => exact fun _ _ _ x h => nomatch h
    | cons c r ih =>
      intro a b cm x hx
      have hx : x ∈ (if a < b ∨ (cm = true ∧ c ≠ 10) ∨ c = 32 ∨ c = 10 then scan l r (a + 1) b (cm && c != 10) else if c = 35 then scan l r (a + 1) b true else tokC l a c :: scan l r (a + 1) (tokC l a c).2.2 false) := hx
      split at hx
      · exact ih _ _ _ x hx
      · split at hx
        · exact ih _ _ _ x hx
        · rcases List.mem_cons.mp hx with hx | hx
          · rw [hx]
            exact sort_ok l a c
          · exact ih _ _ _ x hx
  exact fun x hx => k _ _ _ _ x hx
theorem toks_shaped {ts : List Tok} (h : ∀ x ∈ ts, PyData.strOk x.1 = true) : SeqAt.shaped (.list (ts.map tokD)) = true := by
  have c : ∀ {l : List Tok}, (∀ x ∈ l, PyData.strOk x.1 = true) → PyData.canLayAll0 (l.map tokD) = true := by
    intro l
    induction l with
    | nil => exact fun _ => rfl
    | cons x r ih =>
      intro h
      have h1 := h x List.mem_cons_self
      have h2 := ih fun y hy => h y (List.mem_cons_of_mem _ hy)
      show (PyData.canLay0 (tokD x) && PyData.canLayAll0 (r.map tokD)) = true
      rw [h2, Bool.and_true]
      show (PyData.strOk x.1 && (true && (true && true))) = true
      rw [h1]
      rfl
  have d : ∀ {l : List Tok}, PyData.depthAll (l.map tokD) ≤ 1 := by
    intro l
    induction l with
    | nil => exact Nat.zero_le _
    | cons x r ih =>
      show max (PyData.depth (tokD x)) (PyData.depthAll (r.map tokD)) ≤ 1
      have : PyData.depth (tokD x) = 1 := rfl
      omega
  show (PyData.canLay0 (.list (ts.map tokD)) && decide (PyData.depth (.list (ts.map tokD)) ≤ 64)) = true
  have h1 : PyData.canLay0 (.list (ts.map tokD)) = true := c h
  have h2 : PyData.depth (.list (ts.map tokD)) ≤ 64 := by
    show PyData.depthAll (ts.map tokD) + 1 ≤ 64
    have := d (l := ts)
    omega
  rw [h1, decide_eq_true h2]
  rfl
/-- is it one name, and nothing else -/
def nameB (z : Str) : Bool := PyData.eqv (.list ((toks (tl z) 0 (tl z).length).map tokD)) (.list [.tuple [.str "name", .int 0, .int (z.length : Int)]])
def spIsName : Sp := fun vs H Q _ => ∃ z : Str, vs = [.str z] ∧ z.length ≤ 1000000 ∧ ∀ H', Same H H' → Q (.bl (nameB z)) H'
theorem name_shaped (n : Int) : SeqAt.shaped (.list [.tuple [.str "name", .int 0, .int n]]) = true := by
  have k2 : PyData.strOk ("name" : Str) = true := by decide +kernel
  show (((PyData.strOk ("name" : Str) && (true && (true && true))) && true) && decide (PyData.depth (.list [.tuple [.str "name", .int 0, .int n]]) ≤ 64)) = true
  rw [k2]
  rfl
end

end Sn

namespace Sn
open PySem PySem.Spec PyProof.Rows L2 TL
/-! ### the reader -/
abbrev ns_Reader : List Str := ["source", "row", "at", "depth"]
structure NmR (K : PySem.W.Frag) (w : World) (mg : Str → Option Value) (aW : Addr) (tS : PySem.Tok) (CR CS aR : Addr) (t0 t1 t2 t3 t4 t5 t6 : PySem.Tok) : Prop extends Nm5 K mg aW tS where
  cl_Reader : Cls K CR
  n_source : NoAttr K CR "source"
  n_row : NoAttr K CR "row"
  n_at : NoAttr K CR "at"
  n_depth : NoAttr K CR "depth"
  mk_Reader : mg "Reader" = some (.ref CR)
  g_MOST_TOKENS : mg "MOST_TOKENS" = some (.int 300 t0)
  g_DEEPEST : mg "DEEPEST" = some (.int 30 t1)
  g_LOWEST : mg "LOWEST" = some (.int 1 t2)
  g_NEGATION : mg "NEGATION" = some (.int 3 t3)
  g_COMPARISON : mg "COMPARISON" = some (.int 4 t4)
  g_HIGHEST : mg "HIGHEST" = some (.int 6 t5)
  g_NUMBERS : mg "NUMBERS" = some (.int 4294967296 t6)
  g_RANKS : mg "RANKS" = some (.ref aR)
  kd : KdAt K w aR
  ranks : ∀ l : List Nat, ∃ r : Option V, KdGet K aR (strL l) r ∧ r.getD (.int 0) = .int ((Src.rank l : Nat) : Int) ∧ (0 < Src.rank l → KDct K w aR (strL l) (.int ((Src.rank l : Nat) : Int)))
  oex : OexC K CS
  mgS : mg "SyntaxProblem" = some (.ref CS)
  s_start : PySem.W.findIn K (.ref CS) "start" = some none
  s_end : PySem.W.findIn K (.ref CS) "end" = some none
/-- the attributes -/
def rf (z : Str) (r : Addr) (a d : Int) : List (Str × V) := [("source", .str z), ("row", .ref r), ("at", .int a), ("depth", .int d)]
theorem rf_source {z r a d} : (rf z r a d).lookup ("source" : Str) = some (V.str z) := by kernel_rfl
theorem rf_row {z r a d} : (rf z r a d).lookup ("row" : Str) = some (V.ref r) := by kernel_rfl
theorem rf_at {z r a d} : (rf z r a d).lookup ("at" : Str) = some (V.int a) := by kernel_rfl
theorem rf_depth {z r a d} : (rf z r a d).lookup ("depth" : Str) = some (V.int d) := by kernel_rfl
theorem rf_at' {z r a d x} : putF "at" (.int x) (rf z r a d) = rf z r x d := by kernel_rfl
theorem rf_depth' {z r a d x} : putF "depth" (.int x) (rf z r a d) = rf z r a x := by kernel_rfl
def Raw (C : Addr) (H : Hp) (p : Addr) (z : Str) (r : Addr) (a d : Int) : Prop := ∃ dx, H p = some (.ins C dx (rf z r a d))
theorem Raw.isI {C : Addr} {H : Hp} {p : Addr} {z : Str} {r : Addr} {a d : Int} (h : Raw C H p z r a d) : IsI H C p ns_Reader := let ⟨dx, e⟩ := h; ⟨dx, _, e, rfl⟩
/-- the words of numbers are digits -/
def Nums (S : Src) : Prop := ∀ a, S.so a = "number" → (S.wd a).all isD = true
/-- a reader of these tokens, at this one, inside of so many -/
structure Rd (C : Addr) (H : Hp) (p : Addr) (S : Src) (a d : Nat) : Prop where
  ex : ∃ z, tl z = S.l ∧ Raw C H p z S.r a d ∧ LT H S.r (S.ts.map tkV)
  hl : S.l.length ≤ 100000
  hn : S.n ≤ 100000
  ha : a ≤ S.n
  pl : ∀ t ∈ S.ts, t.2.1 ≤ t.2.2 ∧ t.2.2 ≤ S.l.length
  nu : Nums S
theorem Rd.isI {C : Addr} {H : Hp} {p : Addr} {S : Src} {a d : Nat} (R : Rd C H p S a d) : IsI H C p ns_Reader := let ⟨_, _, h, _⟩ := R.ex; h.isI
theorem LT.but {H H' : Hp} {p q : Addr} {xss : List (List V)} (b : But q H H') (hq : ∀ xs, H q ≠ some (.tup xs)) (hp : p ≠ q) : LT H p xss → LT H' p xss := fun ⟨rs, h1, h2, h3⟩ => by
  refine ⟨rs, b _ _ hp h1, h2, fun i r xs e1 e2 => ?_⟩
  have := h3 i r xs e1 e2
  exact b _ _ (fun z => hq xs (z ▸ this)) this
theorem Rd.ntup {C : Addr} {H : Hp} {p : Addr} {S : Src} {a d : Nat} (R : Rd C H p S a d) : ∀ xs, H p ≠ some (.tup xs) := fun xs e => by
  obtain ⟨z, _, ⟨dx, h⟩, _⟩ := R.ex
  rw [h] at e
  cases e
theorem Rd.tups {C : Addr} {H H' : Hp} {p : Addr} {S : Src} {a d : Nat} (R : Rd C H p S a d) (b : But p H H') : Tups H H' := fun x vs h => b _ _ (fun z => R.ntup vs (z ▸ h)) h
/-- moved -/
theorem Rd.move {C : Addr} {H H' : Hp} {p : Addr} {S : Src} {a d a' d' : Nat} (R : Rd C H p S a d) {z : Str} {r : Addr} (R0 : Raw C H p z r a d) (b : But p H H') (h : Raw C H' p z r a' d') (ha : a' ≤ S.n) : Rd C H' p S a' d' := by
  obtain ⟨z', e1, ⟨dx, e2⟩, e3⟩ := R.ex
  generalize hr' : S.r = r' at *
  obtain ⟨dy, e4⟩ := R0
  have e5 := (Option.some.inj (e2.symm.trans e4))
  have e6 := congrArg (fun o => match o with | HO.ins _ _ fs => fs | _ => []) e5
  have e7 : (rf z' r' a d).lookup ("source" : Str) = (rf z r a d).lookup ("source" : Str) := congrArg (List.lookup ("source" : Str)) e6
  have e8 : (rf z' r' a d).lookup ("row" : Str) = (rf z r a d).lookup ("row" : Str) := congrArg (List.lookup ("row" : Str)) e6
  rw [rf_source, rf_source] at e7
  rw [rf_row, rf_row] at e8
  cases e7
  cases e8
  have e9 : LT H' r (S.ts.map tkV) := by
    refine e3.but b R.ntup fun z => ?_
    obtain ⟨rs, g1, _⟩ := e3
    rw [z, e2] at g1
    cases g1
  exact ⟨⟨_, e1, by rw [hr']; exact h, by rw [hr']; exact e9⟩, R.hl, R.hn, ha, R.pl, R.nu⟩
theorem Rd.same {C : Addr} {H H' : Hp} {p : Addr} {S : Src} {a d : Nat} (R : Rd C H p S a d) (s : Same H H') : Rd C H' p S a d := by
  obtain ⟨z, e1, ⟨dx, e2⟩, e3⟩ := R.ex
  exact ⟨⟨z, e1, ⟨dx, s _ _ e2⟩, e3.same s⟩, R.hl, R.hn, R.ha, R.pl, R.nu⟩
/-- another list changes -/
theorem Rd.updL {C : Addr} {H : Hp} {p L : Addr} {S : Src} {a d : Nat} {vs ws : List V} (R : Rd C H p S a d) (h : H L = some (.lst vs)) (hr : S.r ≠ L) : Rd C (upd H L (.lst ws)) p S a d := by
  obtain ⟨z, e1, ⟨dx, e2⟩, rs, g1, g2, g3⟩ := R.ex
  have pL : p ≠ L := fun z => by rw [z, h] at e2; cases e2
  exact ⟨⟨z, e1, ⟨dx, by rw [upd_ne pL]; exact e2⟩, rs, by rw [upd_ne hr]; exact g1, g2, fun i r xs a b => by
    have := g3 i r xs a b
    rw [upd_ne (fun z => by rw [z, h] at this; cases this)]
    exact this⟩, R.hl, R.hn, R.ha, R.pl, R.nu⟩
theorem Rd.row {C : Addr} {H : Hp} {p : Addr} {S : Src} {a d : Nat} (R : Rd C H p S a d) : ∃ ys, H S.r = some (.lst ys) := let ⟨_, _, _, rs, h, _⟩ := R.ex; ⟨_, h⟩
section
variable {X : Cx} {C : Addr} {o v : Expr} {pos pos' : Pos} {ta tv : TE} {w : World} {mg : Str → Option Value} {aW CS aR : Addr} {tS t0 t1 t2 t3 t4 t5 t6 : PySem.Tok}
def tRd (C : Addr) (sel : Str → Addr → Int → Int → V) (ta : TE) : TE := fun σ H Q => ta σ H fun x H1 => ∃ p z r a d, x = .ref p ∧ Raw C H1 p z r a d ∧ Q (sel z r a d) H1
theorem pe_rd {f : Str} {sel : Str → Addr → Int → Int → V} (cl : Cls X.K C) (na : NoAttr X.K C f) (hl : ∀ z r a d, (rf z r a d).lookup f = some (sel z r a d)) (he : PE X o ta) (hb : attributeBase o f X.env (eval o X.env) = eval o X.env) : PE X (.Attribute o f pos) (tRd C sel ta) := by
  refine PE.imp (pe_fld (PE.up he) hb) fun σ H Q h => ⟨_, h, ?_⟩
  rintro x H1 ⟨p, z, r, a, d, rfl, ⟨dx, e⟩, q⟩
  exact ⟨p, C, dx, _, _, rfl, e, cl, na, hl z r a d, q⟩
theorem pe_rd_source (T : NmR X.K w mg aW tS C CS aR t0 t1 t2 t3 t4 t5 t6) (he : PE X o ta) (hb : attributeBase o "source" X.env (eval o X.env) = eval o X.env := by rfl) : PE X (.Attribute o "source" pos) (tRd C (fun z _ _ _ => .str z) ta) := pe_rd T.cl_Reader T.n_source (fun _ _ _ _ => rf_source) he hb
theorem pe_rd_row (T : NmR X.K w mg aW tS C CS aR t0 t1 t2 t3 t4 t5 t6) (he : PE X o ta) (hb : attributeBase o "row" X.env (eval o X.env) = eval o X.env := by rfl) : PE X (.Attribute o "row" pos) (tRd C (fun _ r _ _ => .ref r) ta) := pe_rd T.cl_Reader T.n_row (fun _ _ _ _ => rf_row) he hb
theorem pe_rd_at (T : NmR X.K w mg aW tS C CS aR t0 t1 t2 t3 t4 t5 t6) (he : PE X o ta) (hb : attributeBase o "at" X.env (eval o X.env) = eval o X.env := by rfl) : PE X (.Attribute o "at" pos) (tRd C (fun _ _ a _ => .int a) ta) := pe_rd T.cl_Reader T.n_at (fun _ _ _ _ => rf_at) he hb
theorem pe_rd_depth (T : NmR X.K w mg aW tS C CS aR t0 t1 t2 t3 t4 t5 t6) (he : PE X o ta) (hb : attributeBase o "depth" X.env (eval o X.env) = eval o X.env := by rfl) : PE X (.Attribute o "depth" pos) (tRd C (fun _ _ _ d => .int d) ta) := pe_rd T.cl_Reader T.n_depth (fun _ _ _ _ => rf_depth) he hb
/-- self.at += e, self.depth += e -/
def tRdA (C : Addr) (ta tv : TE) (rd : V → V → Hp → VK → Prop) : TS := fun D σ H => ta σ H fun x H1 => ∃ p z r a d, x = .ref p ∧ Raw C H1 p z r a d ∧ tv σ H1 fun y H2 => rd (.int a) y H2 fun u H3 => ∃ a' : Int, u = .int a' ∧ Raw C H3 p z r a d ∧ ∀ H', But p H3 H' → Raw C H' p z r a' d → D.nx σ H'
def tRdD (C : Addr) (ta tv : TE) (rd : V → V → Hp → VK → Prop) : TS := fun D σ H => ta σ H fun x H1 => ∃ p z r a d, x = .ref p ∧ Raw C H1 p z r a d ∧ tv σ H1 fun y H2 => rd (.int d) y H2 fun u H3 => ∃ d' : Int, u = .int d' ∧ Raw C H3 p z r a d ∧ ∀ H', But p H3 H' → Raw C H' p z r a d' → D.nx σ H'
/-- operators that answer by what follows -/
def Mon (rd : V → V → Hp → VK → Prop) : Prop := ∀ x y H (Q Q' : VK), (∀ v H', Q v H' → Q' v H') → rd x y H Q → rd x y H Q'
theorem mon_add : Mon rAdd := fun x y H Q Q' i ⟨a, b, e1, e2, q⟩ => ⟨a, b, e1, e2, i _ _ q⟩
theorem mon_sub : Mon rSub := fun x y H Q Q' i ⟨a, b, e1, e2, q⟩ => ⟨a, b, e1, e2, i _ _ q⟩
theorem aug_at {op : Operator} {rd : V → V → Hp → VK → Prop} {i : Int} {j : Nat} {cp : Pos} (cl : Cls X.K C) (na : NoAttr X.K C "at") (m : Mon rd) (he : PE X o ta) (hop : InOp X op rd) : PS X (.AugAssign (.Attribute o "at" pos') op (.Constant (.int i) j cp) pos) (tRdA C ta (tC (.int i)) rd) := by
  refine PS.imp (ps_fldaug (PE.up he) pe_int hop) fun D σ H h => ⟨_, h, ?_⟩
  rintro x H1 ⟨p, z, r, a, d, rfl, ⟨dx, e⟩, q⟩
  refine ⟨p, C, dx, _, _, rfl, e, cl, na, rf_at, m _ _ _ _ _ ?_ q⟩
  rintro u H3 ⟨a', rfl, ⟨dx', e'⟩, q'⟩
  refine ⟨dx', _, e', (by show 4 < 1000; decide), q' _ (But.refl _ _).upd ⟨dx', ?_⟩⟩
  rw [upd_same, rf_at']
theorem aug_depth {op : Operator} {rd : V → V → Hp → VK → Prop} {i : Int} {j : Nat} {cp : Pos} (cl : Cls X.K C) (na : NoAttr X.K C "depth") (m : Mon rd) (he : PE X o ta) (hop : InOp X op rd) : PS X (.AugAssign (.Attribute o "depth" pos') op (.Constant (.int i) j cp) pos) (tRdD C ta (tC (.int i)) rd) := by
  refine PS.imp (ps_fldaug (PE.up he) pe_int hop) fun D σ H h => ⟨_, h, ?_⟩
  rintro x H1 ⟨p, z, r, a, d, rfl, ⟨dx, e⟩, q⟩
  refine ⟨p, C, dx, _, _, rfl, e, cl, na, rf_depth, m _ _ _ _ _ ?_ q⟩
  rintro u H3 ⟨d', rfl, ⟨dx', e'⟩, q'⟩
  refine ⟨dx', _, e', (by show 4 < 1000; decide), q' _ (But.refl _ _).upd ⟨dx', ?_⟩⟩
  rw [upd_same, rf_depth']
theorem ps_rd_at {i : Int} {j : Nat} {cp : Pos} (T : NmR X.K w mg aW tS C CS aR t0 t1 t2 t3 t4 t5 t6) (he : PE X o ta) (_ : PE X (.Constant (.int i) j cp) (tC (.int i))) (hop : InOp X .Add rAdd) : PS X (.AugAssign (.Attribute o "at" pos') .Add (.Constant (.int i) j cp) pos) (tRdA C ta (tC (.int i)) rAdd) := aug_at T.cl_Reader T.n_at mon_add he hop
theorem ps_rd_depth {op : Operator} {rd : V → V → Hp → VK → Prop} {i : Int} {j : Nat} {cp : Pos} (T : NmR X.K w mg aW tS C CS aR t0 t1 t2 t3 t4 t5 t6) (he : PE X o ta) (_ : PE X (.Constant (.int i) j cp) (tC (.int i))) (hop : InOp X op rd) (m : Mon rd := by first | exact mon_add | exact mon_sub) : PS X (.AugAssign (.Attribute o "depth" pos') op (.Constant (.int i) j cp) pos) (tRdD C ta (tC (.int i)) rd) := aug_depth T.cl_Reader T.n_depth m he hop
end
/-! ### the error -/
/-- what SyntaxProblem's __init__ does -/
def spXI (C : Addr) : Sp := fun vs H Q _ => ∃ (a : Addr) (x y : V), vs = [.ref a, x, y] ∧ H a = some (exo a C none) ∧ ∀ dx, H dx = none → dx ≠ a → Q .non (upd (upd (upd H dx (exd dx [("start", x)])) a (exo a C (some dx))) dx (exd dx [("end", y), ("start", x)]))
structure ExI (P : Program) (w : World) (K : PySem.W.Frag) (mg : Str → Option Value) (base : Heap) (k : Nat) (C : Addr) (sp : Sp) : Prop where
  ex : ∃ (f : Addr) (fd : FuncData) (ps : List Str), FnOk P w K mg base CX0 k f fd ps sp ∧ PySem.W.findIn K (.ref C) "__init__" = some (some (.ref f)) ∧ PySem.W.typeIn K (.ref f) = some (.type "function") ∧ Binds K fd ps []
theorem pmk_x {X : Cx} {x : Str} {C : Addr} {k j : Nat} {sp : Sp} {p pos : Pos} {e : Expr} {es : List Expr} {ta : TA} (c : ExI X.prog X.w X.K X.mg X.base k C sp) (T : OexC X.K C) (hr : Room j X.A) (hk : k + 1 ≤ j) (hm : X.mg x = some (.ref C)) (ha : PA X (e :: es) ta) (hg : Gl X x := by rfl)
    (hdb : (x == ("__debug__" : Str)) = false := by decide) (he : starEach (e :: es) X.env = (false, eval e X.env) :: starEach es X.env := by rfl) (hpl : (backTo pos (starEach es X.env)).any (·.1) = false := by rfl) :
    L2N.PMk X (.Call (.Name x p) (e :: es) [] pos) (tMkO C sp [] ta) := by
  obtain ⟨f, fd, ps, F, iC, tI, b⟩ := c.ex
  exact pmk_oexN T iC tI F (hr.mono hk) b pass0 hg hm ha hdb he hpl
/-- where the error goes: its dict -/
def xdE (H : Hp) (dd : Addr) (s e : Nat) : Prop := H dd = some (.xd [("end", .int (e : Int)), ("start", .int (s : Int))])
/-- a class whose instances are made by its name -/
structure CalK (P : Program) (w : World) (K : PySem.W.Frag) (mg : Str → Option Value) (base : Heap) (CX : CXT) (k : Nat) (C : Addr) (sp : Sp) : Prop where
  ex : ∃ (f : Addr) (fd : FuncData) (ps : List Str), FnOk P w K mg base CX k f fd ps sp ∧ Mk K C f ∧ Binds K fd ps []
theorem pe_mk {X : Cx} {x : Str} {C : Addr} {k j : Nat} {sp : Sp} {p pos : Pos} {e : Expr} {es : List Expr} {t : TA} {CX : CXT} {E : XK} (c : CalK X.prog X.w X.K X.mg X.base CX k C sp) (hr : Room j X.A) (hk : k + 1 ≤ j) (hm : X.mg x = some (.ref C)) (hx : Passes CX X E) (ha : PA X (e :: es) t) (hg : Gl X x := by rfl)
    (hdb : (x == ("__debug__" : Str)) = false := by decide) (he : starEach (e :: es) X.env = (false, eval e X.env) :: starEach es X.env := by rfl) (hpl : (backTo pos (starEach es X.env)).any (·.1) = false := by rfl) :
    PE X (.Call (.Name x p) (e :: es) [] pos) (tMake C sp [] E t) := by
  obtain ⟨f, fd, ps, F, M, b⟩ := c.ex
  exact pe_make M F (hr.mono hk) hg hm b .nil hx ha hdb he hpl
section
variable {P : Program} {w : World} {K : PySem.W.Frag} {mg : Str → Option Value} {base : Heap} {f : Addr} {fd : FuncData} {aW CR CS aR : Addr} {tS t0 t1 t2 t3 t4 t5 t6 : PySem.Tok}
abbrev s_SP_init : Stmt := inClass (topS 2) 0
abbrev N_SP_init : List Str := ["self", "start", "end"]
theorem sc_SP_init : FnScope N_SP_init ["self", "start", "end"] (defScope s_SP_init) := ⟨rfl, rfl, rfl, by decide +kernel, rfl, by decide +kernel, by decide +kernel⟩
theorem ok_SP_init (F : Fun K "__init__" "SyntaxProblem.__init__" s_SP_init f fd) (T : NmR K w mg aW tS CR CS aR t0 t1 t2 t3 t4 t5 t6) : FnOk P w K mg base CX0 1 f fd ["self", "start", "end"] (spXI CS) := by
  refine F.ok sc_SP_init (fun vs H Q E h => ?_) (fun cdv A outer s H vs Q E hr h => ?_)
  · obtain ⟨a, x, y, rfl, _⟩ := h
    rfl
  obtain ⟨a, x, y, rfl, ha, q⟩ := h
  refine ⟨_, (pss_cons (ps_ost (pv 0) (pv 1))
    (pss_one (ps_ost (pv 0) (pv 2)))), ?_⟩
  refine ⟨_, rfl, _, rfl, a, CS, rfl, T.oex, T.s_start, .inl ⟨ha, fun dx nd ne => ?_⟩⟩
  refine ⟨_, rfl, _, rfl, a, CS, rfl, T.oex, T.s_end, .inr ⟨dx, _, upd_same, by rw [upd_ne ne, upd_same], by show 1 ≤ 900; decide, q dx nd ne⟩⟩
/-- the heap behind the error -/
theorem xd_end {H : Hp} {a dx : Addr} {x y : V} (na : H a = none) (nd : upd H a (exo a CS none) dx = none) (ne : dx ≠ a) :
    Same H (upd (del (upd (upd (upd (upd H a (exo a CS none)) dx (exd dx [("start", x)])) a (exo a CS (some dx))) dx (exd dx [("end", y), ("start", x)])) a) dx (.xd [("end", y), ("start", x)])) ∧
    upd (del (upd (upd (upd (upd H a (exo a CS none)) dx (exd dx [("start", x)])) a (exo a CS (some dx))) dx (exd dx [("end", y), ("start", x)])) a) dx (.xd [("end", y), ("start", x)]) dx = some (.xd [("end", y), ("start", x)]) := by
  rw [upd_ne ne] at nd
  refine ⟨fun b o h => ?_, upd_same⟩
  have h1 : b ≠ a := fun z => by rw [z, na] at h; cases h
  have h2 : b ≠ dx := fun z => by rw [z, nd] at h; cases h
  rw [upd_ne h2, del_ne h1, upd_ne h2, upd_ne h1, upd_ne h2, upd_ne h1]
  exact h
end

end Sn

namespace Sn
open PySem PySem.Spec PyProof.Rows L2 TL
/-! ### small steps of the reader -/
theorem Rd.nor {C : Addr} {H : Hp} {p : Addr} {S : Src} {a d : Nat} (R : Rd C H p S a d) : ∃ (z : Str) (r : Addr) (rs : List Addr), tl z = S.l ∧ Raw C H p z r a d ∧ H r = some (.lst (rs.map V.ref)) ∧ rs.length = S.n ∧
    ∀ (i : Nat) (t : Tok), S.ts[i]? = some t → ∃ q : Addr, (rs.map V.ref)[i]? = some (.ref q) ∧ H q = some (.tup (tkV t)) := by
  obtain ⟨z, e1, e2, rs, h1, h2, h3⟩ := R.ex
  rw [List.length_map] at h2
  refine ⟨z, S.r, rs, e1, e2, h1, h2, fun i t ht => ?_⟩
  have hi := (List.getElem?_eq_some_iff.mp ht).1
  have hi2 : i < rs.length := by omega
  have g := List.getElem?_eq_getElem hi2
  exact ⟨rs[i], by rw [List.getElem?_map, g]; rfl, h3 i _ _ g (by rw [List.getElem?_map, ht]; rfl)⟩
theorem Src.tok {S : Src} {a : Nat} (h : a < S.n) : ∃ t, S.ts[a]? = some t := ⟨_, List.getElem?_eq_getElem h⟩
theorem at_nat {xs : List V} {v : V} {i : Nat} (h : xs[i]? = some v) : atI xs (i : Int) = some v := at_of rfl h
section
variable {S : Src} {a : Nat} {t : Tok}
theorem wd_of (h : S.ts[a]? = some t) : S.wd a = (S.l.drop t.2.1).take (t.2.2 - t.2.1) := by unfold Src.wd; rw [h]
theorem so_of (h : S.ts[a]? = some t) : S.so a = t.1 := by unfold Src.so; rw [h]
theorem st_of (h : S.ts[a]? = some t) : S.st a = t.2.1 := by unfold Src.st; rw [h]
theorem en_of (h : S.ts[a]? = some t) : S.en a = t.2.2 := by unfold Src.en; rw [h]
theorem wd_end (h : ¬ a < S.n) : S.wd a = [] := by unfold Src.wd; rw [List.getElem?_eq_none (by unfold Src.n at h; omega)]
theorem so_end (h : ¬ a < S.n) : S.so a = "" := by unfold Src.so; rw [List.getElem?_eq_none (by unfold Src.n at h; omega)]
theorem fp_of (h : S.ts[a]? = some t) : S.fp a = (t.2.1, t.2.2) := by unfold Src.fp; rw [h]
theorem lt_of_wd {w : Str} (h : S.eqW a w = true) (hw : tl w ≠ []) : a < S.n := by
  unfold Src.eqW at h
  have h := of_decide_eq_true h
  by_cases k : a < S.n
  · exact k
  · rw [wd_end k] at h
    exact absurd h.symm hw
theorem lt_of_so {w : Str} (h : S.so a = w) (hw : w ≠ "") : a < S.n := by
  by_cases k : a < S.n
  · exact k
  · rw [so_end k] at h
    exact absurd h.symm hw
end
/-- what is asked of a reading that ends so -/
def TK (C CS p : Addr) (S : Src) (d : Nat) (H : Hp) (Q : VK) (E : XK) : Rs Tn → Prop
  | .un => False
  | .ok t a' => ∀ H' v, But p H H' → Rd C H' p S a' d → DT H' t.d v → Q v H'
  | .no s e => ∀ H' dd, But p H H' → xdE H' dd s e → E (.ref CS) (some dd) H'
def failK (CS p : Addr) (H : Hp) (E : XK) (s e : Nat) : Prop := ∀ H' dd, But p H H' → xdE H' dd s e → E (.ref CS) (some dd) H'
def spFail (C CS : Addr) : Sp := fun vs H _ E => ∃ p S a d, vs = [.ref p] ∧ Rd C H p S a d ∧ failK CS p H E (S.fp a).1 (S.fp a).2
def spEnded (C : Addr) : Sp := fun vs H Q _ => ∃ p S a d, vs = [.ref p] ∧ Rd C H p S a d ∧ Q (.bl (decide (¬ a < S.n))) H
def spSort (C : Addr) : Sp := fun vs H Q _ => ∃ p S a d, vs = [.ref p] ∧ Rd C H p S a d ∧ Q (.str (S.so a)) H
def spStart (C : Addr) : Sp := fun vs H Q _ => ∃ p S a d, vs = [.ref p] ∧ Rd C H p S a d ∧ a < S.n ∧ Q (.int (S.st a : Int)) H
def spLast (C : Addr) : Sp := fun vs H Q _ => ∃ p S a d, vs = [.ref p] ∧ Rd C H p S (a + 1) d ∧ Q (.int (S.en a : Int)) H
def spPeek (C : Addr) : Sp := fun vs H Q _ => ∃ p S a d, vs = [.ref p] ∧ Rd C H p S a d ∧ Q (.str (strL (S.wd a))) H
def spTaken (C : Addr) : Sp := fun vs H Q _ => ∃ p S a d w, vs = [.ref p, .str w] ∧ Rd C H p S a d ∧ tl w ≠ [] ∧ (if S.eqW a w = true then ∀ H', But p H H' → Rd C H' p S (a + 1) d → Q (.bl true) H' else Q (.bl false) H)
def spExpect (C CS : Addr) : Sp := fun vs H Q E => ∃ p S a d w, vs = [.ref p, .str w] ∧ Rd C H p S a d ∧ tl w ≠ [] ∧ (if S.eqW a w = true then ∀ H', But p H H' → Rd C H' p S (a + 1) d → Q .non H' else failK CS p H E (S.fp a).1 (S.fp a).2)
def spMark (C CS : Addr) : Sp := fun vs H Q E => ∃ p S a d, vs = [.ref p] ∧ Rd C H p S a d ∧ (if S.isN a = true then ∀ H' x, But p H H' → Rd C H' p S (a + 1) d → H' x = some (.tup [.str (strL (S.wd a)), .int (S.st a : Int)]) → Q (.ref x) H' else failK CS p H E (S.fp a).1 (S.fp a).2)
def spBegin (C CS : Addr) : Sp := fun vs H Q E => ∃ p S a d, vs = [.ref p] ∧ Rd C H p S a d ∧ (if d = 30 ∨ ¬ a < S.n then failK CS p H E (S.fp a).1 (S.fp a).2 else ∀ H', But p H H' → Rd C H' p S a (d + 1) → Q (.int (S.st a : Int)) H')
def spNum : Sp := fun vs H Q _ => ∃ z : Str, vs = [.str z] ∧ (tl z).all isD = true ∧ Q (.int (Src.numv (tl z))) H
section
variable {P : Program} {w : World} {K : PySem.W.Frag} {mg : Str → Option Value} {base : Heap} {f : Addr} {fd : FuncData} {aW CR CS aR : Addr} {tS t0 t1 t2 t3 t4 t5 t6 : PySem.Tok}
abbrev s_Reader_fail : Stmt := inClass (topS 25) 1
abbrev N_Reader_fail : List Str := ["self", "end"]
theorem sc_Reader_fail : FnScope N_Reader_fail ["self"] (defScope s_Reader_fail) := ⟨rfl, rfl, rfl, by decide +kernel, rfl, by decide +kernel, by decide +kernel⟩
theorem ok_fail (F : Fun K "fail" "Reader.fail" s_Reader_fail f fd) (T : NmR K w mg aW tS CR CS aR t0 t1 t2 t3 t4 t5 t6) (I_SyntaxProblem : ExI P w K mg base 1 CS (spXI CS)) : FnOk P w K mg base (L2N.CX P w) 3 f fd ["self"] (spFail CR CS) := by
  refine okXN F sc_Reader_fail (fun vs H Q E h => ?_) (fun cdv A outer s H vs Q E hr h => ?_)
  · obtain ⟨p, S, a, d, rfl, _⟩ := h
    rfl
  obtain ⟨p, S, a, d, rfl, R, q⟩ := h
  refine ⟨_, (pss_cons (ps_if (pt_cmpR op_lt (pe_rd_at T (pv 0)) (pe_callB call_len_seq (by rfl) T.len PySem.boot_len (pa_cons (pe_rd_row T (pv 0)) pa_nil)) (nomark _)) (pss_one (L2N.ps_raise rfl (L2N.takes_of rfl rfl rfl rfl) (pmk_x I_SyntaxProblem T.oex hr (by first | decide | omega) T.mgS (pa_cons (pe_ix (r := rIxT K) ix_tup (pe_ix (r := rIxL K) ix_list (pe_rd_row T (pv 0)) (pe_rd_at T (pv 0)) (fun _ _ => rfl)) pe_int (fun _ _ => rfl)) (pa_cons (pe_ix (r := rIxT K) ix_tup (pe_ix (r := rIxL K) ix_list (pe_rd_row T (pv 0)) (pe_rd_at T (pv 0)) (fun _ _ => rfl)) pe_int (fun _ _ => rfl)) pa_nil))))) pss_nil)
    (pss_cons (ps_set (i := 1) sc_Reader_fail.nd rfl (Or.inl rfl) (pe_ifExp (pt_truth (pe_rd_row T (pv 0)) (by intro _; rfl)) (pe_ix (r := rIxT K) ix_tup (pe_ix (r := rIxL K) ix_list (pe_rd_row T (pv 0)) (pe_un un_neg pe_int) (fun _ _ => rfl)) pe_int (fun _ _ => rfl)) pe_int))
    (pss_one (L2N.ps_raise rfl (L2N.takes_of rfl rfl rfl rfl) (pmk_x I_SyntaxProblem T.oex hr (by first | decide | omega) T.mgS (pa_cons (pv 1) (pa_cons (pv 1) pa_nil))))))), ?_⟩
  obtain ⟨z, r, rs, ez, raw, hr0, hl, tk⟩ := R.nor
  have out : ∀ (x y : Nat), ((S.fp a).1 = x) → ((S.fp a).2 = y) → ∀ a2, H a2 = none → ∀ dx, upd H a2 (exo a2 CS none) dx = none → dx ≠ a2 → (V.non = V.non ∧ ∃ d fs, upd (upd (upd (upd H a2 (exo a2 CS none)) dx (exd dx [("start", .int (x : Int))])) a2 (exo a2 CS (some dx))) dx (exd dx [("end", .int (y : Int)), ("start", .int (x : Int))]) a2 = some (exo a2 CS (some d)) ∧
      upd (upd (upd (upd H a2 (exo a2 CS none)) dx (exd dx [("start", .int (x : Int))])) a2 (exo a2 CS (some dx))) dx (exd dx [("end", .int (y : Int)), ("start", .int (x : Int))]) d = some (exd d fs) ∧ H d = none ∧ E (.ref CS) (some d) (upd (del (upd (upd (upd (upd H a2 (exo a2 CS none)) dx (exd dx [("start", .int (x : Int))])) a2 (exo a2 CS (some dx))) dx (exd dx [("end", .int (y : Int)), ("start", .int (x : Int))])) a2) d (.xd fs))) := by
    intro x y ex ey a2 na dx nd ne
    subst ex ey
    obtain ⟨k1, k2⟩ := xd_end (CS := CS) (x := .int ((S.fp a).1 : Int)) (y := .int ((S.fp a).2 : Int)) na nd ne
    refine ⟨rfl, dx, _, by rw [upd_ne ne.symm, upd_same], upd_same, by rw [upd_ne ne] at nd; exact nd, q _ dx (But.of k1) k2⟩
  refine ⟨_, rfl, p, z, r, _, _, rfl, raw, _, rfl, p, z, r, _, _, rfl, raw, r, _, rfl, .inl (.inl (.inl hr0)), _, _, rfl, rfl, _, rfl, ?_⟩
  rw [List.length_map, hl]
  refine ite2 (fun h1 => ?_) (fun h1 => ?_)
  · have h1 : (a : Int) < (S.n : Int) := of_decide_eq_true h1
    have h1 : a < S.n := by omega
    obtain ⟨t, ht⟩ := Src.tok h1
    obtain ⟨qq, g, hq⟩ := tk a t ht
    refine ⟨_, rfl, p, z, r, _, _, rfl, raw, _, rfl, p, z, r, _, _, rfl, raw, r, _, _, _, rfl, rfl, .inl (.inl hr0), at_nat g, qq, _, _, _, rfl, rfl, .inl (.inl hq), at_nat (i := 1) rfl, ?_⟩
    refine ⟨_, rfl, p, z, r, _, _, rfl, raw, _, rfl, p, z, r, _, _, rfl, raw, r, _, _, _, rfl, rfl, .inl (.inl hr0), at_nat g, qq, _, _, _, rfl, rfl, .inl (.inl hq), at_nat (i := 2) rfl, ?_⟩
    refine ⟨by show 2 ≤ 1000; decide, fun a2 na => ⟨a2, _, _, rfl, upd_same, fun dx nd ne => ?_⟩⟩
    exact out t.2.1 t.2.2 (by rw [fp_of ht]) (by rw [fp_of ht]) a2 na dx nd ne
  · have h1 : ¬ a < S.n := fun k => h1 (decide_eq_true (show (a : Int) < (S.n : Int) by omega))
    refine ⟨_, rfl, p, z, r, _, _, rfl, raw, _, .inl ⟨_, .inl (.inl hr0), rfl⟩, ?_⟩
    have hfp : S.fp a = match S.ts.getLast? with | some t => (t.2.2, t.2.2) | none => (0, 0) := by unfold Src.fp; rw [List.getElem?_eq_none (by unfold Src.n at h1; omega)] <;> rfl
    cases hts : S.ts.getLast? with
    | none =>
      have : S.ts = [] := List.getLast?_eq_none_iff.mp hts
      have hrs : rs = [] := List.length_eq_zero_iff.mp (by rw [hl]; unfold Src.n; rw [this]; rfl)
      rw [hts] at hfp
      subst hrs
      refine iteF ?_
      refine ⟨_, rfl, _, rfl, by show 2 ≤ 1000; decide, fun a2 na => ⟨a2, _, _, rfl, upd_same, fun dx nd ne => ?_⟩⟩
      exact out 0 0 (by rw [hfp]) (by rw [hfp]) a2 na dx nd ne
    | some t =>
      have hne : S.ts ≠ [] := fun e => by rw [e] at hts; cases hts
      have hpos : 0 < S.n := List.length_pos_iff.mpr hne
      have ht : S.ts[S.n - 1]? = some t := by
        rw [List.getLast?_eq_getElem?] at hts
        exact hts
      obtain ⟨qq, g, hq⟩ := tk _ t ht
      rw [hts] at hfp
      have hb : (!(rs.map V.ref).isEmpty) = true := by
        cases rs with
        | nil => simp at hl; omega
        | cons _ _ => rfl
      rw [hb]
      refine iteT ?_
      have hlast : atI (rs.map V.ref) (-1) = some (.ref qq) := by
        have e : (rs.map V.ref).length - 1 = S.n - 1 := by rw [List.length_map, hl]
        have e2 : ixN (rs.map V.ref).length (-1) = some (S.n - 1) := by
          unfold ixN
          rw [if_neg (by omega), if_pos (by rw [List.length_map, hl]; omega), List.length_map, hl]
          congr 1
          omega
        unfold atI
        rw [e2]
        exact g
      refine ⟨_, rfl, p, z, r, _, _, rfl, raw, 1, rfl, r, _, _, _, rfl, rfl, .inl (.inl hr0), hlast, qq, _, _, _, rfl, rfl, .inl (.inl hq), at_nat (i := 2) rfl, ?_⟩
      refine ⟨_, rfl, _, rfl, by show 2 ≤ 1000; decide, fun a2 na => ⟨a2, _, _, rfl, upd_same, fun dx nd ne => ?_⟩⟩
      exact out t.2.2 t.2.2 (by rw [hfp]) (by rw [hfp]) a2 na dx nd ne
abbrev s_Reader_ended : Stmt := inClass (topS 25) 2
abbrev N_Reader_ended : List Str := ["self"]
theorem sc_Reader_ended : FnScope N_Reader_ended ["self"] (defScope s_Reader_ended) := ⟨rfl, rfl, rfl, by decide +kernel, rfl, by decide +kernel, by decide +kernel⟩
theorem ok_ended (F : Fun K "ended" "Reader.ended" s_Reader_ended f fd) (T : NmR K w mg aW tS CR CS aR t0 t1 t2 t3 t4 t5 t6) : FnOk P w K mg base CX0 1 f fd ["self"] (spEnded CR) := by
  refine F.ok sc_Reader_ended (fun vs H Q E h => ?_) (fun cdv A outer s H vs Q E hr h => ?_)
  · obtain ⟨p, S, a, d, rfl, _⟩ := h
    rfl
  obtain ⟨p, S, a, d, rfl, R, q⟩ := h
  refine ⟨_, (pss_one (ps_ret (pe_cmpR op_eq (pe_rd_at T (pv 0)) (pe_callB call_len_seq (by rfl) T.len PySem.boot_len (pa_cons (pe_rd_row T (pv 0)) pa_nil)) (nomark _)))), ?_⟩
  obtain ⟨z, r, rs, ez, raw, hr0, hl, tk⟩ := R.nor
  refine ⟨_, rfl, p, z, r, _, _, rfl, raw, _, rfl, p, z, r, _, _, rfl, raw, r, _, rfl, .inl (.inl (.inl hr0)), rfl, ?_⟩
  have ha := R.ha
  have e : decide (V.int (a : Int) = V.int (((rs.map V.ref).length : Nat) : Int)) = decide (¬ a < S.n) := by
    rw [List.length_map, hl]
    by_cases k : a < S.n
    · rw [decide_eq_false (fun e => by injection e with e; omega), decide_eq_false (fun h => h k)]
    · rw [decide_eq_true (by congr 1; omega), decide_eq_true k]
  rw [e]
  exact q
abbrev s_Reader_next_sort : Stmt := inClass (topS 25) 3
abbrev N_Reader_next_sort : List Str := ["self"]
theorem sc_Reader_next_sort : FnScope N_Reader_next_sort ["self"] (defScope s_Reader_next_sort) := ⟨rfl, rfl, rfl, by decide +kernel, rfl, by decide +kernel, by decide +kernel⟩
theorem ok_next_sort (F : Fun K "next_sort" "Reader.next_sort" s_Reader_next_sort f fd) (T : NmR K w mg aW tS CR CS aR t0 t1 t2 t3 t4 t5 t6) (C_Reader_ended : CalM P w K mg base CX0 1 CR "ended" (spEnded CR)) : FnOk P w K mg base CX0 2 f fd ["self"] (spSort CR) := by
  refine F.ok sc_Reader_next_sort (fun vs H Q E h => ?_) (fun cdv A outer s H vs Q E hr h => ?_)
  · obtain ⟨p, S, a, d, rfl, _⟩ := h
    rfl
  obtain ⟨p, S, a, d, rfl, R, q⟩ := h
  refine ⟨_, (pss_one (ps_ret (pe_ifExp (pt_val (pe_m0 ns_Reader C_Reader_ended T.cl_Reader (by decide) hr (by first | decide | omega) pass0 (pv 0))) pe_str (pe_ix (r := rIxT K) ix_tup (pe_ix (r := rIxL K) ix_list (pe_rd_row T (pv 0)) (pe_rd_at T (pv 0)) (fun _ _ => rfl)) pe_int (fun _ _ => rfl))))), ?_⟩
  obtain ⟨z, r, rs, ez, raw, hr0, hl, tk⟩ := R.nor
  refine ⟨_, rfl, p, rfl, R.isI, p, S, a, d, rfl, R, _, rfl, ?_⟩
  by_cases k : a < S.n
  · obtain ⟨t, ht⟩ := Src.tok k
    obtain ⟨qq, g, hq⟩ := tk a t ht
    refine iteN (fun z : ¬ a < S.n => z k) ?_
    refine ⟨_, rfl, p, z, r, _, _, rfl, raw, _, rfl, p, z, r, _, _, rfl, raw, r, _, _, _, rfl, rfl, .inl (.inl hr0), at_nat g, qq, _, _, _, rfl, rfl, .inl (.inl hq), at_nat (i := 0) rfl, ?_⟩
    rw [so_of ht] at q
    exact q
  · refine iteP k ?_
    rw [so_end k] at q
    exact q
abbrev s_Reader_next_start : Stmt := inClass (topS 25) 4
abbrev N_Reader_next_start : List Str := ["self"]
theorem sc_Reader_next_start : FnScope N_Reader_next_start ["self"] (defScope s_Reader_next_start) := ⟨rfl, rfl, rfl, by decide +kernel, rfl, by decide +kernel, by decide +kernel⟩
theorem ok_next_start (F : Fun K "next_start" "Reader.next_start" s_Reader_next_start f fd) (T : NmR K w mg aW tS CR CS aR t0 t1 t2 t3 t4 t5 t6) : FnOk P w K mg base CX0 1 f fd ["self"] (spStart CR) := by
  refine F.ok sc_Reader_next_start (fun vs H Q E h => ?_) (fun cdv A outer s H vs Q E hr h => ?_)
  · obtain ⟨p, S, a, d, rfl, _⟩ := h
    rfl
  obtain ⟨p, S, a, d, rfl, R, k, q⟩ := h
  refine ⟨_, (pss_one (ps_ret (pe_ix (r := rIxT K) ix_tup (pe_ix (r := rIxL K) ix_list (pe_rd_row T (pv 0)) (pe_rd_at T (pv 0)) (fun _ _ => rfl)) pe_int (fun _ _ => rfl)))), ?_⟩
  obtain ⟨z, r, rs, ez, raw, hr0, hl, tk⟩ := R.nor
  obtain ⟨t, ht⟩ := Src.tok k
  obtain ⟨qq, g, hq⟩ := tk a t ht
  refine ⟨_, rfl, p, z, r, _, _, rfl, raw, _, rfl, p, z, r, _, _, rfl, raw, r, _, _, _, rfl, rfl, .inl (.inl hr0), at_nat g, qq, _, _, _, rfl, rfl, .inl (.inl hq), at_nat (i := 1) rfl, ?_⟩
  rw [st_of ht] at q
  exact q
abbrev s_Reader_last_end : Stmt := inClass (topS 25) 5
abbrev N_Reader_last_end : List Str := ["self"]
theorem sc_Reader_last_end : FnScope N_Reader_last_end ["self"] (defScope s_Reader_last_end) := ⟨rfl, rfl, rfl, by decide +kernel, rfl, by decide +kernel, by decide +kernel⟩
theorem ok_last_end (F : Fun K "last_end" "Reader.last_end" s_Reader_last_end f fd) (T : NmR K w mg aW tS CR CS aR t0 t1 t2 t3 t4 t5 t6) : FnOk P w K mg base CX0 1 f fd ["self"] (spLast CR) := by
  refine F.ok sc_Reader_last_end (fun vs H Q E h => ?_) (fun cdv A outer s H vs Q E hr h => ?_)
  · obtain ⟨p, S, a, d, rfl, _⟩ := h
    rfl
  obtain ⟨p, S, a, d, rfl, R, q⟩ := h
  refine ⟨_, (pss_one (ps_ret (pe_ix (r := rIxT K) ix_tup (pe_ix (r := rIxL K) ix_list (pe_rd_row T (pv 0)) (pe_op op_sub (pe_rd_at T (pv 0)) pe_int) (fun _ _ => rfl)) pe_int (fun _ _ => rfl)))), ?_⟩
  obtain ⟨z, r, rs, ez, raw, hr0, hl, tk⟩ := R.nor
  have k : a < S.n := R.ha
  obtain ⟨t, ht⟩ := Src.tok k
  obtain ⟨qq, g, hq⟩ := tk a t ht
  refine ⟨_, rfl, p, z, r, _, _, rfl, raw, _, rfl, p, z, r, _, _, rfl, raw, _, _, rfl, rfl, r, _, _, _, rfl, rfl, .inl (.inl hr0), at_of (by omega) g, qq, _, _, _, rfl, rfl, .inl (.inl hq), at_nat (i := 2) rfl, ?_⟩
  rw [en_of ht] at q
  exact q
theorem strL_tl (x : Str) : strL (tl x) = x := by
  show (⟨x.cps.toList.toArray⟩ : Str) = x
  rw [Array.toArray_toList]
abbrev s_Reader_peek : Stmt := inClass (topS 25) 6
abbrev N_Reader_peek : List Str := ["self"]
theorem sc_Reader_peek : FnScope N_Reader_peek ["self"] (defScope s_Reader_peek) := ⟨rfl, rfl, rfl, by decide +kernel, rfl, by decide +kernel, by decide +kernel⟩
theorem ok_peek (F : Fun K "peek" "Reader.peek" s_Reader_peek f fd) (T : NmR K w mg aW tS CR CS aR t0 t1 t2 t3 t4 t5 t6) (C_Reader_ended : CalM P w K mg base CX0 1 CR "ended" (spEnded CR)) : FnOk P w K mg base CX0 2 f fd ["self"] (spPeek CR) := by
  refine F.ok sc_Reader_peek (fun vs H Q E h => ?_) (fun cdv A outer s H vs Q E hr h => ?_)
  · obtain ⟨p, S, a, d, rfl, _⟩ := h
    rfl
  obtain ⟨p, S, a, d, rfl, R, q⟩ := h
  refine ⟨_, (pss_cons (ps_if (pt_val (pe_m0 ns_Reader C_Reader_ended T.cl_Reader (by decide) hr (by first | decide | omega) pass0 (pv 0))) (pss_one (ps_ret pe_str)) pss_nil)
    (pss_one (ps_ret (pe_slice sl_str (pe_rd_source T (pv 0)) (po_some (pe_ix (r := rIxT K) ix_tup (pe_ix (r := rIxL K) ix_list (pe_rd_row T (pv 0)) (pe_rd_at T (pv 0)) (fun _ _ => rfl)) pe_int (fun _ _ => rfl))) (po_some (pe_ix (r := rIxT K) ix_tup (pe_ix (r := rIxL K) ix_list (pe_rd_row T (pv 0)) (pe_rd_at T (pv 0)) (fun _ _ => rfl)) pe_int (fun _ _ => rfl))))))), ?_⟩
  obtain ⟨z, r, rs, ez, raw, hr0, hl, tk⟩ := R.nor
  refine ⟨_, rfl, p, rfl, R.isI, p, S, a, d, rfl, R, _, rfl, ?_⟩
  by_cases k : a < S.n
  · obtain ⟨t, ht⟩ := Src.tok k
    obtain ⟨qq, g, hq⟩ := tk a t ht
    have hpl := R.pl t (List.mem_of_getElem? ht)
    have hll := R.hl
    refine iteN (fun z : ¬ a < S.n => z k) ?_
    refine ⟨_, rfl, p, z, r, _, _, rfl, raw, _, rfl, p, z, r, _, _, rfl, raw, _, rfl, p, z, r, _, _, rfl, raw, r, _, _, _, rfl, rfl, .inl (.inl hr0), at_nat g, qq, _, _, _, rfl, rfl, .inl (.inl hq), at_nat (i := 1) rfl, _, rfl, ?_⟩
    refine ⟨_, rfl, p, z, r, _, _, rfl, raw, _, rfl, p, z, r, _, _, rfl, raw, r, _, _, _, rfl, rfl, .inl (.inl hr0), at_nat g, qq, _, _, _, rfl, rfl, .inl (.inl hq), at_nat (i := 2) rfl, _, rfl, z, rfl, small (by rw [len_tl, ez]; omega), ?_⟩
    have e : cutS z (some (t.2.1 : Int)) (some (t.2.2 : Int)) = strL (S.wd a) := by
      rw [← strL_tl (cutS z _ _), tl_cut_mid z _ _ (by rw [ez]; omega), ez, wd_of ht]
    rw [e]
    exact q
  · refine iteP k ?_
    rw [wd_end k] at q
    exact q
/-- one step on -/
theorem Rd.step {C : Addr} {H H' : Hp} {p : Addr} {S : Src} {a d : Nat} {z : Str} {r : Addr} (R : Rd C H p S a d) (R0 : Raw C H p z r a d) (b : But p H H') (h : Raw C H' p z r ((a : Int) + 1) d) (k : a < S.n) : Rd C H' p S (a + 1) d := R.move R0 b (show Raw C H' p z r ((a + 1 : Nat) : Int) d from h) k
theorem str_eqW {S : Src} {a : Nat} {w : Str} : decide (V.str (strL (S.wd a)) = V.str w) = S.eqW a w := by
  unfold Src.eqW
  by_cases h : S.wd a = tl w
  · rw [decide_eq_true h, decide_eq_true (by rw [h, strL_tl])]
  · rw [decide_eq_false h, decide_eq_false fun e => h ?_]
    injection e with e
    rw [← e]
theorem str_isN {S : Src} {a : Nat} {w : Str} : decide (V.str (S.so a) = V.str w) = decide (S.so a = w) := by
  by_cases h : S.so a = w
  · rw [decide_eq_true h, decide_eq_true (by rw [h])]
  · rw [decide_eq_false h, decide_eq_false fun e => h ?_]
    injection e
abbrev s_Reader_taken : Stmt := inClass (topS 25) 7
abbrev N_Reader_taken : List Str := ["self", "word"]
theorem sc_Reader_taken : FnScope N_Reader_taken ["self", "word"] (defScope s_Reader_taken) := ⟨rfl, rfl, rfl, by decide +kernel, rfl, by decide +kernel, by decide +kernel⟩
theorem ok_taken (F : Fun K "taken" "Reader.taken" s_Reader_taken f fd) (T : NmR K w mg aW tS CR CS aR t0 t1 t2 t3 t4 t5 t6) (C_Reader_peek : CalM P w K mg base CX0 2 CR "peek" (spPeek CR)) : FnOk P w K mg base CX0 3 f fd ["self", "word"] (spTaken CR) := by
  refine F.ok sc_Reader_taken (fun vs H Q E h => ?_) (fun cdv A outer s H vs Q E hr h => ?_)
  · obtain ⟨p, S, a, d, x, rfl, _⟩ := h
    rfl
  obtain ⟨p, S, a, d, x, rfl, R, hx, q⟩ := h
  refine ⟨_, (pss_cons (ps_if (pt_cmpR op_ne (pe_m0 ns_Reader C_Reader_peek T.cl_Reader (by decide) hr (by first | decide | omega) pass0 (pv 0)) (pv 1) (nomark _)) (pss_one (ps_ret pe_bl)) pss_nil)
    (pss_cons (ps_rd_at T (pv 0) pe_int in_add)
    (pss_one (ps_ret pe_bl)))), ?_⟩
  obtain ⟨z, r, rs, ez, raw, hr0, hl, tk⟩ := R.nor
  refine ⟨_, rfl, p, rfl, R.isI, p, S, a, d, rfl, R, _, rfl, rfl, _, rfl, ?_⟩
  rw [str_eqW]
  cases k : S.eqW a x with
  | false =>
    rw [k] at q
    exact iteT q
  | true =>
    rw [k] at q
    refine iteF ?_
    refine ⟨_, rfl, p, z, r, _, _, rfl, raw, _, _, rfl, rfl, _, rfl, raw, fun H' b h => ?_⟩
    exact q H' b (R.step raw b h (lt_of_wd k hx))
abbrev s_Reader_expect : Stmt := inClass (topS 25) 8
abbrev N_Reader_expect : List Str := ["self", "word"]
theorem sc_Reader_expect : FnScope N_Reader_expect ["self", "word"] (defScope s_Reader_expect) := ⟨rfl, rfl, rfl, by decide +kernel, rfl, by decide +kernel, by decide +kernel⟩
theorem ok_expect (F : Fun K "expect" "Reader.expect" s_Reader_expect f fd) (T : NmR K w mg aW tS CR CS aR t0 t1 t2 t3 t4 t5 t6) (C_Reader_taken : CalM P w K mg base CX0 3 CR "taken" (spTaken CR)) (C_Reader_fail : CalM P w K mg base (L2N.CX P w) 3 CR "fail" (spFail CR CS)) : FnOk P w K mg base (L2N.CX P w) 4 f fd ["self", "word"] (spExpect CR CS) := by
  refine okXN F sc_Reader_expect (fun vs H Q E h => ?_) (fun cdv A outer s H vs Q E hr h => ?_)
  · obtain ⟨p, S, a, d, x, rfl, _⟩ := h
    rfl
  obtain ⟨p, S, a, d, x, rfl, R, hx, q⟩ := h
  refine ⟨_, (pss_one (ps_if (pt_not (pt_val (pe_m ns_Reader C_Reader_taken T.cl_Reader (by decide) hr (by first | decide | omega) pass0 (pv 0) (pa_cons (pv 1) pa_nil)))) (pss_one (ps_expr (pe_m0 ns_Reader C_Reader_fail T.cl_Reader (by decide) hr (by first | decide | omega) (L2N.passes_call (L2N.takes_of rfl rfl rfl rfl) (fun _ _ _ _ h => h)) (pv 0)))) pss_nil)), ?_⟩
  refine ⟨_, rfl, p, rfl, R.isI, _, rfl, p, S, a, d, x, rfl, R, hx, ?_⟩
  cases k : S.eqW a x with
  | false =>
    rw [k] at q
    refine iteF ⟨_, rfl, ?_⟩
    exact iteT ⟨_, rfl, p, rfl, R.isI, p, S, a, d, rfl, R, q⟩
  | true =>
    rw [k] at q
    refine iteT fun H' b R' => ⟨_, rfl, ?_⟩
    exact iteF (q H' b R')
abbrev s_Reader_mark : Stmt := inClass (topS 25) 9
abbrev N_Reader_mark : List Str := ["self", "found"]
theorem sc_Reader_mark : FnScope N_Reader_mark ["self"] (defScope s_Reader_mark) := ⟨rfl, rfl, rfl, by decide +kernel, rfl, by decide +kernel, by decide +kernel⟩
theorem ok_mark (F : Fun K "mark" "Reader.mark" s_Reader_mark f fd) (T : NmR K w mg aW tS CR CS aR t0 t1 t2 t3 t4 t5 t6) (C_Reader_next_sort : CalM P w K mg base CX0 2 CR "next_sort" (spSort CR)) (C_Reader_fail : CalM P w K mg base (L2N.CX P w) 3 CR "fail" (spFail CR CS))
    (C_Reader_peek : CalM P w K mg base CX0 2 CR "peek" (spPeek CR)) (C_Reader_next_start : CalM P w K mg base CX0 1 CR "next_start" (spStart CR)) : FnOk P w K mg base (L2N.CX P w) 4 f fd ["self"] (spMark CR CS) := by
  refine okXN F sc_Reader_mark (fun vs H Q E h => ?_) (fun cdv A outer s H vs Q E hr h => ?_)
  · obtain ⟨p, S, a, d, rfl, _⟩ := h
    rfl
  obtain ⟨p, S, a, d, rfl, R, q⟩ := h
  refine ⟨_, (pss_cons (ps_if (pt_cmpR op_ne (pe_m0 ns_Reader C_Reader_next_sort T.cl_Reader (by decide) hr (by first | decide | omega) pass0 (pv 0)) pe_str (nomark _)) (pss_one (ps_expr (pe_m0 ns_Reader C_Reader_fail T.cl_Reader (by decide) hr (by first | decide | omega) (L2N.passes_call (L2N.takes_of rfl rfl rfl rfl) (fun _ _ _ _ h => h)) (pv 0)))) pss_nil)
    (pss_cons (ps_set (i := 1) sc_Reader_mark.nd rfl (Or.inl rfl) (pe_tup (pa_cons (pe_m0 ns_Reader C_Reader_peek T.cl_Reader (by decide) hr (by first | decide | omega) pass0 (pv 0)) (pa_cons (pe_m0 ns_Reader C_Reader_next_start T.cl_Reader (by decide) hr (by first | decide | omega) pass0 (pv 0)) pa_nil))))
    (pss_cons (ps_rd_at T (pv 0) pe_int in_add)
    (pss_one (ps_ret (pv 1)))))), ?_⟩
  refine ⟨_, rfl, p, rfl, R.isI, p, S, a, d, rfl, R, rfl, _, rfl, ?_⟩
  rw [str_isN]
  by_cases k : S.so a = "name"
  · have kn : S.isN a = true := decide_eq_true k
    rw [kn] at q
    refine iteNS (by rw [k]) ?_
    have ka := lt_of_so k (by decide)
    refine ⟨_, rfl, p, rfl, R.isI, p, S, a, d, rfl, R, _, rfl, p, rfl, R.isI, p, S, a, d, rfl, R, ka, (by show 2 ≤ sizeLine; decide), fun x nx => ?_⟩
    have sx := same_new (o := .tup [.str (strL (S.wd a)), .int (S.st a : Int)]) nx
    have R1 := R.same sx
    have hx : upd H x (.tup [.str (strL (S.wd a)), .int (S.st a : Int)]) x = some (.tup [.str (strL (S.wd a)), .int (S.st a : Int)]) := upd_same
    generalize upd H x (.tup [.str (strL (S.wd a)), .int (S.st a : Int)]) = H1 at sx R1 hx ⊢
    obtain ⟨z, r, rs, ez, raw, hr0, hl, tk⟩ := R1.nor
    refine ⟨_, rfl, p, z, r, _, _, rfl, raw, _, _, rfl, rfl, _, rfl, raw, fun H' b h => ⟨_, rfl, ?_⟩⟩
    exact q H' x ((But.of sx).trans b) (R1.step raw b h ka) (R1.tups b _ _ hx)
  · have kn : S.isN a = false := decide_eq_false k
    rw [kn] at q
    refine iteNN k ?_
    exact ⟨_, rfl, p, rfl, R.isI, p, S, a, d, rfl, R, q⟩
abbrev s_Reader_begin : Stmt := inClass (topS 25) 10
abbrev N_Reader_begin : List Str := ["self"]
theorem sc_Reader_begin : FnScope N_Reader_begin ["self"] (defScope s_Reader_begin) := ⟨rfl, rfl, rfl, by decide +kernel, rfl, by decide +kernel, by decide +kernel⟩
theorem ok_begin (F : Fun K "begin" "Reader.begin" s_Reader_begin f fd) (T : NmR K w mg aW tS CR CS aR t0 t1 t2 t3 t4 t5 t6) (C_Reader_ended : CalM P w K mg base CX0 1 CR "ended" (spEnded CR)) (C_Reader_fail : CalM P w K mg base (L2N.CX P w) 3 CR "fail" (spFail CR CS))
    (C_Reader_next_start : CalM P w K mg base CX0 1 CR "next_start" (spStart CR)) : FnOk P w K mg base (L2N.CX P w) 4 f fd ["self"] (spBegin CR CS) := by
  refine okXN F sc_Reader_begin (fun vs H Q E h => ?_) (fun cdv A outer s H vs Q E hr h => ?_)
  · obtain ⟨p, S, a, d, rfl, _⟩ := h
    rfl
  obtain ⟨p, S, a, d, rfl, R, q⟩ := h
  refine ⟨_, (pss_cons (ps_if (PW.pt (pw_or (pt_cmpR op_eq (pe_rd_depth T (pv 0)) (pe_glob (v := .int 30) (by rfl) T.g_DEEPEST ⟨_, rfl⟩) (nomark _)) (pw_or1 (pt_val (pe_m0 ns_Reader C_Reader_ended T.cl_Reader (by decide) hr (by first | decide | omega) pass0 (pv 0)))))) (pss_one (ps_expr (pe_m0 ns_Reader C_Reader_fail T.cl_Reader (by decide) hr (by first | decide | omega) (L2N.passes_call (L2N.takes_of rfl rfl rfl rfl) (fun _ _ _ _ h => h)) (pv 0)))) pss_nil)
    (pss_cons (ps_rd_depth T (pv 0) pe_int in_add)
    (pss_one (ps_ret (pe_m0 ns_Reader C_Reader_next_start T.cl_Reader (by decide) hr (by first | decide | omega) pass0 (pv 0)))))), ?_⟩
  obtain ⟨z, r, rs, ez, raw, hr0, hl, tk⟩ := R.nor
  refine ⟨_, rfl, p, z, r, _, _, rfl, raw, rfl, _, rfl, ?_⟩
  by_cases kd : d = 30
  · rw [if_pos (.inl kd)] at q
    refine iteP (by rw [kd]; rfl) ?_
    exact ⟨_, rfl, p, rfl, R.isI, p, S, a, d, rfl, R, q⟩
  refine iteN (fun e => kd (by injection e with e; omega)) ?_
  refine ⟨_, rfl, p, rfl, R.isI, p, S, a, d, rfl, R, _, rfl, ?_⟩
  by_cases ka : a < S.n
  · rw [if_neg (fun e => e.elim kd fun z => z ka)] at q
    refine iteN (fun e => e ka) ?_
    refine ⟨_, rfl, p, z, r, _, _, rfl, raw, _, _, rfl, rfl, _, rfl, raw, fun H' b h => ?_⟩
    have R1 : Rd CR H' p S a (d + 1) := R.move raw b (show Raw CR H' p z r a ((d + 1 : Nat) : Int) from h) R.ha
    exact ⟨_, rfl, p, rfl, R1.isI, p, S, a, d + 1, rfl, R1, ka, q H' b R1⟩
  · rw [if_pos (.inr ka)] at q
    refine iteP ka ?_
    exact ⟨_, rfl, p, rfl, R.isI, p, S, a, d, rfl, R, q⟩
end

end Sn

namespace Sn
open PySem PySem.Spec PyProof.Rows L2 TL
/-! ### reading values -/
theorem TK.sub {C CS p : Addr} {S : Src} {d d' : Nat} {H H1 : Hp} {Q Q1 : VK} {E : XK} {r : Rs Tn} {f : Tn → Nat → Rs Tn} (b : But p H H1) (h : TK C CS p S d H Q E (r.bind f))
    (k : ∀ (t : Tn) (a' : Nat) (H2 : Hp) (v : V), But p H1 H2 → But p H H2 → Rd C H2 p S a' d' → DT H2 t.d v → TK C CS p S d H Q E (f t a') → Q1 v H2) : TK C CS p S d' H1 Q1 E r := by
  cases r with
  | un => exact h
  | no s e => exact fun H' dd b' x => h H' dd (b.trans b') x
  | ok t a' => exact fun H2 v b' R D => k t a' H2 v b' (b.trans b') R D h
theorem Rs.bind_ok {α : Type} (r : Rs α) : r.bind (fun x a => .ok x a) = r := by cases r <;> rfl
theorem TK.one {C CS p : Addr} {S : Src} {d d' : Nat} {H H1 : Hp} {Q Q1 : VK} {E : XK} {r : Rs Tn} (b : But p H H1) (h : TK C CS p S d H Q E r)
    (k : ∀ (t : Tn) (a' : Nat) (H2 : Hp) (v : V), But p H1 H2 → But p H H2 → Rd C H2 p S a' d' → DT H2 t.d v → (∀ H3 v3, But p H H3 → Rd C H3 p S a' d → DT H3 t.d v3 → Q v3 H3) → Q1 v H2) : TK C CS p S d' H1 Q1 E r :=
  TK.sub (f := fun x a => .ok x a) b (by rw [Rs.bind_ok]; exact h) fun t a' H2 v bb b2 R2 D2 hq => k t a' H2 v bb b2 R2 D2 hq
def spT (C CS : Addr) (m : Src → Nat → Nat → Rs Tn) : Sp := fun vs H Q E => ∃ p S a d, vs = [.ref p] ∧ Rd C H p S a d ∧ TK C CS p S d H Q E (m S d a)
def spTs (C CS : Addr) (m : Src → Nat → Nat → Nat → Rs Tn) : Sp := fun vs H Q E => ∃ p S a d s, vs = [.ref p, .int ((s : Nat) : Int)] ∧ Rd C H p S a d ∧ TK C CS p S d H Q E (m S d s a)
def spTc (C CS : Addr) (m : Src → Nat → Nat → Nat → Rs Tn) : Sp := fun vs H Q E => ∃ p S a d s, vs = [.ref p, .int ((s : Nat) : Int)] ∧ 1 ≤ s ∧ Rd C H p S a d ∧ TK C CS p S d H Q E (m S d s a)
def spTw (C CS : Addr) (m : Src → Nat → Nat → Rs Tn) : Sp := fun vs H Q E => ∃ p S a d w, vs = [.ref p, .str w] ∧ tl w ≠ [] ∧ Rd C H p S a d ∧ TK C CS p S d H Q E (S.part (m S d) w a)
section
variable {P : Program} {w : World} {K : PySem.W.Frag} {mg : Str → Option Value} {base : Heap} {f : Addr} {fd : FuncData} {aW CR CS aR : Addr} {tS t0 t1 t2 t3 t4 t5 t6 : PySem.Tok} {j jl jc : Nat} {MV : Src → Nat → Nat → Rs Tn} {MC : Src → Nat → Nat → Nat → Rs Tn}
abbrev s_Reader_value : Stmt := inClass (topS 25) 11
abbrev N_Reader_value : List Str := ["self", "start", "tree"]
theorem sc_Reader_value : FnScope N_Reader_value ["self"] (defScope s_Reader_value) := ⟨rfl, rfl, rfl, by decide +kernel, rfl, by decide +kernel, by decide +kernel⟩
theorem ok_value (h4 : 4 ≤ j) (hl : jl ≤ j) (hc : jc ≤ j) (F : Fun K "value" "Reader.value" s_Reader_value f fd) (T : NmR K w mg aW tS CR CS aR t0 t1 t2 t3 t4 t5 t6) (C_Reader_begin : CalM P w K mg base (L2N.CX P w) 4 CR "begin" (spBegin CR CS)) (C_Reader_taken : CalM P w K mg base CX0 3 CR "taken" (spTaken CR))
    (C_Reader_let : CalM P w K mg base (L2N.CX P w) jl CR "let" (spTs CR CS fun S d s a => S.letM (MV S d) s a)) (C_Reader_choice : CalM P w K mg base (L2N.CX P w) jl CR "choice" (spTs CR CS fun S d s a => S.ifM (MV S d) s a))
    (C_Reader_loop : CalM P w K mg base (L2N.CX P w) jl CR "loop" (spTs CR CS fun S d s a => S.loopM (MV S d) s a)) (C_Reader_chain : CalM P w K mg base (L2N.CX P w) jc CR "chain" (spTc CR CS fun S d s a => MC S s d a)) :
    FnOk P w K mg base (L2N.CX P w) (j + 1) f fd ["self"] (spT CR CS fun S d a => S.valM (MV S (d + 1)) (MC S 1 (d + 1)) d a) := by
  refine okXN F sc_Reader_value (fun vs H Q E h => ?_) (fun cdv A outer s H vs Q E hr h => ?_)
  · obtain ⟨p, S, a, d, rfl, _⟩ := h
    rfl
  obtain ⟨p, S, a, d, rfl, R, q⟩ := h
  have hr : Room j _ := hr
  refine ⟨_, (pss_cons (ps_set (i := 1) sc_Reader_value.nd rfl (Or.inl rfl) (pe_m0 ns_Reader C_Reader_begin T.cl_Reader (by decide) hr (by first | decide | omega) (L2N.passes_call (L2N.takes_of rfl rfl rfl rfl) (fun _ _ _ _ h => h)) (pv 0)))
    (C8.pss_cut (ps_if (pt_val (pe_m ns_Reader C_Reader_taken T.cl_Reader (by decide) hr (by first | decide | omega) pass0 (pv 0) (pa_cons pe_str pa_nil))) (pss_one (ps_set (i := 2) sc_Reader_value.nd rfl (Or.inl rfl) (pe_m ns_Reader C_Reader_let T.cl_Reader (by decide) hr (by first | decide | omega) (L2N.passes_call (L2N.takes_of rfl rfl rfl rfl) (fun _ _ _ _ h => h)) (pv 0) (pa_cons (pv 1) pa_nil)))) (pss_one (ps_if (pt_val (pe_m ns_Reader C_Reader_taken T.cl_Reader (by decide) hr (by first | decide | omega) pass0 (pv 0) (pa_cons pe_str pa_nil))) (pss_one (ps_set (i := 2) sc_Reader_value.nd rfl (Or.inl rfl) (pe_m ns_Reader C_Reader_choice T.cl_Reader (by decide) hr (by first | decide | omega) (L2N.passes_call (L2N.takes_of rfl rfl rfl rfl) (fun _ _ _ _ h => h)) (pv 0) (pa_cons (pv 1) pa_nil)))) (pss_one (ps_if (pt_val (pe_m ns_Reader C_Reader_taken T.cl_Reader (by decide) hr (by first | decide | omega) pass0 (pv 0) (pa_cons pe_str pa_nil))) (pss_one (ps_set (i := 2) sc_Reader_value.nd rfl (Or.inl rfl) (pe_m ns_Reader C_Reader_loop T.cl_Reader (by decide) hr (by first | decide | omega) (L2N.passes_call (L2N.takes_of rfl rfl rfl rfl) (fun _ _ _ _ h => h)) (pv 0) (pa_cons (pv 1) pa_nil)))) (pss_one (ps_set (i := 2) sc_Reader_value.nd rfl (Or.inl rfl) (pe_m ns_Reader C_Reader_chain T.cl_Reader (by decide) hr (by first | decide | omega) (L2N.passes_call (L2N.takes_of rfl rfl rfl rfl) (fun _ _ _ _ h => h)) (pv 0) (pa_cons (pe_glob (v := .int 1) (by rfl) T.g_LOWEST ⟨_, rfl⟩) pa_nil)))))))))
    (pss_cons (ps_rd_depth T (pv 0) pe_int in_sub)
    (pss_one (ps_ret (pv 2)))))), ?_⟩
  have q : TK CR CS p S d H Q E (S.valM (MV S (d + 1)) (MC S 1 (d + 1)) d a) := q
  unfold Src.valM at q
  refine ⟨_, rfl, p, rfl, R.isI, p, S, a, d, rfl, R, ?_⟩
  by_cases k0 : d = 30 ∨ ¬ a < S.n
  · rw [if_pos k0]
    rw [if_pos (k0.elim .inl fun z => .inr (by omega))] at q
    exact q
  rw [if_neg k0]
  rw [if_neg (fun e => k0 (e.elim .inl fun z => .inr (by omega)))] at q
  have ka : a < S.n := by
    by_cases z : a < S.n
    · exact z
    · exact absurd (.inr z) k0
  intro H1 b1 R1
  refine ⟨fun σ H' => ∃ (v : V) (t : Tn) (a' : Nat), σ = [some (.ref p), some (.int (S.st a : Int)), some v] ∧ But p H H' ∧ Rd CR H' p S a' (d + 1) ∧ DT H' t.d v ∧ ∀ H3 v3, But p H H3 → Rd CR H3 p S a' d → DT H3 t.d v3 → Q v3 H3, ?_, ?_⟩
  · refine ⟨_, rfl, p, rfl, R1.isI, p, S, a, d + 1, _, rfl, R1, by decide, ?_⟩
    cases k1 : S.eqW a "let" with
    | true =>
      rw [k1] at q
      refine iteT fun H2 b2 R2 => ⟨_, rfl, iteT ?_⟩
      refine ⟨_, rfl, p, rfl, R2.isI, _, rfl, p, S, a + 1, d + 1, S.st a, rfl, R2, TK.one (b1.trans b2) (show TK CR CS p S d H Q E _ from q) fun t a' H3 v _ b3 R3 D3 hq => ⟨v, t, a', rfl, b3, R3, D3, hq⟩⟩
    | false =>
    rw [k1] at q
    refine iteF ⟨_, rfl, iteF ?_⟩
    refine ⟨_, rfl, p, rfl, R1.isI, p, S, a, d + 1, _, rfl, R1, by decide, ?_⟩
    cases k2 : S.eqW a "if" with
    | true =>
      rw [k2] at q
      refine iteT fun H2 b2 R2 => ⟨_, rfl, iteT ?_⟩
      refine ⟨_, rfl, p, rfl, R2.isI, _, rfl, p, S, a + 1, d + 1, S.st a, rfl, R2, TK.one (b1.trans b2) (show TK CR CS p S d H Q E _ from q) fun t a' H3 v _ b3 R3 D3 hq => ⟨v, t, a', rfl, b3, R3, D3, hq⟩⟩
    | false =>
    rw [k2] at q
    refine iteF ⟨_, rfl, iteF ?_⟩
    refine ⟨_, rfl, p, rfl, R1.isI, p, S, a, d + 1, _, rfl, R1, by decide, ?_⟩
    cases k3 : S.eqW a "loop" with
    | true =>
      rw [k3] at q
      refine iteT fun H2 b2 R2 => ⟨_, rfl, iteT ?_⟩
      refine ⟨_, rfl, p, rfl, R2.isI, _, rfl, p, S, a + 1, d + 1, S.st a, rfl, R2, TK.one (b1.trans b2) (show TK CR CS p S d H Q E _ from q) fun t a' H3 v _ b3 R3 D3 hq => ⟨v, t, a', rfl, b3, R3, D3, hq⟩⟩
    | false =>
    rw [k3] at q
    refine iteF ⟨_, rfl, iteF ?_⟩
    refine ⟨_, rfl, p, rfl, R1.isI, p, S, a, d + 1, 1, rfl, by decide, R1, TK.one b1 (show TK CR CS p S d H Q E _ from q) fun t a' H3 v _ b3 R3 D3 hq => ⟨v, t, a', rfl, b3, R3, D3, hq⟩⟩
  · rintro σ H2 ⟨v, t, a', rfl, b2, R2, D2, hq⟩
    obtain ⟨z, r, rs, ez, raw, hr0, hl, tk⟩ := R2.nor
    refine ⟨_, rfl, p, z, r, _, _, rfl, raw, _, _, rfl, rfl, _, rfl, raw, fun H3 b3 h3 => ⟨_, rfl, ?_⟩⟩
    refine hq H3 v (b2.trans b3) (R2.move raw b3 (show Raw CR H3 p z r a' (d : Int) from ?_) R2.ha) (D2.keep (R2.tups b3))
    have e : ((d + 1 : Nat) : Int) - 1 = (d : Int) := by omega
    rw [← e]
    exact h3
end

end Sn

namespace Sn
open PySem PySem.Spec PyProof.Rows L2 TL
/-! ### parts of values -/
theorem num_item {H : Hp} {t : Tn} {v : V} (D : DT H t.d v) : ∃ a vs, v = .ref a ∧ H a = some (.tup vs) ∧ vs[1]? = some (.int (t.s : Int)) ∧ vs[2]? = some (.int (t.e : Int)) := by
  obtain ⟨a, r, e, h, _⟩ := Tn.at_ D
  exact ⟨a, _, e, h, rfl, rfl⟩
section
variable {P : Program} {w : World} {K : PySem.W.Frag} {mg : Str → Option Value} {base : Heap} {f : Addr} {fd : FuncData} {aW CR CS aR : Addr} {tS t0 t1 t2 t3 t4 t5 t6 : PySem.Tok} {jv : Nat} {MV : Src → Nat → Nat → Rs Tn}
abbrev s_Reader_part : Stmt := inClass (topS 25) 12
abbrev N_Reader_part : List Str := ["self", "word"]
theorem sc_Reader_part : FnScope N_Reader_part ["self", "word"] (defScope s_Reader_part) := ⟨rfl, rfl, rfl, by decide +kernel, rfl, by decide +kernel, by decide +kernel⟩
theorem ok_part (h5 : 5 ≤ jv) (F : Fun K "part" "Reader.part" s_Reader_part f fd) (T : NmR K w mg aW tS CR CS aR t0 t1 t2 t3 t4 t5 t6) (C_Reader_expect : CalM P w K mg base (L2N.CX P w) 4 CR "expect" (spExpect CR CS))
    (C_Reader_value : CalM P w K mg base (L2N.CX P w) (jv) CR "value" (spT CR CS fun S d a => MV S d a)) : FnOk P w K mg base (L2N.CX P w) (jv + 1) f fd ["self", "word"] (spTw CR CS fun S d a => MV S d a) := by
  refine okXN F sc_Reader_part (fun vs H Q E h => ?_) (fun cdv A outer s H vs Q E hr h => ?_)
  · obtain ⟨p, S, a, d, x, rfl, _⟩ := h
    rfl
  obtain ⟨p, S, a, d, x, rfl, hx, R, q⟩ := h
  have hr : Room (jv) _ := hr
  refine ⟨_, (pss_cons (ps_expr (pe_m ns_Reader C_Reader_expect T.cl_Reader (by decide) hr (by first | decide | omega) (L2N.passes_call (L2N.takes_of rfl rfl rfl rfl) (fun _ _ _ _ h => h)) (pv 0) (pa_cons (pv 1) pa_nil)))
    (pss_one (ps_ret (pe_m0 ns_Reader C_Reader_value T.cl_Reader (by decide) hr (by first | decide | omega) (L2N.passes_call (L2N.takes_of rfl rfl rfl rfl) (fun _ _ _ _ h => h)) (pv 0))))), ?_⟩
  have q : TK CR CS p S d H Q E (S.part (fun a => MV S d a) x a) := q
  unfold Src.part at q
  refine ⟨_, rfl, p, rfl, R.isI, _, rfl, p, S, a, d, x, rfl, R, hx, ?_⟩
  cases k1 : S.eqW a x with
  | false =>
    rw [k1] at q
    exact q
  | true =>
    rw [k1] at q
    intro H1 b1 R1
    exact ⟨_, rfl, p, rfl, R1.isI, p, S, a + 1, d, rfl, R1, TK.one b1 (show TK CR CS p S d H Q E _ from q) fun t a' H2 v _ b2 R2 D2 hq => hq H2 v b2 R2 D2⟩
abbrev s_Reader_let : Stmt := inClass (topS 25) 13
abbrev N_Reader_let : List Str := ["self", "start", "name", "at", "value", "body"]
theorem sc_Reader_let : FnScope N_Reader_let ["self", "start"] (defScope s_Reader_let) := ⟨rfl, rfl, rfl, by decide +kernel, rfl, by decide +kernel, by decide +kernel⟩
theorem ok_let (h5 : 5 ≤ jv) (F : Fun K "let" "Reader.let" s_Reader_let f fd) (T : NmR K w mg aW tS CR CS aR t0 t1 t2 t3 t4 t5 t6) (C_Reader_mark : CalM P w K mg base (L2N.CX P w) 4 CR "mark" (spMark CR CS))
    (C_Reader_part : CalM P w K mg base (L2N.CX P w) (jv + 1) CR "part" (spTw CR CS fun S d a => MV S d a)) : FnOk P w K mg base (L2N.CX P w) (jv + 2) f fd ["self", "start"] (spTs CR CS fun S d s a => S.letM (MV S d) s a) := by
  refine okXN F sc_Reader_let (fun vs H Q E h => ?_) (fun cdv A outer s H vs Q E hr h => ?_)
  · obtain ⟨p, S, a, d, x, rfl, _⟩ := h
    rfl
  obtain ⟨p, S, a, d, x, rfl, R, q⟩ := h
  have hr : Room (jv + 1) _ := hr
  refine ⟨_, (pss_cons (ps_asg (pe_m0 ns_Reader C_Reader_mark T.cl_Reader (by decide) hr (by first | decide | omega) (L2N.passes_call (L2N.takes_of rfl rfl rfl rfl) (fun _ _ _ _ h => h)) (pv 0)) (pg_tup rfl (pgs_cons (pg_name (i := 2) sc_Reader_let.nd rfl (Or.inl rfl)) (pgs_cons (pg_name (i := 3) sc_Reader_let.nd rfl (Or.inl rfl)) pgs_nil))))
    (pss_cons (ps_set (i := 4) sc_Reader_let.nd rfl (Or.inl rfl) (pe_m ns_Reader C_Reader_part T.cl_Reader (by decide) hr (by first | decide | omega) (L2N.passes_call (L2N.takes_of rfl rfl rfl rfl) (fun _ _ _ _ h => h)) (pv 0) (pa_cons pe_str pa_nil)))
    (pss_cons (ps_set (i := 5) sc_Reader_let.nd rfl (Or.inl rfl) (pe_m ns_Reader C_Reader_part T.cl_Reader (by decide) hr (by first | decide | omega) (L2N.passes_call (L2N.takes_of rfl rfl rfl rfl) (fun _ _ _ _ h => h)) (pv 0) (pa_cons pe_str pa_nil)))
    (pss_one (ps_ret (pe_tup (pa_cons pe_str (pa_cons (pv 1) (pa_cons (pe_ix (r := rIxT K) ix_tup (pv 5) pe_int (fun _ _ => rfl)) (pa_cons (pv 2) (pa_cons (pv 3) (pa_cons (pv 4) (pa_cons (pv 5) pa_nil))))))))))))), ?_⟩
  have q : TK CR CS p S d H Q E (S.letM (MV S d) x a) := q
  unfold Src.letM at q
  refine ⟨_, rfl, p, rfl, R.isI, p, S, a, d, rfl, R, ?_⟩
  cases k1 : S.isN a with
  | false =>
    rw [k1] at q
    exact q
  | true =>
  rw [k1] at q
  intro H1 m b1 R1 hm
  refine ⟨m, _, rfl, .inl (.inl hm), rfl, _, _, rfl, _, _, rfl, rfl, ?_⟩
  refine ⟨_, rfl, p, rfl, R1.isI, p, S, a + 1, d, _, rfl, by decide, R1, TK.sub b1 (show TK CR CS p S d H Q E _ from q) fun t1 a1 H2 v1 _ b2 R2 D1 q1 => ?_⟩
  refine ⟨_, rfl, p, rfl, R2.isI, p, S, a1, d, _, rfl, by decide, R2, TK.sub b2 q1 fun t2 a2 H3 v2 c3 b3 R3 D2 q2 => ?_⟩
  have D1 := D1.keep (R2.tups c3)
  obtain ⟨x2, vs2, rfl, g2, i1, i2⟩ := num_item D2
  refine ⟨_, rfl, _, rfl, x2, _, _, _, rfl, rfl, .inl (.inl g2), at_nat i2, _, rfl, _, rfl, _, rfl, _, rfl, (by show 7 ≤ sizeLine; decide), fun y ny => ?_⟩
  have sy := same_new (o := .tup [.str "let", .int (x : Int), .int (t2.e : Int), .str (strL (S.wd a)), .int (S.st a : Int), v1, .ref x2]) ny
  refine q2 _ _ (b3.trans (But.of sy)) (R3.same sy) (Tn.mk_ (t := ⟨"let", x, t2.e, _⟩) upd_same (.cons DT.str (.cons DT.int (.cons (D1.keep fun _ _ h => sy _ _ h) (.cons (D2.keep fun _ _ h => sy _ _ h) .nil)))) (by show 7 ≤ 1000000; decide))
abbrev s_Reader_choice : Stmt := inClass (topS 25) 14
abbrev N_Reader_choice : List Str := ["self", "start", "test", "yes", "no"]
theorem sc_Reader_choice : FnScope N_Reader_choice ["self", "start"] (defScope s_Reader_choice) := ⟨rfl, rfl, rfl, by decide +kernel, rfl, by decide +kernel, by decide +kernel⟩
theorem ok_choice (h5 : 5 ≤ jv) (F : Fun K "choice" "Reader.choice" s_Reader_choice f fd) (T : NmR K w mg aW tS CR CS aR t0 t1 t2 t3 t4 t5 t6) (C_Reader_value : CalM P w K mg base (L2N.CX P w) (jv) CR "value" (spT CR CS fun S d a => MV S d a))
    (C_Reader_part : CalM P w K mg base (L2N.CX P w) (jv + 1) CR "part" (spTw CR CS fun S d a => MV S d a)) : FnOk P w K mg base (L2N.CX P w) (jv + 2) f fd ["self", "start"] (spTs CR CS fun S d s a => S.ifM (MV S d) s a) := by
  refine okXN F sc_Reader_choice (fun vs H Q E h => ?_) (fun cdv A outer s H vs Q E hr h => ?_)
  · obtain ⟨p, S, a, d, x, rfl, _⟩ := h
    rfl
  obtain ⟨p, S, a, d, x, rfl, R, q⟩ := h
  have hr : Room (jv + 1) _ := hr
  refine ⟨_, (pss_cons (ps_set (i := 2) sc_Reader_choice.nd rfl (Or.inl rfl) (pe_m0 ns_Reader C_Reader_value T.cl_Reader (by decide) hr (by first | decide | omega) (L2N.passes_call (L2N.takes_of rfl rfl rfl rfl) (fun _ _ _ _ h => h)) (pv 0)))
    (pss_cons (ps_set (i := 3) sc_Reader_choice.nd rfl (Or.inl rfl) (pe_m ns_Reader C_Reader_part T.cl_Reader (by decide) hr (by first | decide | omega) (L2N.passes_call (L2N.takes_of rfl rfl rfl rfl) (fun _ _ _ _ h => h)) (pv 0) (pa_cons pe_str pa_nil)))
    (pss_cons (ps_set (i := 4) sc_Reader_choice.nd rfl (Or.inl rfl) (pe_m ns_Reader C_Reader_part T.cl_Reader (by decide) hr (by first | decide | omega) (L2N.passes_call (L2N.takes_of rfl rfl rfl rfl) (fun _ _ _ _ h => h)) (pv 0) (pa_cons pe_str pa_nil)))
    (pss_one (ps_ret (pe_tup (pa_cons pe_str (pa_cons (pv 1) (pa_cons (pe_ix (r := rIxT K) ix_tup (pv 4) pe_int (fun _ _ => rfl)) (pa_cons (pv 2) (pa_cons (pv 3) (pa_cons (pv 4) pa_nil)))))))))))), ?_⟩
  have q : TK CR CS p S d H Q E (S.ifM (MV S d) x a) := q
  unfold Src.ifM at q
  refine ⟨_, rfl, p, rfl, R.isI, p, S, a, d, rfl, R, TK.sub (But.refl p H) q fun t1 a1 H1 v1 _ b1 R1 D1 q1 => ?_⟩
  refine ⟨_, rfl, p, rfl, R1.isI, p, S, a1, d, _, rfl, by decide, R1, TK.sub b1 q1 fun t2 a2 H2 v2 c2 b2 R2 D2 q2 => ?_⟩
  refine ⟨_, rfl, p, rfl, R2.isI, p, S, a2, d, _, rfl, by decide, R2, TK.sub b2 q2 fun t3 a3 H3 v3 c3 b3 R3 D3 q3 => ?_⟩
  have D1 := (D1.keep (R1.tups c2)).keep (R2.tups c3)
  have D2 := D2.keep (R2.tups c3)
  obtain ⟨x2, vs2, rfl, g2, i1, i2⟩ := num_item D3
  refine ⟨_, rfl, _, rfl, x2, _, _, _, rfl, rfl, .inl (.inl g2), at_nat i2, _, rfl, _, rfl, _, rfl, (by show 6 ≤ sizeLine; decide), fun y ny => ?_⟩
  have sy := same_new (o := .tup [.str "if", .int (x : Int), .int (t3.e : Int), v1, v2, .ref x2]) ny
  refine q3 _ _ (b3.trans (But.of sy)) (R3.same sy) (Tn.mk_ (t := ⟨"if", x, t3.e, _⟩) upd_same (.cons (D1.keep fun _ _ h => sy _ _ h) (.cons (D2.keep fun _ _ h => sy _ _ h) (.cons (D3.keep fun _ _ h => sy _ _ h) .nil))) (by show 6 ≤ 1000000; decide))
abbrev s_Reader_loop : Stmt := inClass (topS 25) 15
abbrev N_Reader_loop : List Str := ["self", "start", "name", "at", "first", "count", "step"]
theorem sc_Reader_loop : FnScope N_Reader_loop ["self", "start"] (defScope s_Reader_loop) := ⟨rfl, rfl, rfl, by decide +kernel, rfl, by decide +kernel, by decide +kernel⟩
theorem ok_loop (h5 : 5 ≤ jv) (F : Fun K "loop" "Reader.loop" s_Reader_loop f fd) (T : NmR K w mg aW tS CR CS aR t0 t1 t2 t3 t4 t5 t6) (C_Reader_mark : CalM P w K mg base (L2N.CX P w) 4 CR "mark" (spMark CR CS))
    (C_Reader_part : CalM P w K mg base (L2N.CX P w) (jv + 1) CR "part" (spTw CR CS fun S d a => MV S d a)) : FnOk P w K mg base (L2N.CX P w) (jv + 2) f fd ["self", "start"] (spTs CR CS fun S d s a => S.loopM (MV S d) s a) := by
  refine okXN F sc_Reader_loop (fun vs H Q E h => ?_) (fun cdv A outer s H vs Q E hr h => ?_)
  · obtain ⟨p, S, a, d, x, rfl, _⟩ := h
    rfl
  obtain ⟨p, S, a, d, x, rfl, R, q⟩ := h
  have hr : Room (jv + 1) _ := hr
  refine ⟨_, (pss_cons (ps_asg (pe_m0 ns_Reader C_Reader_mark T.cl_Reader (by decide) hr (by first | decide | omega) (L2N.passes_call (L2N.takes_of rfl rfl rfl rfl) (fun _ _ _ _ h => h)) (pv 0)) (pg_tup rfl (pgs_cons (pg_name (i := 2) sc_Reader_loop.nd rfl (Or.inl rfl)) (pgs_cons (pg_name (i := 3) sc_Reader_loop.nd rfl (Or.inl rfl)) pgs_nil))))
    (pss_cons (ps_set (i := 4) sc_Reader_loop.nd rfl (Or.inl rfl) (pe_m ns_Reader C_Reader_part T.cl_Reader (by decide) hr (by first | decide | omega) (L2N.passes_call (L2N.takes_of rfl rfl rfl rfl) (fun _ _ _ _ h => h)) (pv 0) (pa_cons pe_str pa_nil)))
    (pss_cons (ps_set (i := 5) sc_Reader_loop.nd rfl (Or.inl rfl) (pe_m ns_Reader C_Reader_part T.cl_Reader (by decide) hr (by first | decide | omega) (L2N.passes_call (L2N.takes_of rfl rfl rfl rfl) (fun _ _ _ _ h => h)) (pv 0) (pa_cons pe_str pa_nil)))
    (pss_cons (ps_set (i := 6) sc_Reader_loop.nd rfl (Or.inl rfl) (pe_m ns_Reader C_Reader_part T.cl_Reader (by decide) hr (by first | decide | omega) (L2N.passes_call (L2N.takes_of rfl rfl rfl rfl) (fun _ _ _ _ h => h)) (pv 0) (pa_cons pe_str pa_nil)))
    (pss_one (ps_ret (pe_tup (pa_cons pe_str (pa_cons (pv 1) (pa_cons (pe_ix (r := rIxT K) ix_tup (pv 6) pe_int (fun _ _ => rfl)) (pa_cons (pv 2) (pa_cons (pv 3) (pa_cons (pv 4) (pa_cons (pv 5) (pa_cons (pv 6) pa_nil))))))))))))))), ?_⟩
  have q : TK CR CS p S d H Q E (S.loopM (MV S d) x a) := q
  unfold Src.loopM at q
  refine ⟨_, rfl, p, rfl, R.isI, p, S, a, d, rfl, R, ?_⟩
  cases k1 : S.isN a with
  | false =>
    rw [k1] at q
    exact q
  | true =>
  rw [k1] at q
  intro H1 m b1 R1 hm
  refine ⟨m, _, rfl, .inl (.inl hm), rfl, _, _, rfl, _, _, rfl, rfl, ?_⟩
  refine ⟨_, rfl, p, rfl, R1.isI, p, S, a + 1, d, _, rfl, by decide, R1, TK.sub b1 (show TK CR CS p S d H Q E _ from q) fun t1 a1 H2 v1 _ b2 R2 D1 q1 => ?_⟩
  refine ⟨_, rfl, p, rfl, R2.isI, p, S, a1, d, _, rfl, by decide, R2, TK.sub b2 q1 fun t2 a2 H3 v2 c3 b3 R3 D2 q2 => ?_⟩
  refine ⟨_, rfl, p, rfl, R3.isI, p, S, a2, d, _, rfl, by decide, R3, TK.sub b3 q2 fun t3 a3 H4 v3 c4 b4 R4 D3 q3 => ?_⟩
  have D1 := (D1.keep (R2.tups c3)).keep (R3.tups c4)
  have D2 := D2.keep (R3.tups c4)
  obtain ⟨x2, vs2, rfl, g2, i1, i2⟩ := num_item D3
  refine ⟨_, rfl, _, rfl, x2, _, _, _, rfl, rfl, .inl (.inl g2), at_nat i2, _, rfl, _, rfl, _, rfl, _, rfl, _, rfl, (by show 8 ≤ sizeLine; decide), fun y ny => ?_⟩
  have sy := same_new (o := .tup [.str "loop", .int (x : Int), .int (t3.e : Int), .str (strL (S.wd a)), .int (S.st a : Int), v1, v2, .ref x2]) ny
  refine q3 _ _ (b4.trans (But.of sy)) (R4.same sy) (Tn.mk_ (t := ⟨"loop", x, t3.e, _⟩) upd_same (.cons DT.str (.cons DT.int (.cons (D1.keep fun _ _ h => sy _ _ h) (.cons (D2.keep fun _ _ h => sy _ _ h) (.cons (D3.keep fun _ _ h => sy _ _ h) .nil))))) (by show 8 ≤ 1000000; decide))
end

end Sn

namespace Sn
open PySem PySem.Spec PyProof.Rows L2 TL
/-! ### signs, fields, simple values -/
/-- negated, at a "not" -/
def spNot (C CS : Addr) (m : Src → Nat → Nat → Rs Tn) : Sp := fun vs H Q E => ∃ p S a d, vs = [.ref p] ∧ Rd C H p S a d ∧ a < S.n ∧ TK C CS p S d H Q E (m S d a)
def notM (S : Src) (N : Nat → Rs Tn) (d a : Nat) : Rs Tn := if d = 30 then S.fail a else (N (a + 1)).bind fun t a' => .ok ⟨"not", S.st a, t.e, [t.d]⟩ a'
theorem Rd.down {C : Addr} {H H' : Hp} {p : Addr} {S : Src} {a d : Nat} {z : Str} {r : Addr} (R : Rd C H p S a (d + 1)) (R0 : Raw C H p z r a ((d + 1 : Nat) : Int)) (b : But p H H') (h : Raw C H' p z r a (((d + 1 : Nat) : Int) - 1)) : Rd C H' p S a d := by
  have e : ((d + 1 : Nat) : Int) - 1 = (d : Int) := by omega
  rw [e] at h
  exact R.move R0 b h R.ha
section
variable {P : Program} {w : World} {K : PySem.W.Frag} {mg : Str → Option Value} {base : Heap} {f : Addr} {fd : FuncData} {aW CR CS aR : Addr} {tS t0 t1 t2 t3 t4 t5 t6 : PySem.Tok} {jv jc j jr js : Nat} {MV MG MN : Src → Nat → Nat → Rs Tn} {MC : Src → Nat → Nat → Nat → Rs Tn}
abbrev s_Reader_negated : Stmt := inClass (topS 25) 17
abbrev N_Reader_negated : List Str := ["self", "start", "inner"]
theorem sc_Reader_negated : FnScope N_Reader_negated ["self"] (defScope s_Reader_negated) := ⟨rfl, rfl, rfl, by decide +kernel, rfl, by decide +kernel, by decide +kernel⟩
theorem ok_negated (h4 : 4 ≤ jc) (F : Fun K "negated" "Reader.negated" s_Reader_negated f fd) (T : NmR K w mg aW tS CR CS aR t0 t1 t2 t3 t4 t5 t6) (C_Reader_begin : CalM P w K mg base (L2N.CX P w) 4 CR "begin" (spBegin CR CS))
    (C_Reader_chain : CalM P w K mg base (L2N.CX P w) jc CR "chain" (spTc CR CS fun S d s a => MC S s d a)) : FnOk P w K mg base (L2N.CX P w) (jc + 1) f fd ["self"] (spNot CR CS fun S d a => notM S (MC S 3 (d + 1)) d a) := by
  refine okXN F sc_Reader_negated (fun vs H Q E h => ?_) (fun cdv A outer s H vs Q E hr h => ?_)
  · obtain ⟨p, S, a, d, rfl, _⟩ := h
    rfl
  obtain ⟨p, S, a, d, rfl, R, ka, q⟩ := h
  have hr : Room jc _ := hr
  refine ⟨_, (pss_cons (ps_set (i := 1) sc_Reader_negated.nd rfl (Or.inl rfl) (pe_m0 ns_Reader C_Reader_begin T.cl_Reader (by decide) hr (by first | decide | omega) (L2N.passes_call (L2N.takes_of rfl rfl rfl rfl) (fun _ _ _ _ h => h)) (pv 0)))
    (pss_cons (ps_rd_at T (pv 0) pe_int in_add)
    (pss_cons (ps_set (i := 2) sc_Reader_negated.nd rfl (Or.inl rfl) (pe_m ns_Reader C_Reader_chain T.cl_Reader (by decide) hr (by first | decide | omega) (L2N.passes_call (L2N.takes_of rfl rfl rfl rfl) (fun _ _ _ _ h => h)) (pv 0) (pa_cons (pe_glob (v := .int 3) (by rfl) T.g_NEGATION ⟨_, rfl⟩) pa_nil)))
    (pss_cons (ps_rd_depth T (pv 0) pe_int in_sub)
    (pss_one (ps_ret (pe_tup (pa_cons pe_str (pa_cons (pv 1) (pa_cons (pe_ix (r := rIxT K) ix_tup (pv 2) pe_int (fun _ _ => rfl)) (pa_cons (pv 2) pa_nil))))))))))), ?_⟩
  have q : TK CR CS p S d H Q E (notM S (MC S 3 (d + 1)) d a) := q
  unfold notM at q
  refine ⟨_, rfl, p, rfl, R.isI, p, S, a, d, rfl, R, ?_⟩
  by_cases kd : d = 30
  · rw [if_pos (.inl kd)]
    rw [if_pos kd] at q
    exact q
  rw [if_neg (fun e => e.elim kd fun z => z ka)]
  rw [if_neg kd] at q
  intro H1 b1 R1
  obtain ⟨z, r, rs, ez, raw, hr0, hl, tk⟩ := R1.nor
  refine ⟨_, rfl, p, z, r, _, _, rfl, raw, _, _, rfl, rfl, _, rfl, raw, fun H2 b2 h2 => ?_⟩
  have R2 := R1.step raw b2 h2 ka
  refine ⟨_, rfl, p, rfl, R2.isI, p, S, a + 1, d + 1, 3, rfl, by decide, R2, TK.sub (b1.trans b2) q fun t a' H3 v c3 b3 R3 D3 q3 => ?_⟩
  obtain ⟨z, r, rs, ez, raw, hr0, hl, tk⟩ := R3.nor
  refine ⟨_, rfl, p, z, r, _, _, rfl, raw, _, _, rfl, rfl, _, rfl, raw, fun H4 b4 h4 => ?_⟩
  have R4 := R3.down raw b4 h4
  have D4 := D3.keep (R3.tups b4)
  obtain ⟨x2, vs2, rfl, g2, i1, i2⟩ := num_item D4
  refine ⟨_, rfl, _, rfl, x2, _, _, _, rfl, rfl, .inl (.inl g2), at_nat i2, _, rfl, (by show 4 ≤ sizeLine; decide), fun y ny => ?_⟩
  have sy := same_new (o := .tup [.str "not", .int (S.st a : Int), .int (t.e : Int), .ref x2]) ny
  exact q3 _ _ ((b3.trans b4).trans (But.of sy)) (R4.same sy) (Tn.mk_ (t := ⟨"not", S.st a, t.e, _⟩) upd_same (.cons (D4.keep fun _ _ h => sy _ _ h) .nil) (by show 4 ≤ 1000000; decide))
abbrev s_Reader_signed : Stmt := inClass (topS 25) 18
abbrev N_Reader_signed : List Str := ["self", "start", "inner"]
theorem sc_Reader_signed : FnScope N_Reader_signed ["self"] (defScope s_Reader_signed) := ⟨rfl, rfl, rfl, by decide +kernel, rfl, by decide +kernel, by decide +kernel⟩
theorem ok_signed (h4 : 4 ≤ j) (hr1 : jr ≤ j) (hs1 : js ≤ j) (F : Fun K "signed" "Reader.signed" s_Reader_signed f fd) (T : NmR K w mg aW tS CR CS aR t0 t1 t2 t3 t4 t5 t6) (C_Reader_peek : CalM P w K mg base CX0 2 CR "peek" (spPeek CR)) (C_Reader_begin : CalM P w K mg base (L2N.CX P w) 4 CR "begin" (spBegin CR CS))
    (C_Reader_reached : CalM P w K mg base (L2N.CX P w) jr CR "reached" (spT CR CS fun S d a => S.reachM (MV S d) a)) (C_Reader_signed : CalM P w K mg base (L2N.CX P w) js CR "signed" (spT CR CS fun S d a => MG S d a)) :
    FnOk P w K mg base (L2N.CX P w) (j + 1) f fd ["self"] (spT CR CS fun S d a => S.signM (MG S (d + 1)) (MV S d) d a) := by
  refine okXN F sc_Reader_signed (fun vs H Q E h => ?_) (fun cdv A outer s H vs Q E hr h => ?_)
  · obtain ⟨p, S, a, d, rfl, _⟩ := h
    rfl
  obtain ⟨p, S, a, d, rfl, R, q⟩ := h
  have hr : Room j _ := hr
  refine ⟨_, (pss_cons (ps_if (pt_cmpR op_ne (pe_m0 ns_Reader C_Reader_peek T.cl_Reader (by decide) hr (by first | decide | omega) pass0 (pv 0)) pe_str (nomark _)) (pss_one (ps_ret (pe_m0 ns_Reader C_Reader_reached T.cl_Reader (by decide) hr (by first | decide | omega) (L2N.passes_call (L2N.takes_of rfl rfl rfl rfl) (fun _ _ _ _ h => h)) (pv 0)))) pss_nil)
    (pss_cons (ps_set (i := 1) sc_Reader_signed.nd rfl (Or.inl rfl) (pe_m0 ns_Reader C_Reader_begin T.cl_Reader (by decide) hr (by first | decide | omega) (L2N.passes_call (L2N.takes_of rfl rfl rfl rfl) (fun _ _ _ _ h => h)) (pv 0)))
    (pss_cons (ps_rd_at T (pv 0) pe_int in_add)
    (pss_cons (ps_set (i := 2) sc_Reader_signed.nd rfl (Or.inl rfl) (pe_m0 ns_Reader C_Reader_signed T.cl_Reader (by decide) hr (by first | decide | omega) (L2N.passes_call (L2N.takes_of rfl rfl rfl rfl) (fun _ _ _ _ h => h)) (pv 0)))
    (pss_cons (ps_rd_depth T (pv 0) pe_int in_sub)
    (pss_one (ps_ret (pe_tup (pa_cons pe_str (pa_cons (pv 1) (pa_cons (pe_ix (r := rIxT K) ix_tup (pv 2) pe_int (fun _ _ => rfl)) (pa_cons (pv 2) pa_nil)))))))))))), ?_⟩
  have q : TK CR CS p S d H Q E (S.signM (MG S (d + 1)) (MV S d) d a) := q
  unfold Src.signM at q
  refine ⟨_, rfl, p, rfl, R.isI, p, S, a, d, rfl, R, rfl, _, rfl, ?_⟩
  rw [str_eqW]
  cases k1 : S.eqW a "-" with
  | false =>
    rw [k1] at q
    refine iteT ?_
    exact ⟨_, rfl, p, rfl, R.isI, p, S, a, d, rfl, R, q⟩
  | true =>
  rw [k1] at q
  refine iteF ?_
  have ka := lt_of_wd k1 (by decide)
  refine ⟨_, rfl, p, rfl, R.isI, p, S, a, d, rfl, R, ?_⟩
  by_cases kd : d = 30
  · rw [if_pos (.inl kd)]
    rw [if_pos rfl, if_pos kd] at q
    exact q
  rw [if_neg (fun e => e.elim kd fun z => z ka)]
  rw [if_pos rfl, if_neg kd] at q
  intro H1 b1 R1
  obtain ⟨z, r, rs, ez, raw, hr0, hl, tk⟩ := R1.nor
  refine ⟨_, rfl, p, z, r, _, _, rfl, raw, _, _, rfl, rfl, _, rfl, raw, fun H2 b2 h2 => ?_⟩
  have R2 := R1.step raw b2 h2 ka
  refine ⟨_, rfl, p, rfl, R2.isI, p, S, a + 1, d + 1, rfl, R2, TK.sub (b1.trans b2) q fun t a' H3 v c3 b3 R3 D3 q3 => ?_⟩
  obtain ⟨z, r, rs, ez, raw, hr0, hl, tk⟩ := R3.nor
  refine ⟨_, rfl, p, z, r, _, _, rfl, raw, _, _, rfl, rfl, _, rfl, raw, fun H4 b4 h4 => ?_⟩
  have R4 := R3.down raw b4 h4
  have D4 := D3.keep (R3.tups b4)
  obtain ⟨x2, vs2, rfl, g2, i1, i2⟩ := num_item D4
  refine ⟨_, rfl, _, rfl, x2, _, _, _, rfl, rfl, .inl (.inl g2), at_nat i2, _, rfl, (by show 4 ≤ sizeLine; decide), fun y ny => ?_⟩
  have sy := same_new (o := .tup [.str "minus", .int (S.st a : Int), .int (t.e : Int), .ref x2]) ny
  exact q3 _ _ ((b3.trans b4).trans (But.of sy)) (R4.same sy) (Tn.mk_ (t := ⟨"minus", S.st a, t.e, _⟩) upd_same (.cons (D4.keep fun _ _ h => sy _ _ h) .nil) (by show 4 ≤ 1000000; decide))
abbrev s_Reader_reached : Stmt := inClass (topS 25) 19
abbrev N_Reader_reached : List Str := ["self", "tree", "name", "at"]
theorem sc_Reader_reached : FnScope N_Reader_reached ["self"] (defScope s_Reader_reached) := ⟨rfl, rfl, rfl, by decide +kernel, rfl, by decide +kernel, by decide +kernel⟩
theorem wd_le (S : Src) (a : Nat) : (S.wd a).length ≤ S.l.length := by
  unfold Src.wd
  split
  · rw [List.length_take, List.length_drop]; omega
  · exact Nat.zero_le _
theorem ok_reached (h5 : 5 ≤ jv) (F : Fun K "reached" "Reader.reached" s_Reader_reached f fd) (T : NmR K w mg aW tS CR CS aR t0 t1 t2 t3 t4 t5 t6) (C_Reader_simple : CalM P w K mg base (L2N.CX P w) (jv + 2) CR "simple" (spT CR CS fun S d a => S.simpM (MV S d) a))
    (C_Reader_taken : CalM P w K mg base CX0 3 CR "taken" (spTaken CR)) (C_Reader_mark : CalM P w K mg base (L2N.CX P w) 4 CR "mark" (spMark CR CS)) :
    FnOk P w K mg base (L2N.CX P w) (jv + 3) f fd ["self"] (spT CR CS fun S d a => S.reachM (MV S d) a) := by
  refine okXN F sc_Reader_reached (fun vs H Q E h => ?_) (fun cdv A outer s H vs Q E hr h => ?_)
  · obtain ⟨p, S, a, d, rfl, _⟩ := h
    rfl
  obtain ⟨p, S, a, d, rfl, R, q⟩ := h
  have hr : Room (jv + 2) _ := hr
  refine ⟨_, (pss_cons (ps_set (i := 1) sc_Reader_reached.nd rfl (Or.inl rfl) (pe_m0 ns_Reader C_Reader_simple T.cl_Reader (by decide) hr (by first | decide | omega) (L2N.passes_call (L2N.takes_of rfl rfl rfl rfl) (fun _ _ _ _ h => h)) (pv 0)))
    (pss_cons (ps_while (passes_of rfl) (pt_val (pe_m ns_Reader C_Reader_taken T.cl_Reader (by decide) hr (by first | decide | omega) pass0 (pv 0) (pa_cons pe_str pa_nil))) (pss_cons (ps_asg (pe_m0 ns_Reader C_Reader_mark T.cl_Reader (by decide) hr (by first | decide | omega) (L2N.passes_call (L2N.takes_of rfl rfl rfl rfl) (fun _ _ _ _ h => h)) (pv 0)) (pg_tup rfl (pgs_cons (pg_name (i := 2) sc_Reader_reached.nd rfl (Or.inl rfl)) (pgs_cons (pg_name (i := 3) sc_Reader_reached.nd rfl (Or.inl rfl)) pgs_nil))))
    (pss_one (ps_set (i := 1) sc_Reader_reached.nd rfl (Or.inl rfl) (pe_tup (pa_cons pe_str (pa_cons (pe_ix (r := rIxT K) ix_tup (pv 1) pe_int (fun _ _ => rfl)) (pa_cons (pe_op op_add (pv 3) (pe_callB call_len_str (by rfl) T.len PySem.boot_len (pa_cons (pv 2) pa_nil))) (pa_cons (pv 1) (pa_cons (pv 2) pa_nil))))))))))
    (pss_one (ps_ret (pv 1))))), ?_⟩
  have q : TK CR CS p S d H Q E ((S.simpM (MV S d) a).bind S.dotsM) := q
  refine ⟨_, rfl, p, rfl, R.isI, p, S, a, d, rfl, R, TK.sub (But.refl p H) q fun t0' a0 H1 v1 _ b1 R1 D1 q1 => ?_⟩
  refine ⟨fun m σ H2 => ∃ (t : Tn) (a' : Nat) (v : V) (o2 o3 : Option V), σ = [some (.ref p), some v, o2, o3] ∧ But p H H2 ∧ Rd CR H2 p S a' d ∧ DT H2 t.d v ∧ TK CR CS p S d H Q E (S.dotsM t a') ∧ m = S.n + 1 - a', ⟨_, t0', a0, v1, none, none, rfl, b1, R1, D1, q1, rfl⟩, ?_⟩
  rintro m σ H2 ⟨t, a', v, o2, o3, rfl, b2, R2, D2, q2, rfl⟩
  rw [Src.dotsM] at q2
  refine ⟨_, rfl, p, rfl, R2.isI, p, S, a', d, _, rfl, R2, by decide, ?_⟩
  cases k1 : S.eqW a' "." with
  | false =>
    rw [k1] at q2
    refine iteF ⟨_, rfl, iteF ?_⟩
    exact ⟨_, rfl, q2 H2 v b2 R2 D2⟩
  | true =>
  rw [k1, if_pos rfl] at q2
  have ka := lt_of_wd k1 (by decide)
  refine iteT fun H3 b3 R3 => ⟨_, rfl, iteT ⟨fun σ' H' => ∃ m', m' < S.n + 1 - a' ∧ ∃ (t : Tn) (a' : Nat) (v : V) (o2 o3 : Option V), σ' = [some (.ref p), some v, o2, o3] ∧ But p H H' ∧ Rd CR H' p S a' d ∧ DT H' t.d v ∧ TK CR CS p S d H Q E (S.dotsM t a') ∧ m' = S.n + 1 - a', fun _ _ h => h, ?_⟩⟩
  refine ⟨_, rfl, p, rfl, R3.isI, p, S, a' + 1, d, rfl, R3, ?_⟩
  cases k2 : S.isN (a' + 1) with
  | false =>
    rw [k2] at q2
    exact fun H' dd b x => q2 H' dd ((b2.trans b3).trans b) x
  | true =>
  rw [k2, if_pos rfl, dif_pos ka] at q2
  intro H4 x b4 R4 hx
  refine ⟨x, _, rfl, .inl (.inl hx), rfl, _, _, rfl, _, _, rfl, rfl, ?_⟩
  have D4 := (D2.keep (R2.tups b3)).keep (R3.tups b4)
  obtain ⟨x2, vs2, rfl, g2, i1, i2⟩ := num_item D4
  have hwl := wd_le S (a' + 1)
  have hsl := R4.hl
  refine ⟨_, rfl, x2, _, _, _, rfl, rfl, .inl (.inl g2), at_nat i1, _, rfl, _, rfl, _, rfl, small (by show (S.wd (a' + 1)).toArray.size ≤ _; rw [List.size_toArray]; omega), _, _, rfl, rfl, _, rfl, _, rfl, (by show 5 ≤ sizeLine; decide), fun y ny => ?_⟩
  have el : (S.st (a' + 1) : Int) + (((strL (S.wd (a' + 1))).length : Nat) : Int) = ((S.st (a' + 1) + (S.wd (a' + 1)).length : Nat) : Int) := by
    show (S.st (a' + 1) : Int) + (((S.wd (a' + 1)).toArray.size : Nat) : Int) = _
    rw [List.size_toArray]
    omega
  dsimp only
  rw [el]
  have sy := same_new (o := .tup [.str "field", .int (t.s : Int), .int ((S.st (a' + 1) + (S.wd (a' + 1)).length : Nat) : Int), .ref x2, .str (strL (S.wd (a' + 1)))]) ny
  have hle := R4.ha
  exact ⟨_, by omega, ⟨"field", t.s, S.st (a' + 1) + (S.wd (a' + 1)).length, [t.d, S.strW (a' + 1)]⟩, a' + 2, _, _, _, rfl, ((b2.trans b3).trans b4).trans (But.of sy), R4.same sy, Tn.mk_ upd_same (.cons (D4.keep fun _ _ h => sy _ _ h) (.cons DT.str .nil)) (by show 5 ≤ 1000000; decide), q2, rfl⟩
end

end Sn

namespace Sn
open PySem PySem.Spec PyProof.Rows L2 TL
/-! ### simple values, calls, chains -/
theorem int_digit : ∀ c, isD c = true → PySem.intText? ⟨#[c]⟩ = some ((c : Int) - 48) := by
  intro c h
  have : c = 48 ∨ c = 49 ∨ c = 50 ∨ c = 51 ∨ c = 52 ∨ c = 53 ∨ c = 54 ∨ c = 55 ∨ c = 56 ∨ c = 57 := by
    unfold isD at h
    rw [Bool.and_eq_true, decide_eq_true_eq, decide_eq_true_eq] at h
    omega
  rcases this with h | h | h | h | h | h | h | h | h | h <;> (subst h; decide +kernel)
section
variable {P : Program} {w : World} {K : PySem.W.Frag} {mg : Str → Option Value} {base : Heap} {f : Addr} {fd : FuncData} {aW CR CS aR : Addr} {tS t0 t1 t2 t3 t4 t5 t6 : PySem.Tok} {jv : Nat} {MV : Src → Nat → Nat → Rs Tn}
abbrev s_number_value : Stmt := topS 16
abbrev N_number_value : List Str := ["digits", "value", "digit"]
theorem sc_number_value : FnScope N_number_value ["digits"] (defScope s_number_value) := ⟨rfl, rfl, rfl, by decide +kernel, rfl, by decide +kernel, by decide +kernel⟩
theorem ok_number_value (F : Fun K "number_value" "number_value" s_number_value f fd) (T : NmR K w mg aW tS CR CS aR t0 t1 t2 t3 t4 t5 t6) : FnOk P w K mg base CX0 1 f fd ["digits"] spNum := by
  refine F.ok sc_number_value (fun vs H Q E h => ?_) (fun cdv A outer s H vs Q E hr h => ?_)
  · obtain ⟨z, rfl, _⟩ := h
    rfl
  obtain ⟨z, rfl, hz, q⟩ := h
  refine ⟨_, (pss_cons (ps_set (i := 1) sc_number_value.nd rfl (Or.inl rfl) pe_int)
    (pss_cons (ps_for PassesOwn.never rfl (pi_str (pv 0)) (pg_name (i := 2) sc_number_value.nd rfl (Or.inl rfl)) (pss_one (ps_set (i := 1) sc_number_value.nd rfl (Or.inl rfl) (pe_op op_mod (pe_op op_add (pe_op op_mul (pv 1) pe_int) (pe_callTy call_int_str (by rfl) T.int_ (by decide +kernel) (pa_cons (pv 2) pa_nil))) (pe_glob (v := .int 4294967296) (by rfl) T.g_NUMBERS ⟨_, rfl⟩)))))
    (pss_one (ps_ret (pv 1))))), ?_⟩
  refine ⟨_, rfl, z, rfl, for_str (x := z) (fun i σ H' => H' = H ∧ ∃ v2, σ = [some (.str z), some (.int (Src.numv ((tl z).take i))), v2]) ⟨rfl, none, rfl⟩ ?_ ?_⟩
  · rintro i c σ H' hi ⟨rfl, v2, rfl⟩
    have hc : isD c = true := List.all_eq_true.mp hz c (List.mem_of_getElem? hi)
    have hb : 0 ≤ Src.numv ((tl z).take i) ∧ Src.numv ((tl z).take i) < 4294967296 := by
      generalize (tl z).take i = l
      rcases List.eq_nil_or_concat l with h | ⟨l', b, h⟩
      · subst h
        exact ⟨by decide, by decide⟩
      · subst h
        unfold Src.numv
        rw [List.concat_eq_append, List.foldl_append]
        exact ⟨Int.emod_nonneg _ (by decide), Int.emod_lt_of_pos _ (by decide)⟩
    refine ⟨_, rfl, _, _, rfl, rfl, .inl ⟨by omega, by omega⟩, _, rfl, _, _, rfl, int_digit c hc, by show 1 ≤ 640; decide, _, _, rfl, rfl, _, _, rfl, rfl, (by show (0 : Int) < 4294967296; decide), ?_⟩
    refine ⟨rfl, some (.str ⟨#[c]⟩), ?_⟩
    have : (tl z).take (i + 1) = (tl z).take i ++ [c] := by
      rw [List.take_add_one, show (tl z)[i]? = some c from hi]
      rfl
    rw [this]
    unfold Src.numv
    rw [List.foldl_append]
    rfl
  · rintro σ H' ⟨rfl, v2, rfl⟩
    refine ⟨_, rfl, ?_⟩
    rw [show List.take z.cps.toList.length (tl z) = tl z from List.take_length]
    exact q
abbrev s_Reader_named : Stmt := inClass (topS 25) 21
abbrev N_Reader_named : List Str := ["self", "name", "start", "found"]
theorem sc_Reader_named : FnScope N_Reader_named ["self"] (defScope s_Reader_named) := ⟨rfl, rfl, rfl, by decide +kernel, rfl, by decide +kernel, by decide +kernel⟩
theorem ok_named (h5 : 5 ≤ jv) (F : Fun K "named" "Reader.named" s_Reader_named f fd) (T : NmR K w mg aW tS CR CS aR t0 t1 t2 t3 t4 t5 t6) (C_Reader_mark : CalM P w K mg base (L2N.CX P w) 4 CR "mark" (spMark CR CS)) (C_Reader_taken : CalM P w K mg base CX0 3 CR "taken" (spTaken CR))
    (C_Reader_last_end : CalM P w K mg base CX0 1 CR "last_end" (spLast CR)) (C_Reader_peek : CalM P w K mg base CX0 2 CR "peek" (spPeek CR)) (C_Reader_value : CalM P w K mg base (L2N.CX P w) (jv) CR "value" (spT CR CS fun S d a => MV S d a))
    (C_Reader_expect : CalM P w K mg base (L2N.CX P w) 4 CR "expect" (spExpect CR CS)) : FnOk P w K mg base (L2N.CX P w) (jv + 1) f fd ["self"] (spT CR CS fun S d a => S.namedM (MV S d) a) := by
  refine okXN F sc_Reader_named (fun vs H Q E h => ?_) (fun cdv A outer s H vs Q E hr h => ?_)
  · obtain ⟨p, S, a, d, rfl, _⟩ := h
    rfl
  obtain ⟨p, S, a, d, rfl, R, q⟩ := h
  have hr : Room (jv) _ := hr
  refine ⟨_, (pss_cons (ps_asg (pe_m0 ns_Reader C_Reader_mark T.cl_Reader (by decide) hr (by first | decide | omega) (L2N.passes_call (L2N.takes_of rfl rfl rfl rfl) (fun _ _ _ _ h => h)) (pv 0)) (pg_tup rfl (pgs_cons (pg_name (i := 1) sc_Reader_named.nd rfl (Or.inl rfl)) (pgs_cons (pg_name (i := 2) sc_Reader_named.nd rfl (Or.inl rfl)) pgs_nil))))
    (pss_cons (ps_if (pt_not (pt_val (pe_m ns_Reader C_Reader_taken T.cl_Reader (by decide) hr (by first | decide | omega) pass0 (pv 0) (pa_cons pe_str pa_nil)))) (pss_one (ps_ret (pe_tup (pa_cons pe_str (pa_cons (pv 2) (pa_cons (pe_m0 ns_Reader C_Reader_last_end T.cl_Reader (by decide) hr (by first | decide | omega) pass0 (pv 0)) (pa_cons (pv 1) pa_nil))))))) pss_nil)
    (pss_cons (ps_set (i := 3) sc_Reader_named.nd rfl (Or.inl rfl) (pe_lst pa_nil))
    (C8.pss_cut (ps_if (pt_cmpR op_ne (pe_m0 ns_Reader C_Reader_peek T.cl_Reader (by decide) hr (by first | decide | omega) pass0 (pv 0)) pe_str (nomark _)) (pss_cons (ps_expr (pe_bm PySem.F.plainAttrs_list PySem.F.slot_list_append PySem.F.type_list_append mt_append (pv 3) (pa_cons (pe_m0 ns_Reader C_Reader_value T.cl_Reader (by decide) hr (by first | decide | omega) (L2N.passes_call (L2N.takes_of rfl rfl rfl rfl) (fun _ _ _ _ h => h)) (pv 0)) pa_nil)))
    (pss_one (ps_while (passes_of rfl) (pt_val (pe_m ns_Reader C_Reader_taken T.cl_Reader (by decide) hr (by first | decide | omega) pass0 (pv 0) (pa_cons pe_str pa_nil))) (pss_one (ps_expr (pe_bm PySem.F.plainAttrs_list PySem.F.slot_list_append PySem.F.type_list_append mt_append (pv 3) (pa_cons (pe_m0 ns_Reader C_Reader_value T.cl_Reader (by decide) hr (by first | decide | omega) (L2N.passes_call (L2N.takes_of rfl rfl rfl rfl) (fun _ _ _ _ h => h)) (pv 0)) pa_nil))))))) pss_nil)
    (pss_cons (ps_expr (pe_m ns_Reader C_Reader_expect T.cl_Reader (by decide) hr (by first | decide | omega) (L2N.passes_call (L2N.takes_of rfl rfl rfl rfl) (fun _ _ _ _ h => h)) (pv 0) (pa_cons pe_str pa_nil)))
    (pss_one (ps_ret (pe_tup (pa_cons pe_str (pa_cons (pv 2) (pa_cons (pe_m0 ns_Reader C_Reader_last_end T.cl_Reader (by decide) hr (by first | decide | omega) pass0 (pv 0)) (pa_cons (pv 1) (pa_cons (pe_callTy call_tuple_of (by rfl) T.tuple_ (by decide +kernel) (pa_cons (pv 3) pa_nil)) pa_nil))))))))))))), ?_⟩
  have q : TK CR CS p S d H Q E (S.namedM (MV S d) a) := q
  unfold Src.namedM at q
  refine ⟨_, rfl, p, rfl, R.isI, p, S, a, d, rfl, R, ?_⟩
  cases k1 : S.isN a with
  | false =>
    rw [k1] at q
    exact q
  | true =>
  rw [k1, if_pos rfl] at q
  intro H1 m b1 R1 hm
  refine ⟨m, _, rfl, .inl (.inl hm), rfl, _, _, rfl, _, _, rfl, rfl, ?_⟩
  refine ⟨_, rfl, p, rfl, R1.isI, p, S, a + 1, d, _, rfl, R1, by decide, ?_⟩
  cases k2 : S.eqW (a + 1) "(" with
  | false =>
    rw [k2] at q
    refine iteF ⟨_, rfl, iteT ?_⟩
    refine ⟨_, rfl, _, rfl, p, rfl, R1.isI, p, S, a, d, rfl, R1, _, rfl, (by show 4 ≤ sizeLine; decide), fun y ny => ?_⟩
    have sy := same_new (o := .tup [.str "name", .int (S.st a : Int), .int (S.en a : Int), .str (strL (S.wd a))]) ny
    exact q _ _ (b1.trans (But.of sy)) (R1.same sy) (Tn.mk_ (t := ⟨"name", S.st a, S.en a, [S.strW a]⟩) upd_same (.cons DT.str .nil) (by show 4 ≤ 1000000; decide))
  | true =>
  rw [k2, if_pos rfl] at q
  refine iteT fun H2 b2 R2 => ⟨_, rfl, iteF ?_⟩
  refine ⟨Nat.zero_le _, fun L nL => ?_⟩
  have Lp : L ≠ p := fun z => by
    obtain ⟨z0, _, ⟨dx, e2⟩, _⟩ := R2.ex
    rw [z, e2] at nL
    cases nL
  have nL0 : H L = none := by
    cases e : H L with
    | none => rfl
    | some o => rw [(b1.trans b2) L o Lp e] at nL; cases nL
  have rL : S.r ≠ L := fun z => by
    obtain ⟨ys, hy⟩ := R.row
    rw [z, nL0] at hy
    cases hy
  have sL := same_new (o := .lst []) nL
  have R3 : Rd CR (upd H2 L (.lst [])) p S (a + 2) d := R2.same sL
  have hL : upd H2 L (.lst []) L = some (.lst []) := upd_same
  have b3 : But p H (upd H2 L (.lst [])) := (b1.trans b2).trans (But.of sL)
  generalize upd H2 L (.lst []) = H3 at R3 hL b3 ⊢
  -- the list grows
  have grow : ∀ (H5 H6 : Hp) (acc : List D) (vs : List V) (a' : Nat) (t : Tn) (v : V), H5 L = some (.lst vs) → DTs H5 (ofL acc) vs → But p H5 H6 → Tups H5 H6 → But p H H6 → Rd CR H6 p S a' d → DT H6 t.d v →
      But p H (upd H6 L (.lst (vs ++ [v]))) ∧ Rd CR (upd H6 L (.lst (vs ++ [v]))) p S a' d ∧ DTs (upd H6 L (.lst (vs ++ [v]))) (ofL (acc ++ [t.d])) (vs ++ [v]) ∧ H6 L = some (.lst vs) := by
    intro H5 H6 acc vs a' t v h1 h2 h3 tp h4 R6 D6
    have h5 : H6 L = some (.lst vs) := h3 _ _ Lp h1
    have tk : Tups H6 (upd H6 L (.lst (vs ++ [v]))) := fun x ws h => by rw [upd_ne (fun z => by rw [z, h5] at h; cases h)]; exact h
    exact ⟨fun b o nb e => by rw [upd_ne (fun z => by rw [z, nL0] at e; cases e)]; exact h4 b o nb e, R6.updL h5 rL, DTs.snoc (D6.keep tk) acc vs (DTs.keep (fun x ws h => tk _ _ (tp _ _ h)) _ _ h2), h5⟩
  refine ⟨fun σ H4 => ∃ (acc : List D) (vs : List V) (a' : Nat), σ = [some (.ref p), some (.str (strL (S.wd a))), some (.int (S.st a : Int)), some (.ref L)] ∧ But p H H4 ∧ Rd CR H4 p S a' d ∧ H4 L = some (.lst vs) ∧ DTs H4 (ofL acc) vs ∧ vs.length ≤ 100001 ∧
      TK CR CS p S d H Q E (if S.eqW a' ")" = true then .ok ⟨"call", S.st a, S.en a', [S.strW a, .tup (ofL acc)]⟩ (a' + 1) else S.fail a'), ?_, ?_⟩
  · refine ⟨_, rfl, p, rfl, R3.isI, p, S, a + 2, d, rfl, R3, rfl, _, rfl, ?_⟩
    rw [str_eqW]
    cases k3 : S.eqW (a + 2) ")" with
    | true =>
      rw [k3, if_pos rfl] at q
      refine iteF ⟨[], [], a + 2, rfl, b3, R3, hL, DTs.nil, Nat.zero_le _, ?_⟩
      rw [k3, if_pos rfl]
      exact q
    | false =>
    rw [k3] at q
    refine iteT ?_
    refine ⟨_, rfl, .inl ⟨rfl, _, SqL.of hL⟩, _, rfl, p, rfl, R3.isI, p, S, a + 2, d, rfl, R3, TK.sub b3 (show TK CR CS p S d H Q E _ from q) fun t a1 H4 v c4 b4 R4 D4 q4 => ?_⟩
    obtain ⟨g1, g2, g3, g4⟩ := grow H3 H4 [] [] a1 t v hL DTs.nil c4 (R3.tups c4) b4 R4 D4
    refine ⟨L, [], v, rfl, rfl, g4, by show 0 < sizeLine; decide, ?_⟩
    refine ⟨fun m σ H5 => ∃ (acc : List D) (vs : List V) (a' : Nat), σ = [some (.ref p), some (.str (strL (S.wd a))), some (.int (S.st a : Int)), some (.ref L)] ∧ But p H H5 ∧ Rd CR H5 p S a' d ∧ H5 L = some (.lst vs) ∧ DTs H5 (ofL acc) vs ∧ vs.length ≤ a' + 1 ∧
      TK CR CS p S d H Q E (S.argsM (MV S d) (S.st a) (S.strW a) acc a') ∧ m = S.n + 1 - a', ⟨_, [t.d], [v], a1, rfl, g1, g2, upd_same, g3, by show 1 ≤ a1 + 1; omega, q4, rfl⟩, ?_⟩
    rintro m σ H5 ⟨acc, vs, a', rfl, b5, R5, hL5, D5, hlen, q5, rfl⟩
    rw [Src.argsM] at q5
    have hle := R5.ha
    have hn := R5.hn
    refine ⟨_, rfl, p, rfl, R5.isI, p, S, a', d, _, rfl, R5, by decide, ?_⟩
    cases k4 : S.eqW a' "," with
    | false =>
      rw [k4] at q5
      exact iteF ⟨_, rfl, iteF ⟨acc, vs, a', rfl, b5, R5, hL5, D5, by omega, q5⟩⟩
    | true =>
    rw [k4, if_pos rfl] at q5
    have ka := lt_of_wd k4 (by decide)
    refine iteT fun H6 b6 R6 => ⟨_, rfl, iteT ⟨fun σ' H' => ∃ m', m' < S.n + 1 - a' ∧ ∃ (acc : List D) (vs : List V) (a' : Nat), σ' = [some (.ref p), some (.str (strL (S.wd a))), some (.int (S.st a : Int)), some (.ref L)] ∧ But p H H' ∧ Rd CR H' p S a' d ∧ H' L = some (.lst vs) ∧ DTs H' (ofL acc) vs ∧ vs.length ≤ a' + 1 ∧
      TK CR CS p S d H Q E (S.argsM (MV S d) (S.st a) (S.strW a) acc a') ∧ m' = S.n + 1 - a', fun _ _ h => h, ?_⟩⟩
    have hL6 := b6 _ _ Lp hL5
    refine ⟨_, rfl, .inl ⟨rfl, _, SqL.of hL6⟩, _, rfl, p, rfl, R6.isI, p, S, a' + 1, d, rfl, R6, ?_⟩
    show TK CR CS p S d H6 _ _ (MV S d (a' + 1))
    cases ev : MV S d (a' + 1) with
    | un => rw [ev] at q5; exact q5
    | no s e => rw [ev] at q5; exact fun H' dd b x => q5 H' dd ((b5.trans b6).trans b) x
    | ok t2 a2 =>
      rw [ev] at q5
      intro H7 v2 b7 R7 D7
      by_cases hg : a' < a2 ∧ a' < S.n
      · have q6 : TK CR CS p S d H Q E (S.argsM (MV S d) (S.st a) (S.strW a) (acc ++ [t2.d]) a2) := by
          have q7 := q5
          simp only [dif_pos hg] at q7
          exact q7
        obtain ⟨g1, g2, g3, g4⟩ := grow H5 H7 acc vs a2 t2 v2 hL5 D5 (b6.trans b7) (fun x ws h => R6.tups b7 _ _ (R5.tups b6 _ _ h)) ((b5.trans b6).trans b7) R7 D7
        refine ⟨L, vs, v2, rfl, rfl, g4, Nat.lt_of_le_of_lt (show vs.length ≤ 200000 by omega) (by decide), ?_⟩
        exact ⟨_, by omega, acc ++ [t2.d], vs ++ [v2], a2, rfl, g1, g2, upd_same, g3, by rw [List.length_append, List.length_singleton]; omega, q6, rfl⟩
      · exfalso
        have q7 := q5
        simp only [dif_neg hg] at q7
        exact q7
  · rintro σ H4 ⟨acc, vs, a', rfl, b4, R4, hL4, D4, hlen, q4⟩
    refine ⟨_, rfl, p, rfl, R4.isI, p, S, a', d, _, rfl, R4, by decide, ?_⟩
    cases k4 : S.eqW a' ")" with
    | false =>
      rw [k4] at q4
      exact fun H' dd b x => q4 H' dd (b4.trans b) x
    | true =>
    rw [k4, if_pos rfl] at q4
    refine iteT fun H5 b5 R5 => ?_
    have hL5 := b5 _ _ Lp hL4
    refine ⟨_, rfl, _, rfl, p, rfl, R5.isI, p, S, a', d, rfl, R5, _, rfl, _, rfl, L, _, rfl, .inl ⟨.inl (.inl hL5), fun y ny => ?_⟩⟩
    have sy := same_new (o := .tup vs) ny
    have hy : upd H5 y (.tup vs) y = some (.tup vs) := upd_same
    have R6 := R5.same sy
    have D6 := DTs.keep (fun x ws h => sy _ _ (R4.tups b5 _ _ h)) _ _ D4
    generalize upd H5 y (.tup vs) = H6 at sy hy R6 D6 ⊢
    refine ⟨(by show 5 ≤ sizeLine; decide), fun u nu => ?_⟩
    have su := same_new (o := .tup [.str "call", .int (S.st a : Int), .int (S.en a' : Int), .str (strL (S.wd a)), .ref y]) nu
    exact q4 _ _ (((b4.trans b5).trans (But.of sy)).trans (But.of su)) (R6.same su) (Tn.mk_ (t := ⟨"call", S.st a, S.en a', [S.strW a, .tup (ofL acc)]⟩) upd_same (.cons DT.str (.cons (DT.tup (su _ _ hy) (by omega) (DTs.keep (fun x ws h => su _ _ h) _ _ D6)) .nil)) (by show 5 ≤ 1000000; decide))
end

end Sn

namespace Sn
open PySem PySem.Spec PyProof.Rows L2 TL
/-! ### simple values, chains -/
theorem in3 (x : List Nat) : inV (.str (strL x)) [.str "True", .str "False", .str "("] = (decide (x = tl "True") || (decide (x = tl "False") || decide (x = tl "("))) := by
  have one : ∀ w : Str, eqV (.str w) (.str (strL x)) = decide (x = tl w) := fun w => by
    show decide (w = strL x) = _
    by_cases h : x = tl w
    · rw [decide_eq_true h, decide_eq_true (by rw [h, strL_tl])]
    · rw [decide_eq_false h, decide_eq_false fun e => h (by rw [e])]
  unfold inV
  rw [List.any_cons, List.any_cons, List.any_cons, List.any_nil, one, one, one, Bool.or_false]
section
variable {P : Program} {w : World} {K : PySem.W.Frag} {mg : Str → Option Value} {base : Heap} {f : Addr} {fd : FuncData} {aW CR CS aR : Addr} {tS t0 t1 t2 t3 t4 t5 t6 : PySem.Tok} {jv jn jg jc j : Nat} {MV MG MN : Src → Nat → Nat → Rs Tn} {MR : Src → Nat → Nat → Nat → Rs Tn}
abbrev s_Reader_simple : Stmt := inClass (topS 25) 20
abbrev N_Reader_simple : List Str := ["self", "sort", "word", "start", "inner"]
theorem sc_Reader_simple : FnScope N_Reader_simple ["self"] (defScope s_Reader_simple) := ⟨rfl, rfl, rfl, by decide +kernel, rfl, by decide +kernel, by decide +kernel⟩
theorem ok_simple (h5 : 5 ≤ jv) (F : Fun K "simple" "Reader.simple" s_Reader_simple f fd) (T : NmR K w mg aW tS CR CS aR t0 t1 t2 t3 t4 t5 t6) (C_Reader_next_sort : CalM P w K mg base CX0 2 CR "next_sort" (spSort CR)) (C_Reader_peek : CalM P w K mg base CX0 2 CR "peek" (spPeek CR))
    (C_Reader_named : CalM P w K mg base (L2N.CX P w) (jv + 1) CR "named" (spT CR CS fun S d a => S.namedM (MV S d) a)) (C_Reader_fail : CalM P w K mg base (L2N.CX P w) 3 CR "fail" (spFail CR CS)) (C_Reader_next_start : CalM P w K mg base CX0 1 CR "next_start" (spStart CR))
    (C_Reader_last_end : CalM P w K mg base CX0 1 CR "last_end" (spLast CR)) (C_number_value : Cal P w K mg base CX0 1 "number_value" spNum) (C_Reader_value : CalM P w K mg base (L2N.CX P w) (jv) CR "value" (spT CR CS fun S d a => MV S d a))
    (C_Reader_expect : CalM P w K mg base (L2N.CX P w) 4 CR "expect" (spExpect CR CS)) : FnOk P w K mg base (L2N.CX P w) (jv + 2) f fd ["self"] (spT CR CS fun S d a => S.simpM (MV S d) a) := by
  refine okXN F sc_Reader_simple (fun vs H Q E h => ?_) (fun cdv A outer s H vs Q E hr h => ?_)
  · obtain ⟨p, S, a, d, rfl, _⟩ := h
    rfl
  obtain ⟨p, S, a, d, rfl, R, q⟩ := h
  have hr : Room (jv + 1) _ := hr
  refine ⟨_, (pss_cons (ps_par (i := 1) (j := 2) rfl sc_Reader_simple.nd rfl rfl (by decide) rfl rfl (pa_cons (pe_m0 ns_Reader C_Reader_next_sort T.cl_Reader (by decide) hr (by first | decide | omega) pass0 (pv 0)) (pa_cons (pe_m0 ns_Reader C_Reader_peek T.cl_Reader (by decide) hr (by first | decide | omega) pass0 (pv 0)) pa_nil)) (by rfl))
    (pss_cons (ps_if (pt_cmpR op_eq (pv 1) pe_str (nomark _)) (pss_one (ps_ret (pe_m0 ns_Reader C_Reader_named T.cl_Reader (by decide) hr (by first | decide | omega) (L2N.passes_call (L2N.takes_of rfl rfl rfl rfl) (fun _ _ _ _ h => h)) (pv 0)))) pss_nil)
    (pss_cons (ps_if (PW.pt (pw_and (pt_cmpR op_ne (pv 1) pe_str (nomark _)) (pw_and1 (pt_cmpR op_notIn_seq (pv 2) (pe_tup (pa_cons pe_str (pa_cons pe_str (pa_cons pe_str pa_nil)))) (by rfl))))) (pss_one (ps_expr (pe_m0 ns_Reader C_Reader_fail T.cl_Reader (by decide) hr (by first | decide | omega) (L2N.passes_call (L2N.takes_of rfl rfl rfl rfl) (fun _ _ _ _ h => h)) (pv 0)))) pss_nil)
    (pss_cons (ps_set (i := 3) sc_Reader_simple.nd rfl (Or.inl rfl) (pe_m0 ns_Reader C_Reader_next_start T.cl_Reader (by decide) hr (by first | decide | omega) pass0 (pv 0)))
    (pss_cons (ps_rd_at T (pv 0) pe_int in_add)
    (pss_cons (ps_if (pt_cmpR op_eq (pv 1) pe_str (nomark _)) (pss_one (ps_ret (pe_tup (pa_cons pe_str (pa_cons (pv 3) (pa_cons (pe_m0 ns_Reader C_Reader_last_end T.cl_Reader (by decide) hr (by first | decide | omega) pass0 (pv 0)) (pa_cons (pe_c C_number_value hr (by first | decide | omega) pass0 (pa_cons (pv 2) pa_nil)) pa_nil))))))) pss_nil)
    (pss_cons (ps_if (pt_cmpR op_ne (pv 2) pe_str (nomark _)) (pss_one (ps_ret (pe_tup (pa_cons pe_str (pa_cons (pv 3) (pa_cons (pe_m0 ns_Reader C_Reader_last_end T.cl_Reader (by decide) hr (by first | decide | omega) pass0 (pv 0)) (pa_cons (pe_cmpR op_eq (pv 2) pe_str (nomark _)) pa_nil))))))) pss_nil)
    (pss_cons (ps_set (i := 4) sc_Reader_simple.nd rfl (Or.inl rfl) (pe_m0 ns_Reader C_Reader_value T.cl_Reader (by decide) hr (by first | decide | omega) (L2N.passes_call (L2N.takes_of rfl rfl rfl rfl) (fun _ _ _ _ h => h)) (pv 0)))
    (pss_cons (ps_expr (pe_m ns_Reader C_Reader_expect T.cl_Reader (by decide) hr (by first | decide | omega) (L2N.passes_call (L2N.takes_of rfl rfl rfl rfl) (fun _ _ _ _ h => h)) (pv 0) (pa_cons pe_str pa_nil)))
    (pss_one (ps_ret (pe_tup (pa_cons pe_str (pa_cons (pv 3) (pa_cons (pe_m0 ns_Reader C_Reader_last_end T.cl_Reader (by decide) hr (by first | decide | omega) pass0 (pv 0)) (pa_cons (pv 4) pa_nil)))))))))))))))), ?_⟩
  have q : TK CR CS p S d H Q E (S.simpM (MV S d) a) := q
  unfold Src.simpM at q
  refine ⟨_, rfl, p, rfl, R.isI, p, S, a, d, rfl, R, _, rfl, p, rfl, R.isI, p, S, a, d, rfl, R, _, _, rfl, ?_⟩
  refine ⟨_, rfl, rfl, _, rfl, ?_⟩
  rw [str_isN]
  by_cases k1 : S.so a = "name"
  · have kn : S.isN a = true := decide_eq_true k1
    rw [if_pos kn] at q
    refine iteP k1 ?_
    exact ⟨_, rfl, p, rfl, R.isI, p, S, a, d, rfl, R, q⟩
  rw [if_neg (show ¬ S.isN a = true from fun e => k1 (of_decide_eq_true e))] at q
  refine iteN k1 ?_
  have hl := R.hl
  have hwl := wd_le S a
  -- a number
  by_cases k2 : S.so a = "number"
  · have ka := lt_of_so k2 (by decide)
    rw [if_pos (show decide (S.so a = Src.number) = true from decide_eq_true k2)] at q
    refine ⟨_, rfl, rfl, _, rfl, ?_⟩
    rw [str_isN]
    refine iteNS (by rw [k2]) ?_
    refine iteF ?_
    obtain ⟨z, r, rs, ez, raw, hr0, hl, tk⟩ := R.nor
    refine ⟨_, rfl, p, rfl, R.isI, p, S, a, d, rfl, R, ka, ?_⟩
    refine ⟨_, rfl, p, z, r, _, _, rfl, raw, _, _, rfl, rfl, _, rfl, raw, fun H1 b1 h1 => ?_⟩
    have R1 := R.step raw b1 h1 ka
    refine ⟨_, rfl, rfl, _, rfl, ?_⟩
    rw [str_isN]
    refine iteP k2 ?_
    refine ⟨_, rfl, _, rfl, p, rfl, R1.isI, p, S, a, d, rfl, R1, _, rfl, strL (S.wd a), rfl, R.nu a k2, (by show 4 ≤ sizeLine; decide), fun y ny => ?_⟩
    have sy := same_new (o := .tup [.str "number", .int (S.st a : Int), .int (S.en a : Int), .int (Src.numv (S.wd a))]) ny
    exact q _ _ (b1.trans (But.of sy)) (R1.same sy) (Tn.mk_ (t := ⟨"number", S.st a, S.en a, [.int (Src.numv (S.wd a))]⟩) upd_same (.cons DT.int .nil) (by show 4 ≤ 1000000; decide))
  rw [if_neg (show ¬ decide (S.so a = Src.number) = true from fun e => k2 (of_decide_eq_true e))] at q
  refine ⟨_, rfl, rfl, _, rfl, ?_⟩
  rw [str_isN]
  refine iteNN k2 ?_
  refine ⟨_, rfl, (by show 3 ≤ sizeLine; decide), fun l nl => ?_⟩
  have sl := same_new (o := .tup [.str "True", .str "False", .str "("]) nl
  have hl3 : upd H l (.tup [.str "True", .str "False", .str "("]) l = some (.tup [.str "True", .str "False", .str "("]) := upd_same
  have Rl := R.same sl
  have bl : But p H (upd H l (.tup [.str "True", .str "False", .str "("])) := But.of sl
  generalize upd H l (.tup [.str "True", .str "False", .str "("]) = H0 at sl hl3 Rl bl ⊢
  refine ⟨l, _, rfl, .inr (.inl (.inl hl3)), rfl, rfl, _, rfl, ?_⟩
  dsimp only
  rw [if_pos rfl, in3]
  by_cases k3 : S.wd a = tl "True" ∨ S.wd a = tl "False" ∨ S.wd a = tl "("
  · have ka : a < S.n := by
      rcases k3 with h | h | h
      · exact lt_of_wd (w := "True") (decide_eq_true h) (by decide)
      · exact lt_of_wd (w := "False") (decide_eq_true h) (by decide)
      · exact lt_of_wd (w := "(") (decide_eq_true h) (by decide)
    have k4 : (decide (S.wd a = tl "True") || (decide (S.wd a = tl "False") || decide (S.wd a = tl "("))) = true := by
      rcases k3 with h | h | h
      · rw [decide_eq_true h]; rfl
      · rw [decide_eq_true h, Bool.true_or, Bool.or_true]
      · rw [decide_eq_true h, Bool.or_true, Bool.or_true]
    rw [k4]
    refine iteF ?_
    obtain ⟨z, r, rs, ez, raw, hr0, hl, tk⟩ := Rl.nor
    refine ⟨_, rfl, p, rfl, Rl.isI, p, S, a, d, rfl, Rl, ka, ?_⟩
    refine ⟨_, rfl, p, z, r, _, _, rfl, raw, _, _, rfl, rfl, _, rfl, raw, fun H1 b1 h1 => ?_⟩
    have R1 := Rl.step raw b1 h1 ka
    have b1 : But p H H1 := bl.trans b1
    refine ⟨_, rfl, rfl, _, rfl, ?_⟩
    rw [str_isN]
    refine iteN k2 ?_
    refine ⟨_, rfl, rfl, _, rfl, ?_⟩
    rw [str_eqW]
    cases k5 : S.eqW a "(" with
    | true =>
      rw [if_pos k5] at q
      refine iteF ?_
      refine ⟨_, rfl, p, rfl, R1.isI, p, S, a + 1, d, rfl, R1, TK.sub b1 q fun t a' H2 v c2 b2 R2 D2 q2 => ?_⟩
      refine ⟨_, rfl, p, rfl, R2.isI, p, S, a', d, _, rfl, R2, by decide, ?_⟩
      cases k6 : S.eqW a' ")" with
      | false =>
        rw [k6] at q2
        exact fun H' dd b x => q2 H' dd (b2.trans b) x
      | true =>
      rw [k6, if_pos rfl] at q2
      refine iteT fun H3 b3 R3 => ?_
      have D3 := D2.keep (R2.tups b3)
      refine ⟨_, rfl, _, rfl, p, rfl, R3.isI, p, S, a', d, rfl, R3, _, rfl, (by show 4 ≤ sizeLine; decide), fun y ny => ?_⟩
      have sy := same_new (o := .tup [.str "group", .int (S.st a : Int), .int (S.en a' : Int), v]) ny
      exact q2 _ _ ((b2.trans b3).trans (But.of sy)) (R3.same sy) (Tn.mk_ (t := ⟨"group", S.st a, S.en a', [t.d]⟩) upd_same (.cons (D3.keep fun _ _ h => sy _ _ h) .nil) (by show 4 ≤ 1000000; decide))
    | false =>
      rw [if_neg (by rw [k5]; exact Bool.false_ne_true)] at q
      have k7 : (S.eqW a "True" || S.eqW a "False") = true := by
        rcases k3 with h | h | h
        · rw [show S.eqW a "True" = true from decide_eq_true h]; rfl
        · rw [show S.eqW a "False" = true from decide_eq_true h, Bool.or_true]
        · rw [show S.eqW a "(" = true from decide_eq_true h] at k5; cases k5
      rw [if_pos k7] at q
      refine iteT ?_
      refine ⟨_, rfl, _, rfl, p, rfl, R1.isI, p, S, a, d, rfl, R1, _, rfl, rfl, (by show 4 ≤ sizeLine; decide), fun y ny => ?_⟩
      rw [str_eqW]
      have sy := same_new (o := .tup [.str "truth", .int (S.st a : Int), .int (S.en a : Int), .bl (S.eqW a "True")]) ny
      exact q _ _ (b1.trans (But.of sy)) (R1.same sy) (Tn.mk_ (t := ⟨"truth", S.st a, S.en a, [.bl (S.eqW a "True")]⟩) upd_same (.cons DT.bl .nil) (by show 4 ≤ 1000000; decide))
  · have n1 : ¬ S.wd a = tl "True" := fun h => k3 (.inl h)
    have n2 : ¬ S.wd a = tl "False" := fun h => k3 (.inr (.inl h))
    have n3 : ¬ S.wd a = tl "(" := fun h => k3 (.inr (.inr h))
    rw [if_neg (show ¬ S.eqW a "(" = true from fun e => n3 (of_decide_eq_true e)), if_neg (by
      rw [show S.eqW a "True" = false from decide_eq_false n1, show S.eqW a "False" = false from decide_eq_false n2]
      exact Bool.false_ne_true)] at q
    rw [decide_eq_false n1, decide_eq_false n2, decide_eq_false n3]
    refine iteT ?_
    exact ⟨_, rfl, p, rfl, Rl.isI, p, S, a, d, rfl, Rl, fun H' dd b x => q H' dd (bl.trans b) x⟩
abbrev s_Reader_chain : Stmt := inClass (topS 25) 16
abbrev N_Reader_chain : List Str := ["self", "least", "most", "left", "sign", "right"]
theorem sc_Reader_chain : FnScope N_Reader_chain ["self", "least"] (defScope s_Reader_chain) := ⟨rfl, rfl, rfl, by decide +kernel, rfl, by decide +kernel, by decide +kernel⟩
theorem rank_le (l : List Nat) : Src.rank l ≤ 6 := by
  unfold Src.rank
  repeat (first | (split <;> first | omega | skip))
theorem lt_of_rank {S : Src} {a : Nat} (h : 0 < Src.rank (S.wd a)) : a < S.n := by
  by_cases k : a < S.n
  · exact k
  · rw [wd_end k] at h
    exact absurd h (by decide)
theorem ok_chain (h4 : 4 ≤ j) (hn1 : jn ≤ j) (hg1 : jg ≤ j) (hc1 : jc ≤ j) (F : Fun K "chain" "Reader.chain" s_Reader_chain f fd) (T : NmR K w mg aW tS CR CS aR t0 t1 t2 t3 t4 t5 t6) (C_Reader_peek : CalM P w K mg base CX0 2 CR "peek" (spPeek CR))
    (C_Reader_negated : CalM P w K mg base (L2N.CX P w) jn CR "negated" (spNot CR CS fun S d a => notM S (MN S (d + 1)) d a)) (C_Reader_signed : CalM P w K mg base (L2N.CX P w) jg CR "signed" (spT CR CS fun S d a => MG S d a))
    (C_Reader_chain : CalM P w K mg base (L2N.CX P w) jc CR "chain" (spTc CR CS fun S d s a => MR S d s a)) :
    FnOk P w K mg base (L2N.CX P w) (j + 1) f fd ["self", "least"] (spTc CR CS fun S d s a => S.chainM (MN S (d + 1)) (MG S d) (MR S d) s d a) := by
  refine okXN F sc_Reader_chain (fun vs H Q E h => ?_) (fun cdv A outer s H vs Q E hr h => ?_)
  · obtain ⟨p, S, a, d, x, rfl, _⟩ := h
    rfl
  obtain ⟨p, S, a, d, x, rfl, hx1, R, q⟩ := h
  have hr : Room j _ := hr
  refine ⟨_, (pss_cons (ps_set (i := 2) sc_Reader_chain.nd rfl (Or.inl rfl) (pe_glob (v := .int 6) (by rfl) T.g_HIGHEST ⟨_, rfl⟩))
    (C8.pss_cut (ps_if (PW.pt (pw_and (pt_cmpR op_eq (pe_m0 ns_Reader C_Reader_peek T.cl_Reader (by decide) hr (by first | decide | omega) pass0 (pv 0)) pe_str (nomark _)) (pw_and1 (pt_cmpR op_le (pv 1) (pe_glob (v := .int 3) (by rfl) T.g_NEGATION ⟨_, rfl⟩) (nomark _))))) (pss_cons (ps_set (i := 3) sc_Reader_chain.nd rfl (Or.inl rfl) (pe_m0 ns_Reader C_Reader_negated T.cl_Reader (by decide) hr (by first | decide | omega) (L2N.passes_call (L2N.takes_of rfl rfl rfl rfl) (fun _ _ _ _ h => h)) (pv 0)))
    (pss_one (ps_set (i := 2) sc_Reader_chain.nd rfl (Or.inl rfl) (pe_glob (v := .int 3) (by rfl) T.g_NEGATION ⟨_, rfl⟩)))) (pss_one (ps_set (i := 3) sc_Reader_chain.nd rfl (Or.inl rfl) (pe_m0 ns_Reader C_Reader_signed T.cl_Reader (by decide) hr (by first | decide | omega) (L2N.passes_call (L2N.takes_of rfl rfl rfl rfl) (fun _ _ _ _ h => h)) (pv 0)))))
    (pss_cons (ps_while (passes_of rfl) (pt_chain op_le op_le (pv 1) (pe_kget2 (pe_glob (v := .ref aR) (by rfl) T.g_RANKS rfl) (pe_m0 ns_Reader C_Reader_peek T.cl_Reader (by decide) hr (by first | decide | omega) pass0 (pv 0)) pe_int ⟨rfl, rfl, rfl, rfl⟩) (pv 2)) (pss_cons (ps_set (i := 4) sc_Reader_chain.nd rfl (Or.inl rfl) (pe_m0 ns_Reader C_Reader_peek T.cl_Reader (by decide) hr (by first | decide | omega) pass0 (pv 0)))
    (pss_cons (ps_rd_at T (pv 0) pe_int in_add)
    (pss_cons (ps_set (i := 5) sc_Reader_chain.nd rfl (Or.inl rfl) (pe_m ns_Reader C_Reader_chain T.cl_Reader (by decide) hr (by first | decide | omega) (L2N.passes_call (L2N.takes_of rfl rfl rfl rfl) (fun _ _ _ _ h => h)) (pv 0) (pa_cons (pe_op op_add (pe_ix (r := rIxD K w) ix_kdict (pe_glob (v := .ref aR) (by rfl) T.g_RANKS rfl) (pv 4) (fun _ _ => rfl)) pe_int) pa_nil)))
    (pss_cons (ps_set (i := 3) sc_Reader_chain.nd rfl (Or.inl rfl) (pe_tup (pa_cons pe_str (pa_cons (pe_ix (r := rIxT K) ix_tup (pv 3) pe_int (fun _ _ => rfl)) (pa_cons (pe_ix (r := rIxT K) ix_tup (pv 5) pe_int (fun _ _ => rfl)) (pa_cons (pv 4) (pa_cons (pv 3) (pa_cons (pv 5) pa_nil))))))))
    (pss_one (ps_set (i := 2) sc_Reader_chain.nd rfl (Or.inl rfl) (pe_ifExp (pt_cmpR op_eq (pe_ix (r := rIxD K w) ix_kdict (pe_glob (v := .ref aR) (by rfl) T.g_RANKS rfl) (pv 4) (fun _ _ => rfl)) (pe_glob (v := .int 4) (by rfl) T.g_COMPARISON ⟨_, rfl⟩) (nomark _)) (pe_glob (v := .int 3) (by rfl) T.g_NEGATION ⟨_, rfl⟩) (pe_ix (r := rIxD K w) ix_kdict (pe_glob (v := .ref aR) (by rfl) T.g_RANKS rfl) (pv 4) (fun _ _ => rfl))))))))))
    (pss_one (ps_ret (pv 3)))))), ?_⟩
  have q : TK CR CS p S d H Q E (S.chainM (MN S (d + 1)) (MG S d) (MR S d) x d a) := q
  unfold Src.chainM at q
  generalize hRR : MR S d = RR at q
  refine ⟨fun σ H2 => ∃ (t : Tn) (a' mo : Nat) (v : V), σ = [some (.ref p), some (.int (x : Int)), some (.int (mo : Int)), some v, none, none] ∧ But p H H2 ∧ Rd CR H2 p S a' d ∧ DT H2 t.d v ∧ TK CR CS p S d H Q E (S.goM RR x mo t a'), ?_, ?_⟩
  · refine ⟨_, rfl, p, rfl, R.isI, p, S, a, d, rfl, R, rfl, _, rfl, ?_⟩
    rw [str_eqW]
    cases k1 : S.eqW a "not" with
    | false =>
      rw [if_neg (fun e => Bool.false_ne_true (k1.symm.trans e.1))] at q
      refine iteF ?_
      refine ⟨_, rfl, p, rfl, R.isI, p, S, a, d, rfl, R, TK.sub (But.refl p H) q fun t a' H2 v _ b2 R2 D2 q2 => ⟨t, a', 6, v, rfl, b2, R2, D2, q2⟩⟩
    | true =>
    have ka := lt_of_wd k1 (by decide)
    refine iteT ⟨_, rfl, _, _, rfl, rfl, _, rfl, ?_⟩
    by_cases k2 : x ≤ 3
    · rw [if_pos ⟨k1, k2⟩] at q
      refine iteP (by omega) ?_
      refine ⟨_, rfl, p, rfl, R.isI, p, S, a, d, rfl, R, ka, ?_⟩
      have q' : TK CR CS p S d H Q E ((notM S (MN S (d + 1)) d a).bind fun t a' => S.goM RR x 3 t a') := by
        unfold notM
        by_cases kd : d = 30
        · rw [if_pos kd] at q ⊢
          exact q
        · rw [if_neg kd] at q ⊢
          cases e : MN S (d + 1) (a + 1) with
          | un => rw [e] at q; exact q
          | no s e' => rw [e] at q; exact q
          | ok t a' => rw [e] at q; exact q
      exact TK.sub (But.refl p H) q' fun t a' H2 v _ b2 R2 D2 q2 => ⟨t, a', 3, v, rfl, b2, R2, D2, q2⟩
    · rw [if_neg (fun e => k2 e.2)] at q
      refine iteN (by omega) ?_
      refine ⟨_, rfl, p, rfl, R.isI, p, S, a, d, rfl, R, TK.sub (But.refl p H) q fun t a' H2 v _ b2 R2 D2 q2 => ⟨t, a', 6, v, rfl, b2, R2, D2, q2⟩⟩
  rintro σ H1 ⟨t, a1, mo, v, rfl, b1, R1, D1, q1⟩
  refine ⟨fun m σ H2 => ∃ (t : Tn) (a' mo : Nat) (v : V) (o4 o5 : Option V), σ = [some (.ref p), some (.int (x : Int)), some (.int (mo : Int)), some v, o4, o5] ∧ But p H H2 ∧ Rd CR H2 p S a' d ∧ DT H2 t.d v ∧ TK CR CS p S d H Q E (S.goM RR x mo t a') ∧ m = S.n + 1 - a',
    ⟨_, t, a1, mo, v, none, none, rfl, b1, R1, D1, q1, rfl⟩, ?_⟩
  rintro m σ H2 ⟨t, a', mo, v, o4, o5, rfl, b2, R2, D2, q2, rfl⟩
  rw [Src.goM] at q2
  obtain ⟨rk, g1, g2, g3⟩ := T.ranks (S.wd a')
  refine ⟨_, rfl, aR, rfl, T.kd, _, rfl, p, rfl, R2.isI, p, S, a', d, rfl, R2, strL (S.wd a'), rk, rfl, g1, ?_⟩
  rw [g2]
  refine ⟨_, _, rfl, rfl, _, rfl, ?_⟩
  by_cases k1 : x ≤ Src.rank (S.wd a') ∧ Src.rank (S.wd a') ≤ mo
  · refine iteP (by omega) ⟨_, rfl, _, _, rfl, rfl, _, rfl, ?_⟩
    rw [decide_eq_true (show ((Src.rank (S.wd a') : Nat) : Int) ≤ (mo : Int) by omega)]
    refine iteT ?_
    rw [if_pos k1] at q2
    have ka := lt_of_rank (S := S) (a := a') (by omega)
    have hkd := g3 (by omega)
    obtain ⟨z, r, rs, ez, raw, hr0, hl, tk⟩ := R2.nor
    refine ⟨fun σ' H' => ∃ m', m' < S.n + 1 - a' ∧ ∃ (t : Tn) (a' mo : Nat) (v : V) (o4 o5 : Option V), σ' = [some (.ref p), some (.int (x : Int)), some (.int (mo : Int)), some v, o4, o5] ∧ But p H H' ∧ Rd CR H' p S a' d ∧ DT H' t.d v ∧ TK CR CS p S d H Q E (S.goM RR x mo t a') ∧ m' = S.n + 1 - a', fun _ _ h => h, ?_⟩
    refine ⟨_, rfl, p, rfl, R2.isI, p, S, a', d, rfl, R2, ?_⟩
    refine ⟨_, rfl, p, z, r, _, _, rfl, raw, _, _, rfl, rfl, _, rfl, raw, fun H3 b3 h3 => ?_⟩
    have R3 := R2.step raw b3 h3 ka
    refine ⟨_, rfl, p, rfl, R3.isI, _, rfl, aR, _, _, rfl, rfl, hkd, _, _, rfl, rfl, p, S, a' + 1, d, Src.rank (S.wd a') + 1, rfl, by omega, R3, ?_⟩
    show TK CR CS p S d H3 _ _ (MR S d (Src.rank (S.wd a') + 1) (a' + 1))
    rw [hRR]
    cases ev : RR (Src.rank (S.wd a') + 1) (a' + 1) with
    | un => rw [ev] at q2; exact q2
    | no s e => rw [ev] at q2; exact fun H' dd b x => q2 H' dd ((b2.trans b3).trans b) x
    | ok t3 a3 =>
      rw [ev] at q2
      intro H4 v3 b4 R4 D4
      by_cases hg : a' < a3 ∧ a' < S.n
      · have q6 : TK CR CS p S d H Q E (S.goM RR x (Src.topR (Src.rank (S.wd a'))) (Src.binT t t3 (S.wd a')) a3) := by
          have q7 := q2
          simp only [dif_pos hg] at q7
          exact q7
        have D2' := (D2.keep (R2.tups b3)).keep (R3.tups b4)
        obtain ⟨xl, vl, rfl, gl, i1, i2⟩ := num_item D2'
        obtain ⟨xr, vr, rfl, gr, j1, j2⟩ := num_item D4
        refine ⟨_, rfl, xl, _, _, _, rfl, rfl, .inl (.inl gl), at_nat i1, _, rfl, xr, _, _, _, rfl, rfl, .inl (.inl gr), at_nat j2, _, rfl, _, rfl, _, rfl, (by show 6 ≤ sizeLine; decide), fun y ny => ?_⟩
        have sy := same_new (o := .tup [.str "binary", .int (t.s : Int), .int (t3.e : Int), .str (strL (S.wd a')), .ref xl, .ref xr]) ny
        have fin : ∀ mo' : Nat, mo' = Src.topR (Src.rank (S.wd a')) → ∃ m', m' < S.n + 1 - a' ∧ ∃ (t' : Tn) (a'' mo'' : Nat) (v : V) (o4 o5 : Option V), [some (V.ref p), some (.int (x : Int)), some (.int (mo' : Int)), some (.ref y), some (.str (strL (S.wd a'))), some (.ref xr)] = [some (.ref p), some (.int (x : Int)), some (.int (mo'' : Int)), some v, o4, o5] ∧
            But p H (upd H4 y (.tup [.str "binary", .int (t.s : Int), .int (t3.e : Int), .str (strL (S.wd a')), .ref xl, .ref xr])) ∧ Rd CR (upd H4 y (.tup [.str "binary", .int (t.s : Int), .int (t3.e : Int), .str (strL (S.wd a')), .ref xl, .ref xr])) p S a'' d ∧
            DT (upd H4 y (.tup [.str "binary", .int (t.s : Int), .int (t3.e : Int), .str (strL (S.wd a')), .ref xl, .ref xr])) t'.d v ∧ TK CR CS p S d H Q E (S.goM RR x mo'' t' a'') ∧ m' = S.n + 1 - a'' := by
          intro mo' hmo
          subst hmo
          have hle := R4.ha
          exact ⟨_, by omega, Src.binT t t3 (S.wd a'), a3, _, _, _, _, rfl, ((b2.trans b3).trans b4).trans (But.of sy), R4.same sy, Tn.mk_ (t := Src.binT t t3 (S.wd a')) upd_same (.cons DT.str (.cons (D2'.keep fun _ _ h => sy _ _ h) (.cons (D4.keep fun _ _ h => sy _ _ h) .nil))) (by show 6 ≤ 1000000; decide), q6, rfl⟩
        refine ⟨_, rfl, aR, _, _, rfl, rfl, hkd, rfl, _, rfl, ?_⟩
        by_cases k4 : Src.rank (S.wd a') = 4
        · refine iteP (by rw [k4]; rfl) ?_
          exact fin 3 (by unfold Src.topR; rw [if_pos k4])
        · refine iteN (fun e => k4 (by injection e with e; omega)) ?_
          refine ⟨_, rfl, aR, _, _, rfl, rfl, hkd, ?_⟩
          exact fin (Src.rank (S.wd a')) (by unfold Src.topR; rw [if_neg k4])
      · exfalso
        have q7 := q2
        simp only [dif_neg hg] at q7
        exact q7
  · rw [if_neg k1] at q2
    have out : ∃ v0, [some (V.ref p), some (.int (x : Int)), some (.int (mo : Int)), some v, o4, o5][3]? = some (some v0) ∧ Q v0 H2 := ⟨_, rfl, q2 H2 v b2 R2 D2⟩
    by_cases k2 : x ≤ Src.rank (S.wd a')
    · refine iteP (by omega) ⟨_, rfl, _, _, rfl, rfl, _, rfl, ?_⟩
      rw [decide_eq_false (show ¬ ((Src.rank (S.wd a') : Nat) : Int) ≤ (mo : Int) from fun e => k1 ⟨k2, by omega⟩)]
      exact iteF out
    · refine iteN (by omega) ⟨_, rfl, ?_⟩
      exact iteF out
end

end Sn

namespace Sn
open PySem PySem.Spec PyProof.Rows L2 TL
/-! ### a reader is made; a value is read -/
theorem tok_num {l : List Nat} {i c : Nat} (h : l[i]? = some c) (hs : (tokC l i c).1 = "number") : ((l.drop (tokC l i c).2.1).take ((tokC l i c).2.2 - (tokC l i c).2.1)).all isD = true := by
  have hi := (List.getElem?_eq_some_iff.mp h).1
  unfold tokC at hs ⊢
  by_cases h1 : isL c = true
  · rw [if_pos h1] at hs
    exfalso
    have : ∀ b : Bool, (if b = true then ("word" : Str) else "name") ≠ "number" := by decide +kernel
    exact this _ hs
  · rw [if_neg h1] at hs ⊢
    by_cases h2 : isD c = true
    · rw [if_pos h2]
      show ((l.drop i).take (run isD l i - i)).all isD = true
      rw [List.all_eq_true]
      intro x hx
      obtain ⟨j, hj, e⟩ := List.getElem_of_mem hx
      have hj2 : j < run isD l i - i := by
        have := hj
        rw [List.length_take] at this
        omega
      have hl := run_le (p := isD) (l := l) (i := i) (by omega)
      refine run_in (l := l) (l.length - i) i (by omega) (i + j) x (by omega) (by omega) ?_
      have e2 : ((l.drop i).take (run isD l i - i))[j]? = some x := by rw [List.getElem?_eq_getElem hj, e]
      rw [List.getElem?_take_of_lt hj2, List.getElem?_drop] at e2
      exact e2
    · rw [if_neg h2] at hs ⊢
      by_cases h3 : (l.drop i).take 2 = [61, 61]
      · rw [if_pos h3] at hs
        exact absurd hs (show ("sign" : Str) ≠ "number" by decide +kernel)
      · rw [if_neg h3] at hs
        exfalso
        have : ∀ q : Prop, ∀ [Decidable q], (if q then ("sign" : Str) else "wrong") ≠ "number" := by
          intro q _
          by_cases z : q
          · rw [if_pos z]; decide +kernel
          · rw [if_neg z]; decide +kernel
        exact this _ hs
theorem tok_start8 (l : List Nat) (i c : Nat) : (tokC l i c).2.1 = i := by
  unfold tokC
  split
  · rfl
  · split
    · rfl
    · split <;> rfl
theorem toks_fit8 {l : List Nat} {e : Nat} (he : e ≤ l.length) : ∀ (m a : Nat), e ≤ a + m → (toks l a e).length ≤ m ∧ ∀ x ∈ toks l a e, (x.2.1 ≤ x.2.2 ∧ x.2.2 ≤ l.length) ∧ (x.1 = "number" → ((l.drop x.2.1).take (x.2.2 - x.2.1)).all isD = true)
  | 0, a, h => by
    rw [toks_end (by omega)]
    exact ⟨Nat.le_refl _, fun x hx => absurd hx (by simp)⟩
  | m + 1, a, h => by
    by_cases ha : a < e
    · have hal : a < l.length := by omega
      have hg := List.getElem?_eq_getElem hal
      generalize l[a] = c at hg
      by_cases b1 : c = 32 ∨ c = 10
      · rw [toks_blank he ha hg b1]
        have := toks_fit8 he m (a + 1) (by omega)
        exact ⟨by omega, this.2⟩
      · by_cases b2 : c = 35
        · subst b2
          have r1 : run (fun d => d != 10) l a = run (fun d => d != 10) l (a + 1) := run_step hg rfl
          have r2 := run_ge (fun d => d != 10) l (a + 1)
          rw [toks_note he ha hg]
          have := toks_fit8 he m (run (fun d => d != 10) l a) (by omega)
          exact ⟨by omega, this.2⟩
        · rw [toks_tok he ha hg b1 b2]
          obtain ⟨t1, t2⟩ := tok_end hg
          have k := toks_fit8 he m (tokC l a c).2.2 (by omega)
          refine ⟨by rw [List.length_cons]; omega, fun x hx => ?_⟩
          rcases List.mem_cons.mp hx with hx | hx
          · subst hx
            exact ⟨⟨by rw [tok_start8]; omega, t2⟩, tok_num hg⟩
          · exact k.2 x hx
    · rw [toks_end (by omega)]
      exact ⟨Nat.zero_le _, fun x hx => absurd hx (by simp)⟩
/-- all tokens of a text -/
def allT (z : Str) : List Tok := toks (tl z) 0 (tl z).length
theorem nums_of (r : Addr) (z : Str) : Nums ⟨r, tl z, allT z⟩ := by
  intro a h
  have k := (toks_fit8 (Nat.le_refl (tl z).length) (tl z).length 0 (by omega)).2
  unfold Src.so at h
  unfold Src.wd
  revert h
  show (match (allT z)[a]? with | some t => t.1 | none => ("" : Str)) = ("number" : Str) → (match (allT z)[a]? with | some t => (List.drop t.2.1 (tl z)).take (t.2.2 - t.2.1) | none => []).all isD = true
  cases e : (allT z)[a]? with
  | none => exact fun _ => rfl
  | some t => exact fun h => (k t (List.mem_of_getElem? e)).2 h
def spRI (C CS : Addr) : Sp := fun vs H Q E => ∃ (p dx : Addr) (z : Str), vs = [.ref p, .str z] ∧ H p = some (.ins C dx []) ∧ z.length ≤ 100000 ∧
  (if 300 < (allT z).length then ∀ r, ∀ H' dd, But p H H' → xdE H' dd ((⟨r, tl z, allT z⟩ : Src).fp 300).1 ((⟨r, tl z, allT z⟩ : Src).fp 300).2 → E (.ref CS) (some dd) H'
    else ∀ H' r, But p H H' → Rd C H' p ⟨r, tl z, allT z⟩ 0 0 → Q .non H')
def failS (CS : Addr) (H : Hp) (E : XK) (s e : Nat) : Prop := ∀ H' dd, Same H H' → xdE H' dd s e → E (.ref CS) (some dd) H'
theorem tl_len8 (z : Str) : (tl z).length = z.length := rfl
section
variable {P : Program} {w : World} {K : PySem.W.Frag} {mg : Str → Option Value} {base : Heap} {f : Addr} {fd : FuncData} {aW CR CS aR : Addr} {tS t0 t1 t2 t3 t4 t5 t6 : PySem.Tok} {k : Nat}
abbrev s_R_init : Stmt := inClass (topS 25) 0
abbrev N_R_init : List Str := ["self", "source"]
theorem sc_R_init : FnScope N_R_init ["self", "source"] (defScope s_R_init) := ⟨rfl, rfl, rfl, by decide +kernel, rfl, by decide +kernel, by decide +kernel⟩
theorem ok_R_init (F : Fun K "__init__" "Reader.__init__" s_R_init f fd) (T : NmR K w mg aW tS CR CS aR t0 t1 t2 t3 t4 t5 t6) (C_tokens : Cal P w K mg base CX0 5 "tokens" spTokens) (C_Reader_fail : CalM P w K mg base (L2N.CX P w) 3 CR "fail" (spFail CR CS)) :
    FnOk P w K mg base (L2N.CX P w) 7 f fd ["self", "source"] (spRI CR CS) := by
  refine okXN F sc_R_init (fun vs H Q E h => ?_) (fun cdv A outer s H vs Q E hr h => ?_)
  · obtain ⟨p, dx, z, rfl, _⟩ := h
    rfl
  obtain ⟨p, dx, z, rfl, hp, hz, q⟩ := h
  refine ⟨_, (pss_cons (ps_fld (pv 0) (pv 1) rfl)
    (pss_cons (ps_fld (pv 0) (pe_c C_tokens hr (by first | decide | omega) pass0 (pa_cons (pv 1) pa_nil)) rfl)
    (pss_cons (ps_fld (pv 0) pe_int rfl)
    (pss_cons (ps_fld (pv 0) pe_int rfl)
    (pss_one (ps_if (pt_cmpR op_gt (pe_callB call_len_seq (by rfl) T.len PySem.boot_len (pa_cons (pe_rd_row T (pv 0)) pa_nil)) (pe_glob (v := .int 300) (by rfl) T.g_MOST_TOKENS ⟨_, rfl⟩) (nomark _)) (pss_cons (ps_fld (pv 0) (pe_glob (v := .int 300) (by rfl) T.g_MOST_TOKENS ⟨_, rfl⟩) rfl)
    (pss_one (ps_expr (pe_m0 ns_Reader C_Reader_fail T.cl_Reader (by decide) hr (by first | decide | omega) (L2N.passes_call (L2N.takes_of rfl rfl rfl rfl) (fun _ _ _ _ h => h)) (pv 0))))) pss_nil)))))), ?_⟩
  have hz' : (tl z).length ≤ 100000 := hz
  refine ⟨_, rfl, _, rfl, p, CR, dx, _, rfl, hp, T.cl_Reader, T.n_source, by decide, ?_⟩
  refine ⟨_, rfl, z, rfl, by omega, fun r H1 s1 nr hL => ?_⟩
  have hp1 := s1 _ _ upd_same
  refine ⟨_, rfl, p, CR, dx, _, rfl, hp1, T.cl_Reader, T.n_row, by show 1 < 1000; decide, ?_⟩
  refine ⟨_, rfl, p, CR, dx, _, rfl, upd_same, T.cl_Reader, T.n_at, by show 2 < 1000; decide, ?_⟩
  refine ⟨_, rfl, p, CR, dx, _, rfl, upd_same, T.cl_Reader, T.n_depth, by show 3 < 1000; decide, ?_⟩
  rw [upd_upd, upd_upd]
  have b1 : But p H (upd H1 p (.ins CR dx (putF "depth" (.int 0) (putF "at" (.int 0) (putF "row" (.ref r) (putF "source" (.str z) [])))))) := ((But.refl p H).upd.trans (But.of s1)).upd
  have raw : Raw CR (upd H1 p (.ins CR dx (putF "depth" (.int 0) (putF "at" (.int 0) (putF "row" (.ref r) (putF "source" (.str z) [])))))) p z r ((0 : Nat) : Int) ((0 : Nat) : Int) := ⟨dx, by rw [upd_same]; congr 1⟩
  generalize hH2 : upd H1 p (.ins CR dx (putF "depth" (.int 0) (putF "at" (.int 0) (putF "row" (.ref r) (putF "source" (.str z) []))))) = H2 at b1 raw ⊢
  have hpr : p ≠ r := fun e => by rw [← e, upd_same] at nr; cases nr
  have hL2 : LT H2 r ((allT z).map tkV) := by
    subst hH2
    obtain ⟨rs, g1, g2, g3⟩ := hL
    refine ⟨rs, by rw [upd_ne hpr.symm]; exact g1, g2, fun i x xs e1 e2 => ?_⟩
    have g4 := g3 i x xs e1 e2
    rw [upd_ne (fun e => by rw [e, hp1] at g4; cases g4)]
    exact g4
  have fit := toks_fit8 (Nat.le_refl (tl z).length) (tl z).length 0 (by omega)
  have R2 : Rd CR H2 p ⟨r, tl z, allT z⟩ 0 0 := ⟨⟨z, rfl, raw, hL2⟩, hz', Nat.le_trans fit.1 hz', Nat.zero_le _, fun t ht => (fit.2 t ht).1, nums_of r z⟩
  obtain ⟨rs, g1, g2, g3⟩ := hL2
  rw [List.length_map] at g2
  refine ⟨_, rfl, p, z, r, _, _, rfl, raw, r, _, rfl, .inl (.inl (.inl g1)), _, _, rfl, rfl, _, rfl, ?_⟩
  rw [List.length_map, g2]
  by_cases kk : 300 < (allT z).length
  · rw [if_pos kk] at q
    refine iteP (by omega) ?_
    refine ⟨_, rfl, p, CR, _, _, rfl, raw.choose_spec, T.cl_Reader, T.n_at, by show 4 < 1000; decide, ?_⟩
    have R3 : Rd CR (upd H2 p (.ins CR raw.choose (putF "at" (.int 300) (rf z r ((0 : Nat) : Int) ((0 : Nat) : Int))))) p ⟨r, tl z, allT z⟩ 300 0 :=
      R2.move raw (But.refl p H2).upd ⟨raw.choose, by rw [upd_same, rf_at']; rfl⟩ (Nat.le_of_lt kk)
    exact ⟨_, rfl, p, rfl, R3.isI, p, _, 300, 0, rfl, R3, fun H' dd b x => q r H' dd ((b1.trans (But.refl p H2).upd).trans b) x⟩
  · rw [if_neg kk] at q
    refine iteN (by omega) ?_
    exact q _ r b1 R2
end

end Sn

namespace Sn
open PySem PySem.Spec PyProof.Rows L2 TL
/-! ### reading items -/
/-- what is asked of a reading that ends so -/
def TD (C CS p : Addr) (S : Src) (d : Nat) (H : Hp) (Q : VK) (E : XK) : Rs D → Prop
  | .un => False
  | .ok x a' => ∀ H' v, But p H H' → Rd C H' p S a' d → DT H' x v → Q v H'
  | .no s e => ∀ H' dd, But p H H' → xdE H' dd s e → E (.ref CS) (some dd) H'
section
variable {C CS p : Addr} {S : Src} {d : Nat} {H H1 : Hp} {Q Q1 : VK} {E : XK}
theorem TD.sub {r : Rs D} {f : D → Nat → Rs D} (b : But p H H1) (h : TD C CS p S d H Q E (r.bind f))
    (k : ∀ (x : D) (a' : Nat) (H2 : Hp) (v : V), But p H1 H2 → But p H H2 → Rd C H2 p S a' d → DT H2 x v → TD C CS p S d H Q E (f x a') → Q1 v H2) : TD C CS p S d H1 Q1 E r := by
  cases r with
  | un => exact h
  | no s e => exact fun H' dd b' x => h H' dd (b.trans b') x
  | ok t a' => exact fun H2 v b' R D => k t a' H2 v b' (b.trans b') R D h
theorem TK.subD {r : Rs Tn} {f : Tn → Nat → Rs D} (b : But p H H1) (h : TD C CS p S d H Q E (r.bind f))
    (k : ∀ (t : Tn) (a' : Nat) (H2 : Hp) (v : V), But p H1 H2 → But p H H2 → Rd C H2 p S a' d → DT H2 t.d v → TD C CS p S d H Q E (f t a') → Q1 v H2) : TK C CS p S d H1 Q1 E r := by
  cases r with
  | un => exact h
  | no s e => exact fun H' dd b' x => h H' dd (b.trans b') x
  | ok t a' => exact fun H2 v b' R D => k t a' H2 v b' (b.trans b') R D h
theorem bindD_ok (r : Rs D) : r.bind (fun x a => (.ok x a : Rs D)) = r := by cases r <;> rfl
theorem TD.one {r : Rs D} (b : But p H H1) (h : TD C CS p S d H Q E r)
    (k : ∀ (x : D) (a' : Nat) (H2 : Hp) (v : V), But p H1 H2 → But p H H2 → Rd C H2 p S a' d → DT H2 x v → (∀ H3 v3, But p H H3 → Rd C H3 p S a' d → DT H3 x v3 → Q v3 H3) → Q1 v H2) : TD C CS p S d H1 Q1 E r :=
  TD.sub (f := fun x a => .ok x a) b (by rw [bindD_ok]; exact h) fun t a' H2 v bb b2 R2 D2 hq => k t a' H2 v bb b2 R2 D2 hq
theorem bind_assoc {α β γ : Type} (r : Rs α) (f : α → Nat → Rs β) (g : β → Nat → Rs γ) : (r.bind f).bind g = r.bind fun x a => (f x a).bind g := by cases r <;> rfl
end
def spD (C CS : Addr) (m : Src → Nat → Nat → Rs D) : Sp := fun vs H Q E => ∃ p S a d, vs = [.ref p] ∧ Rd C H p S a d ∧ TD C CS p S d H Q E (m S d a)
def spDw (C CS : Addr) : Sp := fun vs H Q E => ∃ p S a d w, vs = [.ref p, .str w] ∧ tl w ≠ [] ∧ Rd C H p S a d ∧ TD C CS p S d H Q E (S.expR w a)
theorem spMark_D {C CS : Addr} {vs : List V} {H : Hp} {Q : VK} {E : XK} (h : spD C CS (fun S _ a => S.markR a) vs H Q E) : spMark C CS vs H Q E := by
  obtain ⟨p, S, a, d, rfl, R, q⟩ := h
  refine ⟨p, S, a, d, rfl, R, ?_⟩
  have q : TD C CS p S d H Q E (S.markR a) := q
  unfold Src.markR at q
  cases k : S.isN a with
  | true =>
    rw [k, if_pos rfl] at q
    rw [if_pos rfl]
    exact fun H' x b R' hx => q H' _ b R' (.tup hx (by show 2 ≤ 1000000; decide) (.cons DT.str (.cons DT.int .nil)))
  | false =>
    rw [k, if_neg Bool.false_ne_true] at q
    rw [if_neg Bool.false_ne_true]
    exact q
theorem spExpect_D {C CS : Addr} {vs : List V} {H : Hp} {Q : VK} {E : XK} (h : spDw C CS vs H Q E) : spExpect C CS vs H Q E := by
  obtain ⟨p, S, a, d, w, rfl, hw, R, q⟩ := h
  refine ⟨p, S, a, d, w, rfl, R, hw, ?_⟩
  unfold Src.expR at q
  cases k : S.eqW a w with
  | true =>
    rw [k, if_pos rfl] at q
    rw [if_pos rfl]
    exact fun H' b R' => q H' _ b R' DT.non
  | false =>
    rw [k, if_neg Bool.false_ne_true] at q
    rw [if_neg Bool.false_ne_true]
    exact q
theorem CalM.imp {P : Program} {w : World} {K : PySem.W.Frag} {mg : Str → Option Value} {base : Heap} {CX : CXT} {k : Nat} {C : Addr} {m : Str} {sp sp' : Sp} (c : CalM P w K mg base CX k C m sp) (h : ∀ vs H Q E, sp' vs H Q E → sp vs H Q E) : CalM P w K mg base CX k C m sp' := by
  obtain ⟨f, fd, ps, F, M, b⟩ := c.ex
  exact ⟨f, fd, ps, F.imp h, M, b⟩
section
variable {P : Program} {w : World} {K : PySem.W.Frag} {mg : Str → Option Value} {base : Heap} {f : Addr} {fd : FuncData} {aW CR CS aR : Addr} {tS t0 t1 t2 t3 t4 t5 t6 : PySem.Tok} {k : Nat}
abbrev s_Reader_field : Stmt := inClass (topS 25) 22
abbrev N_Reader_field : List Str := ["self", "name"]
theorem sc_Reader_field : FnScope N_Reader_field ["self"] (defScope s_Reader_field) := ⟨rfl, rfl, rfl, by decide +kernel, rfl, by decide +kernel, by decide +kernel⟩
theorem ok_field (F : Fun K "field" "Reader.field" s_Reader_field f fd) (T : NmR K w mg aW tS CR CS aR t0 t1 t2 t3 t4 t5 t6) (C_Reader_mark : CalM P w K mg base (L2N.CX P w) 4 CR "mark" (spD CR CS fun S _ a => S.markR a)) (C_Reader_expect : CalM P w K mg base (L2N.CX P w) 4 CR "expect" (spDw CR CS)) :
    FnOk P w K mg base (L2N.CX P w) 5 f fd ["self"] (spD CR CS fun S _ a => S.fieldR a) := by
  refine okXN F sc_Reader_field (fun vs H Q E h => ?_) (fun cdv A outer s H vs Q E hr h => ?_)
  · obtain ⟨p, S, a, d, rfl, _⟩ := h
    rfl
  obtain ⟨p, S, a, d, rfl, R, q⟩ := h
  refine ⟨_, (pss_cons (ps_set (i := 1) sc_Reader_field.nd rfl (Or.inl rfl) (pe_m0 ns_Reader C_Reader_mark T.cl_Reader (by decide) hr (by first | decide | omega) (L2N.passes_call (L2N.takes_of rfl rfl rfl rfl) (fun _ _ _ _ h => h)) (pv 0)))
    (pss_cons (ps_expr (pe_m ns_Reader C_Reader_expect T.cl_Reader (by decide) hr (by first | decide | omega) (L2N.passes_call (L2N.takes_of rfl rfl rfl rfl) (fun _ _ _ _ h => h)) (pv 0) (pa_cons pe_str pa_nil)))
    (pss_one (ps_ret (pe_tup (pa_cons (pv 1) (pa_cons (pe_m0 ns_Reader C_Reader_mark T.cl_Reader (by decide) hr (by first | decide | omega) (L2N.passes_call (L2N.takes_of rfl rfl rfl rfl) (fun _ _ _ _ h => h)) (pv 0)) pa_nil))))))), ?_⟩
  have q : TD CR CS p S d H Q E (S.fieldR a) := q
  refine ⟨_, rfl, p, rfl, R.isI, p, S, a, d, rfl, R, TD.sub (But.refl p H) q fun x a1 H1 v1 c1 b1 R1 D1 q1 => ?_⟩
  refine ⟨_, rfl, p, rfl, R1.isI, p, S, a1, d, _, rfl, by decide, R1, TD.sub b1 q1 fun _ a2 H2 _ c2 b2 R2 _ q2 => ?_⟩
  refine ⟨_, rfl, _, rfl, p, rfl, R2.isI, p, S, a2, d, rfl, R2, TD.sub b2 q2 fun y a3 H3 v3 c3 b3 R3 D3 q3 => ?_⟩
  have D1' := (D1.keep (R1.tups c2)).keep (R2.tups c3)
  refine ⟨by show 2 ≤ sizeLine; decide, fun u nu => ?_⟩
  have su := same_new (o := .tup [v1, v3]) nu
  exact q3 _ _ (b3.trans (But.of su)) (R3.same su) (.tup upd_same (by show 2 ≤ 1000000; decide) (.cons (D1'.keep fun _ _ h => su _ _ h) (.cons (D3.keep fun _ _ h => su _ _ h) .nil)))
abbrev s_Reader_bound : Stmt := inClass (topS 25) 24
abbrev N_Reader_bound : List Str := ["self", "name"]
theorem sc_Reader_bound : FnScope N_Reader_bound ["self"] (defScope s_Reader_bound) := ⟨rfl, rfl, rfl, by decide +kernel, rfl, by decide +kernel, by decide +kernel⟩
theorem ok_bound (F : Fun K "bound" "Reader.bound" s_Reader_bound f fd) (T : NmR K w mg aW tS CR CS aR t0 t1 t2 t3 t4 t5 t6) (C_Reader_mark : CalM P w K mg base (L2N.CX P w) 4 CR "mark" (spD CR CS fun S _ a => S.markR a)) (C_Reader_taken : CalM P w K mg base CX0 3 CR "taken" (spTaken CR)) :
    FnOk P w K mg base (L2N.CX P w) 5 f fd ["self"] (spD CR CS fun S _ a => S.boundR a) := by
  refine okXN F sc_Reader_bound (fun vs H Q E h => ?_) (fun cdv A outer s H vs Q E hr h => ?_)
  · obtain ⟨p, S, a, d, rfl, _⟩ := h
    rfl
  obtain ⟨p, S, a, d, rfl, R, q⟩ := h
  refine ⟨_, (pss_cons (ps_set (i := 1) sc_Reader_bound.nd rfl (Or.inl rfl) (pe_m0 ns_Reader C_Reader_mark T.cl_Reader (by decide) hr (by first | decide | omega) (L2N.passes_call (L2N.takes_of rfl rfl rfl rfl) (fun _ _ _ _ h => h)) (pv 0)))
    (pss_one (ps_ret (pe_tup (pa_cons (pv 1) (pa_cons (pe_ifExp (pt_val (pe_m ns_Reader C_Reader_taken T.cl_Reader (by decide) hr (by first | decide | omega) pass0 (pv 0) (pa_cons pe_str pa_nil))) (pe_m0 ns_Reader C_Reader_mark T.cl_Reader (by decide) hr (by first | decide | omega) (L2N.passes_call (L2N.takes_of rfl rfl rfl rfl) (fun _ _ _ _ h => h)) (pv 0)) pe_non) pa_nil)))))), ?_⟩
  have q : TD CR CS p S d H Q E (S.boundR a) := q
  refine ⟨_, rfl, p, rfl, R.isI, p, S, a, d, rfl, R, TD.sub (But.refl p H) q fun x a1 H1 v1 c1 b1 R1 D1 q1 => ?_⟩
  unfold Src.optR at q1
  refine ⟨_, rfl, _, rfl, p, rfl, R1.isI, p, S, a1, d, _, rfl, R1, by decide, ?_⟩
  cases k1 : S.eqW a1 ":" with
  | true =>
    rw [k1, if_pos rfl] at q1
    refine iteT fun H2 c2 R2 => ⟨_, rfl, iteT ?_⟩
    refine ⟨_, rfl, p, rfl, R2.isI, p, S, a1 + 1, d, rfl, R2, TD.sub (b1.trans c2) q1 fun y a3 H3 v3 c3 b3 R3 D3 q3 => ?_⟩
    have D1' := (D1.keep (R1.tups c2)).keep (R2.tups c3)
    refine ⟨by show 2 ≤ sizeLine; decide, fun u nu => ?_⟩
    have su := same_new (o := .tup [v1, v3]) nu
    exact q3 _ _ (b3.trans (But.of su)) (R3.same su) (.tup upd_same (by show 2 ≤ 1000000; decide) (.cons (D1'.keep fun _ _ h => su _ _ h) (.cons (D3.keep fun _ _ h => su _ _ h) .nil)))
  | false =>
    rw [k1] at q1
    refine iteF ⟨_, rfl, iteF ?_⟩
    refine ⟨by show 2 ≤ sizeLine; decide, fun u nu => ?_⟩
    have su := same_new (o := .tup [v1, V.non]) nu
    exact q1 _ _ (b1.trans (But.of su)) (R1.same su) (.tup upd_same (by show 2 ≤ 1000000; decide) (.cons (D1.keep fun _ _ h => su _ _ h) (.cons DT.non .nil)))
end

end Sn

namespace Sn
open PySem PySem.Spec PyProof.Rows L2 TL
/-! ### reading items: lists -/
section
variable {P : Program} {w : World} {K : PySem.W.Frag} {mg : Str → Option Value} {base : Heap} {f : Addr} {fd : FuncData} {aW CR CS aR : Addr} {tS t0 t1 t2 t3 t4 t5 t6 : PySem.Tok} {k : Nat}
abbrev s_Reader_fields : Stmt := inClass (topS 25) 23
abbrev N_Reader_fields : List Str := ["self", "found"]
theorem sc_Reader_fields : FnScope N_Reader_fields ["self"] (defScope s_Reader_fields) := ⟨rfl, rfl, rfl, by decide +kernel, rfl, by decide +kernel, by decide +kernel⟩
theorem ok_fields (F : Fun K "fields" "Reader.fields" s_Reader_fields f fd) (T : NmR K w mg aW tS CR CS aR t0 t1 t2 t3 t4 t5 t6) (C_Reader_peek : CalM P w K mg base CX0 2 CR "peek" (spPeek CR)) (C_Reader_taken : CalM P w K mg base CX0 3 CR "taken" (spTaken CR)) (C_Reader_expect : CalM P w K mg base (L2N.CX P w) 4 CR "expect" (spDw CR CS)) (C_Reader_field : CalM P w K mg base (L2N.CX P w) 5 CR "field" (spD CR CS fun S _ a => S.fieldR a)) :
    FnOk P w K mg base (L2N.CX P w) 6 f fd ["self"] (spD CR CS fun S _ a => S.fieldsR a) := by
  refine okXN F sc_Reader_fields (fun vs H Q E h => ?_) (fun cdv A outer s H vs Q E hr h => ?_)
  · obtain ⟨p, S, a, d, rfl, _⟩ := h
    rfl
  obtain ⟨p, S, a, d, rfl, R, q⟩ := h
  refine ⟨_, (pss_cons (ps_set (i := 1) sc_Reader_fields.nd rfl (Or.inl rfl) (pe_lst pa_nil))
    (pss_cons (ps_expr (pe_m ns_Reader C_Reader_expect T.cl_Reader (by decide) hr (by first | decide | omega) (L2N.passes_call (L2N.takes_of rfl rfl rfl rfl) (fun _ _ _ _ h => h)) (pv 0) (pa_cons pe_str pa_nil)))
    (C8.pss_cut (ps_if (pt_cmpR op_ne (pe_m0 ns_Reader C_Reader_peek T.cl_Reader (by decide) hr (by first | decide | omega) pass0 (pv 0)) pe_str (nomark _)) (pss_cons (ps_expr (pe_bm PySem.F.plainAttrs_list PySem.F.slot_list_append PySem.F.type_list_append mt_append (pv 1) (pa_cons (pe_m0 ns_Reader C_Reader_field T.cl_Reader (by decide) hr (by first | decide | omega) (L2N.passes_call (L2N.takes_of rfl rfl rfl rfl) (fun _ _ _ _ h => h)) (pv 0)) pa_nil)))
    (pss_one (ps_while (passes_of rfl) (pt_val (pe_m ns_Reader C_Reader_taken T.cl_Reader (by decide) hr (by first | decide | omega) pass0 (pv 0) (pa_cons pe_str pa_nil))) (pss_one (ps_expr (pe_bm PySem.F.plainAttrs_list PySem.F.slot_list_append PySem.F.type_list_append mt_append (pv 1) (pa_cons (pe_m0 ns_Reader C_Reader_field T.cl_Reader (by decide) hr (by first | decide | omega) (L2N.passes_call (L2N.takes_of rfl rfl rfl rfl) (fun _ _ _ _ h => h)) (pv 0)) pa_nil))))))) pss_nil)
    (pss_cons (ps_expr (pe_m ns_Reader C_Reader_expect T.cl_Reader (by decide) hr (by first | decide | omega) (L2N.passes_call (L2N.takes_of rfl rfl rfl rfl) (fun _ _ _ _ h => h)) (pv 0) (pa_cons pe_str pa_nil)))
    (pss_one (ps_ret (pe_callTy call_tuple_of (by rfl) T.tuple_ (by decide +kernel) (pa_cons (pv 1) pa_nil)))))))), ?_⟩
  have q : TD CR CS p S d H Q E (S.fieldsR a) := q
  refine ⟨Nat.zero_le _, fun L nL => ?_⟩
  have Lp : L ≠ p := fun z => by
    obtain ⟨z0, _, ⟨dx, e2⟩, _⟩ := R.ex
    rw [z, e2] at nL
    cases nL
  have nL0 : H L = none := by
    cases e : H L with
    | none => rfl
    | some o => rw [(But.refl p H) L o Lp e] at nL; cases nL
  have rL : S.r ≠ L := fun z => by
    obtain ⟨ys, hy⟩ := R.row
    rw [z, nL0] at hy
    cases hy
  have sL := same_new (o := .lst []) nL
  have R9 : Rd CR (upd H L (.lst [])) p S a d := R.same sL
  have hL : upd H L (.lst []) L = some (.lst []) := upd_same
  have b9 : But p H (upd H L (.lst [])) := (But.refl p H).trans (But.of sL)
  have tL : Tups H (upd H L (.lst [])) := fun _ _ h => sL _ _ h
  generalize upd H L (.lst []) = H9 at R9 hL b9 tL ⊢
  have grow : ∀ (H5 H6 : Hp) (acc : List D) (vs : List V) (a' : Nat) (x : D) (v : V), H5 L = some (.lst vs) → DTs H5 (ofL acc) vs → But p H5 H6 → Tups H5 H6 → But p H H6 → Rd CR H6 p S a' d → DT H6 x v →
      But p H (upd H6 L (.lst (vs ++ [v]))) ∧ Rd CR (upd H6 L (.lst (vs ++ [v]))) p S a' d ∧ DTs (upd H6 L (.lst (vs ++ [v]))) (ofL (acc ++ [x])) (vs ++ [v]) ∧ H6 L = some (.lst vs) ∧ Tups H6 (upd H6 L (.lst (vs ++ [v]))) := by
    intro H5 H6 acc vs a' t v h1 h2 h3 tp h4 R6 D6
    have h5 : H6 L = some (.lst vs) := h3 _ _ Lp h1
    have tk : Tups H6 (upd H6 L (.lst (vs ++ [v]))) := fun x ws h => by rw [upd_ne (fun z => by rw [z, h5] at h; cases h)]; exact h
    exact ⟨fun b o nb e => by rw [upd_ne (fun z => by rw [z, nL0] at e; cases e)]; exact h4 b o nb e, R6.updL h5 rL, DTs.snoc (D6.keep tk) acc vs (DTs.keep (fun x ws h => tk _ _ (tp _ _ h)) _ _ h2), h5, tk⟩
  refine ⟨_, rfl, p, rfl, R9.isI, p, S, a, d, _, rfl, by decide, R9, TD.sub b9 q fun _ a1 H2 _ c2 b2 R2 _ q2 => ?_⟩
  have hL2 := c2 _ _ Lp hL
  refine ⟨fun σ H4 => ∃ (acc : List D) (vs : List V) (a' : Nat), σ = [some (.ref p), some (.ref L)] ∧ But p H H4 ∧ Rd CR H4 p S a' d ∧ H4 L = some (.lst vs) ∧ DTs H4 (ofL acc) vs ∧ vs.length ≤ 100001 ∧
      TD CR CS p S d H Q E ((S.expR ")" a').bind fun _ a4 => .ok (tD acc) a4), ?_, ?_⟩
  · refine ⟨_, rfl, p, rfl, R2.isI, p, S, a1, d, rfl, R2, rfl, _, rfl, ?_⟩
    rw [str_eqW]
    cases k3 : S.eqW a1 ")" with
    | true =>
      rw [k3, if_pos rfl] at q2
      exact iteF ⟨[], [], a1, rfl, b2, R2, hL2, DTs.nil, Nat.zero_le _, q2⟩
    | false =>
    rw [k3, if_neg Bool.false_ne_true, bind_assoc] at q2
    refine iteT ?_
    refine ⟨_, rfl, .inl ⟨rfl, _, SqL.of hL2⟩, _, rfl, p, rfl, R2.isI, p, S, a1, d, rfl, R2, TD.sub b2 q2 fun x a2 H4 v c4 b4 R4 D4 q4 => ?_⟩
    obtain ⟨g1, g2, g3, g4, g5⟩ := grow H2 H4 [] [] a2 x v hL2 DTs.nil c4 (R2.tups c4) b4 R4 D4
    refine ⟨L, [], v, rfl, rfl, g4, by show 0 < sizeLine; decide, ?_⟩
    refine ⟨fun m σ H5 => ∃ (acc : List D) (vs : List V) (a' : Nat), σ = [some (.ref p), some (.ref L)] ∧ But p H H5 ∧ Rd CR H5 p S a' d ∧ H5 L = some (.lst vs) ∧ DTs H5 (ofL acc) vs ∧ vs.length ≤ a' + 1 ∧
        TD CR CS p S d H Q E ((S.moreR S.fieldR acc a').bind fun xs a6 => (S.expR ")" a6).bind fun _ a4 => .ok (tD xs) a4) ∧ m = S.n + 1 - a', ⟨_, [x], [v], a2, rfl, g1, g2, upd_same, g3, by show 1 ≤ a2 + 1; omega, q4, rfl⟩, ?_⟩
    rintro m σ H5 ⟨acc, vs, a', rfl, b5, R5, hL5, D5, hlen, q5, rfl⟩
    rw [Src.moreR] at q5
    have hle := R5.ha
    have hn := R5.hn
    refine ⟨_, rfl, p, rfl, R5.isI, p, S, a', d, _, rfl, R5, by decide, ?_⟩
    cases k4 : S.eqW a' "," with
    | false =>
      rw [k4, if_neg Bool.false_ne_true] at q5
      refine iteF ⟨_, rfl, iteF ?_⟩
      exact ⟨acc, vs, a', rfl, b5, R5, hL5, D5, by omega, q5⟩
    | true =>
    rw [k4, if_pos rfl] at q5
    have ka := lt_of_wd k4 (by decide)
    refine iteT fun H6 b6 R6 => ⟨_, rfl, iteT ⟨fun σ' H' => ∃ m', m' < S.n + 1 - a' ∧ ∃ (acc : List D) (vs : List V) (a' : Nat), σ' = [some (.ref p), some (.ref L)] ∧ But p H H' ∧ Rd CR H' p S a' d ∧ H' L = some (.lst vs) ∧ DTs H' (ofL acc) vs ∧ vs.length ≤ a' + 1 ∧
        TD CR CS p S d H Q E ((S.moreR S.fieldR acc a').bind fun xs a6 => (S.expR ")" a6).bind fun _ a4 => .ok (tD xs) a4) ∧ m' = S.n + 1 - a', fun _ _ h => h, ?_⟩⟩
    have hL6 := b6 _ _ Lp hL5
    refine ⟨_, rfl, .inl ⟨rfl, _, SqL.of hL6⟩, _, rfl, p, rfl, R6.isI, p, S, a' + 1, d, rfl, R6, ?_⟩
    show TD CR CS p S d H6 _ _ (S.fieldR (a' + 1))
    cases ev : S.fieldR (a' + 1) with
    | un => rw [ev] at q5; exact q5
    | no s e => rw [ev] at q5; exact fun H' dd b x => q5 H' dd ((b5.trans b6).trans b) x
    | ok t2 a2 =>
      rw [ev] at q5
      intro H7 v2 b7 R7 D7
      by_cases hg : a' < a2 ∧ a' < S.n
      · have q6 : TD CR CS p S d H Q E ((S.moreR S.fieldR (acc ++ [t2]) a2).bind fun xs a6 => (S.expR ")" a6).bind fun _ a4 => .ok (tD xs) a4) := by
          have q7 := q5
          simp only [dif_pos hg] at q7
          exact q7
        have tp57 : Tups H5 H7 := fun x ws h => R6.tups b7 _ _ (R5.tups b6 _ _ h)
        obtain ⟨g1, g2, g3, g4, g5⟩ := grow H5 H7 acc vs a2 t2 v2 hL5 D5 (b6.trans b7) tp57 ((b5.trans b6).trans b7) R7 D7
        refine ⟨L, vs, v2, rfl, rfl, g4, Nat.lt_of_le_of_lt (show vs.length ≤ 200000 by omega) (by decide), ?_⟩
        exact ⟨_, by omega, acc ++ [t2], vs ++ [v2], a2, rfl, g1, g2, upd_same, g3, by rw [List.length_append, List.length_singleton]; omega, q6, rfl⟩
      · exfalso
        have q7 := q5
        simp only [dif_neg hg] at q7
        exact q7
  · rintro σ H4 ⟨acc, vs, a', rfl, b4, R4, hL4, D4, hlen, q4⟩
    refine ⟨_, rfl, p, rfl, R4.isI, p, S, a', d, _, rfl, by decide, R4, TD.sub b4 q4 fun _ a5 H5 _ c5 b5 R5 _ q5 => ?_⟩
    have hL5 := c5 _ _ Lp hL4
    refine ⟨_, rfl, L, _, rfl, .inl ⟨SqL.of hL5, fun y ny => ?_⟩⟩
    have sy := same_new (o := .tup vs) ny
    exact q5 _ _ (b5.trans (But.of sy)) (R5.same sy) (.tup upd_same (by omega) (DTs.keep (fun x ws h => sy _ _ (R4.tups c5 _ _ h)) _ _ D4))
abbrev s_Reader_bounds : Stmt := inClass (topS 25) 25
abbrev N_Reader_bounds : List Str := ["self", "found"]
theorem sc_Reader_bounds : FnScope N_Reader_bounds ["self"] (defScope s_Reader_bounds) := ⟨rfl, rfl, rfl, by decide +kernel, rfl, by decide +kernel, by decide +kernel⟩
theorem ok_bounds (F : Fun K "bounds" "Reader.bounds" s_Reader_bounds f fd) (T : NmR K w mg aW tS CR CS aR t0 t1 t2 t3 t4 t5 t6) (C_Reader_taken : CalM P w K mg base CX0 3 CR "taken" (spTaken CR)) (C_Reader_expect : CalM P w K mg base (L2N.CX P w) 4 CR "expect" (spDw CR CS)) (C_Reader_bound : CalM P w K mg base (L2N.CX P w) 5 CR "bound" (spD CR CS fun S _ a => S.boundR a)) :
    FnOk P w K mg base (L2N.CX P w) 6 f fd ["self"] (spD CR CS fun S _ a => S.boundsR a) := by
  refine okXN F sc_Reader_bounds (fun vs H Q E h => ?_) (fun cdv A outer s H vs Q E hr h => ?_)
  · obtain ⟨p, S, a, d, rfl, _⟩ := h
    rfl
  obtain ⟨p, S, a, d, rfl, R, q⟩ := h
  refine ⟨_, (pss_cons (ps_set (i := 1) sc_Reader_bounds.nd rfl (Or.inl rfl) (pe_lst pa_nil))
    (C8.pss_cut (ps_if (pt_val (pe_m ns_Reader C_Reader_taken T.cl_Reader (by decide) hr (by first | decide | omega) pass0 (pv 0) (pa_cons pe_str pa_nil))) (pss_cons (ps_expr (pe_bm PySem.F.plainAttrs_list PySem.F.slot_list_append PySem.F.type_list_append mt_append (pv 1) (pa_cons (pe_m0 ns_Reader C_Reader_bound T.cl_Reader (by decide) hr (by first | decide | omega) (L2N.passes_call (L2N.takes_of rfl rfl rfl rfl) (fun _ _ _ _ h => h)) (pv 0)) pa_nil)))
    (pss_cons (ps_while (passes_of rfl) (pt_val (pe_m ns_Reader C_Reader_taken T.cl_Reader (by decide) hr (by first | decide | omega) pass0 (pv 0) (pa_cons pe_str pa_nil))) (pss_one (ps_expr (pe_bm PySem.F.plainAttrs_list PySem.F.slot_list_append PySem.F.type_list_append mt_append (pv 1) (pa_cons (pe_m0 ns_Reader C_Reader_bound T.cl_Reader (by decide) hr (by first | decide | omega) (L2N.passes_call (L2N.takes_of rfl rfl rfl rfl) (fun _ _ _ _ h => h)) (pv 0)) pa_nil)))))
    (pss_one (ps_expr (pe_m ns_Reader C_Reader_expect T.cl_Reader (by decide) hr (by first | decide | omega) (L2N.passes_call (L2N.takes_of rfl rfl rfl rfl) (fun _ _ _ _ h => h)) (pv 0) (pa_cons pe_str pa_nil)))))) pss_nil)
    (pss_one (ps_ret (pe_callTy call_tuple_of (by rfl) T.tuple_ (by decide +kernel) (pa_cons (pv 1) pa_nil)))))), ?_⟩
  have q : TD CR CS p S d H Q E (S.boundsR a) := q
  unfold Src.boundsR at q
  refine ⟨Nat.zero_le _, fun L nL => ?_⟩
  have Lp : L ≠ p := fun z => by
    obtain ⟨z0, _, ⟨dx, e2⟩, _⟩ := R.ex
    rw [z, e2] at nL
    cases nL
  have nL0 : H L = none := by
    cases e : H L with
    | none => rfl
    | some o => rw [(But.refl p H) L o Lp e] at nL; cases nL
  have rL : S.r ≠ L := fun z => by
    obtain ⟨ys, hy⟩ := R.row
    rw [z, nL0] at hy
    cases hy
  have sL := same_new (o := .lst []) nL
  have R9 : Rd CR (upd H L (.lst [])) p S a d := R.same sL
  have hL : upd H L (.lst []) L = some (.lst []) := upd_same
  have b9 : But p H (upd H L (.lst [])) := (But.refl p H).trans (But.of sL)
  have tL : Tups H (upd H L (.lst [])) := fun _ _ h => sL _ _ h
  generalize upd H L (.lst []) = H9 at R9 hL b9 tL ⊢
  have grow : ∀ (H5 H6 : Hp) (acc : List D) (vs : List V) (a' : Nat) (x : D) (v : V), H5 L = some (.lst vs) → DTs H5 (ofL acc) vs → But p H5 H6 → Tups H5 H6 → But p H H6 → Rd CR H6 p S a' d → DT H6 x v →
      But p H (upd H6 L (.lst (vs ++ [v]))) ∧ Rd CR (upd H6 L (.lst (vs ++ [v]))) p S a' d ∧ DTs (upd H6 L (.lst (vs ++ [v]))) (ofL (acc ++ [x])) (vs ++ [v]) ∧ H6 L = some (.lst vs) ∧ Tups H6 (upd H6 L (.lst (vs ++ [v]))) := by
    intro H5 H6 acc vs a' t v h1 h2 h3 tp h4 R6 D6
    have h5 : H6 L = some (.lst vs) := h3 _ _ Lp h1
    have tk : Tups H6 (upd H6 L (.lst (vs ++ [v]))) := fun x ws h => by rw [upd_ne (fun z => by rw [z, h5] at h; cases h)]; exact h
    exact ⟨fun b o nb e => by rw [upd_ne (fun z => by rw [z, nL0] at e; cases e)]; exact h4 b o nb e, R6.updL h5 rL, DTs.snoc (D6.keep tk) acc vs (DTs.keep (fun x ws h => tk _ _ (tp _ _ h)) _ _ h2), h5, tk⟩
  refine ⟨fun σ H4 => ∃ (acc : List D) (vs : List V) (a' : Nat), σ = [some (.ref p), some (.ref L)] ∧ But p H H4 ∧ Rd CR H4 p S a' d ∧ H4 L = some (.lst vs) ∧ DTs H4 (ofL acc) vs ∧ vs.length ≤ 100001 ∧
      TD CR CS p S d H Q E (.ok (tD acc) a'), ?_, ?_⟩
  · refine ⟨_, rfl, p, rfl, R9.isI, p, S, a, d, _, rfl, R9, by decide, ?_⟩
    cases k3 : S.eqW a "[" with
    | false =>
      rw [k3, if_neg Bool.false_ne_true] at q
      exact iteF ⟨_, rfl, iteF ⟨[], [], a, rfl, b9, R9, hL, DTs.nil, Nat.zero_le _, q⟩⟩
    | true =>
    rw [k3, if_pos rfl, bind_assoc, bind_assoc] at q
    refine iteT fun H2 c2 R2 => ⟨_, rfl, iteT ?_⟩
    have b2 := b9.trans c2
    have hL2 := c2 _ _ Lp hL
    refine ⟨_, rfl, .inl ⟨rfl, _, SqL.of hL2⟩, _, rfl, p, rfl, R2.isI, p, S, a + 1, d, rfl, R2, TD.sub b2 q fun x a2 H4 v c4 b4 R4 D4 q4 => ?_⟩
    obtain ⟨g1, g2, g3, g4, g5⟩ := grow H2 H4 [] [] a2 x v hL2 DTs.nil c4 (R2.tups c4) b4 R4 D4
    refine ⟨L, [], v, rfl, rfl, g4, by show 0 < sizeLine; decide, ?_⟩
    have q4 : TD CR CS p S d H Q E ((S.moreR S.boundR [x] a2).bind fun xs a6 => (S.expR "]" a6).bind fun _ a4 => .ok (tD xs) a4) := by
      have e : ∀ xs a6, (((S.expR "]" a6).bind fun _ a4 => (.ok xs a4 : Rs (List D))).bind fun xs a5 => (.ok (tD xs) a5 : Rs D)) = (S.expR "]" a6).bind fun _ a4 => .ok (tD xs) a4 := fun xs a6 => bind_assoc _ _ _
      simp only [e] at q4
      exact q4
    refine ⟨fun m σ H5 => ∃ (acc : List D) (vs : List V) (a' : Nat), σ = [some (.ref p), some (.ref L)] ∧ But p H H5 ∧ Rd CR H5 p S a' d ∧ H5 L = some (.lst vs) ∧ DTs H5 (ofL acc) vs ∧ vs.length ≤ a' + 1 ∧
        TD CR CS p S d H Q E ((S.moreR S.boundR acc a').bind fun xs a6 => (S.expR "]" a6).bind fun _ a4 => .ok (tD xs) a4) ∧ m = S.n + 1 - a', ⟨_, [x], [v], a2, rfl, g1, g2, upd_same, g3, by show 1 ≤ a2 + 1; omega, q4, rfl⟩, ?_⟩
    rintro m σ H5 ⟨acc, vs, a', rfl, b5, R5, hL5, D5, hlen, q5, rfl⟩
    rw [Src.moreR] at q5
    have hle := R5.ha
    have hn := R5.hn
    refine ⟨_, rfl, p, rfl, R5.isI, p, S, a', d, _, rfl, R5, by decide, ?_⟩
    cases k4 : S.eqW a' "," with
    | false =>
      rw [k4, if_neg Bool.false_ne_true] at q5
      refine iteF ⟨_, rfl, iteF ?_⟩
      refine ⟨_, rfl, p, rfl, R5.isI, p, S, a', d, _, rfl, by decide, R5, TD.sub b5 q5 fun _ a8 H8 _ c8 b8 R8 _ q8 => ?_⟩
      exact ⟨acc, vs, a8, rfl, b8, R8, c8 _ _ Lp hL5, DTs.keep (R5.tups c8) _ _ D5, by omega, q8⟩
    | true =>
    rw [k4, if_pos rfl] at q5
    have ka := lt_of_wd k4 (by decide)
    refine iteT fun H6 b6 R6 => ⟨_, rfl, iteT ⟨fun σ' H' => ∃ m', m' < S.n + 1 - a' ∧ ∃ (acc : List D) (vs : List V) (a' : Nat), σ' = [some (.ref p), some (.ref L)] ∧ But p H H' ∧ Rd CR H' p S a' d ∧ H' L = some (.lst vs) ∧ DTs H' (ofL acc) vs ∧ vs.length ≤ a' + 1 ∧
        TD CR CS p S d H Q E ((S.moreR S.boundR acc a').bind fun xs a6 => (S.expR "]" a6).bind fun _ a4 => .ok (tD xs) a4) ∧ m' = S.n + 1 - a', fun _ _ h => h, ?_⟩⟩
    have hL6 := b6 _ _ Lp hL5
    refine ⟨_, rfl, .inl ⟨rfl, _, SqL.of hL6⟩, _, rfl, p, rfl, R6.isI, p, S, a' + 1, d, rfl, R6, ?_⟩
    show TD CR CS p S d H6 _ _ (S.boundR (a' + 1))
    cases ev : S.boundR (a' + 1) with
    | un => rw [ev] at q5; exact q5
    | no s e => rw [ev] at q5; exact fun H' dd b x => q5 H' dd ((b5.trans b6).trans b) x
    | ok t2 a2 =>
      rw [ev] at q5
      intro H7 v2 b7 R7 D7
      by_cases hg : a' < a2 ∧ a' < S.n
      · have q6 : TD CR CS p S d H Q E ((S.moreR S.boundR (acc ++ [t2]) a2).bind fun xs a6 => (S.expR "]" a6).bind fun _ a4 => .ok (tD xs) a4) := by
          have q7 := q5
          simp only [dif_pos hg] at q7
          exact q7
        have tp57 : Tups H5 H7 := fun x ws h => R6.tups b7 _ _ (R5.tups b6 _ _ h)
        obtain ⟨g1, g2, g3, g4, g5⟩ := grow H5 H7 acc vs a2 t2 v2 hL5 D5 (b6.trans b7) tp57 ((b5.trans b6).trans b7) R7 D7
        refine ⟨L, vs, v2, rfl, rfl, g4, Nat.lt_of_le_of_lt (show vs.length ≤ 200000 by omega) (by decide), ?_⟩
        exact ⟨_, by omega, acc ++ [t2], vs ++ [v2], a2, rfl, g1, g2, upd_same, g3, by rw [List.length_append, List.length_singleton]; omega, q6, rfl⟩
      · exfalso
        have q7 := q5
        simp only [dif_neg hg] at q7
        exact q7
  · rintro σ H4 ⟨acc, vs, a', rfl, b4, R4, hL4, D4, hlen, q4⟩
    refine ⟨_, rfl, L, _, rfl, .inl ⟨SqL.of hL4, fun y ny => ?_⟩⟩
    have sy := same_new (o := .tup vs) ny
    exact q4 _ _ (b4.trans (But.of sy)) (R4.same sy) (.tup upd_same (by omega) (DTs.keep (fun x ws h => sy _ _ h) _ _ D4))
abbrev s_Reader_imported : Stmt := inClass (topS 25) 26
abbrev N_Reader_imported : List Str := ["self", "module", "found"]
theorem sc_Reader_imported : FnScope N_Reader_imported ["self"] (defScope s_Reader_imported) := ⟨rfl, rfl, rfl, by decide +kernel, rfl, by decide +kernel, by decide +kernel⟩
theorem ok_imported (F : Fun K "imported" "Reader.imported" s_Reader_imported f fd) (T : NmR K w mg aW tS CR CS aR t0 t1 t2 t3 t4 t5 t6) (C_Reader_mark : CalM P w K mg base (L2N.CX P w) 4 CR "mark" (spD CR CS fun S _ a => S.markR a)) (C_Reader_expect : CalM P w K mg base (L2N.CX P w) 4 CR "expect" (spDw CR CS)) (C_Reader_taken : CalM P w K mg base CX0 3 CR "taken" (spTaken CR)) :
    FnOk P w K mg base (L2N.CX P w) 6 f fd ["self"] (spD CR CS fun S _ a => S.importR a) := by
  refine okXN F sc_Reader_imported (fun vs H Q E h => ?_) (fun cdv A outer s H vs Q E hr h => ?_)
  · obtain ⟨p, S, a, d, rfl, _⟩ := h
    rfl
  obtain ⟨p, S, a, d, rfl, R, q⟩ := h
  refine ⟨_, (pss_cons (ps_set (i := 1) sc_Reader_imported.nd rfl (Or.inl rfl) (pe_m0 ns_Reader C_Reader_mark T.cl_Reader (by decide) hr (by first | decide | omega) (L2N.passes_call (L2N.takes_of rfl rfl rfl rfl) (fun _ _ _ _ h => h)) (pv 0)))
    (pss_cons (ps_expr (pe_m ns_Reader C_Reader_expect T.cl_Reader (by decide) hr (by first | decide | omega) (L2N.passes_call (L2N.takes_of rfl rfl rfl rfl) (fun _ _ _ _ h => h)) (pv 0) (pa_cons pe_str pa_nil)))
    (pss_cons (ps_set (i := 2) sc_Reader_imported.nd rfl (Or.inl rfl) (pe_lst (pa_cons (pe_m0 ns_Reader C_Reader_mark T.cl_Reader (by decide) hr (by first | decide | omega) (L2N.passes_call (L2N.takes_of rfl rfl rfl rfl) (fun _ _ _ _ h => h)) (pv 0)) pa_nil)))
    (pss_cons (ps_while (passes_of rfl) (pt_val (pe_m ns_Reader C_Reader_taken T.cl_Reader (by decide) hr (by first | decide | omega) pass0 (pv 0) (pa_cons pe_str pa_nil))) (pss_one (ps_expr (pe_bm PySem.F.plainAttrs_list PySem.F.slot_list_append PySem.F.type_list_append mt_append (pv 2) (pa_cons (pe_m0 ns_Reader C_Reader_mark T.cl_Reader (by decide) hr (by first | decide | omega) (L2N.passes_call (L2N.takes_of rfl rfl rfl rfl) (fun _ _ _ _ h => h)) (pv 0)) pa_nil)))))
    (pss_one (ps_ret (pe_tup (pa_cons pe_str (pa_cons (pv 1) (pa_cons (pe_callTy call_tuple_of (by rfl) T.tuple_ (by decide +kernel) (pa_cons (pv 2) pa_nil)) pa_nil)))))))))), ?_⟩
  have q : TD CR CS p S d H Q E (S.importR a) := q
  refine ⟨_, rfl, p, rfl, R.isI, p, S, a, d, rfl, R, TD.sub (But.refl p H) q fun x1 a1 H1 v1 c1 b1 R1 D1 q1 => ?_⟩
  refine ⟨_, rfl, p, rfl, R1.isI, p, S, a1, d, _, rfl, by decide, R1, TD.sub b1 q1 fun _ a2 H2 _ c2 b2 R2 _ q2 => ?_⟩
  refine ⟨_, rfl, p, rfl, R2.isI, p, S, a2, d, rfl, R2, TD.sub b2 q2 fun y a3 H3 v3 c3 b3 R3 D3 q3 => ?_⟩
  have D1' := (D1.keep (R1.tups c2)).keep (R2.tups c3)
  refine ⟨by show 1 ≤ sizeLine; decide, fun L nL => ?_⟩
  have Lp : L ≠ p := fun z => by
    obtain ⟨z0, _, ⟨dx, e2⟩, _⟩ := R3.ex
    rw [z, e2] at nL
    cases nL
  have nL0 : H L = none := by
    cases e : H L with
    | none => rfl
    | some o => rw [b3 L o Lp e] at nL; cases nL
  have rL : S.r ≠ L := fun z => by
    obtain ⟨ys, hy⟩ := R.row
    rw [z, nL0] at hy
    cases hy
  have sL := same_new (o := .lst [v3]) nL
  have R9 : Rd CR (upd H3 L (.lst [v3])) p S a3 d := R3.same sL
  have hL : upd H3 L (.lst [v3]) L = some (.lst [v3]) := upd_same
  have b9 : But p H (upd H3 L (.lst [v3])) := b3.trans (But.of sL)
  have tL : Tups H3 (upd H3 L (.lst [v3])) := fun _ _ h => sL _ _ h
  generalize upd H3 L (.lst [v3]) = H9 at R9 hL b9 tL ⊢
  have grow : ∀ (H5 H6 : Hp) (acc : List D) (vs : List V) (a' : Nat) (x : D) (v : V), H5 L = some (.lst vs) → DTs H5 (ofL acc) vs → But p H5 H6 → Tups H5 H6 → But p H H6 → Rd CR H6 p S a' d → DT H6 x v →
      But p H (upd H6 L (.lst (vs ++ [v]))) ∧ Rd CR (upd H6 L (.lst (vs ++ [v]))) p S a' d ∧ DTs (upd H6 L (.lst (vs ++ [v]))) (ofL (acc ++ [x])) (vs ++ [v]) ∧ H6 L = some (.lst vs) ∧ Tups H6 (upd H6 L (.lst (vs ++ [v]))) := by
    intro H5 H6 acc vs a' t v h1 h2 h3 tp h4 R6 D6
    have h5 : H6 L = some (.lst vs) := h3 _ _ Lp h1
    have tk : Tups H6 (upd H6 L (.lst (vs ++ [v]))) := fun x ws h => by rw [upd_ne (fun z => by rw [z, h5] at h; cases h)]; exact h
    exact ⟨fun b o nb e => by rw [upd_ne (fun z => by rw [z, nL0] at e; cases e)]; exact h4 b o nb e, R6.updL h5 rL, DTs.snoc (D6.keep tk) acc vs (DTs.keep (fun x ws h => tk _ _ (tp _ _ h)) _ _ h2), h5, tk⟩
  refine ⟨fun m σ H5 => ∃ (acc : List D) (vs : List V) (a' : Nat), σ = [some (.ref p), some v1, some (.ref L)] ∧ But p H H5 ∧ Rd CR H5 p S a' d ∧ H5 L = some (.lst vs) ∧ DTs H5 (ofL acc) vs ∧ vs.length ≤ a' + 1 ∧
      TD CR CS p S d H Q E ((S.moreR S.markR acc a').bind fun xs a6 => (.ok (tD [.str "\x69mport", x1, tD xs]) a6 : Rs D)) ∧ DT H5 x1 v1 ∧ m = S.n + 1 - a', ⟨_, [y], [v3], a3, rfl, b9, R9, hL, .cons (D3.keep tL) .nil, by show 1 ≤ a3 + 1; omega, q3, D1'.keep tL, rfl⟩, ?_⟩
  rintro m σ H5 ⟨acc, vs, a', rfl, b5, R5, hL5, D5, hlen, q5, K5, rfl⟩
  rw [Src.moreR] at q5
  have hle := R5.ha
  have hn := R5.hn
  refine ⟨_, rfl, p, rfl, R5.isI, p, S, a', d, _, rfl, R5, by decide, ?_⟩
  cases k4 : S.eqW a' "," with
  | false =>
    rw [k4, if_neg Bool.false_ne_true] at q5
    refine iteF ⟨_, rfl, iteF ?_⟩
    refine ⟨_, rfl, _, rfl, L, _, rfl, .inl ⟨SqL.of hL5, fun y ny => ?_⟩⟩
    have sy := same_new (o := .tup vs) ny
    have hy : upd H5 y (.tup vs) y = some (.tup vs) := upd_same
    have R6 := R5.same sy
    have D6 := DTs.keep (fun x ws h => sy _ _ h) _ _ D5
    have K6 := K5.keep (fun x ws h => sy _ _ h)
    generalize upd H5 y (.tup vs) = H6 at sy hy R6 D6 K6 ⊢
    refine ⟨by show 3 ≤ sizeLine; decide, fun u nu => ?_⟩
    have su := same_new (o := .tup [.str "\x69mport", v1, .ref y]) nu
    exact q5 _ _ ((b5.trans (But.of sy)).trans (But.of su)) (R6.same su) (.tup upd_same (by show 3 ≤ 1000000; decide) (.cons DT.str (.cons (K6.keep fun _ _ h => su _ _ h) (.cons (.tup (su _ _ hy) (by omega) (DTs.keep (fun _ _ h => su _ _ h) _ _ D6)) .nil))))
  | true =>
  rw [k4, if_pos rfl] at q5
  have ka := lt_of_wd k4 (by decide)
  refine iteT fun H6 b6 R6 => ⟨_, rfl, iteT ⟨fun σ' H' => ∃ m', m' < S.n + 1 - a' ∧ ∃ (acc : List D) (vs : List V) (a' : Nat), σ' = [some (.ref p), some v1, some (.ref L)] ∧ But p H H' ∧ Rd CR H' p S a' d ∧ H' L = some (.lst vs) ∧ DTs H' (ofL acc) vs ∧ vs.length ≤ a' + 1 ∧
      TD CR CS p S d H Q E ((S.moreR S.markR acc a').bind fun xs a6 => (.ok (tD [.str "\x69mport", x1, tD xs]) a6 : Rs D)) ∧ DT H' x1 v1 ∧ m' = S.n + 1 - a', fun _ _ h => h, ?_⟩⟩
  have hL6 := b6 _ _ Lp hL5
  refine ⟨_, rfl, .inl ⟨rfl, _, SqL.of hL6⟩, _, rfl, p, rfl, R6.isI, p, S, a' + 1, d, rfl, R6, ?_⟩
  show TD CR CS p S d H6 _ _ (S.markR (a' + 1))
  cases ev : S.markR (a' + 1) with
  | un => rw [ev] at q5; exact q5
  | no s e => rw [ev] at q5; exact fun H' dd b x => q5 H' dd ((b5.trans b6).trans b) x
  | ok t2 a2 =>
    rw [ev] at q5
    intro H7 v2 b7 R7 D7
    by_cases hg : a' < a2 ∧ a' < S.n
    · have q6 : TD CR CS p S d H Q E ((S.moreR S.markR (acc ++ [t2]) a2).bind fun xs a6 => (.ok (tD [.str "\x69mport", x1, tD xs]) a6 : Rs D)) := by
        have q7 := q5
        simp only [dif_pos hg] at q7
        exact q7
      have tp57 : Tups H5 H7 := fun x ws h => R6.tups b7 _ _ (R5.tups b6 _ _ h)
      obtain ⟨g1, g2, g3, g4, g5⟩ := grow H5 H7 acc vs a2 t2 v2 hL5 D5 (b6.trans b7) tp57 ((b5.trans b6).trans b7) R7 D7
      refine ⟨L, vs, v2, rfl, rfl, g4, Nat.lt_of_le_of_lt (show vs.length ≤ 200000 by omega) (by decide), ?_⟩
      exact ⟨_, by omega, acc ++ [t2], vs ++ [v2], a2, rfl, g1, g2, upd_same, g3, by rw [List.length_append, List.length_singleton]; omega, q6, (K5.keep tp57).keep g5, rfl⟩
    · exfalso
      have q7 := q5
      simp only [dif_neg hg] at q7
      exact q7
end

end Sn

namespace Sn
open PySem PySem.Spec PyProof.Rows L2 TL
/-! ### reading items: the rest -/
section
variable {P : Program} {w : World} {K : PySem.W.Frag} {mg : Str → Option Value} {base : Heap} {f : Addr} {fd : FuncData} {aW CR CS aR : Addr} {tS t0 t1 t2 t3 t4 t5 t6 : PySem.Tok} {jv : Nat} {MV : Src → Nat → Nat → Rs Tn}
abbrev s_Reader_trait : Stmt := inClass (topS 25) 27
abbrev N_Reader_trait : List Str := ["self", "name", "method", "first", "found"]
theorem sc_Reader_trait : FnScope N_Reader_trait ["self"] (defScope s_Reader_trait) := ⟨rfl, rfl, rfl, by decide +kernel, rfl, by decide +kernel, by decide +kernel⟩
theorem ok_trait (F : Fun K "trait" "Reader.trait" s_Reader_trait f fd) (T : NmR K w mg aW tS CR CS aR t0 t1 t2 t3 t4 t5 t6) (C_Reader_mark : CalM P w K mg base (L2N.CX P w) 4 CR "mark" (spD CR CS fun S _ a => S.markR a)) (C_Reader_expect : CalM P w K mg base (L2N.CX P w) 4 CR "expect" (spDw CR CS)) (C_Reader_taken : CalM P w K mg base CX0 3 CR "taken" (spTaken CR)) (C_Reader_field : CalM P w K mg base (L2N.CX P w) 5 CR "field" (spD CR CS fun S _ a => S.fieldR a)) :
    FnOk P w K mg base (L2N.CX P w) 6 f fd ["self"] (spD CR CS fun S _ a => S.traitR a) := by
  refine okXN F sc_Reader_trait (fun vs H Q E h => ?_) (fun cdv A outer s H vs Q E hr h => ?_)
  · obtain ⟨p, S, a, d, rfl, _⟩ := h
    rfl
  obtain ⟨p, S, a, d, rfl, R, q⟩ := h
  refine ⟨_, (pss_cons (ps_set (i := 1) sc_Reader_trait.nd rfl (Or.inl rfl) (pe_m0 ns_Reader C_Reader_mark T.cl_Reader (by decide) hr (by first | decide | omega) (L2N.passes_call (L2N.takes_of rfl rfl rfl rfl) (fun _ _ _ _ h => h)) (pv 0)))
    (pss_cons (ps_expr (pe_m ns_Reader C_Reader_expect T.cl_Reader (by decide) hr (by first | decide | omega) (L2N.passes_call (L2N.takes_of rfl rfl rfl rfl) (fun _ _ _ _ h => h)) (pv 0) (pa_cons pe_str pa_nil)))
    (pss_cons (ps_set (i := 2) sc_Reader_trait.nd rfl (Or.inl rfl) (pe_m0 ns_Reader C_Reader_mark T.cl_Reader (by decide) hr (by first | decide | omega) (L2N.passes_call (L2N.takes_of rfl rfl rfl rfl) (fun _ _ _ _ h => h)) (pv 0)))
    (pss_cons (ps_expr (pe_m ns_Reader C_Reader_expect T.cl_Reader (by decide) hr (by first | decide | omega) (L2N.passes_call (L2N.takes_of rfl rfl rfl rfl) (fun _ _ _ _ h => h)) (pv 0) (pa_cons pe_str pa_nil)))
    (pss_cons (ps_set (i := 3) sc_Reader_trait.nd rfl (Or.inl rfl) (pe_m0 ns_Reader C_Reader_mark T.cl_Reader (by decide) hr (by first | decide | omega) (L2N.passes_call (L2N.takes_of rfl rfl rfl rfl) (fun _ _ _ _ h => h)) (pv 0)))
    (pss_cons (ps_set (i := 4) sc_Reader_trait.nd rfl (Or.inl rfl) (pe_lst pa_nil))
    (pss_cons (ps_while (passes_of rfl) (pt_val (pe_m ns_Reader C_Reader_taken T.cl_Reader (by decide) hr (by first | decide | omega) pass0 (pv 0) (pa_cons pe_str pa_nil))) (pss_one (ps_expr (pe_bm PySem.F.plainAttrs_list PySem.F.slot_list_append PySem.F.type_list_append mt_append (pv 4) (pa_cons (pe_m0 ns_Reader C_Reader_field T.cl_Reader (by decide) hr (by first | decide | omega) (L2N.passes_call (L2N.takes_of rfl rfl rfl rfl) (fun _ _ _ _ h => h)) (pv 0)) pa_nil)))))
    (pss_cons (ps_expr (pe_m ns_Reader C_Reader_expect T.cl_Reader (by decide) hr (by first | decide | omega) (L2N.passes_call (L2N.takes_of rfl rfl rfl rfl) (fun _ _ _ _ h => h)) (pv 0) (pa_cons pe_str pa_nil)))
    (pss_cons (ps_expr (pe_m ns_Reader C_Reader_expect T.cl_Reader (by decide) hr (by first | decide | omega) (L2N.passes_call (L2N.takes_of rfl rfl rfl rfl) (fun _ _ _ _ h => h)) (pv 0) (pa_cons pe_str pa_nil)))
    (pss_one (ps_ret (pe_tup (pa_cons pe_str (pa_cons (pv 1) (pa_cons (pv 2) (pa_cons (pv 3) (pa_cons (pe_callTy call_tuple_of (by rfl) T.tuple_ (by decide +kernel) (pa_cons (pv 4) pa_nil)) (pa_cons (pe_m0 ns_Reader C_Reader_mark T.cl_Reader (by decide) hr (by first | decide | omega) (L2N.passes_call (L2N.takes_of rfl rfl rfl rfl) (fun _ _ _ _ h => h)) (pv 0)) pa_nil)))))))))))))))))), ?_⟩
  have q : TD CR CS p S d H Q E (S.traitR a) := q
  refine ⟨_, rfl, p, rfl, R.isI, p, S, a, d, rfl, R, TD.sub (But.refl p H) q fun x1 a1 H1 v1 c1 b1 R1 D1 q1 => ?_⟩
  refine ⟨_, rfl, p, rfl, R1.isI, p, S, a1, d, _, rfl, by decide, R1, TD.sub b1 q1 fun _ a2 H2 _ c2 b2 R2 _ q2 => ?_⟩
  refine ⟨_, rfl, p, rfl, R2.isI, p, S, a2, d, rfl, R2, TD.sub b2 q2 fun y1 a3 H3 v3 c3 b3 R3 D3 q3 => ?_⟩
  refine ⟨_, rfl, p, rfl, R3.isI, p, S, a3, d, _, rfl, by decide, R3, TD.sub b3 q3 fun _ a4 H4 _ c4 b4 R4 _ q4 => ?_⟩
  refine ⟨_, rfl, p, rfl, R4.isI, p, S, a4, d, rfl, R4, TD.sub b4 q4 fun z1 a5 H5 v5 c5 b5 R5 D5 q5 => ?_⟩
  have D1' := (((D1.keep (R1.tups c2)).keep (R2.tups c3)).keep (R3.tups c4)).keep (R4.tups c5)
  have D3' := (D3.keep (R3.tups c4)).keep (R4.tups c5)
  refine ⟨Nat.zero_le _, fun L nL => ?_⟩
  have Lp : L ≠ p := fun z => by
    obtain ⟨z0, _, ⟨dx, e2⟩, _⟩ := R5.ex
    rw [z, e2] at nL
    cases nL
  have nL0 : H L = none := by
    cases e : H L with
    | none => rfl
    | some o => rw [b5 L o Lp e] at nL; cases nL
  have rL : S.r ≠ L := fun z => by
    obtain ⟨ys, hy⟩ := R.row
    rw [z, nL0] at hy
    cases hy
  have sL := same_new (o := .lst []) nL
  have R9 : Rd CR (upd H5 L (.lst [])) p S a5 d := R5.same sL
  have hL : upd H5 L (.lst []) L = some (.lst []) := upd_same
  have b9 : But p H (upd H5 L (.lst [])) := b5.trans (But.of sL)
  have tL : Tups H5 (upd H5 L (.lst [])) := fun _ _ h => sL _ _ h
  generalize upd H5 L (.lst []) = H9 at R9 hL b9 tL ⊢
  have grow : ∀ (H5 H6 : Hp) (acc : List D) (vs : List V) (a' : Nat) (x : D) (v : V), H5 L = some (.lst vs) → DTs H5 (ofL acc) vs → But p H5 H6 → Tups H5 H6 → But p H H6 → Rd CR H6 p S a' d → DT H6 x v →
      But p H (upd H6 L (.lst (vs ++ [v]))) ∧ Rd CR (upd H6 L (.lst (vs ++ [v]))) p S a' d ∧ DTs (upd H6 L (.lst (vs ++ [v]))) (ofL (acc ++ [x])) (vs ++ [v]) ∧ H6 L = some (.lst vs) ∧ Tups H6 (upd H6 L (.lst (vs ++ [v]))) := by
    intro H5 H6 acc vs a' t v h1 h2 h3 tp h4 R6 D6
    have h5 : H6 L = some (.lst vs) := h3 _ _ Lp h1
    have tk : Tups H6 (upd H6 L (.lst (vs ++ [v]))) := fun x ws h => by rw [upd_ne (fun z => by rw [z, h5] at h; cases h)]; exact h
    exact ⟨fun b o nb e => by rw [upd_ne (fun z => by rw [z, nL0] at e; cases e)]; exact h4 b o nb e, R6.updL h5 rL, DTs.snoc (D6.keep tk) acc vs (DTs.keep (fun x ws h => tk _ _ (tp _ _ h)) _ _ h2), h5, tk⟩
  refine ⟨fun m σ H5 => ∃ (acc : List D) (vs : List V) (a' : Nat), σ = [some (.ref p), some v1, some v3, some v5, some (.ref L)] ∧ But p H H5 ∧ Rd CR H5 p S a' d ∧ H5 L = some (.lst vs) ∧ DTs H5 (ofL acc) vs ∧ vs.length ≤ a' + 1 ∧
      TD CR CS p S d H Q E ((S.moreR S.fieldR acc a').bind fun xs a6 => ((S.expR ")" a6).bind fun _ a7 => (S.expR ":" a7).bind fun _ a8 => (S.markR a8).bind fun r a9 => .ok (tD [.str "trait", x1, y1, z1, tD xs, r]) a9 : Rs D)) ∧ (DT H5 x1 v1 ∧ DT H5 y1 v3 ∧ DT H5 z1 v5) ∧ m = S.n + 1 - a', ⟨_, [], [], a5, rfl, b9, R9, hL, .nil, Nat.zero_le _, q5, ⟨D1'.keep tL, D3'.keep tL, D5.keep tL⟩, rfl⟩, ?_⟩
  rintro m σ H5 ⟨acc, vs, a', rfl, b5, R5, hL5, D5, hlen, q5, K5, rfl⟩
  rw [Src.moreR] at q5
  have hle := R5.ha
  have hn := R5.hn
  refine ⟨_, rfl, p, rfl, R5.isI, p, S, a', d, _, rfl, R5, by decide, ?_⟩
  cases k4 : S.eqW a' "," with
  | false =>
    rw [k4, if_neg Bool.false_ne_true] at q5
    refine iteF ⟨_, rfl, iteF ?_⟩
    refine ⟨_, rfl, p, rfl, R5.isI, p, S, a', d, _, rfl, by decide, R5, TD.sub b5 q5 fun _ a6 H6 _ c6 b6 R6 _ q6 => ?_⟩
    refine ⟨_, rfl, p, rfl, R6.isI, p, S, a6, d, _, rfl, by decide, R6, TD.sub b6 q6 fun _ a7 H7 _ c7 b7 R7 _ q7 => ?_⟩
    have hL7 := c7 _ _ Lp (c6 _ _ Lp hL5)
    have tp7 : Tups H5 H7 := fun x ws h => R6.tups c7 _ _ (R5.tups c6 _ _ h)
    refine ⟨_, rfl, _, rfl, _, rfl, _, rfl, L, _, rfl, .inl ⟨SqL.of hL7, fun y ny => ?_⟩⟩
    have sy := same_new (o := .tup vs) ny
    have hy : upd H7 y (.tup vs) y = some (.tup vs) := upd_same
    have R8 := R7.same sy
    have D8 := DTs.keep (fun x ws h => sy _ _ (tp7 _ _ h)) _ _ D5
    have b8 := b7.trans (But.of sy)
    have tp8 : Tups H5 (upd H7 y (.tup vs)) := fun x ws h => sy _ _ (tp7 _ _ h)
    generalize upd H7 y (.tup vs) = H8 at sy hy R8 D8 b8 tp8 ⊢
    refine ⟨_, rfl, p, rfl, R8.isI, p, S, a7, d, rfl, R8, TD.sub b8 q7 fun r1 a9 H9 v9 c9 b9 R9 D9 q9 => ?_⟩
    refine ⟨by show 6 ≤ sizeLine; decide, fun u nu => ?_⟩
    have su := same_new (o := .tup [.str "trait", v1, v3, v5, .ref y, v9]) nu
    have tp9 : Tups H5 (upd H9 u (.tup [.str "trait", v1, v3, v5, .ref y, v9])) := fun x ws h => su _ _ (R8.tups c9 _ _ (tp8 _ _ h))
    exact q9 _ _ (b9.trans (But.of su)) (R9.same su) (.tup upd_same (by show 6 ≤ 1000000; decide) (.cons DT.str (.cons (K5.1.keep tp9) (.cons (K5.2.1.keep tp9) (.cons (K5.2.2.keep tp9)
      (.cons (.tup (su _ _ (R8.tups c9 _ _ hy)) (by omega) (DTs.keep (fun _ _ h => su _ _ (R8.tups c9 _ _ h)) _ _ D8)) (.cons (D9.keep fun _ _ h => su _ _ h) .nil)))))))
  | true =>
  rw [k4, if_pos rfl] at q5
  have ka := lt_of_wd k4 (by decide)
  refine iteT fun H6 b6 R6 => ⟨_, rfl, iteT ⟨fun σ' H' => ∃ m', m' < S.n + 1 - a' ∧ ∃ (acc : List D) (vs : List V) (a' : Nat), σ' = [some (.ref p), some v1, some v3, some v5, some (.ref L)] ∧ But p H H' ∧ Rd CR H' p S a' d ∧ H' L = some (.lst vs) ∧ DTs H' (ofL acc) vs ∧ vs.length ≤ a' + 1 ∧
      TD CR CS p S d H Q E ((S.moreR S.fieldR acc a').bind fun xs a6 => ((S.expR ")" a6).bind fun _ a7 => (S.expR ":" a7).bind fun _ a8 => (S.markR a8).bind fun r a9 => .ok (tD [.str "trait", x1, y1, z1, tD xs, r]) a9 : Rs D)) ∧ (DT H' x1 v1 ∧ DT H' y1 v3 ∧ DT H' z1 v5) ∧ m' = S.n + 1 - a', fun _ _ h => h, ?_⟩⟩
  have hL6 := b6 _ _ Lp hL5
  refine ⟨_, rfl, .inl ⟨rfl, _, SqL.of hL6⟩, _, rfl, p, rfl, R6.isI, p, S, a' + 1, d, rfl, R6, ?_⟩
  show TD CR CS p S d H6 _ _ (S.fieldR (a' + 1))
  cases ev : S.fieldR (a' + 1) with
  | un => rw [ev] at q5; exact q5
  | no s e => rw [ev] at q5; exact fun H' dd b x => q5 H' dd ((b5.trans b6).trans b) x
  | ok t2 a2 =>
    rw [ev] at q5
    intro H7 v2 b7 R7 D7
    by_cases hg : a' < a2 ∧ a' < S.n
    · have q6 : TD CR CS p S d H Q E ((S.moreR S.fieldR (acc ++ [t2]) a2).bind fun xs a6 => ((S.expR ")" a6).bind fun _ a7 => (S.expR ":" a7).bind fun _ a8 => (S.markR a8).bind fun r a9 => .ok (tD [.str "trait", x1, y1, z1, tD xs, r]) a9 : Rs D)) := by
        have q7 := q5
        simp only [dif_pos hg] at q7
        exact q7
      have tp57 : Tups H5 H7 := fun x ws h => R6.tups b7 _ _ (R5.tups b6 _ _ h)
      obtain ⟨g1, g2, g3, g4, g5⟩ := grow H5 H7 acc vs a2 t2 v2 hL5 D5 (b6.trans b7) tp57 ((b5.trans b6).trans b7) R7 D7
      refine ⟨L, vs, v2, rfl, rfl, g4, Nat.lt_of_le_of_lt (show vs.length ≤ 200000 by omega) (by decide), ?_⟩
      exact ⟨_, by omega, acc ++ [t2], vs ++ [v2], a2, rfl, g1, g2, upd_same, g3, by rw [List.length_append, List.length_singleton]; omega, q6, ⟨(K5.1.keep tp57).keep g5, (K5.2.1.keep tp57).keep g5, (K5.2.2.keep tp57).keep g5⟩, rfl⟩
    · exfalso
      have q7 := q5
      simp only [dif_neg hg] at q7
      exact q7
abbrev s_Reader_impl : Stmt := inClass (topS 25) 28
abbrev N_Reader_impl : List Str := ["self", "trait", "target"]
theorem sc_Reader_impl : FnScope N_Reader_impl ["self"] (defScope s_Reader_impl) := ⟨rfl, rfl, rfl, by decide +kernel, rfl, by decide +kernel, by decide +kernel⟩
theorem ok_impl (h5 : 5 ≤ jv) (F : Fun K "impl" "Reader.impl" s_Reader_impl f fd) (T : NmR K w mg aW tS CR CS aR t0 t1 t2 t3 t4 t5 t6) (C_Reader_mark : CalM P w K mg base (L2N.CX P w) 4 CR "mark" (spD CR CS fun S _ a => S.markR a)) (C_Reader_expect : CalM P w K mg base (L2N.CX P w) 4 CR "expect" (spDw CR CS)) (C_Reader_part : CalM P w K mg base (L2N.CX P w) (jv + 1) CR "part" (spTw CR CS fun S d a => MV S d a)) :
    FnOk P w K mg base (L2N.CX P w) (jv + 2) f fd ["self"] (spD CR CS fun S d a => S.implR (MV S d) a) := by
  refine okXN F sc_Reader_impl (fun vs H Q E h => ?_) (fun cdv A outer s H vs Q E hr h => ?_)
  · obtain ⟨p, S, a, d, rfl, _⟩ := h
    rfl
  obtain ⟨p, S, a, d, rfl, R, q⟩ := h
  have hr : Room (jv + 1) _ := hr
  refine ⟨_, (pss_cons (ps_set (i := 1) sc_Reader_impl.nd rfl (Or.inl rfl) (pe_m0 ns_Reader C_Reader_mark T.cl_Reader (by decide) hr (by first | decide | omega) (L2N.passes_call (L2N.takes_of rfl rfl rfl rfl) (fun _ _ _ _ h => h)) (pv 0)))
    (pss_cons (ps_expr (pe_m ns_Reader C_Reader_expect T.cl_Reader (by decide) hr (by first | decide | omega) (L2N.passes_call (L2N.takes_of rfl rfl rfl rfl) (fun _ _ _ _ h => h)) (pv 0) (pa_cons pe_str pa_nil)))
    (pss_cons (ps_set (i := 2) sc_Reader_impl.nd rfl (Or.inl rfl) (pe_m0 ns_Reader C_Reader_mark T.cl_Reader (by decide) hr (by first | decide | omega) (L2N.passes_call (L2N.takes_of rfl rfl rfl rfl) (fun _ _ _ _ h => h)) (pv 0)))
    (pss_one (ps_ret (pe_tup (pa_cons pe_str (pa_cons (pv 1) (pa_cons (pv 2) (pa_cons (pe_m ns_Reader C_Reader_part T.cl_Reader (by decide) hr (by first | decide | omega) (L2N.passes_call (L2N.takes_of rfl rfl rfl rfl) (fun _ _ _ _ h => h)) (pv 0) (pa_cons pe_str pa_nil)) pa_nil)))))))))), ?_⟩
  have q : TD CR CS p S d H Q E (S.implR (MV S d) a) := q
  refine ⟨_, rfl, p, rfl, R.isI, p, S, a, d, rfl, R, TD.sub (But.refl p H) q fun x1 a1 H1 v1 c1 b1 R1 D1 q1 => ?_⟩
  refine ⟨_, rfl, p, rfl, R1.isI, p, S, a1, d, _, rfl, by decide, R1, TD.sub b1 q1 fun _ a2 H2 _ c2 b2 R2 _ q2 => ?_⟩
  refine ⟨_, rfl, p, rfl, R2.isI, p, S, a2, d, rfl, R2, TD.sub b2 q2 fun y1 a3 H3 v3 c3 b3 R3 D3 q3 => ?_⟩
  refine ⟨_, rfl, _, rfl, _, rfl, p, rfl, R3.isI, p, S, a3, d, _, rfl, by decide, R3, TK.subD b3 q3 fun t a4 H4 v4 c4 b4 R4 D4 q4 => ?_⟩
  have D1' := ((D1.keep (R1.tups c2)).keep (R2.tups c3)).keep (R3.tups c4)
  have D3' := D3.keep (R3.tups c4)
  refine ⟨by show 4 ≤ sizeLine; decide, fun u nu => ?_⟩
  have su := same_new (o := .tup [.str "impl", v1, v3, v4]) nu
  exact q4 _ _ (b4.trans (But.of su)) (R4.same su) (.tup upd_same (by show 4 ≤ 1000000; decide) (.cons DT.str (.cons (D1'.keep fun _ _ h => su _ _ h) (.cons (D3'.keep fun _ _ h => su _ _ h) (.cons (D4.keep fun _ _ h => su _ _ h) .nil)))))
abbrev s_Reader_definition : Stmt := inClass (topS 25) 29
abbrev N_Reader_definition : List Str := ["self", "name", "bounds", "fields", "result"]
theorem sc_Reader_definition : FnScope N_Reader_definition ["self"] (defScope s_Reader_definition) := ⟨rfl, rfl, rfl, by decide +kernel, rfl, by decide +kernel, by decide +kernel⟩
theorem ok_definition (h5 : 5 ≤ jv) (F : Fun K "definition" "Reader.definition" s_Reader_definition f fd) (T : NmR K w mg aW tS CR CS aR t0 t1 t2 t3 t4 t5 t6) (C_Reader_mark : CalM P w K mg base (L2N.CX P w) 4 CR "mark" (spD CR CS fun S _ a => S.markR a)) (C_Reader_bounds : CalM P w K mg base (L2N.CX P w) 6 CR "bounds" (spD CR CS fun S _ a => S.boundsR a)) (C_Reader_fields : CalM P w K mg base (L2N.CX P w) 6 CR "fields" (spD CR CS fun S _ a => S.fieldsR a)) (C_Reader_taken : CalM P w K mg base CX0 3 CR "taken" (spTaken CR)) (C_Reader_part : CalM P w K mg base (L2N.CX P w) (jv + 1) CR "part" (spTw CR CS fun S d a => MV S d a)) :
    FnOk P w K mg base (L2N.CX P w) (jv + 2) f fd ["self"] (spD CR CS fun S d a => S.defR (MV S d) a) := by
  refine okXN F sc_Reader_definition (fun vs H Q E h => ?_) (fun cdv A outer s H vs Q E hr h => ?_)
  · obtain ⟨p, S, a, d, rfl, _⟩ := h
    rfl
  obtain ⟨p, S, a, d, rfl, R, q⟩ := h
  have hr : Room (jv + 1) _ := hr
  refine ⟨_, (pss_cons (ps_set (i := 1) sc_Reader_definition.nd rfl (Or.inl rfl) (pe_m0 ns_Reader C_Reader_mark T.cl_Reader (by decide) hr (by first | decide | omega) (L2N.passes_call (L2N.takes_of rfl rfl rfl rfl) (fun _ _ _ _ h => h)) (pv 0)))
    (pss_cons (ps_set (i := 2) sc_Reader_definition.nd rfl (Or.inl rfl) (pe_m0 ns_Reader C_Reader_bounds T.cl_Reader (by decide) hr (by first | decide | omega) (L2N.passes_call (L2N.takes_of rfl rfl rfl rfl) (fun _ _ _ _ h => h)) (pv 0)))
    (pss_cons (ps_set (i := 3) sc_Reader_definition.nd rfl (Or.inl rfl) (pe_m0 ns_Reader C_Reader_fields T.cl_Reader (by decide) hr (by first | decide | omega) (L2N.passes_call (L2N.takes_of rfl rfl rfl rfl) (fun _ _ _ _ h => h)) (pv 0)))
    (pss_cons (ps_set (i := 4) sc_Reader_definition.nd rfl (Or.inl rfl) (PE.up (pe_ifExp (pt_val (pe_m ns_Reader C_Reader_taken T.cl_Reader (by decide) hr (by first | decide | omega) pass0 (pv 0) (pa_cons pe_str pa_nil))) (pe_m0 ns_Reader C_Reader_mark T.cl_Reader (by decide) hr (by first | decide | omega) (L2N.passes_call (L2N.takes_of rfl rfl rfl rfl) (fun _ _ _ _ h => h)) (pv 0)) pe_non)))
    (pss_one (ps_ret (pe_tup (pa_cons pe_str (pa_cons (pv 1) (pa_cons (pv 2) (pa_cons (pv 3) (pa_cons (pv 4) (pa_cons (pe_m ns_Reader C_Reader_part T.cl_Reader (by decide) hr (by first | decide | omega) (L2N.passes_call (L2N.takes_of rfl rfl rfl rfl) (fun _ _ _ _ h => h)) (pv 0) (pa_cons pe_str pa_nil)) pa_nil))))))))))))), ?_⟩
  have q : TD CR CS p S d H Q E (S.defR (MV S d) a) := q
  have h6 : 6 ≤ jv + 1 := by omega
  refine ⟨_, rfl, p, rfl, R.isI, p, S, a, d, rfl, R, TD.sub (But.refl p H) q fun x1 a1 H1 v1 c1 b1 R1 D1 q1 => ?_⟩
  refine ⟨_, rfl, p, rfl, R1.isI, p, S, a1, d, rfl, R1, TD.sub b1 q1 fun y1 a2 H2 v2 c2 b2 R2 D2 q2 => ?_⟩
  refine ⟨_, rfl, p, rfl, R2.isI, p, S, a2, d, rfl, R2, TD.sub b2 q2 fun z1 a3 H3 v3 c3 b3 R3 D3 q3 => ?_⟩
  have D1' := (D1.keep (R1.tups c2)).keep (R2.tups c3)
  have D2' := D2.keep (R2.tups c3)
  refine ⟨fun v H4 => ∃ (r : D) (a4 : Nat), But p H3 H4 ∧ Rd CR H4 p S a4 d ∧ DT H4 r v ∧ TD CR CS p S d H Q E ((S.part (MV S d) "=" a4).bind fun t a5 => .ok (tD [.str "def", x1, y1, z1, r, t.d]) a5), ?_, ?_⟩
  · unfold Src.optR at q3
    refine ⟨_, rfl, p, rfl, R3.isI, p, S, a3, d, _, rfl, R3, by decide, ?_⟩
    cases k1 : S.eqW a3 ":" with
    | true =>
      rw [k1, if_pos rfl] at q3
      refine iteT fun H4 c4 R4 => ⟨_, rfl, iteT ?_⟩
      refine ⟨_, rfl, p, rfl, R4.isI, p, S, a3 + 1, d, rfl, R4, TD.sub (b3.trans c4) q3 fun r a5 H5 v5 c5 b5 R5 D5 q5 => ?_⟩
      exact ⟨r, a5, c4.trans c5, R5, D5, q5⟩
    | false =>
      rw [k1, if_neg Bool.false_ne_true] at q3
      exact iteF ⟨_, rfl, iteF ⟨.non, a3, But.refl p H3, R3, DT.non, q3⟩⟩
  rintro v4 H4 ⟨r, a4, c4, R4, D4, q4⟩
  have b4 := b3.trans c4
  refine ⟨_, rfl, _, rfl, _, rfl, _, rfl, _, rfl, p, rfl, R4.isI, p, S, a4, d, _, rfl, by decide, R4, TK.subD b4 q4 fun t a5 H5 v5 c5 b5 R5 D5 q5 => ?_⟩
  refine ⟨by show 6 ≤ sizeLine; decide, fun u nu => ?_⟩
  have su := same_new (o := .tup [.str "def", v1, v2, v3, v4, v5]) nu
  have t45 : Tups H4 (upd H5 u (.tup [.str "def", v1, v2, v3, v4, v5])) := fun _ _ h => su _ _ (R4.tups c5 _ _ h)
  have t35 : Tups H3 (upd H5 u (.tup [.str "def", v1, v2, v3, v4, v5])) := fun _ _ h => t45 _ _ (R3.tups c4 _ _ h)
  exact q5 _ _ (b5.trans (But.of su)) (R5.same su) (.tup upd_same (by show 6 ≤ 1000000; decide) (.cons DT.str (.cons (D1'.keep t35) (.cons (D2'.keep t35) (.cons (D3.keep t35) (.cons (D4.keep t45) (.cons (D5.keep fun _ _ h => su _ _ h) .nil)))))))
abbrev s_Reader_item : Stmt := inClass (topS 25) 30
abbrev N_Reader_item : List Str := ["self"]
theorem sc_Reader_item : FnScope N_Reader_item ["self"] (defScope s_Reader_item) := ⟨rfl, rfl, rfl, by decide +kernel, rfl, by decide +kernel, by decide +kernel⟩
theorem ok_item (h5 : 5 ≤ jv) (F : Fun K "item" "Reader.item" s_Reader_item f fd) (T : NmR K w mg aW tS CR CS aR t0 t1 t2 t3 t4 t5 t6) (C_Reader_ended : CalM P w K mg base CX0 1 CR "ended" (spEnded CR)) (C_Reader_taken : CalM P w K mg base CX0 3 CR "taken" (spTaken CR)) (C_Reader_imported : CalM P w K mg base (L2N.CX P w) 6 CR "imported" (spD CR CS fun S _ a => S.importR a)) (C_Reader_mark : CalM P w K mg base (L2N.CX P w) 4 CR "mark" (spD CR CS fun S _ a => S.markR a)) (C_Reader_fields : CalM P w K mg base (L2N.CX P w) 6 CR "fields" (spD CR CS fun S _ a => S.fieldsR a)) (C_Reader_trait : CalM P w K mg base (L2N.CX P w) 6 CR "trait" (spD CR CS fun S _ a => S.traitR a)) (C_Reader_impl : CalM P w K mg base (L2N.CX P w) (jv + 2) CR "impl" (spD CR CS fun S d a => S.implR (MV S d) a)) (C_Reader_expect : CalM P w K mg base (L2N.CX P w) 4 CR "expect" (spDw CR CS)) (C_Reader_definition : CalM P w K mg base (L2N.CX P w) (jv + 2) CR "definition" (spD CR CS fun S d a => S.defR (MV S d) a)) :
    FnOk P w K mg base (L2N.CX P w) (jv + 3) f fd ["self"] (spD CR CS fun S d a => S.itemR (MV S d) a) := by
  refine okXN F sc_Reader_item (fun vs H Q E h => ?_) (fun cdv A outer s H vs Q E hr h => ?_)
  · obtain ⟨p, S, a, d, rfl, _⟩ := h
    rfl
  obtain ⟨p, S, a, d, rfl, R, q⟩ := h
  have hr : Room (jv + 2) _ := hr
  have h6 : 6 ≤ jv + 2 := by omega
  refine ⟨_, (pss_cons (ps_if (pt_val (pe_m0 ns_Reader C_Reader_ended T.cl_Reader (by decide) hr (by first | decide | omega) pass0 (pv 0))) (pss_one (ps_ret (pe_tup (pa_cons pe_str pa_nil)))) pss_nil)
    (pss_cons (ps_if (pt_val (pe_m ns_Reader C_Reader_taken T.cl_Reader (by decide) hr (by first | decide | omega) pass0 (pv 0) (pa_cons pe_str pa_nil))) (pss_one (ps_ret (pe_m0 ns_Reader C_Reader_imported T.cl_Reader (by decide) hr (by first | decide | omega) (L2N.passes_call (L2N.takes_of rfl rfl rfl rfl) (fun _ _ _ _ h => h)) (pv 0)))) pss_nil)
    (pss_cons (ps_if (pt_val (pe_m ns_Reader C_Reader_taken T.cl_Reader (by decide) hr (by first | decide | omega) pass0 (pv 0) (pa_cons pe_str pa_nil))) (pss_one (ps_ret (pe_tup (pa_cons pe_str (pa_cons (pe_m0 ns_Reader C_Reader_mark T.cl_Reader (by decide) hr (by first | decide | omega) (L2N.passes_call (L2N.takes_of rfl rfl rfl rfl) (fun _ _ _ _ h => h)) (pv 0)) (pa_cons (pe_m0 ns_Reader C_Reader_fields T.cl_Reader (by decide) hr (by first | decide | omega) (L2N.passes_call (L2N.takes_of rfl rfl rfl rfl) (fun _ _ _ _ h => h)) (pv 0)) pa_nil)))))) pss_nil)
    (pss_cons (ps_if (pt_val (pe_m ns_Reader C_Reader_taken T.cl_Reader (by decide) hr (by first | decide | omega) pass0 (pv 0) (pa_cons pe_str pa_nil))) (pss_one (ps_ret (pe_m0 ns_Reader C_Reader_trait T.cl_Reader (by decide) hr (by first | decide | omega) (L2N.passes_call (L2N.takes_of rfl rfl rfl rfl) (fun _ _ _ _ h => h)) (pv 0)))) pss_nil)
    (pss_cons (ps_if (pt_val (pe_m ns_Reader C_Reader_taken T.cl_Reader (by decide) hr (by first | decide | omega) pass0 (pv 0) (pa_cons pe_str pa_nil))) (pss_one (ps_ret (pe_m0 ns_Reader C_Reader_impl T.cl_Reader (by decide) hr (by first | decide | omega) (L2N.passes_call (L2N.takes_of rfl rfl rfl rfl) (fun _ _ _ _ h => h)) (pv 0)))) pss_nil)
    (pss_cons (ps_expr (pe_m ns_Reader C_Reader_expect T.cl_Reader (by decide) hr (by first | decide | omega) (L2N.passes_call (L2N.takes_of rfl rfl rfl rfl) (fun _ _ _ _ h => h)) (pv 0) (pa_cons pe_str pa_nil)))
    (pss_one (ps_ret (pe_m0 ns_Reader C_Reader_definition T.cl_Reader (by decide) hr (by first | decide | omega) (L2N.passes_call (L2N.takes_of rfl rfl rfl rfl) (fun _ _ _ _ h => h)) (pv 0)))))))))), ?_⟩
  have q : TD CR CS p S d H Q E (S.itemR (MV S d) a) := q
  unfold Src.itemR at q
  refine ⟨_, rfl, p, rfl, R.isI, p, S, a, d, rfl, R, _, rfl, ?_⟩
  by_cases k0 : a < S.n
  · rw [if_neg (fun h => h k0)] at q
    refine ite2 (fun h => absurd k0 (of_decide_eq_true h)) (fun _ => ?_)
    refine ⟨_, rfl, p, rfl, R.isI, p, S, a, d, _, rfl, R, by decide, ?_⟩
    cases kimported : S.eqW a "\x69mport" with
    | true =>
      rw [kimported, if_pos rfl] at q
      refine iteT fun H2 c2 R2 => ⟨_, rfl, iteT ?_⟩
      exact ⟨_, rfl, p, rfl, R2.isI, p, S, a + 1, d, rfl, R2, TD.one c2 q fun x1 a1 H1 v1 c1 b1 R1 D1 hq => hq _ _ b1 R1 D1⟩
    | false =>
    rw [kimported, if_neg Bool.false_ne_true] at q
    refine iteF ⟨_, rfl, iteF ?_⟩
    refine ⟨_, rfl, p, rfl, R.isI, p, S, a, d, _, rfl, R, by decide, ?_⟩
    cases kdata : S.eqW a "data" with
    | true =>
      rw [kdata, if_pos rfl] at q
      refine iteT fun H2 c2 R2 => ⟨_, rfl, iteT ?_⟩
      refine ⟨_, rfl, p, rfl, R2.isI, p, S, a + 1, d, rfl, R2, TD.sub c2 (show TD CR CS p S d H Q E (S.dataR (a + 1)) from q) fun x1 a1 H1 v1 c1 b1 R1 D1 q1 => ?_⟩
      refine ⟨_, rfl, p, rfl, R1.isI, p, S, a1, d, rfl, R1, TD.sub b1 q1 fun y1 a3 H3 v3 c3 b3 R3 D3 q3 => ?_⟩
      have D1' := D1.keep (R1.tups c3)
      refine ⟨by show 3 ≤ sizeLine; decide, fun u nu => ?_⟩
      have su := same_new (o := .tup [.str "data", v1, v3]) nu
      exact q3 _ _ (b3.trans (But.of su)) (R3.same su) (.tup upd_same (by show 3 ≤ 1000000; decide) (.cons DT.str (.cons (D1'.keep fun _ _ h => su _ _ h) (.cons (D3.keep fun _ _ h => su _ _ h) .nil))))
    | false =>
    rw [kdata, if_neg Bool.false_ne_true] at q
    refine iteF ⟨_, rfl, iteF ?_⟩
    refine ⟨_, rfl, p, rfl, R.isI, p, S, a, d, _, rfl, R, by decide, ?_⟩
    cases ktrait : S.eqW a "trait" with
    | true =>
      rw [ktrait, if_pos rfl] at q
      refine iteT fun H2 c2 R2 => ⟨_, rfl, iteT ?_⟩
      exact ⟨_, rfl, p, rfl, R2.isI, p, S, a + 1, d, rfl, R2, TD.one c2 q fun x1 a1 H1 v1 c1 b1 R1 D1 hq => hq _ _ b1 R1 D1⟩
    | false =>
    rw [ktrait, if_neg Bool.false_ne_true] at q
    refine iteF ⟨_, rfl, iteF ?_⟩
    refine ⟨_, rfl, p, rfl, R.isI, p, S, a, d, _, rfl, R, by decide, ?_⟩
    cases kimpl : S.eqW a "impl" with
    | true =>
      rw [kimpl, if_pos rfl] at q
      refine iteT fun H2 c2 R2 => ⟨_, rfl, iteT ?_⟩
      exact ⟨_, rfl, p, rfl, R2.isI, p, S, a + 1, d, rfl, R2, TD.one c2 q fun x1 a1 H1 v1 c1 b1 R1 D1 hq => hq _ _ b1 R1 D1⟩
    | false =>
    rw [kimpl, if_neg Bool.false_ne_true] at q
    refine iteF ⟨_, rfl, iteF ?_⟩
    refine ⟨_, rfl, p, rfl, R.isI, p, S, a, d, _, rfl, by decide, R, TD.sub (But.refl p H) q fun _ a1 H1 _ c1 b1 R1 _ q1 => ?_⟩
    exact ⟨_, rfl, p, rfl, R1.isI, p, S, a1, d, rfl, R1, TD.one b1 q1 fun x1 a2 H2 v2 c2 b2 R2 D2 hq => hq _ _ b2 R2 D2⟩
  · rw [if_pos k0] at q
    refine iteP k0 ?_
    refine ⟨by show 1 ≤ sizeLine; decide, fun u nu => ?_⟩
    have su := same_new (o := .tup [.str "blank"]) nu
    exact q _ _ (But.of su) (R.same su) (.tup upd_same (by show 1 ≤ 1000000; decide) (.cons DT.str .nil))
def spReadI (CS : Addr) (MV : Src → Nat → Nat → Rs Tn) : Sp := fun vs H Q E => ∃ z : Str, vs = [.str z] ∧ z.length ≤ 100000 ∧ ∀ r : Addr,
  if 300 < (allT z).length then failS CS H E ((⟨r, tl z, allT z⟩ : Src).fp 300).1 ((⟨r, tl z, allT z⟩ : Src).fp 300).2 else
  match (⟨r, tl z, allT z⟩ : Src).itemR (MV (⟨r, tl z, allT z⟩ : Src) 0) 0 with
  | .un => False
  | .no s e => failS CS H E s e
  | .ok t a => if a < (allT z).length then failS CS H E ((⟨r, tl z, allT z⟩ : Src).fp a).1 ((⟨r, tl z, allT z⟩ : Src).fp a).2 else ∀ H' v, Same H H' → DT H' t v → Q v H'
abbrev s_read_item : Stmt := topS 26
abbrev N_read_item : List Str := ["text", "reader", "item"]
theorem sc_read_item : FnScope N_read_item ["text"] (defScope s_read_item) := ⟨rfl, rfl, rfl, by decide +kernel, rfl, by decide +kernel, by decide +kernel⟩
theorem ok_read_item (h5 : 5 ≤ jv) (F : Fun K "read_item" "read_item" s_read_item f fd) (T : NmR K w mg aW tS CR CS aR t0 t1 t2 t3 t4 t5 t6) (I_Reader : CalK P w K mg base (L2N.CX P w) 7 CR (spRI CR CS)) (C_Reader_fail : CalM P w K mg base (L2N.CX P w) 3 CR "fail" (spFail CR CS))
    (C_Reader_ended : CalM P w K mg base CX0 1 CR "ended" (spEnded CR)) (C_Reader_item : CalM P w K mg base (L2N.CX P w) (jv + 3) CR "item" (spD CR CS fun S d a => S.itemR (MV S d) a)) :
    FnOk P w K mg base (L2N.CX P w) (jv + 4) f fd ["text"] (spReadI CS MV) := by
  refine okXN F sc_read_item (fun vs H Q E h => ?_) (fun cdv A outer s H vs Q E hr h => ?_)
  · obtain ⟨z, rfl, _⟩ := h
    rfl
  obtain ⟨z, rfl, hz, q⟩ := h
  have hr : Room (jv + 3) _ := hr
  refine ⟨_, (pss_cons (ps_set (i := 1) sc_read_item.nd rfl (Or.inl rfl) (pe_mk I_Reader hr (by first | decide | omega) T.mk_Reader (L2N.passes_call (L2N.takes_of rfl rfl rfl rfl) (fun _ _ _ _ h => h)) (pa_cons (pv 0) pa_nil)))
    (pss_cons (ps_set (i := 2) sc_read_item.nd rfl (Or.inl rfl) (pe_m0 ns_Reader C_Reader_item T.cl_Reader (by decide) hr (by first | decide | omega) (L2N.passes_call (L2N.takes_of rfl rfl rfl rfl) (fun _ _ _ _ h => h)) (pv 1)))
    (pss_cons (ps_if (pt_not (pt_val (pe_m0 ns_Reader C_Reader_ended T.cl_Reader (by decide) hr (by first | decide | omega) pass0 (pv 1)))) (pss_one (ps_expr (pe_m0 ns_Reader C_Reader_fail T.cl_Reader (by decide) hr (by first | decide | omega) (L2N.passes_call (L2N.takes_of rfl rfl rfl rfl) (fun _ _ _ _ h => h)) (pv 1)))) pss_nil)
    (pss_one (ps_ret (pv 2)))))), ?_⟩
  refine ⟨_, rfl, fun p dx np nd ne => ?_⟩
  have s0 : Same H (upd (upd H dx (.own p)) p (.ins CR dx [])) := fun b o h => by
    rw [upd_ne (ne_of_none h np), upd_ne (ne_of_none h nd)]
    exact h
  have sb : ∀ {H' : Hp}, But p (upd (upd H dx (.own p)) p (.ins CR dx [])) H' → Same H H' := fun b x o h => b _ _ (ne_of_none h np) (s0 _ _ h)
  refine ⟨p, dx, z, rfl, upd_same, hz, ?_⟩
  by_cases kk : 300 < (allT z).length
  · rw [if_pos kk]
    intro r H' dd b x
    have q' := q r
    rw [if_pos kk] at q'
    exact q' H' dd (sb b) x
  rw [if_neg kk]
  intro H1 r b1 R1
  have q' := q r
  rw [if_neg kk] at q'
  refine ⟨rfl, ?_⟩
  refine ⟨_, rfl, p, rfl, R1.isI, p, _, 0, 0, rfl, R1, ?_⟩
  show TD CR CS p _ 0 H1 _ E ((⟨r, tl z, allT z⟩ : Src).itemR (MV (⟨r, tl z, allT z⟩ : Src) 0) 0)
  cases ev : (⟨r, tl z, allT z⟩ : Src).itemR (MV (⟨r, tl z, allT z⟩ : Src) 0) 0 with
  | un => rw [ev] at q'; exact q'
  | no s e =>
    rw [ev] at q'
    exact fun H' dd b x => q' H' dd (sb (b1.trans b)) x
  | ok t a =>
    rw [ev] at q'
    intro H2 v b2 R2 D2
    refine ⟨_, rfl, p, rfl, R2.isI, p, _, a, 0, rfl, R2, ?_⟩
    by_cases ka : a < (allT z).length
    · rw [decide_eq_false (fun h => h (show a < Src.n ⟨r, tl z, allT z⟩ from ka))]
      refine ⟨_, rfl, iteT ?_⟩
      simp only [if_pos ka] at q'
      exact ⟨_, rfl, p, rfl, R2.isI, p, _, a, 0, rfl, R2, fun H' dd b x => q' H' dd (sb ((b1.trans b2).trans b)) x⟩
    · rw [decide_eq_true (show ¬ a < Src.n ⟨r, tl z, allT z⟩ from ka)]
      refine ⟨_, rfl, iteF ?_⟩
      simp only [if_neg ka] at q'
      exact ⟨_, rfl, q' H2 v (sb (b1.trans b2)) D2⟩
end

end Sn

namespace Sn
open PySem PySem.Spec PyProof.Rows L2 TL
/-! ### all of the reader, by how deep it goes -/
structure MF (K : PySem.W.Frag) (C : Addr) (m qual : Str) (st : Stmt) (ps : List Str) : Prop where
  ex : ∃ (f : Addr) (fd : FuncData), Fun K m qual st f fd ∧ Meth K C m f ∧ Binds K fd ps []
structure PF (K : PySem.W.Frag) (mg : Str → Option Value) (x : Str) (st : Stmt) (ps : List Str) : Prop where
  ex : ∃ (f : Addr) (fd : FuncData), Fun K x x st f fd ∧ mg x = some (.ref f) ∧ Binds K fd ps []
section
variable {P : Program} {w : World} {K : PySem.W.Frag} {mg : Str → Option Value} {base : Heap} {CX : CXT} {k : Nat} {C : Addr} {m qual x : Str} {st : Stmt} {ps : List Str} {sp : Sp}
theorem MF.cal (h : MF K C m qual st ps) (ok : ∀ f fd, Fun K m qual st f fd → FnOk P w K mg base CX k f fd ps sp) : CalM P w K mg base CX k C m sp := by
  obtain ⟨f, fd, F, M, b⟩ := h.ex
  exact ⟨f, fd, ps, ok f fd F, M, b⟩
theorem PF.cal (h : PF K mg x st ps) (ok : ∀ f fd, Fun K x x st f fd → FnOk P w K mg base CX k f fd ps sp) : Cal P w K mg base CX k x sp := by
  obtain ⟨f, fd, F, M, b⟩ := h.ex
  exact ⟨f, fd, ps, ok f fd F, M, F.kp, b⟩
theorem no_fn {f : Addr} {fd : FuncData} (no : ∀ vs H Q E, ¬ sp vs H Q E) : FnOk P w K mg base CX k f fd ps sp :=
  ⟨fun vs H Q E h => absurd h (no vs H Q E), fun A outer s H args us vs Q E _ _ _ _ h => absurd h (no vs H Q E)⟩
end
structure RdM (K : PySem.W.Frag) (CR : Addr) : Prop where
  fail : MF K CR "fail" "Reader.fail" s_Reader_fail ["self"]
  ended : MF K CR "ended" "Reader.ended" s_Reader_ended ["self"]
  next_sort : MF K CR "next_sort" "Reader.next_sort" s_Reader_next_sort ["self"]
  next_start : MF K CR "next_start" "Reader.next_start" s_Reader_next_start ["self"]
  last_end : MF K CR "last_end" "Reader.last_end" s_Reader_last_end ["self"]
  peek : MF K CR "peek" "Reader.peek" s_Reader_peek ["self"]
  taken : MF K CR "taken" "Reader.taken" s_Reader_taken ["self", "word"]
  expect : MF K CR "expect" "Reader.expect" s_Reader_expect ["self", "word"]
  mark : MF K CR "mark" "Reader.mark" s_Reader_mark ["self"]
  begin_ : MF K CR "begin" "Reader.begin" s_Reader_begin ["self"]
  value : MF K CR "value" "Reader.value" s_Reader_value ["self"]
  part : MF K CR "part" "Reader.part" s_Reader_part ["self", "word"]
  let_ : MF K CR "let" "Reader.let" s_Reader_let ["self", "start"]
  choice : MF K CR "choice" "Reader.choice" s_Reader_choice ["self", "start"]
  loop : MF K CR "loop" "Reader.loop" s_Reader_loop ["self", "start"]
  chain : MF K CR "chain" "Reader.chain" s_Reader_chain ["self", "least"]
  negated : MF K CR "negated" "Reader.negated" s_Reader_negated ["self"]
  signed : MF K CR "signed" "Reader.signed" s_Reader_signed ["self"]
  reached : MF K CR "reached" "Reader.reached" s_Reader_reached ["self"]
  simple : MF K CR "simple" "Reader.simple" s_Reader_simple ["self"]
  named : MF K CR "named" "Reader.named" s_Reader_named ["self"]
section
variable {P : Program} {w : World} {K : PySem.W.Frag} {mg : Str → Option Value} {base : Heap} {aW CR CS aR : Addr} {tS t0 t1 t2 t3 t4 t5 t6 : PySem.Tok}
/-- what a reading needs -/
structure RdB (P : Program) (w : World) (K : PySem.W.Frag) (mg : Str → Option Value) (base : Heap) (CR CS : Addr) (b : Nat) : Prop where
  value : CalM P w K mg base (L2N.CX P w) b CR "value" (spT CR CS fun S d a => valB S b d a)
  signed : CalM P w K mg base (L2N.CX P w) b CR "signed" (spT CR CS fun S d a => sgB S b d a)
  chain : CalM P w K mg base (L2N.CX P w) b CR "chain" (spTc CR CS fun S d s a => chB S b s d a)
theorem no_spT {m : Src → Nat → Nat → Rs Tn} (h : ∀ S d a, m S d a = .un) : ∀ vs H Q E, ¬ spT CR CS m vs H Q E := by
  rintro vs H Q E ⟨p, S, a, d, rfl, R, q⟩
  rw [h] at q
  exact q
theorem no_spTc {m : Src → Nat → Nat → Nat → Rs Tn} (h : ∀ S d s a, m S d s a = .un) : ∀ vs H Q E, ¬ spTc CR CS m vs H Q E := by
  rintro vs H Q E ⟨p, S, a, d, s, rfl, _, R, q⟩
  rw [h] at q
  exact q
theorem spT_eq {m m' : Src → Nat → Nat → Rs Tn} (h : ∀ S d a, m S d a = m' S d a) {vs : List V} {H : Hp} {Q : VK} {E : XK} (z : spT CR CS m vs H Q E) : spT CR CS m' vs H Q E := by
  obtain ⟨p, S, a, d, e, R, q⟩ := z
  rw [h] at q
  exact ⟨p, S, a, d, e, R, q⟩
theorem spTc_eq {m m' : Src → Nat → Nat → Nat → Rs Tn} (h : ∀ S d s a, m S d s a = m' S d s a) {vs : List V} {H : Hp} {Q : VK} {E : XK} (z : spTc CR CS m vs H Q E) : spTc CR CS m' vs H Q E := by
  obtain ⟨p, S, a, d, s, e, hs, R, q⟩ := z
  rw [h] at q
  exact ⟨p, S, a, d, s, e, hs, R, q⟩
theorem rd_all (T : NmR K w mg aW tS CR CS aR t0 t1 t2 t3 t4 t5 t6) (M : RdM K CR) (I_SP : ExI P w K mg base 1 CS (spXI CS)) (C_number_value : Cal P w K mg base CX0 1 "number_value" spNum) (b : Nat) : RdB P w K mg base CR CS b := by
  induction b using Nat.strongRecOn with
  | ind b ih =>
    by_cases hb : 10 ≤ b
    · obtain ⟨j, rfl⟩ : ∃ j, b = j + 1 := ⟨b - 1, by omega⟩
      have B1 := ih (j + 1 - 1) (by omega)
      have B2 := ih (j + 1 - 2) (by omega)
      have B3 := ih (j + 1 - 3) (by omega)
      have B4 := ih (j + 1 - 4) (by omega)
      have c_fail := M.fail.cal (P := P) (w := w) (mg := mg) (base := base) fun f fd F => ok_fail F T I_SP
      have c_ended := M.ended.cal (P := P) (w := w) (mg := mg) (base := base) fun f fd F => ok_ended F T
      have c_sort := M.next_sort.cal (P := P) (w := w) (mg := mg) (base := base) fun f fd F => ok_next_sort F T c_ended
      have c_start := M.next_start.cal (P := P) (w := w) (mg := mg) (base := base) fun f fd F => ok_next_start F T
      have c_last := M.last_end.cal (P := P) (w := w) (mg := mg) (base := base) fun f fd F => ok_last_end F T
      have c_peek := M.peek.cal (P := P) (w := w) (mg := mg) (base := base) fun f fd F => ok_peek F T c_ended
      have c_taken := M.taken.cal (P := P) (w := w) (mg := mg) (base := base) fun f fd F => ok_taken F T c_peek
      have c_expect := M.expect.cal (P := P) (w := w) (mg := mg) (base := base) fun f fd F => ok_expect F T c_taken c_fail
      have c_mark := M.mark.cal (P := P) (w := w) (mg := mg) (base := base) fun f fd F => ok_mark F T c_sort c_fail c_peek c_start
      have c_begin := M.begin_.cal (P := P) (w := w) (mg := mg) (base := base) fun f fd F => ok_begin F T c_ended c_fail c_start
      have h3 : 5 ≤ j + 1 - 3 := by omega
      have h4 : 5 ≤ j + 1 - 4 := by omega
      have c_part := M.part.cal (P := P) (w := w) (mg := mg) (base := base) fun f fd F => ok_part h3 F T c_expect B3.value
      have c_let := M.let_.cal (P := P) (w := w) (mg := mg) (base := base) fun f fd F => ok_let h3 F T c_mark c_part
      have c_choice := M.choice.cal (P := P) (w := w) (mg := mg) (base := base) fun f fd F => ok_choice h3 F T B3.value c_part
      have c_loop := M.loop.cal (P := P) (w := w) (mg := mg) (base := base) fun f fd F => ok_loop h3 F T c_mark c_part
      have c_value := M.value.cal (P := P) (w := w) (mg := mg) (base := base) fun f fd F => ok_value (j := j) (by omega) (by omega) (by omega) F T c_begin c_taken c_let c_choice c_loop B1.chain
      have c_negated := M.negated.cal (P := P) (w := w) (mg := mg) (base := base) fun f fd F => ok_negated (by omega) F T c_begin B2.chain
      have c_named := M.named.cal (P := P) (w := w) (mg := mg) (base := base) fun f fd F => ok_named h4 F T c_mark c_taken c_last c_peek B4.value c_expect
      have c_simple := M.simple.cal (P := P) (w := w) (mg := mg) (base := base) fun f fd F => ok_simple h4 F T c_sort c_peek c_named c_fail c_start c_last C_number_value B4.value c_expect
      have c_reached := M.reached.cal (P := P) (w := w) (mg := mg) (base := base) fun f fd F => ok_reached h4 F T c_simple c_taken c_mark
      have c_signed := M.signed.cal (P := P) (w := w) (mg := mg) (base := base) fun f fd F => ok_signed (j := j) (by omega) (by omega) (by omega) F T c_peek c_begin c_reached B1.signed
      have c_chain := M.chain.cal (P := P) (w := w) (mg := mg) (base := base) fun f fd F => ok_chain (j := j) (MN := fun S d a => chB S (j + 1 - 2) 3 d a) (MG := fun S d a => sgB S (j + 1 - 1) d a) (MR := fun S d s a => chB S (j + 1 - 1) s d a) (by omega) (by omega) (by omega) (by omega) F T c_peek c_negated B1.signed B1.chain
      refine ⟨c_value.imp fun vs H Q E h => spT_eq (fun S d a => valB_s S hb) h, c_signed.imp fun vs H Q E h => spT_eq (fun S d a => sgB_s S hb) h, c_chain.imp fun vs H Q E h => spTc_eq (fun S d s a => chB_s S hb) h⟩
    · exact ⟨M.value.cal fun f fd F => no_fn (no_spT fun _ _ _ => valB_n _ hb), M.signed.cal fun f fd F => no_fn (no_spT fun _ _ _ => sgB_n _ hb), M.chain.cal fun f fd F => no_fn (no_spTc fun _ _ _ _ => chB_n _ hb)⟩
end

end Sn

namespace Sn
open PySem PySem.Spec PyProof.Rows L2 TL
/-! ### all of the reader of items -/
structure ItM (K : PySem.W.Frag) (CR : Addr) : Prop where
  field : MF K CR "field" "Reader.field" s_Reader_field ["self"]
  fields : MF K CR "fields" "Reader.fields" s_Reader_fields ["self"]
  bound : MF K CR "bound" "Reader.bound" s_Reader_bound ["self"]
  bounds : MF K CR "bounds" "Reader.bounds" s_Reader_bounds ["self"]
  imported : MF K CR "imported" "Reader.imported" s_Reader_imported ["self"]
  trait : MF K CR "trait" "Reader.trait" s_Reader_trait ["self"]
  impl : MF K CR "impl" "Reader.impl" s_Reader_impl ["self"]
  definition : MF K CR "definition" "Reader.definition" s_Reader_definition ["self"]
  item : MF K CR "item" "Reader.item" s_Reader_item ["self"]
section
variable {P : Program} {w : World} {K : PySem.W.Frag} {mg : Str → Option Value} {base : Heap} {aW CR CS aR : Addr} {tS t0 t1 t2 t3 t4 t5 t6 : PySem.Tok}
theorem rd_item (T : NmR K w mg aW tS CR CS aR t0 t1 t2 t3 t4 t5 t6) (M : RdM K CR) (N : ItM K CR) (I_SP : ExI P w K mg base 1 CS (spXI CS)) (C_number_value : Cal P w K mg base CX0 1 "number_value" spNum) (C_tokens : Cal P w K mg base CX0 5 "tokens" spTokens)
    {fI : Addr} {dI : FuncData} (FI : Fun K "__init__" "Reader.__init__" s_R_init fI dI) (MI : Mk K CR fI) (bI : Binds K dI ["self", "source"] []) {b : Nat} (hb : 5 ≤ b) {f : Addr} {fd : FuncData} (F : Fun K "read_item" "read_item" s_read_item f fd) :
    FnOk P w K mg base (L2N.CX P w) (b + 4) f fd ["text"] (spReadI CS fun S d a => valB S b d a) := by
  have B := rd_all T M I_SP C_number_value b
  have c_fail := M.fail.cal (P := P) (w := w) (mg := mg) (base := base) fun f fd F => ok_fail F T I_SP
  have c_ended := M.ended.cal (P := P) (w := w) (mg := mg) (base := base) fun f fd F => ok_ended F T
  have c_sort := M.next_sort.cal (P := P) (w := w) (mg := mg) (base := base) fun f fd F => ok_next_sort F T c_ended
  have c_start := M.next_start.cal (P := P) (w := w) (mg := mg) (base := base) fun f fd F => ok_next_start F T
  have c_peek := M.peek.cal (P := P) (w := w) (mg := mg) (base := base) fun f fd F => ok_peek F T c_ended
  have c_taken := M.taken.cal (P := P) (w := w) (mg := mg) (base := base) fun f fd F => ok_taken F T c_peek
  have c_expect0 := M.expect.cal (P := P) (w := w) (mg := mg) (base := base) fun f fd F => ok_expect F T c_taken c_fail
  have c_mark0 := M.mark.cal (P := P) (w := w) (mg := mg) (base := base) fun f fd F => ok_mark F T c_sort c_fail c_peek c_start
  have c_part := M.part.cal (P := P) (w := w) (mg := mg) (base := base) fun f fd F => ok_part hb F T c_expect0 B.value
  have c_mark := c_mark0.imp (sp' := spD CR CS fun S _ a => S.markR a) fun vs H Q E h => spMark_D h
  have c_expect := c_expect0.imp (sp' := spDw CR CS) fun vs H Q E h => spExpect_D h
  have c_field := N.field.cal (P := P) (w := w) (mg := mg) (base := base) fun f fd F => ok_field F T c_mark c_expect
  have c_bound := N.bound.cal (P := P) (w := w) (mg := mg) (base := base) fun f fd F => ok_bound F T c_mark c_taken
  have c_fields := N.fields.cal (P := P) (w := w) (mg := mg) (base := base) fun f fd F => ok_fields F T c_peek c_taken c_expect c_field
  have c_bounds := N.bounds.cal (P := P) (w := w) (mg := mg) (base := base) fun f fd F => ok_bounds F T c_taken c_expect c_bound
  have c_imported := N.imported.cal (P := P) (w := w) (mg := mg) (base := base) fun f fd F => ok_imported F T c_mark c_expect c_taken
  have c_trait := N.trait.cal (P := P) (w := w) (mg := mg) (base := base) fun f fd F => ok_trait F T c_mark c_expect c_taken c_field
  have c_impl := N.impl.cal (P := P) (w := w) (mg := mg) (base := base) fun f fd F => ok_impl hb F T c_mark c_expect c_part
  have c_def := N.definition.cal (P := P) (w := w) (mg := mg) (base := base) fun f fd F => ok_definition hb F T c_mark c_bounds c_fields c_taken c_part
  have c_item := N.item.cal (P := P) (w := w) (mg := mg) (base := base) fun f fd F => ok_item hb F T c_ended c_taken c_imported c_mark c_fields c_trait c_impl c_expect c_def
  exact ok_read_item hb F T ⟨fI, dI, _, ok_R_init FI T C_tokens c_fail, MI, bI⟩ c_fail c_ended c_item
end

end Sn

namespace Sn
open PySem PySem.Spec PyProof.Rows L2 TL
/-! ### the law's own tokens -/
def spLRun : Sp := fun vs H Q _ => ∃ (z : Str) (i c : Nat), vs = [.str z, .int (i : Int)] ∧ (tl z)[i]? = some c ∧ z.length ≤ 1000000 ∧ Q (.int (((if isD c = true then run isD (tl z) i else run isW (tl z) i) : Nat) : Int)) H
section
variable {P : Program} {w : World} {K : PySem.W.Frag} {mg : Str → Option Value} {base : Heap} {f : Addr} {fd : FuncData} {aW : Addr} {tS : PySem.Tok}
abbrev s_lLetter : Stmt := topS 49
abbrev N_lLetter : List Str := ["char"]
theorem sc_lLetter : FnScope N_lLetter ["char"] (defScope s_lLetter) := ⟨rfl, rfl, rfl, by decide +kernel, rfl, by decide +kernel, by decide +kernel⟩
theorem ok_lLetter (F : Fun K "_law_is_letter" "_law_is_letter" s_lLetter f fd) : FnOk P w K mg base CX0 1 f fd ["char"] (spLet isL) := by
  refine F.ok sc_lLetter (fun vs H Q E h => ?_) (fun cdv A outer s H vs Q E hr h => ?_)
  · obtain ⟨c, rfl, _⟩ := h
    rfl
  obtain ⟨c, rfl, q⟩ := h
  refine ⟨_, (pss_one (ps_ret (pe_or (pe_chain op_le_str op_le_str pe_str (pv 0) pe_str) (pe_one (pe_chain op_le_str op_le_str pe_str (pv 0) pe_str))))), ?_⟩
  exact letter_read rfl q
abbrev s_lDigit : Stmt := topS 50
abbrev N_lDigit : List Str := ["char"]
theorem sc_lDigit : FnScope N_lDigit ["char"] (defScope s_lDigit) := ⟨rfl, rfl, rfl, by decide +kernel, rfl, by decide +kernel, by decide +kernel⟩
theorem ok_lDigit (F : Fun K "_law_is_digit" "_law_is_digit" s_lDigit f fd) : FnOk P w K mg base CX0 1 f fd ["char"] (spLet isD) := by
  refine F.ok sc_lDigit (fun vs H Q E h => ?_) (fun cdv A outer s H vs Q E hr h => ?_)
  · obtain ⟨c, rfl, _⟩ := h
    rfl
  obtain ⟨c, rfl, q⟩ := h
  refine ⟨_, (pss_one (ps_ret (pe_chain op_le_str op_le_str pe_str (pv 0) pe_str))), ?_⟩
  exact digit_read rfl q
theorem drop_get {l : List Nat} {i j : Nat} : (l.drop i)[j]? = l[i + j]? := List.getElem?_drop
abbrev s_lRun : Stmt := topS 51
abbrev N_lRun : List Str := ["text", "at", "end", "char"]
theorem sc_lRun : FnScope N_lRun ["text", "at"] (defScope s_lRun) := ⟨rfl, rfl, rfl, by decide +kernel, rfl, by decide +kernel, by decide +kernel⟩
theorem ok_lRun (F : Fun K "_law_run" "_law_run" s_lRun f fd) (C_law_is_letter : Cal P w K mg base CX0 1 "_law_is_letter" (spLet isL)) (C_law_is_digit : Cal P w K mg base CX0 1 "_law_is_digit" (spLet isD)) : FnOk P w K mg base CX0 2 f fd ["text", "at"] spLRun := by
  refine F.ok sc_lRun (fun vs H Q E h => ?_) (fun cdv A outer s H vs Q E hr h => ?_)
  · obtain ⟨z, i, c, rfl, _⟩ := h
    rfl
  obtain ⟨z, i, c, rfl, hc, hz, q⟩ := h
  refine ⟨_, (pss_cons (ps_set (i := 2) sc_lRun.nd rfl (Or.inl rfl) (pv 1))
    (pss_cons (ps_if (pt_val (pe_c C_law_is_digit hr (by first | decide | omega) pass0 (pa_cons (pe_item_str (pv 0) (pv 1) (fun _ _ => rfl)) pa_nil))) (pss_cons (ps_for PassesOwn.never rfl (pi_str (pe_slice sl_str (pv 0) (po_some (pv 1)) po_none)) (pg_name (i := 3) sc_lRun.nd rfl (Or.inl rfl)) (pss_cons (ps_if (PW.pt (pw_and (pt_cmpR op_ge (pv 2) pe_int (nomark _)) (pw_and1 (pt_not (pt_val (pe_c C_law_is_digit hr (by first | decide | omega) pass0 (pa_cons (pv 3) pa_nil))))))) (pss_one (ps_ret (pv 2))) pss_nil)
    (pss_one (ps_set (i := 2) sc_lRun.nd rfl (Or.inl rfl) (pe_op op_add (pv 2) pe_int)))))
    (pss_one (ps_ret (pv 2)))) pss_nil)
    (pss_cons (ps_for PassesOwn.never rfl (pi_str (pe_slice sl_str (pv 0) (po_some (pv 1)) po_none)) (pg_name (i := 3) sc_lRun.nd rfl (Or.inl rfl)) (pss_cons (ps_if (PW.pt (pw_and (pt_not (pt_val (pe_c C_law_is_letter hr (by first | decide | omega) pass0 (pa_cons (pv 3) pa_nil)))) (pw_and (pt_not (pt_val (pe_c C_law_is_digit hr (by first | decide | omega) pass0 (pa_cons (pv 3) pa_nil)))) (pw_and1 (pt_cmpR op_ne (pv 3) pe_str (nomark _)))))) (pss_one (ps_ret (pv 2))) pss_nil)
    (pss_one (ps_set (i := 2) sc_lRun.nd rfl (Or.inl rfl) (pe_op op_add (pv 2) pe_int)))))
    (pss_one (ps_ret (pv 2)))))), ?_⟩
  have e := len_tl z
  have hi := toNat_lt hc
  obtain ⟨i1, i2, i3, i4⟩ := item_of hc hz
  refine ⟨_, rfl, _, rfl, _, rfl, z, (i : Int), c, rfl, rfl, i1, i2, i3, i4, c, rfl, _, rfl, ?_⟩
  have hx := tl_cut_from z i
  have hxl : (cutS z (some (i : Int)) none).cps.toList.length = (tl z).length - i := by
    show (tl (cutS z (some (i : Int)) none)).length = _
    rw [hx, List.length_drop]
  by_cases w1 : isD c = true
  · rw [w1]
    rw [if_pos w1] at q
    refine ⟨_, rfl, _, rfl, _, rfl, z, rfl, small hz, _, rfl, ?_⟩
    generalize cutS z (some (i : Int)) none = x at hx hxl ⊢
    refine for_str (x := x) (fun j σ H' => H' = H ∧ ∃ v, σ = [some (.str z), some (.int (i : Int)), some (.int ((i + j : Nat) : Int)), v] ∧ run isD (tl z) i = run isD (tl z) (i + j)) ⟨rfl, none, rfl, rfl⟩ ?_ ?_
    · rintro j d σ H' hj ⟨rfl, v, rfl, hr⟩
      have hg : (tl z)[i + j]? = some d := by
        rw [← drop_get, ← hx]
        exact hj
      refine ⟨_, rfl, _, _, rfl, rfl, _, rfl, iteP (by omega) ?_⟩
      refine ⟨_, rfl, d, rfl, _, rfl, ?_⟩
      by_cases w2 : isD d = true
      · rw [w2]
        refine ⟨_, rfl, _, _, rfl, rfl, rfl, _, rfl, ?_⟩
        rw [hr, run_step hg w2]
        rfl
      · have w2 := Bool.eq_false_iff.mpr w2
        rw [w2]
        refine ⟨_, rfl, ?_⟩
        rw [hr, run_stop hg w2] at q
        exact q
    · rintro σ H' ⟨rfl, v, rfl, hr⟩
      rw [hxl, show i + ((tl z).length - i) = (tl z).length by omega] at *
      rw [hr, run_end (Nat.le_refl _)] at q
      exact ⟨_, rfl, q⟩
  · have w1 := Bool.eq_false_iff.mpr w1
    rw [w1]
    rw [w1, if_neg Bool.false_ne_true] at q
    refine ⟨_, rfl, _, rfl, _, rfl, z, rfl, small hz, _, rfl, ?_⟩
    generalize cutS z (some (i : Int)) none = x at hx hxl ⊢
    refine for_str (x := x) (fun j σ H' => H' = H ∧ ∃ v, σ = [some (.str z), some (.int (i : Int)), some (.int ((i + j : Nat) : Int)), v] ∧ run isW (tl z) i = run isW (tl z) (i + j)) ⟨rfl, none, rfl, rfl⟩ ?_ ?_
    · rintro j d σ H' hj ⟨rfl, v, rfl, hr⟩
      have hg : (tl z)[i + j]? = some d := by
        rw [← drop_get, ← hx]
        exact hj
      have go : isW d = true → H' = H' ∧ ∃ v', [some (V.str z), some (.int (i : Int)), some (.int (((i + j : Nat) : Int) + 1)), some (.str ⟨#[d]⟩)] = [some (V.str z), some (.int (i : Int)), some (.int ((i + (j + 1) : Nat) : Int)), v'] ∧ run isW (tl z) i = run isW (tl z) (i + (j + 1)) := fun hw => by
        refine ⟨rfl, _, rfl, ?_⟩
        rw [hr, run_step hg hw]
        rfl
      refine ⟨_, rfl, d, rfl, _, rfl, ?_⟩
      by_cases w2 : isL d = true
      · rw [w2]
        refine ⟨_, rfl, _, _, rfl, rfl, go (by unfold isW; rw [w2]; rfl)⟩
      have w2 := Bool.eq_false_iff.mpr w2
      rw [w2]
      refine ⟨_, rfl, d, rfl, _, rfl, ?_⟩
      by_cases w3 : isD d = true
      · rw [w3]
        refine ⟨_, rfl, _, _, rfl, rfl, go (by unfold isW; rw [w3, Bool.true_or, Bool.or_true])⟩
      have w3 := Bool.eq_false_iff.mpr w3
      rw [w3]
      refine ⟨_, rfl, rfl, _, rfl, ?_⟩
      rw [s_us]
      by_cases w4 : d = 95
      · refine iteNS (one5.mpr w4) ?_
        exact ⟨_, rfl, _, _, rfl, rfl, go (by rw [w4]; rfl)⟩
      · refine iteNN (fun k => w4 (one5.mp k)) ?_
        refine ⟨_, rfl, ?_⟩
        rw [hr, run_stop hg (by unfold isW; rw [w2, w3]; simpa using w4)] at q
        exact q
    · rintro σ H' ⟨rfl, v, rfl, hr⟩
      rw [hxl, show i + ((tl z).length - i) = (tl z).length by omega] at *
      rw [hr, run_end (Nat.le_refl _)] at q
      exact ⟨_, rfl, q⟩
abbrev s_lToken : Stmt := topS 52
abbrev N_lToken : List Str := ["text", "at", "words", "char", "end"]
theorem sc_lToken : FnScope N_lToken ["text", "at"] (defScope s_lToken) := ⟨rfl, rfl, rfl, by decide +kernel, rfl, by decide +kernel, by decide +kernel⟩
def pcs_lToken_1 : List Str := ["\x69mport", "data", "trait", "with", "impl", "for", "def", "let", "in", "if", "then", "else", "loop"]
def pcs_lToken_2 : List Str := ["times", "do", "not", "and", "or", "True", "False"]
theorem pcs_words : pcs_lToken_1 ++ pcs_lToken_2 = wds := by decide +kernel
theorem ok_lToken (F : Fun K "_law_token" "_law_token" s_lToken f fd) (T : Nm mg) (C_law_is_letter : Cal P w K mg base CX0 1 "_law_is_letter" (spLet isL)) (C_law_is_digit : Cal P w K mg base CX0 1 "_law_is_digit" (spLet isD)) (C_law_run : Cal P w K mg base CX0 2 "_law_run" spLRun) :
    FnOk P w K mg base CX0 3 f fd ["text", "at"] spTokAt := by
  refine F.ok sc_lToken (fun vs H Q E h => ?_) (fun cdv A outer s H vs Q E hr h => ?_)
  · obtain ⟨z, i, c, rfl, _⟩ := h
    rfl
  obtain ⟨z, i, c, rfl, hc, hz, q⟩ := h
  refine ⟨_, (pss_cons (ps_set (i := 2) sc_lToken.nd rfl (Or.inl rfl) (pe_lst (pa_strs pcs_lToken_1)))
    (pss_cons (ps_set (i := 2) sc_lToken.nd rfl (Or.inl rfl) (pe_op op_cat (pv 2) (pe_lst (pa_strs pcs_lToken_2))))
    (pss_cons (ps_set (i := 3) sc_lToken.nd rfl (Or.inl rfl) (pe_item_str (pv 0) (pv 1) (fun _ _ => rfl)))
    (pss_cons (ps_if (pt_val (pe_c C_law_is_letter hr (by first | decide | omega) pass0 (pa_cons (pv 3) pa_nil))) (pss_cons (ps_set (i := 4) sc_lToken.nd rfl (Or.inl rfl) (pe_c C_law_run hr (by first | decide | omega) pass0 (pa_cons (pv 0) (pa_cons (pv 1) pa_nil))))
    (pss_one (ps_ret (pe_tup (pa_cons (pe_ifExp (pt_cmpR op_in_seq (pe_slice sl_str (pv 0) (po_some (pv 1)) (po_some (pv 4))) (pv 2) (by rfl)) pe_str pe_str) (pa_cons (pv 1) (pa_cons (pv 4) pa_nil))))))) pss_nil)
    (pss_cons (ps_if (pt_val (pe_c C_law_is_digit hr (by first | decide | omega) pass0 (pa_cons (pv 3) pa_nil))) (pss_one (ps_ret (pe_tup (pa_cons pe_str (pa_cons (pv 1) (pa_cons (pe_c C_law_run hr (by first | decide | omega) pass0 (pa_cons (pv 0) (pa_cons (pv 1) pa_nil))) pa_nil)))))) pss_nil)
    (pss_cons (ps_if (pt_cmpR op_eq (pe_slice sl_str (pv 0) (po_some (pv 1)) (po_some (pe_op op_add (pv 1) pe_int))) pe_str (nomark _)) (pss_one (ps_ret (pe_tup (pa_cons pe_str (pa_cons (pv 1) (pa_cons (pe_op op_add (pv 1) pe_int) pa_nil)))))) pss_nil)
    (pss_one (ps_ret (pe_tup (pa_cons (pe_ifExp (pt_cmpR op_in_sign (pv 3) pe_str (by rfl)) pe_str pe_str) (pa_cons (pv 1) (pa_cons (pe_op op_add (pv 1) pe_int) pa_nil)))))))))))), ?_⟩
  have e := len_tl z
  have hi := toNat_lt hc
  obtain ⟨i1, i2, i3, i4⟩ := item_of hc hz
  refine ⟨(by show 13 ≤ sizeLine; decide), fun l1 n1 => ?_⟩
  refine ⟨_, rfl, (by show 7 ≤ sizeLine; decide), fun l2 n2 => ?_⟩
  have e1 : upd (upd H l1 (.lst (pcs_lToken_1.map V.str))) l2 (.lst (pcs_lToken_2.map V.str)) l1 = some (.lst (pcs_lToken_1.map V.str)) := by
    rw [upd_ne (ne_of_none upd_same n2), upd_same]
  refine ⟨l1, l2, _, _, rfl, rfl, e1, upd_same, (by show 20 ≤ sizeLine; decide), fun p np => ?_⟩
  have b1 : Same H (upd (upd (upd H l1 (.lst (pcs_lToken_1.map V.str))) l2 (.lst (pcs_lToken_2.map V.str))) p (.lst (pcs_lToken_1.map V.str ++ pcs_lToken_2.map V.str))) := ((same_new n1).trans (same_new n2)).trans (same_new np)
  have hp : upd (upd (upd H l1 (.lst (pcs_lToken_1.map V.str))) l2 (.lst (pcs_lToken_2.map V.str))) p (.lst (pcs_lToken_1.map V.str ++ pcs_lToken_2.map V.str)) p = some (.lst (wds.map V.str)) := by
    rw [upd_same, ← List.map_append, pcs_words]
  show tSeq _ _ _ _ (upd (upd (upd H l1 (.lst (pcs_lToken_1.map V.str))) l2 (.lst (pcs_lToken_2.map V.str))) p (.lst (pcs_lToken_1.map V.str ++ pcs_lToken_2.map V.str)))
  generalize upd (upd (upd H l1 (.lst (pcs_lToken_1.map V.str))) l2 (.lst (pcs_lToken_2.map V.str))) p (.lst (pcs_lToken_1.map V.str ++ pcs_lToken_2.map V.str)) = H1 at b1 hp ⊢
  have fin : ∀ (x : Tok) (p : Addr), tokC (tl z) i c = x → H1 p = none → Q (.ref p) (upd H1 p (.tup (tkV x))) := fun x p ex np => q p _ (b1.trans (same_new np)) (b1.free np) (by rw [upd_same, ex])
  refine ⟨_, rfl, _, rfl, z, (i : Int), c, rfl, rfl, i1, i2, i3, i4, ?_⟩
  refine ⟨_, rfl, c, rfl, _, rfl, ?_⟩
  have nd : isL c = true → isD c = false := fun h => by
    unfold isL at h
    unfold isD
    rw [Bool.and_eq_false_iff, decide_eq_false_iff_not, decide_eq_false_iff_not]
    simp only [Bool.or_eq_true, Bool.and_eq_true, decide_eq_true_eq] at h
    omega
  by_cases w1 : isL c = true
  · rw [w1]
    refine ⟨_, rfl, _, rfl, z, i, c, rfl, hc, hz, ?_⟩
    rw [nd w1, if_neg Bool.false_ne_true]
    have r1 := run_ge isW (tl z) i
    refine ⟨_, rfl, _, rfl, _, rfl, _, rfl, _, rfl, z, rfl, small hz, _, rfl, p, _, rfl, .inl (.inl (.inl hp)), rfl, wds_flat, _, rfl, ?_⟩
    rw [cut_eq z i _ (by omega)]
    have ex := tok_L (l := tl z) (i := i) w1
    refine ite2 (fun k => ?_) (fun k => ?_)
    · have k : inV (.str (strL (((tl z).drop i).take (run isW (tl z) i - i)))) (wds.map V.str) = true := k
      rw [if_pos k] at ex
      exact ⟨_, rfl, _, rfl, (by show 3 ≤ sizeLine; decide), fun p np => fin _ p ex np⟩
    · have k : ¬ inV (.str (strL (((tl z).drop i).take (run isW (tl z) i - i)))) (wds.map V.str) = true := k
      rw [if_neg k] at ex
      exact ⟨_, rfl, _, rfl, (by show 3 ≤ sizeLine; decide), fun p np => fin _ p ex np⟩
  have w1 := Bool.eq_false_iff.mpr w1
  rw [w1]
  refine ⟨_, rfl, c, rfl, _, rfl, ?_⟩
  by_cases w2 : isD c = true
  · rw [w2]
    refine ⟨_, rfl, _, rfl, _, rfl, z, i, c, rfl, hc, hz, (by show 3 ≤ sizeLine; decide), fun p np => ?_⟩
    rw [if_pos w2]
    exact fin _ p (tok_D w1 w2) np
  have w2 := Bool.eq_false_iff.mpr w2
  rw [w2]
  refine ⟨_, rfl, _, rfl, _, rfl, _, rfl, _, _, rfl, rfl, _, rfl, z, rfl, small hz, rfl, _, rfl, ?_⟩
  dsimp only
  rw [show (i : Int) + 2 = ((i + 2 : Nat) : Int) by omega, cut_eq z i _ (by omega), show i + 2 - i = 2 by omega, s_eq2]
  by_cases w3 : ((tl z).drop i).take 2 = [61, 61]
  · refine iteP (str_L.mpr w3) ?_
    exact ⟨_, rfl, _, rfl, _, _, rfl, rfl, (by show 3 ≤ sizeLine; decide), fun p np => fin _ p (tok_E w1 w2 w3) np⟩
  · refine iteN (fun k => w3 (str_L.mp k)) ?_
    refine ⟨_, rfl, c, sgs, rfl, rfl, _, rfl, ?_⟩
    have ex := tok_S w1 w2 w3
    by_cases w4 : c ∈ tl sgs
    · rw [if_pos w4] at ex
      refine iteP w4 ?_
      exact ⟨_, rfl, _, rfl, _, _, rfl, rfl, (by show 3 ≤ sizeLine; decide), fun p np => fin _ p ex np⟩
    · rw [if_neg w4] at ex
      refine iteN w4 ?_
      exact ⟨_, rfl, _, rfl, _, _, rfl, rfl, (by show 3 ≤ sizeLine; decide), fun p np => fin _ p ex np⟩
theorem scan_cons {l s : List Nat} {c a b : Nat} {cm : Bool} : scan l (c :: s) a b cm = if a < b ∨ (cm = true ∧ c ≠ 10) ∨ c = 32 ∨ c = 10 then scan l s (a + 1) b (cm && c != 10) else if c = 35 then scan l s (a + 1) b true else tokC l a c :: scan l s (a + 1) (tokC l a c).2.2 false := rfl
abbrev s_lTokens : Stmt := topS 53
abbrev N_lTokens : List Str := ["text", "result", "behind", "comment", "at", "char"]
theorem sc_lTokens : FnScope N_lTokens ["text"] (defScope s_lTokens) := ⟨rfl, rfl, rfl, by decide +kernel, rfl, by decide +kernel, by decide +kernel⟩
theorem ok_lTokens (F : Fun K "_law_tokens" "_law_tokens" s_lTokens f fd) (T : Nm mg) (C_law_token : Cal P w K mg base CX0 3 "_law_token" spTokAt) : FnOk P w K mg base CX0 4 f fd ["text"] spTokens := by
  refine F.ok sc_lTokens (fun vs H Q E h => ?_) (fun cdv A outer s H vs Q E hr h => ?_)
  · obtain ⟨z, rfl, _⟩ := h
    rfl
  obtain ⟨z, rfl, hz, q⟩ := h
  refine ⟨_, (pss_cons (ps_set (i := 1) sc_lTokens.nd rfl (Or.inl rfl) (pe_lst pa_nil))
    (pss_cons (ps_set (i := 2) sc_lTokens.nd rfl (Or.inl rfl) pe_int)
    (pss_cons (ps_set (i := 3) sc_lTokens.nd rfl (Or.inl rfl) pe_bl)
    (pss_cons (ps_for PassesOwn.never rfl (pi_range1 (by rfl) T.range (pa_cons (pe_callB call_len_str (by rfl) T.len PySem.boot_len (pa_cons (pv 0) pa_nil)) pa_nil)) (pg_name (i := 4) sc_lTokens.nd rfl (Or.inl rfl)) (pss_cons (ps_set (i := 5) sc_lTokens.nd rfl (Or.inl rfl) (pe_item_str (pv 0) (pv 4) (fun _ _ => rfl)))
    (C8.pss_cut (ps_if (pt_cmpR op_eq (pv 5) pe_str (nomark _)) (pss_one (ps_set (i := 3) sc_lTokens.nd rfl (Or.inl rfl) pe_bl)) pss_nil)
    (pss_cons (ps_if (PW.pt (pw_or (pt_cmpR op_lt (pv 4) (pv 2) (nomark _)) (pw_or (pt_val (pv 3)) (pw_or (pt_cmpR op_eq (pv 5) pe_str (nomark _)) (pw_or1 (pt_cmpR op_eq (pv 5) pe_str (nomark _))))))) (pss_one ps_continue) pss_nil)
    (pss_one (ps_if (pt_cmpR op_eq (pv 5) pe_str (nomark _)) (pss_one (ps_set (i := 3) sc_lTokens.nd rfl (Or.inl rfl) pe_bl)) (pss_cons (ps_expr (pe_bm PySem.F.plainAttrs_list PySem.F.slot_list_append PySem.F.type_list_append mt_append (pv 1) (pa_cons (pe_c C_law_token hr (by first | decide | omega) pass0 (pa_cons (pv 0) (pa_cons (pv 4) pa_nil))) pa_nil)))
    (pss_one (ps_set (i := 2) sc_lTokens.nd rfl (Or.inl rfl) (pe_ix (r := rIxT K) ix_tup (pe_ix (r := rIxL K) ix_list (pv 1) (pe_un un_neg pe_int) (fun _ _ => rfl)) pe_int (fun _ _ => rfl)))))))))))
    (pss_one (ps_ret (pv 1))))))), ?_⟩
  have e := len_tl z
  refine ⟨Nat.zero_le _, fun L nL => ?_⟩
  refine ⟨_, rfl, z, rfl, small hz, (z.length : Int), rfl, by omega, by omega, ?_⟩
  refine for_range (lo := 0) (n := ((z.length : Nat) : Int).toNat) (fun i σ H' => ∃ (b : Nat) (cm : Bool) (pre : List Tok) (v4 v5 : Option V), σ = [some (.str z), some (.ref L), some (.int (b : Int)), some (.bl cm), v4, v5] ∧ Same H H' ∧ LT H' L (pre.map tkV) ∧ toks (tl z) 0 (tl z).length = pre ++ scan (tl z) ((tl z).drop i) i b cm)
    ⟨0, false, [], none, none, rfl, same_new nL, ⟨[], upd_same, rfl, fun _ _ _ h _ => by simp at h⟩, by unfold toks; rw [List.take_length, List.drop_zero]; rfl⟩ ?_ ?_
  · rintro i σ H1 hi ⟨b, cm, pre, v4, v5, rfl, sm, lt, ht⟩
    have hil : i < (tl z).length := by omega
    have hg := List.getElem?_eq_getElem hil
    have hd := List.drop_eq_getElem_cons hil
    rw [hd, scan_cons] at ht
    generalize (tl z)[i] = c at hg ht
    obtain ⟨i1, i2, i3, i4⟩ := item_of hg hz
    have ei : (0 : Int) + (i : Nat) = (i : Int) := Int.zero_add _
    rw [ei]
    refine ⟨_, rfl, _, rfl, z, (i : Int), c, rfl, rfl, i1, i2, i3, i4, ?_⟩
    refine ⟨fun σ H' => H' = H1 ∧ σ = [some (.str z), some (.ref L), some (.int (b : Int)), some (.bl (cm && c != 10)), some (.int (i : Int)), some (.str ⟨#[c]⟩)], ?_, ?_⟩
    · refine ⟨_, rfl, rfl, _, rfl, ?_⟩
      rw [s_nl]
      by_cases h10 : c = 10
      · refine iteP (one5.mpr h10) ⟨rfl, ?_⟩
        rw [h10]
        show _ = [_, _, _, some (V.bl (cm && false)), _, _]
        rw [Bool.and_false]
        rfl
      · refine iteN (fun k => h10 (one5.mp k)) ⟨rfl, ?_⟩
        have : (c != 10) = true := by simpa using h10
        rw [this, Bool.and_true]
        rfl
    rintro σ H2 ⟨rfl, rfl⟩
    have skip : (i < b ∨ (cm = true ∧ c ≠ 10) ∨ c = 32 ∨ c = 10) → ∃ (b' : Nat) (cm' : Bool) (pre' : List Tok) (v4' v5' : Option V), [some (V.str z), some (.ref L), some (.int (b : Int)), some (.bl (cm && c != 10)), some (.int (i : Int)), some (.str ⟨#[c]⟩)] = [some (V.str z), some (.ref L), some (.int (b' : Int)), some (.bl cm'), v4', v5'] ∧ Same H H2 ∧ LT H2 L (pre'.map tkV) ∧
        toks (tl z) 0 (tl z).length = pre' ++ scan (tl z) ((tl z).drop (i + 1)) (i + 1) b' cm' := fun k => by
      rw [if_pos k] at ht
      exact ⟨b, _, pre, _, _, rfl, sm, lt, ht⟩
    have ccm : (cm && c != 10) = true ↔ (cm = true ∧ c ≠ 10) := by
      rw [Bool.and_eq_true]
      simp
    refine ⟨_, rfl, _, rfl, _, _, rfl, rfl, _, rfl, ?_⟩
    by_cases k1 : i < b
    · exact iteP (by omega) (skip (.inl k1))
    refine iteN (by omega) ⟨_, rfl, _, rfl, ?_⟩
    by_cases k2 : (cm && c != 10) = true
    · have := skip (.inr (.inl (ccm.mp k2)))
      rw [k2] at this ⊢
      exact this
    have k2' := Bool.eq_false_iff.mpr k2
    rw [k2'] at skip ⊢
    refine ⟨_, rfl, rfl, _, rfl, ?_⟩
    rw [s_sp, s_nl, s_ha]
    by_cases k3 : c = 32
    · exact iteP (one5.mpr k3) (skip (.inr (.inr (.inl k3))))
    refine iteN (fun k => k3 (one5.mp k)) ?_
    refine ⟨_, rfl, rfl, _, rfl, ?_⟩
    by_cases k4 : c = 10
    · exact iteP (one5.mpr k4) (skip (.inr (.inr (.inr k4))))
    refine iteN (fun k => k4 (one5.mp k)) ?_
    have no : ¬ (i < b ∨ (cm = true ∧ c ≠ 10) ∨ c = 32 ∨ c = 10) := fun k => k.elim k1 fun k => k.elim (fun k => k2 (ccm.mpr k)) fun k => k.elim k3 k4
    rw [if_neg no] at ht
    refine ⟨_, rfl, rfl, _, rfl, ?_⟩
    by_cases k5 : c = 35
    · rw [if_pos k5] at ht
      refine iteP (one5.mpr k5) ?_
      exact ⟨b, true, pre, _, _, rfl, sm, lt, ht⟩
    rw [if_neg k5] at ht
    refine iteN (fun k => k5 (one5.mp k)) ?_
    obtain ⟨rs0, h0, _⟩ := id lt
    refine ⟨_, rfl, .inl ⟨rfl, _, SqL.of h0⟩, _, rfl, _, rfl, z, i, c, rfl, hg, hz, fun p H3 s3 np hp => ?_⟩
    obtain ⟨ys, h1, h2, h3⟩ := (lt.same s3).push hp
    have tlen := toks_len (l := tl z) (a := 0) (e := (tl z).length)
    have plen : pre.length ≤ (toks (tl z) 0 (tl z).length).length := by
      rw [ht, List.length_append]
      omega
    have Lp : p ≠ L := ne_of hp h1 (by intro z; cases z)
    refine ⟨L, ys, _, rfl, rfl, h1, Nat.lt_of_le_of_lt (show ys.length ≤ 1000000 by rw [h2, List.length_map]; omega) (by decide), ?_⟩
    refine ⟨_, rfl, _, rfl, L, _, _, _, rfl, rfl, .inl (.inl upd_same), atI_last _ _, p, _, 2, _, rfl, rfl, .inl (.inl (by rw [upd_ne Lp]; exact hp)), rfl, ?_⟩
    refine ⟨(tokC (tl z) i c).2.2, false, pre ++ [tokC (tl z) i c], _, _, rfl, fun b o eb => ?_, ?_, ?_⟩
    · rw [upd_ne (ne_of_none eb nL)]
      exact s3 _ _ (sm _ _ eb)
    · rw [List.map_append]
      exact h3
    · rw [ht, List.append_assoc]
      rfl
  · rintro σ H1 ⟨b, cm, pre, v4, v5, rfl, sm, lt, ht⟩
    rw [show ((z.length : Nat) : Int).toNat = (tl z).length by omega, List.drop_length] at ht
    have ht2 : toks (tl z) 0 (tl z).length = pre := by
      rw [ht]
      show pre ++ [] = pre
      rw [List.append_nil]
    rw [← ht2] at lt
    exact ⟨_, rfl, q L H1 sm nL lt⟩
end

end Sn

namespace Sn
open PySem PySem.Spec PyProof.Rows L2 TL
/-! ### the law's printing: one word -/
/-- the pen: a tape at t, and a text of these words at o -/
def Pn (H : Hp) (t c o : Addr) (ws : List Wd) : Prop := Tp H t c ∧ ∃ z : Str, H o = some (.dK [(.inr "text", .str z)]) ∧ TX (tl z) ws
def But2 (t o : Addr) (H H' : Hp) : Prop := ∀ b x, b ≠ t → b ≠ o → H b = some x → H' b = some x
section
variable {H H1 H2 : Hp} {t c o b : Addr} {ws : List Wd}
theorem But2.refl : But2 t o H H := fun _ _ _ _ h => h
theorem But2.trans (a : But2 t o H H1) (e : But2 t o H1 H2) : But2 t o H H2 := fun c x n m h => e c x n m (a c x n m h)
theorem But2.of (s : Same H H1) : But2 t o H H1 := fun b x _ _ h => s b x h
theorem But2.tape (s : But t H H1) : But2 t o H H1 := fun b x n _ h => s b x n h
theorem But2.out {x : HO} : But2 t o H (upd H o x) := fun b y _ m h => by rw [upd_ne m]; exact h
theorem tx_ne (T : Tp H t c) {z : Str} (h : H o = some (.dK [(.inr "text", .str z)])) : o ≠ t ∧ o ≠ c := by
  obtain ⟨cs, a, l, se, sa, k⟩ := T
  refine ⟨fun e => ?_, fun e => ?_⟩
  · rw [e, k.d] at h
    have h := Option.some.inj h
    injection h with h
    unfold tk at h
    simp at h
  · rw [e, k.cl] at h
    cases h
theorem Pn.same (s : Same H H1) (p : Pn H t c o ws) : Pn H1 t c o ws := ⟨p.1.same s, p.2.elim fun z h => ⟨z, s _ _ h.1, h.2⟩⟩
theorem Pn.take (s : But t H H1) (T : Tp H1 t c) (p : Pn H t c o ws) : Pn H1 t c o ws := ⟨T, p.2.elim fun z h => ⟨z, s _ _ (tx_ne p.1 h.1).1 h.1, h.2⟩⟩
theorem Pn.tups (s : But2 t o H H1) (p : Pn H t c o ws) : Tups H H1 := fun a vs h => by
  obtain ⟨T, z, hz, _⟩ := p
  exact s _ _ (T.ne h (by intro k e; cases e)) (ne_of h hz (by intro e; cases e)) h
theorem Pn.updL (p : Pn H t c o ws) {D : Addr} {vs : List V} {x : HO} (hD : H D = some (.lst vs)) (hc : D ≠ c) : Pn (upd H D x) t c o ws := by
  obtain ⟨T, z, hz, X⟩ := p
  exact ⟨T.upd (T.ne hD (by intro k e; cases e)).symm hc.symm, z, by rw [upd_ne (ne_of hz hD (by intro e; cases e))]; exact hz, X⟩
end
def isWL : Str := "abcdefghijklmnopqrstuvwxyz\x41BCDEFGHIJKLMNOPQRSTUVWXYZ0123456789_"
theorem in_wl (c : Nat) : decide (c ∈ isWL.cps.toList) = isW c := by
  by_cases h : c < 128
  · have k : ∀ c : Fin 128, decide ((c : Nat) ∈ isWL.cps.toList) = isW (c : Nat) := by decide +kernel
    exact k ⟨c, h⟩
  · have k : ∀ c ∈ isWL.cps.toList, c < 128 := by decide +kernel
    rw [decide_eq_false (fun e => h (k c e))]
    unfold isW isL isD
    symm
    simp
    omega
theorem last_cut (z : Str) : (tl z = [] ∧ cutS z (some (-1)) none = "") ∨ ∃ c, (tl z).getLast? = some c ∧ cutS z (some (-1)) none = ⟨#[c]⟩ := by
  have el := len_tl z
  rcases List.eq_nil_or_concat (tl z) with h | ⟨l, c, h⟩
  · refine .inl ⟨h, ext_tl ?_⟩
    rw [tl_cut, h]
    simp
    decide +kernel
  · rw [List.concat_eq_append] at h
    refine .inr ⟨c, by rw [h]; simp, ext_tl ?_⟩
    rw [tl_cut, h]
    rw [h, List.length_append, List.length_singleton] at el
    have e1 : HT.sIx z.length 0 (some (-1)) = l.length := by
      unfold HT.sIx
      simp
      omega
    have e2 : HT.sIx z.length z.length none = z.length := rfl
    rw [e1, e2, el, List.drop_left' rfl]
    simp
def spPut : Sp := fun vs H Q _ => ∃ (o : Addr) (z x : Str), vs = [.ref o, .str x] ∧ H o = some (.dK [(.inr "text", .str z)]) ∧ z.length + x.length ≤ 1000000 ∧ Q .non (upd H o (.dK [(.inr "text", .str (z ++ x))]))
def spGap : Sp := fun vs H Q _ => ∃ (t c o : Addr) (z : Str) (b : Bool), vs = [.ref t, .ref o, .bl b] ∧ Tp H t c ∧ H o = some (.dK [(.inr "text", .str z)]) ∧ z.length ≤ 100000 ∧
  ∀ (g : Str) H', Gp (tl g) → (tl g).length ≤ 15 → (b = true → tl g ≠ []) → But2 t o H H' → Tp H' t c → H' o = some (.dK [(.inr "text", .str (z ++ g))]) → Q .non H'
def spTok : Sp := fun vs H Q _ => ∃ (t c o : Addr) (x : Str) (ws : List Wd), vs = [.ref t, .ref o, .str x] ∧ Pn H t c o ws ∧ tkOk (tl x) = true ∧ (tl x).length ≤ 25 ∧ ws.length ≤ 2000 ∧
  ∀ (w : Wd) H', w.1 = tl x → Pn H' t c o (ws ++ [w]) → But2 t o H H' → Q (.int (w.2 : Int)) H'
def spName : Sp := fun vs H Q _ => ∃ (t c : Addr), vs = [.ref t] ∧ Tp H t c ∧ ∀ (x : Str) H', sortW (tl x) = "name" → tkOk (tl x) = true → (tl x).length ≤ 25 → But t H H' → Tp H' t c → Q (.str x) H'
theorem gp_note : Gp (tl (" # note)\n  " : Str)) := by
  have e : tl (" # note)\n  " : Str) = [32, 35, 32, 110, 111, 116, 101, 41, 10, 32, 32] := by decide +kernel
  rw [e]
  refine ⟨fun _ => ⟨32, _, rfl, .inl rfl⟩, fun L i rest h hi => ?_⟩
  obtain ⟨h1, h2, h3⟩ := drop_at (show L.drop i = 32 :: ([35, 32, 110, 111, 116, 101, 41] ++ 10 :: (32 :: 32 :: rest)) from h)
  rw [toks_blank (Nat.le_refl _) h2 h1 (.inl rfl), toks_comment [32, 110, 111, 116, 101, 41] (by decide) (by rw [h3]) h2]
  have h4 : L.drop (i + 1 + [32, 110, 111, 116, 101, 41].length + 1) = [10, 32, 32] ++ rest := by
    show L.drop (i + 1 + 6 + 1) = _
    rw [show i + 1 + 6 + 1 = i + 1 + 7 from rfl, ← List.drop_drop, h3]
    rfl
  have g3 : Gp [10, 32, 32] := gp_blank (.inr rfl) (gp_blank (.inl rfl) (gp_blank (.inl rfl) gp_nil))
  have hle : i + 1 + [32, 110, 111, 116, 101, 41].length + 1 ≤ L.length := by
    have := congrArg List.length h4
    rw [List.length_drop, List.length_append] at this
    simp at this ⊢
    omega
  rw [g3.2 L _ rest h4 hle]
  rfl
def gps : List Str := ["\x20", "", "  ", "\n ", " # note)\n  "]
def gpsV : List V := gps.map V.str
theorem gp_one : Gp (tl ("\x20" : Str)) := by rw [show tl ("\x20" : Str) = [32] by decide +kernel]; exact gp_blank (.inl rfl) gp_nil
theorem gps_at (k : Nat) (h : k < 5) : ∃ g : Str, gpsV[k]? = some (V.str g) ∧ Gp (tl g) ∧ (tl g).length ≤ 15 := by
  match k, h with
  | 0, _ => exact ⟨_, rfl, gp_one, by decide +kernel⟩
  | 1, _ => exact ⟨_, rfl, gp_nil, by decide +kernel⟩
  | 2, _ => exact ⟨_, rfl, by rw [show tl ("  " : Str) = [32, 32] by decide +kernel]; exact gp_blank (.inl rfl) (gp_blank (.inl rfl) gp_nil), by decide +kernel⟩
  | 3, _ => exact ⟨_, rfl, by rw [show tl ("\n " : Str) = [10, 32] by decide +kernel]; exact gp_blank (.inr rfl) (gp_blank (.inl rfl) gp_nil), by decide +kernel⟩
  | 4, _ => exact ⟨_, rfl, gp_note, by decide +kernel⟩
section
variable {P : Program} {w : World} {K : PySem.W.Frag} {mg : Str → Option Value} {base : Heap} {f : Addr} {fd : FuncData}
abbrev s_l_put : Stmt := topS 33
abbrev N_l_put : List Str := ["out", "string"]
theorem sc_l_put : FnScope N_l_put ["out", "string"] (defScope s_l_put) := ⟨rfl, rfl, rfl, by decide +kernel, rfl, by decide +kernel, by decide +kernel⟩
theorem ok_l_put (F : Fun K "_law_put" "_law_put" s_l_put f fd) (T : Nm mg) : FnOk P w K mg base CX0 1 f fd ["out", "string"] spPut := by
  refine F.ok sc_l_put (fun vs H Q E h => ?_) (fun cdv A outer s H vs Q E hr h => ?_)
  · obtain ⟨o, z, x, rfl, _⟩ := h
    rfl
  obtain ⟨o, z, x, rfl, ho, hl, q⟩ := h
  refine ⟨_, (pss_one (ps_dput (hu_of hr) (pv 0) pe_str (pe_op op_add_str (pe_dget (hu_of hr) (pv 0) pe_str (fun _ _ => rfl)) (pv 1)) rfl)), ?_⟩
  refine ⟨_, rfl, o, _, rfl, DGet.k (k := .inr "text") ho, _, rfl, _, _, rfl, rfl, small (by omega), _, rfl, o, _, rfl, DPut.k (k := .inr "text") ho (show 1 < sizeLine by decide), ?_⟩
  exact q
abbrev s_l_gap : Stmt := topS 34
abbrev N_l_gap : List Str := ["tape", "out", "needed", "gaps", "gap"]
theorem sc_l_gap : FnScope N_l_gap ["tape", "out", "needed"] (defScope s_l_gap) := ⟨rfl, rfl, rfl, by decide +kernel, rfl, by decide +kernel, by decide +kernel⟩
theorem ok_l_gap (F : Fun K "_law_gap" "_law_gap" s_l_gap f fd) (T : Nm mg) (C_law_take : Cal P w K mg base CX0 1 "_law_take" spTake) (C_law_put : Cal P w K mg base CX0 1 "_law_put" spPut) : FnOk P w K mg base CX0 2 f fd ["tape", "out", "needed"] spGap := by
  refine F.ok sc_l_gap (fun vs H Q E h => ?_) (fun cdv A outer s H vs Q E hr h => ?_)
  · obtain ⟨t, c, o, z, b, rfl, _⟩ := h
    rfl
  obtain ⟨t, c, o, z, b, rfl, T0, ho, hz, q⟩ := h
  refine ⟨_, (pss_cons (ps_set (i := 3) sc_l_gap.nd rfl (Or.inl rfl) (pe_lst (pa_cons pe_str (pa_cons pe_str (pa_cons pe_str (pa_cons pe_str (pa_cons pe_str pa_nil)))))))
    (pss_cons (ps_set (i := 4) sc_l_gap.nd rfl (Or.inl rfl) (pe_ix (r := rIxL K) ix_list (pv 3) (pe_op op_fdiv (pe_c C_law_take hr (by first | decide | omega) pass0 (pa_cons (pv 0) (pa_cons pe_int pa_nil))) pe_int) (fun _ _ => rfl)))
    (pss_cons (ps_if (PW.pt (pw_and (pt_val (pv 2)) (pw_and1 (pt_cmpR op_eq (pv 4) pe_str (nomark _))))) (pss_one (ps_set (i := 4) sc_l_gap.nd rfl (Or.inl rfl) pe_str)) pss_nil)
    (pss_one (ps_expr (pe_c C_law_put hr (by first | decide | omega) pass0 (pa_cons (pv 1) (pa_cons (pv 4) pa_nil)))))))), ?_⟩
  refine ⟨by decide, fun L nL => ?_⟩
  have s1 := same_new (o := .lst gpsV) nL
  have T1 := T0.new (o := .lst gpsV) nL
  have hL : upd H L (.lst gpsV) L = some (.lst gpsV) := upd_same
  refine ⟨_, rfl, _, rfl, t, c, 20, rfl, T1, by decide, by decide, fun r H1 h0 h1 b1 T2 => ?_⟩
  have h5 : r / 4 < 5 := by omega
  obtain ⟨k, ek⟩ : ∃ k : Nat, r / 4 = (k : Int) := ⟨(r / 4).toNat, by omega⟩
  obtain ⟨g, hg, g1, g2⟩ := gps_at k (by omega)
  have hL1 := b1 _ _ (T1.ne hL (by intro k e; cases e)) hL
  have b2 : But2 t o H H1 := (But2.of s1).trans (But2.tape b1)
  have ho1 : H1 o = some (.dK [(.inr "text", .str z)]) := b1 _ _ (tx_ne T0 ho).1 (s1 _ _ ho)
  have out : ∀ g : Str, Gp (tl g) → (tl g).length ≤ 15 → (b = true → tl g ≠ []) → ∃ (o' : Addr) (z' x' : Str), [V.ref o, V.str g] = [.ref o', .str x'] ∧ H1 o' = some (.dK [(.inr "text", .str z')]) ∧ z'.length + x'.length ≤ 1000000 ∧ Q .non (upd H1 o' (.dK [(.inr "text", .str (z' ++ x'))])) := by
    intro g k1 k2 k3
    have k2' : g.length ≤ 15 := k2
    refine ⟨o, z, g, rfl, ho1, by omega, q g _ k1 k2 k3 (b2.trans But2.out) (T2.upd (tx_ne T2 ho1).1.symm (tx_ne T2 ho1).2.symm) upd_same⟩
  refine ⟨_, _, rfl, rfl, (show (0:Int) < 4 ∧ (4:Int) < 1073741824 from ⟨by decide, by decide⟩), L, gpsV, _, _, rfl, rfl, SqL.of hL1, (by rw [ek]; exact at_of rfl hg), ?_⟩
  refine ⟨_, rfl, ?_⟩
  have em : ∀ g : Str, V.str g = V.str "" ↔ tl g = [] := fun g => ⟨fun e => by injection e with e; rw [e]; decide +kernel, fun e => congrArg V.str (ext_tl (by rw [e]; decide +kernel))⟩
  cases b with
  | false =>
    refine ⟨_, rfl, iteF ?_⟩
    exact ⟨_, rfl, _, rfl, out g g1 g2 (fun e => absurd e (by decide))⟩
  | true =>
    refine ⟨_, rfl, iteT ⟨_, rfl, rfl, _, rfl, ?_⟩⟩
    by_cases k0 : tl g = []
    · refine iteP ((em g).mpr k0) ?_
      exact ⟨_, rfl, _, rfl, out "\x20" gp_one (by decide +kernel) (fun _ => by decide +kernel)⟩
    · refine iteN (fun e => k0 ((em g).mp e)) ?_
      exact ⟨_, rfl, _, rfl, out g g1 g2 (fun _ => k0)⟩
abbrev s_l_token_out : Stmt := topS 35
abbrev N_l_token_out : List Str := ["tape", "out", "string", "last", "joins", "letters", "start"]
theorem sc_l_token_out : FnScope N_l_token_out ["tape", "out", "string"] (defScope s_l_token_out) := ⟨rfl, rfl, rfl, by decide +kernel, rfl, by decide +kernel, by decide +kernel⟩
theorem ok_l_tok (F : Fun K "_law_token_out" "_law_token_out" s_l_token_out f fd) (T : Nm mg) (C_law_gap : Cal P w K mg base CX0 2 "_law_gap" spGap) (C_law_put : Cal P w K mg base CX0 1 "_law_put" spPut) : FnOk P w K mg base CX0 3 f fd ["tape", "out", "string"] spTok := by
  refine F.ok sc_l_token_out (fun vs H Q E h => ?_) (fun cdv A outer s H vs Q E hr h => ?_)
  · obtain ⟨t, c, o, x, ws, rfl, _⟩ := h
    rfl
  obtain ⟨t, c, o, x, ws, rfl, ⟨T0, z, ho, X⟩, hx, h25, hw, q⟩ := h
  refine ⟨_, (pss_cons (ps_set (i := 3) sc_l_token_out.nd rfl (Or.inl rfl) (pe_slice sl_str (pe_dget (hu_of hr) (pv 1) pe_str (fun _ _ => rfl)) (po_some (pe_un un_neg pe_int)) po_none))
    (pss_cons (ps_set (i := 4) sc_l_token_out.nd rfl (Or.inl rfl) (pe_and (pe_cmpR op_ne (pv 3) pe_str (nomark _)) (pe_one (pe_cmpR op_in_sign (pv 3) pe_str (by rfl)))))
    (pss_cons (ps_set (i := 5) sc_l_token_out.nd rfl (Or.inl rfl) (pe_cmpR op_in_sign (pe_item_str (pv 2) pe_int (fun _ _ => rfl)) pe_str (by rfl)))
    (pss_cons (ps_if (pt_cmpR op_ne (pe_dget (hu_of hr) (pv 1) pe_str (fun _ _ => rfl)) pe_str (nomark _)) (pss_one (ps_expr (pe_c C_law_gap hr (by first | decide | omega) pass0 (pa_cons (pv 0) (pa_cons (pv 1) (pa_cons (pe_or (pe_and (pv 4) (pe_one (pv 5))) (pe_one (pe_and (pe_cmpR op_eq (pv 3) pe_str (nomark _)) (pe_one (pe_cmpR op_eq (pe_item_str (pv 2) pe_int (fun _ _ => rfl)) pe_str (nomark _)))))) pa_nil)))))) pss_nil)
    (pss_cons (ps_set (i := 6) sc_l_token_out.nd rfl (Or.inl rfl) (pe_callB call_len_str (by rfl) T.len PySem.boot_len (pa_cons (pe_dget (hu_of hr) (pv 1) pe_str (fun _ _ => rfl)) pa_nil)))
    (pss_cons (ps_expr (pe_c C_law_put hr (by first | decide | omega) pass0 (pa_cons (pv 1) (pa_cons (pv 2) pa_nil))))
    (pss_one (ps_ret (pv 6))))))))), ?_⟩
  have hX := X.len
  have hz : z.length ≤ 80000 := by rw [len_tl]; omega
  obtain ⟨y, r, ey, _, _⟩ := tk_head hx
  have hg := DGet.k (k := .inr "text") ho
  have hy0 : x.cps[(0 : Int).toNat]? = some y := by
    rw [← Array.getElem?_toList]
    show (tl x)[0]? = some y
    rw [ey]
    rfl
  have hx1 : (0 : Int) < (x.length : Int) := by
    rw [len_tl, ey, List.length_cons]
    omega
  have pz : ∀ (z1 g : Str) (H1 : Hp), z1 = z ++ g → Gp (tl g) → (tl g).length ≤ 15 → (tl g = [] → Jn (tl z) (tl x)) → But2 t o H H1 → Tp H1 t c → H1 o = some (.dK [(.inr "text", .str z1)]) → Q (.int ((z1.length : Nat) : Int)) (upd H1 o (.dK [(.inr "text", .str (z1 ++ x))])) := by
    intro z1 g H1 e1 k1 k2 k3 k4 k5 k6
    subst e1
    have el : (tl (z ++ g)).length = (tl z).length + (tl g).length := by rw [tl_append, List.length_append]
    have := q (tl x, (z ++ g).length) (upd H1 o (.dK [(.inr "text", .str (z ++ g ++ x))])) rfl ⟨k5.upd (tx_ne k5 k6).1.symm (tx_ne k5 k6).2.symm, z ++ g ++ x, upd_same, ?_⟩ (k4.trans But2.out)
    · exact this
    · rw [tl_append, tl_append, len_tl, el]
      exact X.put k1 hx k3 k2 h25
  refine ⟨_, rfl, o, _, rfl, hg, 1, rfl, _, rfl, z, rfl, small (by omega), ?_⟩
  rcases last_cut z with ⟨e0, e1⟩ | ⟨l, e0, e1⟩
  · rw [e1]
    have ez : z = "" := ext_tl (by rw [e0]; decide +kernel)
    refine ⟨_, rfl, rfl, _, rfl, iteNS rfl ?_⟩
    refine ⟨_, rfl, x, _, y, rfl, rfl, by decide, by decide, hx1, hy0, _, _, rfl, rfl, ?_⟩
    refine ⟨_, rfl, o, _, rfl, hg, rfl, _, rfl, iteNS (by rw [ez]) ?_⟩
    refine ⟨_, rfl, o, _, rfl, hg, z, rfl, small (by omega), ?_⟩
    have hx25 : x.length ≤ 25 := h25
    refine ⟨_, rfl, _, rfl, o, z, x, rfl, ho, by omega, _, rfl, ?_⟩
    exact pz z "" H (ext_tl (by rw [tl_append]; simp; decide +kernel)) gp_nil (by decide +kernel) (fun _ c d h => by rw [e0] at h; cases h) But2.refl T0 ho
  · rw [e1]
    refine ⟨_, rfl, rfl, _, rfl, iteNN (fun e => by injection e with e; have := congrArg tl e; rw [show tl ("" : Str) = [] by decide +kernel] at this; cases this) ?_⟩
    refine ⟨_, rfl, _, _, rfl, rfl, ?_⟩
    refine ⟨_, rfl, x, _, y, rfl, rfl, by decide, by decide, hx1, hy0, _, _, rfl, rfl, ?_⟩
    have hm1 := in_wl l
    have hm2 := in_wl y
    unfold isWL at hm1 hm2
    rw [hm1, hm2]
    have hzn : ¬ V.str z = V.str "" := fun e => by
      injection e with e
      rw [e] at e0
      rw [show tl ("" : Str) = [] by decide +kernel] at e0
      cases e0
    have s61 : ∀ u : Nat, decide (V.str (⟨#[u]⟩ : Str) = V.str "=") = (u == 61) := fun u => by
      by_cases k : u = 61
      · rw [k]; decide +kernel
      · rw [decide_eq_false (fun e => k (by
          injection e with e
          have := congrArg tl e
          rw [show tl ("=" : Str) = [61] by decide +kernel] at this
          injection this))]
        exact (beq_eq_false_iff_ne.mpr k).symm
    have jn : ∀ b : Bool, melt l y = b → ∀ g : Str, (b = true → tl g ≠ []) → tl g = [] → Jn (tl z) (tl x) := by
      intro b hb g k1 k2 u v h1 h2
      rw [e0] at h1
      rw [ey] at h2
      cases h1
      cases h2
      rw [hb]
      cases b with
      | false => rfl
      | true => exact absurd k2 (k1 rfl)
    refine ⟨_, rfl, o, _, rfl, hg, rfl, _, rfl, iteNN hzn ?_⟩
    refine ⟨_, rfl, _, rfl, ?_⟩
    cases hl : isW l with
    | true =>
      have l61 : (l == 61) = false := beq_eq_false_iff_ne.mpr (fun e => by rw [e] at hl; exact absurd hl (by decide))
      cases hy : isW y with
      | true =>
        refine ⟨_, rfl, _, rfl, iteT ⟨_, rfl, _, rfl, iteT ?_⟩⟩
        refine ⟨t, c, o, z, _, rfl, T0, ho, by omega, fun g H' k1 k2 k3 k4 k5 k6 => ?_⟩
        have l1 : (z ++ g).length = z.length + g.length := by rw [len_tl, tl_append, List.length_append]; rfl
        have l2 : g.length ≤ 15 := k2
        have l3 : x.length ≤ 25 := h25
        refine ⟨_, rfl, o, _, rfl, DGet.k (k := .inr "text") k6, _, rfl, small (by omega), _, rfl, _, rfl, o, _, x, rfl, k6, by omega, _, rfl, ?_⟩
        exact pz _ g H' rfl k1 k2 (jn _ (by unfold melt; rw [hl, hy]; rfl) _ k3) k4 k5 k6
      | false =>
        refine ⟨_, rfl, _, rfl, iteT ⟨_, rfl, _, rfl, iteF ?_⟩⟩
        refine ⟨_, rfl, rfl, _, rfl, ?_⟩
        rw [s61, l61]
        refine iteF ?_
        refine ⟨t, c, o, z, _, rfl, T0, ho, by omega, fun g H' k1 k2 k3 k4 k5 k6 => ?_⟩
        have l1 : (z ++ g).length = z.length + g.length := by rw [len_tl, tl_append, List.length_append]; rfl
        have l2 : g.length ≤ 15 := k2
        have l3 : x.length ≤ 25 := h25
        refine ⟨_, rfl, o, _, rfl, DGet.k (k := .inr "text") k6, _, rfl, small (by omega), _, rfl, _, rfl, o, _, x, rfl, k6, by omega, _, rfl, ?_⟩
        exact pz _ g H' rfl k1 k2 (jn _ (by unfold melt; rw [hl, hy, l61]; rfl) _ k3) k4 k5 k6
    | false =>
      refine ⟨_, rfl, _, rfl, iteF ⟨_, rfl, iteF ?_⟩⟩
      refine ⟨_, rfl, rfl, _, rfl, ?_⟩
      rw [s61]
      cases k61 : (l == 61) with
      | false =>
        refine iteF ?_
        refine ⟨t, c, o, z, _, rfl, T0, ho, by omega, fun g H' k1 k2 k3 k4 k5 k6 => ?_⟩
        have l1 : (z ++ g).length = z.length + g.length := by rw [len_tl, tl_append, List.length_append]; rfl
        have l2 : g.length ≤ 15 := k2
        have l3 : x.length ≤ 25 := h25
        refine ⟨_, rfl, o, _, rfl, DGet.k (k := .inr "text") k6, _, rfl, small (by omega), _, rfl, _, rfl, o, _, x, rfl, k6, by omega, _, rfl, ?_⟩
        exact pz _ g H' rfl k1 k2 (jn _ (by unfold melt; rw [hl, k61]; rfl) _ k3) k4 k5 k6
      | true =>
        refine iteT ⟨_, rfl, x, _, y, rfl, rfl, by decide, by decide, hx1, hy0, rfl, ?_⟩
        rw [s61]
        refine ⟨t, c, o, z, _, rfl, T0, ho, by omega, fun g H' k1 k2 k3 k4 k5 k6 => ?_⟩
        have l1 : (z ++ g).length = z.length + g.length := by rw [len_tl, tl_append, List.length_append]; rfl
        have l2 : g.length ≤ 15 := k2
        have l3 : x.length ≤ 25 := h25
        refine ⟨_, rfl, o, _, rfl, DGet.k (k := .inr "text") k6, _, rfl, small (by omega), _, rfl, _, rfl, o, _, x, rfl, k6, by omega, _, rfl, ?_⟩
        exact pz _ g H' rfl k1 k2 (jn _ (by unfold melt; rw [hl, k61]; rfl) _ k3) k4 k5 k6
end

end Sn

namespace Sn
open PySem PySem.Spec PyProof.Rows L2 TL
/-! ### the law's printing: leaves -/
/-- a tree is printed -/
def MkQ (t c o : Addr) (ws : List Wd) (pr : List Wd → Tn → Prop) (m dp : Nat) (H : Hp) (Q : VK) : Prop := ∀ H' nw tn v, pr nw tn → nw.length ≤ m → dep tn.d ≤ dp → DT H' tn.d v → Pn H' t c o (ws ++ nw) → But2 t o H H' → Q v H'
def spLeaf : Sp := fun vs H Q _ => ∃ (t c o : Addr) (n : Nat) (ws : List Wd), vs = [.ref t, .ref o, .int (n : Int)] ∧ Pn H t c o ws ∧ ws.length ≤ 2000 ∧ MkQ t c o ws RdD 1 1 H Q
def nmsL : List Str := ["\x61", "b", "f", "x1", "Point", "long_name", "y", "T", "iff", "Ints"]
theorem nms_ok : (nmsL.all fun z => decide (sortW (tl z) = "name") && (tkOk (tl z) && decide ((tl z).length ≤ 25))) = true := by decide +kernel
def dgs : List Str := ["\x30", "7", "007", "4294967295", "4294967297", "12345678901234567890"]
def dgn : List Int := [0, 7, 7, 4294967295, 4294967297, 12345678901234567890]
theorem dgs_ok : (dgs.all fun z => decide (sortW (tl z) = "number") && (tkOk (tl z) && decide ((tl z).length ≤ 25))) = true := by decide +kernel
theorem dgs_n : (List.zipWith (fun (z : Str) (n : Int) => decide (PySem.intText? z = some n) && decide (Src.numv (tl z) = n % 4294967296)) dgs dgn).all id = true := by decide +kernel
theorem dep_rest1 (a b : Str) (x y : Int) : dep (Tn.d ⟨a, x.toNat, y.toNat, [.str b]⟩) = 1 := rfl
section
variable {P : Program} {w : World} {K : PySem.W.Frag} {mg : Str → Option Value} {base : Heap} {f : Addr} {fd : FuncData}
abbrev s_l_some_name : Stmt := topS 36
abbrev N_l_some_name : List Str := ["tape", "names"]
theorem sc_l_some_name : FnScope N_l_some_name ["tape"] (defScope s_l_some_name) := ⟨rfl, rfl, rfl, by decide +kernel, rfl, by decide +kernel, by decide +kernel⟩
def pcs_l_some_name_1 : List Str := ["a", "b", "f", "x1", "Point", "long_name", "y", "T", "iff", "Ints"]
theorem ok_l_name (F : Fun K "_law_some_name" "_law_some_name" s_l_some_name f fd) (T : Nm mg) (C_law_take : Cal P w K mg base CX0 1 "_law_take" spTake) : FnOk P w K mg base CX0 2 f fd ["tape"] spName := by
  refine F.ok sc_l_some_name (fun vs H Q E h => ?_) (fun cdv A outer s H vs Q E hr h => ?_)
  · obtain ⟨t, c, rfl, _⟩ := h
    rfl
  obtain ⟨t, c, rfl, T0, q⟩ := h
  refine ⟨_, (pss_cons (ps_set (i := 1) sc_l_some_name.nd rfl (Or.inl rfl) (pe_lst (pa_strs pcs_l_some_name_1)))
    (pss_one (ps_ret (pe_ix (r := rIxL K) ix_list (pv 1) (pe_c C_law_take hr (by first | decide | omega) pass0 (pa_cons (pv 0) (pa_cons pe_int pa_nil))) (fun _ _ => rfl))))), ?_⟩
  refine ⟨by decide, fun L nL => ?_⟩
  have s1 := same_new (o := .lst (nmsL.map V.str)) nL
  have T1 := T0.new (o := .lst (nmsL.map V.str)) nL
  have hL : upd H L (.lst (nmsL.map V.str)) L = some (.lst (nmsL.map V.str)) := upd_same
  refine ⟨_, rfl, _, rfl, t, c, 10, rfl, T1, by decide, by decide, fun r H1 h0 h1 b1 T2 => ?_⟩
  have hL1 := b1 _ _ (T1.ne hL (by intro k e; cases e)) hL
  obtain ⟨k, rfl⟩ : ∃ k : Nat, r = (k : Int) := ⟨r.toNat, by omega⟩
  have hk : k < nmsL.length := by show k < 10; omega
  have g := List.getElem?_eq_getElem hk
  generalize nmsL[k] = z at g
  have ok := List.all_eq_true.mp nms_ok z (List.mem_of_getElem? g)
  rw [Bool.and_eq_true, Bool.and_eq_true] at ok
  refine ⟨L, _, _, _, rfl, rfl, SqL.of hL1, at_of rfl (show (nmsL.map V.str)[k]? = some (V.str z) by rw [List.getElem?_map, g]; rfl), ?_⟩
  exact q z H1 (of_decide_eq_true ok.1) ok.2.1 (of_decide_eq_true ok.2.2) (fun b x n h => b1 _ _ n (s1 _ _ h)) T2
abbrev s_l_leaf : Stmt := topS 38
abbrev N_l_leaf : List Str := ["tape", "out", "choice", "digits", "start", "word"]
theorem sc_l_leaf : FnScope N_l_leaf ["tape", "out", "choice"] (defScope s_l_leaf) := ⟨rfl, rfl, rfl, by decide +kernel, rfl, by decide +kernel, by decide +kernel⟩
def pcs_l_leaf_1 : List Str := ["0", "7", "007", "4294967295", "4294967297", "12345678901234567890"]
theorem ok_l_leaf (F : Fun K "_law_leaf" "_law_leaf" s_l_leaf f fd) (T : Nm mg) (C_law_take : Cal P w K mg base CX0 1 "_law_take" spTake) (C_law_token_out : Cal P w K mg base CX0 3 "_law_token_out" spTok) : FnOk P w K mg base CX0 4 f fd ["tape", "out", "choice"] spLeaf := by
  refine F.ok sc_l_leaf (fun vs H Q E h => ?_) (fun cdv A outer s H vs Q E hr h => ?_)
  · obtain ⟨t, c, o, n, ws, rfl, _⟩ := h
    rfl
  obtain ⟨t, c, o, n, ws, rfl, P0, hw, q⟩ := h
  refine ⟨_, (pss_cons (ps_if (pt_cmpR op_eq (pv 2) pe_int (nomark _)) (pss_cons (ps_set (i := 3) sc_l_leaf.nd rfl (Or.inl rfl) (pe_ix (r := rIxL K) ix_list (pe_lst (pa_strs pcs_l_leaf_1)) (pe_c C_law_take hr (by first | decide | omega) pass0 (pa_cons (pv 0) (pa_cons pe_int pa_nil))) (fun _ _ => rfl)))
    (pss_cons (ps_set (i := 4) sc_l_leaf.nd rfl (Or.inl rfl) (pe_c C_law_token_out hr (by first | decide | omega) pass0 (pa_cons (pv 0) (pa_cons (pv 1) (pa_cons (pv 3) pa_nil)))))
    (pss_one (ps_ret (pe_tup (pa_cons pe_str (pa_cons (pv 4) (pa_cons (pe_op op_add (pv 4) (pe_callB call_len_str (by rfl) T.len PySem.boot_len (pa_cons (pv 3) pa_nil))) (pa_cons (pe_op op_mod (pe_callTy call_int1 (by rfl) T.int_ (by decide +kernel) (pa_cons (pe_callTy call_int_str (by rfl) T.int_ (by decide +kernel) (pa_cons (pv 3) pa_nil)) pa_nil)) pe_int) pa_nil))))))))) pss_nil)
    (pss_cons (ps_set (i := 5) sc_l_leaf.nd rfl (Or.inl rfl) (pe_ix (r := rIxL K) ix_list (pe_lst (pa_cons pe_str (pa_cons pe_str pa_nil))) (pe_c C_law_take hr (by first | decide | omega) pass0 (pa_cons (pv 0) (pa_cons pe_int pa_nil))) (fun _ _ => rfl)))
    (pss_cons (ps_set (i := 4) sc_l_leaf.nd rfl (Or.inl rfl) (pe_c C_law_token_out hr (by first | decide | omega) pass0 (pa_cons (pv 0) (pa_cons (pv 1) (pa_cons (pv 5) pa_nil)))))
    (pss_one (ps_ret (pe_tup (pa_cons pe_str (pa_cons (pv 4) (pa_cons (pe_op op_add (pv 4) (pe_callB call_len_str (by rfl) T.len PySem.boot_len (pa_cons (pv 5) pa_nil))) (pa_cons (pe_cmpR op_eq (pv 5) pe_str (nomark _)) pa_nil)))))))))), ?_⟩
  refine ⟨_, rfl, rfl, _, rfl, ?_⟩
  refine ite2 (fun _ => ?_) (fun _ => ?_)
  · refine ⟨by decide, fun L nL => ?_⟩
    have s1 := same_new (o := .lst (dgs.map V.str)) nL
    have T1 := P0.1.new (o := .lst (dgs.map V.str)) nL
    have hL : upd H L (.lst (dgs.map V.str)) L = some (.lst (dgs.map V.str)) := upd_same
    refine ⟨_, rfl, t, c, 6, rfl, T1, by decide, by decide, fun r H1 h0 h1 b1 T2 => ?_⟩
    have hL1 := b1 _ _ (T1.ne hL (by intro k e; cases e)) hL
    obtain ⟨k, rfl⟩ : ∃ k : Nat, r = (k : Int) := ⟨r.toNat, by omega⟩
    have hk : k < dgs.length := by show k < 6; omega
    have hk2 : k < dgn.length := by show k < 6; omega
    have g := List.getElem?_eq_getElem hk
    have g2 := List.getElem?_eq_getElem hk2
    generalize dgs[k] = z at g
    generalize dgn[k] = m at g2
    have ok := List.all_eq_true.mp dgs_ok z (List.mem_of_getElem? g)
    rw [Bool.and_eq_true, Bool.and_eq_true] at ok
    have ok2 := List.all_eq_true.mp dgs_n _ (List.mem_of_getElem? (i := k) (by rw [List.getElem?_zipWith, g, g2]))
    have ok2 : (decide (PySem.intText? z = some m) && decide (Src.numv (tl z) = m % 4294967296)) = true := ok2
    rw [Bool.and_eq_true] at ok2
    have P1 := (P0.same s1).take b1 T2
    have hz : (tl z).length ≤ 25 := of_decide_eq_true ok.2.2
    refine ⟨L, _, _, _, rfl, rfl, SqL.of hL1, at_of rfl (show (dgs.map V.str)[k]? = some (V.str z) by rw [List.getElem?_map, g]; rfl), ?_⟩
    refine ⟨_, rfl, _, rfl, _, rfl, t, c, o, z, ws, rfl, P1, ok.2.1, hz, hw, fun wd H2 e1 P2 b2 => ?_⟩
    refine ⟨_, rfl, _, rfl, _, rfl, z, rfl, small (by rw [len_tl]; omega), _, _, rfl, rfl, _, rfl, z, m, rfl, of_decide_eq_true ok2.1, (by rw [len_tl]; omega), .inl ⟨m, rfl, _, _, rfl, rfl, (by show (0 : Int) < 4294967296; decide), (by show 4 ≤ sizeLine; decide), fun y ny => ?_⟩⟩
    have s2 := same_new (o := .tup [.str "number", .int (wd.2 : Int), .int ((wd.2 : Int) + (z.length : Int)), .int (m % 4294967296)]) ny
    refine q _ [wd] ⟨"number", wd.2, wd.2 + wd.1.length, [.int (Src.numv wd.1)]⟩ _ (rdd_num (by rw [e1]; exact of_decide_eq_true ok.1)) (Nat.le_refl _) (by show 1 ≤ 1; decide) (Tn.mk_ (r := [.int (m % 4294967296)]) ?_ (.cons ?_ .nil) (by show 4 ≤ 1000000; decide)) (P2.same s2) (((But2.of s1).trans (But2.tape b1)).trans (b2.trans (But2.of s2)))
    · rw [upd_same, e1]
      congr 1
    · rw [e1, of_decide_eq_true ok2.2]
      exact DT.int
  · refine ⟨by decide, fun L nL => ?_⟩
    have s1 := same_new (o := .lst [.str "True", .str "False"]) nL
    have T1 := P0.1.new (o := .lst [.str "True", .str "False"]) nL
    have hL : upd H L (.lst [.str "True", .str "False"]) L = some (.lst [.str "True", .str "False"]) := upd_same
    refine ⟨_, rfl, t, c, 2, rfl, T1, by decide, by decide, fun r H1 h0 h1 b1 T2 => ?_⟩
    have hL1 := b1 _ _ (T1.ne hL (by intro k e; cases e)) hL
    have P1 := (P0.same s1).take b1 T2
    obtain ⟨b, z, g, hz, hb⟩ : ∃ (b : Bool) (z : Str), atI [V.str "True", V.str "False"] r = some (V.str z) ∧ z = (if b = true then "True" else "False") ∧ decide (V.str z = V.str "True") = b := by
      by_cases k : r = 0
      · subst k
        exact ⟨true, "True", rfl, rfl, by decide⟩
      · obtain rfl : r = 1 := by omega
        exact ⟨false, "False", rfl, rfl, by decide +kernel⟩
    have tz : tl z = if b = true then tl "True" else tl "False" := by rw [hz]; cases b <;> rfl
    have k1 : tkOk (tl z) = true := by rw [tz]; cases b <;> decide +kernel
    have k2 : (tl z).length ≤ 25 := by rw [tz]; cases b <;> decide +kernel
    refine ⟨L, _, _, _, rfl, rfl, SqL.of hL1, g, ?_⟩
    refine ⟨_, rfl, _, rfl, _, rfl, t, c, o, z, ws, rfl, P1, k1, k2, hw, fun wd H2 e1 P2 b2 => ?_⟩
    refine ⟨_, rfl, _, rfl, _, rfl, z, rfl, small (by rw [len_tl]; omega), _, _, rfl, rfl, _, rfl, rfl, (by show 4 ≤ sizeLine; decide), fun y ny => ?_⟩
    rw [hb]
    have s2 := same_new (o := .tup [.str "truth", .int (wd.2 : Int), .int ((wd.2 : Int) + (z.length : Int)), .bl b]) ny
    refine q _ [wd] ⟨"truth", wd.2, wd.2 + wd.1.length, [.bl b]⟩ _ (rdd_truth b (by rw [e1]; exact tz)) (Nat.le_refl _) (by show 1 ≤ 1; decide) (Tn.mk_ (r := [.bl b]) ?_ (.cons DT.bl .nil) (by show 4 ≤ 1000000; decide)) (P2.same s2) (((But2.of s1).trans (But2.tape b1)).trans (b2.trans (But2.of s2)))
    rw [upd_same, e1]
    congr 1
end

end Sn

namespace Sn
open PySem PySem.Spec PyProof.Rows L2 TL
/-! ### the law's printing: trees -/
def cntT : Nat → Nat
  | 0 => 1
  | k + 1 => 3 * cntT k + 5
theorem cntT_pos (k : Nat) : 1 ≤ cntT k := by cases k <;> simp [cntT]
/-- trees less deep than n -/
def spTree (n : Nat) : Sp := fun vs H Q _ => ∃ (t c o : Addr) (k L : Nat) (ws : List Wd), vs = [.ref t, .ref o, .int (k : Int), .int (L : Int)] ∧ k < n ∧ L ≤ 6 ∧ (L = 6 → k = 0) ∧ Pn H t c o ws ∧ ws.length + cntT k ≤ 1000 ∧ MkQ t c o ws (Pr k L) (cntT k) (2 * k + 1) H Q
/-- a form of one that is as deep as n -/
def spForm (pr : Nat → List Wd → Tn → Prop) (n : Nat) : Sp := fun vs H Q _ => ∃ (t c o : Addr) (k : Nat) (ws : List Wd), vs = [.ref t, .ref o, .int ((k + 1 : Nat) : Int)] ∧ k < n ∧ Pn H t c o ws ∧ ws.length + cntT (k + 1) ≤ 1000 ∧ MkQ t c o ws (pr (k + 1)) (cntT (k + 1)) (2 * (k + 1) + 1) H Q
theorem Pn.fresh {H : Hp} {t c o D : Addr} {ws : List Wd} (p : Pn H t c o ws) (h : H D = none) : D ≠ t ∧ D ≠ c ∧ D ≠ o := by
  obtain ⟨⟨cs, a, l, se, sa, z⟩, zz, hz, _⟩ := p
  exact ⟨(ne_of_none z.d h).symm, (ne_of_none z.cl h).symm, (ne_of_none hz h).symm⟩
theorem Pn.none {H H1 : Hp} {t c o D : Addr} {ws : List Wd} (p : Pn H1 t c o ws) (b : But2 t o H H1) (h : H1 D = none) : H D = none := by
  obtain ⟨h1, _, h2⟩ := p.fresh h
  cases e : H D with
  | none => rfl
  | some y =>
    rw [b _ _ h1 h2 e] at h
    cases h
theorem strL_tlP (x : Str) : strL (tl x) = x := by
  show (⟨x.cps.toList.toArray⟩ : Str) = x
  rw [Array.toArray_toList]
theorem Pn.app {H : Hp} {t c o : Addr} {ws a b : List Wd} (p : Pn H t c o (ws ++ a ++ b)) : Pn H t c o (ws ++ (a ++ b)) := by rw [← List.append_assoc]; exact p
theorem Tn.e_at {H : Hp} {t : Tn} {v : V} (h : DT H t.d v) : ∃ a vs, v = .ref a ∧ H a = some (.tup vs) ∧ atI vs 1 = some (.int (t.s : Int)) ∧ atI vs 2 = some (.int (t.e : Int)) := by
  obtain ⟨a, r, rfl, h1, h2, h3⟩ := Tn.at_ h
  exact ⟨a, _, rfl, h1, at_of (show (1 : Int) = ((1 : Nat) : Int) from rfl) rfl, at_of (show (2 : Int) = ((2 : Nat) : Int) from rfl) rfl⟩
theorem dep_ofL1 (x : D) : dep (ofL [x]) = dep x := by show max (dep x) 0 = _; omega
theorem dep_tn (t : Tn) : dep t.d = dep (ofL t.rest) + 1 := by
  show max 0 (max 0 (max 0 (dep (ofL t.rest)))) + 1 = _
  omega
theorem args4 {t o : Addr} {k : Nat} {L : Int} : [V.ref t, V.ref o, V.int (((k + 1 : Nat) : Int) - 1), V.int L] = [.ref t, .ref o, .int (k : Int), .int L] := by
  have ek : ((k + 1 : Nat) : Int) - 1 = (k : Int) := by omega
  rw [ek]
theorem dep_ofL {m : Nat} : ∀ {ds : List D}, (∀ d ∈ ds, dep d ≤ m) → dep (ofL ds) ≤ m
  | [], _ => Nat.zero_le _
  | d :: r, h => by
    show max (dep d) (dep (ofL r)) ≤ m
    have h1 := h d (by simp)
    have h2 := dep_ofL (ds := r) (fun x hx => h x (by simp [hx]))
    omega
theorem dep_tn_le {m : Nat} {t : Tn} (h : ∀ d ∈ t.rest, dep d ≤ m) : dep t.d ≤ m + 1 := by rw [dep_tn]; have := dep_ofL h; omega
section
variable {P : Program} {w : World} {K : PySem.W.Frag} {mg : Str → Option Value} {base : Heap} {f : Addr} {fd : FuncData} {n j : Nat}
abbrev s_l_prefix : Stmt := topS 41
abbrev N_l_prefix : List Str := ["tape", "out", "depth", "word", "sign", "level", "start", "inner"]
theorem sc_l_prefix : FnScope N_l_prefix ["tape", "out", "depth", "word", "sign", "level"] (defScope s_l_prefix) := ⟨rfl, rfl, rfl, by decide +kernel, rfl, by decide +kernel, by decide +kernel⟩
def spPrefix (n : Nat) : Sp := fun vs H Q _ => ∃ (t c o : Addr) (k L : Nat) (x y : Str) (ws : List Wd), vs = [.ref t, .ref o, .int ((k + 1 : Nat) : Int), .str x, .str y, .int (L : Int)] ∧ k < n ∧ L ≤ 5 ∧ Pn H t c o ws ∧ ws.length + cntT (k + 1) ≤ 1000 ∧ tkOk (tl y) = true ∧ (tl y).length ≤ 25 ∧
  MkQ t c o ws (fun nw tn => ∃ w nw' t', w.1 = tl y ∧ Pr k L nw' t' ∧ nw = w :: nw' ∧ tn = ⟨x, w.2, t'.e, [t'.d]⟩) (cntT (k + 1)) (2 * (k + 1) + 1) H Q
theorem ok_l_prefix (F : Fun K "_law_prefix" "_law_prefix" s_l_prefix f fd) (T : Nm mg) (hj : 3 ≤ j) (C_law_token_out : Cal P w K mg base CX0 3 "_law_token_out" spTok) (C_law_tree : Cal P w K mg base CX0 j "_law_tree" (spTree n)) :
    FnOk P w K mg base CX0 (j + 1) f fd ["tape", "out", "depth", "word", "sign", "level"] (spPrefix n) := by
  refine F.ok sc_l_prefix (fun vs H Q E h => ?_) (fun cdv A outer s H vs Q E hr h => ?_)
  · obtain ⟨t, c, o, k, L, x, y, ws, rfl, _⟩ := h
    rfl
  obtain ⟨t, c, o, k, L, x, y, ws, rfl, hk, hL, P0, hw, k1, k2, q⟩ := h
  refine ⟨_, (pss_cons (ps_set (i := 6) sc_l_prefix.nd rfl (Or.inl rfl) (pe_c C_law_token_out hr (by first | decide | omega) pass0 (pa_cons (pv 0) (pa_cons (pv 1) (pa_cons (pv 4) pa_nil)))))
    (pss_cons (ps_set (i := 7) sc_l_prefix.nd rfl (Or.inl rfl) (pe_c C_law_tree hr (by first | decide | omega) pass0 (pa_cons (pv 0) (pa_cons (pv 1) (pa_cons (pe_op op_sub (pv 2) pe_int) (pa_cons (pv 5) pa_nil))))))
    (pss_one (ps_ret (pe_tup (pa_cons (pv 3) (pa_cons (pv 6) (pa_cons (pe_ix (r := rIxT K) ix_tup (pv 7) pe_int (fun _ _ => rfl)) (pa_cons (pv 7) pa_nil))))))))), ?_⟩
  have hc : cntT (k + 1) = 3 * cntT k + 5 := rfl
  have hp := cntT_pos k
  have ek : ((k + 1 : Nat) : Int) - 1 = (k : Int) := by omega
  refine ⟨_, rfl, _, rfl, _, rfl, t, c, o, y, ws, rfl, P0, k1, k2, by omega, fun wd H1 e1 P1 b1 => ?_⟩
  refine ⟨_, rfl, _, rfl, _, rfl, _, _, rfl, rfl, _, rfl, t, c, o, k, L, ws ++ [wd], args4, hk, by omega, fun e => absurd e (by omega), P1, by rw [List.length_append, List.length_singleton]; omega, fun H2 nw tn v pr l2 d2 D2 P2 b2 => ?_⟩
  obtain ⟨a, vs, rfl, ha, _, he⟩ := Tn.e_at D2
  refine ⟨_, rfl, _, rfl, _, rfl, a, _, _, _, rfl, rfl, .inl (.inl ha), he, _, rfl, (by show 4 ≤ sizeLine; decide), fun p np => ?_⟩
  have s3 := same_new (o := .tup [.str x, .int (wd.2 : Int), .int (tn.e : Int), .ref a]) np
  refine q _ (wd :: nw) ⟨x, wd.2, tn.e, [tn.d]⟩ _ ⟨wd, nw, tn, e1, pr, rfl, rfl⟩ (by rw [List.length_cons]; omega) ?_ (Tn.mk_ (r := [.ref a]) upd_same (.cons (D2.keep (fun _ _ h => s3 _ _ h)) .nil) (by show 4 ≤ 1000000; decide)) ((P2.app (b := nw)).same s3) (b1.trans (b2.trans (But2.of s3)))
  rw [dep_tn]
  show dep (ofL [tn.d]) + 1 ≤ _
  rw [dep_ofL1]
  omega
abbrev s_l_call : Stmt := topS 39
abbrev N_l_call : List Str := ["tape", "out", "depth", "name", "start", "found", "k", "end"]
theorem sc_l_call : FnScope N_l_call ["tape", "out", "depth"] (defScope s_l_call) := ⟨rfl, rfl, rfl, by decide +kernel, rfl, by decide +kernel, by decide +kernel⟩
theorem ok_l_call (F : Fun K "_law_call" "_law_call" s_l_call f fd) (T : Nm mg) (hj : 3 ≤ j) (C_law_take : Cal P w K mg base CX0 1 "_law_take" spTake) (C_law_some_name : Cal P w K mg base CX0 2 "_law_some_name" spName) (C_law_token_out : Cal P w K mg base CX0 3 "_law_token_out" spTok)
    (C_law_tree : Cal P w K mg base CX0 j "_law_tree" (spTree n)) : FnOk P w K mg base CX0 (j + 1) f fd ["tape", "out", "depth"] (spForm RdS n) := by
  refine F.ok sc_l_call (fun vs H Q E h => ?_) (fun cdv A outer s H vs Q E hr h => ?_)
  · obtain ⟨t, c, o, k, ws, rfl, _⟩ := h
    rfl
  obtain ⟨t, c, o, k, ws, rfl, hk, P0, hw, q⟩ := h
  refine ⟨_, (pss_cons (ps_set (i := 3) sc_l_call.nd rfl (Or.inl rfl) (pe_c C_law_some_name hr (by first | decide | omega) pass0 (pa_cons (pv 0) pa_nil)))
    (pss_cons (ps_set (i := 4) sc_l_call.nd rfl (Or.inl rfl) (pe_c C_law_token_out hr (by first | decide | omega) pass0 (pa_cons (pv 0) (pa_cons (pv 1) (pa_cons (pv 3) pa_nil)))))
    (pss_cons (ps_expr (pe_c C_law_token_out hr (by first | decide | omega) pass0 (pa_cons (pv 0) (pa_cons (pv 1) (pa_cons pe_str pa_nil)))))
    (pss_cons (ps_set (i := 5) sc_l_call.nd rfl (Or.inl rfl) (pe_lst pa_nil))
    (pss_cons (ps_for PassesOwn.never rfl (pi_range1 (by rfl) T.range (pa_cons (pe_c C_law_take hr (by first | decide | omega) pass0 (pa_cons (pv 0) (pa_cons pe_int pa_nil))) pa_nil)) (pg_name (i := 6) sc_l_call.nd rfl (Or.inl rfl)) (pss_cons (ps_if (pt_cmpR op_gt (pv 6) pe_int (nomark _)) (pss_one (ps_expr (pe_c C_law_token_out hr (by first | decide | omega) pass0 (pa_cons (pv 0) (pa_cons (pv 1) (pa_cons pe_str pa_nil)))))) pss_nil)
    (pss_one (ps_expr (pe_bm PySem.F.plainAttrs_list PySem.F.slot_list_append PySem.F.type_list_append mt_append (pv 5) (pa_cons (pe_c C_law_tree hr (by first | decide | omega) pass0 (pa_cons (pv 0) (pa_cons (pv 1) (pa_cons (pe_op op_sub (pv 2) pe_int) (pa_cons pe_int pa_nil))))) pa_nil))))))
    (pss_cons (ps_set (i := 7) sc_l_call.nd rfl (Or.inl rfl) (pe_op op_add (pe_c C_law_token_out hr (by first | decide | omega) pass0 (pa_cons (pv 0) (pa_cons (pv 1) (pa_cons pe_str pa_nil)))) pe_int))
    (pss_one (ps_ret (pe_tup (pa_cons pe_str (pa_cons (pv 4) (pa_cons (pv 7) (pa_cons (pv 3) (pa_cons (pe_callTy call_tuple_of (by rfl) T.tuple_ (by decide +kernel) (pa_cons (pv 5) pa_nil)) pa_nil)))))))))))))), ?_⟩
  have hc : cntT (k + 1) = 3 * cntT k + 5 := rfl
  have hp := cntT_pos k
  refine ⟨_, rfl, t, c, rfl, P0.1, fun x H1 n1 n2 n3 b1 T1 => ?_⟩
  have P1 := P0.take b1 T1
  refine ⟨_, rfl, _, rfl, _, rfl, t, c, o, x, ws, rfl, P1, n2, n3, by omega, fun wd H2 e2 P2 b2 => ?_⟩
  refine ⟨_, rfl, _, rfl, t, c, o, "(", _, rfl, P2, by decide +kernel, by decide +kernel, by rw [List.length_append, List.length_singleton]; omega, fun wp H3 e3 P3 b3 => ?_⟩
  refine ⟨Nat.zero_le _, fun D nD => ?_⟩
  have s4 := same_new (o := .lst []) nD
  have P4 := P3.same s4
  have hD : upd H3 D (.lst []) D = some (.lst []) := upd_same
  have b03 : But2 t o H H3 := (But2.tape b1).trans (b2.trans b3)
  have nD0 : H D = none := P3.none b03 nD
  have b04 : But2 t o H (upd H3 D (.lst [])) := b03.trans (But2.of s4)
  have DD : D ≠ t ∧ D ≠ c ∧ D ≠ o := P3.fresh nD
  generalize upd H3 D (.lst []) = H4 at P4 hD b04 ⊢
  refine ⟨_, rfl, t, c, 4, rfl, P4.1, by decide, by decide, fun r H5 h0 h1 b5 T5 => ⟨r, rfl, by omega, by omega, ?_⟩⟩
  have P5 := P4.take b5 T5
  have hD5 := b5 _ _ DD.1 hD
  refine for_range (lo := 0) (n := r.toNat) (fun i σ H' => ∃ (v : Option V) (ts : List Tn) (nw : List Wd) (vs : List V), σ = [some (.ref t), some (.ref o), some (.int ((k + 1 : Nat) : Int)), some (.str x), some (.int (wd.2 : Int)), some (.ref D), v, none] ∧
    H' D = some (.lst vs) ∧ DTs H' (ofL (ts.map Tn.d)) vs ∧ Pn H' t c o (ws ++ [wd] ++ [wp] ++ nw) ∧ But2 t o H H' ∧ ts.length = i ∧ (i = 0 → nw = [] ∧ ts = []) ∧ (0 < i → RdA k nw ts) ∧ nw.length ≤ i * (cntT k + 1) - 1 ∧ ∀ tn ∈ ts, dep tn.d ≤ 2 * k + 1)
    ⟨none, [], [], [], rfl, hD5, DTs.nil, by rw [List.append_nil]; exact P5, b04.trans (But2.tape b5), rfl, fun _ => ⟨rfl, rfl⟩, fun h => absurd h (by decide), Nat.zero_le _, fun _ h => absurd h (by simp)⟩ ?_ ?_
  · rintro i σ H6 hi ⟨v, ts, nw, vs, rfl, hD6, hT6, P6, b6, hl, hz, hRA, hn, hdp⟩
    have hi3 : i ≤ 2 := by omega
    have ei : (0 : Int) + (i : Nat) = (i : Nat) := by omega
    have hmul : i * (cntT k + 1) ≤ 2 * (cntT k + 1) := Nat.mul_le_mul_right _ hi3
    have hmul2 : (i + 1) * (cntT k + 1) = i * (cntT k + 1) + (cntT k + 1) := Nat.succ_mul _ _
    rw [ei]
    have hlen : ∀ a b d e : List Wd, (a ++ b ++ d ++ e).length = a.length + b.length + d.length + e.length := fun a b d e => by simp [Nat.add_assoc]
    refine ⟨_, rfl, _, _, rfl, rfl, _, rfl, ?_⟩
    -- what follows the comma
    have go : ∀ (H7 : Hp) (ww : List Wd), (ww = [] ∧ i = 0 ∨ ∃ wc : Wd, ww = [wc] ∧ wc.1 = tl "," ∧ 0 < i) → Pn H7 t c o (ws ++ [wd] ++ [wp] ++ (nw ++ ww)) → But2 t o H6 H7 → ∀ (H8 : Hp) (nw' : List Wd) (tn : Tn) (v' : V), RdV k nw' tn → nw'.length ≤ cntT k → dep tn.d ≤ 2 * k + 1 → DT H8 tn.d v' →
        Pn H8 t c o (ws ++ [wd] ++ [wp] ++ (nw ++ ww) ++ nw') → But2 t o H7 H8 → H8 D = some (.lst vs) ∧ vs.length < sizeLine ∧ ∃ (v : Option V) (ts : List Tn) (nw : List Wd) (vs' : List V), [some (V.ref t), some (.ref o), some (.int ((k + 1 : Nat) : Int)), some (.str x), some (.int (wd.2 : Int)), some (.ref D), some (.int (i : Int)), none] =
          [some (V.ref t), some (.ref o), some (.int ((k + 1 : Nat) : Int)), some (.str x), some (.int (wd.2 : Int)), some (.ref D), v, none] ∧ upd H8 D (.lst (vs ++ [v'])) D = some (.lst vs') ∧ DTs (upd H8 D (.lst (vs ++ [v']))) (ofL (ts.map Tn.d)) vs' ∧ Pn (upd H8 D (.lst (vs ++ [v']))) t c o (ws ++ [wd] ++ [wp] ++ nw) ∧
          But2 t o H (upd H8 D (.lst (vs ++ [v']))) ∧ ts.length = i + 1 ∧ (i + 1 = 0 → nw = [] ∧ ts = []) ∧ (0 < i + 1 → RdA k nw ts) ∧ nw.length ≤ (i + 1) * (cntT k + 1) - 1 ∧ ∀ tn ∈ ts, dep tn.d ≤ 2 * k + 1 := by
      intro H7 ww hww P7 b7 H8 nw' tn v' hV hn' hd' D8 P8 b8
      have hD7 := b7 _ _ DD.1 DD.2.2 hD6
      have hD8 := b8 _ _ DD.1 DD.2.2 hD7
      have tu : Tups H8 (upd H8 D (.lst (vs ++ [v']))) := fun a us h => by rw [upd_ne (fun e => by rw [e, hD8] at h; cases h)]; exact h
      have tu0 := (P6.tups b7)
      have tu1 := (P7.tups b8)
      have hvl := DTs.len _ _ hT6
      rw [List.length_map] at hvl
      refine ⟨hD8, Nat.lt_of_lt_of_le (show vs.length < 1000 by omega) (by decide), _, ts ++ [tn], nw ++ ww ++ nw', vs ++ [v'], rfl, upd_same, ?_, ?_, fun b y n1 n2 h => ?_, by rw [List.length_append, List.length_singleton, hl], fun h => absurd h (by omega), fun _ => ?_, ?_, fun y hy => ?_⟩
      · rw [List.map_append]
        exact DTs.snoc (D8.keep tu) _ _ (((hT6.keep tu0).keep tu1).keep tu)
      · have := P8.updL (x := .lst (vs ++ [v'])) hD8 DD.2.1
        rw [List.append_assoc] at this
        exact this
      · rw [upd_ne (ne_of_none h nD0)]
        exact b8 _ _ n1 n2 (b7 _ _ n1 n2 (b6 _ _ n1 n2 h))
      · rcases hww with ⟨rfl, h0⟩ | ⟨wc, rfl, hc, hi0⟩
        · obtain ⟨rfl, rfl⟩ := hz h0
          exact hV.a
        · rw [List.append_assoc]
          exact (hRA hi0).more hV hc
      · rw [List.length_append, List.length_append]
        rcases hww with ⟨rfl, h0⟩ | ⟨wc, rfl, _, hi0⟩
        · obtain ⟨rfl, rfl⟩ := hz h0
          simp only [List.length_nil]
          omega
        · have : 1 * (cntT k + 1) ≤ i * (cntT k + 1) := Nat.mul_le_mul_right _ hi0
          simp only [List.length_singleton]
          omega
      · rcases List.mem_append.mp hy with hy | hy
        · exact hdp y hy
        · rw [List.mem_singleton.mp hy]
          exact hd'
    refine ite2 (fun h => ?_) (fun h => ?_)
    · have hi0 : 0 < i := by have := of_decide_eq_true h; omega
      refine ⟨_, rfl, _, rfl, t, c, o, ",", _, rfl, P6, by decide +kernel, by decide +kernel, by rw [hlen, List.length_singleton, List.length_singleton]; omega, fun wc H7 e7 P7 b7 => ?_⟩
      have P7 := P7.app
      have hD7 := b7 _ _ DD.1 DD.2.2 hD6
      refine ⟨_, rfl, .inl ⟨rfl, _, SqL.of hD7⟩, _, rfl, _, rfl, _, rfl, _, _, rfl, rfl, t, c, o, k, 0, _, args4, hk, by omega, fun e => absurd e (by omega), P7, by rw [hlen, List.length_append, List.length_singleton, List.length_singleton, List.length_singleton]; omega, fun H8 nw' tn v' pr ln dn D8 P8 b8 => ?_⟩
      obtain ⟨x1, x2, x3⟩ := go H7 [wc] (.inr ⟨wc, rfl, e7, hi0⟩) P7 b7 H8 nw' tn v' pr ln dn D8 P8 b8
      exact ⟨D, _, _, rfl, rfl, x1, x2, x3⟩
    · have hi0 : i = 0 := by
        by_cases k : i = 0
        · exact k
        · exact absurd (decide_eq_true (show (0 : Int) < (i : Int) by omega)) h
      have P7 : Pn H6 t c o (ws ++ [wd] ++ [wp] ++ (nw ++ [])) := by rw [List.append_nil]; exact P6
      refine ⟨_, rfl, .inl ⟨rfl, _, SqL.of hD6⟩, _, rfl, _, rfl, _, rfl, _, _, rfl, rfl, t, c, o, k, 0, _, args4, hk, by omega, fun e => absurd e (by omega), P7, by rw [hlen, List.length_append, List.length_singleton, List.length_singleton, List.length_nil]; omega, fun H8 nw' tn v' pr ln dn D8 P8 b8 => ?_⟩
      obtain ⟨x1, x2, x3⟩ := go H6 [] (.inl ⟨rfl, hi0⟩) P7 But2.refl H8 nw' tn v' pr ln dn D8 P8 b8
      exact ⟨D, _, _, rfl, rfl, x1, x2, x3⟩
  · rintro σ H6 ⟨v, ts, nw, vs, rfl, hD6, hT6, P6, b6, hl, hz, hRA, hn, hdp⟩
    have hmul : r.toNat * (cntT k + 1) ≤ 3 * (cntT k + 1) := Nat.mul_le_mul_right _ (by omega)
    have hlen : ∀ a b d e : List Wd, (a ++ b ++ d ++ e).length = a.length + b.length + d.length + e.length := fun a b d e => by simp [Nat.add_assoc]
    refine ⟨_, rfl, _, rfl, t, c, o, ")", _, rfl, P6, by decide +kernel, by decide +kernel, by rw [hlen, List.length_singleton, List.length_singleton]; omega, fun wq H7 e7 P7 b7 => ⟨_, _, rfl, rfl, ?_⟩⟩
    have hD7 := b7 _ _ DD.1 DD.2.2 hD6
    have hT7 := hT6.keep (P6.tups b7)
    have hvl := DTs.len _ _ hT6
    rw [List.length_map] at hvl
    refine ⟨_, rfl, _, rfl, _, rfl, _, rfl, D, vs, rfl, .inl ⟨SqL.of hD7, fun p np => ⟨by show 5 ≤ sizeLine; decide, fun y ny => ?_⟩⟩⟩
    have s8 := same_new (o := .tup vs) np
    have hp8 : upd H7 p (.tup vs) p = some (.tup vs) := upd_same
    generalize upd H7 p (.tup vs) = H8 at s8 hp8 ny ⊢
    have s9 := same_new (o := .tup [.str "call", .int (wd.2 : Int), .int ((wq.2 : Int) + 1), .str x, .ref p]) ny
    have hq1 : wq.1.length = 1 := by rw [e7]; decide +kernel
    have hx : strL wd.1 = x := by rw [e2, strL_tlP]
    have eqw : ws ++ [wd] ++ [wp] ++ nw ++ [wq] = ws ++ (wd :: wp :: (nw ++ [wq])) := by simp
    rw [eqw] at P7
    have read : RdS (k + 1) (wd :: wp :: (nw ++ [wq])) ⟨"call", wd.2, wq.2 + wq.1.length, [.str (strL wd.1), .tup (ofL (ts.map Tn.d))]⟩ := by
      by_cases h0 : r.toNat = 0
      · obtain ⟨rfl, rfl⟩ := hz h0
        exact (rds_call0 (by rw [e2]; exact n1) e3 e7).mono (Nat.zero_le _)
      · exact rds_call (hRA (by omega)) (by rw [e2]; exact n1) e3 e7
    refine q _ _ _ _ read ?_ (dep_tn_le (m := 2 * (k + 1)) fun d hd => ?_) (Tn.mk_ (r := [.str x, .ref p]) ?_ (.cons ?_ (.cons (.tup (s9 _ _ hp8) (by omega) (hT7.keep fun _ _ h => s9 _ _ (s8 _ _ h))) .nil)) (by show 5 ≤ 1000000; decide)) ((P7.same s8).same s9) (b6.trans (b7.trans ((But2.of s8).trans (But2.of s9))))
    · rw [List.length_cons, List.length_cons, List.length_append, List.length_singleton]
      omega
    · have hd : d ∈ [Sn.D.str (strL wd.1), Sn.D.tup (ofL (ts.map Tn.d))] := hd
      rcases List.mem_cons.mp hd with rfl | hd
      · exact Nat.zero_le _
      · rw [List.mem_singleton.mp hd]
        show dep (ofL (ts.map Tn.d)) + 1 ≤ _
        have := dep_ofL (m := 2 * k + 1) (ds := ts.map Tn.d) (fun d hd => by
          obtain ⟨tn, h1, rfl⟩ := List.mem_map.mp hd
          exact hdp tn h1)
        omega
    · rw [upd_same, hq1]
      congr 1
    · rw [hx]
      exact DT.str
end

end Sn

namespace Sn
open PySem PySem.Spec PyProof.Rows L2 TL
/-! ### the law's printing: more forms -/
theorem Pn.more {H : Hp} {t c o : Addr} {ws a : List Wd} {b : Wd} (p : Pn H t c o (ws ++ a ++ [b])) : Pn H t c o (ws ++ (a ++ [b])) := p.app
section
variable {k L c tp : Nat} {nw : List Wd} {t : Tn}
theorem pr_S (q : RdS k nw t) (hL : L ≤ 5) : Pr k L nw t := by
  match L, hL with
  | 0, _ => exact (q.g (M := 0) (lm := 1) (by decide) (by decide)).v
  | 1, _ => exact ⟨6, by decide, q.g (by decide) (by decide)⟩
  | 2, _ => exact ⟨6, by decide, q.g (by decide) (by decide)⟩
  | 3, _ => exact ⟨6, by decide, q.g (by decide) (by decide)⟩
  | 4, _ => exact ⟨6, by decide, q.g (by decide) (by decide)⟩
  | 5, _ => exact q
theorem pr_G (hL : L ≤ 4) {M lm : Nat} (q : RdG k M lm nw t tp) (h1 : L ≤ M) (h2 : lvM L ≤ lm) (h3 : min 6 (lvM L) ≤ tp) : Pr k L nw t := by
  have g := q.mono (Nat.le_refl k) h1 h2
  match L, hL with
  | 0, _ => exact g.v
  | 1, _ => exact ⟨tp, h3, g⟩
  | 2, _ => exact ⟨tp, h3, g⟩
  | 3, _ => exact ⟨tp, h3, g⟩
  | 4, _ => exact ⟨tp, h3, g⟩
def rkC : Nat → Nat
  | 0 => 1 | 1 => 2 | 2 => 4 | 3 => 5 | _ => 6
theorem rk_lv (h : c ≤ 4) : rkC c + 1 = lvM (c + 1) := by
  match c, h with
  | 0, _ => rfl
  | 1, _ => rfl
  | 2, _ => rfl
  | 3, _ => rfl
  | 4, _ => rfl
theorem pr_op (h : c ≤ 4) (q : Pr k (c + 1) nw t) : ∃ tp, rkC c ≤ tp ∧ RdG k (c + 1) (lvM (c + 1)) nw t tp := by
  match c, h with
  | 0, _ => obtain ⟨tp, h1, h2⟩ := q; exact ⟨tp, Nat.le_trans (by decide) h1, h2⟩
  | 1, _ => obtain ⟨tp, h1, h2⟩ := q; exact ⟨tp, Nat.le_trans (by decide) h1, h2⟩
  | 2, _ => obtain ⟨tp, h1, h2⟩ := q; exact ⟨tp, Nat.le_trans (by decide) h1, h2⟩
  | 3, _ => obtain ⟨tp, h1, h2⟩ := q; exact ⟨tp, Nat.le_trans (by decide) h1, h2⟩
  | 4, _ => exact ⟨6, by decide, RdS.g q (by decide) (by decide)⟩
theorem rk_all (hL : L ≤ c) (h : c ≤ 4) : lvM L ≤ rkC c ∧ min 6 (lvM L) ≤ Src.topR (rkC c) := by
  have k : ∀ L c : Fin 5, L ≤ c → lvM L ≤ rkC c ∧ min 6 (lvM L) ≤ Src.topR (rkC c) := by decide
  exact k ⟨L, by omega⟩ ⟨c, by omega⟩ hL
end
def sgT : List (List Str) := [["or"], ["and"], ["==", "<"], ["+", "-"], ["*", "/"]]
theorem sgT_ok {c : Nat} {ss : List Str} {x : Str} (h : sgT[c]? = some ss) (hx : x ∈ ss) : Src.rank (tl x) = rkC c ∧ tkOk (tl x) = true ∧ (tl x).length ≤ 25 ∧ tl x ≠ tl "(" ∧ tl x ≠ tl "." := by
  have all : ∀ c : Fin 5, ((sgT[(c : Nat)]?.getD []).all fun x => decide (Src.rank (tl x) = rkC c) && (tkOk (tl x) && (decide ((tl x).length ≤ 25) && (decide (tl x ≠ tl "(") && decide (tl x ≠ tl "."))))) = true := by decide +kernel
  have hc : c < 5 := (List.getElem?_eq_some_iff.mp h).1
  have := all ⟨c, hc⟩
  rw [show sgT[((⟨c, hc⟩ : Fin 5) : Nat)]? = some ss from h] at this
  have := List.all_eq_true.mp this x hx
  simp only [Bool.and_eq_true, decide_eq_true_eq] at this
  exact ⟨this.1, this.2.1, this.2.2.1, this.2.2.2.1, this.2.2.2.2⟩
section
variable {P : Program} {w : World} {K : PySem.W.Frag} {mg : Str → Option Value} {base : Heap} {f : Addr} {fd : FuncData} {n j : Nat}
abbrev s_l_reach : Stmt := topS 40
abbrev N_l_reach : List Str := ["tape", "out", "depth", "tree", "k", "name", "end"]
theorem sc_l_reach : FnScope N_l_reach ["tape", "out", "depth"] (defScope s_l_reach) := ⟨rfl, rfl, rfl, by decide +kernel, rfl, by decide +kernel, by decide +kernel⟩
theorem ok_l_reach (F : Fun K "_law_reach" "_law_reach" s_l_reach f fd) (T : Nm mg) (hj : 3 ≤ j) (C_law_take : Cal P w K mg base CX0 1 "_law_take" spTake) (C_law_some_name : Cal P w K mg base CX0 2 "_law_some_name" spName) (C_law_token_out : Cal P w K mg base CX0 3 "_law_token_out" spTok)
    (C_law_tree : Cal P w K mg base CX0 j "_law_tree" (spTree n)) : FnOk P w K mg base CX0 (j + 1) f fd ["tape", "out", "depth"] (spForm (fun _ => RdD) n) := by
  refine F.ok sc_l_reach (fun vs H Q E h => ?_) (fun cdv A outer s H vs Q E hr h => ?_)
  · obtain ⟨t, c, o, k, ws, rfl, _⟩ := h
    rfl
  obtain ⟨t, c, o, k, ws, rfl, hk, P0, hw, q⟩ := h
  refine ⟨_, (pss_cons (ps_set (i := 3) sc_l_reach.nd rfl (Or.inl rfl) (pe_c C_law_tree hr (by first | decide | omega) pass0 (pa_cons (pv 0) (pa_cons (pv 1) (pa_cons pe_int (pa_cons pe_int pa_nil))))))
    (pss_cons (ps_for PassesOwn.never rfl (pi_range1 (by rfl) T.range (pa_cons (pe_op op_add pe_int (pe_c C_law_take hr (by first | decide | omega) pass0 (pa_cons (pv 0) (pa_cons pe_int pa_nil)))) pa_nil)) (pg_name (i := 4) sc_l_reach.nd rfl (Or.inl rfl)) (pss_cons (ps_expr (pe_c C_law_token_out hr (by first | decide | omega) pass0 (pa_cons (pv 0) (pa_cons (pv 1) (pa_cons pe_str pa_nil)))))
    (pss_cons (ps_set (i := 5) sc_l_reach.nd rfl (Or.inl rfl) (pe_c C_law_some_name hr (by first | decide | omega) pass0 (pa_cons (pv 0) pa_nil)))
    (pss_cons (ps_set (i := 6) sc_l_reach.nd rfl (Or.inl rfl) (pe_op op_add (pe_c C_law_token_out hr (by first | decide | omega) pass0 (pa_cons (pv 0) (pa_cons (pv 1) (pa_cons (pv 5) pa_nil)))) (pe_callB call_len_str (by rfl) T.len PySem.boot_len (pa_cons (pv 5) pa_nil))))
    (pss_one (ps_set (i := 3) sc_l_reach.nd rfl (Or.inl rfl) (pe_tup (pa_cons pe_str (pa_cons (pe_ix (r := rIxT K) ix_tup (pv 3) pe_int (fun _ _ => rfl)) (pa_cons (pv 6) (pa_cons (pv 3) (pa_cons (pv 5) pa_nil))))))))))))
    (pss_one (ps_ret (pv 3))))), ?_⟩
  have hc : cntT (k + 1) = 3 * cntT k + 5 := rfl
  have hp := cntT_pos k
  refine ⟨_, rfl, _, rfl, t, c, o, 0, 6, ws, rfl, by omega, by decide, fun _ => rfl, P0, by show ws.length + 1 ≤ 1000; omega, fun H1 nw tn v pr ln dn D1 P1 b1 => ?_⟩
  refine ⟨_, rfl, t, c, 2, rfl, P1.1, by decide, by decide, fun r H2 h0 h1 b2 T2 => ⟨_, _, rfl, rfl, 1 + r, rfl, by omega, by omega, ?_⟩⟩
  have P2 := P1.take b2 T2
  refine for_range (lo := 0) (n := (1 + r).toNat) (fun i σ H' => ∃ (v4 v5 v6 : Option V) (tn : Tn) (nw : List Wd) (v : V), σ = [some (.ref t), some (.ref o), some (.int ((k + 1 : Nat) : Int)), some v, v4, v5, v6] ∧
    RdD nw tn ∧ DT H' tn.d v ∧ Pn H' t c o (ws ++ nw) ∧ But2 t o H H' ∧ nw.length ≤ 1 + 2 * i ∧ dep tn.d ≤ 1 + i)
    ⟨none, none, none, tn, nw, v, rfl, pr, D1.keep (P1.tups (But2.tape b2)), P2, b1.trans (But2.tape b2), ln, dn⟩ ?_ ?_
  · rintro i σ H3 hi ⟨v4, v5, v6, tn, nw, v, rfl, pr, D3, P3, b3, ln, dn⟩
    have hi2 : i ≤ 1 := by omega
    refine ⟨_, rfl, _, rfl, t, c, o, ".", _, rfl, P3, by decide +kernel, by decide +kernel, by rw [List.length_append]; omega, fun wd H4 e4 P4 b4 => ?_⟩
    refine ⟨_, rfl, t, c, rfl, P4.1, fun x H5 n1 n2 n3 b5 T5 => ?_⟩
    have P5 := P4.take b5 T5
    refine ⟨_, rfl, _, rfl, _, rfl, t, c, o, x, _, rfl, P5, n2, n3, by rw [List.length_append, List.length_append, List.length_singleton]; omega, fun wx H6 e6 P6 b6 => ?_⟩
    have D6 := ((D3.keep (P3.tups b4)).keep (P4.tups (But2.tape b5))).keep (P5.tups b6)
    obtain ⟨a, vs, rfl, ha, hs, he⟩ := Tn.e_at D6
    refine ⟨_, rfl, x, rfl, small (by rw [len_tl]; omega), _, _, rfl, rfl, ?_⟩
    refine ⟨_, rfl, a, _, _, _, rfl, rfl, .inl (.inl ha), hs, _, rfl, _, rfl, _, rfl, (by show 5 ≤ sizeLine; decide), fun p np => ?_⟩
    have s7 := same_new (o := .tup [.str "field", .int (tn.s : Int), .int ((wx.2 : Int) + (x.length : Int)), .ref a, .str x]) np
    have hx : strL wx.1 = x := by rw [e6, strL_tlP]
    have eqw : ws ++ nw ++ [wd] ++ [wx] = ws ++ (nw ++ [wd, wx]) := by simp
    rw [eqw] at P6
    refine ⟨_, _, _, ⟨"field", tn.s, wx.2 + wx.1.length, [tn.d, .str (strL wx.1)]⟩, nw ++ [wd, wx], _, rfl, rdd_field pr e4 (by rw [e6]; exact n1), Tn.mk_ (r := [.ref a, .str x]) ?_ (.cons (D6.keep fun _ _ h => s7 _ _ h) (.cons ?_ .nil)) (by show 5 ≤ 1000000; decide), P6.same s7, b3.trans (b4.trans ((But2.tape b5).trans (b6.trans (But2.of s7)))), ?_, ?_⟩
    · rw [upd_same, e6]
      congr 1
    · rw [hx]; exact DT.str
    · rw [List.length_append]
      show nw.length + 2 ≤ _
      omega
    · have := dep_tn_le (m := 1 + i) (t := ⟨"field", tn.s, wx.2 + wx.1.length, [tn.d, .str (strL wx.1)]⟩) (fun d hd => by
        have hd : d ∈ [tn.d, Sn.D.str (strL wx.1)] := hd
        rcases List.mem_cons.mp hd with rfl | hd
        · exact dn
        · rw [List.mem_singleton.mp hd]
          exact Nat.zero_le _)
      omega
  · rintro σ H3 ⟨v4, v5, v6, tn, nw, v, rfl, pr, D3, P3, b3, ln, dn⟩
    exact ⟨_, rfl, q _ nw tn v pr (by omega) (by omega) D3 P3 b3⟩
end

end Sn

namespace Sn
open PySem PySem.Spec PyProof.Rows L2 TL
/-! ### the law's printing: binary trees -/
/-- a list of written lists -/
theorem sg_heap {H0 H1 H2 H3 H4 H5 H6 : Hp} {p0 p1 p2 p3 p4 p : Addr} (n0 : H0 p0 = none) (e1 : H1 = upd H0 p0 (.lst [.str "or"])) (n1 : H1 p1 = none) (e2 : H2 = upd H1 p1 (.lst [.str "and"])) (n2 : H2 p2 = none) (e3 : H3 = upd H2 p2 (.lst [.str "==", .str "<"]))
    (n3 : H3 p3 = none) (e4 : H4 = upd H3 p3 (.lst [.str "+", .str "-"])) (n4 : H4 p4 = none) (e5 : H5 = upd H4 p4 (.lst [.str "*", .str "/"])) (n5 : H5 p = none) (e6 : H6 = upd H5 p (.lst [.ref p0, .ref p1, .ref p2, .ref p3, .ref p4])) :
    Same H0 H6 ∧ H6 p = some (.lst [.ref p0, .ref p1, .ref p2, .ref p3, .ref p4]) ∧ ∀ c, c ≤ 4 → ∃ (x : Addr) (ss : List Str), [V.ref p0, .ref p1, .ref p2, .ref p3, .ref p4][c]? = some (.ref x) ∧ H6 x = some (.lst (ss.map V.str)) ∧ sgT[c]? = some ss ∧ ss ≠ [] ∧ ss.length ≤ 2 := by
  have s1 : Same H0 H1 := e1 ▸ same_new n0
  have s2 : Same H1 H2 := e2 ▸ same_new n1
  have s3 : Same H2 H3 := e3 ▸ same_new n2
  have s4 : Same H3 H4 := e4 ▸ same_new n3
  have s5 : Same H4 H5 := e5 ▸ same_new n4
  have s6 : Same H5 H6 := e6 ▸ same_new n5
  refine ⟨fun b o h => s6 _ _ (s5 _ _ (s4 _ _ (s3 _ _ (s2 _ _ (s1 _ _ h))))), by rw [e6, upd_same], fun c hc => ?_⟩
  match c, hc with
  | 0, _ => exact ⟨p0, ["or"], rfl, s6 _ _ (s5 _ _ (s4 _ _ (s3 _ _ (s2 _ _ (by rw [e1, upd_same]; rfl))))), rfl, by decide, by decide⟩
  | 1, _ => exact ⟨p1, ["and"], rfl, s6 _ _ (s5 _ _ (s4 _ _ (s3 _ _ (by rw [e2, upd_same]; rfl)))), rfl, by decide, by decide⟩
  | 2, _ => exact ⟨p2, ["==", "<"], rfl, s6 _ _ (s5 _ _ (s4 _ _ (by rw [e3, upd_same]; rfl))), rfl, by decide, by decide⟩
  | 3, _ => exact ⟨p3, ["+", "-"], rfl, s6 _ _ (s5 _ _ (by rw [e4, upd_same]; rfl)), rfl, by decide, by decide⟩
  | 4, _ => exact ⟨p4, ["*", "/"], rfl, s6 _ _ (by rw [e5, upd_same]; rfl), rfl, by decide, by decide⟩
theorem lv_at {c : Nat} (h : c ≤ 4) : [V.int 1, .int 2, .int 3, .int 4, .int 5][c]? = some (.int ((c + 1 : Nat) : Int)) := by
  match c, h with
  | 0, _ => rfl
  | 1, _ => rfl
  | 2, _ => rfl
  | 3, _ => rfl
  | 4, _ => rfl
def spBin (n : Nat) : Sp := fun vs H Q _ => ∃ (t c o : Addr) (k L : Nat) (ws : List Wd), vs = [.ref t, .ref o, .int ((k + 1 : Nat) : Int), .int (L : Int)] ∧ k < n ∧ L ≤ 4 ∧ Pn H t c o ws ∧ ws.length + cntT (k + 1) ≤ 1000 ∧ MkQ t c o ws (Pr (k + 1) L) (cntT (k + 1)) (2 * (k + 1) + 1) H Q
section
variable {P : Program} {w : World} {K : PySem.W.Frag} {mg : Str → Option Value} {base : Heap} {f : Addr} {fd : FuncData} {n j : Nat}
abbrev s_l_binary : Stmt := topS 42
abbrev N_l_binary : List Str := ["tape", "out", "depth", "level", "choice", "signs", "left", "k", "sign", "right"]
theorem sc_l_binary : FnScope N_l_binary ["tape", "out", "depth", "level"] (defScope s_l_binary) := ⟨rfl, rfl, rfl, by decide +kernel, rfl, by decide +kernel, by decide +kernel⟩
theorem ok_l_binary (F : Fun K "_law_binary" "_law_binary" s_l_binary f fd) (T : Nm mg) (hj : 3 ≤ j) (C_law_take : Cal P w K mg base CX0 1 "_law_take" spTake) (C_law_token_out : Cal P w K mg base CX0 3 "_law_token_out" spTok)
    (C_law_tree : Cal P w K mg base CX0 j "_law_tree" (spTree n)) : FnOk P w K mg base CX0 (j + 1) f fd ["tape", "out", "depth", "level"] (spBin n) := by
  refine F.ok sc_l_binary (fun vs H Q E h => ?_) (fun cdv A outer s H vs Q E hr h => ?_)
  · obtain ⟨t, c, o, k, L, ws, rfl, _⟩ := h
    rfl
  obtain ⟨t, c, o, k, L, ws, rfl, hk, hL, P0, hw, q⟩ := h
  refine ⟨_, (pss_cons (ps_set (i := 4) sc_l_binary.nd rfl (Or.inl rfl) (pe_op op_add (pv 3) (pe_c C_law_take hr (by first | decide | omega) pass0 (pa_cons (pv 0) (pa_cons (pe_op op_sub pe_int (pv 3)) pa_nil)))))
    (pss_cons (ps_set (i := 5) sc_l_binary.nd rfl (Or.inl rfl) (pe_ix (r := rIxL K) ix_list (pe_lst (pa_cons (pe_lst (pa_cons pe_str pa_nil)) (pa_cons (pe_lst (pa_cons pe_str pa_nil)) (pa_cons (pe_lst (pa_cons pe_str (pa_cons pe_str pa_nil))) (pa_cons (pe_lst (pa_cons pe_str (pa_cons pe_str pa_nil))) (pa_cons (pe_lst (pa_cons pe_str (pa_cons pe_str pa_nil))) pa_nil)))))) (pv 4) (fun _ _ => rfl)))
    (pss_cons (ps_set (i := 6) sc_l_binary.nd rfl (Or.inl rfl) (pe_c C_law_tree hr (by first | decide | omega) pass0 (pa_cons (pv 0) (pa_cons (pv 1) (pa_cons (pe_op op_sub (pv 2) pe_int) (pa_cons (pe_ix (r := rIxL K) ix_list (pe_lst (pa_cons pe_int (pa_cons pe_int (pa_cons pe_int (pa_cons pe_int (pa_cons pe_int pa_nil)))))) (pv 4) (fun _ _ => rfl)) pa_nil))))))
    (pss_cons (ps_for PassesOwn.never rfl (pi_range1 (by rfl) T.range (pa_cons (pe_op op_add pe_int (PE.up (pe_ifExp (pt_cmpR op_ne (pv 4) pe_int (nomark _)) (pe_c C_law_take hr (by first | decide | omega) pass0 (pa_cons (pv 0) (pa_cons pe_int pa_nil))) pe_int))) pa_nil)) (pg_name (i := 7) sc_l_binary.nd rfl (Or.inl rfl)) (pss_cons (ps_set (i := 8) sc_l_binary.nd rfl (Or.inl rfl) (pe_ix (r := rIxL K) ix_list (pv 5) (pe_c C_law_take hr (by first | decide | omega) pass0 (pa_cons (pv 0) (pa_cons (pe_callB call_len_seq (by rfl) T.len PySem.boot_len (pa_cons (pv 5) pa_nil)) pa_nil))) (fun _ _ => rfl)))
    (pss_cons (ps_expr (pe_c C_law_token_out hr (by first | decide | omega) pass0 (pa_cons (pv 0) (pa_cons (pv 1) (pa_cons (pv 8) pa_nil)))))
    (pss_cons (ps_set (i := 9) sc_l_binary.nd rfl (Or.inl rfl) (pe_c C_law_tree hr (by first | decide | omega) pass0 (pa_cons (pv 0) (pa_cons (pv 1) (pa_cons (pe_op op_sub (pv 2) pe_int) (pa_cons (pe_ix (r := rIxL K) ix_list (pe_lst (pa_cons pe_int (pa_cons pe_int (pa_cons pe_int (pa_cons pe_int (pa_cons pe_int pa_nil)))))) (pv 4) (fun _ _ => rfl)) pa_nil))))))
    (pss_one (ps_set (i := 6) sc_l_binary.nd rfl (Or.inl rfl) (pe_tup (pa_cons pe_str (pa_cons (pe_ix (r := rIxT K) ix_tup (pv 6) pe_int (fun _ _ => rfl)) (pa_cons (pe_ix (r := rIxT K) ix_tup (pv 9) pe_int (fun _ _ => rfl)) (pa_cons (pv 8) (pa_cons (pv 6) (pa_cons (pv 9) pa_nil)))))))))))))
    (pss_one (ps_ret (pv 6))))))), ?_⟩
  have hc : cntT (k + 1) = 3 * cntT k + 5 := rfl
  have hp := cntT_pos k
  refine ⟨_, rfl, _, rfl, _, rfl, _, _, rfl, rfl, t, c, _, rfl, P0.1, by omega, by omega, fun r0 H1 g0 g1 b1 T1 => ⟨_, _, rfl, rfl, ?_⟩⟩
  have P1 := P0.take b1 T1
  obtain ⟨cc, ecc⟩ : ∃ cc : Nat, (L : Int) + r0 = (cc : Int) := ⟨((L : Int) + r0).toNat, by omega⟩
  have hcc : cc ≤ 4 := by omega
  have hLc : L ≤ cc := by omega
  simp only [ecc]
  refine ⟨by decide, fun p0 n0 => ⟨by decide, fun p1 n1 => ⟨by decide, fun p2 n2 => ⟨by decide, fun p3 n3 => ⟨by decide, fun p4 n4 => ⟨by show 5 ≤ sizeLine; decide, fun p n5 => ?_⟩⟩⟩⟩⟩⟩
  obtain ⟨s2, hp2, hsg⟩ := sg_heap n0 rfl n1 rfl n2 rfl n3 rfl n4 rfl n5 rfl
  obtain ⟨x, ss, hx, hx2, hsT, hne, hl2⟩ := hsg cc hcc
  refine ⟨_, rfl, p, _, _, _, rfl, rfl, SqL.of hp2, at_of rfl hx, ?_⟩
  have P2 := P1.same s2
  generalize upd _ p _ = H2 at s2 hx2 P2 ⊢
  have b02 : But2 t o H H2 := (But2.tape b1).trans (But2.of s2)
  refine ⟨_, rfl, _, rfl, _, rfl, _, _, rfl, rfl, by show 5 ≤ sizeLine; decide, fun p6 n6 => ⟨_, rfl, p6, _, _, _, rfl, rfl, SqL.of upd_same, at_of rfl (lv_at hcc), ?_⟩⟩
  have s3 := same_new (o := .lst [.int 1, .int 2, .int 3, .int 4, .int 5]) n6
  refine ⟨t, c, o, k, cc + 1, ws, args4, hk, by omega, fun e => absurd e (by omega), P2.same s3, by omega, fun H4 nl tn v pr ln dn D4 P4 b4 => ?_⟩
  obtain ⟨tp0, htp, pr0⟩ := pr_op hcc pr
  have hx4 : H4 x = some (.lst (ss.map V.str)) := by
    have h3 := s3 _ _ hx2
    obtain ⟨T3, z, hz, _⟩ := P2.same s3
    exact b4 _ _ (T3.ne h3 (by intro k e; cases e)) (ne_of h3 hz (by intro e; cases e)) h3
  refine ⟨fun v H5 => ∃ r : Nat, v = .int (r : Int) ∧ r < 2 ∧ (cc = 2 → r = 0) ∧ Pn H5 t c o (ws ++ nl) ∧ But2 t o H4 H5, ?_, ?_⟩
  · refine ⟨_, rfl, rfl, _, rfl, ?_⟩
    by_cases h2 : cc = 2
    · exact iteNS (by rw [h2]; rfl) ⟨0, rfl, by decide, fun _ => rfl, P4, But2.refl⟩
    · refine iteNN (fun e => h2 (by injection e with e; omega)) ?_
      exact ⟨_, rfl, t, c, 2, rfl, P4.1, by decide, by decide, fun r H5 g2 g3 b5 T5 => ⟨r.toNat, by rw [Int.toNat_of_nonneg g2], by omega, fun e => absurd e h2, P4.take b5 T5, But2.tape b5⟩⟩
  rintro v1 H5 ⟨r, rfl, hr2, hrc, P5, b5⟩
  refine ⟨_, _, rfl, rfl, 1 + (r : Int), rfl, by omega, by omega, ?_⟩
  have tk4 := P2.same s3
  have hrk := rk_lv hcc
  have D5 := D4.keep (P4.tups b5)
  have b05 : But2 t o H H5 := b02.trans ((But2.of s3).trans (b4.trans b5))
  have lstK : ∀ {H' H'' : Hp} {ws' : List Wd}, Pn H' t c o ws' → But2 t o H' H'' → H' x = some (.lst (ss.map V.str)) → H'' x = some (.lst (ss.map V.str)) := fun P b h3 => by
    obtain ⟨T3, z, hz, _⟩ := P
    exact b _ _ (T3.ne h3 (by intro k e; cases e)) (ne_of h3 hz (by intro e; cases e)) h3
  have hx5 := lstK P4 b5 hx4
  refine for_range (lo := 0) (n := (1 + (r : Int)).toNat) (fun i σ H' => ∃ (v7 v8 v9 : Option V) (tn : Tn) (nw : List Wd) (v : V) (tp : Nat), σ = [some (.ref t), some (.ref o), some (.int ((k + 1 : Nat) : Int)), some (.int (L : Int)), some (.int (cc : Int)), some (.ref x), some v, v7, v8, v9] ∧
    RdG k (cc + 1) (rkC cc) nw tn tp ∧ (i = 0 → rkC cc ≤ tp) ∧ (0 < i → tp = Src.topR (rkC cc)) ∧ DT H' tn.d v ∧ Pn H' t c o (ws ++ nw) ∧ But2 t o H H' ∧ H' x = some (.lst (ss.map V.str)) ∧ nw.length ≤ cntT k + i * (cntT k + 1) ∧ dep tn.d ≤ 2 * k + 1 + i)
    ⟨none, none, none, tn, nl, v, tp0, rfl, pr0.mono (Nat.le_refl _) (Nat.le_refl _) (by omega), fun _ => htp, fun h => absurd h (by decide), D5, P5, b05, hx5, by omega, dn⟩ ?_ ?_
  · rintro i σ H6 hi ⟨v7, v8, v9, tn, nw, v, tp, rfl, pr, hz, hz2, D6, P6, b6, hx6, ln, dn⟩
    have hi2 : i ≤ 1 := by omega
    have hmul : i * (cntT k + 1) ≤ 1 * (cntT k + 1) := Nat.mul_le_mul_right _ hi2
    have hmul2 : (i + 1) * (cntT k + 1) = i * (cntT k + 1) + (cntT k + 1) := Nat.succ_mul _ _
    have htop : rkC cc ≤ tp := by
      by_cases h : i = 0
      · exact hz h
      · rw [hz2 (by omega)]
        have : cc ≠ 2 := fun e => by have := hrc e; omega
        have all : ∀ c : Fin 5, (c : Nat) ≠ 2 → rkC c ≤ Src.topR (rkC c) := by decide
        exact all ⟨cc, by omega⟩ this
    have hsl : (ss.map V.str).length = ss.length := List.length_map _
    have hpos : 0 < ss.length := List.length_pos_iff.mpr hne
    refine ⟨_, rfl, _, rfl, _, rfl, x, _, rfl, .inl (SqL.of hx6), t, c, _, rfl, P6.1, by rw [hsl]; omega, by rw [hsl]; omega, fun m H7 g2 g3 b7 T7 => ?_⟩
    have P7 := P6.take b7 T7
    have hx7 := lstK P6 (But2.tape b7) hx6
    rw [hsl] at g3
    obtain ⟨m, rfl⟩ : ∃ m' : Nat, m = (m' : Int) := ⟨m.toNat, by omega⟩
    have hm : m < ss.length := by omega
    have gm := List.getElem?_eq_getElem hm
    generalize ss[m] = y at gm
    obtain ⟨k1, k2, k3, k4, k5⟩ := sgT_ok hsT (List.mem_of_getElem? gm)
    refine ⟨x, _, _, _, rfl, rfl, SqL.of hx7, at_of rfl (show (ss.map V.str)[m]? = some (V.str y) by rw [List.getElem?_map, gm]; rfl), ?_⟩
    refine ⟨_, rfl, _, rfl, _, rfl, t, c, o, y, _, rfl, P7, k2, k3, by rw [List.length_append]; omega, fun wd H8 e8 P8 b8 => ?_⟩
    refine ⟨_, rfl, _, rfl, _, rfl, _, _, rfl, rfl, by show 5 ≤ sizeLine; decide, fun p7 n7 => ⟨_, rfl, p7, _, _, _, rfl, rfl, SqL.of upd_same, at_of rfl (lv_at hcc), ?_⟩⟩
    have s9 := same_new (o := .lst [.int 1, .int 2, .int 3, .int 4, .int 5]) n7
    refine ⟨t, c, o, k, cc + 1, _, args4, hk, by omega, fun e => absurd e (by omega), P8.same s9, by rw [List.length_append, List.length_append, List.length_singleton]; omega, fun H9 nr tr vr prr lr dr D9 P9 b9 => ?_⟩
    obtain ⟨tpr, _, prr⟩ := pr_op hcc prr
    have D9l := (((D6.keep (P6.tups (But2.tape b7))).keep (P7.tups b8)).keep (P8.tups (But2.of s9))).keep ((P8.same s9).tups b9)
    have hx9 := lstK (P8.same s9) b9 (s9 _ _ (lstK P7 b8 hx7))
    obtain ⟨al, vsl, rfl, hal, hsl1, _⟩ := Tn.e_at D9l
    obtain ⟨ar, vsr, rfl, har, _, her⟩ := Tn.e_at D9
    refine ⟨_, rfl, al, _, _, _, rfl, rfl, .inl (.inl hal), hsl1, _, rfl, ar, _, _, _, rfl, rfl, .inl (.inl har), her, _, rfl, _, rfl, _, rfl, by show 6 ≤ sizeLine; decide, fun q1 nq => ?_⟩
    have s10 := same_new (o := .tup [.str "binary", .int (tn.s : Int), .int (tr.e : Int), .str y, .ref al, .ref ar]) nq
    have hy : strL wd.1 = y := by rw [e8, strL_tlP]
    have eqw : ws ++ nw ++ [wd] ++ nr = ws ++ (nw ++ wd :: nr) := by simp
    rw [eqw] at P9
    have hrw : Src.rank wd.1 = rkC cc := by rw [e8]; exact k1
    have big := RdG.bin pr prr (w := wd) (by rw [hrw]; exact hrk) (by rw [hrw]; exact Nat.le_refl _) (by rw [hrw]; exact htop) (by rw [e8]; exact k4) (by rw [e8]; exact k5)
    rw [hrw] at big
    refine ⟨_, _, _, Src.binT tn tr wd.1, nw ++ wd :: nr, _, Src.topR (rkC cc), rfl, big, fun h => absurd h (by omega), fun _ => rfl, Tn.mk_ (r := [.str y, .ref al, .ref ar]) upd_same (.cons ?_ (.cons (D9l.keep fun _ _ h => s10 _ _ h) (.cons (D9.keep fun _ _ h => s10 _ _ h) .nil))) (by show 6 ≤ 1000000; decide), P9.same s10, ?_, s10 _ _ hx9, ?_, ?_⟩
    · rw [hy]; exact DT.str
    · exact b6.trans ((But2.tape b7).trans (b8.trans ((But2.of s9).trans (b9.trans (But2.of s10)))))
    · rw [List.length_append, List.length_cons]
      omega
    · have := dep_tn_le (m := 2 * k + 1 + i) (t := Src.binT tn tr wd.1) (fun d hd => by
        have hd : d ∈ [Sn.D.str (strL wd.1), tn.d, tr.d] := hd
        simp only [List.mem_cons, List.mem_singleton, List.not_mem_nil, or_false] at hd
        rcases hd with rfl | rfl | rfl
        · exact Nat.zero_le _
        · exact dn
        · omega)
      omega
  · rintro σ H6 ⟨v7, v8, v9, tn, nw, v, tp, rfl, pr, hz, hz2, D6, P6, b6, hx6, ln, dn⟩
    have hmul : (1 + (r : Int)).toNat * (cntT k + 1) ≤ 2 * (cntT k + 1) := Nat.mul_le_mul_right _ (by omega)
    obtain ⟨h1, h2⟩ := rk_all hLc hcc
    exact ⟨_, rfl, q _ nw tn v (pr_G hL (pr.mono (Nat.le_succ k) (Nat.le_refl _) (Nat.le_refl _)) (by omega) h1 (by rw [hz2 (by omega)]; exact h2)) (by omega) (by omega) D6 P6 b6⟩
end

end Sn

namespace Sn
open PySem PySem.Spec PyProof.Rows L2 TL
/-! ### the law's printing: wide trees, all trees -/
def spWide (n : Nat) : Sp := fun vs H Q _ => ∃ (t c o : Addr) (k x : Nat) (ws : List Wd), vs = [.ref t, .ref o, .int ((k + 1 : Nat) : Int), .int (x : Int)] ∧ k < n ∧ 11 ≤ x ∧ x ≤ 13 ∧ Pn H t c o ws ∧ ws.length + cntT (k + 1) ≤ 1000 ∧ MkQ t c o ws (RdV (k + 1)) (cntT (k + 1)) (2 * (k + 1) + 1) H Q
section
variable {P : Program} {w : World} {K : PySem.W.Frag} {mg : Str → Option Value} {base : Heap} {f : Addr} {fd : FuncData} {n j : Nat}
abbrev s_l_wide : Stmt := topS 43
abbrev N_l_wide : List Str := ["tape", "out", "depth", "choice", "start", "test", "yes", "no", "word", "name", "name_start", "first", "count", "step", "body"]
theorem sc_l_wide : FnScope N_l_wide ["tape", "out", "depth", "choice"] (defScope s_l_wide) := ⟨rfl, rfl, rfl, by decide +kernel, rfl, by decide +kernel, by decide +kernel⟩
theorem ok_l_wide (F : Fun K "_law_wide" "_law_wide" s_l_wide f fd) (T : Nm mg) (hj : 3 ≤ j) (C_law_some_name : Cal P w K mg base CX0 2 "_law_some_name" spName) (C_law_token_out : Cal P w K mg base CX0 3 "_law_token_out" spTok)
    (C_law_tree : Cal P w K mg base CX0 j "_law_tree" (spTree n)) : FnOk P w K mg base CX0 (j + 1) f fd ["tape", "out", "depth", "choice"] (spWide n) := by
  refine F.ok sc_l_wide (fun vs H Q E h => ?_) (fun cdv A outer s H vs Q E hr h => ?_)
  · obtain ⟨t, c, o, k, x, ws, rfl, _⟩ := h
    rfl
  obtain ⟨t, c, o, k, x, ws, rfl, hk, hx0, hx1, P0, hw, q⟩ := h
  refine ⟨_, (pss_cons (ps_if (pt_cmpR op_eq (pv 3) pe_int (nomark _)) (pss_cons (ps_set (i := 4) sc_l_wide.nd rfl (Or.inl rfl) (pe_c C_law_token_out hr (by first | decide | omega) pass0 (pa_cons (pv 0) (pa_cons (pv 1) (pa_cons pe_str pa_nil)))))
    (pss_cons (ps_set (i := 5) sc_l_wide.nd rfl (Or.inl rfl) (pe_c C_law_tree hr (by first | decide | omega) pass0 (pa_cons (pv 0) (pa_cons (pv 1) (pa_cons (pe_op op_sub (pv 2) pe_int) (pa_cons pe_int pa_nil))))))
    (pss_cons (ps_expr (pe_c C_law_token_out hr (by first | decide | omega) pass0 (pa_cons (pv 0) (pa_cons (pv 1) (pa_cons pe_str pa_nil)))))
    (pss_cons (ps_set (i := 6) sc_l_wide.nd rfl (Or.inl rfl) (pe_c C_law_tree hr (by first | decide | omega) pass0 (pa_cons (pv 0) (pa_cons (pv 1) (pa_cons (pe_op op_sub (pv 2) pe_int) (pa_cons pe_int pa_nil))))))
    (pss_cons (ps_expr (pe_c C_law_token_out hr (by first | decide | omega) pass0 (pa_cons (pv 0) (pa_cons (pv 1) (pa_cons pe_str pa_nil)))))
    (pss_cons (ps_set (i := 7) sc_l_wide.nd rfl (Or.inl rfl) (pe_c C_law_tree hr (by first | decide | omega) pass0 (pa_cons (pv 0) (pa_cons (pv 1) (pa_cons (pe_op op_sub (pv 2) pe_int) (pa_cons pe_int pa_nil))))))
    (pss_one (ps_ret (pe_tup (pa_cons pe_str (pa_cons (pv 4) (pa_cons (pe_ix (r := rIxT K) ix_tup (pv 7) pe_int (fun _ _ => rfl)) (pa_cons (pv 5) (pa_cons (pv 6) (pa_cons (pv 7) pa_nil))))))))))))))) pss_nil)
    (pss_cons (ps_set (i := 8) sc_l_wide.nd rfl (Or.inl rfl) (pe_ix (r := rIxL K) ix_list (pe_lst (pa_cons pe_str (pa_cons pe_str pa_nil))) (pe_op op_sub (pv 3) pe_int) (fun _ _ => rfl)))
    (pss_cons (ps_set (i := 4) sc_l_wide.nd rfl (Or.inl rfl) (pe_c C_law_token_out hr (by first | decide | omega) pass0 (pa_cons (pv 0) (pa_cons (pv 1) (pa_cons (pv 8) pa_nil)))))
    (pss_cons (ps_set (i := 9) sc_l_wide.nd rfl (Or.inl rfl) (pe_c C_law_some_name hr (by first | decide | omega) pass0 (pa_cons (pv 0) pa_nil)))
    (pss_cons (ps_set (i := 10) sc_l_wide.nd rfl (Or.inl rfl) (pe_c C_law_token_out hr (by first | decide | omega) pass0 (pa_cons (pv 0) (pa_cons (pv 1) (pa_cons (pv 9) pa_nil)))))
    (pss_cons (ps_expr (pe_c C_law_token_out hr (by first | decide | omega) pass0 (pa_cons (pv 0) (pa_cons (pv 1) (pa_cons pe_str pa_nil)))))
    (pss_cons (ps_set (i := 11) sc_l_wide.nd rfl (Or.inl rfl) (pe_c C_law_tree hr (by first | decide | omega) pass0 (pa_cons (pv 0) (pa_cons (pv 1) (pa_cons (pe_op op_sub (pv 2) pe_int) (pa_cons pe_int pa_nil))))))
    (pss_cons (ps_if (pt_cmpR op_eq (pv 8) pe_str (nomark _)) (pss_cons (ps_expr (pe_c C_law_token_out hr (by first | decide | omega) pass0 (pa_cons (pv 0) (pa_cons (pv 1) (pa_cons pe_str pa_nil)))))
    (pss_cons (ps_set (i := 12) sc_l_wide.nd rfl (Or.inl rfl) (pe_c C_law_tree hr (by first | decide | omega) pass0 (pa_cons (pv 0) (pa_cons (pv 1) (pa_cons (pe_op op_sub (pv 2) pe_int) (pa_cons pe_int pa_nil))))))
    (pss_cons (ps_expr (pe_c C_law_token_out hr (by first | decide | omega) pass0 (pa_cons (pv 0) (pa_cons (pv 1) (pa_cons pe_str pa_nil)))))
    (pss_cons (ps_set (i := 13) sc_l_wide.nd rfl (Or.inl rfl) (pe_c C_law_tree hr (by first | decide | omega) pass0 (pa_cons (pv 0) (pa_cons (pv 1) (pa_cons (pe_op op_sub (pv 2) pe_int) (pa_cons pe_int pa_nil))))))
    (pss_one (ps_ret (pe_tup (pa_cons (pv 8) (pa_cons (pv 4) (pa_cons (pe_ix (r := rIxT K) ix_tup (pv 13) pe_int (fun _ _ => rfl)) (pa_cons (pv 9) (pa_cons (pv 10) (pa_cons (pv 11) (pa_cons (pv 12) (pa_cons (pv 13) pa_nil))))))))))))))) pss_nil)
    (pss_cons (ps_expr (pe_c C_law_token_out hr (by first | decide | omega) pass0 (pa_cons (pv 0) (pa_cons (pv 1) (pa_cons pe_str pa_nil)))))
    (pss_cons (ps_set (i := 14) sc_l_wide.nd rfl (Or.inl rfl) (pe_c C_law_tree hr (by first | decide | omega) pass0 (pa_cons (pv 0) (pa_cons (pv 1) (pa_cons (pe_op op_sub (pv 2) pe_int) (pa_cons pe_int pa_nil))))))
    (pss_one (ps_ret (pe_tup (pa_cons (pv 8) (pa_cons (pv 4) (pa_cons (pe_ix (r := rIxT K) ix_tup (pv 14) pe_int (fun _ _ => rfl)) (pa_cons (pv 9) (pa_cons (pv 10) (pa_cons (pv 11) (pa_cons (pv 14) pa_nil)))))))))))))))))))), ?_⟩
  have hc : cntT (k + 1) = 3 * cntT k + 5 := rfl
  have hp := cntT_pos k
  have lna : ∀ (a : List Wd) (b : Wd), (a ++ [b]).length = a.length + 1 := fun a b => by simp
  refine ⟨_, rfl, rfl, _, rfl, ?_⟩
  refine ite2 (fun _ => ?_) (fun h => ?_)
  · refine ⟨_, rfl, _, rfl, t, c, o, "if", _, rfl, P0, by decide +kernel, by decide +kernel, by omega, fun w1 H1 e1 P1 b1 => ?_⟩
    refine ⟨_, rfl, _, rfl, _, rfl, _, _, rfl, rfl, t, c, o, k, 0, _, args4, hk, by omega, fun e => absurd e (by omega), P1, by rw [lna]; omega, fun H2 n1 t1 v1 pr1 l1 d1 D1 P2 b2 => ?_⟩
    refine ⟨_, rfl, _, rfl, t, c, o, "then", _, rfl, P2, by decide +kernel, by decide +kernel, by rw [List.length_append, lna]; omega, fun w2 H3 e2 P3 b3 => ?_⟩
    refine ⟨_, rfl, _, rfl, _, rfl, _, _, rfl, rfl, t, c, o, k, 0, _, args4, hk, by omega, fun e => absurd e (by omega), P3, by rw [lna, List.length_append, lna]; omega, fun H4 n2 t2 v2 pr2 l2 d2 D2 P4 b4 => ?_⟩
    refine ⟨_, rfl, _, rfl, t, c, o, "else", _, rfl, P4, by decide +kernel, by decide +kernel, by rw [List.length_append, lna, List.length_append, lna]; omega, fun w3 H5 e3 P5 b5 => ?_⟩
    refine ⟨_, rfl, _, rfl, _, rfl, _, _, rfl, rfl, t, c, o, k, 0, _, args4, hk, by omega, fun e => absurd e (by omega), P5, by rw [lna, List.length_append, lna, List.length_append, lna]; omega, fun H6 n3 t3 v3 pr3 l3 d3 D3 P6 b6 => ?_⟩
    have D1' := (((D1.keep (P2.tups b3)).keep (P3.tups b4)).keep (P4.tups b5)).keep (P5.tups b6)
    have D2' := (D2.keep (P4.tups b5)).keep (P5.tups b6)
    obtain ⟨a1, vs1, rfl, _, _, _⟩ := Tn.e_at D1'
    obtain ⟨a2, vs2, rfl, _, _, _⟩ := Tn.e_at D2'
    obtain ⟨a3, vs3, rfl, ha, _, he⟩ := Tn.e_at D3
    refine ⟨_, rfl, _, rfl, a3, _, _, _, rfl, rfl, .inl (.inl ha), he, _, rfl, _, rfl, _, rfl, by show 6 ≤ sizeLine; decide, fun q1 nq => ?_⟩
    have s7 := same_new (o := .tup [.str "if", .int (w1.2 : Int), .int (t3.e : Int), .ref a1, .ref a2, .ref a3]) nq
    have eqw : ws ++ [w1] ++ n1 ++ [w2] ++ n2 ++ [w3] ++ n3 = ws ++ (w1 :: (n1 ++ w2 :: (n2 ++ w3 :: n3))) := by simp
    rw [eqw] at P6
    refine q _ _ ⟨"if", w1.2, t3.e, [t1.d, t2.d, t3.d]⟩ _ (rdv_if pr1 pr2 pr3 e1 e2 e3) (by simp only [List.length_cons, List.length_append]; omega) (dep_tn_le (m := 2 * (k + 1)) fun d hd => ?_) (Tn.mk_ (r := [.ref a1, .ref a2, .ref a3]) upd_same (.cons (D1'.keep fun _ _ h => s7 _ _ h) (.cons (D2'.keep fun _ _ h => s7 _ _ h) (.cons (D3.keep fun _ _ h => s7 _ _ h) .nil))) (by show 6 ≤ 1000000; decide)) (P6.same s7) (b1.trans (b2.trans (b3.trans (b4.trans (b5.trans (b6.trans (But2.of s7)))))))
    have hd : d ∈ [t1.d, t2.d, t3.d] := hd
    simp only [List.mem_cons, List.mem_singleton, List.not_mem_nil, or_false] at hd
    rcases hd with rfl | rfl | rfl <;> omega
  · have hx : x = 12 ∨ x = 13 := by
      by_cases h11 : x = 11
      · exact absurd (decide_eq_true (by rw [h11]; rfl)) h
      · omega
    refine ⟨by decide, fun p0 n0 => ?_⟩
    have s0 := same_new (o := .lst [.str "let", .str "loop"]) n0
    obtain ⟨lp, y, hy, hy2⟩ : ∃ (lp : Bool) (y : Str), atI [V.str "let", .str "loop"] ((x : Int) - 12) = some (.str y) ∧ y = (if lp = true then "loop" else "let") := by
      rcases hx with rfl | rfl
      · exact ⟨false, "let", rfl, rfl⟩
      · exact ⟨true, "loop", rfl, rfl⟩
    have ty : tl y = if lp = true then tl "loop" else tl "let" := by rw [hy2]; cases lp <;> rfl
    have k1 : tkOk (tl y) = true := by rw [ty]; cases lp <;> decide +kernel
    have k2 : (tl y).length ≤ 25 := by rw [ty]; cases lp <;> decide +kernel
    refine ⟨_, rfl, _, _, rfl, rfl, p0, _, _, _, rfl, rfl, SqL.of upd_same, hy, ?_⟩
    have P0' := P0.same s0
    refine ⟨_, rfl, _, rfl, _, rfl, t, c, o, y, _, rfl, P0', k1, k2, by omega, fun w1 H1 e1 P1 b1 => ?_⟩
    refine ⟨_, rfl, t, c, rfl, P1.1, fun x2 H2 m1 m2 m3 b2 T2 => ?_⟩
    have P2 := P1.take b2 T2
    refine ⟨_, rfl, _, rfl, _, rfl, t, c, o, x2, _, rfl, P2, m2, m3, by rw [lna]; omega, fun wn H3 en P3 b3 => ?_⟩
    refine ⟨_, rfl, _, rfl, t, c, o, "=", _, rfl, P3, by decide +kernel, by decide +kernel, by rw [lna, lna]; omega, fun w2 H4 e2 P4 b4 => ?_⟩
    refine ⟨_, rfl, _, rfl, _, rfl, _, _, rfl, rfl, t, c, o, k, 0, _, args4, hk, by omega, fun e => absurd e (by omega), P4, by rw [lna, lna, lna]; omega, fun H5 n1 t1 v1 pr1 l1 d1 D1 P5 b5 => ?_⟩
    have b05 : But2 t o H H5 := (But2.of s0).trans (b1.trans ((But2.tape b2).trans (b3.trans (b4.trans b5))))
    have hxn : strL wn.1 = x2 := by rw [en, strL_tlP]
    refine ⟨_, rfl, rfl, _, rfl, ?_⟩
    cases lp with
    | true =>
      have ey : y = "loop" := hy2
      refine iteP (by rw [ey]) ?_
      refine ⟨_, rfl, _, rfl, t, c, o, "times", _, rfl, P5, by decide +kernel, by decide +kernel, by rw [List.length_append, lna, lna, lna]; omega, fun w3 H6 e3 P6 b6 => ?_⟩
      refine ⟨_, rfl, _, rfl, _, rfl, _, _, rfl, rfl, t, c, o, k, 0, _, args4, hk, by omega, fun e => absurd e (by omega), P6, by rw [lna, List.length_append, lna, lna, lna]; omega, fun H7 n2 t2 v2 pr2 l2 d2 D2 P7 b7 => ?_⟩
      refine ⟨_, rfl, _, rfl, t, c, o, "do", _, rfl, P7, by decide +kernel, by decide +kernel, by rw [List.length_append, lna, List.length_append, lna, lna, lna]; omega, fun w4 H8 e4 P8 b8 => ?_⟩
      refine ⟨_, rfl, _, rfl, _, rfl, _, _, rfl, rfl, t, c, o, k, 0, _, args4, hk, by omega, fun e => absurd e (by omega), P8, by rw [lna, List.length_append, lna, List.length_append, lna, lna, lna]; omega, fun H9 n3 t3 v3 pr3 l3 d3 D3 P9 b9 => ?_⟩
      have D1' := (((D1.keep (P5.tups b6)).keep (P6.tups b7)).keep (P7.tups b8)).keep (P8.tups b9)
      have D2' := (D2.keep (P7.tups b8)).keep (P8.tups b9)
      obtain ⟨a1, vs1, rfl, _, _, _⟩ := Tn.e_at D1'
      obtain ⟨a2, vs2, rfl, _, _, _⟩ := Tn.e_at D2'
      obtain ⟨a3, vs3, rfl, ha, _, he⟩ := Tn.e_at D3
      refine ⟨_, rfl, _, rfl, _, rfl, a3, _, _, _, rfl, rfl, .inl (.inl ha), he, _, rfl, _, rfl, _, rfl, _, rfl, _, rfl, by show 8 ≤ sizeLine; decide, fun q1 nq => ?_⟩
      have s7 := same_new (o := .tup [.str y, .int (w1.2 : Int), .int (t3.e : Int), .str x2, .int (wn.2 : Int), .ref a1, .ref a2, .ref a3]) nq
      have eqw : ws ++ [w1] ++ [wn] ++ [w2] ++ n1 ++ [w3] ++ n2 ++ [w4] ++ n3 = ws ++ (w1 :: wn :: w2 :: (n1 ++ w3 :: (n2 ++ w4 :: n3))) := by simp
      rw [eqw] at P9
      refine q _ _ ⟨"loop", w1.2, t3.e, [.str (strL wn.1), .int (wn.2 : Int), t1.d, t2.d, t3.d]⟩ _ (rdv_loop pr1 pr2 pr3 (by rw [e1]; exact ty) (by rw [en]; exact m1) e2 e3 e4) (by simp only [List.length_cons, List.length_append]; omega) (dep_tn_le (m := 2 * (k + 1)) fun d hd => ?_) (Tn.mk_ (r := [.str x2, .int (wn.2 : Int), .ref a1, .ref a2, .ref a3]) ?_ (.cons ?_ (.cons DT.int (.cons (D1'.keep fun _ _ h => s7 _ _ h) (.cons (D2'.keep fun _ _ h => s7 _ _ h) (.cons (D3.keep fun _ _ h => s7 _ _ h) .nil))))) (by show 8 ≤ 1000000; decide)) (P9.same s7) (b05.trans (b6.trans (b7.trans (b8.trans (b9.trans (But2.of s7))))))
      · have hd : d ∈ [Sn.D.str (strL wn.1), Sn.D.int (wn.2 : Int), t1.d, t2.d, t3.d] := hd
        simp only [List.mem_cons, List.mem_singleton, List.not_mem_nil, or_false] at hd
        rcases hd with rfl | rfl | rfl | rfl | rfl
        · exact Nat.zero_le _
        · exact Nat.zero_le _
        · omega
        · omega
        · omega
      · rw [upd_same, ey]
      · rw [hxn]; exact DT.str
    | false =>
      have ey : y = "let" := hy2
      refine iteN (by rw [ey]; intro e; injection e with e; exact absurd e (by decide +kernel)) ?_
      refine ⟨_, rfl, _, rfl, t, c, o, "in", _, rfl, P5, by decide +kernel, by decide +kernel, by rw [List.length_append, lna, lna, lna]; omega, fun w3 H6 e3 P6 b6 => ?_⟩
      refine ⟨_, rfl, _, rfl, _, rfl, _, _, rfl, rfl, t, c, o, k, 0, _, args4, hk, by omega, fun e => absurd e (by omega), P6, by rw [lna, List.length_append, lna, lna, lna]; omega, fun H7 n2 t2 v2 pr2 l2 d2 D2 P7 b7 => ?_⟩
      have D1' := (D1.keep (P5.tups b6)).keep (P6.tups b7)
      obtain ⟨a1, vs1, rfl, _, _, _⟩ := Tn.e_at D1'
      obtain ⟨a2, vs2, rfl, ha, _, he⟩ := Tn.e_at D2
      refine ⟨_, rfl, _, rfl, _, rfl, a2, _, _, _, rfl, rfl, .inl (.inl ha), he, _, rfl, _, rfl, _, rfl, _, rfl, by show 7 ≤ sizeLine; decide, fun q1 nq => ?_⟩
      have s7 := same_new (o := .tup [.str y, .int (w1.2 : Int), .int (t2.e : Int), .str x2, .int (wn.2 : Int), .ref a1, .ref a2]) nq
      have eqw : ws ++ [w1] ++ [wn] ++ [w2] ++ n1 ++ [w3] ++ n2 = ws ++ (w1 :: wn :: w2 :: (n1 ++ w3 :: n2)) := by simp
      rw [eqw] at P7
      refine q _ _ ⟨"let", w1.2, t2.e, [.str (strL wn.1), .int (wn.2 : Int), t1.d, t2.d]⟩ _ (rdv_let pr1 pr2 (by rw [e1]; exact ty) (by rw [en]; exact m1) e2 e3) (by simp only [List.length_cons, List.length_append]; omega) (dep_tn_le (m := 2 * (k + 1)) fun d hd => ?_) (Tn.mk_ (r := [.str x2, .int (wn.2 : Int), .ref a1, .ref a2]) ?_ (.cons ?_ (.cons DT.int (.cons (D1'.keep fun _ _ h => s7 _ _ h) (.cons (D2.keep fun _ _ h => s7 _ _ h) .nil)))) (by show 7 ≤ 1000000; decide)) (P7.same s7) (b05.trans (b6.trans (b7.trans (But2.of s7))))
      · have hd : d ∈ [Sn.D.str (strL wn.1), Sn.D.int (wn.2 : Int), t1.d, t2.d] := hd
        simp only [List.mem_cons, List.mem_singleton, List.not_mem_nil, or_false] at hd
        rcases hd with rfl | rfl | rfl | rfl
        · exact Nat.zero_le _
        · exact Nat.zero_le _
        · omega
        · omega
      · rw [upd_same, ey]
      · rw [hxn]; exact DT.str
abbrev s_l_tree : Stmt := topS 37
abbrev N_l_tree : List Str := ["tape", "out", "depth", "level", "choice", "name", "start", "inner", "end"]
theorem sc_l_tree : FnScope N_l_tree ["tape", "out", "depth", "level"] (defScope s_l_tree) := ⟨rfl, rfl, rfl, by decide +kernel, rfl, by decide +kernel, by decide +kernel⟩
theorem pr_D {L : Nat} {nw : List Wd} {t : Tn} (k : Nat) (q : RdD nw t) (hL : L ≤ 6) : Pr k L nw t := by
  by_cases h : L = 6
  · subst h; exact q
  · exact pr_S (q.s.mono (Nat.zero_le k)) (by omega)
theorem ok_l_tree (F : Fun K "_law_tree" "_law_tree" s_l_tree f fd) (T : Nm mg) (hj : 4 ≤ j) (C_law_take : Cal P w K mg base CX0 1 "_law_take" spTake) (C_law_some_name : Cal P w K mg base CX0 2 "_law_some_name" spName) (C_law_token_out : Cal P w K mg base CX0 3 "_law_token_out" spTok)
    (C_law_leaf : Cal P w K mg base CX0 4 "_law_leaf" spLeaf) (C_law_call : Cal P w K mg base CX0 (j + 1) "_law_call" (spForm RdS n)) (C_law_reach : Cal P w K mg base CX0 (j + 1) "_law_reach" (spForm (fun _ => RdD) n)) (C_law_prefix : Cal P w K mg base CX0 (j + 1) "_law_prefix" (spPrefix n))
    (C_law_binary : Cal P w K mg base CX0 (j + 1) "_law_binary" (spBin n)) (C_law_wide : Cal P w K mg base CX0 (j + 1) "_law_wide" (spWide n)) (C_law_tree : Cal P w K mg base CX0 j "_law_tree" (spTree n)) :
    FnOk P w K mg base CX0 (j + 2) f fd ["tape", "out", "depth", "level"] (spTree (n + 1)) := by
  refine F.ok sc_l_tree (fun vs H Q E h => ?_) (fun cdv A outer s H vs Q E hr h => ?_)
  · obtain ⟨t, c, o, k, L, ws, rfl, _⟩ := h
    rfl
  obtain ⟨t, c, o, k, L, ws, rfl, hk, hL, hL6, P0, hw, q⟩ := h
  refine ⟨_, (pss_cons (ps_set (i := 4) sc_l_tree.nd rfl (Or.inl rfl) (PE.up (pe_ifExp (pt_cmpR op_gt (pv 2) pe_int (nomark _)) (pe_c C_law_take hr (by first | decide | omega) pass0 (pa_cons (pv 0) (pa_cons pe_int pa_nil))) (pe_c C_law_take hr (by first | decide | omega) pass0 (pa_cons (pv 0) (pa_cons pe_int pa_nil))))))
    (C8.pss_cut (ps_if (PW.pt (pw_and (pt_cmpR op_eq (pv 3) pe_int (nomark _)) (pw_and1 (pt_cmpR op_gt (pv 4) pe_int (nomark _))))) (pss_one (ps_ret (pe_c C_law_wide hr (by first | decide | omega) pass0 (pa_cons (pv 0) (pa_cons (pv 1) (pa_cons (pv 2) (pa_cons (pv 4) pa_nil))))))) pss_nil)
    (pss_cons (ps_if (pt_cmpR op_lt (pv 4) pe_int (nomark _)) (pss_one (ps_ret (pe_c C_law_leaf hr (by first | decide | omega) pass0 (pa_cons (pv 0) (pa_cons (pv 1) (pa_cons (pv 4) pa_nil)))))) pss_nil)
    (pss_cons (ps_if (pt_cmpR op_lt (pv 4) pe_int (nomark _)) (pss_cons (ps_set (i := 5) sc_l_tree.nd rfl (Or.inl rfl) (pe_c C_law_some_name hr (by first | decide | omega) pass0 (pa_cons (pv 0) pa_nil)))
    (pss_cons (ps_set (i := 6) sc_l_tree.nd rfl (Or.inl rfl) (pe_c C_law_token_out hr (by first | decide | omega) pass0 (pa_cons (pv 0) (pa_cons (pv 1) (pa_cons (pv 5) pa_nil)))))
    (pss_one (ps_ret (pe_tup (pa_cons pe_str (pa_cons (pv 6) (pa_cons (pe_op op_add (pv 6) (pe_callB call_len_str (by rfl) T.len PySem.boot_len (pa_cons (pv 5) pa_nil))) (pa_cons (pv 5) pa_nil))))))))) pss_nil)
    (pss_cons (ps_if (pt_cmpR op_eq (pv 4) pe_int (nomark _)) (pss_one (ps_ret (pe_c C_law_call hr (by first | decide | omega) pass0 (pa_cons (pv 0) (pa_cons (pv 1) (pa_cons (pv 2) pa_nil)))))) pss_nil)
    (pss_cons (ps_if (pt_cmpR op_eq (pv 4) pe_int (nomark _)) (pss_one (ps_ret (pe_c C_law_reach hr (by first | decide | omega) pass0 (pa_cons (pv 0) (pa_cons (pv 1) (pa_cons (pv 2) pa_nil)))))) pss_nil)
    (C8.pss_cut (ps_if (PW.pt (pw_and (pt_cmpR op_eq (pv 4) pe_int (nomark _)) (pw_and1 (pt_cmpR op_lt (pv 3) pe_int (nomark _))))) (pss_one (ps_ret (pe_c C_law_prefix hr (by first | decide | omega) pass0 (pa_cons (pv 0) (pa_cons (pv 1) (pa_cons (pv 2) (pa_cons pe_str (pa_cons pe_str (pa_cons pe_int pa_nil))))))))) pss_nil)
    (C8.pss_cut (ps_if (PW.pt (pw_and (pt_cmpR op_eq (pv 4) pe_int (nomark _)) (pw_and1 (pt_cmpR op_lt (pv 3) pe_int (nomark _))))) (pss_one (ps_ret (pe_c C_law_prefix hr (by first | decide | omega) pass0 (pa_cons (pv 0) (pa_cons (pv 1) (pa_cons (pv 2) (pa_cons pe_str (pa_cons pe_str (pa_cons pe_int pa_nil))))))))) pss_nil)
    (C8.pss_cut (ps_if (PW.pt (pw_and (pt_cmpR op_lt (pv 4) pe_int (nomark _)) (pw_and1 (pt_cmpR op_lt (pv 3) pe_int (nomark _))))) (pss_one (ps_ret (pe_c C_law_binary hr (by first | decide | omega) pass0 (pa_cons (pv 0) (pa_cons (pv 1) (pa_cons (pv 2) (pa_cons (pv 3) pa_nil))))))) pss_nil)
    (pss_cons (ps_set (i := 6) sc_l_tree.nd rfl (Or.inl rfl) (pe_c C_law_token_out hr (by first | decide | omega) pass0 (pa_cons (pv 0) (pa_cons (pv 1) (pa_cons pe_str pa_nil)))))
    (pss_cons (ps_set (i := 7) sc_l_tree.nd rfl (Or.inl rfl) (pe_c C_law_tree hr (by first | decide | omega) pass0 (pa_cons (pv 0) (pa_cons (pv 1) (pa_cons (pe_op op_sub (pv 2) pe_int) (pa_cons pe_int pa_nil))))))
    (pss_cons (ps_set (i := 8) sc_l_tree.nd rfl (Or.inl rfl) (pe_op op_add (pe_c C_law_token_out hr (by first | decide | omega) pass0 (pa_cons (pv 0) (pa_cons (pv 1) (pa_cons pe_str pa_nil)))) pe_int))
    (pss_one (ps_ret (pe_tup (pa_cons pe_str (pa_cons (pv 6) (pa_cons (pv 8) (pa_cons (pv 7) pa_nil))))))))))))))))))), ?_⟩
  have hp := cntT_pos k
  refine ⟨fun v H1 => ∃ x : Nat, v = .int (x : Int) ∧ x < 14 ∧ (k = 0 → x < 4) ∧ Pn H1 t c o ws ∧ But2 t o H H1, ?_, ?_⟩
  · refine ⟨_, rfl, _, _, rfl, rfl, _, rfl, ?_⟩
    refine ite2 (fun h => ?_) (fun h => ?_)
    · have h0 : 0 < k := by have := of_decide_eq_true h; omega
      exact ⟨_, rfl, t, c, 14, rfl, P0.1, by decide, by decide, fun r H1 g0 g1 b1 T1 => ⟨r.toNat, by rw [Int.toNat_of_nonneg g0], by omega, fun e => by omega, P0.take b1 T1, But2.tape b1⟩⟩
    · exact ⟨_, rfl, t, c, 4, rfl, P0.1, by decide, by decide, fun r H1 g0 g1 b1 T1 => ⟨r.toNat, by rw [Int.toNat_of_nonneg g0], by omega, fun e => by omega, P0.take b1 T1, But2.tape b1⟩⟩
  rintro v H1 ⟨x, rfl, hx, hx0, P1, b1⟩
  have q1 : MkQ t c o ws (Pr k L) (cntT k) (2 * k + 1) H1 Q := fun H' nw tn v a1 a2 a3 a4 a5 a6 => q H' nw tn v a1 a2 a3 a4 a5 (b1.trans a6)
  have pos : 4 ≤ x → ∃ k', k = k' + 1 ∧ k' < n := fun h => ⟨k - 1, by have := hx0; omega, by have := hx0; omega⟩
  have dn : ∀ {a b : Nat}, (V.int (a : Int) = V.int (b : Int)) ↔ a = b := fun {a b} => ⟨fun e => by injection e with e; omega, fun e => by rw [e]⟩
  -- wide trees
  refine ⟨fun σ H2 => σ = [some (.ref t), some (.ref o), some (.int (k : Int)), some (.int (L : Int)), some (.int (x : Int)), none, none, none, none] ∧ H2 = H1 ∧ ¬ (L = 0 ∧ 10 < x), ?_, ?_⟩
  · refine ⟨_, rfl, rfl, _, rfl, ?_⟩
    refine ite2 (fun h => ?_) (fun h => ⟨rfl, rfl, fun e => h (decide_eq_true (by rw [e.1]; rfl))⟩)
    have h := of_decide_eq_true h
    have hL0 : L = 0 := by injection h with h; omega
    refine ⟨_, rfl, _, _, rfl, rfl, _, rfl, ?_⟩
    refine ite2 (fun h => ?_) (fun h => ⟨rfl, rfl, fun e => h (decide_eq_true (show (10 : Int) < (x : Int) by omega))⟩)
    have h : (10 : Int) < (x : Int) := of_decide_eq_true h
    obtain ⟨k', rfl, hk'⟩ := pos (by omega)
    subst hL0
    exact ⟨_, rfl, _, rfl, _, rfl, _, rfl, t, c, o, k', x, ws, rfl, hk', by omega, by omega, P1, hw, q1⟩
  rintro σ H2 ⟨rfl, rfl, hW⟩
  -- leaves
  refine ⟨_, rfl, _, _, rfl, rfl, _, rfl, ?_⟩
  refine ite2 (fun h => ?_) (fun h => ?_)
  · exact ⟨_, rfl, _, rfl, _, rfl, t, c, o, x, ws, rfl, P1, by omega, fun H' nw tn v a1 a2 a3 a4 a5 a6 => q1 H' nw tn v (pr_D k a1 hL) (by omega) (by omega) a4 a5 a6⟩
  have hx2 : 2 ≤ x := by
    by_cases h2 : 2 ≤ x
    · exact h2
    · exact absurd (decide_eq_true (show (x : Int) < 2 by omega)) h
  -- names
  refine ⟨_, rfl, _, _, rfl, rfl, _, rfl, ?_⟩
  refine ite2 (fun h => ?_) (fun h => ?_)
  · refine ⟨_, rfl, t, c, rfl, P1.1, fun y H3 m1 m2 m3 b3 T3 => ?_⟩
    have P3 := P1.take b3 T3
    refine ⟨_, rfl, _, rfl, _, rfl, t, c, o, y, ws, rfl, P3, m2, m3, by omega, fun wd H4 e4 P4 b4 => ?_⟩
    refine ⟨_, rfl, _, rfl, _, rfl, y, rfl, small (by rw [len_tl]; omega), _, _, rfl, rfl, _, rfl, by show 4 ≤ sizeLine; decide, fun q1' nq => ?_⟩
    have s7 := same_new (o := .tup [.str "name", .int (wd.2 : Int), .int ((wd.2 : Int) + (y.length : Int)), .str y]) nq
    have hy : strL wd.1 = y := by rw [e4, strL_tlP]
    refine q1 _ [wd] ⟨"name", wd.2, wd.2 + wd.1.length, [.str (strL wd.1)]⟩ _ (pr_D k (rdd_name (by rw [e4]; exact m1)) hL) (by show 1 ≤ _; omega) (by show 1 ≤ 2 * k + 1; omega) (Tn.mk_ (r := [.str y]) ?_ (.cons ?_ .nil) (by show 4 ≤ 1000000; decide)) (P4.same s7) ((But2.tape b3).trans (b4.trans (But2.of s7)))
    · rw [upd_same, e4]
      congr 1
    · rw [hy]; exact DT.str
  have hx4 : 4 ≤ x := by
    by_cases h2 : 4 ≤ x
    · exact h2
    · exact absurd (decide_eq_true (show (x : Int) < 4 by omega)) h
  obtain ⟨k', rfl, hk'⟩ := pos hx4
  have hL5 : L ≤ 5 := by omega
  have hc : cntT (k' + 1) = 3 * cntT k' + 5 := rfl
  -- calls
  refine ⟨_, rfl, rfl, _, rfl, ?_⟩
  refine ite2 (fun h => ?_) (fun h4 => ?_)
  · exact ⟨_, rfl, _, rfl, _, rfl, t, c, o, k', ws, rfl, hk', P1, hw, fun H' nw tn v a1 a2 a3 a4 a5 a6 => q1 H' nw tn v (pr_S a1 hL5) a2 a3 a4 a5 a6⟩
  -- fields
  refine ⟨_, rfl, rfl, _, rfl, ?_⟩
  refine ite2 (fun h => ?_) (fun h5 => ?_)
  · exact ⟨_, rfl, _, rfl, _, rfl, t, c, o, k', ws, rfl, hk', P1, hw, fun H' nw tn v a1 a2 a3 a4 a5 a6 => q1 H' nw tn v (pr_D _ a1 hL) a2 a3 a4 a5 a6⟩
  -- minus
  refine ⟨fun σ H3 => σ = [some (.ref t), some (.ref o), some (.int ((k' + 1 : Nat) : Int)), some (.int (L : Int)), some (.int (x : Int)), none, none, none, none] ∧ H3 = H2, ?_, ?_⟩
  · refine ⟨_, rfl, rfl, _, rfl, ?_⟩
    refine ite2 (fun h => ?_) (fun h => ⟨rfl, rfl⟩)
    refine ⟨_, rfl, _, _, rfl, rfl, _, rfl, ?_⟩
    refine ite2 (fun h => ?_) (fun h => ⟨rfl, rfl⟩)
    refine ⟨_, rfl, _, rfl, _, rfl, t, c, o, k', 5, "minus", "-", ws, rfl, hk', by decide, P1, hw, by decide +kernel, by decide +kernel, fun H' nw tn v a1 a2 a3 a4 a5 a6 => ?_⟩
    obtain ⟨wd, nw', t', e1, pr, rfl, rfl⟩ := a1
    exact q1 H' _ _ v (pr_S (rds_minus pr e1) hL5) a2 a3 a4 a5 a6
  rintro σ H3 ⟨rfl, rfl⟩
  -- not
  refine ⟨fun σ H4 => σ = [some (.ref t), some (.ref o), some (.int ((k' + 1 : Nat) : Int)), some (.int (L : Int)), some (.int (x : Int)), none, none, none, none] ∧ H4 = H3, ?_, ?_⟩
  · refine ⟨_, rfl, rfl, _, rfl, ?_⟩
    refine ite2 (fun h => ?_) (fun h => ⟨rfl, rfl⟩)
    refine ⟨_, rfl, _, _, rfl, rfl, _, rfl, ?_⟩
    refine ite2 (fun h => ?_) (fun h => ⟨rfl, rfl⟩)
    have hL2 : (L : Int) < 3 := of_decide_eq_true h
    refine ⟨_, rfl, _, rfl, _, rfl, t, c, o, k', 2, "not", "not", ws, rfl, hk', by decide, P1, hw, by decide +kernel, by decide +kernel, fun H' nw tn v a1 a2 a3 a4 a5 a6 => ?_⟩
    obtain ⟨wd, nw', t', e1, pr, rfl, rfl⟩ := a1
    obtain ⟨tp, _, pr⟩ := pr
    have hle := lvM_mono (show L ≤ 2 by omega)
    exact q1 H' _ _ v (pr_G (by omega) (rdg_not pr e1) (by omega) hle (by have : lvM 2 = 3 := rfl; omega)) a2 a3 a4 a5 a6
  rintro σ H4 ⟨rfl, rfl⟩
  -- binary
  refine ⟨fun σ H5 => σ = [some (.ref t), some (.ref o), some (.int ((k' + 1 : Nat) : Int)), some (.int (L : Int)), some (.int (x : Int)), none, none, none, none] ∧ H5 = H4, ?_, ?_⟩
  · refine ⟨_, rfl, _, _, rfl, rfl, _, rfl, ?_⟩
    refine ite2 (fun h => ?_) (fun h => ⟨rfl, rfl⟩)
    refine ⟨_, rfl, _, _, rfl, rfl, _, rfl, ?_⟩
    refine ite2 (fun h => ?_) (fun h => ⟨rfl, rfl⟩)
    have hL4 : (L : Int) < 5 := of_decide_eq_true h
    exact ⟨_, rfl, _, rfl, _, rfl, _, rfl, t, c, o, k', L, ws, rfl, hk', by omega, P1, hw, q1⟩
  rintro σ H5 ⟨rfl, rfl⟩
  -- groups
  refine ⟨_, rfl, _, rfl, t, c, o, "(", _, rfl, P1, by decide +kernel, by decide +kernel, by omega, fun w1 H6 e6 P6 b6 => ?_⟩
  refine ⟨_, rfl, _, rfl, _, rfl, _, _, rfl, rfl, t, c, o, k', 0, _, args4, hk', by omega, fun e => absurd e (by omega), P6, by rw [List.length_append, List.length_singleton]; omega, fun H7 nw tn v pr ln dp D7 P7 b7 => ?_⟩
  refine ⟨_, rfl, _, rfl, t, c, o, ")", _, rfl, P7, by decide +kernel, by decide +kernel, by rw [List.length_append, List.length_append, List.length_singleton]; omega, fun w2 H8 e8 P8 b8 => ⟨_, _, rfl, rfl, ?_⟩⟩
  have D8 := D7.keep (P7.tups b8)
  refine ⟨_, rfl, _, rfl, _, rfl, by show 4 ≤ sizeLine; decide, fun q2 nq => ?_⟩
  have hq1 : w2.1.length = 1 := by rw [e8]; decide +kernel
  have s9 := same_new (o := .tup [.str "group", .int (w1.2 : Int), .int ((w2.2 : Int) + 1), v]) nq
  have eqw : ws ++ [w1] ++ nw ++ [w2] = ws ++ (w1 :: (nw ++ [w2])) := by simp
  rw [eqw] at P8
  refine q1 _ _ ⟨"group", w1.2, w2.2 + w2.1.length, [tn.d]⟩ _ (pr_S (rds_group pr e6 e8) hL5) (by simp only [List.length_cons, List.length_append, List.length_nil]; omega) (dep_tn_le (m := 2 * (k' + 1)) fun d hd => ?_) (Tn.mk_ (r := [v]) ?_ (.cons (D8.keep fun _ _ h => s9 _ _ h) .nil) (by show 4 ≤ 1000000; decide)) (P8.same s9) (b6.trans (b7.trans (b8.trans (But2.of s9))))
  · have hd : d ∈ [tn.d] := hd
    rw [List.mem_singleton.mp hd]
    omega
  · rw [upd_same, hq1]
    congr 1
end

end Sn

namespace Sn
open PySem PySem.Spec PyProof.Rows L2 TL
/-! ### all of the law's printing, by how deep it goes -/
section
variable {P : Program} {w : World} {K : PySem.W.Frag} {mg : Str → Option Value} {base : Heap}
theorem trees_all (T : Nm mg) (C_law_take : Cal P w K mg base CX0 1 "_law_take" spTake) (C_law_some_name : Cal P w K mg base CX0 2 "_law_some_name" spName) (C_law_token_out : Cal P w K mg base CX0 3 "_law_token_out" spTok) (C_law_leaf : Cal P w K mg base CX0 4 "_law_leaf" spLeaf)
    (p_tree : PF K mg "_law_tree" s_l_tree ["tape", "out", "depth", "level"]) (p_call : PF K mg "_law_call" s_l_call ["tape", "out", "depth"]) (p_reach : PF K mg "_law_reach" s_l_reach ["tape", "out", "depth"])
    (p_prefix : PF K mg "_law_prefix" s_l_prefix ["tape", "out", "depth", "word", "sign", "level"]) (p_binary : PF K mg "_law_binary" s_l_binary ["tape", "out", "depth", "level"]) (p_wide : PF K mg "_law_wide" s_l_wide ["tape", "out", "depth", "choice"]) :
    ∀ n, Cal P w K mg base CX0 (4 + 2 * n) "_law_tree" (spTree n)
  | 0 => p_tree.cal fun f fd F => no_fn fun vs H Q E h => by
    obtain ⟨t, c, o, k, L, ws, _, hk, _⟩ := h
    exact absurd hk (Nat.not_lt_zero _)
  | n + 1 => by
    have C := trees_all T C_law_take C_law_some_name C_law_token_out C_law_leaf p_tree p_call p_reach p_prefix p_binary p_wide n
    have c1 := p_call.cal (P := P) (w := w) (base := base) fun f fd F => ok_l_call F T (j := 4 + 2 * n) (by omega) C_law_take C_law_some_name C_law_token_out C
    have c2 := p_reach.cal (P := P) (w := w) (base := base) fun f fd F => ok_l_reach F T (j := 4 + 2 * n) (by omega) C_law_take C_law_some_name C_law_token_out C
    have c3 := p_prefix.cal (P := P) (w := w) (base := base) fun f fd F => ok_l_prefix F T (j := 4 + 2 * n) (by omega) C_law_token_out C
    have c4 := p_binary.cal (P := P) (w := w) (base := base) fun f fd F => ok_l_binary F T (j := 4 + 2 * n) (by omega) C_law_take C_law_token_out C
    have c5 := p_wide.cal (P := P) (w := w) (base := base) fun f fd F => ok_l_wide F T (j := 4 + 2 * n) (by omega) C_law_some_name C_law_token_out C
    exact p_tree.cal fun f fd F => ok_l_tree F T (j := 4 + 2 * n) (by omega) C_law_take C_law_some_name C_law_token_out C_law_leaf c1 c2 c3 c4 c5 C
end

end Sn

namespace Sn
open PySem PySem.Spec PyProof.Rows L2 TL
/-! ### the law's printing: marks, lists, brackets -/
def elR (cl : Nat) : Src → Nat → Rs D := match cl with
  | 0 => fun S => S.markR
  | 1 => fun S => S.boundR
  | _ => fun S => S.fieldR
def spLMark : Sp := fun vs H Q _ => ∃ (t c o : Addr) (ws : List Wd), vs = [.ref t, .ref o] ∧ Pn H t c o ws ∧ ws.length ≤ 1990 ∧ ∀ (wd : Wd) H' v, sortW wd.1 = "name" → DT H' (mkT wd) v → Pn H' t c o (ws ++ [wd]) → But2 t o H H' → Q v H'
def spLList : Sp := fun vs H Q _ => ∃ (t c o : Addr) (m cl : Nat) (ws : List Wd), vs = [.ref t, .ref o, .int (m : Int), .int (cl : Int)] ∧ 1 ≤ m ∧ m ≤ 3 ∧ cl ≤ 2 ∧ Pn H t c o ws ∧ ws.length ≤ 1900 ∧
  ∀ (nw : List Wd) (xs : List D) H' v, SqR (elR cl) nw xs → nw.length ≤ 11 → (∀ x ∈ xs, dep x ≤ 2) → DT H' (tD xs) v → Pn H' t c o (ws ++ nw) → But2 t o H H' → Q v H'
def spLBr : Sp := fun vs H Q _ => ∃ (t c o : Addr) (b : Bool) (ws : List Wd), vs = [.ref t, .ref o, .bl b] ∧ Pn H t c o ws ∧ ws.length ≤ 1800 ∧
  ∀ (nw : List Wd) (mk : D) (xs : List D) H' v, (if b = true then ∃ wf, mk = mkT wf ∧ TrB nw wf xs else mk = .non ∧ FlB nw xs) → nw.length ≤ 15 → (∀ x ∈ xs, dep x ≤ 2) → DT H' (tD [mk, tD xs]) v → Pn H' t c o (ws ++ nw) → But2 t o H H' → Q v H'
section
variable {P : Program} {w : World} {K : PySem.W.Frag} {mg : Str → Option Value} {base : Heap} {f : Addr} {fd : FuncData}
abbrev s_l_mark : Stmt := topS 44
abbrev N_l_mark : List Str := ["tape", "out", "name"]
theorem sc_l_mark : FnScope N_l_mark ["tape", "out"] (defScope s_l_mark) := ⟨rfl, rfl, rfl, by decide +kernel, rfl, by decide +kernel, by decide +kernel⟩
theorem ok_l_mark (F : Fun K "_law_mark" "_law_mark" s_l_mark f fd) (T : Nm mg) (C_law_some_name : Cal P w K mg base CX0 2 "_law_some_name" spName) (C_law_token_out : Cal P w K mg base CX0 3 "_law_token_out" spTok) : FnOk P w K mg base CX0 4 f fd ["tape", "out"] spLMark := by
  refine F.ok sc_l_mark (fun vs H Q E h => ?_) (fun cdv A outer s H vs Q E hr h => ?_)
  · obtain ⟨t, c, o, ws, rfl, _⟩ := h
    rfl
  obtain ⟨t, c, o, ws, rfl, P0, hw, q⟩ := h
  refine ⟨_, (pss_cons (ps_set (i := 2) sc_l_mark.nd rfl (Or.inl rfl) (pe_c C_law_some_name hr (by first | decide | omega) pass0 (pa_cons (pv 0) pa_nil)))
    (pss_one (ps_ret (pe_tup (pa_cons (pv 2) (pa_cons (pe_c C_law_token_out hr (by first | decide | omega) pass0 (pa_cons (pv 0) (pa_cons (pv 1) (pa_cons (pv 2) pa_nil)))) pa_nil)))))), ?_⟩
  refine ⟨_, rfl, t, c, rfl, P0.1, fun x H1 n1 n2 n3 b1 T1 => ?_⟩
  have P1 := P0.take b1 T1
  refine ⟨_, rfl, _, rfl, _, rfl, _, rfl, t, c, o, x, ws, rfl, P1, n2, n3, by omega, fun wd H2 e2 P2 b2 => ?_⟩
  refine ⟨by show 2 ≤ sizeLine; decide, fun u nu => ?_⟩
  have su := same_new (o := .tup [.str x, .int (wd.2 : Int)]) nu
  have hx : strL wd.1 = x := by rw [e2, strL_tlP]
  refine q wd _ _ (by rw [e2]; exact n1) (.tup upd_same (by show 2 ≤ 1000000; decide) (.cons ?_ (.cons DT.int .nil))) (P2.same su) ((But2.tape b1).trans (b2.trans (But2.of su)))
  rw [hx]
  exact DT.str
abbrev s_l_list : Stmt := topS 45
abbrev N_l_list : List Str := ["tape", "out", "many", "colon", "found", "k", "mark", "other"]
theorem sc_l_list : FnScope N_l_list ["tape", "out", "many", "colon"] (defScope s_l_list) := ⟨rfl, rfl, rfl, by decide +kernel, rfl, by decide +kernel, by decide +kernel⟩
theorem ok_l_list (F : Fun K "_law_list" "_law_list" s_l_list f fd) (T : Nm mg) (C_law_take : Cal P w K mg base CX0 1 "_law_take" spTake) (C_law_mark : Cal P w K mg base CX0 4 "_law_mark" spLMark) (C_law_token_out : Cal P w K mg base CX0 3 "_law_token_out" spTok) :
    FnOk P w K mg base CX0 5 f fd ["tape", "out", "many", "colon"] spLList := by
  refine F.ok sc_l_list (fun vs H Q E h => ?_) (fun cdv A outer s H vs Q E hr h => ?_)
  · obtain ⟨t, c, o, m, cl, ws, rfl, _⟩ := h
    rfl
  obtain ⟨t, c, o, m, cl, ws, rfl, hm1, hm3, hcl, P0, hw, q⟩ := h
  refine ⟨_, (pss_cons (ps_set (i := 4) sc_l_list.nd rfl (Or.inl rfl) (pe_lst pa_nil))
    (pss_cons (ps_for PassesOwn.never rfl (pi_range1 (by rfl) T.range (pa_cons (pv 2) pa_nil)) (pg_name (i := 5) sc_l_list.nd rfl (Or.inl rfl)) (C8.pss_cut (ps_if (pt_cmpR op_gt (pv 5) pe_int (nomark _)) (pss_one (ps_expr (pe_c C_law_token_out hr (by first | decide | omega) pass0 (pa_cons (pv 0) (pa_cons (pv 1) (pa_cons pe_str pa_nil)))))) pss_nil)
    (pss_cons (ps_set (i := 6) sc_l_list.nd rfl (Or.inl rfl) (pe_c C_law_mark hr (by first | decide | omega) pass0 (pa_cons (pv 0) (pa_cons (pv 1) pa_nil))))
    (pss_cons (ps_set (i := 7) sc_l_list.nd rfl (Or.inl rfl) pe_non)
    (C8.pss_cut (ps_if (PW.pt (pw_or (pt_cmpR op_eq (pv 3) pe_int (nomark _)) (pw_or1 (PW.pt (pw_and (pt_cmpR op_eq (pv 3) pe_int (nomark _)) (pw_and1 (pt_cmpR op_eq (pe_c C_law_take hr (by first | decide | omega) pass0 (pa_cons (pv 0) (pa_cons pe_int pa_nil))) pe_int (nomark _)))))))) (pss_cons (ps_expr (pe_c C_law_token_out hr (by first | decide | omega) pass0 (pa_cons (pv 0) (pa_cons (pv 1) (pa_cons pe_str pa_nil)))))
    (pss_one (ps_set (i := 7) sc_l_list.nd rfl (Or.inl rfl) (pe_c C_law_mark hr (by first | decide | omega) pass0 (pa_cons (pv 0) (pa_cons (pv 1) pa_nil)))))) pss_nil)
    (pss_one (ps_expr (pe_bm PySem.F.plainAttrs_list PySem.F.slot_list_append PySem.F.type_list_append mt_append (pv 4) (pa_cons (PE.up (pe_ifExp (pt_cmpR op_gt (pv 3) pe_int (nomark _)) (pe_tup (pa_cons (pv 6) (pa_cons (pv 7) pa_nil))) (pv 6))) pa_nil)))))))))
    (pss_one (ps_ret (pe_callTy call_tuple_of (by rfl) T.tuple_ (by decide +kernel) (pa_cons (pv 4) pa_nil)))))), ?_⟩
  refine ⟨Nat.zero_le _, fun L nL => ?_⟩
  have s1 := same_new (o := .lst []) nL
  have DD := P0.fresh nL
  have P1 := P0.same s1
  have hL : upd H L (.lst []) L = some (.lst []) := upd_same
  have b1 : But2 t o H (upd H L (.lst [])) := But2.of s1
  generalize upd H L (.lst []) = H1 at P1 hL b1 ⊢
  refine ⟨_, rfl, (m : Int), rfl, by omega, by omega, ?_⟩
  refine for_range (lo := 0) (n := ((m : Nat) : Int).toNat) (fun i σ H' => ∃ (v5 v6 v7 : Option V) (xs : List D) (nw : List Wd) (vs : List V), σ = [some (.ref t), some (.ref o), some (.int (m : Int)), some (.int (cl : Int)), some (.ref L), v5, v6, v7] ∧
    H' L = some (.lst vs) ∧ DTs H' (ofL xs) vs ∧ Pn H' t c o (ws ++ nw) ∧ But2 t o H H' ∧ xs.length = i ∧ (i = 0 → nw = [] ∧ xs = []) ∧ (0 < i → SqR (elR cl) nw xs) ∧ nw.length ≤ 4 * i - 1 ∧ ∀ x ∈ xs, dep x ≤ 2)
    ⟨none, none, none, [], [], [], rfl, hL, DTs.nil, by rw [List.append_nil]; exact P1, b1, rfl, fun _ => ⟨rfl, rfl⟩, fun h => absurd h (by decide), Nat.zero_le _, fun _ h => absurd h (by simp)⟩ ?_ ?_
  · rintro i σ H2 hi ⟨v5, v6, v7, xs, nw, vs, rfl, hL2, hT2, P2, b2, hl, hz, hSq, hn, hdp⟩
    have hi2 : i ≤ 2 := by omega
    have ei : (0 : Int) + (i : Nat) = (i : Nat) := by omega
    rw [ei]
    -- the comma
    refine ⟨fun σ H3 => σ = [some (.ref t), some (.ref o), some (.int (m : Int)), some (.int (cl : Int)), some (.ref L), some (.int (i : Int)), v6, v7] ∧ ∃ ww : List Wd, ((ww = [] ∧ i = 0) ∨ ∃ wc : Wd, ww = [wc] ∧ wc.1 = tl "," ∧ 0 < i) ∧ Pn H3 t c o (ws ++ (nw ++ ww)) ∧ But2 t o H2 H3, ?_, ?_⟩
    · refine ⟨_, rfl, _, _, rfl, rfl, _, rfl, ?_⟩
      refine ite2 (fun h => ?_) (fun h => ?_)
      · have hi0 : 0 < i := by have := of_decide_eq_true h; omega
        refine ⟨_, rfl, _, rfl, t, c, o, ",", _, rfl, P2, by decide +kernel, by decide +kernel, by rw [List.length_append]; omega, fun wc H3 e3 P3 b3 => ⟨rfl, [wc], .inr ⟨wc, rfl, e3, hi0⟩, P3.app, b3⟩⟩
      · have hi0 : i = 0 := by
          by_cases k : i = 0
          · exact k
          · exact absurd (decide_eq_true (show (0 : Int) < (i : Int) by omega)) h
        exact ⟨rfl, [], .inl ⟨rfl, hi0⟩, by rw [List.append_nil]; exact P2, But2.refl⟩
    rintro σ H3 ⟨rfl, ww, hww, P3, b3⟩
    have hwl : ww.length ≤ 1 ∧ (i = 0 → ww = []) := by
      rcases hww with ⟨rfl, _⟩ | ⟨wc, rfl, _, h0⟩
      · exact ⟨Nat.zero_le _, fun _ => rfl⟩
      · exact ⟨Nat.le_refl _, fun e => absurd h0 (by omega)⟩
    have hlen : (ws ++ (nw ++ ww)).length ≤ 1950 := by rw [List.length_append, List.length_append]; omega
    refine ⟨_, rfl, _, rfl, t, c, o, _, rfl, P3, by omega, fun w1 H4 vm e4 D4 P4 b4 => ?_⟩
    -- what stands behind a colon
    refine ⟨fun σ H5 => ∃ (vo : V) (od : D) (n2 : List Wd), σ = [some (.ref t), some (.ref o), some (.int (m : Int)), some (.int (cl : Int)), some (.ref L), some (.int (i : Int)), some vm, some vo] ∧ DT H5 od vo ∧ Pn H5 t c o (ws ++ (nw ++ ww) ++ [w1] ++ n2) ∧ But2 t o H4 H5 ∧
      ((n2 = [] ∧ od = .non ∧ cl ≤ 1) ∨ ∃ wc w2, n2 = [wc, w2] ∧ wc.1 = tl ":" ∧ sortW w2.1 = "name" ∧ od = mkT w2 ∧ 1 ≤ cl), ?_, ?_⟩
    · have no : cl ≤ 1 → ∀ H5, Pn H5 t c o (ws ++ (nw ++ ww) ++ [w1]) → But2 t o H4 H5 → ∃ (vo : V) (od : D) (n2 : List Wd), [some (V.ref t), some (.ref o), some (.int (m : Int)), some (.int (cl : Int)), some (.ref L), some (.int (i : Int)), some vm, some .non] = [some (.ref t), some (.ref o), some (.int (m : Int)), some (.int (cl : Int)), some (.ref L), some (.int (i : Int)), some vm, some vo] ∧ DT H5 od vo ∧ Pn H5 t c o (ws ++ (nw ++ ww) ++ [w1] ++ n2) ∧ But2 t o H4 H5 ∧
          ((n2 = [] ∧ od = .non ∧ cl ≤ 1) ∨ ∃ wc w2, n2 = [wc, w2] ∧ wc.1 = tl ":" ∧ sortW w2.1 = "name" ∧ od = mkT w2 ∧ 1 ≤ cl) := fun h H5 P5 b5 => ⟨.non, .non, [], rfl, DT.non, by rw [List.append_nil]; exact P5, b5, .inl ⟨rfl, rfl, h⟩⟩
      have l4 : (ws ++ (nw ++ ww) ++ [w1]).length ≤ 1960 := by rw [List.length_append, List.length_singleton]; omega
      refine ⟨_, rfl, rfl, _, rfl, ?_⟩
      by_cases h2 : cl = 2
      · refine iteP (by rw [h2]; rfl) ?_
        refine ⟨_, rfl, _, rfl, t, c, o, ":", _, rfl, P4, by decide +kernel, by decide +kernel, by omega, fun wc H5 e5 P5 b5 => ?_⟩
        refine ⟨_, rfl, _, rfl, t, c, o, _, rfl, P5, by rw [List.length_append, List.length_singleton]; omega, fun w2 H6 vo e6 D6 P6 b6 => ?_⟩
        exact ⟨vo, mkT w2, [wc, w2], rfl, D6, by rw [show ws ++ (nw ++ ww) ++ [w1] ++ [wc, w2] = ws ++ (nw ++ ww) ++ [w1] ++ [wc] ++ [w2] by simp]; exact P6, b5.trans b6, .inr ⟨wc, w2, rfl, e5, e6, rfl, by omega⟩⟩
      · refine iteN (fun e => h2 (by injection e with e; omega)) ?_
        refine ⟨_, rfl, rfl, _, rfl, ?_⟩
        by_cases h1 : cl = 1
        · refine iteP (by rw [h1]; rfl) ?_
          refine ⟨_, rfl, t, c, 2, rfl, P4.1, by decide, by decide, fun r H5 g0 g1 b5 T5 => ?_⟩
          have P5 := P4.take b5 T5
          refine ⟨rfl, _, rfl, ?_⟩
          refine ite2 (fun _ => ?_) (fun _ => no (by omega) H5 P5 (But2.tape b5))
          refine ⟨_, rfl, _, rfl, t, c, o, ":", _, rfl, P5, by decide +kernel, by decide +kernel, by omega, fun wc H6 e6 P6 b6 => ?_⟩
          refine ⟨_, rfl, _, rfl, t, c, o, _, rfl, P6, by rw [List.length_append, List.length_singleton]; omega, fun w2 H7 vo e7 D7 P7 b7 => ?_⟩
          exact ⟨vo, mkT w2, [wc, w2], rfl, D7, by rw [show ws ++ (nw ++ ww) ++ [w1] ++ [wc, w2] = ws ++ (nw ++ ww) ++ [w1] ++ [wc] ++ [w2] by simp]; exact P7, (But2.tape b5).trans (b6.trans b7), .inr ⟨wc, w2, rfl, e6, e7, rfl, by omega⟩⟩
        · refine iteN (fun e => h1 (by injection e with e; omega)) ?_
          exact no (by omega) H4 P4 But2.refl
    rintro σ H5 ⟨vo, od, n2, rfl, Do, P5, b5, hod⟩
    have D5 := D4.keep (P4.tups b5)
    have hL5 : H5 L = some (.lst vs) := b5 _ _ DD.1 DD.2.2 (b4 _ _ DD.1 DD.2.2 (b3 _ _ DD.1 DD.2.2 hL2))
    refine ⟨_, rfl, .inl ⟨rfl, _, SqL.of hL5⟩, ?_⟩
    have b05 : But2 t o H H5 := b2.trans (b3.trans (b4.trans b5))
    have nL0 : H L = none := nL
    refine ⟨fun v H6 => ∃ x : D, ElR (elR cl) (w1 :: n2) x ∧ dep x ≤ 2 ∧ DT H6 x v ∧ Pn H6 t c o (ws ++ (nw ++ ww) ++ [w1] ++ n2) ∧ But2 t o H H6 ∧ H6 L = some (.lst vs) ∧ Tups H5 H6, ?_, ?_⟩
    · refine ⟨_, rfl, _, _, rfl, rfl, _, rfl, ?_⟩
      refine ite2 (fun h => ?_) (fun h => ?_)
      · have h0 : 0 < cl := by have := of_decide_eq_true h; omega
        refine ⟨_, rfl, _, rfl, by show 2 ≤ sizeLine; decide, fun u nu => ?_⟩
        have su := same_new (o := .tup [vm, vo]) nu
        refine ⟨tD [mkT w1, od], ?_, ?_, .tup upd_same (by show 2 ≤ 1000000; decide) (.cons (D5.keep fun _ _ h => su _ _ h) (.cons (Do.keep fun _ _ h => su _ _ h) .nil)), P5.same su, b05.trans (But2.of su), su _ _ hL5, fun _ _ h => su _ _ h⟩
        · rcases hod with ⟨rfl, rfl, hc⟩ | ⟨wc, w2, rfl, hc, hn, rfl, h1⟩
          · obtain rfl : cl = 1 := by omega
            exact el_bound1 e4
          · rcases (show cl = 1 ∨ cl = 2 by omega) with rfl | rfl
            · exact el_bound2 e4 hc hn
            · exact el_field e4 hc hn
        · rcases hod with ⟨rfl, rfl, hc⟩ | ⟨wc, w2, rfl, hc, hn, rfl, h1⟩
          · show max (max 0 (max 0 0) + 1) (max 0 0) + 1 ≤ 2
            decide
          · show max (max 0 (max 0 0) + 1) (max (max 0 (max 0 0) + 1) 0) + 1 ≤ 2
            decide
      · have h0 : cl = 0 := by
          by_cases k : cl = 0
          · exact k
          · exact absurd (decide_eq_true (show (0 : Int) < (cl : Int) by omega)) h
        rcases hod with ⟨rfl, rfl, hc⟩ | ⟨wc, w2, rfl, hc, hn, rfl, h1⟩
        · subst h0
          exact ⟨_, rfl, mkT w1, el_mark e4, by show 1 ≤ 2; decide, D5, P5, b05, hL5, fun _ _ h => h⟩
        · omega
    rintro v H6 ⟨x, hE, hdx, Dx, P6, b6, hL6, t56⟩
    have t25 : Tups H2 H5 := fun a u h => P4.tups b5 _ _ (P3.tups b4 _ _ (P2.tups b3 _ _ h))
    have tu : Tups H6 (upd H6 L (.lst (vs ++ [v]))) := fun a us h => by rw [upd_ne (fun e => by rw [e, hL6] at h; cases h)]; exact h
    have hvl := DTs.len _ _ hT2
    refine ⟨L, _, _, rfl, rfl, hL6, Nat.lt_of_lt_of_le (show vs.length < 1000 by omega) (by decide), ?_⟩
    have eqw : ws ++ (nw ++ ww) ++ [w1] ++ n2 = ws ++ (nw ++ ww ++ (w1 :: n2)) := by simp
    rw [eqw] at P6
    have hn2 : n2.length ≤ 2 := by
      rcases hod with ⟨rfl, _⟩ | ⟨wc, w2, rfl, _⟩
      · exact Nat.zero_le _
      · exact Nat.le_refl _
    refine ⟨_, _, _, xs ++ [x], nw ++ ww ++ (w1 :: n2), vs ++ [v], rfl, upd_same, DTs.snoc (Dx.keep tu) _ _ (((hT2.keep t25).keep t56).keep tu), P6.updL hL6 DD.2.1, fun b y n1 n2 h => ?_, by rw [List.length_append, List.length_singleton, hl], fun h => absurd h (by omega), fun _ => ?_, ?_, fun y hy => ?_⟩
    · rw [upd_ne (ne_of_none h nL0)]
      exact b6 _ _ n1 n2 h
    · rcases hww with ⟨rfl, h0⟩ | ⟨wc, rfl, hc, hi0⟩
      · obtain ⟨rfl, rfl⟩ := hz h0
        exact hE.one
      · rw [List.append_assoc]
        exact (hSq hi0).more hE hc
    · rw [List.length_append, List.length_append, List.length_cons]
      by_cases hi0 : i = 0
      · rw [(hz hi0).1, hwl.2 hi0]
        simp only [List.length_nil]
        omega
      · omega
    · rcases List.mem_append.mp hy with hy | hy
      · exact hdp y hy
      · rw [List.mem_singleton.mp hy]
        exact hdx
  · rintro σ H2 ⟨v5, v6, v7, xs, nw, vs, rfl, hL2, hT2, P2, b2, hl, hz, hSq, hn, hdp⟩
    have hvl := DTs.len _ _ hT2
    rw [Int.toNat_natCast] at hl hn hSq
    refine ⟨_, rfl, L, vs, rfl, .inl ⟨SqL.of hL2, fun p np => ?_⟩⟩
    have s8 := same_new (o := .tup vs) np
    exact q nw xs _ _ (hSq (by omega)) (by omega) hdp (.tup upd_same (by omega) (hT2.keep fun _ _ h => s8 _ _ h)) (P2.same s8) (b2.trans (But2.of s8))
end

end Sn

namespace Sn
open PySem PySem.Spec PyProof.Rows L2 TL
/-! ### the law's printing: items -/
theorem depT {ds : List D} {m : Nat} (h : ∀ d ∈ ds, dep d ≤ m) : dep (tD ds) ≤ m + 1 := by
  show dep (ofL ds) + 1 ≤ m + 1
  have := dep_ofL h
  omega
theorem dep_mk (w : Wd) : dep (mkT w) = 1 := rfl
/-- what an item's law part gives -/
def spLIt (m b : Nat) (pr : List Wd → D → Prop) : Sp := fun vs H Q _ => ∃ (t c o : Addr) (ws : List Wd), vs = [.ref t, .ref o] ∧ Pn H t c o ws ∧ ws.length ≤ m ∧
  ∀ (nw : List Wd) (x : D) H' v, pr nw x → nw.length ≤ b → dep x ≤ 6 → DT H' x v → Pn H' t c o (ws ++ nw) → But2 t o H H' → Q v H'
section
variable {P : Program} {w : World} {K : PySem.W.Frag} {mg : Str → Option Value} {base : Heap} {f : Addr} {fd : FuncData}
abbrev s_l_brackets : Stmt := topS 46
abbrev N_l_brackets : List Str := ["tape", "out", "first", "result", "mark", "many"]
theorem sc_l_brackets : FnScope N_l_brackets ["tape", "out", "first"] (defScope s_l_brackets) := ⟨rfl, rfl, rfl, by decide +kernel, rfl, by decide +kernel, by decide +kernel⟩
theorem ok_l_brackets (F : Fun K "_law_brackets" "_law_brackets" s_l_brackets f fd) (T : Nm mg) (C_law_take : Cal P w K mg base CX0 1 "_law_take" spTake) (C_law_mark : Cal P w K mg base CX0 4 "_law_mark" spLMark) (C_law_list : Cal P w K mg base CX0 5 "_law_list" spLList)
    (C_law_token_out : Cal P w K mg base CX0 3 "_law_token_out" spTok) : FnOk P w K mg base CX0 6 f fd ["tape", "out", "first"] spLBr := by
  refine F.ok sc_l_brackets (fun vs H Q E h => ?_) (fun cdv A outer s H vs Q E hr h => ?_)
  · obtain ⟨t, c, o, b, ws, rfl, _⟩ := h
    rfl
  obtain ⟨t, c, o, b, ws, rfl, P0, hw, q⟩ := h
  refine ⟨_, (pss_cons (ps_expr (pe_c C_law_token_out hr (by first | decide | omega) pass0 (pa_cons (pv 0) (pa_cons (pv 1) (pa_cons pe_str pa_nil)))))
    (pss_cons (ps_set (i := 3) sc_l_brackets.nd rfl (Or.inl rfl) (pe_tup pa_nil))
    (pss_cons (ps_set (i := 4) sc_l_brackets.nd rfl (Or.inl rfl) pe_non)
    (pss_cons (ps_if (pt_val (pv 2)) (pss_one (ps_set (i := 4) sc_l_brackets.nd rfl (Or.inl rfl) (pe_c C_law_mark hr (by first | decide | omega) pass0 (pa_cons (pv 0) (pa_cons (pv 1) pa_nil))))) pss_nil)
    (pss_cons (ps_set (i := 5) sc_l_brackets.nd rfl (Or.inl rfl) (pe_c C_law_take hr (by first | decide | omega) pass0 (pa_cons (pv 0) (pa_cons pe_int pa_nil))))
    (C8.pss_cut (ps_if (pt_cmpR op_gt (pv 5) pe_int (nomark _)) (pss_cons (ps_if (pt_val (pv 2)) (pss_one (ps_expr (pe_c C_law_token_out hr (by first | decide | omega) pass0 (pa_cons (pv 0) (pa_cons (pv 1) (pa_cons pe_str pa_nil)))))) pss_nil)
    (pss_one (ps_set (i := 3) sc_l_brackets.nd rfl (Or.inl rfl) (pe_c C_law_list hr (by first | decide | omega) pass0 (pa_cons (pv 0) (pa_cons (pv 1) (pa_cons (pv 5) (pa_cons pe_int pa_nil)))))))) pss_nil)
    (pss_cons (ps_expr (pe_c C_law_token_out hr (by first | decide | omega) pass0 (pa_cons (pv 0) (pa_cons (pv 1) (pa_cons pe_str pa_nil)))))
    (pss_one (ps_ret (pe_tup (pa_cons (pv 4) (pa_cons (pv 3) pa_nil)))))))))))), ?_⟩
  refine ⟨_, rfl, _, rfl, t, c, o, "(", _, rfl, P0, by decide +kernel, by decide +kernel, by omega, fun p1 H1 e1 P1 b1 => ?_⟩
  refine ⟨Nat.zero_le _, fun u nu => ?_⟩
  have su := same_new (o := .tup []) nu
  have P2 := P1.same su
  have De : DT (upd H1 u (.tup [])) (tD []) (.ref u) := .tup upd_same (Nat.zero_le _) .nil
  have b2 : But2 t o H (upd H1 u (.tup [])) := b1.trans (But2.of su)
  generalize upd H1 u (.tup []) = H2 at P2 De b2 ⊢
  have l1 : (ws ++ [p1]).length ≤ 1801 := by rw [List.length_append, List.length_singleton]; omega
  cases b with
  | false =>
    refine ⟨_, rfl, _, rfl, iteF ?_⟩
    refine ⟨_, rfl, t, c, 4, rfl, P2.1, by decide, by decide, fun r H3 g0 g1 b3 T3 => ?_⟩
    have P3 := P2.take b3 T3
    obtain ⟨m, rfl⟩ : ∃ m : Nat, r = (m : Int) := ⟨r.toNat, by omega⟩
    refine ⟨fun σ H4 => ∃ (v3 : V) (xs : List D) (nn : List Wd), σ = [some (.ref t), some (.ref o), some (.bl false), some v3, some .non, some (.int (m : Int))] ∧ DT H4 (tD xs) v3 ∧ Pn H4 t c o (ws ++ [p1] ++ nn) ∧ But2 t o H H4 ∧ ((nn = [] ∧ xs = []) ∨ SqR (fun S => S.fieldR) nn xs) ∧ nn.length ≤ 11 ∧ ∀ x ∈ xs, dep x ≤ 2, ?_, ?_⟩
    · refine ⟨_, rfl, _, _, rfl, rfl, _, rfl, ?_⟩
      refine ite2 (fun h => ?_) (fun h => ?_)
      · have hm : 1 ≤ m := by have := of_decide_eq_true h; omega
        refine ⟨_, rfl, _, rfl, iteF ?_⟩
        refine ⟨_, rfl, _, rfl, _, rfl, t, c, o, m, 2, _, rfl, hm, by omega, by decide, P3, by omega, fun nn xs H4 v hS hn hd D4 P4 b4 => ?_⟩
        exact ⟨v, xs, nn, rfl, D4, P4, b2.trans ((But2.tape b3).trans b4), .inr hS, hn, hd⟩
      · exact ⟨_, [], [], rfl, De.keep (P2.tups (But2.tape b3)), by rw [List.append_nil]; exact P3, b2.trans (But2.tape b3), .inl ⟨rfl, rfl⟩, Nat.zero_le _, fun _ h => absurd h (by simp)⟩
    rintro σ H4 ⟨v3, xs, nn, rfl, D4, P4, b4, hS, hn, hd⟩
    refine ⟨_, rfl, _, rfl, t, c, o, ")", _, rfl, P4, by decide +kernel, by decide +kernel, by rw [List.length_append]; omega, fun p2 H5 e5 P5 b5 => ?_⟩
    have D5 := D4.keep (P4.tups b5)
    refine ⟨_, rfl, _, rfl, by show 2 ≤ sizeLine; decide, fun y ny => ?_⟩
    have sy := same_new (o := .tup [V.non, v3]) ny
    have eqw : ws ++ [p1] ++ nn ++ [p2] = ws ++ (p1 :: (nn ++ [p2])) := by simp
    rw [eqw] at P5
    exact q _ .non xs _ _ ⟨rfl, p1, nn, p2, rfl, e1, e5, hS⟩ (by simp only [List.length_cons, List.length_append, List.length_nil]; omega) hd (.tup upd_same (by show 2 ≤ 1000000; decide) (.cons DT.non (.cons (D5.keep fun _ _ h => sy _ _ h) .nil))) (P5.same sy) (b4.trans (b5.trans (But2.of sy)))
  | true =>
    refine ⟨_, rfl, _, rfl, iteT ?_⟩
    refine ⟨_, rfl, _, rfl, t, c, o, _, rfl, P2, by omega, fun wf H2' vf nf Df P2' b2' => ?_⟩
    have De := De.keep (P2.tups b2')
    have l2 : (ws ++ [p1] ++ [wf]).length ≤ 1802 := by rw [List.length_append, List.length_singleton]; omega
    refine ⟨_, rfl, t, c, 4, rfl, P2'.1, by decide, by decide, fun r H3 g0 g1 b3 T3 => ?_⟩
    have P3 := P2'.take b3 T3
    have De := De.keep (P2'.tups (But2.tape b3))
    have Df := Df.keep (P2'.tups (But2.tape b3))
    have b03 : But2 t o H H3 := b2.trans (b2'.trans (But2.tape b3))
    obtain ⟨m, rfl⟩ : ∃ m : Nat, r = (m : Int) := ⟨r.toNat, by omega⟩
    refine ⟨fun σ H4 => ∃ (v3 : V) (xs : List D) (nn : List Wd), σ = [some (.ref t), some (.ref o), some (.bl true), some v3, some vf, some (.int (m : Int))] ∧ DT H4 (tD xs) v3 ∧ DT H4 (mkT wf) vf ∧ Pn H4 t c o (ws ++ [p1] ++ [wf] ++ nn) ∧ But2 t o H H4 ∧
      ((nn = [] ∧ xs = []) ∨ ∃ cc n', nn = cc :: n' ∧ cc.1 = tl "," ∧ SqR (fun S => S.fieldR) n' xs) ∧ nn.length ≤ 12 ∧ ∀ x ∈ xs, dep x ≤ 2, ?_, ?_⟩
    · refine ⟨_, rfl, _, _, rfl, rfl, _, rfl, ?_⟩
      refine ite2 (fun h => ?_) (fun h => ?_)
      · have hm : 1 ≤ m := by have := of_decide_eq_true h; omega
        refine ⟨_, rfl, _, rfl, iteT ?_⟩
        refine ⟨_, rfl, _, rfl, t, c, o, ",", _, rfl, P3, by decide +kernel, by decide +kernel, by omega, fun wc H4 e4 P4 b4 => ?_⟩
        refine ⟨_, rfl, _, rfl, _, rfl, t, c, o, m, 2, _, rfl, hm, by omega, by decide, P4, by rw [List.length_append, List.length_singleton]; omega, fun nn xs H5 v hS hn hd D5 P5 b5 => ?_⟩
        exact ⟨v, xs, wc :: nn, rfl, D5, (Df.keep (P3.tups b4)).keep (P4.tups b5), by rw [show ws ++ [p1] ++ [wf] ++ (wc :: nn) = ws ++ [p1] ++ [wf] ++ [wc] ++ nn by simp]; exact P5, b03.trans (b4.trans b5), .inr ⟨wc, nn, rfl, e4, hS⟩, by rw [List.length_cons]; omega, hd⟩
      · exact ⟨_, [], [], rfl, De, Df, by rw [List.append_nil]; exact P3, b03, .inl ⟨rfl, rfl⟩, Nat.zero_le _, fun _ h => absurd h (by simp)⟩
    rintro σ H4 ⟨v3, xs, nn, rfl, D4, Df4, P4, b4, hS, hn, hd⟩
    refine ⟨_, rfl, _, rfl, t, c, o, ")", _, rfl, P4, by decide +kernel, by decide +kernel, by rw [List.length_append]; omega, fun p2 H5 e5 P5 b5 => ?_⟩
    have D5 := D4.keep (P4.tups b5)
    have Df5 := Df4.keep (P4.tups b5)
    refine ⟨_, rfl, _, rfl, by show 2 ≤ sizeLine; decide, fun y ny => ?_⟩
    have sy := same_new (o := .tup [vf, v3]) ny
    have eqw : ws ++ [p1] ++ [wf] ++ nn ++ [p2] = ws ++ (p1 :: wf :: (nn ++ [p2])) := by simp
    rw [eqw] at P5
    exact q _ (mkT wf) xs _ _ ⟨wf, rfl, p1, nn, p2, rfl, e1, e5, nf, hS⟩ (by simp only [List.length_cons, List.length_append, List.length_nil]; omega) hd (.tup upd_same (by show 2 ≤ 1000000; decide) (.cons (Df5.keep fun _ _ h => sy _ _ h) (.cons (D5.keep fun _ _ h => sy _ _ h) .nil))) (P5.same sy) (b4.trans (b5.trans (But2.of sy)))
abbrev s_l_def : Stmt := topS 47
abbrev N_l_def : List Str := ["tape", "out", "mark", "bounds", "fields", "result"]
theorem sc_l_def : FnScope N_l_def ["tape", "out"] (defScope s_l_def) := ⟨rfl, rfl, rfl, by decide +kernel, rfl, by decide +kernel, by decide +kernel⟩
theorem ok_l_def (F : Fun K "_law_def" "_law_def" s_l_def f fd) (T : Nm mg) (C_law_take : Cal P w K mg base CX0 1 "_law_take" spTake) (C_law_mark : Cal P w K mg base CX0 4 "_law_mark" spLMark) (C_law_list : Cal P w K mg base CX0 5 "_law_list" spLList) (C_law_brackets : Cal P w K mg base CX0 6 "_law_brackets" spLBr)
    (C_law_token_out : Cal P w K mg base CX0 3 "_law_token_out" spTok) (C_law_tree : Cal P w K mg base CX0 12 "_law_tree" (spTree 4)) : FnOk P w K mg base CX0 13 f fd ["tape", "out"] (spLIt 100 62 DefR) := by
  refine F.ok sc_l_def (fun vs H Q E h => ?_) (fun cdv A outer s H vs Q E hr h => ?_)
  · obtain ⟨t, c, o, ws, rfl, _⟩ := h
    rfl
  obtain ⟨t, c, o, ws, rfl, P0, hw, q⟩ := h
  refine ⟨_, (pss_cons (ps_set (i := 2) sc_l_def.nd rfl (Or.inl rfl) (pe_c C_law_mark hr (by first | decide | omega) pass0 (pa_cons (pv 0) (pa_cons (pv 1) pa_nil))))
    (pss_cons (ps_set (i := 3) sc_l_def.nd rfl (Or.inl rfl) (pe_tup pa_nil))
    (C8.pss_cut (ps_if (pt_cmpR op_eq (pe_c C_law_take hr (by first | decide | omega) pass0 (pa_cons (pv 0) (pa_cons pe_int pa_nil))) pe_int (nomark _)) (pss_cons (ps_expr (pe_c C_law_token_out hr (by first | decide | omega) pass0 (pa_cons (pv 0) (pa_cons (pv 1) (pa_cons pe_str pa_nil)))))
    (pss_cons (ps_set (i := 3) sc_l_def.nd rfl (Or.inl rfl) (pe_c C_law_list hr (by first | decide | omega) pass0 (pa_cons (pv 0) (pa_cons (pv 1) (pa_cons (pe_op op_add pe_int (pe_c C_law_take hr (by first | decide | omega) pass0 (pa_cons (pv 0) (pa_cons pe_int pa_nil)))) (pa_cons pe_int pa_nil))))))
    (pss_one (ps_expr (pe_c C_law_token_out hr (by first | decide | omega) pass0 (pa_cons (pv 0) (pa_cons (pv 1) (pa_cons pe_str pa_nil)))))))) pss_nil)
    (pss_cons (ps_set (i := 4) sc_l_def.nd rfl (Or.inl rfl) (pe_ix (r := rIxT K) ix_tup (pe_c C_law_brackets hr (by first | decide | omega) pass0 (pa_cons (pv 0) (pa_cons (pv 1) (pa_cons pe_bl pa_nil)))) pe_int (fun _ _ => rfl)))
    (pss_cons (ps_set (i := 5) sc_l_def.nd rfl (Or.inl rfl) pe_non)
    (C8.pss_cut (ps_if (pt_cmpR op_eq (pe_c C_law_take hr (by first | decide | omega) pass0 (pa_cons (pv 0) (pa_cons pe_int pa_nil))) pe_int (nomark _)) (pss_cons (ps_expr (pe_c C_law_token_out hr (by first | decide | omega) pass0 (pa_cons (pv 0) (pa_cons (pv 1) (pa_cons pe_str pa_nil)))))
    (pss_one (ps_set (i := 5) sc_l_def.nd rfl (Or.inl rfl) (pe_c C_law_mark hr (by first | decide | omega) pass0 (pa_cons (pv 0) (pa_cons (pv 1) pa_nil)))))) pss_nil)
    (pss_cons (ps_expr (pe_c C_law_token_out hr (by first | decide | omega) pass0 (pa_cons (pv 0) (pa_cons (pv 1) (pa_cons pe_str pa_nil)))))
    (pss_one (ps_ret (pe_tup (pa_cons pe_str (pa_cons (pv 2) (pa_cons (pv 3) (pa_cons (pv 4) (pa_cons (pv 5) (pa_cons (pe_c C_law_tree hr (by first | decide | omega) pass0 (pa_cons (pv 0) (pa_cons (pv 1) (pa_cons pe_int (pa_cons pe_int pa_nil))))) pa_nil)))))))))))))))), ?_⟩
  have lna : ∀ (a : List Wd) (b : Wd), (a ++ [b]).length = a.length + 1 := fun a b => by simp
  refine ⟨_, rfl, _, rfl, t, c, o, _, rfl, P0, by omega, fun w1 H1 v1 e1 D1 P1 b1 => ?_⟩
  refine ⟨Nat.zero_le _, fun u nu => ?_⟩
  have su := same_new (o := .tup []) nu
  have P2 := P1.same su
  have De : DT (upd H1 u (.tup [])) (tD []) (.ref u) := .tup upd_same (Nat.zero_le _) .nil
  have D1 := D1.keep (fun _ _ h => su _ _ h)
  have b2 : But2 t o H (upd H1 u (.tup [])) := b1.trans (But2.of su)
  generalize upd H1 u (.tup []) = H2 at P2 De D1 b2 ⊢
  -- bounds
  refine ⟨fun σ H3 => ∃ (v3 : V) (xs : List D) (n1 : List Wd), σ = [some (.ref t), some (.ref o), some v1, some v3, none, none] ∧ DT H3 (tD xs) v3 ∧ DT H3 (mkT w1) v1 ∧ Pn H3 t c o (ws ++ [w1] ++ n1) ∧ But2 t o H H3 ∧ BoB n1 xs ∧ n1.length ≤ 13 ∧ ∀ x ∈ xs, dep x ≤ 2, ?_, ?_⟩
  · refine ⟨_, rfl, t, c, 2, rfl, P2.1, by decide, by decide, fun r H3 g0 g1 b3 T3 => ?_⟩
    have P3 := P2.take b3 T3
    have t3 := P2.tups (But2.tape b3 : But2 t o H2 H3)
    refine ⟨rfl, _, rfl, ?_⟩
    refine ite2 (fun _ => ?_) (fun _ => ?_)
    · refine ⟨_, rfl, _, rfl, t, c, o, "[", _, rfl, P3, by decide +kernel, by decide +kernel, by rw [lna]; omega, fun p1 H4 e4 P4 b4 => ?_⟩
      refine ⟨_, rfl, _, rfl, _, rfl, t, c, 3, rfl, P4.1, by decide, by decide, fun r2 H5 h0 h1 b5 T5 => ⟨_, _, rfl, rfl, ?_⟩⟩
      have P5 := P4.take b5 T5
      refine ⟨t, c, o, (1 + r2).toNat, 1, _, ?_, by omega, by omega, by decide, P5, by rw [lna, lna]; omega, fun nn xs H6 v hS hn hd D6 P6 b6 => ?_⟩
      · have e : (((1 + r2).toNat : Nat) : Int) = 1 + r2 := by omega
        rw [e]
        rfl
      refine ⟨_, rfl, _, rfl, t, c, o, "]", _, rfl, P6, by decide +kernel, by decide +kernel, by rw [List.length_append, lna, lna]; omega, fun p2 H7 e7 P7 b7 => ?_⟩
      have eqw : ws ++ [w1] ++ [p1] ++ nn ++ [p2] = ws ++ [w1] ++ (p1 :: (nn ++ [p2])) := by simp
      rw [eqw] at P7
      exact ⟨v, xs, p1 :: (nn ++ [p2]), rfl, D6.keep (P6.tups b7), ((((D1.keep t3).keep (P3.tups b4)).keep (P4.tups (But2.tape b5))).keep (P5.tups b6)).keep (P6.tups b7), P7, b2.trans ((But2.tape b3).trans (b4.trans ((But2.tape b5).trans (b6.trans b7)))), .inr ⟨p1, nn, p2, rfl, e4, e7, hS⟩, by simp only [List.length_cons, List.length_append, List.length_nil]; omega, hd⟩
    · exact ⟨_, [], [], rfl, De.keep t3, D1.keep t3, by rw [List.append_nil]; exact P3, b2.trans (But2.tape b3), .inl ⟨rfl, rfl⟩, Nat.zero_le _, fun _ h => absurd h (by simp)⟩
  rintro σ H3 ⟨v3, xs, n1, rfl, D3, D1, P3, b3, hB, l1, hd1⟩
  -- fields
  refine ⟨_, rfl, _, rfl, t, c, o, false, _, rfl, P3, by rw [List.length_append, lna]; omega, fun n2 mk ys H4 v hF l2 hd2 D4 P4 b4 => ?_⟩
  obtain ⟨rfl, hF⟩ := hF
  have D1 := D1.keep (P3.tups b4)
  have D3 := D3.keep (P3.tups b4)
  unfold tD DT at D4
  obtain ⟨a4, vs4, rfl, ha4, _, D4⟩ := D4
  have D4 : DTs H4 (.cons .non (.cons (tD ys) .nil)) vs4 := D4
  unfold DTs DTs DTs at D4
  obtain ⟨y1, r1, rfl, _, y2, r2, rfl, Dy, rfl⟩ := D4
  refine ⟨a4, _, _, y2, rfl, rfl, .inl (.inl ha4), at_of (show (1 : Int) = ((1 : Nat) : Int) from rfl) rfl, ?_⟩
  -- the result
  refine ⟨fun σ H5 => ∃ (v5 : V) (r : D) (n3 : List Wd), σ = [some (.ref t), some (.ref o), some v1, some v3, some y2, some v5] ∧ DT H5 r v5 ∧ DT H5 (tD xs) v3 ∧ DT H5 (mkT w1) v1 ∧ DT H5 (tD ys) y2 ∧ Pn H5 t c o (ws ++ [w1] ++ n1 ++ n2 ++ n3) ∧ But2 t o H H5 ∧ OpB n3 r ∧ n3.length ≤ 2 ∧ dep r ≤ 1, ?_, ?_⟩
  · refine ⟨_, rfl, t, c, 2, rfl, P4.1, by decide, by decide, fun r H5 g0 g1 b5 T5 => ?_⟩
    have P5 := P4.take b5 T5
    have t5 := P4.tups (But2.tape b5 : But2 t o H4 H5)
    refine ⟨rfl, _, rfl, ?_⟩
    refine ite2 (fun _ => ?_) (fun _ => ?_)
    · refine ⟨_, rfl, _, rfl, t, c, o, ":", _, rfl, P5, by decide +kernel, by decide +kernel, by rw [List.length_append, List.length_append, lna]; omega, fun wc H6 e6 P6 b6 => ?_⟩
      refine ⟨_, rfl, _, rfl, t, c, o, _, rfl, P6, by rw [lna, List.length_append, List.length_append, lna]; omega, fun wr H7 v7 e7 D7 P7 b7 => ?_⟩
      have t7 : Tups H4 H7 := fun _ _ h => P6.tups b7 _ _ (P5.tups b6 _ _ (t5 _ _ h))
      exact ⟨v7, mkT wr, [wc, wr], rfl, D7, D3.keep t7, D1.keep t7, Dy.keep t7, by rw [show ws ++ [w1] ++ n1 ++ n2 ++ [wc, wr] = ws ++ [w1] ++ n1 ++ n2 ++ [wc] ++ [wr] by simp]; exact P7, b3.trans (b4.trans ((But2.tape b5).trans (b6.trans b7))), .inr ⟨wc, wr, rfl, e6, e7, rfl⟩, Nat.le_refl _, Nat.le_refl _⟩
    · exact ⟨_, .non, [], rfl, DT.non, D3.keep t5, D1.keep t5, Dy.keep t5, by rw [List.append_nil]; exact P5, b3.trans (b4.trans (But2.tape b5)), .inl ⟨rfl, rfl⟩, Nat.zero_le _, Nat.zero_le _⟩
  rintro σ H5 ⟨v5, r, n3, rfl, Dr, D3, D1, D4, P5, b5, hO, l3, hdr⟩
  refine ⟨_, rfl, _, rfl, t, c, o, "=", _, rfl, P5, by decide +kernel, by decide +kernel, by rw [List.length_append, List.length_append, List.length_append, lna]; omega, fun we H6 e6 P6 b6 => ?_⟩
  refine ⟨_, rfl, _, rfl, _, rfl, _, rfl, _, rfl, _, rfl, t, c, o, 2, 0, _, rfl, by decide, by decide, fun e => absurd e (by decide), P6, by rw [lna, List.length_append, List.length_append, List.length_append, lna]; show _ + 29 ≤ 1000; omega, fun H7 nt tn v7 pr ln dn D7 P7 b7 => ?_⟩
  have t7 : Tups H5 H7 := fun _ _ h => P6.tups b7 _ _ (P5.tups b6 _ _ h)
  refine ⟨by show 6 ≤ sizeLine; decide, fun y ny => ?_⟩
  have sy := same_new (o := .tup [.str "def", v1, v3, y2, v5, v7]) ny
  have t8 : Tups H5 (upd H7 y (.tup [.str "def", v1, v3, y2, v5, v7])) := fun _ _ h => sy _ _ (t7 _ _ h)
  have eqw : ws ++ [w1] ++ n1 ++ n2 ++ n3 ++ [we] ++ nt = ws ++ (w1 :: (n1 ++ (n2 ++ (n3 ++ we :: nt)))) := by simp
  rw [eqw] at P7
  have ln : nt.length ≤ 29 := ln
  have dn : dep tn.d ≤ 5 := dn
  refine q _ _ _ _ (def_ok e1 hB hF hO e6 pr) (by simp only [List.length_cons, List.length_append]; omega) (depT (m := 5) fun d hd => ?_) (.tup upd_same (by show 6 ≤ 1000000; decide) (.cons DT.str (.cons (D1.keep t8) (.cons (D3.keep t8) (.cons (D4.keep t8) (.cons (Dr.keep t8) (.cons (D7.keep fun _ _ h => sy _ _ h) .nil))))))) (P7.same sy) (b5.trans (b6.trans (b7.trans (But2.of sy))))
  simp only [List.mem_cons, List.mem_singleton, List.not_mem_nil, or_false] at hd
  have h1 := depT hd1
  have h2 := depT hd2
  rcases hd with rfl | rfl | rfl | rfl | rfl | rfl
  · exact Nat.zero_le _
  · rw [dep_mk]; decide
  · omega
  · omega
  · omega
  · exact dn
end

end Sn

namespace Sn
open PySem PySem.Spec PyProof.Rows L2 TL
/-! ### the law's items, the law -/
def itW : List Str := ["\x69mport", "data", "trait", "impl", "def"]
theorem itW_at (k : Nat) (h : k < 5) : ∃ y : Str, (itW.map V.str)[k]? = some (V.str y) ∧ (y = "\x69mport" ∨ y = "data" ∨ y = "trait" ∨ y = "impl" ∨ y = "def") ∧ tkOk (tl y) = true ∧ (tl y).length ≤ 25 := by
  match k, h with
  | 0, _ => exact ⟨_, rfl, .inl rfl, by decide +kernel, by decide +kernel⟩
  | 1, _ => exact ⟨_, rfl, .inr (.inl rfl), by decide +kernel, by decide +kernel⟩
  | 2, _ => exact ⟨_, rfl, .inr (.inr (.inl rfl)), by decide +kernel, by decide +kernel⟩
  | 3, _ => exact ⟨_, rfl, .inr (.inr (.inr (.inl rfl))), by decide +kernel, by decide +kernel⟩
  | 4, _ => exact ⟨_, rfl, .inr (.inr (.inr (.inr rfl))), by decide +kernel, by decide +kernel⟩
/-- the texts behind an item -/
def tails : List Str := ["", "\n", " \n\n", " # end"]
theorem toks_tail_end {L x : List Nat} {i : Nat} (hx : x.all (fun d => d != 10) = true) (h : L.drop i = 35 :: x) (hi : i ≤ L.length) : toks L i L.length = [] := by
  obtain ⟨h1, h2, h3⟩ := drop_at h
  rw [toks_note (Nat.le_refl _) h2 h1]
  have e := run_word (p := fun d => d != 10) (L := L) (s := 35 :: x) (m := []) (by rw [h]; simp) (by rw [List.all_cons, hx]; rfl) (fun d hd => by cases hd) hi
  have el : L.length = i + (35 :: x).length := by have := congrArg List.length h; rw [List.length_drop] at this; omega
  rw [e, ← el]
  exact toks_end (Nat.le_refl _)
theorem tail_ok (k : Nat) (h : k < 4) : ∃ e : Str, (tails.map V.str)[k]? = some (V.str e) ∧ (tl e).length ≤ 10 ∧ (∀ l, Jn l (tl e)) ∧ ∀ (L l : List Nat), L = l ++ tl e → toks L l.length L.length = [] := by
  have gp : ∀ g : List Nat, Gp g → ∀ (L l : List Nat), L = l ++ g → toks L l.length L.length = [] := fun g hg L l e => by
    have d : L.drop l.length = g ++ [] := by rw [e, List.drop_left' rfl, List.append_nil]
    have hl : l.length ≤ L.length := by rw [e, List.length_append]; omega
    rw [hg.2 L l.length [] d hl]
    exact toks_end (by rw [e, List.length_append]; exact Nat.le_refl _)
  match k, h with
  | 0, _ => exact ⟨_, rfl, by decide +kernel, (fun l c d _ h => by rw [show tl ("" : Str) = [] by decide +kernel] at h; cases h), by rw [show tl ("" : Str) = [] by decide +kernel]; exact gp _ gp_nil⟩
  | 1, _ => exact ⟨_, rfl, by decide +kernel, fun l => by rw [show tl ("\n" : Str) = [10] by decide +kernel]; exact jn_blank l [] (.inr rfl), by rw [show tl ("\n" : Str) = [10] by decide +kernel]; exact gp _ (gp_blank (.inr rfl) gp_nil)⟩
  | 2, _ => exact ⟨_, rfl, by decide +kernel, fun l => by rw [show tl (" \n\n" : Str) = [32, 10, 10] by decide +kernel]; exact jn_blank l _ (.inl rfl), by rw [show tl (" \n\n" : Str) = [32, 10, 10] by decide +kernel]; exact gp _ (gp_blank (.inl rfl) (gp_blank (.inr rfl) (gp_blank (.inr rfl) gp_nil)))⟩
  | 3, _ =>
    refine ⟨_, rfl, by decide +kernel, fun l => by rw [show tl (" # end" : Str) = [32, 35, 32, 101, 110, 100] by decide +kernel]; exact jn_blank l _ (.inl rfl), ?_⟩
    rw [show tl (" # end" : Str) = [32, 35, 32, 101, 110, 100] by decide +kernel]
    intro L l e
    have d : L.drop l.length = 32 :: [35, 32, 101, 110, 100] := by rw [e, List.drop_left' rfl]
    obtain ⟨h1, h2, h3⟩ := drop_at d
    rw [toks_blank (Nat.le_refl _) h2 h1 (.inl rfl)]
    exact toks_tail_end (x := [32, 101, 110, 100]) (by decide) h3 h2
theorem TX.tail {l e : List Nat} {ws : List Wd} (X : TX l ws) (hj : Jn l e) (he : toks (l ++ e) l.length (l ++ e).length = []) (r : Addr) : HasW ⟨r, l ++ e, toks (l ++ e) 0 (l ++ e).length⟩ ws := by
  refine ⟨?_, fun w hw => ?_⟩
  · show toks (l ++ e) 0 (l ++ e).length = _
    rw [X.tk e hj, he, List.append_nil]
  · obtain ⟨k1, k2⟩ := X.sl w hw
    show ((l ++ e).drop w.2).take w.1.length = w.1
    rw [List.drop_append_of_le_length (by omega), List.take_append_of_le_length (by rw [List.length_drop]; omega)]
    exact k2
theorem blank_all : allT "# def f() = 1\n  # more" = [] := by decide +kernel
section
variable {P : Program} {w : World} {K : PySem.W.Frag} {mg : Str → Option Value} {base : Heap} {f : Addr} {fd : FuncData} {aW CR CS CE aR : Addr} {tS t0 t1 t2 t3 t4 t5 t6 : PySem.Tok}
abbrev s_l_item : Stmt := topS 48
abbrev N_l_item : List Str := ["tape", "out", "word", "first", "target", "method", "mark", "fields"]
theorem sc_l_item : FnScope N_l_item ["tape", "out"] (defScope s_l_item) := ⟨rfl, rfl, rfl, by decide +kernel, rfl, by decide +kernel, by decide +kernel⟩
theorem ok_l_item (F : Fun K "_law_item" "_law_item" s_l_item f fd) (T : Nm mg) (C_law_take : Cal P w K mg base CX0 1 "_law_take" spTake) (C_law_mark : Cal P w K mg base CX0 4 "_law_mark" spLMark) (C_law_list : Cal P w K mg base CX0 5 "_law_list" spLList) (C_law_brackets : Cal P w K mg base CX0 6 "_law_brackets" spLBr)
    (C_law_token_out : Cal P w K mg base CX0 3 "_law_token_out" spTok) (C_law_tree : Cal P w K mg base CX0 12 "_law_tree" (spTree 4)) (C_law_def : Cal P w K mg base CX0 13 "_law_def" (spLIt 100 62 DefR)) : FnOk P w K mg base CX0 14 f fd ["tape", "out"] (spLIt 10 63 fun nw x => nw ≠ []) := by
  refine F.ok sc_l_item (fun vs H Q E h => ?_) (fun cdv A outer s H vs Q E hr h => ?_)
  · obtain ⟨t, c, o, ws, rfl, _⟩ := h
    rfl
  obtain ⟨t, c, o, ws, rfl, P0, hw, q⟩ := h
  refine ⟨_, (pss_cons (ps_set (i := 2) sc_l_item.nd rfl (Or.inl rfl) (pe_ix (r := rIxL K) ix_list (pe_lst (pa_cons pe_str (pa_cons pe_str (pa_cons pe_str (pa_cons pe_str (pa_cons pe_str pa_nil)))))) (pe_c C_law_take hr (by first | decide | omega) pass0 (pa_cons (pv 0) (pa_cons pe_int pa_nil))) (fun _ _ => rfl)))
    (pss_cons (ps_expr (pe_c C_law_token_out hr (by first | decide | omega) pass0 (pa_cons (pv 0) (pa_cons (pv 1) (pa_cons (pv 2) pa_nil)))))
    (pss_cons (ps_if (pt_cmpR op_eq (pv 2) pe_str (nomark _)) (pss_one (ps_ret (pe_c C_law_def hr (by first | decide | omega) pass0 (pa_cons (pv 0) (pa_cons (pv 1) pa_nil))))) pss_nil)
    (pss_cons (ps_set (i := 3) sc_l_item.nd rfl (Or.inl rfl) (pe_c C_law_mark hr (by first | decide | omega) pass0 (pa_cons (pv 0) (pa_cons (pv 1) pa_nil))))
    (pss_cons (ps_if (pt_cmpR op_eq (pv 2) pe_str (nomark _)) (pss_cons (ps_expr (pe_c C_law_token_out hr (by first | decide | omega) pass0 (pa_cons (pv 0) (pa_cons (pv 1) (pa_cons pe_str pa_nil)))))
    (pss_one (ps_ret (pe_tup (pa_cons (pv 2) (pa_cons (pv 3) (pa_cons (pe_c C_law_list hr (by first | decide | omega) pass0 (pa_cons (pv 0) (pa_cons (pv 1) (pa_cons (pe_op op_add pe_int (pe_c C_law_take hr (by first | decide | omega) pass0 (pa_cons (pv 0) (pa_cons pe_int pa_nil)))) (pa_cons pe_int pa_nil))))) pa_nil))))))) pss_nil)
    (pss_cons (ps_if (pt_cmpR op_eq (pv 2) pe_str (nomark _)) (pss_one (ps_ret (pe_tup (pa_cons (pv 2) (pa_cons (pv 3) (pa_cons (pe_ix (r := rIxT K) ix_tup (pe_c C_law_brackets hr (by first | decide | omega) pass0 (pa_cons (pv 0) (pa_cons (pv 1) (pa_cons pe_bl pa_nil)))) pe_int (fun _ _ => rfl)) pa_nil)))))) pss_nil)
    (pss_cons (ps_if (pt_cmpR op_eq (pv 2) pe_str (nomark _)) (pss_cons (ps_expr (pe_c C_law_token_out hr (by first | decide | omega) pass0 (pa_cons (pv 0) (pa_cons (pv 1) (pa_cons pe_str pa_nil)))))
    (pss_cons (ps_set (i := 4) sc_l_item.nd rfl (Or.inl rfl) (pe_c C_law_mark hr (by first | decide | omega) pass0 (pa_cons (pv 0) (pa_cons (pv 1) pa_nil))))
    (pss_cons (ps_expr (pe_c C_law_token_out hr (by first | decide | omega) pass0 (pa_cons (pv 0) (pa_cons (pv 1) (pa_cons pe_str pa_nil)))))
    (pss_one (ps_ret (pe_tup (pa_cons (pv 2) (pa_cons (pv 3) (pa_cons (pv 4) (pa_cons (pe_c C_law_tree hr (by first | decide | omega) pass0 (pa_cons (pv 0) (pa_cons (pv 1) (pa_cons pe_int (pa_cons pe_int pa_nil))))) pa_nil)))))))))) pss_nil)
    (pss_cons (ps_expr (pe_c C_law_token_out hr (by first | decide | omega) pass0 (pa_cons (pv 0) (pa_cons (pv 1) (pa_cons pe_str pa_nil)))))
    (pss_cons (ps_set (i := 5) sc_l_item.nd rfl (Or.inl rfl) (pe_c C_law_mark hr (by first | decide | omega) pass0 (pa_cons (pv 0) (pa_cons (pv 1) pa_nil))))
    (pss_cons (ps_asg (pe_c C_law_brackets hr (by first | decide | omega) pass0 (pa_cons (pv 0) (pa_cons (pv 1) (pa_cons pe_bl pa_nil)))) (pg_tup rfl (pgs_cons (pg_name (i := 6) sc_l_item.nd rfl (Or.inl rfl)) (pgs_cons (pg_name (i := 7) sc_l_item.nd rfl (Or.inl rfl)) pgs_nil))))
    (pss_cons (ps_expr (pe_c C_law_token_out hr (by first | decide | omega) pass0 (pa_cons (pv 0) (pa_cons (pv 1) (pa_cons pe_str pa_nil)))))
    (pss_one (ps_ret (pe_tup (pa_cons (pv 2) (pa_cons (pv 3) (pa_cons (pv 5) (pa_cons (pv 6) (pa_cons (pv 7) (pa_cons (pe_c C_law_mark hr (by first | decide | omega) pass0 (pa_cons (pv 0) (pa_cons (pv 1) pa_nil))) pa_nil)))))))))))))))))))), ?_⟩
  have lna : ∀ (a : List Wd) (b : Wd), (a ++ [b]).length = a.length + 1 := fun a b => by simp
  refine ⟨by decide, fun L nL => ?_⟩
  have s1 := same_new (o := .lst (itW.map V.str)) nL
  have T1 := P0.1.new (o := .lst (itW.map V.str)) nL
  have hL : upd H L (.lst (itW.map V.str)) L = some (.lst (itW.map V.str)) := upd_same
  refine ⟨_, rfl, t, c, 5, rfl, T1, by decide, by decide, fun r H1 h0 h1 b1 T2 => ?_⟩
  have hL1 := b1 _ _ (T1.ne hL (by intro k e; cases e)) hL
  have P1 := (P0.same s1).take b1 T2
  obtain ⟨k, rfl⟩ : ∃ k : Nat, r = (k : Int) := ⟨r.toNat, by omega⟩
  obtain ⟨y, g, hy, k1, k2⟩ := itW_at k (by omega)
  refine ⟨L, _, _, _, rfl, rfl, SqL.of hL1, at_of rfl g, ?_⟩
  refine ⟨_, rfl, _, rfl, _, rfl, t, c, o, y, ws, rfl, P1, k1, k2, by omega, fun w0 H2 e0 P2 b2 => ?_⟩
  have b02 : But2 t o H H2 := (But2.of s1).trans ((But2.tape b1).trans b2)
  have ne : ∀ {a b : Str}, a ≠ b → ¬ V.str a = V.str b := fun h e => h (by injection e)
  have out : ∀ (nw : List Wd) (x : D) (H' : Hp) (v : V), ItR (w0 :: nw) x → nw.length ≤ 62 → dep x ≤ 6 → DT H' x v → Pn H' t c o (ws ++ [w0] ++ nw) → But2 t o H2 H' → Q v H' := fun nw x H' v hx ln dx Dx Px bx =>
    q (w0 :: nw) x H' v (by simp) (by rw [List.length_cons]; omega) dx Dx (by rw [show ws ++ w0 :: nw = ws ++ [w0] ++ nw by simp]; exact Px) (b02.trans bx)
  have l0 : (ws ++ [w0]).length ≤ 11 := by rw [lna]; omega
  refine ⟨_, rfl, rfl, _, rfl, ?_⟩
  by_cases kd : y = "def"
  · refine iteP (by rw [kd]) ?_
    exact ⟨_, rfl, _, rfl, t, c, o, _, rfl, P2, by omega, fun nw x H3 v hx ln dx D3 P3 b3 => out nw x H3 v (it_def (by rw [e0, kd]) hx) ln dx D3 P3 b3⟩
  refine iteN (ne kd) ?_
  refine ⟨_, rfl, _, rfl, t, c, o, _, rfl, P2, by omega, fun w1 H3 v1 e1 D1 P3 b3 => ?_⟩
  have l1 : (ws ++ [w0] ++ [w1]).length ≤ 12 := by rw [lna]; omega
  -- imported names
  refine ⟨_, rfl, rfl, _, rfl, ?_⟩
  by_cases ki : y = "\x69mport"
  · refine iteP (by rw [ki]) ?_
    refine ⟨_, rfl, _, rfl, t, c, o, ":", _, rfl, P3, by decide +kernel, by decide +kernel, by omega, fun wc H4 e4 P4 b4 => ?_⟩
    refine ⟨_, rfl, _, rfl, _, rfl, _, rfl, _, rfl, t, c, 3, rfl, P4.1, by decide, by decide, fun r2 H5 h0 h1 b5 T5 => ⟨_, _, rfl, rfl, ?_⟩⟩
    have P5 := P4.take b5 T5
    refine ⟨t, c, o, (1 + r2).toNat, 0, _, ?_, by omega, by omega, by decide, P5, by rw [lna]; omega, fun nn xs H6 v hS hn hd D6 P6 b6 => ?_⟩
    · have e : (((1 + r2).toNat : Nat) : Int) = 1 + r2 := by omega
      rw [e]
      rfl
    refine ⟨by show 3 ≤ sizeLine; decide, fun u nu => ?_⟩
    have su := same_new (o := .tup [.str y, v1, v]) nu
    have D1' := ((D1.keep (P3.tups b4)).keep (P4.tups (But2.tape b5))).keep (P5.tups b6)
    have eqw : ws ++ [w0] ++ [w1] ++ [wc] ++ nn = ws ++ [w0] ++ (w1 :: wc :: nn) := by simp
    rw [eqw] at P6
    refine out _ (tD [.str "\x69mport", mkT w1, tD xs]) _ _ (it_import (by rw [e0, ki]) e1 e4 hS) (by simp only [List.length_cons]; omega) (depT (m := 5) fun d hd' => ?_) (.tup upd_same (by show 3 ≤ 1000000; decide) (.cons (by rw [ki]; exact DT.str) (.cons (D1'.keep fun _ _ h => su _ _ h) (.cons (D6.keep fun _ _ h => su _ _ h) .nil)))) (P6.same su) (b3.trans (b4.trans ((But2.tape b5).trans (b6.trans (But2.of su)))))
    simp only [List.mem_cons, List.mem_singleton, List.not_mem_nil, or_false] at hd'
    have := depT hd
    rcases hd' with rfl | rfl | rfl
    · exact Nat.zero_le _
    · rw [dep_mk]; decide
    · omega
  refine iteN (ne ki) ?_
  -- data
  refine ⟨_, rfl, rfl, _, rfl, ?_⟩
  by_cases ka : y = "data"
  · refine iteP (by rw [ka]) ?_
    refine ⟨_, rfl, _, rfl, _, rfl, _, rfl, t, c, o, false, _, rfl, P3, by omega, fun n2 mk ys H4 v hF l2 hd D4 P4 b4 => ?_⟩
    obtain ⟨rfl, hF⟩ := hF
    have D1' := D1.keep (P3.tups b4)
    unfold tD DT at D4
    obtain ⟨a4, vs4, rfl, ha4, _, D4⟩ := D4
    have D4 : DTs H4 (.cons .non (.cons (tD ys) .nil)) vs4 := D4
    unfold DTs DTs DTs at D4
    obtain ⟨y1, r1, rfl, _, y2, r2, rfl, Dy, rfl⟩ := D4
    refine ⟨a4, _, _, y2, rfl, rfl, .inl (.inl ha4), at_of (show (1 : Int) = ((1 : Nat) : Int) from rfl) rfl, ?_⟩
    refine ⟨by show 3 ≤ sizeLine; decide, fun u nu => ?_⟩
    have su := same_new (o := .tup [.str y, v1, y2]) nu
    have eqw : ws ++ [w0] ++ [w1] ++ n2 = ws ++ [w0] ++ (w1 :: n2) := by simp
    rw [eqw] at P4
    refine out _ (tD [.str "data", mkT w1, tD ys]) _ _ (it_data (by rw [e0, ka]) e1 hF) (by simp only [List.length_cons]; omega) (depT (m := 5) fun d hd' => ?_) (.tup upd_same (by show 3 ≤ 1000000; decide) (.cons (by rw [ka]; exact DT.str) (.cons (D1'.keep fun _ _ h => su _ _ h) (.cons (Dy.keep fun _ _ h => su _ _ h) .nil)))) (P4.same su) (b3.trans (b4.trans (But2.of su)))
    simp only [List.mem_cons, List.mem_singleton, List.not_mem_nil, or_false] at hd'
    have := depT hd
    rcases hd' with rfl | rfl | rfl
    · exact Nat.zero_le _
    · rw [dep_mk]; decide
    · omega
  refine iteN (ne ka) ?_
  -- impl
  refine ⟨_, rfl, rfl, _, rfl, ?_⟩
  by_cases kp : y = "impl"
  · refine iteP (by rw [kp]) ?_
    refine ⟨_, rfl, _, rfl, t, c, o, "for", _, rfl, P3, by decide +kernel, by decide +kernel, by omega, fun wf H4 e4 P4 b4 => ?_⟩
    refine ⟨_, rfl, _, rfl, t, c, o, _, rfl, P4, by rw [lna]; omega, fun w3 H5 v3 e5 D5 P5 b5 => ?_⟩
    refine ⟨_, rfl, _, rfl, t, c, o, "=", _, rfl, P5, by decide +kernel, by decide +kernel, by rw [lna, lna]; omega, fun we H6 e6 P6 b6 => ?_⟩
    refine ⟨_, rfl, _, rfl, _, rfl, _, rfl, _, rfl, t, c, o, 2, 0, _, rfl, by decide, by decide, fun e => absurd e (by decide), P6, by rw [lna, lna, lna]; show _ + 29 ≤ 1000; omega, fun H7 nt tn v7 pr ln dn D7 P7 b7 => ?_⟩
    refine ⟨by show 4 ≤ sizeLine; decide, fun u nu => ?_⟩
    have su := same_new (o := .tup [.str y, v1, v3, v7]) nu
    have t5 : Tups H5 (upd H7 u (.tup [.str y, v1, v3, v7])) := fun _ _ h => su _ _ (P6.tups b7 _ _ (P5.tups b6 _ _ h))
    have t3 : Tups H3 (upd H7 u (.tup [.str y, v1, v3, v7])) := fun _ _ h => t5 _ _ (P4.tups b5 _ _ (P3.tups b4 _ _ h))
    have eqw : ws ++ [w0] ++ [w1] ++ [wf] ++ [w3] ++ [we] ++ nt = ws ++ [w0] ++ (w1 :: wf :: w3 :: we :: nt) := by simp
    rw [eqw] at P7
    have ln : nt.length ≤ 29 := ln
    have dn : dep tn.d ≤ 5 := dn
    refine out _ (tD [.str "impl", mkT w1, mkT w3, tn.d]) _ _ (it_impl (by rw [e0, kp]) e1 e4 e5 e6 pr) (by simp only [List.length_cons]; omega) (depT (m := 5) fun d hd' => ?_) (.tup upd_same (by show 4 ≤ 1000000; decide) (.cons (by rw [kp]; exact DT.str) (.cons (D1.keep t3) (.cons (D5.keep t5) (.cons (D7.keep fun _ _ h => su _ _ h) .nil))))) (P7.same su) (b3.trans (b4.trans (b5.trans (b6.trans (b7.trans (But2.of su))))))
    simp only [List.mem_cons, List.mem_singleton, List.not_mem_nil, or_false] at hd'
    rcases hd' with rfl | rfl | rfl | rfl
    · exact Nat.zero_le _
    · rw [dep_mk]; decide
    · rw [dep_mk]; decide
    · exact dn
  refine iteN (ne kp) ?_
  -- trait
  have kt : y = "trait" := by
    rcases hy with h | h | h | h | h
    · exact absurd h ki
    · exact absurd h ka
    · exact h
    · exact absurd h kp
    · exact absurd h kd
  refine ⟨_, rfl, _, rfl, t, c, o, "with", _, rfl, P3, by decide +kernel, by decide +kernel, by omega, fun w2 H4 e4 P4 b4 => ?_⟩
  refine ⟨_, rfl, _, rfl, t, c, o, _, rfl, P4, by rw [lna]; omega, fun w3 H5 v3 e5 D5 P5 b5 => ?_⟩
  refine ⟨_, rfl, _, rfl, t, c, o, true, _, rfl, P5, by rw [lna, lna]; omega, fun n2 mk ys H6 v hF l2 hd D6 P6 b6 => ?_⟩
  obtain ⟨wf, rfl, hF⟩ := hF
  unfold tD DT at D6
  obtain ⟨a4, vs4, rfl, ha4, _, D6⟩ := D6
  have D6 : DTs H6 (.cons (mkT wf) (.cons (tD ys) .nil)) vs4 := D6
  unfold DTs DTs DTs at D6
  obtain ⟨y1, r1, rfl, Dm, y2, r2, rfl, Dy, rfl⟩ := D6
  refine ⟨a4, _, rfl, .inl (.inl ha4), rfl, _, _, rfl, _, _, rfl, rfl, ?_⟩
  refine ⟨_, rfl, _, rfl, t, c, o, ":", _, rfl, P6, by decide +kernel, by decide +kernel, by rw [List.length_append, lna, lna]; omega, fun w5 H7 e7 P7 b7 => ?_⟩
  refine ⟨_, rfl, _, rfl, _, rfl, _, rfl, _, rfl, _, rfl, _, rfl, t, c, o, _, rfl, P7, by rw [lna, List.length_append, lna, lna]; omega, fun w6 H8 v6 e8 D8 P8 b8 => ?_⟩
  refine ⟨by show 6 ≤ sizeLine; decide, fun u nu => ?_⟩
  have su := same_new (o := .tup [.str y, v1, v3, y1, y2, v6]) nu
  have t6 : Tups H6 (upd H8 u (.tup [.str y, v1, v3, y1, y2, v6])) := fun _ _ h => su _ _ (P7.tups b8 _ _ (P6.tups b7 _ _ h))
  have t5 : Tups H5 (upd H8 u (.tup [.str y, v1, v3, y1, y2, v6])) := fun _ _ h => t6 _ _ (P5.tups b6 _ _ h)
  have t3 : Tups H3 (upd H8 u (.tup [.str y, v1, v3, y1, y2, v6])) := fun _ _ h => t5 _ _ (P4.tups b5 _ _ (P3.tups b4 _ _ h))
  have eqw : ws ++ [w0] ++ [w1] ++ [w2] ++ [w3] ++ n2 ++ [w5] ++ [w6] = ws ++ [w0] ++ (w1 :: w2 :: w3 :: (n2 ++ [w5, w6])) := by simp
  rw [eqw] at P8
  refine out _ (tD [.str "trait", mkT w1, mkT w3, mkT wf, tD ys, mkT w6]) _ _ (it_trait (by rw [e0, kt]) e1 e4 e5 hF e7 e8) (by simp only [List.length_cons, List.length_append, List.length_nil]; omega) (depT (m := 5) fun d hd' => ?_) (.tup upd_same (by show 6 ≤ 1000000; decide) (.cons (by rw [kt]; exact DT.str) (.cons (D1.keep t3) (.cons (D5.keep t5) (.cons (Dm.keep t6) (.cons (Dy.keep t6) (.cons (D8.keep fun _ _ h => su _ _ h) .nil))))))) (P8.same su) (b3.trans (b4.trans (b5.trans (b6.trans (b7.trans (b8.trans (But2.of su)))))))
  simp only [List.mem_cons, List.mem_singleton, List.not_mem_nil, or_false] at hd'
  have := depT hd
  rcases hd' with rfl | rfl | rfl | rfl | rfl | rfl
  · exact Nat.zero_le _
  · rw [dep_mk]; decide
  · rw [dep_mk]; decide
  · rw [dep_mk]; decide
  · omega
  · rw [dep_mk]; decide
end

end Sn

/-! My own rules: a list compared with an empty one; statements behind which a token is out. -/
namespace Sn
open PySem PySem.Spec PyProof.Rows L2 TL
theorem un65 {k : Nat} {A : Around} (r : Room k A) : A.units + 65 < cLine := by have := r.un; omega
/-- xs == [] -/
def rEqE : R2 := fun x y H Q => ∃ a b xs, x = .ref a ∧ y = .ref b ∧ H a = some (.lst xs) ∧ H b = some (.lst []) ∧ Q (.bl xs.isEmpty) H
def rNeE : R2 := fun x y H Q => ∃ a b xs, x = .ref a ∧ y = .ref b ∧ H a = some (.lst xs) ∧ H b = some (.lst []) ∧ Q (.bl (!xs.isEmpty)) H
section
variable {X : Cx}
theorem op_eqE (hu : X.A.units + 64 < cLine) : OpR X (compareOp .Eq) rEqE := by
  intro pins s σ H x y v u Q I rx ry h
  obtain ⟨a, b, xs, rfl, rfl, ha, hb, q⟩ := h
  cases rx
  cases ry
  obtain ⟨_, its, n, r, el, e⟩ := I.lstM ha
  obtain ⟨_, its2, n2, r2, el2, e2⟩ := I.lstM hb
  have hl : s.heap.IsList a its.toArray := ⟨_, e, rfl, _, rfl⟩
  have hl2 : s.heap.IsList b its2.toArray := ⟨_, e2, rfl, _, rfl⟩
  have z2 : its2 = [] := List.length_eq_zero_iff.mp (by rw [← el2]; rfl)
  subst z2
  have hu' : X.A.units < cLine := by omega
  cases its with
  | nil =>
    have z1 : xs = [] := List.length_eq_zero_iff.mp (by rw [el]; rfl)
    subst z1
    refine SeqAt.RcAt.lists (e := fun _ => true) hl hl2 rfl hu' (fun j h1 => absurd h1 (by simp)) _ _ _ _ ⟨.bl true, H, I, ?_, q⟩
    rfl
  | cons i its =>
    have z1 : xs.isEmpty = false := by
      cases xs with
      | nil => cases el
      | cons _ _ => rfl
    rw [z1] at q
    exact SeqAt.RcAt.lists_lengths hl hl2 (by simp) hu' _ _ _ _ ⟨.bl false, H, I, rfl, q⟩
theorem op_neE (hu : X.A.units + 64 < cLine) : OpR X (compareOp .NotEq) rNeE := by
  intro pins s σ H x y v u Q I rx ry h
  obtain ⟨a, b, xs, rfl, rfl, ha, hb, q⟩ := h
  cases rx
  cases ry
  obtain ⟨_, its, n, r, el, e⟩ := I.lstM ha
  obtain ⟨_, its2, n2, r2, el2, e2⟩ := I.lstM hb
  have hl : s.heap.IsList a its.toArray := ⟨_, e, rfl, _, rfl⟩
  have hl2 : s.heap.IsList b its2.toArray := ⟨_, e2, rfl, _, rfl⟩
  have z2 : its2 = [] := List.length_eq_zero_iff.mp (by rw [← el2]; rfl)
  subst z2
  have hu' : X.A.units < cLine := by omega
  cases its with
  | nil =>
    have z1 : xs = [] := List.length_eq_zero_iff.mp (by rw [el]; rfl)
    subst z1
    refine SeqAt.RcNeAt.lists (e := fun _ => true) hl hl2 rfl hu' (fun j h1 => absurd h1 (by simp)) _ _ _ _ ⟨.bl false, H, I, ?_, q⟩
    rfl
  | cons i its =>
    have z1 : xs.isEmpty = false := by
      cases xs with
      | nil => cases el
      | cons _ _ => rfl
    rw [z1] at q
    exact SeqAt.RcNeAt.lists_lengths hl hl2 (by simp) hu' _ _ _ _ ⟨.bl true, H, I, rfl, q⟩
/-- a statement behind which a token is out -/
structure PSG (X : Cx) (st : Stmt) (t : TS) : Prop where
  run : ∀ (pins : List (Addr × Obj)) (s : Shared) (σ : L2.St) (H : Hp) (D : Ends), Inv X pins σ H s → t D σ H → wpAny (model X.prog X.w) X.A (exec st X.env) (fun f s' => 1 ≤ s'.toks ∧ SP X pins D f s') X.xe s
theorem pssG_cons {st : Stmt} {rest : List Stmt} {t u : TS} (h1 : PSG X st t) (h2 : PSsT X rest u) : PSs X (st :: rest) (tSeq t u) := by
  refine ⟨fun pins s σ H D I h => ?_⟩
  refine wpAny_execs_cons (thn (h1.run pins s σ H { D with nx := u D } I h) fun f s1 q => ?_)
  obtain ⟨hk, q⟩ := q
  cases f with
  | next =>
    obtain ⟨σ', H', I', q⟩ := q
    exact h2 pins s1 σ' H' D hk I' q
  | ret v => exact q
  | brk => exact q
  | cont => exact q
theorem psG_ifK {a : Expr} {ta : TE} {op : CmpOp} {r : R2} {n : Int} {j : Nat} {cp cpos pos : Pos} {body orelse : List Stmt} {t u : TS} (ho : OpR X (compareOp op) r) (ha : PE X a ta) (hm : behindInMarks op (.Constant (.int n) j cp) = false) (hb : PSsT X body t) (hc : PSsT X orelse u) :
    PSG X (.If (.Compare a [op] [.Constant (.int n) j cp] cpos) body orelse pos) (tIfS (tTest (tOp r ta (tC (.int n)))) t u) := by
  refine ⟨fun pins s σ H D I h => ?_⟩
  refine wpAny_If (wpAny_isTrue_Compare1 (thn (ha.run pins s σ H _ I h) fun v s1 ⟨x, H1, I1, r1, q1⟩ => wpAny_Constant_int ?_) hm)
  refine wpAny_mono (PySem.wpAny_toks (ho pins { s1 with toks := s1.toks + 1 } σ H1 x (.int n) v _ _ (I1.tok _) r1 ⟨_, rfl⟩ q1)) (fun c s3 q => ?_) fun _ _ z => z.2
  obtain ⟨hk, z, H3, I3, r3, k, ez, q3⟩ := q
  subst ez
  cases r3
  have hk : s1.toks + 1 ≤ s3.toks := hk
  refine wpAny_truthy_bool ?_
  cases k with
  | true => exact wpAny_mono (PySem.wpAny_toks (hb pins s3 σ H3 D (by omega) I3 q3)) (fun f s4 q => ⟨by have := q.1; omega, q.2⟩) fun _ _ z => z.2
  | false => exact wpAny_mono (PySem.wpAny_toks (hc pins s3 σ H3 D (by omega) I3 q3)) (fun f s4 q => ⟨by have := q.1; omega, q.2⟩) fun _ _ z => z.2
end
end Sn

namespace Sn
open PySem PySem.Spec PyProof.Rows L2 TL
/-! ### the law's reading, spoilt texts -/
structure NmW (K : PySem.W.Frag) (w : World) (mg : Str → Option Value) (aW : Addr) (tS : PySem.Tok) (CR CS aR : Addr) (t0 t1 t2 t3 t4 t5 t6 : PySem.Tok) : Prop extends NmR K w mg aW tS CR CS aR t0 t1 t2 t3 t4 t5 t6 where
  c_SyntaxProblem : mg "SyntaxProblem" = some (.ref CS)
  xf : XfC K CS
  exm : PySem.W.exmOne K (.ref CS) (.ref CS) = some true
def srcOf (r : Addr) (z : Str) : Src := ⟨r, tl z, allT z⟩
def PlV (H : Hp) (o : Option (Nat × Nat)) (v : V) : Prop := match o with
  | none => v = .non
  | some (s, e) => ∃ p, v = .ref p ∧ H p = some (.tup [.int (s : Int), .int (e : Int)])
theorem PlV.keep {H H' : Hp} (s : Tups H H') {o : Option (Nat × Nat)} {v : V} (h : PlV H o v) : PlV H' o v := by
  cases o with
  | none => exact h
  | some x =>
    obtain ⟨p, e, h⟩ := h
    exact ⟨p, e, s _ _ h⟩
def spLRead : Sp := fun vs H Q _ => ∃ z : Str, vs = [.str z] ∧ z.length ≤ 100000 ∧ (allT z).length ≤ 65 ∧ ∀ r v H', Same H H' → PlV H' (plc (srcOf r z) 225) v → Q v H'
def spWs : List Str := [")", "(", "=", "x", "\x69n", ",", "7", "then", "?", ":", "def", "[", "not", "-", "."]
theorem spWs_ok : (spWs.all fun z => decide ((toks (tl z) 0 (tl z).length).length ≤ 1) && decide ((tl z).length ≤ 5)) = true := by decide +kernel
def cnt (z : Str) : Nat := (allT z).length
def spSpoilt : Sp := fun vs H Q _ => ∃ (t c : Addr) (z : Str), vs = [.ref t, .str z] ∧ Tp H t c ∧ z.length ≤ 90000 ∧ 0 < cnt z ∧ cnt z ≤ 64 ∧ ∀ z' H', z'.length ≤ z.length + 10 → cnt z' ≤ cnt z + 1 → But t H H' → Tp H' t c → Q (.str z') H'
theorem cnt_glue {x y : Str} {a b : List Nat} (h : tl x = a ++ 32 :: b) (hy : tl y = tl y) : cnt x ≤ (toks a 0 a.length).length + (toks b 0 b.length).length := by
  unfold cnt allT
  rw [h]
  exact toks_glue a.length 0 (by omega) (Nat.zero_le _)
/-- how many tokens the parts have -/
theorem cnt_parts {l : List Nat} {i : Nat} {x : Tok} (h : (toks l 0 l.length)[i]? = some x) : (toks (l.take x.2.1) 0 (l.take x.2.1).length).length = i ∧ (toks (l.drop x.2.2) 0 (l.drop x.2.2).length).length = (toks l 0 l.length).length - (i + 1) ∧ (toks (l.drop x.2.1) 0 (l.drop x.2.1).length).length = (toks l 0 l.length).length - i ∧
    x.2.1 ≤ l.length ∧ x.2.2 ≤ l.length ∧ x.2.1 < x.2.2 ∧ i < (toks l 0 l.length).length := by
  obtain ⟨_, k2, k3, k4, _⟩ := toks_in (Nat.le_refl l.length) l.length 0 (by omega) x (List.mem_of_getElem? h)
  obtain ⟨_, g2, g3, g4⟩ := toks_cut (l := l) l.length 0 (by omega) i x h
  have hi := (List.getElem?_eq_some_iff.mp h).1
  have dr : ∀ c, c ≤ l.length → (toks (l.drop c) 0 (l.drop c).length).length = (toks l c l.length).length := fun c hc => by
    have := toks_mv (l := l) (r := l.drop c) (J := c) (J' := 0) (by rw [List.drop_zero]) hc (Nat.zero_le _) l.length c (Nat.le_refl _) (by omega)
    rw [show c - c + 0 = 0 by omega] at this
    rw [this, List.length_map]
  refine ⟨?_, ?_, ?_, by omega, k4, k3, hi⟩
  · rw [len_take (by omega), g2, List.length_take]
    omega
  · rw [dr _ k4, g3, List.length_drop]
  · rw [dr _ (by omega), g4, List.length_drop]
theorem LT.row {H : Hp} {p : Addr} {ts : List Tok} (h : LT H p (ts.map tkV)) : ∃ rs : List Addr, H p = some (.lst (rs.map V.ref)) ∧ rs.length = ts.length ∧ ∀ (i : Nat) (t : Tok), ts[i]? = some t → ∃ r, rs[i]? = some r ∧ H r = some (.tup (tkV t)) := by
  obtain ⟨rs, h1, h2, h3⟩ := h
  rw [List.length_map] at h2
  refine ⟨rs, h1, h2, fun i t ht => ?_⟩
  have hi : i < rs.length := by rw [h2]; exact (List.getElem?_eq_some_iff.mp ht).1
  exact ⟨rs[i], List.getElem?_eq_getElem hi, h3 i _ _ (List.getElem?_eq_getElem hi) (by rw [List.getElem?_map, ht]; rfl)⟩
section
variable {P : Program} {w : World} {K : PySem.W.Frag} {mg : Str → Option Value} {base : Heap} {f : Addr} {fd : FuncData} {aW CR CS aR : Addr} {tS t0 t1 t2 t3 t4 t5 t6 : PySem.Tok}
abbrev s_l_read : Stmt := topS 54
abbrev N_l_read : List Str := ["text", "e"]
theorem sc_l_read : FnScope N_l_read ["text"] (defScope s_l_read) := ⟨rfl, rfl, rfl, by decide +kernel, rfl, by decide +kernel, by decide +kernel⟩
theorem ok_l_read (F : Fun K "_law_read" "_law_read" s_l_read f fd) (T : NmW K w mg aW tS CR CS aR t0 t1 t2 t3 t4 t5 t6) (C_read_item : Cal P w K mg base (L2N.CX P w) 229 "read_item" (spReadI CS fun S d a => valB S 225 d a)) : FnOk P w K mg base CX0 230 f fd ["text"] spLRead := by
  refine F.ok sc_l_read (fun vs H Q E h => ?_) (fun cdv A outer s H vs Q E hr h => ?_)
  · obtain ⟨z, rfl, _⟩ := h
    rfl
  obtain ⟨z, rfl, hz, hn, q⟩ := h
  refine ⟨_, (pss_cons (L2N.ps_try_as (i := 1) rfl rfl sc_l_read.nd rfl rfl ⟨rfl, by decide, .inl T.c_SyntaxProblem⟩ takes0N (fun W pn xe tk _ => (pss_one (ps_expr (pe_cSN C_read_item hr (by decide) tk (pa_cons (pv 0) pa_nil))))) (fun a oe cls d pn hz hf => (pss_one (ps_ret (pe_tup (pa_cons (pe_xf T.xf T.s_start hz.zc hf (pv 1)) (pa_cons (pe_xf T.xf T.s_end hz.zc hf (pv 1)) pa_nil)))))))
    (pss_one (ps_ret pe_non))), ?_⟩
  refine ⟨_, rfl, z, rfl, hz, fun r => ?_⟩
  rw [if_neg (by omega)]
  have mo := full_mo (S := srcOf r z) (N := 65) (b := 225) (by decide) hn
  have fail : ∀ (s e : Nat) (H1 : Hp) (dd : Addr), plc (srcOf r z) 225 = some (s, e) → Same H H1 → xdE H1 dd s e → True := fun _ _ _ _ _ _ _ => trivial
  have ev : fullB (srcOf r z) 225 0 = ((⟨r, tl z, allT z⟩ : Src).itemR (valB (⟨r, tl z, allT z⟩ : Src) 225 0) 0).bind (endR (srcOf r z)) := rfl
  have hpl : plc (srcOf r z) 225 = match fullB (srcOf r z) 225 0 with
    | .no s e => some (s, e)
    | _ => none := rfl
  cases e1 : (⟨r, tl z, allT z⟩ : Src).itemR (valB (⟨r, tl z, allT z⟩ : Src) 225 0) 0 with
  | un =>
    rw [e1] at ev
    rw [ev] at mo
    obtain ⟨k, _, ⟨x, hx⟩ | hx⟩ := mo
    · cases hx
    · cases hx
  | no s e =>
    rw [e1] at ev
    rw [ev] at hpl
    intro H7 dd s7 xd
    have xd : H7 dd = some (.xd [("end", .int (e : Int)), ("start", .int (s : Int))]) := xd
    refine ⟨true, T.exm, fun _ a2 na => ?_, fun h => absurd h (by decide)⟩
    refine ⟨_, rfl, rfl, rfl, dd, _, _, rfl, xd, rfl, _, rfl, rfl, rfl, dd, _, _, rfl, xd, rfl, by show 2 ≤ sizeLine; decide, fun p np => ?_⟩
    exact q r _ _ (s7.trans (same_new np)) (by rw [hpl]; exact ⟨p, rfl, upd_same⟩)
  | ok t a =>
    rw [e1] at ev
    have ev : fullB (srcOf r z) 225 0 = endR (srcOf r z) t a := ev
    show if a < (allT z).length then _ else _
    by_cases ha : a < (allT z).length
    · rw [if_pos ha]
      have ev2 : fullB (srcOf r z) 225 0 = (srcOf r z).fail a := by rw [ev]; exact if_pos ha
      rw [ev2] at hpl
      have hpl : plc (srcOf r z) 225 = some (((⟨r, tl z, allT z⟩ : Src).fp a).1, ((⟨r, tl z, allT z⟩ : Src).fp a).2) := hpl
      intro H7 dd s7 xd
      generalize ((⟨r, tl z, allT z⟩ : Src).fp a).1 = s at hpl xd
      generalize ((⟨r, tl z, allT z⟩ : Src).fp a).2 = e at hpl xd
      have xd : H7 dd = some (.xd [("end", .int (e : Int)), ("start", .int (s : Int))]) := xd
      refine ⟨true, T.exm, fun _ a2 na => ?_, fun h => absurd h (by decide)⟩
      refine ⟨_, rfl, rfl, rfl, dd, _, _, rfl, xd, rfl, _, rfl, rfl, rfl, dd, _, _, rfl, xd, rfl, by show 2 ≤ sizeLine; decide, fun p np => ?_⟩
      exact q r _ _ (s7.trans (same_new np)) (by rw [hpl]; exact ⟨p, rfl, upd_same⟩)
    · rw [if_neg ha]
      have ev2 : fullB (srcOf r z) 225 0 = .ok t a := by rw [ev]; exact if_neg ha
      rw [ev2] at hpl
      intro H3 v3 s3 D3
      exact q r _ _ s3 (by rw [hpl]; rfl)
abbrev s_l_spoilt : Stmt := topS 55
abbrev N_l_spoilt : List Str := ["tape", "text", "found", "at", "sort", "start", "end", "words", "word", "choice"]
theorem sc_l_spoilt : FnScope N_l_spoilt ["tape", "text"] (defScope s_l_spoilt) := ⟨rfl, rfl, rfl, by decide +kernel, rfl, by decide +kernel, by decide +kernel⟩
def pcs_l_spoilt_1 : List Str := [")", "(", "=", "x", "in", ",", "7", "then", "?", ":", "def", "[", "not", "-", "."]
theorem ok_l_spoilt (F : Fun K "_law_spoilt" "_law_spoilt" s_l_spoilt f fd) (T : Nm mg) (C_law_take : Cal P w K mg base CX0 1 "_law_take" spTake) (C_law_tokens : Cal P w K mg base CX0 4 "_law_tokens" spTokens) : FnOk P w K mg base CX0 5 f fd ["tape", "text"] spSpoilt := by
  refine F.ok sc_l_spoilt (fun vs H Q E h => ?_) (fun cdv A outer s H vs Q E hr h => ?_)
  · obtain ⟨t, c, z, rfl, _⟩ := h
    rfl
  obtain ⟨t, c, z, rfl, T0, hz, hpos, hn, q⟩ := h
  refine ⟨_, (pss_cons (ps_set (i := 2) sc_l_spoilt.nd rfl (Or.inl rfl) (pe_c C_law_tokens hr (by first | decide | omega) pass0 (pa_cons (pv 1) pa_nil)))
    (pss_cons (ps_set (i := 3) sc_l_spoilt.nd rfl (Or.inl rfl) (pe_c C_law_take hr (by first | decide | omega) pass0 (pa_cons (pv 0) (pa_cons (pe_callB call_len_seq (by rfl) T.len PySem.boot_len (pa_cons (pv 2) pa_nil)) pa_nil))))
    (pss_cons (ps_asg (pe_ix (r := rIxL K) ix_list (pv 2) (pv 3) (fun _ _ => rfl)) (pg_tup rfl (pgs_cons (pg_name (i := 4) sc_l_spoilt.nd rfl (Or.inl rfl)) (pgs_cons (pg_name (i := 5) sc_l_spoilt.nd rfl (Or.inl rfl)) (pgs_cons (pg_name (i := 6) sc_l_spoilt.nd rfl (Or.inl rfl)) pgs_nil)))))
    (pss_cons (ps_set (i := 7) sc_l_spoilt.nd rfl (Or.inl rfl) (pe_lst (pa_strs pcs_l_spoilt_1)))
    (pss_cons (ps_set (i := 8) sc_l_spoilt.nd rfl (Or.inl rfl) (pe_ix (r := rIxL K) ix_list (pv 7) (pe_c C_law_take hr (by first | decide | omega) pass0 (pa_cons (pv 0) (pa_cons pe_int pa_nil))) (fun _ _ => rfl)))
    (pss_cons (ps_set (i := 9) sc_l_spoilt.nd rfl (Or.inl rfl) (pe_c C_law_take hr (by first | decide | omega) pass0 (pa_cons (pv 0) (pa_cons pe_int pa_nil))))
    (pss_cons (ps_if (pt_cmpR op_eq (pv 9) pe_int (nomark _)) (pss_one (ps_ret (pe_op op_add_str (pe_op op_add_str (pe_slice sl_str (pv 1) po_none (po_some (pv 5))) pe_str) (pe_slice sl_str (pv 1) (po_some (pv 6)) po_none)))) pss_nil)
    (pss_cons (ps_if (pt_cmpR op_eq (pv 9) pe_int (nomark _)) (pss_one (ps_ret (pe_op op_add_str (pe_op op_add_str (pe_op op_add_str (pe_op op_add_str (pe_slice sl_str (pv 1) po_none (po_some (pv 5))) pe_str) (pv 8)) pe_str) (pe_slice sl_str (pv 1) (po_some (pv 6)) po_none)))) pss_nil)
    (pss_cons (ps_if (pt_cmpR op_eq (pv 9) pe_int (nomark _)) (pss_one (ps_ret (pe_op op_add_str (pe_op op_add_str (pe_op op_add_str (pe_op op_add_str (pe_slice sl_str (pv 1) po_none (po_some (pv 5))) pe_str) (pv 8)) pe_str) (pe_slice sl_str (pv 1) (po_some (pv 5)) po_none)))) pss_nil)
    (pss_one (ps_ret (pe_slice sl_str (pv 1) po_none (po_some (pv 5)))))))))))))), ?_⟩
  have T1f : ∀ {H1 : Hp}, Same H H1 → Tp H1 t c := fun s => T0.same s
  refine ⟨_, rfl, z, rfl, by omega, fun p H1 s1 np lt => ?_⟩
  obtain ⟨rs, hp, hrl, hrow⟩ := LT.row lt
  have T1 := T0.same s1
  have hcz : rs.length = cnt z := hrl
  refine ⟨_, rfl, _, rfl, p, _, rfl, .inl (SqL.of hp), t, c, _, rfl, T1, by rw [List.length_map]; omega, by rw [List.length_map]; omega, fun r H2 h0 h1 b2 T2 => ?_⟩
  rw [List.length_map] at h1
  obtain ⟨k, rfl⟩ : ∃ k : Nat, r = (k : Int) := ⟨r.toNat, by omega⟩
  have hk : k < (allT z).length := by have : (allT z).length = cnt z := rfl; omega
  have gx := List.getElem?_eq_getElem hk
  generalize (allT z)[k] = x at gx
  obtain ⟨rr, g1, g2⟩ := hrow k x gx
  have hp2 := b2 _ _ (T1.ne hp (by intro k e; cases e)) hp
  have hr2 := b2 _ _ (T1.ne g2 (by intro k e; cases e)) g2
  refine ⟨_, rfl, _, rfl, p, _, _, _, rfl, rfl, SqL.of hp2, at_of rfl (show (rs.map V.ref)[k]? = some (V.ref rr) by rw [List.getElem?_map, g1]; rfl), ?_⟩
  refine ⟨rr, _, rfl, .inl (.inl hr2), rfl, _, _, rfl, _, _, rfl, _, _, rfl, rfl, ?_⟩
  obtain ⟨c1, c2, c3, c4, c5, c6, c7⟩ := cnt_parts (l := tl z) gx
  have ecz : (toks (tl z) 0 (tl z).length).length = cnt z := rfl
  rw [ecz] at c2 c3 c7
  refine ⟨by decide, fun L nL => ?_⟩
  have s3 := same_new (o := .lst (spWs.map V.str)) nL
  have T3 := T2.new (o := .lst (spWs.map V.str)) nL
  have hL : upd H2 L (.lst (spWs.map V.str)) L = some (.lst (spWs.map V.str)) := upd_same
  refine ⟨_, rfl, _, rfl, t, c, 15, rfl, T3, by decide, by decide, fun r3 H4 g0 g3 b4 T4 => ?_⟩
  have hL4 := b4 _ _ (T3.ne hL (by intro k e; cases e)) hL
  obtain ⟨j, rfl⟩ : ∃ j : Nat, r3 = (j : Int) := ⟨r3.toNat, by omega⟩
  have hj : j < spWs.length := by show j < 15; omega
  have gw := List.getElem?_eq_getElem hj
  generalize spWs[j] = y at gw
  have ok := List.all_eq_true.mp spWs_ok y (List.mem_of_getElem? gw)
  simp only [Bool.and_eq_true, decide_eq_true_eq] at ok
  refine ⟨L, _, _, _, rfl, rfl, SqL.of hL4, at_of rfl (show (spWs.map V.str)[j]? = some (V.str y) by rw [List.getElem?_map, gw]; rfl), ?_⟩
  refine ⟨_, rfl, t, c, 4, rfl, T4, by decide, by decide, fun r5 H5 _ _ b5 T5 => ?_⟩
  have b05 : But t H H5 := (But.of s1).trans (b2.trans ((But.of s3).trans (b4.trans b5)))
  have lz := len_tl z
  have e1 := tl_cut_to z x.2.1
  have e2 := tl_cut_from z x.2.2
  have e3 := tl_cut_from z x.2.1
  have ly := len_tl y
  have l1 : (cutS z none (some (x.2.1 : Int))).length = x.2.1 := by rw [len_tl, e1, List.length_take]; omega
  have l2 : (cutS z (some (x.2.2 : Int)) none).length = (tl z).length - x.2.2 := by rw [len_tl, e2, List.length_drop]
  have l3 : (cutS z (some (x.2.1 : Int)) none).length = (tl z).length - x.2.1 := by rw [len_tl, e3, List.length_drop]
  have sp1 : tl (" " : Str) = [32] := by decide +kernel
  have lsp : (" " : Str).length = 1 := by decide +kernel
  have la : ∀ a b : Str, (a ++ b).length = a.length + b.length := fun a b => by rw [len_tl, tl_append, List.length_append]; rfl
  have sl : z.length ≤ sizeLine := small (by omega)
  have fin : ∀ (z' : Str) (a b : List Nat), tl z' = a ++ 32 :: b → z'.length ≤ z.length + 10 → (toks a 0 a.length).length + (toks b 0 b.length).length ≤ cnt z + 1 → Q (.str z') H5 := fun z' a b h1 h2 h3 => q z' H5 h2 (Nat.le_trans (cnt_glue h1 (y := z') rfl) h3) b05 T5
  have wy : (toks (tl y ++ 32 :: (tl z).drop x.2.2) 0 (tl y ++ 32 :: (tl z).drop x.2.2).length).length ≤ 1 + (cnt z - (k + 1)) := by
    have := toks_glue (u := tl y) (v := (tl z).drop x.2.2) (tl y).length 0 (by omega) (Nat.zero_le _)
    omega
  have wy2 : (toks (tl y ++ 32 :: (tl z).drop x.2.1) 0 (tl y ++ 32 :: (tl z).drop x.2.1).length).length ≤ 1 + (cnt z - k) := by
    have := toks_glue (u := tl y) (v := (tl z).drop x.2.1) (tl y).length 0 (by omega) (Nat.zero_le _)
    omega
  refine ⟨_, rfl, rfl, _, rfl, ?_⟩
  refine ite2 (fun _ => ?_) (fun _ => ?_)
  · refine ⟨_, rfl, _, rfl, _, rfl, z, rfl, sl, _, _, rfl, rfl, small (by omega), _, rfl, _, rfl, _, rfl, z, rfl, sl, _, _, rfl, rfl, small (by rw [la]; omega), ?_⟩
    exact fin _ ((tl z).take x.2.1) ((tl z).drop x.2.2) (by rw [tl_append, tl_append, e1, e2, sp1]; simp) (by rw [la, la]; omega) (by omega)
  refine ⟨_, rfl, rfl, _, rfl, ?_⟩
  refine ite2 (fun _ => ?_) (fun _ => ?_)
  · refine ⟨_, rfl, _, rfl, _, rfl, z, rfl, sl, _, _, rfl, rfl, small (by omega), _, rfl, _, _, rfl, rfl, small (by rw [la]; omega), _, _, rfl, rfl, small (by rw [la, la]; omega), _, rfl, _, rfl, _, rfl, z, rfl, sl, _, _, rfl, rfl, small (by rw [la, la, la]; omega), ?_⟩
    exact fin _ ((tl z).take x.2.1) (tl y ++ 32 :: (tl z).drop x.2.2) (by rw [tl_append, tl_append, tl_append, tl_append, e1, e2, sp1]; simp) (by rw [la, la, la, la]; omega) (by omega)
  refine ⟨_, rfl, rfl, _, rfl, ?_⟩
  refine ite2 (fun _ => ?_) (fun _ => ?_)
  · refine ⟨_, rfl, _, rfl, _, rfl, z, rfl, sl, _, _, rfl, rfl, small (by omega), _, rfl, _, _, rfl, rfl, small (by rw [la]; omega), _, _, rfl, rfl, small (by rw [la, la]; omega), _, rfl, _, rfl, _, rfl, z, rfl, sl, _, _, rfl, rfl, small (by rw [la, la, la]; omega), ?_⟩
    exact fin _ ((tl z).take x.2.1) (tl y ++ 32 :: (tl z).drop x.2.1) (by rw [tl_append, tl_append, tl_append, tl_append, e1, e3, sp1]; simp) (by rw [la, la, la, la]; omega) (by omega)
  · refine ⟨_, rfl, _, rfl, _, rfl, z, rfl, sl, ?_⟩
    refine q _ H5 (by omega) ?_ b05 T5
    unfold cnt allT
    rw [e1]
    omega
end

end Sn

namespace Sn
open PySem PySem.Spec PyProof.Rows L2 TL
/-! ### the law -/
theorem same_upd {H H' : Hp} {D : Addr} {o : HO} (s : Same H H') (h : H D = none) : Same H (upd H' D o) := fun b u e => by
  rw [upd_ne (ne_of_none e h)]
  exact s _ _ e
def pl2 (x : Tok) : List V := [.int (x.2.1 : Int), .int (x.2.2 : Int)]
def pd2 (x : Tok) : PyData := .tuple [.int (x.2.1 : Int), .int (x.2.2 : Int)]
theorem atI_m1 {xs : List V} {v : V} (h : xs[xs.length - 1]? = some v) : atI xs (-1) = some v := by
  have hl : 0 < xs.length := by
    have := (List.getElem?_eq_some_iff.mp h).1
    omega
  have e : ixN xs.length (-1) = some (xs.length - 1) := by
    unfold ixN
    rw [if_neg (by decide)]
    simp
    omega
  unfold atI
  rw [e]
  exact h
theorem at0' {a : V} {r : List V} : atI (a :: r) 0 = some a := at_of (show (0 : Int) = ((0 : Nat) : Int) from rfl) rfl
theorem at1' {a b : V} {r : List V} : atI (a :: b :: r) 1 = some b := at_of (show (1 : Int) = ((1 : Nat) : Int) from rfl) rfl
theorem pre_cut {r r' : Addr} {z : Str} {i : Nat} {x : Tok} (h : (allT z)[i]? = some x) : Pre (srcOf r z) (srcOf r' (cutS z none (some (x.2.2 : Int)))) (i + 1) ∧ (srcOf r' (cutS z none (some (x.2.2 : Int)))).ts.getLast? = some x ∧ cnt (cutS z none (some (x.2.2 : Int))) ≤ cnt z := by
  obtain ⟨_, k2, k3, k4, _⟩ := toks_in (Nat.le_refl (tl z).length) (tl z).length 0 (by omega) x (List.mem_of_getElem? h)
  obtain ⟨g1, _⟩ := toks_cut (l := tl z) (tl z).length 0 (by omega) i x h
  have hi : i < (allT z).length := (List.getElem?_eq_some_iff.mp h).1
  have et := tl_cut_to z x.2.2
  have eT : allT (cutS z none (some (x.2.2 : Int))) = (allT z).take (i + 1) := by
    unfold allT
    rw [et, len_take k4]
    exact g1
  have o := toks_ord (tl z)
  have ts' : (srcOf r' (cutS z none (some (x.2.2 : Int)))).ts = (allT z).take (i + 1) := eT
  refine ⟨⟨?_, ?_, fun a ha => ?_, fun a ha => ?_⟩, ?_, ?_⟩
  · show i + 1 ≤ (allT z).length
    omega
  · show (srcOf r' (cutS z none (some (x.2.2 : Int)))).ts.length = i + 1
    rw [ts', List.length_take]
    omega
  · rw [ts', List.getElem?_take_of_lt ha]
    rfl
  · have ha2 : a < (allT z).length := by omega
    have gy := List.getElem?_eq_getElem ha2
    generalize (allT z)[a] = y at gy
    have gy' : (srcOf r' (cutS z none (some (x.2.2 : Int)))).ts[a]? = some y := by rw [ts', List.getElem?_take_of_lt ha]; exact gy
    have gy0 : (srcOf r z).ts[a]? = some y := gy
    have hy := o.1 y (List.mem_of_getElem? gy)
    have hle : y.2.2 ≤ x.2.2 := by
      by_cases e : a = i
      · subst e
        rw [gy] at h
        cases h
        exact Nat.le_refl _
      · have := o.2 a i y x gy h (by omega)
        omega
    unfold Src.wd
    rw [gy', gy0]
    show ((tl (cutS z none (some (x.2.2 : Int)))).drop y.2.1).take (y.2.2 - y.2.1) = ((tl z).drop y.2.1).take (y.2.2 - y.2.1)
    rw [et, List.drop_take, List.take_take, Nat.min_eq_left (by omega)]
  · rw [ts', List.getLast?_eq_getElem?, List.length_take, Nat.min_eq_left (by omega), Nat.add_sub_cancel, List.getElem?_take_of_lt (by omega)]
    exact h
  · unfold cnt
    rw [eT, List.length_take]
    omega
theorem LT.rows {H : Hp} {p : Addr} {ts : List Tok} (h : LT H p (ts.map pl2)) : ∃ rs : List Addr, H p = some (.lst (rs.map V.ref)) ∧ rs.length = ts.length ∧ ∀ (i : Nat) (t : Tok), ts[i]? = some t → ∃ r, rs[i]? = some r ∧ H r = some (.tup (pl2 t)) := by
  obtain ⟨rs, h1, h2, h3⟩ := h
  rw [List.length_map] at h2
  refine ⟨rs, h1, h2, fun i t ht => ?_⟩
  have hi : i < rs.length := by rw [h2]; exact (List.getElem?_eq_some_iff.mp ht).1
  exact ⟨rs[i], List.getElem?_eq_getElem hi, h3 i _ _ (List.getElem?_eq_getElem hi) (by rw [List.getElem?_map, ht]; rfl)⟩
theorem dp_pl {K : PySem.W.Frag} {H : Hp} {p : Addr} {s e : Nat} (h : H p = some (.tup [.int (s : Int), .int (e : Int)])) : Dp K H (.ref p) (.tuple [.int (s : Int), .int (e : Int)]) := .tup (.inl (.inl h)) (.cons (.int _) (.cons (.int _) .nil))
theorem dpAll_pl {K : PySem.W.Frag} {H : Hp} : ∀ (ts : List Tok) (rs : List Addr), rs.length = ts.length → (∀ (i : Nat) (t : Tok), ts[i]? = some t → ∃ r, rs[i]? = some r ∧ H r = some (.tup (pl2 t))) → DpAll K H (rs.map V.ref) (ts.map pd2)
  | [], rs, hl, _ => by
    have : rs = [] := List.length_eq_zero_iff.mp hl
    subst this
    exact .nil
  | t :: q, [], hl, _ => by cases hl
  | t :: q, r :: rs, hl, h => by
    obtain ⟨r', e, h1⟩ := h 0 t rfl
    have e : r = r' := by simpa using e
    subst e
    exact .cons (dp_pl h1) (dpAll_pl q rs (by simpa using hl) fun i u hu => by
      obtain ⟨r2, e2, h2⟩ := h (i + 1) u (by simpa using hu)
      exact ⟨r2, by simpa using e2, h2⟩)
theorem eqv_pd (a b c d : Nat) : PyData.eqv (.tuple [.int (a : Int), .int (b : Int)]) (.tuple [.int (c : Int), .int (d : Int)]) = decide (a = c ∧ b = d) := by
  have e : PyData.eqv (.tuple [.int (a : Int), .int (b : Int)]) (.tuple [.int (c : Int), .int (d : Int)]) = (((a : Int) == (c : Int)) && (((b : Int) == (d : Int)) && true)) := by
    rw [PyData.eqv, PyData.eqvAll, PyData.eqvAll, PyData.eqvAll, PyData.eqv, PyData.eqv]
  rw [e]
  by_cases h1 : a = c <;> by_cases h2 : b = d <;> simp [h1, h2] <;> omega
theorem pd_shaped (s e : Int) : SeqAt.shaped (.tuple [.int s, .int e]) = true := by
  unfold SeqAt.shaped
  rw [Bool.and_eq_true]
  exact ⟨rfl, decide_eq_true (show 1 ≤ 64 by decide)⟩
theorem pds_shaped : ∀ (ts : List Tok), PyData.canLayAll0 (ts.map pd2) = true ∧ PyData.depthAll (ts.map pd2) ≤ 1
  | [] => ⟨rfl, Nat.zero_le _⟩
  | t :: q => by
    obtain ⟨h1, h2⟩ := pds_shaped q
    refine ⟨?_, ?_⟩
    · show (PyData.canLay0 (pd2 t) && PyData.canLayAll0 (q.map pd2)) = true
      rw [h1, Bool.and_true]
      rfl
    · show max (PyData.depth (pd2 t)) (PyData.depthAll (q.map pd2)) ≤ 1
      have : PyData.depth (pd2 t) = 1 := rfl
      omega
theorem pdl_shaped (ts : List Tok) : SeqAt.shaped (.list (ts.map pd2)) = true := by
  obtain ⟨h1, h2⟩ := pds_shaped ts
  unfold SeqAt.shaped
  rw [Bool.and_eq_true]
  refine ⟨h1, decide_eq_true ?_⟩
  show PyData.depthAll (ts.map pd2) + 1 ≤ 64
  omega
section
variable {P : Program} {w : World} {K : PySem.W.Frag} {mg : Str → Option Value} {base : Heap} {f : Addr} {fd : FuncData} {aW CR CS aR : Addr} {tS t0 t1 t2 t3 t4 t5 t6 : PySem.Tok}
abbrev s_law : Stmt := topS 56
abbrev N_law : List Str := ["script", "tape", "out", "text", "found", "place", "end", "places", "number", "before", "sort", "start"]
theorem sc_law : FnScope N_law ["script"] (defScope s_law) := ⟨rfl, rfl, rfl, by decide +kernel, rfl, by decide +kernel, by decide +kernel⟩
theorem ok_law (F : Fun K "law" "law" s_law f fd) (T : Nm mg) (C_law_tape : Cal P w K mg base CX0 1 "_law_tape" (spTape K)) (C_law_take : Cal P w K mg base CX0 1 "_law_take" spTake) (C_law_item : Cal P w K mg base CX0 14 "_law_item" (spLIt 10 63 fun nw x => nw ≠ []))
    (C_law_same : Cal P w K mg base CX0 18 "_law_same" (spSame 9)) (C_law_tokens : Cal P w K mg base CX0 4 "_law_tokens" spTokens) (C_law_read : Cal P w K mg base CX0 230 "_law_read" spLRead) (C_law_spoilt : Cal P w K mg base CX0 5 "_law_spoilt" spSpoilt) :
    FnOk P w K mg base CX0 231 f fd ["script"] (spLaw K) := by
  refine F.ok sc_law (fun vs H Q E h => ?_) (fun cdv A outer s H vs Q E hr h => ?_)
  · obtain ⟨a, ns, rfl, _⟩ := h
    rfl
  obtain ⟨a, ns, rfl, hS, h63, q⟩ := h
  refine ⟨_, (pss_cons (ps_set (i := 1) sc_law.nd rfl (Or.inl rfl) (pe_c C_law_tape hr (by first | decide | omega) pass0 (pa_cons (pv 0) pa_nil)))
    (pss_cons (ps_set (i := 2) sc_law.nd rfl (Or.inl rfl) (pe_disp (pps_cons pe_str pe_str pps_nil) (by rfl) (by rfl) (fun z => by cases z) (by decide)))
    (pss_cons (ps_expr (pe_c C_law_item hr (by first | decide | omega) pass0 (pa_cons (pv 1) (pa_cons (pv 2) pa_nil))))
    (pss_cons (ps_set (i := 3) sc_law.nd rfl (Or.inl rfl) (pe_c C_law_spoilt hr (by first | decide | omega) pass0 (pa_cons (pv 1) (pa_cons (pe_dget (hu_of hr) (pv 2) pe_str (fun _ _ => rfl)) pa_nil))))
    (C8.pss_cut (ps_if (PW.pt (pw_and (pt_cmpR op_eq (pe_c C_law_take hr (by first | decide | omega) pass0 (pa_cons (pv 1) (pa_cons pe_int pa_nil))) pe_int (nomark _)) (pw_and1 (pt_cmpR (op_neE hr.units) (pe_c C_law_tokens hr (by first | decide | omega) pass0 (pa_cons (pv 3) pa_nil)) (pe_lst pa_nil) (nomark _))))) (pss_one (ps_set (i := 3) sc_law.nd rfl (Or.inl rfl) (pe_c C_law_spoilt hr (by first | decide | omega) pass0 (pa_cons (pv 1) (pa_cons (pv 3) pa_nil))))) pss_nil)
    (pss_cons (ps_set (i := 4) sc_law.nd rfl (Or.inl rfl) (pe_c C_law_tokens hr (by first | decide | omega) pass0 (pa_cons (pv 3) pa_nil)))
    (pss_cons (ps_set (i := 5) sc_law.nd rfl (Or.inl rfl) (pe_c C_law_read hr (by first | decide | omega) pass0 (pa_cons (pv 3) pa_nil)))
    (pss_cons (ps_if (PW.pt (pw_or (pt_cmpR op_isN (pv 5) pe_non (nomark _)) (pw_or1 (pt_cmpR (op_eqE hr.units) (pv 4) (pe_lst pa_nil) (nomark _))))) (pss_one (ps_ret pe_bl)) pss_nil)
    (pss_cons (ps_setLc (i := 7) (own := [(("sort" : Str), 10), (("start" : Str), 11), (("end" : Str), 6)]) (g := (gTup K 3 (gCons (gName 10) (gCons (gName 11) (gCons (gName 6) gNil))))) (tt := tYes) (by rfl) sc_law.nd rfl rfl (sw_true rfl rfl rfl (by decide +kernel)) (pi_list (pv 4)) (blkOk_by (N := N_law) (sc := defScope s_law) (by decide +kernel)) (fun _ _ _ _ _ => (pg_tup rfl (pgs_cons (pg_name (i := 10) sc_law.nd rfl (Or.inl rfl)) (pgs_cons (pg_name (i := 11) sc_law.nd rfl (Or.inl rfl)) (pgs_cons (pg_name (i := 6) sc_law.nd rfl (Or.inl rfl)) pgs_nil))))) (fun _ _ _ _ _ => pts_nil) (fun _ _ _ _ _ => (pe_tup (pa_cons (pv 11) (pa_cons (pv 6) pa_nil)))))
    (pss_cons (ps_if (pt_cmpR (op_eqD hr.units) (pv 5) (pe_tup (pa_cons (pe_ix (r := rIxT K) ix_tup (pe_ix (r := rIxL K) ix_list (pv 7) (pe_un un_neg pe_int) (fun _ _ => rfl)) pe_int (fun _ _ => rfl)) (pa_cons (pe_ix (r := rIxT K) ix_tup (pe_ix (r := rIxL K) ix_list (pv 7) (pe_un un_neg pe_int) (fun _ _ => rfl)) pe_int (fun _ _ => rfl)) pa_nil))) (nomark _)) (pss_one (ps_ret pe_bl)) pss_nil)
    (pss_cons (ps_if (pt_cmpR (op_notInD (un65 hr)) (pv 5) (pv 7) (by rfl)) (pss_one (ps_ret pe_bl)) pss_nil)
    (pss_cons (ps_set (i := 8) sc_law.nd rfl (Or.inl rfl) (pe_bm PySem.F.plainAttrs_list PySem.F.slot_list_index PySem.F.type_list_index (mt_indexD (un65 hr)) (pv 7) (pa_cons (pv 5) pa_nil)))
    (pss_cons (ps_if (pt_cmpR op_gt (pv 8) pe_int (nomark _)) (pss_cons (ps_set (i := 6) sc_law.nd rfl (Or.inl rfl) (pe_ix (r := rIxT K) ix_tup (pe_ix (r := rIxL K) ix_list (pv 7) (pe_op op_sub (pv 8) pe_int) (fun _ _ => rfl)) pe_int (fun _ _ => rfl)))
    (pss_cons (ps_set (i := 9) sc_law.nd rfl (Or.inl rfl) (pe_c C_law_read hr (by first | decide | omega) pass0 (pa_cons (pe_slice sl_str (pv 3) po_none (po_some (pv 6))) pa_nil)))
    (pss_one (ps_if (PW.pt (pw_and (pt_cmpR op_notN (pv 9) pe_non (nomark _)) (pw_and1 (pt_cmpR (op_neD hr.units) (pv 9) (pe_tup (pa_cons (pv 6) (pa_cons (pv 6) pa_nil))) (nomark _))))) (pss_one (ps_ret pe_bl)) pss_nil)))) pss_nil)
    (pss_one (ps_ret (pe_c C_law_same hr (by first | decide | omega) pass0 (pa_cons (pe_c C_law_read hr (by first | decide | omega) pass0 (pa_cons (pe_slice sl_str (pv 3) po_none (po_some (pe_ix (r := rIxT K) ix_tup (pv 5) pe_int (fun _ _ => rfl)))) pa_nil)) (pa_cons (pv 5) pa_nil)))))))))))))))))), ?_⟩
  refine ⟨_, rfl, a, ns, rfl, hS, h63, fun t c H1 s1 nt nc tp1 => ?_⟩
  intro o no
  refine ⟨upd_same, [(.inr "text", .str "")], rfl, (by show 1 ≤ 15; decide), ?_⟩
  rw [upd_upd]
  have em : mergeK [] [((.inr "text" : Key), V.str "")] = [(.inr "text", .str "")] := by kernel_rfl
  rw [em]
  have P0 : Pn (upd H1 o (.dK [(.inr "text", .str "")])) t c o [] := ⟨tp1.new no, "", upd_same, by rw [show tl ("" : Str) = [] by decide +kernel]; exact tx_nil⟩
  refine ⟨_, rfl, _, rfl, t, c, o, [], rfl, P0, by decide, fun nw x H3 v hx ln dx D3 P3 b3 => ?_⟩
  have P3 : Pn H3 t c o nw := P3
  obtain ⟨T3, z, hz, X⟩ := id P3
  have hzl := X.len
  have hcz : cnt z = nw.length := by unfold cnt allT; rw [X.all, List.length_map]
  have hnw : 0 < nw.length := List.length_pos_iff.mpr hx
  have lz : z.length = (tl z).length := len_tl z
  refine ⟨_, rfl, _, rfl, o, _, rfl, DGet.k (k := .inr "text") hz, t, c, z, rfl, T3, by omega, by omega, by omega, fun z1 H4 l1 c1 b4 T4 => ?_⟩
  refine ⟨fun σ H' => ∃ z2 : Str, σ = [some (.ref a), some (.ref t), some (.ref o), some (.str z2), none, none, none, none, none, none, none, none] ∧ z2.length ≤ 4000 ∧ cnt z2 ≤ 65, ?_, ?_⟩
  · refine ⟨_, rfl, t, c, 6, rfl, T4, by decide, by decide, fun r H5 _ _ b5 T5 => ?_⟩
    refine ⟨rfl, _, rfl, ?_⟩
    refine ite2 (fun _ => ?_) (fun _ => ⟨z1, rfl, by omega, by omega⟩)
    refine ⟨_, rfl, z1, rfl, by omega, fun p H6 s6 np lt => ?_⟩
    obtain ⟨rs, hp, hrl, hrow⟩ := LT.row lt
    refine ⟨Nat.zero_le _, fun L nL => ?_⟩
    refine ⟨p, L, _, rfl, rfl, same_new nL _ _ hp, upd_same, _, rfl, ?_⟩
    have T7 := (T5.same s6).new (o := .lst []) nL
    cases rs with
    | nil => exact iteF ⟨z1, rfl, by omega, by omega⟩
    | cons r0 rs =>
      have hpos : 0 < cnt z1 := by
        have e : (r0 :: rs).length = cnt z1 := hrl
        rw [← e]
        simp
      refine iteT ?_
      exact ⟨_, rfl, _, rfl, t, c, z1, rfl, T7, by omega, hpos, by omega, fun z2 H8 l2 c2 b8 T8 => ⟨z2, rfl, by omega, by omega⟩⟩
  rintro σ H5 ⟨z2, rfl, l2, c2⟩
  refine ⟨_, rfl, z2, rfl, by omega, fun p H6 s6 np lt => ?_⟩
  refine ⟨_, rfl, z2, rfl, by omega, by show cnt z2 ≤ 65; omega, fun rr pv H7 s7 hpv => ?_⟩
  cases hplc : plc (srcOf rr z2) 225 with
  | none =>
    rw [hplc] at hpv
    have hpv : pv = .non := hpv
    subst hpv
    exact ⟨_, rfl, rfl, _, rfl, iteP rfl (q _)⟩
  | some se =>
  obtain ⟨sp, ep⟩ := se
  rw [hplc] at hpv
  obtain ⟨pp, rfl, hpp⟩ := hpv
  refine ⟨_, rfl, rfl, _, rfl, iteN (fun e => nomatch e) ?_⟩
  obtain ⟨rs, hp, hrl, hrow⟩ := LT.row lt
  have hp7 := s7 _ _ hp
  refine ⟨_, rfl, Nat.zero_le _, fun L nL => ?_⟩
  have s8 := same_new (o := .lst []) nL
  refine ⟨p, L, _, rfl, rfl, s8 _ _ hp7, upd_same, _, rfl, ?_⟩
  have hp8 := s8 _ _ hp7
  have hrow8 : ∀ (i : Nat) (t : Tok), (allT z2)[i]? = some t → ∃ r, rs[i]? = some r ∧ upd H7 L (.lst []) r = some (.tup (tkV t)) := fun i t h => by
    obtain ⟨r, k1, k2⟩ := hrow i t h
    exact ⟨r, k1, s8 _ _ (s7 _ _ k2)⟩
  have hpp8 := s8 _ _ hpp
  generalize upd H7 L (.lst []) = H8 at hp8 hrow8 hpp8 ⊢
  have hrl : rs.length = (allT z2).length := hrl
  have hcn : (allT z2).length ≤ 65 := c2
  by_cases hne : rs = []
  · subst hne
    exact iteT (q _)
  have hpos : 0 < rs.length := List.length_pos_iff.mpr hne
  have hem : ((rs.map V.ref).isEmpty) = false := by
    cases rs with
    | nil => exact absurd rfl hne
    | cons _ _ => rfl
  rw [hem]
  refine iteF ?_
  -- places
  refine ⟨_, rfl, p, rfl, ⟨_, SqL.of hp8⟩, fun D nD => ?_⟩
  refine lc_list (K := K) (a := p) (xs := rs.map V.ref) (fun i H' => Same H8 H' ∧ LT H' D (((allT z2).take i).map pl2)) ⟨same_new nD, ⟨[], upd_same, rfl, fun _ _ _ h _ => by simp at h⟩⟩ (fun i H' _ h => SqL.of (h.1 _ _ hp8)) ?_ ?_
  · rintro i x H' hi ⟨sm, ltD⟩
    have hil : i < (allT z2).length := by
      have := (List.getElem?_eq_some_iff.mp hi).1
      rw [List.length_map] at this
      omega
    have gt := List.getElem?_eq_getElem hil
    generalize (allT z2)[i] = t1 at gt
    obtain ⟨r1, g1, g2⟩ := hrow8 i t1 gt
    have ex : x = V.ref r1 := by
      rw [List.getElem?_map, g1] at hi
      exact (Option.some.inj hi).symm
    subst ex
    refine ⟨r1, _, rfl, .inl (.inl (sm _ _ g2)), rfl, _, _, rfl, _, _, rfl, _, _, rfl, rfl, ?_⟩
    refine ⟨rfl, ?_⟩
    refine ⟨_, rfl, _, rfl, by show 2 ≤ sizeLine; decide, fun u nu => ?_⟩
    have su := same_new (o := .tup [.int (t1.2.1 : Int), .int (t1.2.2 : Int)]) nu
    have lt2 := ltD.same su
    obtain ⟨ys, k1, k2, k3⟩ := lt2.push (r := u) (xs := pl2 t1) upd_same
    rw [List.length_map, List.length_take] at k2
    refine ⟨ys, k1, Nat.lt_of_le_of_lt (show ys.length ≤ 1000 by omega) (by decide), same_upd (sm.trans su) nD, ?_⟩
    rw [List.take_add_one, gt, List.map_append]
    exact k3
  rintro H9 ⟨sm, ltD⟩
  rw [List.length_map, List.take_of_length_le (by omega)] at ltD
  obtain ⟨ps, hD, hpl, hprow⟩ := LT.rows ltD
  have hpp9 := sm _ _ hpp8
  have hlast : (allT z2).length - 1 < (allT z2).length := by omega
  have gl := List.getElem?_eq_getElem hlast
  generalize (allT z2)[(allT z2).length - 1] = tl1 at gl
  obtain ⟨rl, gl1, gl2⟩ := hprow _ tl1 gl
  have glL : (ps.map V.ref)[(ps.map V.ref).length - 1]? = some (V.ref rl) := by
    rw [List.length_map, hpl, List.getElem?_map, gl1]
    rfl
  have hlast2 : (allT z2).getLast? = some tl1 := by rw [List.getLast?_eq_getElem?]; exact gl
  refine ⟨_, rfl, _, rfl, _, rfl, D, _, _, _, rfl, rfl, SqL.of hD, atI_m1 glL, rl, _, _, _, rfl, rfl, .inl (.inl gl2), at1', _, rfl, _, rfl, D, _, _, _, rfl, rfl, SqL.of hD, atI_m1 glL, rl, _, _, _, rfl, rfl, .inl (.inl gl2), at1', by show 2 ≤ sizeLine; decide, fun u nu => ?_⟩
  have s10 := same_new (o := .tup [.int (tl1.2.2 : Int), .int (tl1.2.2 : Int)]) nu
  refine ⟨_, _, dp_pl (s10 _ _ hpp9), dp_pl upd_same, pd_shaped _ _, pd_shaped _ _, _, rfl, ?_⟩
  rw [eqv_pd]
  by_cases hend : sp = tl1.2.2 ∧ ep = tl1.2.2
  · exact iteP hend (q _)
  refine iteN hend ?_
  have hD10 := s10 _ _ hD
  have hpp10 := s10 _ _ hpp9
  have hprow10 : ∀ (i : Nat) (t : Tok), (allT z2)[i]? = some t → ∃ r, ps[i]? = some r ∧ upd H9 u (.tup [.int (tl1.2.2 : Int), .int (tl1.2.2 : Int)]) r = some (.tup (pl2 t)) := fun i t h => by
    obtain ⟨r, k1, k2⟩ := hprow i t h
    exact ⟨r, k1, s10 _ _ k2⟩
  generalize upd H9 u (.tup [.int (tl1.2.2 : Int), .int (tl1.2.2 : Int)]) = H10 at hD10 hpp10 hprow10 ⊢
  have DL : Dp K H10 (.ref D) (.list ((allT z2).map pd2)) := .lst (SqL.of hD10) (dpAll_pl _ _ hpl hprow10)
  -- the token at which it fails
  obtain ⟨k, f1, f2⟩ := plc_some (S := srcOf rr z2) (N := 65) (by decide) (show (allT z2).length ≤ 65 by omega) hplc
  have ord : Ord (srcOf rr z2).ts := toks_ord (tl z2)
  have hk : k < (allT z2).length := by
    by_cases h : k < (allT z2).length
    · exact h
    · have e := fp_end (S := srcOf rr z2) (k := k) (x := tl1) (show (allT z2).length ≤ k by omega) hlast2
      rw [e] at f2
      injection f2 with e1 e2
      exact absurd ⟨e1.symm, e2.symm⟩ hend
  have gk := List.getElem?_eq_getElem hk
  generalize (allT z2)[k] = xk at gk
  have gk' : (srcOf rr z2).ts[k]? = some xk := gk
  rw [fp_at gk'] at f2
  injection f2 with e1 e2
  subst e1 e2
  have only : ∀ (j : Nat) (y : Tok), (allT z2)[j]? = some y → (y.2.1 = xk.2.1 ∧ y.2.2 = xk.2.2) → j = k := fun j y hy h => by
    refine fp_inj ord gk' ?_
    rw [fp_at (show (srcOf rr z2).ts[j]? = some y from hy), h.1, h.2]
  refine ⟨_, rfl, _, rfl, _, _, dp_pl hpp10, DL, pd_shaped _ _, pdl_shaped _, _, rfl, ?_⟩
  have hany : ((allT z2).map pd2).any (fun z => PyData.eqv z (.tuple [.int (xk.2.1 : Int), .int (xk.2.2 : Int)])) = true := by
    refine List.any_eq_true.mpr ⟨pd2 xk, List.mem_map_of_mem (List.mem_of_getElem? gk), ?_⟩
    unfold pd2
    rw [eqv_pd]
    exact decide_eq_true ⟨rfl, rfl⟩
  rw [hany]
  refine iteF ?_
  -- its number
  refine ⟨_, rfl, .inl ⟨rfl, _, SqL.of hD10⟩, _, rfl, D, .ref pp, _, _, k, pd2 xk, rfl, rfl, DL, dp_pl hpp10, pdl_shaped _, pd_shaped _ _, by rw [List.getElem?_map, gk]; rfl, by unfold pd2; rw [eqv_pd]; exact decide_eq_true ⟨rfl, rfl⟩, fun m z' hm hz' => ?_, ?_⟩
  · rw [List.getElem?_map] at hz'
    cases e : (allT z2)[m]? with
    | none => rw [e] at hz'; cases hz'
    | some y =>
      rw [e] at hz'
      have hz' : pd2 y = z' := Option.some.inj hz'
      subst hz'
      unfold pd2
      rw [eqv_pd]
      refine decide_eq_false fun h => ?_
      have := only m y e h
      omega
  have lz2 : z2.length = (tl z2).length := len_tl z2
  have cl : ∀ c : Nat, (cutS z2 none (some (c : Int))).length ≤ z2.length := fun c => by rw [len_tl, tl_cut_to, List.length_take]; omega
  have sl : z2.length ≤ sizeLine := small (by omega)
  refine ⟨_, rfl, _, _, rfl, rfl, _, rfl, ?_⟩
  -- the last step
  have last : ∀ (H' : Hp), H' pp = some (.tup [.int (xk.2.1 : Int), .int (xk.2.2 : Int)]) → ∀ (pv : V) (H'' : Hp) (r2 : Addr), Same H' H'' → PlV H'' (plc (srcOf r2 (cutS z2 none (some (xk.2.2 : Int)))) 225) pv → Al H'' 9 pv (.ref pp) := by
    intro H' h1 pv H'' r2 sm hv
    obtain ⟨pc, _, _⟩ := pre_cut (r := rr) (r' := r2) gk
    rw [plc_with pc ord gk' (N := 65) (by decide) (show (allT z2).length ≤ 65 by omega) hplc] at hv
    obtain ⟨p3, rfl, h3⟩ := hv
    exact Al.tup h3 (sm _ _ h1) rfl (by show 2 ≤ 1000000; decide) (al_eq rfl)
  have ck : cnt (cutS z2 none (some (xk.2.2 : Int))) ≤ cnt z2 := (pre_cut (r := rr) (r' := rr) gk).2.2
  by_cases hk0 : 0 < k
  · refine iteP (by omega) ?_
    have hk1 : k - 1 < (allT z2).length := by omega
    have gp := List.getElem?_eq_getElem hk1
    generalize (allT z2)[k - 1] = xp at gp
    obtain ⟨rp, gp1, gp2⟩ := hprow10 _ xp gp
    have ekm : (k : Int) - 1 = ((k - 1 : Nat) : Int) := by omega
    refine ⟨_, rfl, _, rfl, _, _, rfl, rfl, D, _, _, _, rfl, rfl, SqL.of hD10, at_of ekm (show (ps.map V.ref)[k - 1]? = some (V.ref rp) by rw [List.getElem?_map, gp1]; rfl), rp, _, _, _, rfl, rfl, .inl (.inl gp2), at1', ?_⟩
    have cp := (pre_cut (r := rr) (r' := rr) gp).2.2
    refine ⟨_, rfl, _, rfl, _, rfl, z2, rfl, sl, _, rfl, by have := cl xp.2.2; omega, by show cnt _ ≤ 65; omega, fun r3 pv H11 s11 hpv => ?_⟩
    obtain ⟨pc, pl, _⟩ := pre_cut (r := rr) (r' := r3) gp
    have ek1 : k - 1 + 1 = k := by omega
    rw [ek1] at pc
    have hpp11 := s11 _ _ hpp10
    have bef := plc_before pc ord hk0 gk' pl (N := 65) (by decide) (show (allT z2).length ≤ 65 by omega) hplc
    rcases bef with bef | bef
    · rw [bef] at hpv
      have hpv : pv = .non := hpv
      subst hpv
      refine ⟨_, rfl, rfl, _, rfl, iteNS rfl ?_⟩
      refine ⟨_, rfl, _, rfl, pp, _, _, _, rfl, rfl, .inl (.inl hpp11), at1', _, rfl, z2, rfl, sl, _, rfl, by have := cl xk.2.2; omega, by show cnt _ ≤ 65; omega, fun r4 pv4 H13 s13 hv => ?_⟩
      exact ⟨_, rfl, _, _, rfl, last _ hpp11 pv4 H13 r4 s13 hv, q _⟩
    · rw [bef] at hpv
      obtain ⟨pb, rfl, hpb⟩ := hpv
      refine ⟨_, rfl, rfl, _, rfl, iteNN (fun e => nomatch e) ?_⟩
      refine ⟨_, rfl, _, rfl, _, rfl, by show 2 ≤ sizeLine; decide, fun u2 nu2 => ?_⟩
      have s12 := same_new (o := .tup [.int (xp.2.2 : Int), .int (xp.2.2 : Int)]) nu2
      refine ⟨_, _, dp_pl (s12 _ _ hpb), dp_pl upd_same, pd_shaped _ _, pd_shaped _ _, _, rfl, ?_⟩
      rw [eqv_pd, decide_eq_true (show xp.2.2 = xp.2.2 ∧ xp.2.2 = xp.2.2 from ⟨rfl, rfl⟩)]
      refine iteF ?_
      have hpp12 := s12 _ _ hpp11
      refine ⟨_, rfl, _, rfl, pp, _, _, _, rfl, rfl, .inl (.inl hpp12), at1', _, rfl, z2, rfl, sl, _, rfl, by have := cl xk.2.2; omega, by show cnt _ ≤ 65; omega, fun r4 pv4 H13 s13 hv => ?_⟩
      exact ⟨_, rfl, _, _, rfl, last _ hpp12 pv4 H13 r4 s13 hv, q _⟩
  · refine iteN (by omega) ?_
    refine ⟨_, rfl, _, rfl, pp, _, _, _, rfl, rfl, .inl (.inl hpp10), at1', _, rfl, z2, rfl, sl, _, rfl, by have := cl xk.2.2; omega, by show cnt _ ≤ 65; omega, fun r4 pv4 H13 s13 hv => ?_⟩
    exact ⟨_, rfl, _, _, rfl, last _ hpp10 pv4 H13 r4 s13 hv, q _⟩
end

end Sn

namespace Sn
open PySem PySem.Spec PyProof.Rows L2 TL
/-! ### the tokens of a text -/
section
variable {P : Program} {w : World} {K : PySem.W.Frag} {mg : Str → Option Value} {base : Heap} {f : Addr} {fd : FuncData} {aW : Addr} {tS : PySem.Tok}
abbrev s_tokens : Stmt := topS 15
abbrev N_tokens : List Str := ["text"]
theorem sc_tokens : FnScope N_tokens ["text"] (defScope s_tokens) := ⟨rfl, rfl, rfl, by decide +kernel, rfl, by decide +kernel, by decide +kernel⟩
theorem ok_tokens (F : Fun K "tokens" "tokens" s_tokens f fd) (T : Nm5 K mg aW tS) (C_tokens_between : Cal P w K mg base CX0 4 "tokens_between" spBetween) : FnOk P w K mg base CX0 5 f fd ["text"] spTokens := by
  refine F.ok sc_tokens (fun vs H Q E h => ?_) (fun cdv A outer s H vs Q E hr h => ?_)
  · obtain ⟨z, rfl, _⟩ := h
    rfl
  obtain ⟨z, rfl, hz, q⟩ := h
  refine ⟨_, (pss_one (ps_ret (pe_c C_tokens_between hr (by first | decide | omega) pass0 (pa_cons (pv 0) (pa_cons pe_int (pa_cons (pe_callB call_len_str (by rfl) T.len PySem.boot_len (pa_cons (pv 0) pa_nil)) pa_nil)))))), ?_⟩
  have el := len_tl z
  refine ⟨_, rfl, _, rfl, z, rfl, small hz, z, 0, (tl z).length, by rw [el]; rfl, Nat.le_refl _, hz, q⟩
end

end Sn

namespace Sn
open PySem PySem.Spec PyProof.Rows L2 TL
theorem all_mk {l : PySem.W.OpenLaw} {w : World} {K : PySem.W.Frag} {h : Heap} {mg : Str → Option Value} {fa f0 f1 f2 f3 f4 f5 f6 f7 f8 f9 f10 f11 f12 f13 f14 f15 f16 f17 f18 f19 f20 f21 f22 f23 f24 f25 f26 f27 f28 f29 f30 f31 f32 f33 f34 f35 f36 f37 f38 : Addr}
    {od0 an0 od1 an1 od2 an2 od3 an3 od4 an4 od5 an5 od6 an6 od7 an7 od8 an8 od9 an9 od10 an10 od11 an11 od12 an12 od13 an13 od14 an14 od15 an15 od16 an16 od17 an17 od18 an18 od19 an19 od20 an20 od21 an21 od22 an22 od23 an23 od24 an24 od25 an25 od26 an26 od27 an27 od28 an28 od29 an29 od30 an30 od31 an31 od32 an32 od33 an33 od34 an34 od35 an35 od36 an36 od37 an37 od38 an38 : Option Addr} {sl0 sl1 sl2 sl3 sl4 sl5 sl6 sl7 sl8 sl9 sl10 sl11 sl12 sl13 sl14 sl15 sl16 sl17 sl18 sl19 sl20 sl21 sl22 sl23 sl24 sl25 sl26 sl27 sl28 sl29 sl30 sl31 sl32 sl33 sl34 sl35 sl36 sl37 sl38 : Array (Option Value)} {oc0 kV0 dc0 pm0 cd0 ct0 oc1 kV1 dc1 pm1 cd1 ct1 oc2 kV2 dc2 pm2 cd2 ct2 oc3 kV3 dc3 pm3 cd3 ct3 oc4 kV4 dc4 pm4 cd4 ct4 oc5 kV5 dc5 pm5 cd5 ct5 oc6 kV6 dc6 pm6 cd6 ct6 oc7 kV7 dc7 pm7 cd7 ct7 oc8 kV8 dc8 pm8 cd8 ct8 oc9 kV9 dc9 pm9 cd9 ct9 oc10 kV10 dc10 pm10 cd10 ct10 oc11 kV11 dc11 pm11 cd11 ct11 oc12 kV12 dc12 pm12 cd12 ct12 oc13 kV13 dc13 pm13 cd13 ct13 oc14 kV14 dc14 pm14 cd14 ct14 oc15 kV15 dc15 pm15 cd15 ct15 oc16 kV16 dc16 pm16 cd16 ct16 oc17 kV17 dc17 pm17 cd17 ct17 oc18 kV18 dc18 pm18 cd18 ct18 oc19 kV19 dc19 pm19 cd19 ct19 oc20 kV20 dc20 pm20 cd20 ct20 oc21 kV21 dc21 pm21 cd21 ct21 oc22 kV22 dc22 pm22 cd22 ct22 oc23 kV23 dc23 pm23 cd23 ct23 oc24 kV24 dc24 pm24 cd24 ct24 oc25 kV25 dc25 pm25 cd25 ct25 oc26 kV26 dc26 pm26 cd26 ct26 oc27 kV27 dc27 pm27 cd27 ct27 oc28 kV28 dc28 pm28 cd28 ct28 oc29 kV29 dc29 pm29 cd29 ct29 oc30 kV30 dc30 pm30 cd30 ct30 oc31 kV31 dc31 pm31 cd31 ct31 oc32 kV32 dc32 pm32 cd32 ct32 oc33 kV33 dc33 pm33 cd33 ct33 oc34 kV34 dc34 pm34 cd34 ct34 oc35 kV35 dc35 pm35 cd35 ct35 oc36 kV36 dc36 pm36 cd36 ct36 oc37 kV37 dc37 pm37 cd37 ct37 oc38 kV38 dc38 pm38 cd38 ct38 : Value}
    {aW : Addr} {tS : PySem.Tok} {odW : Option Addr} {nW : Nat} {slW : Array (Option Value)} {u0 u1 u2 u3 u4 u5 u6 u7 u8 u9 u10 u11 u12 u13 u14 u15 u16 u17 u18 u19 : PySem.Tok}
    {CR CS CE aR : Addr} {t0 t1 t2 t3 t4 t5 t6 : PySem.Tok} {y0 g0 y1 g1 y2 g2 y3 g3 y4 g4 y5 g5 y6 g6 y7 g7 : PySem.Tok} {nR : Nat}
    {xn xq : Str} {xN : Addr} {xbs : List Value} {xsn : List Str} {xsub : List Value} {xab : Bool} {xcol : Option Bool} {xdd : Option Addr} {x0 x1 x2 x3 x5 : Option Value}
    {f39 : Addr} {od39 an39 : Option Addr} {sl39 : Array (Option Value)} {oc39 kV39 dc39 pm39 cd39 ct39 : Value}
    {f40 : Addr} {od40 an40 : Option Addr} {sl40 : Array (Option Value)} {oc40 kV40 dc40 pm40 cd40 ct40 : Value}
    {f41 : Addr} {od41 an41 : Option Addr} {sl41 : Array (Option Value)} {oc41 kV41 dc41 pm41 cd41 ct41 : Value}
    {f42 : Addr} {od42 an42 : Option Addr} {sl42 : Array (Option Value)} {oc42 kV42 dc42 pm42 cd42 ct42 : Value}
    {f43 : Addr} {od43 an43 : Option Addr} {sl43 : Array (Option Value)} {oc43 kV43 dc43 pm43 cd43 ct43 : Value}
    {f44 : Addr} {od44 an44 : Option Addr} {sl44 : Array (Option Value)} {oc44 kV44 dc44 pm44 cd44 ct44 : Value}
    {f45 : Addr} {od45 an45 : Option Addr} {sl45 : Array (Option Value)} {oc45 kV45 dc45 pm45 cd45 ct45 : Value}
    {f46 : Addr} {od46 an46 : Option Addr} {sl46 : Array (Option Value)} {oc46 kV46 dc46 pm46 cd46 ct46 : Value}
    {f47 : Addr} {od47 an47 : Option Addr} {sl47 : Array (Option Value)} {oc47 kV47 dc47 pm47 cd47 ct47 : Value}
    {f48 : Addr} {od48 an48 : Option Addr} {sl48 : Array (Option Value)} {oc48 kV48 dc48 pm48 cd48 ct48 : Value}
    {f49 : Addr} {od49 an49 : Option Addr} {sl49 : Array (Option Value)} {oc49 kV49 dc49 pm49 cd49 ct49 : Value}
    {f50 : Addr} {od50 an50 : Option Addr} {sl50 : Array (Option Value)} {oc50 kV50 dc50 pm50 cd50 ct50 : Value}
    {f51 : Addr} {od51 an51 : Option Addr} {sl51 : Array (Option Value)} {oc51 kV51 dc51 pm51 cd51 ct51 : Value}
    {f52 : Addr} {od52 an52 : Option Addr} {sl52 : Array (Option Value)} {oc52 kV52 dc52 pm52 cd52 ct52 : Value}
    {f53 : Addr} {od53 an53 : Option Addr} {sl53 : Array (Option Value)} {oc53 kV53 dc53 pm53 cd53 ct53 : Value}
    {f54 : Addr} {od54 an54 : Option Addr} {sl54 : Array (Option Value)} {oc54 kV54 dc54 pm54 cd54 ct54 : Value}
    {f55 : Addr} {od55 an55 : Option Addr} {sl55 : Array (Option Value)} {oc55 kV55 dc55 pm55 cd55 ct55 : Value}
    {f56 : Addr} {od56 an56 : Option Addr} {sl56 : Array (Option Value)} {oc56 kV56 dc56 pm56 cd56 ct56 : Value}
    {f57 : Addr} {od57 an57 : Option Addr} {sl57 : Array (Option Value)} {oc57 kV57 dc57 pm57 cd57 ct57 : Value}
    {f58 : Addr} {od58 an58 : Option Addr} {sl58 : Array (Option Value)} {oc58 kV58 dc58 pm58 cd58 ct58 : Value}
    {f59 : Addr} {od59 an59 : Option Addr} {sl59 : Array (Option Value)} {oc59 kV59 dc59 pm59 cd59 ct59 : Value}
    {f60 : Addr} {od60 an60 : Option Addr} {sl60 : Array (Option Value)} {oc60 kV60 dc60 pm60 cd60 ct60 : Value}
    {f61 : Addr} {od61 an61 : Option Addr} {sl61 : Array (Option Value)} {oc61 kV61 dc61 pm61 cd61 ct61 : Value}
    {f62 : Addr} {od62 an62 : Option Addr} {sl62 : Array (Option Value)} {oc62 kV62 dc62 pm62 cd62 ct62 : Value}
    {f63 : Addr} {od63 an63 : Option Addr} {sl63 : Array (Option Value)} {oc63 kV63 dc63 pm63 cd63 ct63 : Value}
    {f64 : Addr} {od64 an64 : Option Addr} {sl64 : Array (Option Value)} {oc64 kV64 dc64 pm64 cd64 ct64 : Value}
    {f65 : Addr} {od65 an65 : Option Addr} {sl65 : Array (Option Value)} {oc65 kV65 dc65 pm65 cd65 ct65 : Value}
    {f66 : Addr} {od66 an66 : Option Addr} {sl66 : Array (Option Value)} {oc66 kV66 dc66 pm66 cd66 ct66 : Value}
    {f67 : Addr} {od67 an67 : Option Addr} {sl67 : Array (Option Value)} {oc67 kV67 dc67 pm67 cd67 ct67 : Value}
    {f68 : Addr} {od68 an68 : Option Addr} {sl68 : Array (Option Value)} {oc68 kV68 dc68 pm68 cd68 ct68 : Value}
    {f69 : Addr} {od69 an69 : Option Addr} {sl69 : Array (Option Value)} {oc69 kV69 dc69 pm69 cd69 ct69 : Value}
    {f70 : Addr} {od70 an70 : Option Addr} {sl70 : Array (Option Value)} {oc70 kV70 dc70 pm70 cd70 ct70 : Value} (X : K.In h) (G : h.Ns mainGlobals mg) (hfa : mg "law" = some (.ref fa))
    (a0 : PySem.W.nsIn K mainGlobals "line_end" = some (some (.ref f0)))
    (l0 : K.lookup f0 = some ⟨oc0, od0, .func (PySem.W.fnOf "line_end" "line_end" (defArgs s_line_end) (defBody s_line_end) (defScope s_line_end) .none kV0 dc0 pm0 an0 cd0 ct0), sl0⟩)
    (c0 : PySem.W.codeIn K cd0 "line_end" = true)
    (k0 : PySem.W.keepIn K (.ref f0) = true)
    (a1 : PySem.W.nsIn K mainGlobals "is_letter" = some (some (.ref f1)))
    (l1 : K.lookup f1 = some ⟨oc1, od1, .func (PySem.W.fnOf "is_letter" "is_letter" (defArgs s_is_letter) (defBody s_is_letter) (defScope s_is_letter) .none kV1 dc1 pm1 an1 cd1 ct1), sl1⟩)
    (c1 : PySem.W.codeIn K cd1 "is_letter" = true)
    (k1 : PySem.W.keepIn K (.ref f1) = true)
    (a2 : PySem.W.nsIn K mainGlobals "is_digit" = some (some (.ref f2)))
    (l2 : K.lookup f2 = some ⟨oc2, od2, .func (PySem.W.fnOf "is_digit" "is_digit" (defArgs s_is_digit) (defBody s_is_digit) (defScope s_is_digit) .none kV2 dc2 pm2 an2 cd2 ct2), sl2⟩)
    (c2 : PySem.W.codeIn K cd2 "is_digit" = true)
    (k2 : PySem.W.keepIn K (.ref f2) = true)
    (a3 : PySem.W.nsIn K mainGlobals "word_end" = some (some (.ref f3)))
    (l3 : K.lookup f3 = some ⟨oc3, od3, .func (PySem.W.fnOf "word_end" "word_end" (defArgs s_word_end) (defBody s_word_end) (defScope s_word_end) .none kV3 dc3 pm3 an3 cd3 ct3), sl3⟩)
    (c3 : PySem.W.codeIn K cd3 "word_end" = true)
    (k3 : PySem.W.keepIn K (.ref f3) = true)
    (a4 : PySem.W.nsIn K mainGlobals "digits_end" = some (some (.ref f4)))
    (l4 : K.lookup f4 = some ⟨oc4, od4, .func (PySem.W.fnOf "digits_end" "digits_end" (defArgs s_digits_end) (defBody s_digits_end) (defScope s_digits_end) .none kV4 dc4 pm4 an4 cd4 ct4), sl4⟩)
    (c4 : PySem.W.codeIn K cd4 "digits_end" = true)
    (k4 : PySem.W.keepIn K (.ref f4) = true)
    (a5 : PySem.W.nsIn K mainGlobals "token_at" = some (some (.ref f5)))
    (l5 : K.lookup f5 = some ⟨oc5, od5, .func (PySem.W.fnOf "token_at" "token_at" (defArgs s_token_at) (defBody s_token_at) (defScope s_token_at) .none kV5 dc5 pm5 an5 cd5 ct5), sl5⟩)
    (c5 : PySem.W.codeIn K cd5 "token_at" = true)
    (k5 : PySem.W.keepIn K (.ref f5) = true)
    (a6 : PySem.W.nsIn K mainGlobals "tokens_between" = some (some (.ref f6)))
    (l6 : K.lookup f6 = some ⟨oc6, od6, .func (PySem.W.fnOf "tokens_between" "tokens_between" (defArgs s_tokens_between) (defBody s_tokens_between) (defScope s_tokens_between) .none kV6 dc6 pm6 an6 cd6 ct6), sl6⟩)
    (c6 : PySem.W.codeIn K cd6 "tokens_between" = true)
    (k6 : PySem.W.keepIn K (.ref f6) = true)
    (a7 : PySem.W.nsIn K mainGlobals "tokens" = some (some (.ref f7)))
    (l7 : K.lookup f7 = some ⟨oc7, od7, .func (PySem.W.fnOf "tokens" "tokens" (defArgs s_tokens) (defBody s_tokens) (defScope s_tokens) .none kV7 dc7 pm7 an7 cd7 ct7), sl7⟩)
    (c7 : PySem.W.codeIn K cd7 "tokens" = true)
    (k7 : PySem.W.keepIn K (.ref f7) = true)
    (a8 : PySem.W.nsIn K mainGlobals "number_value" = some (some (.ref f8)))
    (l8 : K.lookup f8 = some ⟨oc8, od8, .func (PySem.W.fnOf "number_value" "number_value" (defArgs s_number_value) (defBody s_number_value) (defScope s_number_value) .none kV8 dc8 pm8 an8 cd8 ct8), sl8⟩)
    (c8 : PySem.W.codeIn K cd8 "number_value" = true)
    (k8 : PySem.W.keepIn K (.ref f8) = true)
    (a9 : PySem.W.nsIn K mainGlobals "read_item" = some (some (.ref f9)))
    (l9 : K.lookup f9 = some ⟨oc9, od9, .func (PySem.W.fnOf "read_item" "read_item" (defArgs s_read_item) (defBody s_read_item) (defScope s_read_item) .none kV9 dc9 pm9 an9 cd9 ct9), sl9⟩)
    (c9 : PySem.W.codeIn K cd9 "read_item" = true)
    (k9 : PySem.W.keepIn K (.ref f9) = true)
    (a10 : PySem.W.nsIn K mainGlobals "_law_tape" = some (some (.ref f10)))
    (l10 : K.lookup f10 = some ⟨oc10, od10, .func (PySem.W.fnOf "_law_tape" "_law_tape" (defArgs s_tape) (defBody s_tape) (defScope s_tape) .none kV10 dc10 pm10 an10 cd10 ct10), sl10⟩)
    (c10 : PySem.W.codeIn K cd10 "_law_tape" = true)
    (k10 : PySem.W.keepIn K (.ref f10) = true)
    (a11 : PySem.W.nsIn K mainGlobals "_law_take" = some (some (.ref f11)))
    (l11 : K.lookup f11 = some ⟨oc11, od11, .func (PySem.W.fnOf "_law_take" "_law_take" (defArgs s_take) (defBody s_take) (defScope s_take) .none kV11 dc11 pm11 an11 cd11 ct11), sl11⟩)
    (c11 : PySem.W.codeIn K cd11 "_law_take" = true)
    (k11 : PySem.W.keepIn K (.ref f11) = true)
    (a12 : PySem.W.nsIn K mainGlobals "_law_is_integer" = some (some (.ref f12)))
    (l12 : K.lookup f12 = some ⟨oc12, od12, .func (PySem.W.fnOf "_law_is_integer" "_law_is_integer" (defArgs s_isInt) (defBody s_isInt) (defScope s_isInt) .none kV12 dc12 pm12 an12 cd12 ct12), sl12⟩)
    (c12 : PySem.W.codeIn K cd12 "_law_is_integer" = true)
    (k12 : PySem.W.keepIn K (.ref f12) = true)
    (a13 : PySem.W.nsIn K mainGlobals "_law_same_items" = some (some (.ref f13)))
    (l13 : K.lookup f13 = some ⟨oc13, od13, .func (PySem.W.fnOf "_law_same_items" "_law_same_items" (defArgs s_sameItems) (defBody s_sameItems) (defScope s_sameItems) .none kV13 dc13 pm13 an13 cd13 ct13), sl13⟩)
    (c13 : PySem.W.codeIn K cd13 "_law_same_items" = true)
    (k13 : PySem.W.keepIn K (.ref f13) = true)
    (a14 : PySem.W.nsIn K mainGlobals "_law_same" = some (some (.ref f14)))
    (l14 : K.lookup f14 = some ⟨oc14, od14, .func (PySem.W.fnOf "_law_same" "_law_same" (defArgs s_same) (defBody s_same) (defScope s_same) .none kV14 dc14 pm14 an14 cd14 ct14), sl14⟩)
    (c14 : PySem.W.codeIn K cd14 "_law_same" = true)
    (k14 : PySem.W.keepIn K (.ref f14) = true)
    (a15 : PySem.W.nsIn K mainGlobals "_law_put" = some (some (.ref f15)))
    (l15 : K.lookup f15 = some ⟨oc15, od15, .func (PySem.W.fnOf "_law_put" "_law_put" (defArgs s_l_put) (defBody s_l_put) (defScope s_l_put) .none kV15 dc15 pm15 an15 cd15 ct15), sl15⟩)
    (c15 : PySem.W.codeIn K cd15 "_law_put" = true)
    (k15 : PySem.W.keepIn K (.ref f15) = true)
    (a16 : PySem.W.nsIn K mainGlobals "_law_gap" = some (some (.ref f16)))
    (l16 : K.lookup f16 = some ⟨oc16, od16, .func (PySem.W.fnOf "_law_gap" "_law_gap" (defArgs s_l_gap) (defBody s_l_gap) (defScope s_l_gap) .none kV16 dc16 pm16 an16 cd16 ct16), sl16⟩)
    (c16 : PySem.W.codeIn K cd16 "_law_gap" = true)
    (k16 : PySem.W.keepIn K (.ref f16) = true)
    (a17 : PySem.W.nsIn K mainGlobals "_law_token_out" = some (some (.ref f17)))
    (l17 : K.lookup f17 = some ⟨oc17, od17, .func (PySem.W.fnOf "_law_token_out" "_law_token_out" (defArgs s_l_token_out) (defBody s_l_token_out) (defScope s_l_token_out) .none kV17 dc17 pm17 an17 cd17 ct17), sl17⟩)
    (c17 : PySem.W.codeIn K cd17 "_law_token_out" = true)
    (k17 : PySem.W.keepIn K (.ref f17) = true)
    (a18 : PySem.W.nsIn K mainGlobals "_law_some_name" = some (some (.ref f18)))
    (l18 : K.lookup f18 = some ⟨oc18, od18, .func (PySem.W.fnOf "_law_some_name" "_law_some_name" (defArgs s_l_some_name) (defBody s_l_some_name) (defScope s_l_some_name) .none kV18 dc18 pm18 an18 cd18 ct18), sl18⟩)
    (c18 : PySem.W.codeIn K cd18 "_law_some_name" = true)
    (k18 : PySem.W.keepIn K (.ref f18) = true)
    (a19 : PySem.W.nsIn K mainGlobals "_law_tree" = some (some (.ref f19)))
    (l19 : K.lookup f19 = some ⟨oc19, od19, .func (PySem.W.fnOf "_law_tree" "_law_tree" (defArgs s_l_tree) (defBody s_l_tree) (defScope s_l_tree) .none kV19 dc19 pm19 an19 cd19 ct19), sl19⟩)
    (c19 : PySem.W.codeIn K cd19 "_law_tree" = true)
    (k19 : PySem.W.keepIn K (.ref f19) = true)
    (a20 : PySem.W.nsIn K mainGlobals "_law_leaf" = some (some (.ref f20)))
    (l20 : K.lookup f20 = some ⟨oc20, od20, .func (PySem.W.fnOf "_law_leaf" "_law_leaf" (defArgs s_l_leaf) (defBody s_l_leaf) (defScope s_l_leaf) .none kV20 dc20 pm20 an20 cd20 ct20), sl20⟩)
    (c20 : PySem.W.codeIn K cd20 "_law_leaf" = true)
    (k20 : PySem.W.keepIn K (.ref f20) = true)
    (a21 : PySem.W.nsIn K mainGlobals "_law_call" = some (some (.ref f21)))
    (l21 : K.lookup f21 = some ⟨oc21, od21, .func (PySem.W.fnOf "_law_call" "_law_call" (defArgs s_l_call) (defBody s_l_call) (defScope s_l_call) .none kV21 dc21 pm21 an21 cd21 ct21), sl21⟩)
    (c21 : PySem.W.codeIn K cd21 "_law_call" = true)
    (k21 : PySem.W.keepIn K (.ref f21) = true)
    (a22 : PySem.W.nsIn K mainGlobals "_law_reach" = some (some (.ref f22)))
    (l22 : K.lookup f22 = some ⟨oc22, od22, .func (PySem.W.fnOf "_law_reach" "_law_reach" (defArgs s_l_reach) (defBody s_l_reach) (defScope s_l_reach) .none kV22 dc22 pm22 an22 cd22 ct22), sl22⟩)
    (c22 : PySem.W.codeIn K cd22 "_law_reach" = true)
    (k22 : PySem.W.keepIn K (.ref f22) = true)
    (a23 : PySem.W.nsIn K mainGlobals "_law_prefix" = some (some (.ref f23)))
    (l23 : K.lookup f23 = some ⟨oc23, od23, .func (PySem.W.fnOf "_law_prefix" "_law_prefix" (defArgs s_l_prefix) (defBody s_l_prefix) (defScope s_l_prefix) .none kV23 dc23 pm23 an23 cd23 ct23), sl23⟩)
    (c23 : PySem.W.codeIn K cd23 "_law_prefix" = true)
    (k23 : PySem.W.keepIn K (.ref f23) = true)
    (a24 : PySem.W.nsIn K mainGlobals "_law_binary" = some (some (.ref f24)))
    (l24 : K.lookup f24 = some ⟨oc24, od24, .func (PySem.W.fnOf "_law_binary" "_law_binary" (defArgs s_l_binary) (defBody s_l_binary) (defScope s_l_binary) .none kV24 dc24 pm24 an24 cd24 ct24), sl24⟩)
    (c24 : PySem.W.codeIn K cd24 "_law_binary" = true)
    (k24 : PySem.W.keepIn K (.ref f24) = true)
    (a25 : PySem.W.nsIn K mainGlobals "_law_wide" = some (some (.ref f25)))
    (l25 : K.lookup f25 = some ⟨oc25, od25, .func (PySem.W.fnOf "_law_wide" "_law_wide" (defArgs s_l_wide) (defBody s_l_wide) (defScope s_l_wide) .none kV25 dc25 pm25 an25 cd25 ct25), sl25⟩)
    (c25 : PySem.W.codeIn K cd25 "_law_wide" = true)
    (k25 : PySem.W.keepIn K (.ref f25) = true)
    (a26 : PySem.W.nsIn K mainGlobals "_law_mark" = some (some (.ref f26)))
    (l26 : K.lookup f26 = some ⟨oc26, od26, .func (PySem.W.fnOf "_law_mark" "_law_mark" (defArgs s_l_mark) (defBody s_l_mark) (defScope s_l_mark) .none kV26 dc26 pm26 an26 cd26 ct26), sl26⟩)
    (c26 : PySem.W.codeIn K cd26 "_law_mark" = true)
    (k26 : PySem.W.keepIn K (.ref f26) = true)
    (a27 : PySem.W.nsIn K mainGlobals "_law_list" = some (some (.ref f27)))
    (l27 : K.lookup f27 = some ⟨oc27, od27, .func (PySem.W.fnOf "_law_list" "_law_list" (defArgs s_l_list) (defBody s_l_list) (defScope s_l_list) .none kV27 dc27 pm27 an27 cd27 ct27), sl27⟩)
    (c27 : PySem.W.codeIn K cd27 "_law_list" = true)
    (k27 : PySem.W.keepIn K (.ref f27) = true)
    (a28 : PySem.W.nsIn K mainGlobals "_law_brackets" = some (some (.ref f28)))
    (l28 : K.lookup f28 = some ⟨oc28, od28, .func (PySem.W.fnOf "_law_brackets" "_law_brackets" (defArgs s_l_brackets) (defBody s_l_brackets) (defScope s_l_brackets) .none kV28 dc28 pm28 an28 cd28 ct28), sl28⟩)
    (c28 : PySem.W.codeIn K cd28 "_law_brackets" = true)
    (k28 : PySem.W.keepIn K (.ref f28) = true)
    (a29 : PySem.W.nsIn K mainGlobals "_law_def" = some (some (.ref f29)))
    (l29 : K.lookup f29 = some ⟨oc29, od29, .func (PySem.W.fnOf "_law_def" "_law_def" (defArgs s_l_def) (defBody s_l_def) (defScope s_l_def) .none kV29 dc29 pm29 an29 cd29 ct29), sl29⟩)
    (c29 : PySem.W.codeIn K cd29 "_law_def" = true)
    (k29 : PySem.W.keepIn K (.ref f29) = true)
    (a30 : PySem.W.nsIn K mainGlobals "_law_item" = some (some (.ref f30)))
    (l30 : K.lookup f30 = some ⟨oc30, od30, .func (PySem.W.fnOf "_law_item" "_law_item" (defArgs s_l_item) (defBody s_l_item) (defScope s_l_item) .none kV30 dc30 pm30 an30 cd30 ct30), sl30⟩)
    (c30 : PySem.W.codeIn K cd30 "_law_item" = true)
    (k30 : PySem.W.keepIn K (.ref f30) = true)
    (a31 : PySem.W.nsIn K mainGlobals "_law_is_letter" = some (some (.ref f31)))
    (l31 : K.lookup f31 = some ⟨oc31, od31, .func (PySem.W.fnOf "_law_is_letter" "_law_is_letter" (defArgs s_lLetter) (defBody s_lLetter) (defScope s_lLetter) .none kV31 dc31 pm31 an31 cd31 ct31), sl31⟩)
    (c31 : PySem.W.codeIn K cd31 "_law_is_letter" = true)
    (k31 : PySem.W.keepIn K (.ref f31) = true)
    (a32 : PySem.W.nsIn K mainGlobals "_law_is_digit" = some (some (.ref f32)))
    (l32 : K.lookup f32 = some ⟨oc32, od32, .func (PySem.W.fnOf "_law_is_digit" "_law_is_digit" (defArgs s_lDigit) (defBody s_lDigit) (defScope s_lDigit) .none kV32 dc32 pm32 an32 cd32 ct32), sl32⟩)
    (c32 : PySem.W.codeIn K cd32 "_law_is_digit" = true)
    (k32 : PySem.W.keepIn K (.ref f32) = true)
    (a33 : PySem.W.nsIn K mainGlobals "_law_run" = some (some (.ref f33)))
    (l33 : K.lookup f33 = some ⟨oc33, od33, .func (PySem.W.fnOf "_law_run" "_law_run" (defArgs s_lRun) (defBody s_lRun) (defScope s_lRun) .none kV33 dc33 pm33 an33 cd33 ct33), sl33⟩)
    (c33 : PySem.W.codeIn K cd33 "_law_run" = true)
    (k33 : PySem.W.keepIn K (.ref f33) = true)
    (a34 : PySem.W.nsIn K mainGlobals "_law_token" = some (some (.ref f34)))
    (l34 : K.lookup f34 = some ⟨oc34, od34, .func (PySem.W.fnOf "_law_token" "_law_token" (defArgs s_lToken) (defBody s_lToken) (defScope s_lToken) .none kV34 dc34 pm34 an34 cd34 ct34), sl34⟩)
    (c34 : PySem.W.codeIn K cd34 "_law_token" = true)
    (k34 : PySem.W.keepIn K (.ref f34) = true)
    (a35 : PySem.W.nsIn K mainGlobals "_law_tokens" = some (some (.ref f35)))
    (l35 : K.lookup f35 = some ⟨oc35, od35, .func (PySem.W.fnOf "_law_tokens" "_law_tokens" (defArgs s_lTokens) (defBody s_lTokens) (defScope s_lTokens) .none kV35 dc35 pm35 an35 cd35 ct35), sl35⟩)
    (c35 : PySem.W.codeIn K cd35 "_law_tokens" = true)
    (k35 : PySem.W.keepIn K (.ref f35) = true)
    (a36 : PySem.W.nsIn K mainGlobals "_law_read" = some (some (.ref f36)))
    (l36 : K.lookup f36 = some ⟨oc36, od36, .func (PySem.W.fnOf "_law_read" "_law_read" (defArgs s_l_read) (defBody s_l_read) (defScope s_l_read) .none kV36 dc36 pm36 an36 cd36 ct36), sl36⟩)
    (c36 : PySem.W.codeIn K cd36 "_law_read" = true)
    (k36 : PySem.W.keepIn K (.ref f36) = true)
    (a37 : PySem.W.nsIn K mainGlobals "_law_spoilt" = some (some (.ref f37)))
    (l37 : K.lookup f37 = some ⟨oc37, od37, .func (PySem.W.fnOf "_law_spoilt" "_law_spoilt" (defArgs s_l_spoilt) (defBody s_l_spoilt) (defScope s_l_spoilt) .none kV37 dc37 pm37 an37 cd37 ct37), sl37⟩)
    (c37 : PySem.W.codeIn K cd37 "_law_spoilt" = true)
    (k37 : PySem.W.keepIn K (.ref f37) = true)
    (a38 : PySem.W.nsIn K mainGlobals "law" = some (some (.ref f38)))
    (l38 : K.lookup f38 = some ⟨oc38, od38, .func (PySem.W.fnOf "law" "law" (defArgs s_law) (defBody s_law) (defScope s_law) .none kV38 dc38 pm38 an38 cd38 ct38), sl38⟩)
    (c38 : PySem.W.codeIn K cd38 "law" = true)
    (k38 : PySem.W.keepIn K (.ref f38) = true)
    (a39 : PySem.W.findIn K (.ref CR) "__init__" = some (some (.ref f39)))
    (i39 : PySem.W.isFn K (.ref f39) = true)
    (l39 : K.lookup f39 = some ⟨oc39, od39, .func (PySem.W.fnOf "__init__" "Reader.__init__" (defArgs s_R_init) (defBody s_R_init) (defScope s_R_init) .none kV39 dc39 pm39 an39 cd39 ct39), sl39⟩)
    (c39 : PySem.W.codeIn K cd39 "Reader.__init__" = true)
    (k39 : PySem.W.keepIn K (.ref f39) = true)
    (a40 : PySem.W.findIn K (.ref CR) "fail" = some (some (.ref f40)))
    (i40 : PySem.W.isFn K (.ref f40) = true)
    (l40 : K.lookup f40 = some ⟨oc40, od40, .func (PySem.W.fnOf "fail" "Reader.fail" (defArgs s_Reader_fail) (defBody s_Reader_fail) (defScope s_Reader_fail) .none kV40 dc40 pm40 an40 cd40 ct40), sl40⟩)
    (c40 : PySem.W.codeIn K cd40 "Reader.fail" = true)
    (k40 : PySem.W.keepIn K (.ref f40) = true)
    (a41 : PySem.W.findIn K (.ref CR) "ended" = some (some (.ref f41)))
    (i41 : PySem.W.isFn K (.ref f41) = true)
    (l41 : K.lookup f41 = some ⟨oc41, od41, .func (PySem.W.fnOf "ended" "Reader.ended" (defArgs s_Reader_ended) (defBody s_Reader_ended) (defScope s_Reader_ended) .none kV41 dc41 pm41 an41 cd41 ct41), sl41⟩)
    (c41 : PySem.W.codeIn K cd41 "Reader.ended" = true)
    (k41 : PySem.W.keepIn K (.ref f41) = true)
    (a42 : PySem.W.findIn K (.ref CR) "next_sort" = some (some (.ref f42)))
    (i42 : PySem.W.isFn K (.ref f42) = true)
    (l42 : K.lookup f42 = some ⟨oc42, od42, .func (PySem.W.fnOf "next_sort" "Reader.next_sort" (defArgs s_Reader_next_sort) (defBody s_Reader_next_sort) (defScope s_Reader_next_sort) .none kV42 dc42 pm42 an42 cd42 ct42), sl42⟩)
    (c42 : PySem.W.codeIn K cd42 "Reader.next_sort" = true)
    (k42 : PySem.W.keepIn K (.ref f42) = true)
    (a43 : PySem.W.findIn K (.ref CR) "next_start" = some (some (.ref f43)))
    (i43 : PySem.W.isFn K (.ref f43) = true)
    (l43 : K.lookup f43 = some ⟨oc43, od43, .func (PySem.W.fnOf "next_start" "Reader.next_start" (defArgs s_Reader_next_start) (defBody s_Reader_next_start) (defScope s_Reader_next_start) .none kV43 dc43 pm43 an43 cd43 ct43), sl43⟩)
    (c43 : PySem.W.codeIn K cd43 "Reader.next_start" = true)
    (k43 : PySem.W.keepIn K (.ref f43) = true)
    (a44 : PySem.W.findIn K (.ref CR) "last_end" = some (some (.ref f44)))
    (i44 : PySem.W.isFn K (.ref f44) = true)
    (l44 : K.lookup f44 = some ⟨oc44, od44, .func (PySem.W.fnOf "last_end" "Reader.last_end" (defArgs s_Reader_last_end) (defBody s_Reader_last_end) (defScope s_Reader_last_end) .none kV44 dc44 pm44 an44 cd44 ct44), sl44⟩)
    (c44 : PySem.W.codeIn K cd44 "Reader.last_end" = true)
    (k44 : PySem.W.keepIn K (.ref f44) = true)
    (a45 : PySem.W.findIn K (.ref CR) "peek" = some (some (.ref f45)))
    (i45 : PySem.W.isFn K (.ref f45) = true)
    (l45 : K.lookup f45 = some ⟨oc45, od45, .func (PySem.W.fnOf "peek" "Reader.peek" (defArgs s_Reader_peek) (defBody s_Reader_peek) (defScope s_Reader_peek) .none kV45 dc45 pm45 an45 cd45 ct45), sl45⟩)
    (c45 : PySem.W.codeIn K cd45 "Reader.peek" = true)
    (k45 : PySem.W.keepIn K (.ref f45) = true)
    (a46 : PySem.W.findIn K (.ref CR) "taken" = some (some (.ref f46)))
    (i46 : PySem.W.isFn K (.ref f46) = true)
    (l46 : K.lookup f46 = some ⟨oc46, od46, .func (PySem.W.fnOf "taken" "Reader.taken" (defArgs s_Reader_taken) (defBody s_Reader_taken) (defScope s_Reader_taken) .none kV46 dc46 pm46 an46 cd46 ct46), sl46⟩)
    (c46 : PySem.W.codeIn K cd46 "Reader.taken" = true)
    (k46 : PySem.W.keepIn K (.ref f46) = true)
    (a47 : PySem.W.findIn K (.ref CR) "expect" = some (some (.ref f47)))
    (i47 : PySem.W.isFn K (.ref f47) = true)
    (l47 : K.lookup f47 = some ⟨oc47, od47, .func (PySem.W.fnOf "expect" "Reader.expect" (defArgs s_Reader_expect) (defBody s_Reader_expect) (defScope s_Reader_expect) .none kV47 dc47 pm47 an47 cd47 ct47), sl47⟩)
    (c47 : PySem.W.codeIn K cd47 "Reader.expect" = true)
    (k47 : PySem.W.keepIn K (.ref f47) = true)
    (a48 : PySem.W.findIn K (.ref CR) "mark" = some (some (.ref f48)))
    (i48 : PySem.W.isFn K (.ref f48) = true)
    (l48 : K.lookup f48 = some ⟨oc48, od48, .func (PySem.W.fnOf "mark" "Reader.mark" (defArgs s_Reader_mark) (defBody s_Reader_mark) (defScope s_Reader_mark) .none kV48 dc48 pm48 an48 cd48 ct48), sl48⟩)
    (c48 : PySem.W.codeIn K cd48 "Reader.mark" = true)
    (k48 : PySem.W.keepIn K (.ref f48) = true)
    (a49 : PySem.W.findIn K (.ref CR) "begin" = some (some (.ref f49)))
    (i49 : PySem.W.isFn K (.ref f49) = true)
    (l49 : K.lookup f49 = some ⟨oc49, od49, .func (PySem.W.fnOf "begin" "Reader.begin" (defArgs s_Reader_begin) (defBody s_Reader_begin) (defScope s_Reader_begin) .none kV49 dc49 pm49 an49 cd49 ct49), sl49⟩)
    (c49 : PySem.W.codeIn K cd49 "Reader.begin" = true)
    (k49 : PySem.W.keepIn K (.ref f49) = true)
    (a50 : PySem.W.findIn K (.ref CR) "value" = some (some (.ref f50)))
    (i50 : PySem.W.isFn K (.ref f50) = true)
    (l50 : K.lookup f50 = some ⟨oc50, od50, .func (PySem.W.fnOf "value" "Reader.value" (defArgs s_Reader_value) (defBody s_Reader_value) (defScope s_Reader_value) .none kV50 dc50 pm50 an50 cd50 ct50), sl50⟩)
    (c50 : PySem.W.codeIn K cd50 "Reader.value" = true)
    (k50 : PySem.W.keepIn K (.ref f50) = true)
    (a51 : PySem.W.findIn K (.ref CR) "part" = some (some (.ref f51)))
    (i51 : PySem.W.isFn K (.ref f51) = true)
    (l51 : K.lookup f51 = some ⟨oc51, od51, .func (PySem.W.fnOf "part" "Reader.part" (defArgs s_Reader_part) (defBody s_Reader_part) (defScope s_Reader_part) .none kV51 dc51 pm51 an51 cd51 ct51), sl51⟩)
    (c51 : PySem.W.codeIn K cd51 "Reader.part" = true)
    (k51 : PySem.W.keepIn K (.ref f51) = true)
    (a52 : PySem.W.findIn K (.ref CR) "let" = some (some (.ref f52)))
    (i52 : PySem.W.isFn K (.ref f52) = true)
    (l52 : K.lookup f52 = some ⟨oc52, od52, .func (PySem.W.fnOf "let" "Reader.let" (defArgs s_Reader_let) (defBody s_Reader_let) (defScope s_Reader_let) .none kV52 dc52 pm52 an52 cd52 ct52), sl52⟩)
    (c52 : PySem.W.codeIn K cd52 "Reader.let" = true)
    (k52 : PySem.W.keepIn K (.ref f52) = true)
    (a53 : PySem.W.findIn K (.ref CR) "choice" = some (some (.ref f53)))
    (i53 : PySem.W.isFn K (.ref f53) = true)
    (l53 : K.lookup f53 = some ⟨oc53, od53, .func (PySem.W.fnOf "choice" "Reader.choice" (defArgs s_Reader_choice) (defBody s_Reader_choice) (defScope s_Reader_choice) .none kV53 dc53 pm53 an53 cd53 ct53), sl53⟩)
    (c53 : PySem.W.codeIn K cd53 "Reader.choice" = true)
    (k53 : PySem.W.keepIn K (.ref f53) = true)
    (a54 : PySem.W.findIn K (.ref CR) "loop" = some (some (.ref f54)))
    (i54 : PySem.W.isFn K (.ref f54) = true)
    (l54 : K.lookup f54 = some ⟨oc54, od54, .func (PySem.W.fnOf "loop" "Reader.loop" (defArgs s_Reader_loop) (defBody s_Reader_loop) (defScope s_Reader_loop) .none kV54 dc54 pm54 an54 cd54 ct54), sl54⟩)
    (c54 : PySem.W.codeIn K cd54 "Reader.loop" = true)
    (k54 : PySem.W.keepIn K (.ref f54) = true)
    (a55 : PySem.W.findIn K (.ref CR) "chain" = some (some (.ref f55)))
    (i55 : PySem.W.isFn K (.ref f55) = true)
    (l55 : K.lookup f55 = some ⟨oc55, od55, .func (PySem.W.fnOf "chain" "Reader.chain" (defArgs s_Reader_chain) (defBody s_Reader_chain) (defScope s_Reader_chain) .none kV55 dc55 pm55 an55 cd55 ct55), sl55⟩)
    (c55 : PySem.W.codeIn K cd55 "Reader.chain" = true)
    (k55 : PySem.W.keepIn K (.ref f55) = true)
    (a56 : PySem.W.findIn K (.ref CR) "negated" = some (some (.ref f56)))
    (i56 : PySem.W.isFn K (.ref f56) = true)
    (l56 : K.lookup f56 = some ⟨oc56, od56, .func (PySem.W.fnOf "negated" "Reader.negated" (defArgs s_Reader_negated) (defBody s_Reader_negated) (defScope s_Reader_negated) .none kV56 dc56 pm56 an56 cd56 ct56), sl56⟩)
    (c56 : PySem.W.codeIn K cd56 "Reader.negated" = true)
    (k56 : PySem.W.keepIn K (.ref f56) = true)
    (a57 : PySem.W.findIn K (.ref CR) "signed" = some (some (.ref f57)))
    (i57 : PySem.W.isFn K (.ref f57) = true)
    (l57 : K.lookup f57 = some ⟨oc57, od57, .func (PySem.W.fnOf "signed" "Reader.signed" (defArgs s_Reader_signed) (defBody s_Reader_signed) (defScope s_Reader_signed) .none kV57 dc57 pm57 an57 cd57 ct57), sl57⟩)
    (c57 : PySem.W.codeIn K cd57 "Reader.signed" = true)
    (k57 : PySem.W.keepIn K (.ref f57) = true)
    (a58 : PySem.W.findIn K (.ref CR) "reached" = some (some (.ref f58)))
    (i58 : PySem.W.isFn K (.ref f58) = true)
    (l58 : K.lookup f58 = some ⟨oc58, od58, .func (PySem.W.fnOf "reached" "Reader.reached" (defArgs s_Reader_reached) (defBody s_Reader_reached) (defScope s_Reader_reached) .none kV58 dc58 pm58 an58 cd58 ct58), sl58⟩)
    (c58 : PySem.W.codeIn K cd58 "Reader.reached" = true)
    (k58 : PySem.W.keepIn K (.ref f58) = true)
    (a59 : PySem.W.findIn K (.ref CR) "simple" = some (some (.ref f59)))
    (i59 : PySem.W.isFn K (.ref f59) = true)
    (l59 : K.lookup f59 = some ⟨oc59, od59, .func (PySem.W.fnOf "simple" "Reader.simple" (defArgs s_Reader_simple) (defBody s_Reader_simple) (defScope s_Reader_simple) .none kV59 dc59 pm59 an59 cd59 ct59), sl59⟩)
    (c59 : PySem.W.codeIn K cd59 "Reader.simple" = true)
    (k59 : PySem.W.keepIn K (.ref f59) = true)
    (a60 : PySem.W.findIn K (.ref CR) "named" = some (some (.ref f60)))
    (i60 : PySem.W.isFn K (.ref f60) = true)
    (l60 : K.lookup f60 = some ⟨oc60, od60, .func (PySem.W.fnOf "named" "Reader.named" (defArgs s_Reader_named) (defBody s_Reader_named) (defScope s_Reader_named) .none kV60 dc60 pm60 an60 cd60 ct60), sl60⟩)
    (c60 : PySem.W.codeIn K cd60 "Reader.named" = true)
    (k60 : PySem.W.keepIn K (.ref f60) = true)
    (a61 : PySem.W.findIn K (.ref CR) "field" = some (some (.ref f61)))
    (i61 : PySem.W.isFn K (.ref f61) = true)
    (l61 : K.lookup f61 = some ⟨oc61, od61, .func (PySem.W.fnOf "field" "Reader.field" (defArgs s_Reader_field) (defBody s_Reader_field) (defScope s_Reader_field) .none kV61 dc61 pm61 an61 cd61 ct61), sl61⟩)
    (c61 : PySem.W.codeIn K cd61 "Reader.field" = true)
    (k61 : PySem.W.keepIn K (.ref f61) = true)
    (a62 : PySem.W.findIn K (.ref CR) "fields" = some (some (.ref f62)))
    (i62 : PySem.W.isFn K (.ref f62) = true)
    (l62 : K.lookup f62 = some ⟨oc62, od62, .func (PySem.W.fnOf "fields" "Reader.fields" (defArgs s_Reader_fields) (defBody s_Reader_fields) (defScope s_Reader_fields) .none kV62 dc62 pm62 an62 cd62 ct62), sl62⟩)
    (c62 : PySem.W.codeIn K cd62 "Reader.fields" = true)
    (k62 : PySem.W.keepIn K (.ref f62) = true)
    (a63 : PySem.W.findIn K (.ref CR) "bound" = some (some (.ref f63)))
    (i63 : PySem.W.isFn K (.ref f63) = true)
    (l63 : K.lookup f63 = some ⟨oc63, od63, .func (PySem.W.fnOf "bound" "Reader.bound" (defArgs s_Reader_bound) (defBody s_Reader_bound) (defScope s_Reader_bound) .none kV63 dc63 pm63 an63 cd63 ct63), sl63⟩)
    (c63 : PySem.W.codeIn K cd63 "Reader.bound" = true)
    (k63 : PySem.W.keepIn K (.ref f63) = true)
    (a64 : PySem.W.findIn K (.ref CR) "bounds" = some (some (.ref f64)))
    (i64 : PySem.W.isFn K (.ref f64) = true)
    (l64 : K.lookup f64 = some ⟨oc64, od64, .func (PySem.W.fnOf "bounds" "Reader.bounds" (defArgs s_Reader_bounds) (defBody s_Reader_bounds) (defScope s_Reader_bounds) .none kV64 dc64 pm64 an64 cd64 ct64), sl64⟩)
    (c64 : PySem.W.codeIn K cd64 "Reader.bounds" = true)
    (k64 : PySem.W.keepIn K (.ref f64) = true)
    (a65 : PySem.W.findIn K (.ref CR) "imported" = some (some (.ref f65)))
    (i65 : PySem.W.isFn K (.ref f65) = true)
    (l65 : K.lookup f65 = some ⟨oc65, od65, .func (PySem.W.fnOf "imported" "Reader.imported" (defArgs s_Reader_imported) (defBody s_Reader_imported) (defScope s_Reader_imported) .none kV65 dc65 pm65 an65 cd65 ct65), sl65⟩)
    (c65 : PySem.W.codeIn K cd65 "Reader.imported" = true)
    (k65 : PySem.W.keepIn K (.ref f65) = true)
    (a66 : PySem.W.findIn K (.ref CR) "trait" = some (some (.ref f66)))
    (i66 : PySem.W.isFn K (.ref f66) = true)
    (l66 : K.lookup f66 = some ⟨oc66, od66, .func (PySem.W.fnOf "trait" "Reader.trait" (defArgs s_Reader_trait) (defBody s_Reader_trait) (defScope s_Reader_trait) .none kV66 dc66 pm66 an66 cd66 ct66), sl66⟩)
    (c66 : PySem.W.codeIn K cd66 "Reader.trait" = true)
    (k66 : PySem.W.keepIn K (.ref f66) = true)
    (a67 : PySem.W.findIn K (.ref CR) "impl" = some (some (.ref f67)))
    (i67 : PySem.W.isFn K (.ref f67) = true)
    (l67 : K.lookup f67 = some ⟨oc67, od67, .func (PySem.W.fnOf "impl" "Reader.impl" (defArgs s_Reader_impl) (defBody s_Reader_impl) (defScope s_Reader_impl) .none kV67 dc67 pm67 an67 cd67 ct67), sl67⟩)
    (c67 : PySem.W.codeIn K cd67 "Reader.impl" = true)
    (k67 : PySem.W.keepIn K (.ref f67) = true)
    (a68 : PySem.W.findIn K (.ref CR) "definition" = some (some (.ref f68)))
    (i68 : PySem.W.isFn K (.ref f68) = true)
    (l68 : K.lookup f68 = some ⟨oc68, od68, .func (PySem.W.fnOf "definition" "Reader.definition" (defArgs s_Reader_definition) (defBody s_Reader_definition) (defScope s_Reader_definition) .none kV68 dc68 pm68 an68 cd68 ct68), sl68⟩)
    (c68 : PySem.W.codeIn K cd68 "Reader.definition" = true)
    (k68 : PySem.W.keepIn K (.ref f68) = true)
    (a69 : PySem.W.findIn K (.ref CR) "item" = some (some (.ref f69)))
    (i69 : PySem.W.isFn K (.ref f69) = true)
    (l69 : K.lookup f69 = some ⟨oc69, od69, .func (PySem.W.fnOf "item" "Reader.item" (defArgs s_Reader_item) (defBody s_Reader_item) (defScope s_Reader_item) .none kV69 dc69 pm69 an69 cd69 ct69), sl69⟩)
    (c69 : PySem.W.codeIn K cd69 "Reader.item" = true)
    (k69 : PySem.W.keepIn K (.ref f69) = true)
    (a70 : PySem.W.findIn K (.ref CS) "__init__" = some (some (.ref f70)))
    (i70 : PySem.W.typeIn K (.ref f70) = some (.type "function"))
    (l70 : K.lookup f70 = some ⟨oc70, od70, .func (PySem.W.fnOf "__init__" "SyntaxProblem.__init__" (defArgs s_SP_init) (defBody s_SP_init) (defScope s_SP_init) .none kV70 dc70 pm70 an70 cd70 ct70), sl70⟩)
    (c70 : PySem.W.codeIn K cd70 "SyntaxProblem.__init__" = true)
    (k70 : PySem.W.keepIn K (.ref f70) = true)
    (z0 : PySem.W.nsIn K mainGlobals "abs" = some none)
    (z1 : PySem.W.nsIn K mainGlobals "int" = some none)
    (z2 : PySem.W.nsIn K mainGlobals "len" = some none)
    (z3 : PySem.W.nsIn K mainGlobals "range" = some none)
    (z4 : PySem.W.nsIn K mainGlobals "isinstance" = some none)
    (z5 : PySem.W.nsIn K mainGlobals "bool" = some none)
    (z6 : PySem.W.nsIn K mainGlobals "str" = some none)
    (z7 : PySem.W.nsIn K mainGlobals "tuple" = some none)
    (z8 : PySem.W.nsIn K mainGlobals "list" = some none)
    (aCR : PySem.W.nsIn K mainGlobals "Reader" = some (some (.ref CR)))
    (aCS : PySem.W.nsIn K mainGlobals "SyntaxProblem" = some (some (.ref CS)))
    (pg : PySem.W.plainGet K CR Str.empty = true)
    (hd : PySem.W.hasDictIn K CR = true)
    (po : PySem.W.plainOver K CR = true)
    (sa : PySem.W.findIn K (.ref CR) "__setattr__" = some (some (.builtin "object.__setattr__")))
    (mk : PySem.W.makesIn K CR = true)
    (kc : PySem.W.keepIn K (.ref CR) = true)
    (n1 : PySem.W.findIn K (.ref CR) "source" = some none)
    (n2 : PySem.W.findIn K (.ref CR) "row" = some none)
    (n3 : PySem.W.findIn K (.ref CR) "at" = some none)
    (n4 : PySem.W.findIn K (.ref CR) "depth" = some none)
    (xL : K.lookup CS = some (excClassObj xn xq CS xN xbs [.ref CE, .type "ValueError", .type "Exception", .type "BaseException", .type "object"] true xsn xsub xab xcol xdd x0 x1 x2 x3 x5 "ValueError.__new__"))
    (xsa : PySem.W.findIn K (.ref CS) "__setattr__" = some (some (.builtin "object.__setattr__")))
    (xb : PySem.W.subIn K (.ref CS) (.type "BaseException") = some true)
    (xt : PySem.W.typeIn K (.ref CS) = some (.type "type"))
    (xk : PySem.W.keepIn K (.ref CS) = true)
    (xs1 : PySem.W.findIn K (.ref CS) "start" = some none)
    (xs2 : PySem.W.findIn K (.ref CS) "end" = some none)
    (eg : PySem.W.findIn K (.ref CS) "__getattribute__" = some (some (.builtin "BaseException.__getattribute__")))
    (ek : PySem.W.findIn K (.ref CS) "__getattr__" = some none)
    (ed : PySem.W.hasDictIn K CS = true)
    (iC : PySem.W.isClsIn K CS = true)
    (sC : PySem.W.subIn K (.ref CS) (.ref CS) = some true)
    (gI0 : PySem.W.nsIn K mainGlobals "MOST_TOKENS" = some (some (.int 300 t0)))
    (gI1 : PySem.W.nsIn K mainGlobals "DEEPEST" = some (some (.int 30 t1)))
    (gI2 : PySem.W.nsIn K mainGlobals "LOWEST" = some (some (.int 1 t2)))
    (gI3 : PySem.W.nsIn K mainGlobals "NEGATION" = some (some (.int 3 t3)))
    (gI4 : PySem.W.nsIn K mainGlobals "COMPARISON" = some (some (.int 4 t4)))
    (gI5 : PySem.W.nsIn K mainGlobals "HIGHEST" = some (some (.int 6 t5)))
    (gI6 : PySem.W.nsIn K mainGlobals "NUMBERS" = some (some (.int 4294967296 t6)))
    (gR : PySem.W.nsIn K mainGlobals "RANKS" = some (some (.ref aR)))
    (lR : K.lookup aR = some ⟨.type "dict", none, .dict (rkE w.params y0 y1 y2 y3 y4 y5 y6 y7 g0 g1 g2 g3 g4 g5 g6 g7) nR, #[]⟩)
    (lo : (aR == sysModules) = false)
    (gW : PySem.W.nsIn K mainGlobals "WORDS" = some (some (.ref aW)))
    (gS : PySem.W.nsIn K mainGlobals "SIGNS" = some (some (.str "()[],:.=<+-*/" tS)))
    (lW : K.lookup aW = some ⟨.type "tuple", odW, .seq #[.str "\x69mport" u0, .str "data" u1, .str "trait" u2, .str "with" u3, .str "impl" u4, .str "for" u5, .str "def" u6, .str "let" u7, .str "in" u8, .str "if" u9, .str "then" u10, .str "else" u11, .str "loop" u12, .str "times" u13, .str "do" u14, .str "not" u15, .str "and" u16, .str "or" u17, .str "True" u18, .str "False" u19] nW, slW⟩) :
    ∃ fd : FuncData, (∀ (s : Shared) (v : Value), BindsTo s fd ⟨[v], []⟩ [("script", v)]) ∧ ∀ base : Heap, K.In base → base.Ns mainGlobals mg → FnOk l.prog w K mg base CX0 231 fa fd ["script"] (spLaw K) := by
  have e := hfa.symm.trans (PySem.W.mg_of X G a38)
  cases e
  have F0 := fun_mk (st := s_line_end) l0 c0 k0
  have b0 := F0.binds (ps := ["text", "offset"]) fun _ _ _ _ _ _ us hl => match us, hl with | [_, _], _ => rfl
  have m0 := PySem.W.mg_of X G a0
  have F1 := fun_mk (st := s_is_letter) l1 c1 k1
  have b1 := F1.binds (ps := ["sign"]) fun _ _ _ _ _ _ us hl => match us, hl with | [_], _ => rfl
  have m1 := PySem.W.mg_of X G a1
  have F2 := fun_mk (st := s_is_digit) l2 c2 k2
  have b2 := F2.binds (ps := ["sign"]) fun _ _ _ _ _ _ us hl => match us, hl with | [_], _ => rfl
  have m2 := PySem.W.mg_of X G a2
  have F3 := fun_mk (st := s_word_end) l3 c3 k3
  have b3 := F3.binds (ps := ["text", "start"]) fun _ _ _ _ _ _ us hl => match us, hl with | [_, _], _ => rfl
  have m3 := PySem.W.mg_of X G a3
  have F4 := fun_mk (st := s_digits_end) l4 c4 k4
  have b4 := F4.binds (ps := ["text", "start"]) fun _ _ _ _ _ _ us hl => match us, hl with | [_, _], _ => rfl
  have m4 := PySem.W.mg_of X G a4
  have F5 := fun_mk (st := s_token_at) l5 c5 k5
  have b5 := F5.binds (ps := ["text", "start"]) fun _ _ _ _ _ _ us hl => match us, hl with | [_, _], _ => rfl
  have m5 := PySem.W.mg_of X G a5
  have F6 := fun_mk (st := s_tokens_between) l6 c6 k6
  have b6 := F6.binds (ps := ["text", "start", "end"]) fun _ _ _ _ _ _ us hl => match us, hl with | [_, _, _], _ => rfl
  have m6 := PySem.W.mg_of X G a6
  have F7 := fun_mk (st := s_tokens) l7 c7 k7
  have b7 := F7.binds (ps := ["text"]) fun _ _ _ _ _ _ us hl => match us, hl with | [_], _ => rfl
  have m7 := PySem.W.mg_of X G a7
  have F8 := fun_mk (st := s_number_value) l8 c8 k8
  have b8 := F8.binds (ps := ["digits"]) fun _ _ _ _ _ _ us hl => match us, hl with | [_], _ => rfl
  have m8 := PySem.W.mg_of X G a8
  have F9 := fun_mk (st := s_read_item) l9 c9 k9
  have b9 := F9.binds (ps := ["text"]) fun _ _ _ _ _ _ us hl => match us, hl with | [_], _ => rfl
  have m9 := PySem.W.mg_of X G a9
  have F10 := fun_mk (st := s_tape) l10 c10 k10
  have b10 := F10.binds (ps := ["script"]) fun _ _ _ _ _ _ us hl => match us, hl with | [_], _ => rfl
  have m10 := PySem.W.mg_of X G a10
  have F11 := fun_mk (st := s_take) l11 c11 k11
  have b11 := F11.binds (ps := ["tape", "many"]) fun _ _ _ _ _ _ us hl => match us, hl with | [_, _], _ => rfl
  have m11 := PySem.W.mg_of X G a11
  have F12 := fun_mk (st := s_isInt) l12 c12 k12
  have b12 := F12.binds (ps := ["actual"]) fun _ _ _ _ _ _ us hl => match us, hl with | [_], _ => rfl
  have m12 := PySem.W.mg_of X G a12
  have F13 := fun_mk (st := s_sameItems) l13 c13 k13
  have b13 := F13.binds (ps := ["actual", "expected"]) fun _ _ _ _ _ _ us hl => match us, hl with | [_, _], _ => rfl
  have m13 := PySem.W.mg_of X G a13
  have F14 := fun_mk (st := s_same) l14 c14 k14
  have b14 := F14.binds (ps := ["actual", "expected"]) fun _ _ _ _ _ _ us hl => match us, hl with | [_, _], _ => rfl
  have m14 := PySem.W.mg_of X G a14
  have F15 := fun_mk (st := s_l_put) l15 c15 k15
  have b15 := F15.binds (ps := ["out", "string"]) fun _ _ _ _ _ _ us hl => match us, hl with | [_, _], _ => rfl
  have m15 := PySem.W.mg_of X G a15
  have F16 := fun_mk (st := s_l_gap) l16 c16 k16
  have b16 := F16.binds (ps := ["tape", "out", "needed"]) fun _ _ _ _ _ _ us hl => match us, hl with | [_, _, _], _ => rfl
  have m16 := PySem.W.mg_of X G a16
  have F17 := fun_mk (st := s_l_token_out) l17 c17 k17
  have b17 := F17.binds (ps := ["tape", "out", "string"]) fun _ _ _ _ _ _ us hl => match us, hl with | [_, _, _], _ => rfl
  have m17 := PySem.W.mg_of X G a17
  have F18 := fun_mk (st := s_l_some_name) l18 c18 k18
  have b18 := F18.binds (ps := ["tape"]) fun _ _ _ _ _ _ us hl => match us, hl with | [_], _ => rfl
  have m18 := PySem.W.mg_of X G a18
  have F19 := fun_mk (st := s_l_tree) l19 c19 k19
  have b19 := F19.binds (ps := ["tape", "out", "depth", "level"]) fun _ _ _ _ _ _ us hl => match us, hl with | [_, _, _, _], _ => rfl
  have m19 := PySem.W.mg_of X G a19
  have F20 := fun_mk (st := s_l_leaf) l20 c20 k20
  have b20 := F20.binds (ps := ["tape", "out", "choice"]) fun _ _ _ _ _ _ us hl => match us, hl with | [_, _, _], _ => rfl
  have m20 := PySem.W.mg_of X G a20
  have F21 := fun_mk (st := s_l_call) l21 c21 k21
  have b21 := F21.binds (ps := ["tape", "out", "depth"]) fun _ _ _ _ _ _ us hl => match us, hl with | [_, _, _], _ => rfl
  have m21 := PySem.W.mg_of X G a21
  have F22 := fun_mk (st := s_l_reach) l22 c22 k22
  have b22 := F22.binds (ps := ["tape", "out", "depth"]) fun _ _ _ _ _ _ us hl => match us, hl with | [_, _, _], _ => rfl
  have m22 := PySem.W.mg_of X G a22
  have F23 := fun_mk (st := s_l_prefix) l23 c23 k23
  have b23 := F23.binds (ps := ["tape", "out", "depth", "word", "sign", "level"]) fun _ _ _ _ _ _ us hl => match us, hl with | [_, _, _, _, _, _], _ => rfl
  have m23 := PySem.W.mg_of X G a23
  have F24 := fun_mk (st := s_l_binary) l24 c24 k24
  have b24 := F24.binds (ps := ["tape", "out", "depth", "level"]) fun _ _ _ _ _ _ us hl => match us, hl with | [_, _, _, _], _ => rfl
  have m24 := PySem.W.mg_of X G a24
  have F25 := fun_mk (st := s_l_wide) l25 c25 k25
  have b25 := F25.binds (ps := ["tape", "out", "depth", "choice"]) fun _ _ _ _ _ _ us hl => match us, hl with | [_, _, _, _], _ => rfl
  have m25 := PySem.W.mg_of X G a25
  have F26 := fun_mk (st := s_l_mark) l26 c26 k26
  have b26 := F26.binds (ps := ["tape", "out"]) fun _ _ _ _ _ _ us hl => match us, hl with | [_, _], _ => rfl
  have m26 := PySem.W.mg_of X G a26
  have F27 := fun_mk (st := s_l_list) l27 c27 k27
  have b27 := F27.binds (ps := ["tape", "out", "many", "colon"]) fun _ _ _ _ _ _ us hl => match us, hl with | [_, _, _, _], _ => rfl
  have m27 := PySem.W.mg_of X G a27
  have F28 := fun_mk (st := s_l_brackets) l28 c28 k28
  have b28 := F28.binds (ps := ["tape", "out", "first"]) fun _ _ _ _ _ _ us hl => match us, hl with | [_, _, _], _ => rfl
  have m28 := PySem.W.mg_of X G a28
  have F29 := fun_mk (st := s_l_def) l29 c29 k29
  have b29 := F29.binds (ps := ["tape", "out"]) fun _ _ _ _ _ _ us hl => match us, hl with | [_, _], _ => rfl
  have m29 := PySem.W.mg_of X G a29
  have F30 := fun_mk (st := s_l_item) l30 c30 k30
  have b30 := F30.binds (ps := ["tape", "out"]) fun _ _ _ _ _ _ us hl => match us, hl with | [_, _], _ => rfl
  have m30 := PySem.W.mg_of X G a30
  have F31 := fun_mk (st := s_lLetter) l31 c31 k31
  have b31 := F31.binds (ps := ["char"]) fun _ _ _ _ _ _ us hl => match us, hl with | [_], _ => rfl
  have m31 := PySem.W.mg_of X G a31
  have F32 := fun_mk (st := s_lDigit) l32 c32 k32
  have b32 := F32.binds (ps := ["char"]) fun _ _ _ _ _ _ us hl => match us, hl with | [_], _ => rfl
  have m32 := PySem.W.mg_of X G a32
  have F33 := fun_mk (st := s_lRun) l33 c33 k33
  have b33 := F33.binds (ps := ["text", "at"]) fun _ _ _ _ _ _ us hl => match us, hl with | [_, _], _ => rfl
  have m33 := PySem.W.mg_of X G a33
  have F34 := fun_mk (st := s_lToken) l34 c34 k34
  have b34 := F34.binds (ps := ["text", "at"]) fun _ _ _ _ _ _ us hl => match us, hl with | [_, _], _ => rfl
  have m34 := PySem.W.mg_of X G a34
  have F35 := fun_mk (st := s_lTokens) l35 c35 k35
  have b35 := F35.binds (ps := ["text"]) fun _ _ _ _ _ _ us hl => match us, hl with | [_], _ => rfl
  have m35 := PySem.W.mg_of X G a35
  have F36 := fun_mk (st := s_l_read) l36 c36 k36
  have b36 := F36.binds (ps := ["text"]) fun _ _ _ _ _ _ us hl => match us, hl with | [_], _ => rfl
  have m36 := PySem.W.mg_of X G a36
  have F37 := fun_mk (st := s_l_spoilt) l37 c37 k37
  have b37 := F37.binds (ps := ["tape", "text"]) fun _ _ _ _ _ _ us hl => match us, hl with | [_, _], _ => rfl
  have m37 := PySem.W.mg_of X G a37
  have F38 := fun_mk (st := s_law) l38 c38 k38
  have F39 := fun_mk (st := s_R_init) l39 c39 k39
  have b39 := F39.binds (ps := ["self", "source"]) fun _ _ _ _ _ _ us hl => match us, hl with | [_, _], _ => rfl
  have F40 := fun_mk (st := s_Reader_fail) l40 c40 k40
  have b40 := F40.binds (ps := ["self"]) fun _ _ _ _ _ _ us hl => match us, hl with | [_], _ => rfl
  have F41 := fun_mk (st := s_Reader_ended) l41 c41 k41
  have b41 := F41.binds (ps := ["self"]) fun _ _ _ _ _ _ us hl => match us, hl with | [_], _ => rfl
  have F42 := fun_mk (st := s_Reader_next_sort) l42 c42 k42
  have b42 := F42.binds (ps := ["self"]) fun _ _ _ _ _ _ us hl => match us, hl with | [_], _ => rfl
  have F43 := fun_mk (st := s_Reader_next_start) l43 c43 k43
  have b43 := F43.binds (ps := ["self"]) fun _ _ _ _ _ _ us hl => match us, hl with | [_], _ => rfl
  have F44 := fun_mk (st := s_Reader_last_end) l44 c44 k44
  have b44 := F44.binds (ps := ["self"]) fun _ _ _ _ _ _ us hl => match us, hl with | [_], _ => rfl
  have F45 := fun_mk (st := s_Reader_peek) l45 c45 k45
  have b45 := F45.binds (ps := ["self"]) fun _ _ _ _ _ _ us hl => match us, hl with | [_], _ => rfl
  have F46 := fun_mk (st := s_Reader_taken) l46 c46 k46
  have b46 := F46.binds (ps := ["self", "word"]) fun _ _ _ _ _ _ us hl => match us, hl with | [_, _], _ => rfl
  have F47 := fun_mk (st := s_Reader_expect) l47 c47 k47
  have b47 := F47.binds (ps := ["self", "word"]) fun _ _ _ _ _ _ us hl => match us, hl with | [_, _], _ => rfl
  have F48 := fun_mk (st := s_Reader_mark) l48 c48 k48
  have b48 := F48.binds (ps := ["self"]) fun _ _ _ _ _ _ us hl => match us, hl with | [_], _ => rfl
  have F49 := fun_mk (st := s_Reader_begin) l49 c49 k49
  have b49 := F49.binds (ps := ["self"]) fun _ _ _ _ _ _ us hl => match us, hl with | [_], _ => rfl
  have F50 := fun_mk (st := s_Reader_value) l50 c50 k50
  have b50 := F50.binds (ps := ["self"]) fun _ _ _ _ _ _ us hl => match us, hl with | [_], _ => rfl
  have F51 := fun_mk (st := s_Reader_part) l51 c51 k51
  have b51 := F51.binds (ps := ["self", "word"]) fun _ _ _ _ _ _ us hl => match us, hl with | [_, _], _ => rfl
  have F52 := fun_mk (st := s_Reader_let) l52 c52 k52
  have b52 := F52.binds (ps := ["self", "start"]) fun _ _ _ _ _ _ us hl => match us, hl with | [_, _], _ => rfl
  have F53 := fun_mk (st := s_Reader_choice) l53 c53 k53
  have b53 := F53.binds (ps := ["self", "start"]) fun _ _ _ _ _ _ us hl => match us, hl with | [_, _], _ => rfl
  have F54 := fun_mk (st := s_Reader_loop) l54 c54 k54
  have b54 := F54.binds (ps := ["self", "start"]) fun _ _ _ _ _ _ us hl => match us, hl with | [_, _], _ => rfl
  have F55 := fun_mk (st := s_Reader_chain) l55 c55 k55
  have b55 := F55.binds (ps := ["self", "least"]) fun _ _ _ _ _ _ us hl => match us, hl with | [_, _], _ => rfl
  have F56 := fun_mk (st := s_Reader_negated) l56 c56 k56
  have b56 := F56.binds (ps := ["self"]) fun _ _ _ _ _ _ us hl => match us, hl with | [_], _ => rfl
  have F57 := fun_mk (st := s_Reader_signed) l57 c57 k57
  have b57 := F57.binds (ps := ["self"]) fun _ _ _ _ _ _ us hl => match us, hl with | [_], _ => rfl
  have F58 := fun_mk (st := s_Reader_reached) l58 c58 k58
  have b58 := F58.binds (ps := ["self"]) fun _ _ _ _ _ _ us hl => match us, hl with | [_], _ => rfl
  have F59 := fun_mk (st := s_Reader_simple) l59 c59 k59
  have b59 := F59.binds (ps := ["self"]) fun _ _ _ _ _ _ us hl => match us, hl with | [_], _ => rfl
  have F60 := fun_mk (st := s_Reader_named) l60 c60 k60
  have b60 := F60.binds (ps := ["self"]) fun _ _ _ _ _ _ us hl => match us, hl with | [_], _ => rfl
  have F61 := fun_mk (st := s_Reader_field) l61 c61 k61
  have b61 := F61.binds (ps := ["self"]) fun _ _ _ _ _ _ us hl => match us, hl with | [_], _ => rfl
  have F62 := fun_mk (st := s_Reader_fields) l62 c62 k62
  have b62 := F62.binds (ps := ["self"]) fun _ _ _ _ _ _ us hl => match us, hl with | [_], _ => rfl
  have F63 := fun_mk (st := s_Reader_bound) l63 c63 k63
  have b63 := F63.binds (ps := ["self"]) fun _ _ _ _ _ _ us hl => match us, hl with | [_], _ => rfl
  have F64 := fun_mk (st := s_Reader_bounds) l64 c64 k64
  have b64 := F64.binds (ps := ["self"]) fun _ _ _ _ _ _ us hl => match us, hl with | [_], _ => rfl
  have F65 := fun_mk (st := s_Reader_imported) l65 c65 k65
  have b65 := F65.binds (ps := ["self"]) fun _ _ _ _ _ _ us hl => match us, hl with | [_], _ => rfl
  have F66 := fun_mk (st := s_Reader_trait) l66 c66 k66
  have b66 := F66.binds (ps := ["self"]) fun _ _ _ _ _ _ us hl => match us, hl with | [_], _ => rfl
  have F67 := fun_mk (st := s_Reader_impl) l67 c67 k67
  have b67 := F67.binds (ps := ["self"]) fun _ _ _ _ _ _ us hl => match us, hl with | [_], _ => rfl
  have F68 := fun_mk (st := s_Reader_definition) l68 c68 k68
  have b68 := F68.binds (ps := ["self"]) fun _ _ _ _ _ _ us hl => match us, hl with | [_], _ => rfl
  have F69 := fun_mk (st := s_Reader_item) l69 c69 k69
  have b69 := F69.binds (ps := ["self"]) fun _ _ _ _ _ _ us hl => match us, hl with | [_], _ => rfl
  have F70 := fun_mk (st := s_SP_init) l70 c70 k70
  have b70 := F70.binds (ps := ["self", "start", "end"]) fun _ _ _ _ _ _ us hl => match us, hl with | [_, _, _], _ => rfl
  refine ⟨PySem.W.fnOf "law" "law" (defArgs s_law) (defBody s_law) (defScope s_law) .none kV38 dc38 pm38 an38 cd38 ct38, fun s v => .of_eq rfl, fun base _ _ => ?_⟩
  have T : NmW K w mg aW tS CR CS aR t0 t1 t2 t3 t4 t5 t6 := ⟨⟨⟨⟨(PySem.W.mg_none_of X G z0), (PySem.W.mg_none_of X G z1), (PySem.W.mg_none_of X G z2), (PySem.W.mg_none_of X G z3), (PySem.W.mg_none_of X G z4), (PySem.W.mg_none_of X G z5), (PySem.W.mg_none_of X G z6), (PySem.W.mg_none_of X G z7), (PySem.W.mg_none_of X G z8)⟩, PySem.W.mg_of X G gW, ⟨_, _, _, lW, rfl, rfl, (by show 20 ≤ sizeLine; decide), .cons ⟨_, rfl⟩ (.cons ⟨_, rfl⟩ (.cons ⟨_, rfl⟩ (.cons ⟨_, rfl⟩ (.cons ⟨_, rfl⟩ (.cons ⟨_, rfl⟩ (.cons ⟨_, rfl⟩ (.cons ⟨_, rfl⟩ (.cons ⟨_, rfl⟩ (.cons ⟨_, rfl⟩ (.cons ⟨_, rfl⟩ (.cons ⟨_, rfl⟩ (.cons ⟨_, rfl⟩ (.cons ⟨_, rfl⟩ (.cons ⟨_, rfl⟩ (.cons ⟨_, rfl⟩ (.cons ⟨_, rfl⟩ (.cons ⟨_, rfl⟩ (.cons ⟨_, rfl⟩ (.cons ⟨_, rfl⟩ (.nil))))))))))))))))))))⟩, PySem.W.mg_of X G gS⟩, ⟨pg, hd, po, sa⟩, n1, n2, n3, n4, PySem.W.mg_of X G aCR, PySem.W.mg_of X G gI0, PySem.W.mg_of X G gI1, PySem.W.mg_of X G gI2, PySem.W.mg_of X G gI3, PySem.W.mg_of X G gI4, PySem.W.mg_of X G gI5, PySem.W.mg_of X G gI6, PySem.W.mg_of X G gR, rk_kd lR lo, rkd_all lR, ⟨⟨_, _, _, _, _, _, _, _, _, _, _, _, _, _, _, xL, by show PySem.HandSPX.refsVE PySem.HandSPX.veTail = true; decide +kernel⟩, xsa, xb, xt, xk⟩, PySem.W.mg_of X G aCS, xs1, xs2⟩, PySem.W.mg_of X G aCS, ⟨eg, ek, xb, ed⟩, exm_of xb iC xt sC⟩
  have T5 : Nm5 K mg aW tS := T.toNmR.toNm5
  have TR : NmR K w mg aW tS CR CS aR t0 t1 t2 t3 t4 t5 t6 := T.toNmR
  have M_R : RdM K CR := ⟨⟨⟨_, _, F40, ⟨a40, i40, k40⟩, b40⟩⟩, ⟨⟨_, _, F41, ⟨a41, i41, k41⟩, b41⟩⟩, ⟨⟨_, _, F42, ⟨a42, i42, k42⟩, b42⟩⟩, ⟨⟨_, _, F43, ⟨a43, i43, k43⟩, b43⟩⟩, ⟨⟨_, _, F44, ⟨a44, i44, k44⟩, b44⟩⟩, ⟨⟨_, _, F45, ⟨a45, i45, k45⟩, b45⟩⟩, ⟨⟨_, _, F46, ⟨a46, i46, k46⟩, b46⟩⟩, ⟨⟨_, _, F47, ⟨a47, i47, k47⟩, b47⟩⟩, ⟨⟨_, _, F48, ⟨a48, i48, k48⟩, b48⟩⟩, ⟨⟨_, _, F49, ⟨a49, i49, k49⟩, b49⟩⟩, ⟨⟨_, _, F50, ⟨a50, i50, k50⟩, b50⟩⟩, ⟨⟨_, _, F51, ⟨a51, i51, k51⟩, b51⟩⟩, ⟨⟨_, _, F52, ⟨a52, i52, k52⟩, b52⟩⟩, ⟨⟨_, _, F53, ⟨a53, i53, k53⟩, b53⟩⟩, ⟨⟨_, _, F54, ⟨a54, i54, k54⟩, b54⟩⟩, ⟨⟨_, _, F55, ⟨a55, i55, k55⟩, b55⟩⟩, ⟨⟨_, _, F56, ⟨a56, i56, k56⟩, b56⟩⟩, ⟨⟨_, _, F57, ⟨a57, i57, k57⟩, b57⟩⟩, ⟨⟨_, _, F58, ⟨a58, i58, k58⟩, b58⟩⟩, ⟨⟨_, _, F59, ⟨a59, i59, k59⟩, b59⟩⟩, ⟨⟨_, _, F60, ⟨a60, i60, k60⟩, b60⟩⟩⟩
  have M_I : ItM K CR := ⟨⟨⟨_, _, F61, ⟨a61, i61, k61⟩, b61⟩⟩, ⟨⟨_, _, F62, ⟨a62, i62, k62⟩, b62⟩⟩, ⟨⟨_, _, F63, ⟨a63, i63, k63⟩, b63⟩⟩, ⟨⟨_, _, F64, ⟨a64, i64, k64⟩, b64⟩⟩, ⟨⟨_, _, F65, ⟨a65, i65, k65⟩, b65⟩⟩, ⟨⟨_, _, F66, ⟨a66, i66, k66⟩, b66⟩⟩, ⟨⟨_, _, F67, ⟨a67, i67, k67⟩, b67⟩⟩, ⟨⟨_, _, F68, ⟨a68, i68, k68⟩, b68⟩⟩, ⟨⟨_, _, F69, ⟨a69, i69, k69⟩, b69⟩⟩⟩
  have I_SP : ExI l.prog w K mg base 1 CS (spXI CS) := ⟨⟨_, _, _, ok_SP_init F70 TR, a70, i70, b70⟩⟩
  have C_law_tape : Cal l.prog w K mg base CX0 1 "_law_tape" (spTape K) := ⟨_, _, _, ok_tape F10 T5.toNm, m10, F10.kp, b10⟩
  have C_law_take : Cal l.prog w K mg base CX0 1 "_law_take" spTake := ⟨_, _, _, ok_take F11 T5.toNm, m11, F11.kp, b11⟩
  have C_law_is_integer : Cal l.prog w K mg base CX0 1 "_law_is_integer" spIsInt := ⟨_, _, _, ok_isInt F12 T5.toNm, m12, F12.kp, b12⟩
  have C_law_same : Cal l.prog w K mg base CX0 18 "_law_same" (spSame 9) := both F14 b14 m14 F13 b13 m13 T5.toNm C_law_is_integer 9
  have C_line_end : Cal l.prog w K mg base CX0 1 "line_end" (spRun fun d => d != 10) := ⟨_, _, _, ok_line_end F0 T5, m0, F0.kp, b0⟩
  have C_is_letter : Cal l.prog w K mg base CX0 1 "is_letter" (spLet isL) := ⟨_, _, _, ok_is_letter F1, m1, F1.kp, b1⟩
  have C_is_digit : Cal l.prog w K mg base CX0 1 "is_digit" (spLet isD) := ⟨_, _, _, ok_is_digit F2, m2, F2.kp, b2⟩
  have C_word_end : Cal l.prog w K mg base CX0 2 "word_end" (spRun isW) := ⟨_, _, _, ok_word_end F3 T5 C_is_letter C_is_digit, m3, F3.kp, b3⟩
  have C_digits_end : Cal l.prog w K mg base CX0 2 "digits_end" (spRun isD) := ⟨_, _, _, ok_digits_end F4 T5 C_is_digit, m4, F4.kp, b4⟩
  have C_token_at : Cal l.prog w K mg base CX0 3 "token_at" spTokAt := ⟨_, _, _, ok_token_at F5 T5 C_is_letter C_is_digit C_word_end C_digits_end, m5, F5.kp, b5⟩
  have C_tokens_between : Cal l.prog w K mg base CX0 4 "tokens_between" spBetween := ⟨_, _, _, ok_tokens_between F6 T5 C_line_end C_token_at, m6, F6.kp, b6⟩
  have C_tokens : Cal l.prog w K mg base CX0 5 "tokens" spTokens := ⟨_, _, _, ok_tokens F7 T5 C_tokens_between, m7, F7.kp, b7⟩
  have C_number_value : Cal l.prog w K mg base CX0 1 "number_value" spNum := ⟨_, _, _, ok_number_value F8 TR, m8, F8.kp, b8⟩
  have C_read_item : Cal l.prog w K mg base (L2N.CX l.prog w) 229 "read_item" (spReadI CS fun S d a => valB S 225 d a) := ⟨_, _, _, rd_item TR M_R M_I I_SP C_number_value C_tokens F39 ⟨mk, a39, i39, kc⟩ b39 (b := 225) (by decide) F9, m9, F9.kp, b9⟩
  have C_law_put : Cal l.prog w K mg base CX0 1 "_law_put" spPut := ⟨_, _, _, ok_l_put F15 T5.toNm, m15, F15.kp, b15⟩
  have C_law_gap : Cal l.prog w K mg base CX0 2 "_law_gap" spGap := ⟨_, _, _, ok_l_gap F16 T5.toNm C_law_take C_law_put, m16, F16.kp, b16⟩
  have C_law_token_out : Cal l.prog w K mg base CX0 3 "_law_token_out" spTok := ⟨_, _, _, ok_l_tok F17 T5.toNm C_law_gap C_law_put, m17, F17.kp, b17⟩
  have C_law_some_name : Cal l.prog w K mg base CX0 2 "_law_some_name" spName := ⟨_, _, _, ok_l_name F18 T5.toNm C_law_take, m18, F18.kp, b18⟩
  have C_law_leaf : Cal l.prog w K mg base CX0 4 "_law_leaf" spLeaf := ⟨_, _, _, ok_l_leaf F20 T5.toNm C_law_take C_law_token_out, m20, F20.kp, b20⟩
  have C_law_tree : Cal l.prog w K mg base CX0 12 "_law_tree" (spTree 4) := trees_all T5.toNm C_law_take C_law_some_name C_law_token_out C_law_leaf ⟨⟨_, _, F19, m19, b19⟩⟩ ⟨⟨_, _, F21, m21, b21⟩⟩ ⟨⟨_, _, F22, m22, b22⟩⟩ ⟨⟨_, _, F23, m23, b23⟩⟩ ⟨⟨_, _, F24, m24, b24⟩⟩ ⟨⟨_, _, F25, m25, b25⟩⟩ 4
  have C_law_mark : Cal l.prog w K mg base CX0 4 "_law_mark" spLMark := ⟨_, _, _, ok_l_mark F26 T5.toNm C_law_some_name C_law_token_out, m26, F26.kp, b26⟩
  have C_law_list : Cal l.prog w K mg base CX0 5 "_law_list" spLList := ⟨_, _, _, ok_l_list F27 T5.toNm C_law_take C_law_mark C_law_token_out, m27, F27.kp, b27⟩
  have C_law_brackets : Cal l.prog w K mg base CX0 6 "_law_brackets" spLBr := ⟨_, _, _, ok_l_brackets F28 T5.toNm C_law_take C_law_mark C_law_list C_law_token_out, m28, F28.kp, b28⟩
  have C_law_def : Cal l.prog w K mg base CX0 13 "_law_def" (spLIt 100 62 DefR) := ⟨_, _, _, ok_l_def F29 T5.toNm C_law_take C_law_mark C_law_list C_law_brackets C_law_token_out C_law_tree, m29, F29.kp, b29⟩
  have C_law_item : Cal l.prog w K mg base CX0 14 "_law_item" (spLIt 10 63 fun nw x => nw ≠ []) := ⟨_, _, _, ok_l_item F30 T5.toNm C_law_take C_law_mark C_law_list C_law_brackets C_law_token_out C_law_tree C_law_def, m30, F30.kp, b30⟩
  have C_law_is_letter : Cal l.prog w K mg base CX0 1 "_law_is_letter" (spLet isL) := ⟨_, _, _, ok_lLetter F31, m31, F31.kp, b31⟩
  have C_law_is_digit : Cal l.prog w K mg base CX0 1 "_law_is_digit" (spLet isD) := ⟨_, _, _, ok_lDigit F32, m32, F32.kp, b32⟩
  have C_law_run : Cal l.prog w K mg base CX0 2 "_law_run" spLRun := ⟨_, _, _, ok_lRun F33 C_law_is_letter C_law_is_digit, m33, F33.kp, b33⟩
  have C_law_token : Cal l.prog w K mg base CX0 3 "_law_token" spTokAt := ⟨_, _, _, ok_lToken F34 T5.toNm C_law_is_letter C_law_is_digit C_law_run, m34, F34.kp, b34⟩
  have C_law_tokens : Cal l.prog w K mg base CX0 4 "_law_tokens" spTokens := ⟨_, _, _, ok_lTokens F35 T5.toNm C_law_token, m35, F35.kp, b35⟩
  have C_law_read : Cal l.prog w K mg base CX0 230 "_law_read" spLRead := ⟨_, _, _, ok_l_read F36 T C_read_item, m36, F36.kp, b36⟩
  have C_law_spoilt : Cal l.prog w K mg base CX0 5 "_law_spoilt" spSpoilt := ⟨_, _, _, ok_l_spoilt F37 T5.toNm C_law_take C_law_tokens, m37, F37.kp, b37⟩
  exact ok_law F38 T5.toNm C_law_tape C_law_take C_law_item C_law_same C_law_tokens C_law_read C_law_spoilt
theorem walk {l : PySem.W.OpenLaw} {q : Program} {loose : List Str} {XP : (Str → Option Value) → Heap → Prop} {YP : World → Heap → Prop} {d : DefRec} {K : Params → PySem.W.Frag} (hn : l.most = some 63) (hdf : d.params.defaults = [])
    (hY : ∀ (w : World) (h : Heap), YP w h → (K w.params).In h)
    (F : ∀ (w : World) (mg : Str → Option Value) (fa : Addr) (h : Heap), (K w.params).In h → h.Ns mainGlobals mg → mg d.name = some (.ref fa) →
      ∃ fd : FuncData, (∀ (s : Shared) (u : Value), BindsTo s fd ⟨[u], []⟩ [("script", u)]) ∧ ∀ base : Heap, (K w.params).In base → base.Ns mainGlobals mg → FnOk l.prog w (K w.params) mg base CX0 231 fa fd ["script"] (spLaw (K w.params))) :
    PySem.W.WalkO q loose XP YP l.row.toRowW d [] (fun f vs => PySem.call f vs) :=
  L2.walk_of (n := 63) (k := 231) (x := "script") (CX := fun _ => CX0) (sp := fun w => spLaw (K w.params)) hn (by decide) hdf ⟨rfl, by decide, by decide⟩ hY F (fun _ _ a ns hl _ hS => ⟨a, ns, rfl, hS, hl, fun _ => rfl⟩) fun _ _ _ _ _ z => z
end Sn
open PySem PySem.W PyProof.Rows
set_option maxRecDepth 100000 in
set_option maxHeartbeats 0 in
theorem PySem.Challenge.cw_samenames_k10_first_wrong_token_holds : PySem.Challenge.rw_samenames_k10_first_wrong_token.Holds := by
  w_on; o_law; k_head; (case hw => w_witness2)
  k_fill
  refine Sn.walk (l := PySem.Challenge.rw_samenames_k10_first_wrong_token) rfl rfl (fun w h Y => PySem.W.kIn_of Y) ?F
  case F =>
    intro w mg fa h KX G hmg
    refine' Sn.all_mk KX G hmg ?a0 ?l0 ?c0 ?k0 ?a1 ?l1 ?c1 ?k1 ?a2 ?l2 ?c2 ?k2 ?a3 ?l3 ?c3 ?k3 ?a4 ?l4 ?c4 ?k4 ?a5 ?l5 ?c5 ?k5 ?a6 ?l6 ?c6 ?k6 ?a7 ?l7 ?c7 ?k7 ?a8 ?l8 ?c8 ?k8 ?a9 ?l9 ?c9 ?k9 ?a10 ?l10 ?c10 ?k10 ?a11 ?l11 ?c11 ?k11 ?a12 ?l12 ?c12 ?k12 ?a13 ?l13 ?c13 ?k13 ?a14 ?l14 ?c14 ?k14 ?a15 ?l15 ?c15 ?k15 ?a16 ?l16 ?c16 ?k16 ?a17 ?l17 ?c17 ?k17 ?a18 ?l18 ?c18 ?k18 ?a19 ?l19 ?c19 ?k19 ?a20 ?l20 ?c20 ?k20 ?a21 ?l21 ?c21 ?k21 ?a22 ?l22 ?c22 ?k22 ?a23 ?l23 ?c23 ?k23 ?a24 ?l24 ?c24 ?k24 ?a25 ?l25 ?c25 ?k25 ?a26 ?l26 ?c26 ?k26 ?a27 ?l27 ?c27 ?k27 ?a28 ?l28 ?c28 ?k28 ?a29 ?l29 ?c29 ?k29 ?a30 ?l30 ?c30 ?k30 ?a31 ?l31 ?c31 ?k31 ?a32 ?l32 ?c32 ?k32 ?a33 ?l33 ?c33 ?k33 ?a34 ?l34 ?c34 ?k34 ?a35 ?l35 ?c35 ?k35 ?a36 ?l36 ?c36 ?k36 ?a37 ?l37 ?c37 ?k37 ?a38 ?l38 ?c38 ?k38 ?a39 ?i39 ?l39 ?c39 ?k39 ?a40 ?i40 ?l40 ?c40 ?k40 ?a41 ?i41 ?l41 ?c41 ?k41 ?a42 ?i42 ?l42 ?c42 ?k42 ?a43 ?i43 ?l43 ?c43 ?k43 ?a44 ?i44 ?l44 ?c44 ?k44 ?a45 ?i45 ?l45 ?c45 ?k45 ?a46 ?i46 ?l46 ?c46 ?k46 ?a47 ?i47 ?l47 ?c47 ?k47 ?a48 ?i48 ?l48 ?c48 ?k48 ?a49 ?i49 ?l49 ?c49 ?k49 ?a50 ?i50 ?l50 ?c50 ?k50 ?a51 ?i51 ?l51 ?c51 ?k51 ?a52 ?i52 ?l52 ?c52 ?k52 ?a53 ?i53 ?l53 ?c53 ?k53 ?a54 ?i54 ?l54 ?c54 ?k54 ?a55 ?i55 ?l55 ?c55 ?k55 ?a56 ?i56 ?l56 ?c56 ?k56 ?a57 ?i57 ?l57 ?c57 ?k57 ?a58 ?i58 ?l58 ?c58 ?k58 ?a59 ?i59 ?l59 ?c59 ?k59 ?a60 ?i60 ?l60 ?c60 ?k60 ?a61 ?i61 ?l61 ?c61 ?k61 ?a62 ?i62 ?l62 ?c62 ?k62 ?a63 ?i63 ?l63 ?c63 ?k63 ?a64 ?i64 ?l64 ?c64 ?k64 ?a65 ?i65 ?l65 ?c65 ?k65 ?a66 ?i66 ?l66 ?c66 ?k66 ?a67 ?i67 ?l67 ?c67 ?k67 ?a68 ?i68 ?l68 ?c68 ?k68 ?a69 ?i69 ?l69 ?c69 ?k69 ?a70 ?i70 ?l70 ?c70 ?k70 ?z0 ?z1 ?z2 ?z3 ?z4 ?z5 ?z6 ?z7 ?z8 ?aCR ?aCS ?pg ?hd ?po ?sa ?mk ?kc ?n1 ?n2 ?n3 ?n4 ?xL ?xsa ?xb ?xt ?xk ?xs1 ?xs2 ?eg ?ek ?ed ?iC ?sC ?gI0 ?gI1 ?gI2 ?gI3 ?gI4 ?gI5 ?gI6 ?gR ?lR ?lo ?gW ?gS ?lW
    (case aCR => k_is)
    (case aCS => k_is)
    (case pg => k_is)
    (case hd => k_is)
    (case po => k_is)
    (case sa => k_is)
    (case mk => k_is)
    (case kc => k_is)
    (case n1 => k_is)
    (case n2 => k_is)
    (case n3 => k_is)
    (case n4 => k_is)
    (case xL => k_is)
    (case xsa => k_is)
    (case xb => k_is)
    (case xt => k_is)
    (case xk => k_is)
    (case xs1 => k_is)
    (case xs2 => k_is)
    (case eg => k_is)
    (case ek => k_is)
    (case ed => k_is)
    (case iC => k_is)
    (case sC => k_is)
    (case gI0 => k_is)
    (case gI1 => k_is)
    (case gI2 => k_is)
    (case gI3 => k_is)
    (case gI4 => k_is)
    (case gI5 => k_is)
    (case gI6 => k_is)
    (case gR => k_is)
    (case lR => k_is)
    (case lo => first | rfl | decide +kernel)
    (case gW => k_is)
    (case gS => k_is)
    (case lW => k_is)
    (case a0 => k_is)
    (case l0 => k_is)
    (case c0 => k_is)
    (case k0 => k_is)
    (case a1 => k_is)
    (case l1 => k_is)
    (case c1 => k_is)
    (case k1 => k_is)
    (case a2 => k_is)
    (case l2 => k_is)
    (case c2 => k_is)
    (case k2 => k_is)
    (case a3 => k_is)
    (case l3 => k_is)
    (case c3 => k_is)
    (case k3 => k_is)
    (case a4 => k_is)
    (case l4 => k_is)
    (case c4 => k_is)
    (case k4 => k_is)
    (case a5 => k_is)
    (case l5 => k_is)
    (case c5 => k_is)
    (case k5 => k_is)
    (case a6 => k_is)
    (case l6 => k_is)
    (case c6 => k_is)
    (case k6 => k_is)
    (case a7 => k_is)
    (case l7 => k_is)
    (case c7 => k_is)
    (case k7 => k_is)
    (case a8 => k_is)
    (case l8 => k_is)
    (case c8 => k_is)
    (case k8 => k_is)
    (case a9 => k_is)
    (case l9 => k_is)
    (case c9 => k_is)
    (case k9 => k_is)
    (case a10 => k_is)
    (case l10 => k_is)
    (case c10 => k_is)
    (case k10 => k_is)
    (case a11 => k_is)
    (case l11 => k_is)
    (case c11 => k_is)
    (case k11 => k_is)
    (case a12 => k_is)
    (case l12 => k_is)
    (case c12 => k_is)
    (case k12 => k_is)
    (case a13 => k_is)
    (case l13 => k_is)
    (case c13 => k_is)
    (case k13 => k_is)
    (case a14 => k_is)
    (case l14 => k_is)
    (case c14 => k_is)
    (case k14 => k_is)
    (case a15 => k_is)
    (case l15 => k_is)
    (case c15 => k_is)
    (case k15 => k_is)
    (case a16 => k_is)
    (case l16 => k_is)
    (case c16 => k_is)
    (case k16 => k_is)
    (case a17 => k_is)
    (case l17 => k_is)
    (case c17 => k_is)
    (case k17 => k_is)
    (case a18 => k_is)
    (case l18 => k_is)
    (case c18 => k_is)
    (case k18 => k_is)
    (case a19 => k_is)
    (case l19 => k_is)
    (case c19 => k_is)
    (case k19 => k_is)
    (case a20 => k_is)
    (case l20 => k_is)
    (case c20 => k_is)
    (case k20 => k_is)
    (case a21 => k_is)
    (case l21 => k_is)
    (case c21 => k_is)
    (case k21 => k_is)
    (case a22 => k_is)
    (case l22 => k_is)
    (case c22 => k_is)
    (case k22 => k_is)
    (case a23 => k_is)
    (case l23 => k_is)
    (case c23 => k_is)
    (case k23 => k_is)
    (case a24 => k_is)
    (case l24 => k_is)
    (case c24 => k_is)
    (case k24 => k_is)
    (case a25 => k_is)
    (case l25 => k_is)
    (case c25 => k_is)
    (case k25 => k_is)
    (case a26 => k_is)
    (case l26 => k_is)
    (case c26 => k_is)
    (case k26 => k_is)
    (case a27 => k_is)
    (case l27 => k_is)
    (case c27 => k_is)
    (case k27 => k_is)
    (case a28 => k_is)
    (case l28 => k_is)
    (case c28 => k_is)
    (case k28 => k_is)
    (case a29 => k_is)
    (case l29 => k_is)
    (case c29 => k_is)
    (case k29 => k_is)
    (case a30 => k_is)
    (case l30 => k_is)
    (case c30 => k_is)
    (case k30 => k_is)
    (case a31 => k_is)
    (case l31 => k_is)
    (case c31 => k_is)
    (case k31 => k_is)
    (case a32 => k_is)
    (case l32 => k_is)
    (case c32 => k_is)
    (case k32 => k_is)
    (case a33 => k_is)
    (case l33 => k_is)
    (case c33 => k_is)
    (case k33 => k_is)
    (case a34 => k_is)
    (case l34 => k_is)
    (case c34 => k_is)
    (case k34 => k_is)
    (case a35 => k_is)
    (case l35 => k_is)
    (case c35 => k_is)
    (case k35 => k_is)
    (case a36 => k_is)
    (case l36 => k_is)
    (case c36 => k_is)
    (case k36 => k_is)
    (case a37 => k_is)
    (case l37 => k_is)
    (case c37 => k_is)
    (case k37 => k_is)
    (case a38 => k_is)
    (case l38 => k_is)
    (case c38 => k_is)
    (case k38 => k_is)
    (case a39 => k_is)
    (case i39 => k_is)
    (case l39 => k_is)
    (case c39 => k_is)
    (case k39 => k_is)
    (case a40 => k_is)
    (case i40 => k_is)
    (case l40 => k_is)
    (case c40 => k_is)
    (case k40 => k_is)
    (case a41 => k_is)
    (case i41 => k_is)
    (case l41 => k_is)
    (case c41 => k_is)
    (case k41 => k_is)
    (case a42 => k_is)
    (case i42 => k_is)
    (case l42 => k_is)
    (case c42 => k_is)
    (case k42 => k_is)
    (case a43 => k_is)
    (case i43 => k_is)
    (case l43 => k_is)
    (case c43 => k_is)
    (case k43 => k_is)
    (case a44 => k_is)
    (case i44 => k_is)
    (case l44 => k_is)
    (case c44 => k_is)
    (case k44 => k_is)
    (case a45 => k_is)
    (case i45 => k_is)
    (case l45 => k_is)
    (case c45 => k_is)
    (case k45 => k_is)
    (case a46 => k_is)
    (case i46 => k_is)
    (case l46 => k_is)
    (case c46 => k_is)
    (case k46 => k_is)
    (case a47 => k_is)
    (case i47 => k_is)
    (case l47 => k_is)
    (case c47 => k_is)
    (case k47 => k_is)
    (case a48 => k_is)
    (case i48 => k_is)
    (case l48 => k_is)
    (case c48 => k_is)
    (case k48 => k_is)
    (case a49 => k_is)
    (case i49 => k_is)
    (case l49 => k_is)
    (case c49 => k_is)
    (case k49 => k_is)
    (case a50 => k_is)
    (case i50 => k_is)
    (case l50 => k_is)
    (case c50 => k_is)
    (case k50 => k_is)
    (case a51 => k_is)
    (case i51 => k_is)
    (case l51 => k_is)
    (case c51 => k_is)
    (case k51 => k_is)
    (case a52 => k_is)
    (case i52 => k_is)
    (case l52 => k_is)
    (case c52 => k_is)
    (case k52 => k_is)
    (case a53 => k_is)
    (case i53 => k_is)
    (case l53 => k_is)
    (case c53 => k_is)
    (case k53 => k_is)
    (case a54 => k_is)
    (case i54 => k_is)
    (case l54 => k_is)
    (case c54 => k_is)
    (case k54 => k_is)
    (case a55 => k_is)
    (case i55 => k_is)
    (case l55 => k_is)
    (case c55 => k_is)
    (case k55 => k_is)
    (case a56 => k_is)
    (case i56 => k_is)
    (case l56 => k_is)
    (case c56 => k_is)
    (case k56 => k_is)
    (case a57 => k_is)
    (case i57 => k_is)
    (case l57 => k_is)
    (case c57 => k_is)
    (case k57 => k_is)
    (case a58 => k_is)
    (case i58 => k_is)
    (case l58 => k_is)
    (case c58 => k_is)
    (case k58 => k_is)
    (case a59 => k_is)
    (case i59 => k_is)
    (case l59 => k_is)
    (case c59 => k_is)
    (case k59 => k_is)
    (case a60 => k_is)
    (case i60 => k_is)
    (case l60 => k_is)
    (case c60 => k_is)
    (case k60 => k_is)
    (case a61 => k_is)
    (case i61 => k_is)
    (case l61 => k_is)
    (case c61 => k_is)
    (case k61 => k_is)
    (case a62 => k_is)
    (case i62 => k_is)
    (case l62 => k_is)
    (case c62 => k_is)
    (case k62 => k_is)
    (case a63 => k_is)
    (case i63 => k_is)
    (case l63 => k_is)
    (case c63 => k_is)
    (case k63 => k_is)
    (case a64 => k_is)
    (case i64 => k_is)
    (case l64 => k_is)
    (case c64 => k_is)
    (case k64 => k_is)
    (case a65 => k_is)
    (case i65 => k_is)
    (case l65 => k_is)
    (case c65 => k_is)
    (case k65 => k_is)
    (case a66 => k_is)
    (case i66 => k_is)
    (case l66 => k_is)
    (case c66 => k_is)
    (case k66 => k_is)
    (case a67 => k_is)
    (case i67 => k_is)
    (case l67 => k_is)
    (case c67 => k_is)
    (case k67 => k_is)
    (case a68 => k_is)
    (case i68 => k_is)
    (case l68 => k_is)
    (case c68 => k_is)
    (case k68 => k_is)
    (case a69 => k_is)
    (case i69 => k_is)
    (case l69 => k_is)
    (case c69 => k_is)
    (case k69 => k_is)
    (case a70 => k_is)
    (case i70 => k_is)
    (case l70 => k_is)
    (case c70 => k_is)
    (case k70 => k_is)
    (case z0 => k_is)
    (case z1 => k_is)
    (case z2 => k_is)
    (case z3 => k_is)
    (case z4 => k_is)
    (case z5 => k_is)
    (case z6 => k_is)
    (case z7 => k_is)
    (case z8 => k_is)
