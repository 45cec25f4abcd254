import PyProof.Rows.All
import Wide.All
import OpenK.AllK
import Wide.FinOn
import PyProof.EqAt
import PyProof.EqKinds
import PyProof.TupleCall
import HandS.ForMost
import HandS.IsInst
import HandS.StrMore
import HandS.Codes
import HandS.Style
import HandS.Exc
import HandS.ExcOwn
import HandS.TryOnly
import HandS.ExcIs
import HandS.WordsExc
import HandS.ExcInit
import HandS.ExcField
import HandS.WrittenGet
import HandS.Conv
import HandS.DictTup
import HandS.TupLen
import HandS.Finally
import HandS.CallLocal
import HandS.CallSlots
import PyProof.DictMoreH
import PySem.Challenge.RW_samenames_k21_kept_values_are_fresh
set_option Elab.async false
set_option linter.all false
set_option maxRecDepth 100000
set_option maxHeartbeats 4000000
/-! My own words over the hand layer: calls by name, heaps but for one place, texts, data. -/
namespace Sn
open PySem PySem.Spec PyProof.Rows L2

/-- a def that may be called by its name -/
structure Cal (P : Program) (w : World) (K : PySem.W.Frag) (mg : Str → Option Value) (base : Heap) (CX : CXT) (k : Nat) (x : Str) (sp : Sp) : Prop where
  ex : ∃ (f : Addr) (fd : FuncData) (ps : List Str), FnOk P w K mg base CX k f fd ps sp ∧ mg x = some (.ref f) ∧ PySem.W.keepIn K (.ref f) = true ∧ Binds K fd ps []
section
variable {X : Cx} {k j : Nat} {x : Str} {sp : Sp} {p pos : Pos} {e : Expr} {es : List Expr} {t : TA} {CX : CXT} {E : XK}
theorem pe_c (c : Cal X.prog X.w X.K X.mg X.base CX k x sp) (hr : Room j X.A) (hk : k ≤ j) (hx : Passes CX X E) (ha : PA X (e :: es) t) (hg : Gl X x := by rfl)
    (hdb : (x == ("__debug__" : Str)) = false := by decide) (he : starEach (e :: es) X.env = (false, eval e X.env) :: starEach es X.env := by rfl) (hpl : (backTo pos (starEach es X.env)).any (·.1) = false := by rfl) :
    PE X (.Call (.Name x p) (e :: es) [] pos) (tCall sp [] E t) := by
  obtain ⟨f, fd, ps, F, hm, kp, b⟩ := c.ex
  exact pe_call F (hr.mono hk) hg hm kp b .nil hx ha hdb he hpl
end

/-! ### displays of many written texts -/
def strOf : Expr → Option Str
  | .Constant (.str x) _ _ => some x
  | _ => none
def strsOf : List Expr → Option (List Str)
  | [] => some []
  | e :: r => match strOf e, strsOf r with
    | some x, some l => some (x :: l)
    | _, _ => none
theorem starEach_strs {env : Env} : ∀ {es : List Expr} {l : List Str}, strsOf es = some l → ∀ {e : Expr} {x : Str}, strOf e = some x → starEach (e :: es) env = (false, eval e env) :: starEach es env := by
  intro es l h e x hx
  unfold strOf at hx
  split at hx
  · rfl
  · cases hx
theorem pa_strsL {X : Cx} : ∀ (es : List Expr) (l : List Str), strsOf es = some l → PA X es (fun _ H Q => Q (l.map V.str) H)
  | [], l, h => by
    have e : l = [] := (Option.some.inj h).symm
    subst e
    exact pa_nil
  | e :: r, l, h => by
    unfold strsOf at h
    split at h
    · rename_i x m hx hm
      have el : l = x :: m := (Option.some.inj h).symm
      subst el
      have q := pa_strsL (X := X) r m hm
      have hs := starEach_strs (env := X.env) hm hx
      unfold strOf at hx
      split at hx
      · rename_i x' j pos
        have ex : x' = x := Option.some.inj hx
        subst ex
        exact pa_cons (te := tC (.str x')) (t := fun _ H Q => Q (m.map V.str) H) pe_str q hs
      · cases hx
    · cases h
theorem pa_strs {X : Cx} {es : List Expr} (l : List Str) (h : strsOf es = some l := by rfl) : PA X es (fun _ H Q => Q (l.map V.str) H) := pa_strsL es l h

/-! ### heaps -/
/-- all that was tracked but the object at t is as it was -/
def But (t : Addr) (H H' : Hp) : Prop := ∀ b o, b ≠ t → H b = some o → H' b = some o
theorem But.refl (t : Addr) (H : Hp) : But t H H := fun _ _ _ h => h
theorem But.trans {t : Addr} {H H1 H2 : Hp} (a : But t H H1) (b : But t H1 H2) : But t H H2 := fun c o n h => b c o n (a c o n h)
theorem But.of {t : Addr} {H H' : Hp} (s : Same H H') : But t H H' := fun b o _ h => s b o h
theorem same_new {H : Hp} {p : Addr} {o : HO} (h : H p = none) : Same H (upd H p o) := fun b u q => by
  rw [upd_ne (ne_of_none q h)]
  exact q
theorem But.upd {t : Addr} {H H1 : Hp} {o : HO} (b : But t H H1) : But t H (upd H1 t o) := fun c u n h => by
  rw [upd_ne n]
  exact b c u n h

/-! ### the tape -/
def tk (c : Addr) (a l se sa : Int) : List (Key × V) := [(.inr "cells", .ref c), (.inr "at", .int a), (.inr "left", .int l), (.inr "seed", .int se), (.inr "salt", .int sa)]
structure TkAt (H : Hp) (t c : Addr) (cs : List Int) (a l se sa : Int) : Prop where
  d : H t = some (.dK (tk c a l se sa))
  cl : H c = some (.lst (cs.map V.int))
  cp : ∀ x ∈ cs, 0 ≤ x
  a0 : 0 ≤ a
  l0 : 0 ≤ l
  s0 : 0 ≤ se
  s1 : se < 2147483647
/-- a tape stands at t -/
def Tp (H : Hp) (t c : Addr) : Prop := ∃ cs a l se sa, TkAt H t c cs a l se sa
theorem TkAt.ne {H : Hp} {t c : Addr} {cs : List Int} {a l se sa : Int} (z : TkAt H t c cs a l se sa) : c ≠ t := ne_of z.cl z.d (by intro q; cases q)
theorem Tp.same {H H' : Hp} {t c : Addr} (s : Same H H') : Tp H t c → Tp H' t c := fun ⟨cs, a, l, se, sa, z⟩ => ⟨cs, a, l, se, sa, s _ _ z.d, s _ _ z.cl, z.cp, z.a0, z.l0, z.s0, z.s1⟩
theorem Tp.ne {H : Hp} {t c b : Addr} (z : Tp H t c) {o : HO} (h : H b = some o) (hn : ∀ kvs, o ≠ .dK kvs) : b ≠ t := by
  obtain ⟨cs, a, l, se, sa, z⟩ := z
  exact ne_of h z.d (hn _)
theorem Tp.nt {H : Hp} {t c b : Addr} (z : Tp H t c) (h : H b = none) : t ≠ b := by
  obtain ⟨cs, a, l, se, sa, z⟩ := z
  exact ne_of_none z.d h
theorem Tp.nc {H : Hp} {t c b : Addr} (z : Tp H t c) (h : H b = none) : c ≠ b := by
  obtain ⟨cs, a, l, se, sa, z⟩ := z
  exact ne_of_none z.cl h
theorem Tp.upd {H : Hp} {t c b : Addr} {o : HO} (z : Tp H t c) (h1 : t ≠ b) (h2 : c ≠ b) : Tp (upd H b o) t c := by
  obtain ⟨cs, a, l, se, sa, z⟩ := z
  exact ⟨cs, a, l, se, sa, by rw [upd_ne h1]; exact z.d, by rw [upd_ne h2]; exact z.cl, z.cp, z.a0, z.l0, z.s0, z.s1⟩
theorem Tp.new {H : Hp} {t c b : Addr} {o : HO} (z : Tp H t c) (h : H b = none) : Tp (L2.upd H b o) t c := z.upd (z.nt h) (z.nc h)
section
variable {c : Addr} {a l se sa v : Int}
theorem g_cells : valV (tk c a l se sa) (.inr "cells") = some (.ref c) := by kernel_rfl
theorem g_at : valV (tk c a l se sa) (.inr "at") = some (.int a) := by kernel_rfl
theorem g_left : valV (tk c a l se sa) (.inr "left") = some (.int l) := by kernel_rfl
theorem g_seed : valV (tk c a l se sa) (.inr "seed") = some (.int se) := by kernel_rfl
theorem g_salt : valV (tk c a l se sa) (.inr "salt") = some (.int sa) := by kernel_rfl
theorem p_at : putK (tk c a l se sa) (.inr "at") (.int v) = tk c v l se sa := by kernel_rfl
theorem p_left : putK (tk c a l se sa) (.inr "left") (.int v) = tk c a v se sa := by kernel_rfl
theorem p_salt : putK (tk c a l se sa) (.inr "salt") (.int v) = tk c a l se v := by kernel_rfl
theorem tk_len : (tk c a l se sa).length < sizeLine := by
  show 5 < sizeLine
  decide
end
section
variable {H : Hp} {t c : Addr} {cs : List Int} {a l se sa v : Int}
theorem TkAt.dg (z : TkAt H t c cs a l se sa) {k : Key} {x : V} (h : valV (tk c a l se sa) k = some x) : DGet H t (kV k) (some x) := h ▸ DGet.k z.d
theorem TkAt.sAt (z : TkAt H t c cs a l se sa) (hv : 0 ≤ v) : TkAt (upd H t (.dK (tk c v l se sa))) t c cs v l se sa :=
  ⟨upd_same, by rw [upd_ne z.ne]; exact z.cl, z.cp, hv, z.l0, z.s0, z.s1⟩
theorem TkAt.sLeft (z : TkAt H t c cs a l se sa) (hv : 0 ≤ v) : TkAt (upd H t (.dK (tk c a v se sa))) t c cs a v se sa :=
  ⟨upd_same, by rw [upd_ne z.ne]; exact z.cl, z.cp, z.a0, hv, z.s0, z.s1⟩
theorem TkAt.sSalt (z : TkAt H t c cs a l se sa) : TkAt (upd H t (.dK (tk c a l se v))) t c cs a l se v :=
  ⟨upd_same, by rw [upd_ne z.ne]; exact z.cl, z.cp, z.a0, z.l0, z.s0, z.s1⟩
theorem TkAt.pAt (z : TkAt H t c cs a l se sa) : DPut H t (.str "at") (.int v) (upd H t (.dK (tk c v l se sa))) := p_at (c := c) (a := a) (l := l) (se := se) (sa := sa) (v := v) ▸ DPut.k (k := .inr "at") z.d tk_len
theorem TkAt.pLeft (z : TkAt H t c cs a l se sa) : DPut H t (.str "left") (.int v) (upd H t (.dK (tk c a v se sa))) := p_left (c := c) (a := a) (l := l) (se := se) (sa := sa) (v := v) ▸ DPut.k (k := .inr "left") z.d tk_len
theorem TkAt.pSalt (z : TkAt H t c cs a l se sa) : DPut H t (.str "salt") (.int v) (upd H t (.dK (tk c a l se v))) := p_salt (c := c) (a := a) (l := l) (se := se) (sa := sa) (v := v) ▸ DPut.k (k := .inr "salt") z.d tk_len
end

/-! ### texts -/
/-- a sign that may stand in a text -/
def okc (c : Nat) : Bool := c == 10 || (decide (32 ≤ c) && decide (c ≤ 126) && c != 37)
def OkT (z : Str) : Prop := ∀ c ∈ z.cps.toList, okc c = true
def okT (z : Str) : Bool := z.cps.toList.all okc
theorem OkT.of {z : Str} (h : okT z = true) : OkT z := List.all_eq_true.mp h
theorem OkT.append {x y : Str} (a : OkT x) (b : OkT y) : OkT (x ++ y) := fun c h => by
  rw [show (x ++ y).cps.toList = x.cps.toList ++ y.cps.toList from TL.tl_append x y] at h
  rcases List.mem_append.mp h with h | h
  · exact a c h
  · exact b c h
theorem joinL_nil : ∀ l : List (List Nat), TL.joinL [] l = l.flatten
  | [] => rfl
  | [p] => by simp [TL.joinL]
  | p :: q :: r => by
    show p ++ ([] ++ TL.joinL [] (q :: r)) = _
    rw [joinL_nil (q :: r), List.nil_append] <;> rfl
theorem tl_join0 (y : Str) (hy : TL.tl y = []) (l : List Str) : TL.tl (Txt.join y l) = (l.map TL.tl).flatten := by
  rw [TL.join_eq, TL.tl_join, hy, joinL_nil]
theorem OkT.join {y : Str} (hy : TL.tl y = []) {l : List Str} (h : ∀ z ∈ l, OkT z) : OkT (Txt.join y l) := fun c hc => by
  rw [show (Txt.join y l).cps.toList = (l.map TL.tl).flatten from tl_join0 y hy l] at hc
  obtain ⟨m, hm, hc⟩ := List.mem_flatten.mp hc
  obtain ⟨z, hz, rfl⟩ := List.mem_map.mp hm
  exact h z hz c hc
theorem sum_len_le {n : Nat} : ∀ {l : List Str}, (∀ z ∈ l, z.length ≤ n) → (l.map (·.length)).sum ≤ n * l.length
  | [], _ => by simp
  | z :: r, h => by
    have ih := sum_len_le (l := r) fun y hy => h y (List.mem_cons_of_mem _ hy)
    have h0 := h z List.mem_cons_self
    rw [List.map_cons, List.sum_cons, List.length_cons, Nat.mul_add]
    omega
theorem flat_len : ∀ l : List Str, ((l.map TL.tl).flatten).length = (l.map (·.length)).sum
  | [] => rfl
  | z :: r => by
    rw [List.map_cons, List.flatten_cons, List.length_append, flat_len r, List.map_cons, List.sum_cons, TL.len_tl z]
theorem join_len (y : Str) (hy : TL.tl y = []) (l : List Str) : (Txt.join y l).length = (l.map (·.length)).sum := by
  rw [TL.len_tl, tl_join0 y hy, flat_len]
theorem small {n : Nat} (h : n ≤ 1000000) : n ≤ sizeLine := Nat.le_trans h (by decide)

/-! ### data that are equal -/
def sca : V → Bool
  | .non => true
  | .bl _ => true
  | .int _ => true
  | .str _ => true
  | _ => false
def Al (H : Hp) : Nat → V → V → Prop
  | 0, _, _ => False
  | n + 1, x, y => (x = y ∧ sca x = true) ∨
    (∃ a b xs ys, x = .ref a ∧ y = .ref b ∧ H a = some (.tup xs) ∧ H b = some (.tup ys) ∧ xs.length = ys.length ∧ xs.length ≤ 1000000 ∧ ∀ (i : Nat) (u v : V), xs[i]? = some u → ys[i]? = some v → Al H n u v) ∨
    (∃ a b xs ys, x = .ref a ∧ y = .ref b ∧ H a = some (.lst xs) ∧ H b = some (.lst ys) ∧ xs.length = ys.length ∧ xs.length ≤ 1000000 ∧ ∀ (i : Nat) (u v : V), xs[i]? = some u → ys[i]? = some v → Al H n u v)
theorem Al.sc {H : Hp} {n : Nat} {x : V} (h : sca x = true) : Al H (n + 1) x x := .inl ⟨rfl, h⟩
theorem Al.same {H H' : Hp} (s : Same H H') : ∀ {n : Nat} {x y : V}, Al H n x y → Al H' n x y
  | 0, _, _, h => h
  | n + 1, x, y, h => by
    rcases h with h | ⟨a, b, xs, ys, e1, e2, h1, h2, hl, hm, h⟩ | ⟨a, b, xs, ys, e1, e2, h1, h2, hl, hm, h⟩
    · exact .inl h
    · exact .inr (.inl ⟨a, b, xs, ys, e1, e2, s _ _ h1, s _ _ h2, hl, hm, fun i u v p q => Al.same s (h i u v p q)⟩)
    · exact .inr (.inr ⟨a, b, xs, ys, e1, e2, s _ _ h1, s _ _ h2, hl, hm, fun i u v p q => Al.same s (h i u v p q)⟩)
theorem Al.tup {H : Hp} {n : Nat} {a b : Addr} {xs ys : List V} (h1 : H a = some (.tup xs)) (h2 : H b = some (.tup ys)) (hl : xs.length = ys.length) (hm : xs.length ≤ 1000000) (h : ∀ (i : Nat) (u v : V), xs[i]? = some u → ys[i]? = some v → Al H n u v) : Al H (n + 1) (.ref a) (.ref b) :=
  .inr (.inl ⟨a, b, xs, ys, rfl, rfl, h1, h2, hl, hm, h⟩)
theorem Al.lst {H : Hp} {n : Nat} {a b : Addr} {xs ys : List V} (h1 : H a = some (.lst xs)) (h2 : H b = some (.lst ys)) (hl : xs.length = ys.length) (hm : xs.length ≤ 1000000) (h : ∀ (i : Nat) (u v : V), xs[i]? = some u → ys[i]? = some v → Al H n u v) : Al H (n + 1) (.ref a) (.ref b) :=
  .inr (.inr ⟨a, b, xs, ys, rfl, rfl, h1, h2, hl, hm, h⟩)
/-- two tuples (lists) of the same plain values -/
theorem al_eq {H : Hp} {n : Nat} {xs : List V} (h : xs.all sca = true) : ∀ (i : Nat) (u v : V), xs[i]? = some u → xs[i]? = some v → Al H (n + 1) u v := fun i u v p q => by
  have e : u = v := Option.some.inj (p.symm.trans q)
  subst e
  exact Al.sc (List.all_eq_true.mp h u (List.mem_of_getElem? p))

/-! ### tests -/
theorem iteP {p A B : Prop} [Decidable p] (hp : p) (h : A) : if decide p = true then A else B := by
  rw [if_pos (decide_eq_true hp)]
  exact h
theorem iteN {p A B : Prop} [Decidable p] (hp : ¬ p) (h : B) : if decide p = true then A else B := by
  rw [if_neg (by rw [decide_eq_false hp]; exact Bool.false_ne_true)]
  exact h
theorem iteNN {p A B : Prop} [Decidable p] (hp : ¬ p) (h : A) : if (!decide p) = true then A else B := by
  rw [decide_eq_false hp]
  exact iteT h
theorem qP {p : Prop} [Decidable p] {Q : VK} {H : Hp} (hp : p) (h : Q (.bl true) H) : Q (.bl (decide p)) H := by
  rw [decide_eq_true hp]
  exact h
theorem none_left {P : Program} {w : World} {K : PySem.W.Frag} {mg : Str → Option Value} {base : Heap} {f : Addr} {fd : FuncData} {ps : List Str} {sp : Sp} (no : ∀ vs H Q E, ¬ sp vs H Q E) : FnOk P w K mg base CX0 0 f fd ps sp :=
  ⟨fun vs H Q E h => absurd h (no vs H Q E), fun A outer s H args us vs Q E _ _ _ _ h => absurd h (no vs H Q E)⟩

/-! ### promises of the law's own helpers -/
def spTape (K : PySem.W.Frag) : Sp := fun vs H Q _ => ∃ (a : Addr) (ns : List Int), vs = [.ref a] ∧ SqL K H a (ns.map V.int) ∧ ns.length ≤ 63 ∧ ∀ t c H', Same H H' → H t = none → H c = none → Tp H' t c → Q (.ref t) H'
def spTake : Sp := fun vs H Q _ => ∃ (t c : Addr) (n : Int), vs = [.ref t, .int n] ∧ Tp H t c ∧ 0 < n ∧ n < 1073741824 ∧ ∀ (r : Int) H', 0 ≤ r → r < n → But t H H' → Tp H' t c → Q (.int r) H'
def spIsInt : Sp := fun vs H Q _ => ∃ i : Int, vs = [.int i] ∧ Q (.bl true) H
def spSame (n : Nat) : Sp := fun vs H Q _ => ∃ x y, vs = [x, y] ∧ Al H n x y ∧ Q (.bl true) H
def spItems (n : Nat) : Sp := fun vs H Q _ => ∃ a b xs ys, vs = [.ref a, .ref b] ∧ ((H a = some (.tup xs) ∧ H b = some (.tup ys)) ∨ (H a = some (.lst xs) ∧ H b = some (.lst ys))) ∧ xs.length = ys.length ∧ xs.length ≤ 1000000 ∧
  (∀ (i : Nat) (u v : V), xs[i]? = some u → ys[i]? = some v → Al H n u v) ∧ Q (.bl true) H
def spSnippet : Sp := fun vs H Q _ => ∃ t c, vs = [.ref t] ∧ Tp H t c ∧ ∀ z H', OkT z → z.length ≤ 45 → But t H H' → Tp H' t c → Q (.str z) H'
def spChar : Sp := fun vs H Q _ => ∃ t c, vs = [.ref t] ∧ Tp H t c ∧ ∀ z H', OkT z → z.length = 1 → But t H H' → Tp H' t c → Q (.str z) H'
def spAny : Sp := fun vs H Q _ => ∃ (t c : Addr) (m : Nat), vs = [.ref t, .int m] ∧ Tp H t c ∧ m ≤ 100 ∧ ∀ z H', OkT z → z.length ≤ 45 * m → But t H H' → Tp H' t c → Q (.str z) H'

/-! ### a text walked sign by sign -/
theorem for_str {x : Str} {g : TG} {tb : TS} {D : Ends} {σ : L2.St} {H : Hp} (Pv : Nat → L2.St → Hp → Prop) (h0 : Pv 0 σ H)
    (hs : ∀ i c σ H, x.cps.toList[i]? = some c → Pv i σ H → g (.str ⟨#[c]⟩) σ H fun σ2 H2 => tb { D with nx := Pv (i + 1), ct := Pv (i + 1), bk := D.nx } σ2 H2) (hd : ∀ σ H, Pv x.cps.toList.length σ H → D.nx σ H) :
    ∃ W : Nat → Nat → L2.St → Hp → Prop, (∃ m, W 0 m σ H) ∧ ∀ i m σ H, W i m σ H →
      ((Its x).stop i H ∧ D.nx σ H) ∨ ((Its x).go i H ∧ ∃ Nx : L2.St → Hp → Prop, (∀ σ' H', Nx σ' H' → ∃ m', m' < m ∧ W (i + 1) m' σ' H') ∧ ∀ y H', (Its x).yld i H y H' → g y σ H' fun σ2 H2 => tb { D with nx := Nx, ct := Nx, bk := D.nx } σ2 H2) := by
  refine ⟨fun i m σ H => m = x.cps.toList.length - i ∧ i ≤ x.cps.toList.length ∧ Pv i σ H, ⟨x.cps.toList.length, by simp, Nat.zero_le _, h0⟩, ?_⟩
  rintro i m σ H ⟨rfl, hi, p⟩
  have hsz : x.cps.toList.length = x.cps.size := Array.length_toList
  by_cases hlt : i < x.cps.toList.length
  · refine .inr ⟨by show i < x.cps.size; omega, Pv (i + 1), fun σ' H' p' => ⟨x.cps.toList.length - (i + 1), by omega, rfl, hlt, p'⟩, fun y H' z => ?_⟩
    obtain ⟨e, c, hc, z⟩ := z
    subst e z
    exact hs i c σ _ (by rw [Array.getElem?_toList]; exact hc) p
  · have e : i = x.cps.toList.length := by omega
    subst e
    exact .inl ⟨by show x.cps.size ≤ _; omega, hd σ H p⟩
/-! ### a while by an invariant and a measure -/
theorem while_m {c : TT} {tb : TS} {D : Ends} {σ : L2.St} {H : Hp} (Pv : L2.St → Hp → Prop) (μ : L2.St → Hp → Nat) (h0 : Pv σ H)
    (hs : ∀ σ H, Pv σ H → c σ H fun b H1 => if b = true then ∃ N : L2.St → Hp → Prop, (∀ σ' H', N σ' H' → ∃ m', m' < μ σ H ∧ m' = μ σ' H' ∧ Pv σ' H') ∧ tb { D with nx := N, ct := N, bk := D.nx } σ H1 else D.nx σ H1) : tWhile c tb D σ H :=
  ⟨fun m σ H => m = μ σ H ∧ Pv σ H, ⟨_, rfl, h0⟩, fun m σ H h => by
    obtain ⟨rfl, p⟩ := h
    exact hs σ H p⟩
theorem wN {Pv : L2.St → Hp → Prop} {μ : L2.St → Hp → Nat} {k : Nat} {tb : TS} {D : Ends} {σ : L2.St} {H1 : Hp} (h : tb { D with nx := fun σ' H' => Pv σ' H' ∧ μ σ' H' < k, ct := fun σ' H' => Pv σ' H' ∧ μ σ' H' < k, bk := D.nx } σ H1) :
    ∃ N : L2.St → Hp → Prop, (∀ σ' H', N σ' H' → ∃ m', m' < k ∧ m' = μ σ' H' ∧ Pv σ' H') ∧ tb { D with nx := N, ct := N, bk := D.nx } σ H1 := ⟨_, fun _ _ n => ⟨_, n.2, rfl, n.1⟩, h⟩
def spLaw (K : PySem.W.Frag) : Sp := fun vs H Q _ => ∃ (a : Addr) (ns : List Int), vs = [.ref a] ∧ SqL K H a (ns.map V.int) ∧ ns.length ≤ 63 ∧ ∀ H', Q (.bl true) H'
end Sn

/-! What a keeper does, for any keys and any function: a relation of steps (Run), its path (Un), what stays (Post), one turn of the path (turnA, turnB, turnC). -/
namespace Sn
abbrev Ky := List L2.Key
structure En (α : Type) where
  v : α
  d : List Ky
  c : Nat
  g : Nat
structure KS (α : Type) where
  now : Nat
  left : Option Nat
  inp : Ky → Option (α × Nat)
  en : Ky → Option (En α)
  done : List Ky
inductive Tr (α : Type) where
  | ret : α → Tr α
  | ask : Ky → (α → Prop) → (α → Tr α) → Tr α
def ups {β : Type} (f : Ky → Option β) (k : Ky) (v : β) : Ky → Option β := fun j => if j = k then some v else f j
theorem ups_at {β : Type} {f : Ky → Option β} {k : Ky} {v : β} : ups f k v k = some v := if_pos rfl
theorem ups_ne {β : Type} {f : Ky → Option β} {j k : Ky} {v : β} (h : j ≠ k) : ups f k v j = f j := if_neg h
theorem ups_self {β : Type} {f : Ky → Option β} {k : Ky} {v : β} (h : f k = some v) : ups f k v = f := by
  funext j
  by_cases c : j = k
  · rw [c, ups_at, h]
  · exact ups_ne c
section
variable {α : Type} [DecidableEq α]
def KS.look (S : KS α) (k : Ky) (e : En α) : KS α := { S with en := ups S.en k ⟨e.v, e.d, S.now, e.g⟩ }
def KS.dec (S : KS α) : KS α := { S with left := S.left.map fun n => n - 1 }
def KS.chgOf (S : KS α) (k : Ky) (v : α) : Nat := match S.en k with
  | some e => if e.v = v then e.g else S.now
  | none => S.now
def KS.keep (S : KS α) (k : Ky) (v : α) (as : List Ky) : KS α := { S with en := ups S.en k ⟨v, as, S.now, S.chgOf k v⟩, done := S.done ++ [k] }
def KS.chg (S : KS α) (k : Ky) : Option Nat := match S.inp k with
  | some x => some x.2
  | none => (S.en k).map En.g
def KS.val (S : KS α) (k : Ky) : Option α := match S.inp k with
  | some x => some x.1
  | none => (S.en k).map En.v
def addK (as : List Ky) (k : Ky) : List Ky := if as.any (fun x => decide (x = k)) = true then as else as ++ [k]
inductive Jg (α : Type) where
  | br : KS α → Ky → Jg α
  | rs : KS α → Ky → Nat → Jg α
  | lk : KS α → Ky → En α → List Ky → Jg α
  | rn : KS α → Ky → Jg α
  | ev : KS α → Tr α → List Ky → Jg α
inductive Ot (α : Type) where
  | ok : KS α → Ot α
  | no : KS α → Ot α
  | val : KS α → α → List Ky → Ot α
/-- live keys, how deep computations may still go, the size of it all -/
inductive Run (G : Ky → Prop) (comp : Ky → Tr α) : List Ky → Nat → Nat → Jg α → Ot α → Prop
  | b_in {L n S k x} : S.inp k = some x → Run G comp L (n + 1) 0 (.br S k) (.ok S)
  | b_now {L n S k e} : S.inp k = none → S.en k = some e → e.c = S.now → G k → Run G comp L (n + 1) 0 (.br S k) (.ok S)
  | b_rs {L n z S k o} : S.inp k = none → (∀ e, S.en k = some e → e.c ≠ S.now) → k ∉ L → G k → Run G comp (k :: L) (n + 1) z (.rs S k 0) o → Run G comp L (n + 1) (z + 2) (.br S k) o
  | r_now {L n S k i e} : S.en k = some e → e.c = S.now → Run G comp L n 0 (.rs S k i) (.ok S)
  | r_none {L n z S k i o} : S.en k = none → Run G comp L n z (.rn S k) o → Run G comp L n (z + 1) (.rs S k i) o
  | r_old {L n z S k i e o} : S.en k = some e → e.c ≠ S.now → Run G comp L n z (.lk S k e (e.d.drop i)) o → Run G comp L n (z + 1) (.rs S k i) o
  | l_nil {L n S k e} : Run G comp L n 0 (.lk S k e []) (.ok (S.look k e))
  | l_no {L n z S k e d ds S1} : Run G comp L n z (.br S d) (.no S1) → Run G comp L n (z + 1) (.lk S k e (d :: ds)) (.no S1)
  | l_chg {L n z1 z2 S k e d ds S1 g o} : Run G comp L n z1 (.br S d) (.ok S1) → S1.chg d = some g → e.c < g → Run G comp L n z2 (.rn S1 k) o → Run G comp L n (z1 + z2 + 1) (.lk S k e (d :: ds)) o
  | l_go {L n z1 z2 S k e d ds S1 g o} : Run G comp L n z1 (.br S d) (.ok S1) → S1.chg d = some g → g ≤ e.c → Run G comp L n z2 (.lk S1 k e ds) o → Run G comp L n (z1 + z2 + 1) (.lk S k e (d :: ds)) o
  | n_no {L n S k} : S.left = some 0 → Run G comp L n 1 (.rn S k) (.no S)
  | n_ok {L n z S k S1 v as} : S.left ≠ some 0 → G k → Run G comp L n z (.ev S.dec (comp k) []) (.val S1 v as) → Run G comp L (n + 1) (z + 3) (.rn S k) (.ok (S1.keep k v as))
  | n_fail {L n z S k S1} : S.left ≠ some 0 → G k → Run G comp L n z (.ev S.dec (comp k) []) (.no S1) → Run G comp L (n + 1) (z + 3) (.rn S k) (.no S1)
  | e_ret {L n S v as} : Run G comp L n 0 (.ev S (.ret v) as) (.val S v as)
  | e_ask {L n z1 z2 S d p f as S1 v o} : Run G comp L n z1 (.br S d) (.ok S1) → S1.val d = some v → p v → Run G comp L n z2 (.ev S1 (f v) (addK as d)) o → Run G comp L n (z1 + z2 + 2) (.ev S (.ask d p f) as) o
  | e_no {L n z S d p f as S1} : Run G comp L n z (.br S d) (.no S1) → Run G comp L n (z + 2) (.ev S (.ask d p f) as) (.no S1)
def Ot.st : Ot α → KS α
  | .ok S => S
  | .no S => S
  | .val S _ _ => S
/-- what stays -/
structure Lat (P : Ky → Prop) (S S' : KS α) : Prop where
  now : S'.now = S.now
  inp : S'.inp = S.inp
  en : ∀ x, P x → S'.en x = S.en x
  mono : ∀ x e, S.en x = some e → e.c = S.now → S'.en x = some e
theorem Lat.refl {P : Ky → Prop} {S : KS α} : Lat P S S := ⟨rfl, rfl, fun _ _ => rfl, fun _ _ h _ => h⟩
theorem Lat.trans {P : Ky → Prop} {S S1 S2 : KS α} (a : Lat P S S1) (b : Lat P S1 S2) : Lat P S S2 :=
  ⟨b.now.trans a.now, b.inp.trans a.inp, fun x h => (b.en x h).trans (a.en x h), fun x e h c => b.mono x e (a.mono x e h c) (c.trans a.now.symm)⟩
theorem Lat.imp {P P' : Ky → Prop} {S S1 : KS α} (a : Lat P S S1) (h : ∀ x, P' x → P x) : Lat P' S S1 := ⟨a.now, a.inp, fun x z => a.en x (h x z), a.mono⟩
def Rdy (S : KS α) (k : Ky) : Prop := (∃ x, S.inp k = some x) ∨ S.inp k = none ∧ ∃ e, S.en k = some e ∧ e.c = S.now
def Unc (S : KS α) (k : Ky) : Prop := ∀ e, S.en k = some e → e.c ≠ S.now
def Post (L : List Ky) : Jg α → Ot α → Prop
  | .br S k, o => Lat (· ∈ L) S o.st ∧ (∀ S', o = .ok S' → Rdy S' k) ∧ (∀ S' v as, o ≠ .val S' v as)
  | .ev S _ _, o => Lat (· ∈ L) S o.st ∧ ∀ S', o ≠ .ok S'
  | .rs S k _, o => k ∈ L → Unc S k → Lat (fun x => x ∈ L ∧ x ≠ k) S o.st ∧ (∀ S', o = .ok S' → ∃ e, S'.en k = some e ∧ e.c = S'.now) ∧ (∀ S' v as, o ≠ .val S' v as)
  | .lk S k e _, o => k ∈ L → Unc S k → Lat (fun x => x ∈ L ∧ x ≠ k) S o.st ∧ (∀ S', o = .ok S' → ∃ e, S'.en k = some e ∧ e.c = S'.now) ∧ (∀ S' v as, o ≠ .val S' v as)
  | .rn S k, o => k ∈ L → Unc S k → Lat (fun x => x ∈ L ∧ x ≠ k) S o.st ∧ (∀ S', o = .ok S' → ∃ e, S'.en k = some e ∧ e.c = S'.now) ∧ (∀ S' v as, o ≠ .val S' v as)
variable {G : Ky → Prop} {comp : Ky → Tr α}
theorem Unc.lat {P : Ky → Prop} {S S1 : KS α} {k : Ky} (u : Unc S k) (l : Lat P S S1) (h : P k) : Unc S1 k := fun e he => by
  rw [l.en k h] at he
  rw [l.now]
  exact u e he
theorem Lat.look {P : Ky → Prop} {S : KS α} {k : Ky} {e : En α} (u : Unc S k) (h : ¬ P k) : Lat P S (S.look k e) :=
  ⟨rfl, rfl, fun x hx => ups_ne fun z => h (z ▸ hx), fun x e' he hc => (ups_ne fun z => by subst z; exact u e' he hc).trans he⟩
theorem Lat.keep {P : Ky → Prop} {S : KS α} {k : Ky} {v : α} {as : List Ky} (u : Unc S k) (h : ¬ P k) : Lat P S (S.keep k v as) :=
  ⟨rfl, rfl, fun x hx => ups_ne fun z => h (z ▸ hx), fun x e' he hc => (ups_ne fun z => by subst z; exact u e' he hc).trans he⟩
theorem Run.post {L : List Ky} {n z : Nat} {J : Jg α} {o : Ot α} (h : Run G comp L n z J o) : Post L J o := by
  induction h with
  | b_in a => exact ⟨Lat.refl, fun S' e => by injection e with e; exact .inl ⟨_, e ▸ a⟩, fun _ _ _ e => nomatch e⟩
  | b_now a b c _ => exact ⟨Lat.refl, fun S' e => by injection e with e; subst e; exact .inr ⟨a, _, b, c⟩, fun _ _ _ e => nomatch e⟩
  | @b_rs L n z S k o a b c g r ih =>
    obtain ⟨l, q, nv⟩ := ih List.mem_cons_self b
    refine ⟨l.imp fun x hx => ⟨List.mem_cons_of_mem _ hx, fun z => c (z ▸ hx)⟩, fun S' e => .inr ⟨?_, q S' e⟩, nv⟩
    subst e
    have := l.inp
    rw [show S'.inp = S.inp from this]
    exact a
  | r_now a b => exact fun hk u => absurd b (u _ a)
  | r_none a r ih => exact fun hk u => ih hk u
  | r_old a b r ih => exact fun hk u => ih hk u
  | l_nil => exact fun hk u => ⟨Lat.look u fun z => z.2 rfl, fun S' e => by injection e with e; subst e; exact ⟨_, ups_at, rfl⟩, fun _ _ _ e => nomatch e⟩
  | l_no r ih => exact fun hk u => ⟨ih.1.imp fun x z => z.1, fun S' e => (nomatch e), fun _ _ _ e => nomatch e⟩
  | l_chg r a b r2 ih ih2 =>
    intro hk u
    have l1 := ih.1
    obtain ⟨l2, q, nv⟩ := ih2 hk (u.lat l1 hk)
    exact ⟨(l1.imp fun x z => z.1).trans l2, q, nv⟩
  | l_go r a b r2 ih ih2 =>
    intro hk u
    have l1 := ih.1
    obtain ⟨l2, q, nv⟩ := ih2 hk (u.lat l1 hk)
    exact ⟨(l1.imp fun x z => z.1).trans l2, q, nv⟩
  | n_no a => exact fun hk u => ⟨Lat.refl, fun S' e => (nomatch e), fun _ _ _ e => nomatch e⟩
  | @n_ok L n z S k S1 v as a g r ih =>
    intro hk u
    have l1 : Lat (· ∈ L) S S1 := ⟨ih.1.now, ih.1.inp, ih.1.en, ih.1.mono⟩
    have u1 := u.lat l1 hk
    exact ⟨(l1.imp fun x z => z.1).trans (Lat.keep u1 fun z => z.2 rfl), fun S' e => by injection e with e; subst e; exact ⟨_, ups_at, rfl⟩, fun _ _ _ e => nomatch e⟩
  | @n_fail L n z S k S1 a g r ih =>
    intro hk u
    have l1 : Lat (· ∈ L) S S1 := ⟨ih.1.now, ih.1.inp, ih.1.en, ih.1.mono⟩
    exact ⟨l1.imp fun x z => z.1, fun S' e => (nomatch e), fun _ _ _ e => nomatch e⟩
  | e_ret => exact ⟨Lat.refl, fun _ e => nomatch e⟩
  | e_ask r a _ r2 ih ih2 => exact ⟨ih.1.trans ih2.1, ih2.2⟩
  | e_no r ih => exact ⟨ih.1, fun _ e => nomatch e⟩
theorem Run.ask_inv {L : List Ky} {n z : Nat} {S : KS α} {d : Ky} {p : α → Prop} {f : α → Tr α} {as : List Ky} {out : Ot α} (h : Run G comp L n z (.ev S (.ask d p f) as) out) :
    ∃ z1 o1, z1 + 2 ≤ z ∧ Run G comp L n z1 (.br S d) o1 ∧ ((∃ S1 v z2, o1 = .ok S1 ∧ S1.val d = some v ∧ p v ∧ z1 + z2 + 2 ≤ z ∧ Run G comp L n z2 (.ev S1 (f v) (addK as d)) out) ∨ ∃ S1, o1 = .no S1 ∧ out = .no S1) := by
  cases h with
  | e_ask a b c e => exact ⟨_, _, by omega, a, .inl ⟨_, _, _, rfl, b, c, Nat.le_refl _, e⟩⟩
  | e_no a => exact ⟨_, _, Nat.le_refl _, a, .inr ⟨_, rfl, rfl⟩⟩
theorem Run.ret_inv {L : List Ky} {n z : Nat} {S : KS α} {v : α} {as : List Ky} {out : Ot α} (h : Run G comp L n z (.ev S (.ret v) as) out) : out = .val S v as := by
  cases h
  rfl
/-! ### one look at a key's step -/
def chkB (S : KS α) (k : Ky) : Bool := match S.en k with
  | some e => decide (e.c = S.now)
  | none => false
inductive Sc where
  | look
  | comp
  | push (d : Ky) (j : Nat)
def scan (S : KS α) (c : Nat) : List Ky → Nat → Sc
  | [], _ => .look
  | d :: ds, j => if S.inp d = none ∧ chkB S d = false then .push d j else match S.chg d with
    | some g => if c < g then .comp else scan S c ds (j + 1)
    | none => .look
theorem chkB_rdy {S : KS α} {d : Ky} (h : ¬ (S.inp d = none ∧ chkB S d = false)) : Rdy S d := by
  cases hi : S.inp d with
  | some x => exact .inl ⟨x, hi⟩
  | none =>
    refine .inr ⟨hi, ?_⟩
    have hc : chkB S d = true := by
      cases q : chkB S d with
      | true => rfl
      | false => exact absurd ⟨hi, q⟩ h
    unfold chkB at hc
    cases he : S.en d with
    | none =>
      rw [he] at hc
      cases hc
    | some e =>
      rw [he] at hc
      exact ⟨e, rfl, of_decide_eq_true hc⟩
theorem not_chkB {S : KS α} {d : Ky} (h : chkB S d = false) : Unc S d := fun e he z => by
  unfold chkB at h
  rw [he] at h
  exact absurd z (of_decide_eq_false h)
theorem Unc.chkB {S : KS α} {d : Ky} (h : Unc S d) : chkB S d = false := by
  unfold Sn.chkB
  cases he : S.en d with
  | none => rfl
  | some e => exact decide_eq_false (h e he)
/-- bringing what is there does nothing -/
theorem Run.rdy {L : List Ky} {n z : Nat} {S : KS α} {d : Ky} {o : Ot α} (r : Rdy S d) (h : Run G comp L n z (.br S d) o) : o = .ok S := by
  cases h with
  | b_in a => rfl
  | b_now a b c _ => rfl
  | b_rs a b c g q =>
    rcases r with ⟨x, e⟩ | ⟨_, e, he, hc⟩
    · rw [a] at e
      cases e
    · exact absurd hc (b e he)
theorem Rdy.run {L : List Ky} {n : Nat} {S : KS α} {d : Ky} (r : Rdy S d) (g : G d) : Run G comp L (n + 1) 0 (.br S d) (.ok S) := by
  rcases r with ⟨x, e⟩ | ⟨a, e, he, hc⟩
  · exact .b_in e
  · exact .b_now a he hc g
theorem scan_chg {S : KS α} {c : Nat} {d : Ky} {ds : List Ky} {j g : Nat} (h : ¬ (S.inp d = none ∧ chkB S d = false)) (hg : S.chg d = some g) : scan S c (d :: ds) j = if c < g then .comp else scan S c ds (j + 1) := by
  show (if S.inp d = none ∧ chkB S d = false then Sc.push d j else match S.chg d with
    | some g => if c < g then .comp else scan S c ds (j + 1)
    | none => .look) = _
  rw [if_neg h, hg]
theorem Run.scanA {L : List Ky} {n : Nat} {S : KS α} {k : Ky} {e : En α} {o : Ot α} : ∀ {ds : List Ky} {z j : Nat}, Run G comp L n z (.lk S k e ds) o → scan S e.c ds j = .comp → ∃ z1, z1 + 1 ≤ z ∧ Run G comp L n z1 (.rn S k) o
  | [], z, j, h, q => by cases q
  | d :: ds, z, j, h, q => by
    by_cases c : S.inp d = none ∧ chkB S d = false
    · have z : scan S e.c (d :: ds) j = .push d j := if_pos c
      rw [z] at q
      cases q
    have r := chkB_rdy c
    cases h with
    | l_no a => exact absurd (a.rdy r) (fun z => nomatch z)
    | @l_chg _ _ z1 z2 _ _ _ _ _ S1 g _ a b f q2 =>
      have e1 := a.rdy r
      injection e1 with e1
      subst e1
      exact ⟨z2, by omega, q2⟩
    | @l_go _ _ z1 z2 _ _ _ _ _ S1 g _ a b f q2 =>
      have e1 := a.rdy r
      injection e1 with e1
      subst e1
      rw [scan_chg c b, if_neg (by omega)] at q
      obtain ⟨z3, h1, h2⟩ := scanA q2 q
      exact ⟨z3, by omega, h2⟩
theorem Run.scanC {L : List Ky} {n : Nat} {S : KS α} {k : Ky} {e : En α} {o : Ot α} : ∀ {ds : List Ky} {z j : Nat}, Run G comp L n z (.lk S k e ds) o → scan S e.c ds j = .look → o = .ok (S.look k e)
  | [], z, j, h, q => by
    cases h
    rfl
  | d :: ds, z, j, h, q => by
    by_cases c : S.inp d = none ∧ chkB S d = false
    · have z : scan S e.c (d :: ds) j = .push d j := if_pos c
      rw [z] at q
      cases q
    have r := chkB_rdy c
    cases h with
    | l_no a => exact absurd (a.rdy r) (fun z => nomatch z)
    | @l_chg _ _ z1 z2 _ _ _ _ _ S1 g _ a b f q2 =>
      have e1 := a.rdy r
      injection e1 with e1
      subst e1
      rw [scan_chg c b, if_pos f] at q
      cases q
    | @l_go _ _ z1 z2 _ _ _ _ _ S1 g _ a b f q2 =>
      have e1 := a.rdy r
      injection e1 with e1
      subst e1
      rw [scan_chg c b, if_neg (by omega)] at q
      exact scanC q2 q
theorem Run.scanB {L : List Ky} {n : Nat} {S : KS α} {k : Ky} {e : En α} {o : Ot α} {d : Ky} {j : Nat} : ∀ {ds : List Ky} {z i : Nat}, Run G comp L n z (.lk S k e ds) o → scan S e.c ds i = .push d j → ds = e.d.drop i → ∃ ds' z', z' ≤ z ∧ e.d.drop j = d :: ds' ∧ Run G comp L n z' (.lk S k e (d :: ds')) o ∧ S.inp d = none ∧ chkB S d = false
  | [], z, i, h, q, _ => by cases q
  | d0 :: ds, z, i, h, q, hd => by
    by_cases c : S.inp d0 = none ∧ chkB S d0 = false
    · have z : scan S e.c (d0 :: ds) i = .push d0 i := if_pos c
      rw [z] at q
      injection q with q1 q2
      subst q1 q2
      exact ⟨ds, _, Nat.le_refl _, hd.symm, h, c⟩
    have r := chkB_rdy c
    cases h with
    | l_no a => exact absurd (a.rdy r) (fun z => nomatch z)
    | @l_chg _ _ z1 z2 _ _ _ _ _ S1 g _ a b f q2 =>
      have e1 := a.rdy r
      injection e1 with e1
      subst e1
      rw [scan_chg c b, if_pos f] at q
      cases q
    | @l_go _ _ z1 z2 _ _ _ _ _ S1 g _ a b f q2 =>
      have e1 := a.rdy r
      injection e1 with e1
      subst e1
      rw [scan_chg c b, if_neg (by omega)] at q
      obtain ⟨ds', z', h1, h2⟩ := scanB q2 q (by rw [← List.tail_drop, ← hd]; rfl)
      exact ⟨ds', z', by omega, h2⟩
/-! ### the path -/
/-- what is left to be done for a path, its top first -/
def Unw (G : Ky → Prop) (comp : Ky → Tr α) (L : List Ky) (n : Nat) : List (Ky × Nat) → Nat → KS α → Ot α → Prop
  | [], _, S, o => o = .ok S
  | (k, i) :: r, z, S, o => ∃ z1 o1, Run G comp (k :: (r.map (·.1) ++ L)) n z1 (.rs S k i) o1 ∧
    ((∃ S1 z2, o1 = .ok S1 ∧ z1 + z2 + 1 ≤ z ∧ Unw G comp L n r z2 S1 o) ∨ ∃ S1, o1 = .no S1 ∧ z1 + 1 ≤ z ∧ o = .no S1)
theorem turnA {L : List Ky} {n z i : Nat} {S : KS α} {k : Ky} {r : List (Ky × Nat)} {o : Ot α} (h : Unw G comp L n ((k, i) :: r) z S o) (u : Unc S k) (q : S.en k = none ∨ ∃ e, S.en k = some e ∧ scan S e.c (e.d.drop i) i = .comp) :
    ∃ z1 o1, Run G comp (k :: (r.map (·.1) ++ L)) n z1 (.rn S k) o1 ∧ ((∃ S1 z2, o1 = .ok S1 ∧ z1 + z2 + 2 ≤ z ∧ Unw G comp L n r z2 S1 o) ∨ ∃ S1, o1 = .no S1 ∧ z1 + 2 ≤ z ∧ o = .no S1) := by
  obtain ⟨z1, o1, h1, h2⟩ := h
  have key : ∃ z3, z3 + 1 ≤ z1 ∧ Run G comp (k :: (r.map (·.1) ++ L)) n z3 (.rn S k) o1 := by
    cases h1 with
    | r_now a b => exact absurd b (u _ a)
    | r_none a b => exact ⟨_, Nat.le_refl _, b⟩
    | r_old a b c =>
      rcases q with q | ⟨e, q1, q2⟩
      · rw [q] at a
        cases a
      rw [q1] at a
      cases a
      obtain ⟨z3, y, w⟩ := c.scanA q2
      exact ⟨z3, by omega, w⟩
  obtain ⟨z3, y, w⟩ := key
  refine ⟨z3, o1, w, ?_⟩
  rcases h2 with ⟨S1, z2, a, b, c⟩ | ⟨S1, a, b, c⟩
  · exact .inl ⟨S1, z2, a, by omega, c⟩
  · exact .inr ⟨S1, a, by omega, c⟩
theorem turnC {L : List Ky} {n z i : Nat} {S : KS α} {k : Ky} {r : List (Ky × Nat)} {o : Ot α} (h : Unw G comp L n ((k, i) :: r) z S o) (u : Unc S k) {e : En α} (q1 : S.en k = some e) (q2 : scan S e.c (e.d.drop i) i = .look) : ∃ z2, z2 + 2 ≤ z ∧ Unw G comp L n r z2 (S.look k e) o := by
  obtain ⟨z1, o1, h1, h2⟩ := h
  cases h1 with
  | r_now a b => exact absurd b (u _ a)
  | r_none a b =>
    rw [q1] at a
    cases a
  | r_old a b c =>
    rw [q1] at a
    cases a
    have e1 := c.scanC q2
    subst e1
    rcases h2 with ⟨S1, z2, a, b, c⟩ | ⟨S1, a, b, c⟩
    · injection a with a
      subst a
      exact ⟨z2, by omega, c⟩
    · cases a
theorem turnD {L : List Ky} {n z i : Nat} {S : KS α} {k : Ky} {r : List (Ky × Nat)} {o : Ot α} (h : Unw G comp L n ((k, i) :: r) z S o) {e : En α} (q1 : S.en k = some e) (q2 : e.c = S.now) : ∃ z2, z2 + 1 ≤ z ∧ Unw G comp L n r z2 S o := by
  obtain ⟨z1, o1, h1, h2⟩ := h
  cases h1 with
  | r_now a b =>
    rcases h2 with ⟨S1, z2, a, b, c⟩ | ⟨S1, a, b, c⟩
    · injection a with a
      subst a
      exact ⟨z2, by omega, c⟩
    · cases a
  | r_none a b =>
    rw [q1] at a
    cases a
  | r_old a b c =>
    rw [q1] at a
    cases a
    exact absurd q2 b
theorem Unw.one {L : List Ky} {n z : Nat} {S : KS α} {k : Ky} {o : Ot α} (h : Run G comp (k :: L) n z (.rs S k 0) o) (hv : ∀ S' v as, o ≠ .val S' v as) : Unw G comp L n [(k, 0)] (z + 1) S o := by
  refine ⟨z, o, h, ?_⟩
  cases o with
  | ok S1 => exact .inl ⟨S1, 0, rfl, Nat.le_refl _, rfl⟩
  | no S1 => exact .inr ⟨S1, rfl, Nat.le_refl _, rfl⟩
  | val S' v as => exact absurd rfl (hv S' v as)
theorem unwB {L : List Ky} {n z z0 zb zo j : Nat} {S S1 : KS α} {k d : Ky} {r : List (Ky × Nat)} {o o1 : Ot α} (a : Run G comp (d :: k :: (r.map (·.1) ++ L)) n z0 (.rs S d 0) (.ok S1)) (b : Run G comp (k :: (r.map (·.1) ++ L)) n zb (.rs S1 k j) o1)
    (h : (∃ S2 z2, o1 = .ok S2 ∧ zo + z2 + 1 ≤ z ∧ Unw G comp L n r z2 S2 o) ∨ ∃ S2, o1 = .no S2 ∧ zo + 1 ≤ z ∧ o = .no S2) (hz : z0 + zb + 2 ≤ zo) : ∃ z2, z2 + 1 ≤ z ∧ Unw G comp L n ((d, 0) :: (k, j) :: r) z2 S o := by
  rcases h with ⟨S2, z2, h1, h2, h3⟩ | ⟨S2, h1, h2, h3⟩
  · exact ⟨z0 + (zb + z2 + 1) + 1, by omega, z0, _, a, .inl ⟨S1, zb + z2 + 1, rfl, Nat.le_refl _, zb, o1, b, .inl ⟨S2, z2, h1, Nat.le_refl _, h3⟩⟩⟩
  · exact ⟨z0 + (zb + 1) + 1, by omega, z0, _, a, .inl ⟨S1, zb + 1, rfl, Nat.le_refl _, zb, o1, b, .inr ⟨S2, h1, Nat.le_refl _, h3⟩⟩⟩
theorem turnB {L : List Ky} {n z i j : Nat} {S : KS α} {k d : Ky} {r : List (Ky × Nat)} {o : Ot α} (h : Unw G comp L n ((k, i) :: r) z S o) (u : Unc S k) {e : En α} (q1 : S.en k = some e) (q2 : scan S e.c (e.d.drop i) i = .push d j) :
    (∃ z2, z2 + 1 ≤ z ∧ Unw G comp L n ((d, 0) :: (k, j) :: r) z2 S o) ∧ d ∉ k :: (r.map (·.1) ++ L) ∧ G d ∧ S.inp d = none ∧ Unc S d := by
  obtain ⟨z1, o1, h1, h2⟩ := h
  cases h1 with
  | r_now a b => exact absurd b (u _ a)
  | r_none a b =>
    rw [q1] at a
    cases a
  | r_old a b c =>
    rw [q1] at a
    cases a
    obtain ⟨ds', z', hz, hd, h3, hi, hc⟩ := c.scanB q2 rfl
    have nr : ¬ Rdy S d := fun z => by
      rcases z with ⟨x, y⟩ | ⟨_, e2, y1, y2⟩
      · rw [hi] at y
        cases y
      · exact not_chkB hc e2 y1 y2
    cases h3 with
    | @l_no _ _ z _ _ _ _ _ S1 a =>
      cases a with
      | b_rs a1 a2 a3 a4 a5 =>
        refine ⟨⟨_, ?_, _, _, a5, .inr ⟨_, rfl, Nat.le_refl _, ?_⟩⟩, a3, a4, hi, not_chkB hc⟩
        · rcases h2 with ⟨S1, z2, a, b, c⟩ | ⟨S1, a, b, c⟩
          · cases a
          · omega
        · rcases h2 with ⟨S1, z2, a, b, c⟩ | ⟨S1, a, b, c⟩
          · cases a
          · injection a with a
            subst a
            exact c
    | @l_chg _ _ z1 z2 _ _ _ _ _ S1 g _ a b f q3 =>
      cases a with
      | b_in y =>
        rw [hi] at y
        cases y
      | b_now _ y1 y2 _ => exact absurd y2 (not_chkB hc _ y1)
      | b_rs a1 a2 a3 a4 a5 =>
        obtain ⟨l, rd, _⟩ := a5.post List.mem_cons_self a2
        have ek : S1.en k = some e := (l.en k ⟨List.mem_cons_of_mem _ List.mem_cons_self, fun z => a3 (z ▸ List.mem_cons_self)⟩).trans q1
        have en : S1.now = S.now := l.now
        have rd1 : Rdy S1 d := .inr ⟨by rw [show S1.inp = S.inp from l.inp]; exact hi, rd S1 rfl⟩
        have back := Run.r_old (G := G) (comp := comp) (i := j) ek (by rw [en]; assumption) (by rw [hd]; exact Run.l_chg (rd1.run (G := G) (comp := comp) a4) b f q3)
        exact ⟨unwB a5 back h2 (by omega), a3, a4, hi, not_chkB hc⟩
    | @l_go _ _ z1 z2 _ _ _ _ _ S1 g _ a b f q3 =>
      cases a with
      | b_in y =>
        rw [hi] at y
        cases y
      | b_now _ y1 y2 _ => exact absurd y2 (not_chkB hc _ y1)
      | b_rs a1 a2 a3 a4 a5 =>
        obtain ⟨l, rd, _⟩ := a5.post List.mem_cons_self a2
        have ek : S1.en k = some e := (l.en k ⟨List.mem_cons_of_mem _ List.mem_cons_self, fun z => a3 (z ▸ List.mem_cons_self)⟩).trans q1
        have en : S1.now = S.now := l.now
        have rd1 : Rdy S1 d := .inr ⟨by rw [show S1.inp = S.inp from l.inp]; exact hi, rd S1 rfl⟩
        have back := Run.r_old (G := G) (comp := comp) (i := j) ek (by rw [en]; assumption) (by rw [hd]; exact Run.l_go (rd1.run (G := G) (comp := comp) a4) b f q3)
        exact ⟨unwB a5 back h2 (by omega), a3, a4, hi, not_chkB hc⟩
end
end Sn

/-! Mathematics of texts: counting a sign, the last one, lines, cuts. -/
namespace Sn
open PySem PySem.Spec PyProof.Rows L2 PySem.StrLaws PySem.Builtin.Str TL
abbrev strL (l : List Nat) : Str := ⟨l.toArray⟩
/-! ### cuts -/
theorem tl_cut (z : Str) (lo hi : Option Int) : tl (cutS z lo hi) = ((tl z).drop (HT.sIx z.length 0 lo)).take (HT.sIx z.length z.length hi - HT.sIx z.length 0 lo) := rfl
theorem tl_cut_to (z : Str) (o : Nat) : tl (cutS z none (some (o : Int))) = (tl z).take o := by
  rw [tl_cut, HT.sIx_none, HT.sIx_nat, List.drop_zero, Nat.sub_zero, len_tl, List.take_eq_take_iff]
  omega
theorem tl_cut_from (z : Str) (o : Nat) : tl (cutS z (some (o : Int)) none) = (tl z).drop o := by
  rw [tl_cut, HT.sIx_none, HT.sIx_nat, len_tl]
  by_cases h : o ≤ (tl z).length
  · rw [Nat.min_eq_left h, List.take_of_length_le (by rw [List.length_drop] <;> omega)]
  · rw [Nat.min_eq_right (by omega), Nat.sub_self, List.take_zero, List.drop_eq_nil_of_le (by omega)]
theorem tl_cut_mid (z : Str) (a b : Nat) (h : a ≤ (tl z).length) : tl (cutS z (some (a : Int)) (some (b : Int))) = ((tl z).drop a).take (b - a) := by
  rw [tl_cut, HT.sIx_nat, HT.sIx_nat, len_tl, Nat.min_eq_left h, List.take_eq_take_iff, List.length_drop]
  omega
theorem len_eq (z : Str) : z.length = (tl z).length := len_tl z
/-! ### counting one sign -/
theorem drop_take_cons {l : List Nat} {a hi : Nat} (h : a < hi) (hl : hi ≤ l.length) : ∃ (h2 : a < l.length), (l.take hi).drop a = l[a] :: (l.take hi).drop (a + 1) := by
  have h2 : a < (l.take hi).length := by rw [List.length_take]; omega
  refine ⟨by omega, ?_⟩
  rw [List.drop_eq_getElem_cons h2, List.getElem_take]
theorem drop_take_nil {l : List Nat} {a hi : Nat} (h : hi ≤ a) : (l.take hi).drop a = [] := List.drop_eq_nil_of_le (by rw [List.length_take]; omega)
theorem occ_cnt (x : Str) (c hi limit : Nat) (hhi : hi ≤ (tl x).length) : ∀ (m a : Nat) (st : Array Nat × Nat), st.2 ≤ a → st.1.size + m ≤ limit → a + m = hi + 1 →
    (forIn (List.range' a m) st (occBody x ⟨#[c]⟩ hi limit)).run.fst.size = st.1.size + (((tl x).take hi).drop a).count c
  | 0, a, st, _, _, e => by
    rw [drop_take_nil (by omega)]
    rfl
  | m + 1, a, st, hf, hl, e => by
    have one : ∀ i, (i + (⟨#[c]⟩ : Str).length ≤ hi ∧ subAt x ⟨#[c]⟩ i = true) ↔ i < hi ∧ (tl x)[i]? = some c := fun i => by
      have k := subAt_one x c i
      have hx : x.length = (tl x).length := len_tl x
      have h1 : (⟨#[c]⟩ : Str).length = 1 := rfl
      constructor
      · intro h
        have z := k.mp ⟨by omega, h.2⟩
        exact ⟨by omega, z⟩
      · intro h
        have z := k.mpr h.2
        exact ⟨by omega, z.2⟩
    rw [List.range'_succ, List.forIn_cons]
    unfold occBody
    by_cases ha : a < hi
    · obtain ⟨h2, e2⟩ := drop_take_cons ha hhi
      rw [e2, List.count_cons]
      by_cases hc : (tl x)[a] = c
      · have k := (one a).mpr ⟨ha, by rw [List.getElem?_eq_getElem h2, hc]⟩
        rw [if_pos ⟨⟨⟨by omega, hf⟩, k.1⟩, k.2⟩]
        have ih := occ_cnt x c hi limit hhi m (a + 1) (st.1.push a, a + (⟨#[c]⟩ : Str).length) (Nat.le_refl _) (by show (st.1.push a).size + m ≤ limit; rw [Array.size_push]; omega) (by omega)
        have e3 : (st.1.push a).size = st.1.size + 1 := Array.size_push ..
        show (forIn (List.range' (a + 1) m) (st.1.push a, a + (⟨#[c]⟩ : Str).length) (occBody x ⟨#[c]⟩ hi limit)).run.fst.size = _
        rw [ih, e3, hc]
        simp
        omega
      · have k : ¬ ((((st.1.size < limit ∧ st.2 ≤ a) ∧ a + (⟨#[c]⟩ : Str).length ≤ hi) ∧ subAt x ⟨#[c]⟩ a = true)) := fun h => by
          have z := (one a).mp ⟨h.1.2, h.2⟩
          rw [List.getElem?_eq_getElem h2] at z
          exact hc (Option.some.inj z.2)
        rw [if_neg k]
        have ih := occ_cnt x c hi limit hhi m (a + 1) (st.1, st.2) (by show st.2 ≤ a + 1; omega) (by show st.1.size + m ≤ limit; omega) (by omega)
        show (forIn (List.range' (a + 1) m) (st.1, st.2) (occBody x ⟨#[c]⟩ hi limit)).run.fst.size = _
        rw [ih]
        have e4 : ((tl x)[a] == c) = false := beq_eq_false_iff_ne.mpr hc
        rw [e4, if_neg Bool.false_ne_true]
        rfl
    · have k : ¬ ((((st.1.size < limit ∧ st.2 ≤ a) ∧ a + (⟨#[c]⟩ : Str).length ≤ hi) ∧ subAt x ⟨#[c]⟩ a = true)) := fun h => by
        have z := (one a).mp ⟨h.1.2, h.2⟩
        omega
      rw [if_neg k]
      have em : m = 0 := by omega
      subst em
      rw [drop_take_nil (by omega)]
      rfl
theorem occ_count (x : Str) (c hi : Nat) (hhi : hi ≤ (tl x).length) : (occurrences x ⟨#[c]⟩ 0 hi (x.length + 1)).length = ((tl x).take hi).count c := by
  rw [occ_eq, Array.length_toList]
  have k := occ_cnt x c hi (x.length + 1) hhi (hi + 1 - 0) 0 (#[], 0) (Nat.le_refl _) (by show 0 + (hi + 1 - 0) ≤ x.length + 1; rw [len_tl]; omega) (by omega)
  rw [k, List.drop_zero]
  show 0 + _ = _
  omega
theorem count_all (x : Str) (c : Nat) : Txt.count x ⟨#[c]⟩ = (((tl x).count c : Nat) : Int) := by
  show (((occurrences x ⟨#[c]⟩ 0 x.length (x.length + 1)).length : Nat) : Int) = _
  rw [occ_count x c x.length (by rw [len_tl]; exact Nat.le_refl _), len_tl, List.take_length]
theorem toW (n o : Nat) (h : o ≤ n) : toIndexW n (o : Int) = o := by
  unfold toIndexW
  rw [if_neg (by omega)]
  omega
theorem fromI (n o : Nat) : fromIndex n (o : Int) = o := by
  unfold fromIndex
  rw [if_neg (by omega)]
  omega
theorem count_in (x : Str) (c o : Nat) (h : o ≤ (tl x).length) : Txt.countIn x ⟨#[c]⟩ 0 (o : Int) = ((((tl x).take o).count c : Nat) : Int) := by
  unfold Txt.countIn
  rw [toW _ _ (by rw [len_tl]; exact h), show fromIndex x.length 0 = 0 from fromI x.length 0, occ_count x c o h]
/-! ### the last newline -/
/-- how many signs stand behind the last c, k of them ahead -/
def colF (c k : Nat) : List Nat → Nat
  | [] => k
  | d :: r => if d = c then colF c 0 r else colF c (k + 1) r
theorem colF_snoc (c d : Nat) : ∀ (l : List Nat) (k : Nat), colF c k (l ++ [d]) = if d = c then 0 else colF c k l + 1
  | [], k => by
    show (if d = c then colF c 0 [] else colF c (k + 1) []) = _
    rfl
  | e :: r, k => by
    show (if e = c then colF c 0 (r ++ [d]) else colF c (k + 1) (r ++ [d])) = _
    rw [colF_snoc c d r 0, colF_snoc c d r (k + 1)]
    by_cases h : e = c
    · rw [if_pos h]
      show _ = if d = c then 0 else (if e = c then colF c 0 r else colF c (k + 1) r) + 1
      rw [if_pos h]
    · rw [if_neg h]
      show _ = if d = c then 0 else (if e = c then colF c 0 r else colF c (k + 1) r) + 1
      rw [if_neg h]
theorem colF_le (c : Nat) : ∀ (l : List Nat) (k : Nat), colF c k l ≤ k + l.length
  | [], k => Nat.le_refl _
  | e :: r, k => by
    show (if e = c then colF c 0 r else colF c (k + 1) r) ≤ k + (r.length + 1)
    have h0 := colF_le c r 0
    have h1 := colF_le c r (k + 1)
    split <;> omega
def valO : Option Nat → Nat
  | none => 0
  | some k => k + 1
theorem last_col (x : Str) (c hi : Nat) (hhi : hi ≤ (tl x).length) : ∀ (m a : Nat) (st : Option Nat), valO st ≤ a → a + m = hi + 1 → a ≤ hi →
    valO (forIn (List.range' a m) st (lastBody x ⟨#[c]⟩ hi)).run ≤ hi ∧ hi - valO (forIn (List.range' a m) st (lastBody x ⟨#[c]⟩ hi)).run = colF c (a - valO st) (((tl x).take hi).drop a)
  | 0, a, st, _, e, _ => by omega
  | m + 1, a, st, hf, e, hah => by
    have one : ∀ i, (i + (⟨#[c]⟩ : Str).length ≤ hi ∧ subAt x ⟨#[c]⟩ i = true) ↔ i < hi ∧ (tl x)[i]? = some c := fun i => by
      have k := subAt_one x c i
      have hx : x.length = (tl x).length := len_tl x
      have h1 : (⟨#[c]⟩ : Str).length = 1 := rfl
      constructor
      · intro h
        have z := k.mp ⟨by omega, h.2⟩
        exact ⟨by omega, z⟩
      · intro h
        have z := k.mpr h.2
        exact ⟨by omega, z.2⟩
    rw [List.range'_succ, List.forIn_cons]
    unfold lastBody
    by_cases ha : a < hi
    · obtain ⟨h2, e2⟩ := drop_take_cons ha hhi
      rw [e2]
      by_cases hc : (tl x)[a] = c
      · have k := (one a).mpr ⟨ha, by rw [List.getElem?_eq_getElem h2, hc]⟩
        rw [if_pos k]
        have ih := last_col x c hi hhi m (a + 1) (some a) (Nat.le_refl _) (by omega) (by omega)
        show valO (forIn (List.range' (a + 1) m) (some a) (lastBody x ⟨#[c]⟩ hi)).run ≤ hi ∧ hi - valO (forIn (List.range' (a + 1) m) (some a) (lastBody x ⟨#[c]⟩ hi)).run = if (tl x)[a] = c then _ else _
        rw [if_pos hc]
        have e5 : a + 1 - valO (some a) = 0 := by
          show a + 1 - (a + 1) = 0
          omega
        rw [e5] at ih
        exact ih
      · have k : ¬ (a + (⟨#[c]⟩ : Str).length ≤ hi ∧ subAt x ⟨#[c]⟩ a = true) := fun h => by
          have z := (one a).mp h
          rw [List.getElem?_eq_getElem h2] at z
          exact hc (Option.some.inj z.2)
        rw [if_neg k]
        have ih := last_col x c hi hhi m (a + 1) st (by omega) (by omega) (by omega)
        show valO (forIn (List.range' (a + 1) m) st (lastBody x ⟨#[c]⟩ hi)).run ≤ hi ∧ hi - valO (forIn (List.range' (a + 1) m) st (lastBody x ⟨#[c]⟩ hi)).run = if (tl x)[a] = c then _ else _
        rw [if_neg hc]
        have e5 : a + 1 - valO st = a - valO st + 1 := by omega
        rw [e5] at ih
        exact ih
    · have k : ¬ (a + (⟨#[c]⟩ : Str).length ≤ hi ∧ subAt x ⟨#[c]⟩ a = true) := fun h => by
        have z := (one a).mp h
        omega
      rw [if_neg k]
      have em : m = 0 := by omega
      subst em
      rw [drop_take_nil (by omega)]
      show valO st ≤ hi ∧ hi - valO st = a - valO st
      omega
/-- x.rfind(c, 0, o) + 1 is where the last line of x[:o] begins -/
theorem rfind_col (x : Str) (c o : Nat) (h : o ≤ (tl x).length) : ∃ b : Nat, Txt.rfindIn x ⟨#[c]⟩ 0 (o : Int) + 1 = (b : Int) ∧ b ≤ o ∧ o - b = colF c 0 ((tl x).take o) := by
  unfold Txt.rfindIn
  rw [toW _ _ (by rw [len_tl]; exact h), show fromIndex x.length 0 = 0 from fromI x.length 0, last_eq]
  have k := last_col x c o h (o + 1 - 0) 0 none (Nat.le_refl _) (by omega) (Nat.zero_le _)
  rw [List.drop_zero] at k
  refine ⟨_, ?_, k.1, k.2⟩
  cases (forIn (List.range' 0 (o + 1 - 0)) none (lastBody x ⟨#[c]⟩ o)).run with
  | none => rfl
  | some j => rfl
/-! ### lines -/
def rows (c : Nat) : List Nat → List Nat → List (List Nat)
  | acc, [] => [acc]
  | acc, d :: r => if d = c then acc :: rows c [] r else rows c (acc ++ [d]) r
theorem spl_rows (c : Nat) : ∀ (l acc : List Nat), spl [c] 0 acc l = rows c acc l
  | [], acc => by rw [spl_nil]; rfl
  | d :: r, acc => by
    by_cases h : d = c
    · have p : TL.pre [c] (d :: r) = true := by rw [h]; simp [TL.pre]
      rw [spl_hit p]
      show acc :: spl [c] 0 [] r = if d = c then _ else _
      rw [if_pos h, spl_rows c r []]
    · have p : TL.pre [c] (d :: r) = false := pre_of_head [] r h
      rw [spl_miss p, spl_rows c r (acc ++ [d])]
      show _ = if d = c then _ else _
      rw [if_neg h]
theorem split_rows (x : Str) (c : Nat) (hc : c < 256) : (Txt.split x ⟨#[c]⟩).map tl = rows c [] (tl x) := by
  rw [split_spl x ⟨#[c]⟩ (by show [c] ≠ []; simp) (kind_ok (by simp [hc]))]
  exact spl_rows c (tl x) []
theorem rows_len (c : Nat) : ∀ (l acc : List Nat), (rows c acc l).length = l.count c + 1
  | [], acc => rfl
  | d :: r, acc => by
    show (if d = c then acc :: rows c [] r else rows c (acc ++ [d]) r).length = _
    rw [List.count_cons]
    by_cases h : d = c
    · rw [if_pos h, List.length_cons, rows_len c r []]
      simp [h]
    · have h' : (d == c) = false := by simpa using h
      rw [if_neg h, rows_len c r]
      simp [h']
/-- the lengths of lines with their newlines -/
def lens (rs : List (List Nat)) : Nat := (rs.map fun r => r.length + 1).sum
theorem rows_at (c : Nat) : ∀ (l acc : List Nat) (o : Nat), o ≤ l.length → ∃ row, (rows c acc l)[(l.take o).count c]? = some row ∧ colF c acc.length (l.take o) ≤ row.length ∧
    lens ((rows c acc l).take ((l.take o).count c)) + colF c acc.length (l.take o) = acc.length + o
  | l, acc, 0, _ => by
    rw [List.take_zero]
    show ∃ row, (rows c acc l)[0]? = some row ∧ acc.length ≤ row.length ∧ lens ((rows c acc l).take 0) + acc.length = acc.length + 0
    have : ∀ (l acc : List Nat), ∃ row, (rows c acc l)[0]? = some row ∧ acc.length ≤ row.length := by
      intro l
      induction l with
      | nil => exact fun acc => ⟨acc, rfl, Nat.le_refl _⟩
      | cons d r ih =>
        intro acc
        show ∃ row, (if d = c then acc :: rows c [] r else rows c (acc ++ [d]) r)[0]? = some row ∧ _
        by_cases h : d = c
        · rw [if_pos h]
          exact ⟨acc, rfl, Nat.le_refl _⟩
        · rw [if_neg h]
          obtain ⟨row, h1, h2⟩ := ih (acc ++ [d])
          rw [List.length_append] at h2
          exact ⟨row, h1, by omega⟩
    obtain ⟨row, h1, h2⟩ := this l acc
    refine ⟨row, h1, h2, ?_⟩
    rw [List.take_zero]
    show 0 + acc.length = acc.length + 0
    omega
  | [], acc, o + 1, h => absurd h (by simp)
  | d :: r, acc, o + 1, h => by
    have ho : o ≤ r.length := by simpa using h
    rw [List.take_succ_cons, List.count_cons]
    by_cases e : d = c
    · subst e
      have ih := rows_at d r [] o ho
      obtain ⟨row, h1, h2, h3⟩ := ih
      have er : rows d acc (d :: r) = acc :: rows d [] r := by
        show (if d = d then _ else _) = _
        rw [if_pos rfl]
      have ec : colF d acc.length (d :: r.take o) = colF d 0 (r.take o) := by
        show (if d = d then _ else _) = _
        rw [if_pos rfl]
      rw [er, ec]
      simp only [beq_self_eq_true, if_true]
      refine ⟨row, by rw [List.getElem?_cons_succ]; exact h1, h2, ?_⟩
      rw [List.take_succ_cons]
      show (acc.length + 1) + lens _ + _ = _
      simp only [List.length_nil] at h3
      unfold lens at h3 ⊢
      omega
    · have er : rows c acc (d :: r) = rows c (acc ++ [d]) r := by
        show (if d = c then _ else _) = _
        rw [if_neg e]
      have ec : colF c acc.length (d :: r.take o) = colF c (acc.length + 1) (r.take o) := by
        show (if d = c then _ else _) = _
        rw [if_neg e]
      have eb : (d == c) = false := by simpa using e
      have ih := rows_at c r (acc ++ [d]) o ho
      rw [er, ec]
      simp only [eb, Bool.false_eq_true, if_false, Nat.add_zero]
      obtain ⟨row, h1, h2, h3⟩ := ih
      rw [List.length_append, List.length_singleton] at h2 h3
      exact ⟨row, h1, h2, by omega⟩
theorem join_lens (y : List Nat) (hy : y.length = 1) : ∀ rs : List (List Nat), rs ≠ [] → (joinL y rs).length + 1 = lens rs
  | [], h => absurd rfl h
  | [p], _ => by
    show p.length + 1 = (p.length + 1) + 0
    omega
  | p :: q :: r, _ => by
    show (p ++ (y ++ joinL y (q :: r))).length + 1 = (p.length + 1) + lens (q :: r)
    have ih := join_lens y hy (q :: r) (by simp)
    rw [List.length_append, List.length_append]
    omega
end Sn

/-! My own rules: three comparisons in a row, a text times a number, calls that may raise, isinstance in an except suite. -/
namespace Sn
open PySem PySem.Spec PyProof.Rows L2 TL
section
variable {X : Cx} {a b c d : Expr} {ta tb tc td : TE} {pos : Pos}
/-- a op1 b op2 c op3 d -/
def tChain3 (r r' r'' : R2) (ta tb tc td : TE) : TE := fun σ H Q => ta σ H fun x H1 => tb σ H1 fun y H2 => r x y H2 fun z H3 => ∃ k, z = .bl k ∧
  (if k = true then tc σ H3 fun w H4 => r' y w H4 fun z' H5 => ∃ k', z' = .bl k' ∧ (if k' = true then td σ H5 fun v H6 => r'' w v H6 Q else Q (.bl false) H5) else Q (.bl false) H3)
theorem pt_chain3 {op op' op'' : CmpOp} {r r' r'' : R2} (ho : OpR X (compareOp op) r) (ho' : OpR X (compareOp op') r') (ho'' : OpR X (compareOp op'') r'') (ha : PE X a ta) (hb : PE X b tb) (hc : PE X c tc) (hd : PE X d td)
    (hm : lastMarks [op, op', op''] [b, c, d] = false := by with_unfolding_all rfl) : PT X (.Compare a [op, op', op''] [b, c, d] pos) (tTest (tChain3 r r' r'' ta tb tc td)) := by
  refine ⟨fun pins s σ H Q I h => ?_⟩
  refine isTrue_chain (thn (ha.run pins s σ H _ I h) fun v s1 ⟨x, H1, I1, r1, q1⟩ => test_link (thn (hb.run pins s1 σ H1 _ I1 q1) fun u s2 ⟨y, H2, I2, r2, q2⟩ =>
    thn (ho pins s2 σ H2 x y v u _ I2 r1 r2 q2) fun e s3 ⟨z, H3, I3, r3, k, ez, q3⟩ => ?_)) hm
  subst ez
  cases r3
  refine wpAny_truthy_bool ?_
  cases k with
  | false =>
    obtain ⟨k', e', q'⟩ := q3
    cases e'
    exact ite_ff ⟨H3, I3, q'⟩
  | true =>
    refine ite_tt (test_link (thn (hc.run pins s3 σ H3 _ I3 q3) fun w' s4 ⟨z', H4, I4, r4, q4⟩ => thn (ho' pins s4 σ H4 y z' u w' _ I4 r2 r4 q4) fun d' s5 ⟨z2, H5, I5, r5, k2, e2, q5⟩ => ?_))
    subst e2
    cases r5
    refine wpAny_truthy_bool ?_
    cases k2 with
    | false =>
      obtain ⟨k', e', q'⟩ := q5
      cases e'
      exact ite_ff ⟨H5, I5, q'⟩
    | true =>
      refine ite_tt (test_last (thn (hd.run pins s5 σ H5 _ I5 q5) fun w2 s6 ⟨z6, H6, I6, r6, q6⟩ => thn (ho'' pins s6 σ H6 z' z6 w' w2 _ I6 r4 r6 q6) fun d' s7 ⟨z7, H7, I7, r7, k7, e7, q7⟩ => ?_))
      subst e7
      cases r7
      exact wpAny_truthy_bool ⟨H7, I7, q7⟩
/-- a text times a number -/
theorem op_mul_str : OpR X (binaryOp .Mult) (fun x y H Q => ∃ (z : Str) (n : Int), x = .str z ∧ y = .int n ∧ MulOk z n ∧ Q (.str (Txt.mul z n)) H) := by
  intro pins s σ H x y v u Q I rx ry h
  obtain ⟨z, n, rfl, rfl, hm, q⟩ := h
  obtain ⟨t, rfl⟩ := rx
  obtain ⟨t', rfl⟩ := ry
  exact SB.mul hm fun t' k => ⟨.str (Txt.mul z n), H, I.tok _, ⟨_, rfl⟩, q⟩
end
section
variable {X : Cx} {k j : Nat} {x : Str} {sp : Sp} {p pos : Pos} {e : Expr} {es : List Expr} {t : TA} {W : WX}
/-- a call within a try, what it lets out is the clause's -/
theorem pe_cS (c : Cal X.prog X.w X.K X.mg X.base (L2.CX X.prog X.w) k x sp) (hr : Room j X.A) (hk : k ≤ j) (tk : Takes X W) (ha : PA X (e :: es) t) (hg : Gl X x := by rfl)
    (hdb : (x == ("__debug__" : Str)) = false := by decide) (he : starEach (e :: es) X.env = (false, eval e X.env) :: starEach es X.env := by rfl) (hpl : (backTo pos (starEach es X.env)).any (·.1) = false := by rfl) :
    PE X (.Call (.Name x p) (e :: es) [] pos) (tCallS sp (WE W) t) := by
  obtain ⟨f, fd, ps, F, hm, kp, b⟩ := c.ex
  exact pe_callS F (hr.mono hk) hg hm kp b (fun σ => passAt tk σ) ha hdb he hpl
/-- isinstance(e, c), e what the suite holds; that it is of the class D is the reading's to say -/
theorem call_isX {D a : Addr} {oe : Obj} {cls : Value} {d : Option Addr} {pn : List (Addr × Obj)} (C : ExcC X.K D) (hz : Zc cls d oe) (hf : ∃ vs, oe.data = .fields vs) :
    CallR (X.suite a ((a, oe) :: pn)) (.builtin "isinstance") (fun xs H Q => cls = .ref D ∧ d = none ∧ rIsE X.K D a xs H Q) := by
  intro pins s σ H xs us Q I r h
  obtain ⟨rfl, rfl, h⟩ := h
  exact call_isE C hz hf pins s σ H xs us Q I r h
end

/-! ### edits -/
/-- the mirror of a joint edit: what stands from done on -/
def jgo (z : List Nat) : Nat → List (Int × Int × List Nat) → Option (List Nat)
  | done, [] => some (z.drop done)
  | done, (s, e, n) :: r => if (done : Int) ≤ s ∧ s ≤ e ∧ e ≤ (z.length : Int) ∧ n.all okc = true then (jgo z e.toNat r).map fun t => (z.drop done).take (s.toNat - done) ++ (n ++ t) else none
def joint (z : List Nat) (eds : List (Int × Int × List Nat)) : Option (List Nat) := match jgo z 0 eds with
  | some r => if r.length ≤ 4000 then some r else none
  | none => none
/-- a list of edits stands at le -/
def EdAt (H : Hp) (le : Addr) (eds : List (Int × Int × Str)) : Prop := ∃ rs : List Addr, H le = some (.lst (rs.map V.ref)) ∧ rs.length = eds.length ∧ ∀ (i : Nat) (r : Addr) (s e : Int) (n : Str), rs[i]? = some r → eds[i]? = some (s, e, n) → H r = some (.tup [.int s, .int e, .str n])
def edl (eds : List (Int × Int × Str)) : List (Int × Int × List Nat) := eds.map fun x => (x.1, x.2.1, tl x.2.2)
/-- the lengths of all new texts -/
def news (eds : List (Int × Int × Str)) : Nat := (eds.map fun x => x.2.2.length).sum
theorem EdAt.same {H H' : Hp} {le : Addr} {eds : List (Int × Int × Str)} (s : Same H H') : EdAt H le eds → EdAt H' le eds := fun ⟨rs, h1, h2, h3⟩ => ⟨rs, s _ _ h1, h2, fun i r a b n p q => s _ _ (h3 i r a b n p q)⟩
def spMay : Sp := fun vs H Q _ => ∃ z : Str, vs = [.str z] ∧ Q (.bl ((tl z).all okc)) H
def spIsText : Sp := fun vs H Q _ => ∃ z : Str, vs = [.str z] ∧ z.length ≤ 1000000 ∧ Q (.bl (decide (z.length ≤ 4000) && (tl z).all okc)) H
def spJoint (C : Addr) : Sp := fun vs H Q E => ∃ (z : Str) (le : Addr) (eds : List (Int × Int × Str)), vs = [.str z, .ref le] ∧ EdAt H le eds ∧ z.length ≤ 1000000 ∧ eds.length ≤ 1000 ∧ news eds ≤ 1000000 ∧
  (∀ r H', joint (tl z) (edl eds) = some r → Same H H' → Q (.str (strL r)) H') ∧ (∀ H', joint (tl z) (edl eds) = none → Same H H' → E (.ref C) none H')
def spEdit (C : Addr) : Sp := fun vs H Q E => ∃ (z : Str) (ed : Addr) (s e : Int) (n : Str), vs = [.str z, .ref ed] ∧ H ed = some (.tup [.int s, .int e, .str n]) ∧ z.length ≤ 1000000 ∧ n.length ≤ 1000000 ∧
  (∀ r H', joint (tl z) [(s, e, tl n)] = some r → Same H H' → Q (.str (strL r)) H') ∧ (∀ H', joint (tl z) [(s, e, tl n)] = none → Same H H' → E (.ref C) none H')
/-! ### signs in order -/
theorem le_one (a b : Nat) : (!decide ([b] < [a])) = decide (a ≤ b) := by
  have : ([b] < [a]) ↔ b < a := by
    constructor
    · intro h
      cases h with
      | rel h => exact h
      | cons h => cases h
    · exact fun h => .rel h
  by_cases h : b < a
  · rw [decide_eq_true (this.mpr h), decide_eq_false (by omega)]
    rfl
  · rw [decide_eq_false (fun k => h (this.mp k)), decide_eq_true (by omega)]
    rfl
/-! ### classes of errors, as the top has written them -/
theorem own_cls {K : PySem.W.Frag} {C S : Addr} (i : PySem.W.isClsIn K S = true) (t : PySem.W.typeIn K (.ref S) = some (.type "type")) (s : PySem.W.subIn K (.ref C) (.ref S) = some true) : PySem.W.kitCls K (.ref C) (.ref S) = some true := by
  have e2 : ((PySem.W.clsIn K S).isSome && PySem.W.typeIn K (.ref S) == some (.type "type")) = true := by
    have h2 : (PySem.W.clsIn K S).isSome = true := i
    rw [h2, t] <;> rfl
  show (if _ then _ else _) = _
  rw [if_pos e2]
  exact s
theorem exm_of {K : PySem.W.Frag} {S : Addr} (b : PySem.W.subIn K (.ref S) (.type "BaseException") = some true) (i : PySem.W.isClsIn K S = true) (t : PySem.W.typeIn K (.ref S) = some (.type "type")) (s : PySem.W.subIn K (.ref S) (.ref S) = some true) :
    PySem.W.exmOne K (.ref S) (.ref S) = some true := by
  have e1 : (PySem.W.subIn K (.ref S) (.type "BaseException") == some true) = true := by rw [b] <;> rfl
  show (if _ then _ else _) = _
  rw [if_pos e1]
  exact own_cls i t s
theorem kit_own {K : PySem.W.Frag} {C S : Addr} (i : PySem.W.isClsIn K S = true) (t : PySem.W.typeIn K (.ref S) = some (.type "type")) (s : PySem.W.subIn K (.ref C) (.ref S) = some true) : PySem.W.kitOne K (.ref C) (.ref S) = some true := by
  show (if _ then _ else _) = _
  split
  · rfl
  · exact own_cls i t s
theorem kit_blt {K : PySem.W.Frag} {C : Addr} {n : String} (m : PySem.W.kitMeta n = true) (s : PySem.W.subIn K (.ref C) (.type n) = some true) : PySem.W.kitOne K (.ref C) (.type n) = some true := by
  show (if _ then _ else (if _ then _ else _)) = _
  split
  · rfl
  · first
      | exact s
      | (rw [if_pos m]; exact s)
end Sn

/-! My own words: methods called by name, attributes, dicts of the module with get. -/
namespace Sn
open PySem PySem.Spec PyProof.Rows L2
section
variable {X : Cx} {e : Expr} {t t' : TE}
theorem PE.imp (h : PE X e t) (i : ∀ σ H Q, t' σ H Q → t σ H Q) : PE X e t' := ⟨fun pins s σ H Q I q => h.run pins s σ H Q I (i _ _ _ q)⟩
theorem PS.imp {st : Stmt} {u u' : TS} (h : PS X st u) (i : ∀ D σ H, u' D σ H → u D σ H) : PS X st u' := ⟨fun pins s σ H D I q => h.run pins s σ H D I (i _ _ _ q)⟩
def tUp (t : TE) : TE := fun σ H Q => ∃ Q' : VK, t σ H Q' ∧ ∀ v H1, Q' v H1 → Q v H1
theorem PE.up (h : PE X e t) : PE X e (tUp t) := ⟨fun pins s σ H Q I ⟨Q', a, b⟩ => thn (h.run pins s σ H Q' I a) fun v s1 ⟨x, H1, I1, r1, q1⟩ => ⟨x, H1, I1, r1, b _ _ q1⟩⟩
end
/-- a method that may be called by its name -/
structure CalM (P : Program) (w : World) (K : PySem.W.Frag) (mg : Str → Option Value) (base : Heap) (CX : CXT) (k : Nat) (C : Addr) (m : Str) (sp : Sp) : Prop where
  ex : ∃ (f : Addr) (fd : FuncData) (ps : List Str), FnOk P w K mg base CX k f fd ps sp ∧ Meth K C m f ∧ Binds K fd ps []
/-- an instance of the class at C with attributes of these names -/
def IsI (H : Hp) (C p : Addr) (ns : List Str) : Prop := ∃ dx fs, H p = some (.ins C dx fs) ∧ fs.map (·.1) = ns
theorem lookup_no : ∀ {fs : List (Str × V)} {ns : List Str} {m : Str}, fs.map (·.1) = ns → ns.contains m = false → fs.lookup m = none
  | [], _, _, _, _ => rfl
  | (n, v) :: r, _, m, h, hm => by
    subst h
    rw [List.map_cons, List.contains_cons, Bool.or_eq_false_iff] at hm
    rw [List.lookup_cons, hm.1]
    exact lookup_no rfl hm.2
def tMe (C : Addr) (ns : List Str) (sp : Sp) (E : XK) (ta : TE) (t : TA) : TE := fun σ H Q => ta σ H fun x H1 => ∃ p, x = .ref p ∧ IsI H1 C p ns ∧ t σ H1 fun vs H2 => sp (x :: vs) H2 Q E
section
variable {X : Cx} {k j : Nat} {C : Addr} {m : Str} {sp : Sp} {apos pos : Pos} {o e : Expr} {es : List Expr} {ta : TE} {t : TA} {CX : CXT} {E : XK} {pl : Sem Bool}
theorem pe_m (ns : List Str) (c : CalM X.prog X.w X.K X.mg X.base CX k C m sp) (cl : Cls X.K C) (hno : ns.contains m = false) (hr : Room j X.A) (hk : k ≤ j) (hx : Passes CX X E) (he : PE X o ta) (ha : PA X (e :: es) t)
    (hst : starEach (e :: es) X.env = (false, eval e X.env) :: starEach es X.env := by rfl) (hpl : (backTo pos (starEach es X.env)).any (·.1) = false := by rfl)
    (ht : eval (.Call (.Attribute o m apos) (e :: es) [] pos) X.env = (do
      let ov ← eval o X.env
      standAt apos.atName
      let (f, first) ← holding [ov] (getMethod ov m pl)
      callWith pos f first (backTo pos (starEach (e :: es) X.env)) (backToKw pos (keywordEach [] X.env))) := by rfl) :
    PE X (.Call (.Attribute o m apos) (e :: es) [] pos) (tMe C ns sp E ta t) := by
  obtain ⟨f, fd, ps, F, hm, b⟩ := c.ex
  refine PE.imp (pe_meth (PE.up he) cl hm F (hr.mono hk) b .nil hx ha hst hpl ht) fun σ H Q h => ⟨_, h, ?_⟩
  rintro v H1 ⟨p, rfl, ⟨dx, fs, hp, hn⟩, q⟩
  refine ⟨p, dx, fs, rfl, hp, lookup_no hn hno, ?_⟩
  simp only [List.append_nil]
  exact q
theorem pe_m0 (ns : List Str) (c : CalM X.prog X.w X.K X.mg X.base CX k C m sp) (cl : Cls X.K C) (hno : ns.contains m = false) (hr : Room j X.A) (hk : k ≤ j) (hx : Passes CX X E) (he : PE X o ta)
    (ht : eval (.Call (.Attribute o m apos) [] [] pos) X.env = (do
      let ov ← eval o X.env
      standAt apos.atName
      let (f, first) ← holding [ov] (getMethod ov m pl)
      callWith pos f first (backTo pos (starEach [] X.env)) (backToKw pos (keywordEach [] X.env))) := by rfl) :
    PE X (.Call (.Attribute o m apos) [] [] pos) (tMe C ns sp E ta tNil) := by
  obtain ⟨f, fd, ps, F, hm, b⟩ := c.ex
  refine PE.imp (pe_meth0 (PE.up he) cl hm F (hr.mono hk) b .nil hx ht) fun σ H Q h => ⟨_, h, ?_⟩
  rintro v H1 ⟨p, rfl, ⟨dx, fs, hp, hn⟩, q⟩
  refine ⟨p, dx, fs, rfl, hp, lookup_no hn hno, ?_⟩
  exact q
end
/-! ### a dict of the module: get with another value -/
section
variable {X : Cx}
/-- a written dict with text keys; what it has at a key -/
structure KdAt (K : PySem.W.Frag) (w : World) (a : Addr) : Prop where
  ex : ∃ es n, K.lookup a = some ⟨.type "dict", none, .dict es n, #[]⟩ ∧ PySem.W.KeysLit w.params es.toList
  low : (a == sysModules) = false
def KdGet (K : PySem.W.Frag) (a : Addr) (x : Str) (r : Option V) : Prop := ∃ u, PySem.W.nsIn K a x = some u ∧ RelO r u
theorem relO_getD {r : Option V} {u : Option Value} {v : V} {d : Value} (h : RelO r u) (k : RelV v d) : RelV (r.getD v) (u.getD d) := by
  cases r with
  | none =>
    cases u with
    | none => exact k
    | some u => exact h.elim
  | some r =>
    cases u with
    | none => exact h.elim
    | some u => exact h
def tKGet2 (K : PySem.W.Frag) (w : World) (td ty tx : TE) : TE := fun σ H Q => td σ H fun x H1 => ∃ a, x = .ref a ∧ KdAt K w a ∧ ty σ H1 fun y H2 => tx σ H2 fun z H3 => ∃ (s : Str) (r : Option V), y = .str s ∧ KdGet K a s r ∧ Q (r.getD z) H3
theorem pe_kget2 {o e f : Expr} {apos cpos : Pos} {td ty tx : TE} (ho : PE X o td) (he : PE X e ty) (hf : PE X f tx) (m : M2 X o "get" apos e f cpos) : PE X (.Call (.Attribute o "get" apos) [e, f] [] cpos) (tKGet2 X.K X.w td ty tx) := by
  refine ⟨fun pins s σ H Q I h => ?_⟩
  refine wpAny_Call_method m.base m.few m.line PySem.F.plainAttrs_dict PySem.F.slot_dict_get PySem.F.type_dict_get (thn (ho.run pins s σ H _ I h) fun u s1 ⟨x, H1, I1, rx, a, ex, ⟨⟨es, n, hl, hk⟩, low⟩, q1⟩ => ?_)
  subst ex
  obtain rfl : u = Value.ref a := rx
  have M0 := PySem.W.mapOf_K (prog := X.prog) (w := X.w) I1.kIn hl hk
  refine ⟨M0.typeIs, fun b q => ?_, ?_⟩
  · cases q
    exact ⟨_, I1.kIn _ _ hl, rfl⟩
  rw [m.trees]
  refine Calls.callWith_builtin rfl (Calls.evalArgs_plain (Calls.spliced_cons (thn (he.run pins s1 σ H1 _ I1 q1) fun iv s2 ⟨y, H2, I2, ry, q2⟩ =>
    Calls.spliced_cons (thn (hf.run pins s2 σ H2 _ I2 q2) fun fv s3 ⟨z, H3, I3, rz, x, r, ey, ⟨u0, e, ro⟩, q3⟩ => Calls.spliced_nil ?_))))
  subst ey
  obtain ⟨t, rfl⟩ := (show ∃ t, iv = Value.str x t from ry)
  have M3 := PySem.W.mapOf_K (prog := X.prog) (w := X.w) I3.kIn hl hk
  refine call_meetsIn PySem.F.slot_dict_get M3.typeIs PySem.F.entry_dict_get (PySem.F.args_dict_get_3 _ _ _) (meets_dict_get_default (strKind X.prog X.w) a (strKind_is X.prog X.w x t) low fv) ⟨_, M3, ?_⟩
  rw [PySem.W.find_K hl e]
  exact ⟨_, H3, I3.tok _, relO_getD ro rz, q3⟩
end
end Sn

/-! My own words for the keeper: tuple(d), del d[k] with tuple keys, methods and local defs called within a try, try .. finally. -/
namespace Sn
open PySem PySem.Spec PyProof.Rows L2 PySem.W
/-! ### tuple(d) -/
section
variable {prog : Program} {w : World} {A : Around} {E : Value → Shared → Prop} {s : Shared} {T : String} {r d : Addr} {n : Nat} {P : Nat → Value → Prop} {OK : Heap → Prop}
/-- the items that a dict gives, in a new tuple -/
def Gives (s : Shared) (P : Nat → Value → Prop) (n : Nat) (Q : Value → Shared → Prop) : Prop :=
  ∀ (h' : Heap) (tk : Nat) (acc : Array Value), (∀ b o, s.heap.get? b = some o → h'.get? b = some o) → ItemsOf P acc n → Q (.ref h'.objs.size) { s with heap := h'.push { cls := .type "tuple", data := .seq acc }, toks := tk }
theorem collect_kdl {Q : List Value → Shared → Prop} (k : KdlSrc prog w T r d n P OK) (hh : A.handled = none) (hok : OK s.heap) (hn : n ≤ sizeLine)
    (hQ : ∀ (h' : Heap) (tk : Nat) (acc : Array Value), (∀ b o, s.heap.get? b = some o → h'.get? b = some o) → ItemsOf P acc n → Q acc.toList { s with heap := h', toks := tk }) : wpAny (model prog w) A (collect (.ref r)) Q E s := by
  have lt := k.there _ hok
  unfold collect
  refine wpAny_bind (wpAny_runValue (codeAny_builtin F.entry_proto_collect ?_))
  rw [Around.under_plainId F.plain_proto_collect _]
  show wpAny _ A.in1 (newList [] >>= fun l => again (.builtin "list.__iadd__" ⟨[l, .ref r], []⟩)) _ _ s
  refine wpAny_bind (wpAny_newObj_type ?_)
  refine wpAny_pure ⟨plainId_quiet F.plain_list_iadd _, codeAny_builtin F.entry_list_iadd ?_⟩
  rw [Around.under_plainId F.plain_list_iadd _]
  have hS : (s.heap.push { cls := .type "list", data := .seq ([] : List Value).toArray }).get? s.heap.objs.size = some { cls := .type "list", data := .seq #[] } := Heap.get?_push_size _ rfl
  show wpAny _ A.in1 (Builtin.List.listExtendWith (.ref s.heap.objs.size) (.ref r) (.ref s.heap.objs.size)) _ _ _
  refine wpAny_mono (kdl_extend (A := A) (R := fun rr s' => rr = .ok (.ret (.ref s.heap.objs.size)) ∧ ∃ (h' : Heap) (tk : Nat) (acc : Array Value) (c' : Nat), s' = { s with heap := h', toks := tk } ∧
      (∀ b o, s.heap.get? b = some o → h'.get? b = some o) ∧ h'.get? s.heap.objs.size = some { cls := .type "list", dict := none, data := .seq acc c', slots := #[] } ∧ ItemsOf P acc n)
    (s := { s with heap := s.heap.push { cls := .type "list", data := .seq ([] : List Value).toArray } }) k hh (k.keep _ _ hok fun b _ o e => Heap.get?_push_of_some _ e) s.heap.objs.size (Nat.ne_of_gt lt.1) (Nat.ne_of_gt lt.2) (.ref s.heap.objs.size) _ hS
    (fun h' tk acc c' hk e hi => ⟨rfl, h', tk, acc, c', rfl, fun b o q => hk b o (Nat.ne_of_lt (Heap.lt_size q)) (Heap.get?_push_of_some _ q), e, hi⟩) hn) (fun fin s' h => ?_) (fun e s' h => ?_)
  · cases fin with
    | done f =>
      obtain ⟨e, h', tk, acc, c', rfl, hk, hS', hi⟩ := h
      cases e
      exact wpAny_bind (wpAny_load hS' (wpAny_pure (hQ h' tk acc hk hi)))
    | again c' =>
      refine ⟨h.1, codeAny_mono h.2 fun rr s'' hr' => ?_⟩
      obtain ⟨rfl, h', tk, acc, c', rfl, hk, hS', hi⟩ := hr'
      exact wpAny_bind (wpAny_load hS' (wpAny_pure (hQ h' tk acc hk hi)))
  · exact absurd h.1 (by simp)
theorem code_tuple_kdl {Q₁ : Value → Shared → Prop} (k : KdlSrc prog w T r d n P OK) (hh : A.handled = none) (hok : OK s.heap) (hn : n ≤ sizeLine) (h2 : (Value.type T == Value.type "tuple") = false) (h : Gives s P n Q₁) :
    codeAny (model prog w) A (.call (.builtin "tuple.__new__") ⟨[.type "tuple", .ref r], []⟩) (wants Q₁ E) s := by
  refine codeAny_of_tree ?_
  show wpAny _ A.in1 (do checkBuiltinCall "tuple.__new__" ⟨[.type "tuple", .ref r], []⟩; again (.builtin "tuple.__new__" ⟨[.type "tuple", .ref r], []⟩)) _ _ s
  refine wpAny_bind (wpAny_of_eq (F.newCall_tuple_1 _) (wpAny_pure ⟨plainId_quiet F.plain_tuple_new _, codeAny_builtin F.entry_tuple_new ?_⟩))
  rw [Around.under_plainId F.plain_tuple_new _]
  have a1 := sub_tuple_self
  have a2 := init_tuple_lookup
  have a3 := madeHere_tuple
  have a4 := k.type s hok
  have a5 : A.in1.handled = none := hh
  wp_walk using wpAny_typeOf a4, collect_kdl (A := A.in1) k a5 hok hn
  intro h' tk acc hk hacc
  show wpAny _ _ (Builtin.Tuple.tupleExact acc.toList.toArray >>= fun v => ret v) _ _ _
  unfold Builtin.Tuple.tupleExact
  refine wpAny_bind (wpAny_newObj_type ?_ (by show acc.toList.toArray.size ≤ sizeLine; simp only [Array.toArray_toList]; rw [hacc.1]; exact hn))
  refine wpAny_pure ?_
  have e : acc.toList.toArray = acc := by simp
  rw [e]
  exact h h' tk acc hk hacc
theorem tuple_kdl {Q : Value → Shared → Prop} (k : KdlSrc prog w T r d n P OK) (hh : A.handled = none) (hok : OK s.heap) (hn : n ≤ sizeLine) (h2 : (Value.type T == Value.type "tuple") = false) (h : Gives s P n Q) :
    wpAny (model prog w) A (call (.type "tuple") [.ref r]) Q E s := by
  refine callType_codes (Q₁ := fun obj s₁ => s₁.TypeIs obj "tuple" ∧ Q obj s₁) F.called_tuple (F.typeCall_tuple_1 _) F.entry_object_init
    (code_tuple_kdl (A := A.in1) k hh hok hn h2 fun h' tk acc hk hacc => ⟨⟨_, Heap.get?_push_size _ rfl, rfl⟩, h h' tk acc hk hacc⟩) fun obj s₁ h₁ => ?_
  exact ⟨h₁.1, F.args_object_init_2 obj _, object_init_meets F.called_tuple.init.lookup F.called_tuple.made (by decide) prog w A.in1 _ s₁ ⟨h₁.1, rfl, h₁.2⟩⟩
end
section
variable {X : Cx}
def rTupT : List V → Hp → VK → Prop := fun xs H Q => ∃ d kvs, xs = [V.ref d] ∧ L2.Rd H d (.dT kvs) ∧ ∀ p bs, H p = none → IsKeys H kvs bs → Q (.ref p) (upd H p (.tup (bs.map V.ref)))
theorem call_tuple_dT (hc : X.calm = true) : CallR X (.type "tuple") rTupT := by
  intro pins s σ H xs us Q I r h
  obtain ⟨d, kvs, rfl, hd, q⟩ := h
  obtain ⟨u, rfl, rx⟩ := r.one
  cases rx
  obtain ⟨z, hs, ks, pr, o, es, ep, ho, hx, hdt, he, hn⟩ := (show ObjOk X.prog X.w H s.heap d (.dT kvs) from hd.ok I.hok)
  have l1 : es.size = ks.length := size_of_entries he
  have l2 : kvs.length = ks.length := Paired.length pr
  refine tuple_kdl (kdl_raw hs hx hdt) (I.ok.hd hc) ho (by omega) (by decide) fun h' tk acc' kp it => ?_
  have ea : acc'.toList = ks.map fun x => Value.ref x.2.1 := by
    have hl : acc'.toList.length = ks.length := by rw [Array.length_toList, it.1]; exact l1
    apply List.ext_getElem?
    intro j
    rw [List.getElem?_map]
    cases hj : acc'.toList[j]? with
    | none =>
      have h1 := List.getElem?_eq_none_iff.mp hj
      rw [List.getElem?_eq_none (by omega)]
      all_goals rfl
    | some v =>
      obtain ⟨en, hen, hv⟩ := it.2 j v (by rw [← Array.getElem?_toList]; exact hj)
      have qe := entry_at he j
      rw [hen] at qe
      cases hb : ks[j]? with
      | none =>
        rw [hb] at qe
        exact nomatch (show some en = none from qe)
      | some b =>
        rw [hb] at qe
        have e2 : en = entryOfKey (tupleKind (mixKind X.prog X.w)) b := Option.some.inj qe
        rw [hv, e2]
        all_goals rfl
  have eb : acc'.toList = (ks.map fun x => x.2.1).map Value.ref := by rw [ea, List.map_map]; all_goals rfl
  have rv : Vals ((ks.map fun x => x.2.1).map V.ref) acc'.toList := by rw [eb]; exact vals_refs _
  have hz : ((ks.map fun x => x.2.1).map V.ref).length ≤ sizeLine := by rw [List.length_map, List.length_map]; omega
  have I1 : Inv X pins σ H { s with heap := h' } := I.kept (t' := s.toks) kp
  have I2 : Inv X pins σ (upd H h'.objs.size (.tup ((ks.map fun x => x.2.1).map V.ref))) { s with heap := h'.push { cls := .type "tuple", data := .seq acc' }, toks := tk } :=
    (I1.laid (t' := s.toks) (fun b o e => Heap.get?_push_of_some _ e) (Nat.le_refl _) (show ObjOk X.prog X.w _ _ _ (.tup ((ks.map fun x => x.2.1).map V.ref)) from ⟨hz, acc'.toList, rv, by rw [Array.toArray_toList]; exact IsTup.new _ _⟩)).tok tk
  exact ⟨.ref h'.objs.size, _, I2, rfl, q _ _ (I1.hok.fresh (Nat.le_refl _)) (isKeys_of pr)⟩
/-! ### del d[k] -/
def sDelT (td ty : TE) : TS := fun D σ H => td σ H fun x H1 => ty σ H1 fun y H2 => ∃ (a : Addr) (kvs : List (List L2.Key × V)) (k : List L2.Key) (b : Addr) (v : V), x = .ref a ∧ H2 a = some (.dT kvs) ∧ y = .ref b ∧ H2 b = some (.tup (k.map kV)) ∧ valV kvs k = some v ∧ D.nx σ (upd H2 a (.dT (dropK kvs k)))
theorem d_delT {A : Around} {Ex : Value → Shared → Prop} {pins : List (Addr × Obj)} {σ : L2.St} {H : Hp} {s : Shared} {Q : Unit → Shared → Prop} {a b : Addr} {kvs : List (List L2.Key × V)} {k : List L2.Key} {v : V} (hu : A.units + 1 < cLine) (I : Inv X pins σ H s) (ha : H a = some (.dT kvs)) (hb : H b = some (.tup (k.map kV))) (hv : valV kvs k = some v)
    (h : ∀ s', Inv X pins σ (upd H a (.dT (dropK kvs k))) s' → Q () s') : wpAny (model X.prog X.w) A (delItem (.ref a) (.ref b)) Q Ex s := by
  obtain ⟨z, hd, xs', rel, dd⟩ := dt_of I.hok ha
  have hz : xs'.length ≤ sizeLine := by rw [← Paired.length rel]; exact z
  have r := rel.val k
  rw [hv] at r
  cases hp : atKey xs' k with
  | none =>
    rw [hp] at r
    exact (show False from r).elim
  | some p =>
    refine wpAny_delItem_heap (knd := tupleKind (mixKind X.prog X.w)) (tupleKind_room_in1 hu) (key_of I.hok hb) hd dd hp (fun h' dd' hs => h _ ?_) hz
    obtain ⟨o, es, ep, hq, h2, h3, h4, _, h5⟩ := dd'
    have kd : KT H (dropK kvs k) (withoutH xs' k) := L2.DX.KT_drop k rel
    exact d_write I (by rw [ha]; exact True.intro) hs ⟨o, hq⟩ ⟨Nat.le_trans (dropK_le kvs k) z, hd, _, kd.keeps (fun c ys ec => (by rw [upd_ne (ne_of ec ha (fun z => nomatch z))]; exact ec)), o, es, ep, hq, h2, h3, h4, h5⟩
theorem ps_ddelT {o i : Expr} {td ty : TE} {tpos pos : Pos} (hu : X.A.units + 1 < cLine) (ho : PE X o td) (hi : PE X i ty) : PS X (.Delete [.Subscript o i tpos] pos) (sDelT td ty) := by
  refine ⟨fun pins s σ H D I h => ?_⟩
  refine wpAny_Delete (wpAny_deleteEach_cons (wpAny_delete_Subscript (thn (ho.run pins s σ H _ I h) fun u s1 ⟨x, H1, I1, rx, q1⟩ => thn (hi.run pins s1 σ H1 _ I1 q1) fun iv s2 ⟨y, H2, I2, ry, a, kvs, k, b, v, ex, e, ey, eb, l, q2⟩ => ?_)))
  subst ex ey
  obtain rfl : u = Value.ref a := rx
  obtain rfl : iv = Value.ref b := ry
  exact d_delT hu I2 e eb l fun s3 I3 => wpAny_deleteEach_nil ⟨σ, _, I3, q2⟩
end
/-! ### calls within a try: what is raised is wished for at the slots as they stand -/
def tMeS (C : Addr) (ns : List Str) (sp : Sp) (E : L2.St → XK) (ta : TE) (t : TA) : TE := fun σ H Q => ta σ H fun x H1 => ∃ p, x = .ref p ∧ IsI H1 C p ns ∧ t σ H1 fun vs H2 => sp (x :: vs) H2 Q (E σ)
def tCaS (i : Nat) (f : Addr) (sp : Sp) (E : L2.St → XK) (t : TA) : TE := fun σ H Q => σ[i]? = some (some (.ref f)) ∧ t σ H fun vs H1 => sp vs H1 Q (E σ)
section
variable {X : Cx} {k j i : Nat} {C f : Addr} {fd : FuncData} {ps : List Str} {m x : Str} {sp : Sp} {apos pos p : Pos} {o e : Expr} {es : List Expr} {ta : TE} {t : TA} {CX : CXT} {E : L2.St → XK} {pl : Sem Bool}
theorem pe_mS (ns : List Str) (c : CalM X.prog X.w X.K X.mg X.base CX k C m sp) (cl : Cls X.K C) (hno : ns.contains m = false) (hr : Room j X.A) (hk : k ≤ j) (hx : ∀ σ, PassesAt CX X σ (E σ)) (he : PE X o ta) (ha : PA X (e :: es) t)
    (hst : starEach (e :: es) X.env = (false, eval e X.env) :: starEach es X.env := by rfl) (hpl : (backTo pos (starEach es X.env)).any (·.1) = false := by rfl)
    (ht : eval (.Call (.Attribute o m apos) (e :: es) [] pos) X.env = (do
      let ov ← eval o X.env
      standAt apos.atName
      let (f, first) ← holding [ov] (getMethod ov m pl)
      callWith pos f first (backTo pos (starEach (e :: es) X.env)) (backToKw pos (keywordEach [] X.env))) := by rfl) :
    PE X (.Call (.Attribute o m apos) (e :: es) [] pos) (tMeS C ns sp E ta t) := by
  obtain ⟨f, fd, ps, F, hm, b⟩ := c.ex
  refine ⟨fun pins s σ H Q I h => ?_⟩
  refine PySem.W.methodCall_KW (pl := pl) (thn (he.run pins s σ H _ I h) fun u s1 ⟨x, H1, I1, rx, a, ex, ⟨dx, fs, hp, hn⟩, q⟩ => ?_) ht
  subst ex
  obtain rfl : u = Value.ref a := rx
  refine getmeth_ok I1 hp cl hm (lookup_no hn hno) ?_
  refine PySem.W.callWith_K (first := [.ref a]) (h₀ := X.base) I.ok.mod.kin hm.kp (thn (ha.run pos pins s1 σ H1 _ I1 q) fun us s2 ⟨vs, H2, I2, r, q2⟩ => ⟨I2.kIn, ?_⟩) hst hpl
  exact run_fnS (us := .ref a :: us) (vs := .ref a :: vs) F (hr.mono hk) b (hx σ) I2 (.cons rfl r) q2
theorem pe_mS0 (ns : List Str) (c : CalM X.prog X.w X.K X.mg X.base CX k C m sp) (cl : Cls X.K C) (hno : ns.contains m = false) (hr : Room j X.A) (hk : k ≤ j) (hx : ∀ σ, PassesAt CX X σ (E σ)) (he : PE X o ta)
    (ht : eval (.Call (.Attribute o m apos) [] [] pos) X.env = (do
      let ov ← eval o X.env
      standAt apos.atName
      let (f, first) ← holding [ov] (getMethod ov m pl)
      callWith pos f first (backTo pos (starEach [] X.env)) (backToKw pos (keywordEach [] X.env))) := by rfl) :
    PE X (.Call (.Attribute o m apos) [] [] pos) (tMeS C ns sp E ta tNil) := by
  obtain ⟨f, fd, ps, F, hm, b⟩ := c.ex
  refine ⟨fun pins s σ H Q I h => ?_⟩
  refine PySem.W.methodCall_KW (pl := pl) (thn (he.run pins s σ H _ I h) fun u s1 ⟨x, H1, I1, rx, a, ex, ⟨dx, fs, hp, hn⟩, q⟩ => ?_) ht
  subst ex
  obtain rfl : u = Value.ref a := rx
  refine getmeth_ok I1 hp cl hm (lookup_no hn hno) ?_
  exact PySem.W.callWith_K0 (first := [.ref a]) I1.kIn hm.kp (run_fnS (us := [.ref a]) (vs := [.ref a]) F (hr.mono hk) b (hx σ) I1 (.cons rfl .nil) q)
theorem pe_caS (F : FnOk X.prog X.w X.K X.mg X.base CX k f fd ps sp) (hr : Room j X.A) (hkj : k ≤ j) (hN : X.N[i]? = some x) (hv : Vis X.env.scope x) (hk : PySem.W.keepIn X.K (.ref f) = true) (hb : Binds X.K fd ps []) (hx : ∀ σ, PassesAt CX X σ (E σ)) (ha : PA X (e :: es) t)
    (hdb : (x == ("__debug__" : Str)) = false := by decide) (hcd : (x == ("__classdict__" : Str)) = false := by decide)
    (he : starEach (e :: es) X.env = (false, eval e X.env) :: starEach es X.env := by rfl) (hpl : (backTo pos (starEach es X.env)).any (·.1) = false := by rfl) : PE X (.Call (.Name x p) (e :: es) [] pos) (tCaS i f sp E t) := by
  refine ⟨fun pins s σ H Q I h => ?_⟩
  obtain ⟨hs, ht⟩ := h
  refine wpAny_Call_Name_kw (thn ((pe_var (pos := p) hN hv hdb hcd).run pins s σ H (fun v H1 => v = .ref f ∧ H1 = H) I ⟨.ref f, hs, rfl, rfl⟩) fun u s1 ⟨v, H1, I1, r1, q1⟩ => ?_)
  obtain ⟨rfl, rfl⟩ := q1
  cases r1
  refine PySem.W.callWith_K (h₀ := X.base) I.ok.mod.kin hk (thn (ha.run pos pins s1 σ _ _ I1 ht) fun us s2 ⟨vs, H2, I2, r, q⟩ => ⟨I2.kIn, ?_⟩) he hpl
  exact run_fnS F (hr.mono hkj) hb (hx σ) I2 r q
end
/-! ### try .. finally -/
/-- the body's reading with what is wished of its errors; then the suite, either way -/
def tFi (tb : WX → TS) (tf tfs : TS) (Wout : WX) : TS := fun D σ H => tb (wFin tfs Wout) { nx := fun σ1 H1 => tf D σ1 H1, rt := fun _ _ => False } σ H
section
variable {X : Cx} {body : List Stmt} {f₀ : Stmt} {fs : List Stmt} {pos : Pos} {tb : WX → TS} {tf tfs : TS} {Wout : WX}
theorem ps_fi (hs : X.stack = X.env :: X.outer) (hf : X.env.frame = some X.env.locals) (hex : X.ex = []) (tk : Takes X Wout)
    (hb : ∀ (W : WX) (pn : List (Addr × Obj)) (xe : Value → Shared → Prop), Takes (X.tr pn xe) W → PassesOwn (model X.prog X.w) X.A X.env xe → PSs (X.tr pn xe) body (tb W))
    (hfin : PSs X.nox (f₀ :: fs) tf) (hsu : ∀ (a : Addr) (pn : List (Addr × Obj)), PSs (X.suite a pn) (f₀ :: fs) tfs) : PS X (.Try body [] [] (f₀ :: fs) pos) (tFi tb tf tfs Wout) := by
  refine ⟨fun pins s σ H D I h => ?_⟩
  have ok := I.ok
  let xe : Value → Shared → Prop := fun x s₁ => wpAny (model X.prog X.w) X.A (noteFrame x X.env) (fun _ s₂ => FinallyRaised X.prog X.w X.A X.xe X.env (f₀ :: fs) (SP X pins D) x s₂) (FinallyRaised X.prog X.w X.A X.xe X.env (f₀ :: fs) (SP X pins D)) s₁
  have takes : Takes (X.tr (X.pn ++ pins) xe) (wFin tfs Wout) := fun u s' xx => fin_exc hs hf hex ok tk hsu xx
  have run := (hb (wFin tfs Wout) (X.pn ++ pins) xe takes PassesOwn.looking).run [] s σ H { nx := fun σ1 H1 => tf D σ1 H1, rt := fun _ _ => False } (I.toTry _) h
  refine wpAny_Try_finally (wpAny_mono run (fun g s1 z => ?_) fun x s1 hx => hx)
  cases g with
  | ret u =>
    obtain ⟨_, _, _, _, _, q⟩ := z
    exact q.elim
  | brk =>
    obtain ⟨_, _, _, q⟩ := z
    exact False.elim q
  | cont =>
    obtain ⟨_, _, _, q⟩ := z
    exact False.elim q
  | next =>
    obtain ⟨σ1, H1, J1, q1⟩ := z
    refine wpAny_execs_nil (wpAny_mono (hfin.run pins s1 σ1 H1 D ((J1.ofTry ok).wish _) q1) (fun g2 s2 q2 => ?_) fun _ _ e => False.elim e)
    have q3 : SP X pins D g2 s2 := q2.unwish
    cases g2 <;> exact q3
end
end Sn

namespace Sn
open PySem PySem.Spec PyProof.Rows L2 TL
/-! ### the text -/
def topS (i : Nat) : Stmt := PySem.Challenge.pw_samenames_k21_kept_values_are_fresh.main.body.getD i (.Pass ⟨0, 0, 0, 0⟩)
/-- the built-in names that stand as they are -/
structure Nm (mg : Str → Option Value) : Prop where
  abs : mg "abs" = none
  int_ : mg "int" = none
  len : mg "len" = none
  range : mg "range" = none
  isinstance : mg "isinstance" = none
  bool_ : mg "bool" = none
  str_ : mg "str" = none
  tuple_ : mg "tuple" = none
  list_ : mg "list" = none
section
variable {P : Program} {w : World} {K : PySem.W.Frag} {mg : Str → Option Value} {base : Heap} {f : Addr} {fd : FuncData}
abbrev s_tape : Stmt := topS 9
abbrev N_tape : List Str := ["script", "cell", "cells", "seed"]
theorem sc_tape : FnScope N_tape ["script"] (defScope s_tape) := ⟨rfl, rfl, rfl, by decide +kernel, rfl, by decide +kernel, by decide +kernel⟩
theorem nonneg_abs (i : Int) : 0 ≤ (if i < 0 then -i else i) := by
  split <;> omega
theorem ok_tape (F : Fun K "_law_tape" "_law_tape" s_tape f fd) (T : Nm mg) : FnOk P w K mg base CX0 1 f fd ["script"] (spTape K) := by
  refine F.ok sc_tape (fun vs H Q E h => ?_) (fun cdv A outer s H vs Q E hr h => ?_)
  · obtain ⟨a, ns, rfl, _⟩ := h
    rfl
  obtain ⟨a, ns, rfl, hS, hl, q⟩ := h
  refine ⟨_, (pss_cons (ps_setLc (i := 2) (own := [(("cell" : Str), 1)]) (g := (gName 1)) (tt := tYes) (by rfl) sc_tape.nd rfl rfl (sw_true rfl rfl rfl (by decide +kernel)) (pi_list (pv 0)) (blkOk_by (N := N_tape) (sc := defScope s_tape) (by decide +kernel)) (fun _ _ _ _ _ => (pg_name (i := 1) sc_tape.nd rfl (Or.inl rfl))) (fun _ _ _ _ _ => pts_nil) (fun _ _ _ _ _ => (pe_callB call_abs (by rfl) T.abs (by decide +kernel) (pa_cons (pe_callTy call_int1 (by rfl) T.int_ (by decide +kernel) (pa_cons (pv 1) pa_nil)) pa_nil))))
    (pss_cons (ps_set (i := 3) sc_tape.nd rfl (Or.inl rfl) pe_int)
    (pss_cons (ps_for PassesOwn.never rfl (pi_list (pv 2)) (pg_name (i := 1) sc_tape.nd rfl (Or.inl rfl)) (pss_one (ps_set (i := 3) sc_tape.nd rfl (Or.inl rfl) (pe_op op_mod (pe_callTy call_int1 (by rfl) T.int_ (by decide +kernel) (pa_cons (pe_op op_add (pe_op op_mul (pv 3) pe_int) (pv 1)) pa_nil)) pe_int))))
    (pss_one (ps_ret (pe_disp (pps_cons pe_str (pv 2) (pps_cons pe_str pe_int (pps_cons pe_str pe_int (pps_cons pe_str (pv 3) (pps_cons pe_str pe_int pps_nil))))) (by rfl) (by rfl) (fun z => by cases z) (by decide))))))), ?_⟩
  -- cells
  refine ⟨_, rfl, a, rfl, ⟨_, hS⟩, fun D hD => ?_⟩
  have s1 : Same H (upd H D (.lst [])) := same_new hD
  refine lc_list (K := K) (a := a) (xs := ns.map V.int) (fun i H' => Same H H' ∧ ∃ cs : List Int, H' D = some (.lst (cs.map V.int)) ∧ cs.length = i ∧ ∀ x ∈ cs, 0 ≤ x)
    ⟨s1, [], upd_same, rfl, fun _ h => nomatch h⟩ (fun i H' _ h => h.1.seq hS) ?_ ?_
  · rintro i x H' hi ⟨sm, cs, hd, hc, hp⟩
    obtain ⟨u, rfl⟩ : ∃ u, x = V.int u := by
      rw [List.getElem?_map] at hi
      cases e : ns[i]? with
      | none => rw [e] at hi; cases hi
      | some u => rw [e] at hi; exact ⟨u, (Option.some.inj hi).symm⟩
    have hi2 : i < ns.length := by
      have z := (List.getElem?_eq_some_iff.mp hi).1
      rwa [List.length_map] at z
    refine ⟨rfl, ?_⟩
    refine ⟨_, rfl, .inl ⟨_, rfl, _, rfl, cs.map V.int, hd, ?_, ?_⟩⟩
    · rw [List.length_map]; exact Nat.lt_of_lt_of_le (show cs.length < 1000 by omega) (by decide)
    · refine ⟨fun b o e => ?_, cs ++ [if u < 0 then -u else u], ?_, by simp [hc], fun y hy => ?_⟩
      · rw [upd_ne (ne_of_none e hD)]; exact sm _ _ e
      · rw [upd_same, List.map_append] <;> rfl
      · rcases List.mem_append.mp hy with hy | hy
        · exact hp y hy
        · rw [List.mem_singleton.mp hy]; exact nonneg_abs u
  · rintro H1 ⟨sm, cs, hd, hc, hp⟩
    -- seed
    refine ⟨_, rfl, D, rfl, ⟨_, .inl (.inl hd)⟩, for_list (K := K) (a := D) (xs := cs.map V.int) (fun i σ H' => ∃ (v : Option V) (se : Int), σ = [some (.ref a), v, some (.ref D), some (.int se)] ∧ H' = H1 ∧ 0 ≤ se ∧ se < 2147483647)
      ⟨none, 7, rfl, rfl, by decide, by decide⟩ (fun i σ H' _ ⟨_, _, _, e, _⟩ => by rw [e]; exact .inl (.inl hd)) ?_ ?_⟩
    · rintro i x σ H' hi ⟨v, se, rfl, rfl, h0, h1⟩
      obtain ⟨u, rfl⟩ : ∃ u, x = V.int u := by
        rw [List.getElem?_map] at hi
        cases e : cs[i]? with
        | none => rw [e] at hi; cases hi
        | some u => rw [e] at hi; exact ⟨u, (Option.some.inj hi).symm⟩
      refine ⟨_, rfl, _, _, rfl, rfl, .inr ⟨by decide, by decide⟩, _, rfl, _, _, rfl, rfl, .inl ⟨_, rfl, _, _, rfl, rfl, (by show (0 : Int) < 2147483647; decide), ?_⟩⟩
      exact ⟨_, _, rfl, rfl, Int.emod_nonneg _ (by decide), Int.emod_lt_of_pos _ (by decide)⟩
    · rintro σ H' ⟨v, se, rfl, rfl, h0, h1⟩
      -- the dict
      intro t ht
      have hDt : D ≠ t := ne_of_none hd ht
      refine ⟨_, rfl, ?_⟩
      refine ⟨_, rfl, ?_⟩
      refine ⟨upd_same, tk D 0 0 se 0, rfl, (by show 5 ≤ 15; decide), ?_⟩
      rw [upd_upd]
      have e : mergeK [] (tk D 0 0 se 0) = tk D 0 0 se 0 := by kernel_rfl
      rw [e]
      exact q t D _ (fun b o z => by rw [upd_ne (ne_of_none (sm _ _ z) ht)]; exact sm _ _ z) (sm.free ht) hD
        ⟨cs, 0, 0, se, 0, upd_same, by rw [upd_ne hDt]; exact hd, hp, by decide, by decide, h0, h1⟩

abbrev s_take : Stmt := topS 10
abbrev N_take : List Str := ["tape", "many", "drawn", "mixed"]
theorem sc_take : FnScope N_take ["tape", "many"] (defScope s_take) := ⟨rfl, rfl, rfl, by decide +kernel, rfl, by decide +kernel, by decide +kernel⟩
theorem ok_take (F : Fun K "_law_take" "_law_take" s_take f fd) (T : Nm mg) : FnOk P w K mg base CX0 1 f fd ["tape", "many"] spTake := by
  refine F.ok sc_take (fun vs H Q E h => ?_) (fun cdv A outer s H vs Q E hr h => ?_)
  · obtain ⟨t, c, n, rfl, _⟩ := h
    rfl
  obtain ⟨t, c, n, rfl, ⟨cs, a, l, se, sa, z⟩, hn, hn2, q⟩ := h
  refine ⟨_, (C8.pss_cut (ps_if (PW.pt (pw_and (pt_cmpR op_eq (pe_dget (hu_of hr) (pv 0) pe_str (fun _ _ => rfl)) pe_int (nomark _)) (pw_and1 (pt_cmpR op_lt (pe_dget (hu_of hr) (pv 0) pe_str (fun _ _ => rfl)) (pe_callB call_len_seq (by rfl) T.len PySem.boot_len (pa_cons (pe_dget (hu_of hr) (pv 0) pe_str (fun _ _ => rfl)) pa_nil)) (nomark _))))) (pss_cons (ps_dput (hu_of hr) (pv 0) pe_str (pe_ix (r := rIxL K) ix_list (pe_dget (hu_of hr) (pv 0) pe_str (fun _ _ => rfl)) (pe_dget (hu_of hr) (pv 0) pe_str (fun _ _ => rfl)) (fun _ _ => rfl)) rfl)
    (pss_one (ps_dput (hu_of hr) (pv 0) pe_str (pe_op op_add (pe_dget (hu_of hr) (pv 0) pe_str (fun _ _ => rfl)) pe_int) rfl))) pss_nil)
    (pss_cons (ps_if (pt_cmpR op_gt (pe_dget (hu_of hr) (pv 0) pe_str (fun _ _ => rfl)) pe_int (nomark _)) (pss_cons (ps_set (i := 2) sc_take.nd rfl (Or.inl rfl) (pe_op op_mod (pe_callTy call_int1 (by rfl) T.int_ (by decide +kernel) (pa_cons (pe_dget (hu_of hr) (pv 0) pe_str (fun _ _ => rfl)) pa_nil)) (pv 1)))
    (pss_cons (ps_dput (hu_of hr) (pv 0) pe_str (pe_op op_fdiv (pe_dget (hu_of hr) (pv 0) pe_str (fun _ _ => rfl)) (pv 1)) rfl)
    (pss_one (ps_ret (pv 2))))) pss_nil)
    (pss_cons (ps_dput (hu_of hr) (pv 0) pe_str (pe_op op_add (pe_dget (hu_of hr) (pv 0) pe_str (fun _ _ => rfl)) pe_int) rfl)
    (pss_cons (ps_set (i := 3) sc_take.nd rfl (Or.inl rfl) (pe_op op_mod (pe_callTy call_int1 (by rfl) T.int_ (by decide +kernel) (pa_cons (pe_op op_add (pe_op op_mul (pe_dget (hu_of hr) (pv 0) pe_str (fun _ _ => rfl)) pe_int) (pe_op op_mul (pe_dget (hu_of hr) (pv 0) pe_str (fun _ _ => rfl)) pe_int)) pa_nil)) pe_int))
    (pss_cons (ps_set (i := 3) sc_take.nd rfl (Or.inl rfl) (pe_op op_mod (pe_callTy call_int1 (by rfl) T.int_ (by decide +kernel) (pa_cons (pe_op op_add (pe_op op_add (pe_op op_mul (pv 3) (pv 3)) (pe_op op_mul (pe_dget (hu_of hr) (pv 0) pe_str (fun _ _ => rfl)) pe_int)) pe_int) pa_nil)) pe_int))
    (pss_one (ps_ret (pe_op op_mod (pe_callTy call_int1 (by rfl) T.int_ (by decide +kernel) (pa_cons (pv 3) pa_nil)) (pv 1))))))))), ?_⟩
  -- if tape['left'] == 0 and tape['at'] < len(tape['cells'])
  refine ⟨fun σ H' => σ = L2.start N_take [.ref t, .int n] ∧ ∃ a l, But t H H' ∧ TkAt H' t c cs a l se sa, ?_, ?_⟩
  · refine ⟨_, rfl, t, _, rfl, z.dg g_left, rfl, _, rfl, ?_⟩
    refine ite2 (fun _ => ?_) (fun _ => iteF ⟨rfl, a, l, But.refl t H, z⟩)
    refine ⟨_, rfl, t, _, rfl, z.dg g_at, _, rfl, t, _, rfl, z.dg g_cells, c, _, rfl, .inl (.inl (.inl z.cl)), _, _, rfl, rfl, _, rfl, ?_⟩
    refine ite2 (fun ha => ?_) (fun _ => ⟨rfl, a, l, But.refl t H, z⟩)
    have ha : a < ((cs.map V.int).length : Int) := of_decide_eq_true ha
    rw [List.length_map] at ha
    have hj : a.toNat < cs.length := by have := z.a0; omega
    have ea : a = (a.toNat : Int) := by have := z.a0; omega
    have g1 : (cs.map V.int)[a.toNat]? = some (.int cs[a.toNat]) := by
      rw [List.getElem?_map, List.getElem?_eq_getElem hj] <;> rfl
    refine ⟨_, rfl, t, _, rfl, z.dg g_cells, _, rfl, t, _, rfl, z.dg g_at, c, _, _, _, rfl, rfl, .inl (.inl z.cl), at_of ea g1, _, rfl, t, _, rfl, z.pLeft, ?_⟩
    have z1 := z.sLeft (v := cs[a.toNat]) (z.cp _ (List.getElem_mem hj))
    refine ⟨_, rfl, t, _, rfl, z1.dg g_at, _, _, rfl, rfl, _, rfl, t, _, rfl, z1.pAt, ?_⟩
    exact ⟨rfl, _, _, ((But.refl t H).upd).upd, z1.sAt (by have := z.a0; omega)⟩
  rintro σ H1 ⟨rfl, a, l, bt, z⟩
  -- if tape['left'] > 0
  refine ⟨_, rfl, t, _, rfl, z.dg g_left, _, _, rfl, rfl, _, rfl, ?_⟩
  refine ite2 (fun hl => ?_) (fun _ => ?_)
  · have hl : 0 < l := of_decide_eq_true hl
    refine ⟨_, rfl, t, _, rfl, z.dg g_left, .inl ⟨_, rfl, _, rfl, _, _, rfl, rfl, hn, ?_⟩⟩
    refine ⟨_, rfl, t, _, rfl, z.dg g_left, _, rfl, _, _, rfl, rfl, ⟨hn, hn2⟩, _, rfl, t, _, rfl, z.pLeft, ?_⟩
    refine ⟨_, rfl, ?_⟩
    exact q _ _ (Int.emod_nonneg _ (by omega)) (Int.emod_lt_of_pos _ hn) bt.upd ⟨cs, a, _, se, sa, z.sLeft (Int.ediv_nonneg z.l0 (by omega))⟩
  · refine ⟨_, rfl, t, _, rfl, z.dg g_salt, _, _, rfl, rfl, _, rfl, t, _, rfl, z.pSalt, ?_⟩
    have z1 := z.sSalt (v := sa + 1)
    have b1 : But t H (upd H1 t (.dK (tk c a l se (sa + 1)))) := bt.upd
    generalize upd H1 t (.dK (tk c a l se (sa + 1))) = H2 at z1 b1 ⊢
    refine ⟨_, rfl, t, _, rfl, z1.dg g_seed, _, _, rfl, rfl, .inr ⟨by decide, by decide⟩, _, rfl, t, _, rfl, z1.dg g_salt, _, _, rfl, rfl, .inr ⟨by decide, by decide⟩, _, _, rfl, rfl, .inl ⟨_, rfl, _, _, rfl, rfl, (by show (0 : Int) < 2147483647; decide), ?_⟩⟩
    have hm := Int.emod_lt_of_pos (se * 48271 + (sa + 1) * 69621) (show (0 : Int) < 2147483647 by decide)
    have hm0 := Int.emod_nonneg (se * 48271 + (sa + 1) * 69621) (show (2147483647 : Int) ≠ 0 by decide)
    generalize (se * 48271 + (sa + 1) * 69621) % 2147483647 = mx at hm hm0 ⊢
    refine ⟨_, rfl, _, rfl, _, _, rfl, rfl, .inl ⟨by omega, by omega⟩, _, rfl, t, _, rfl, z1.dg g_salt, _, _, rfl, rfl, .inr ⟨by decide, by decide⟩, _, _, rfl, rfl, _, _, rfl, rfl, .inl ⟨_, rfl, _, _, rfl, rfl, (by show (0 : Int) < 2147483399; decide), ?_⟩⟩
    refine ⟨_, rfl, .inl ⟨_, rfl, _, rfl, _, _, rfl, rfl, hn, ?_⟩⟩
    exact q _ _ (Int.emod_nonneg _ (by omega)) (Int.emod_lt_of_pos _ hn) b1 ⟨cs, a, l, se, _, z1⟩

abbrev s_isInt : Stmt := topS 11
abbrev N_isInt : List Str := ["actual"]
theorem sc_isInt : FnScope N_isInt ["actual"] (defScope s_isInt) := ⟨rfl, rfl, rfl, by decide +kernel, rfl, by decide +kernel, by decide +kernel⟩
theorem ok_isInt (F : Fun K "_law_is_integer" "_law_is_integer" s_isInt f fd) (T : Nm mg) : FnOk P w K mg base CX0 1 f fd ["actual"] spIsInt := by
  refine F.ok sc_isInt (fun vs H Q E h => ?_) (fun cdv A outer s H vs Q E hr h => ?_)
  · obtain ⟨i, rfl, _⟩ := h
    rfl
  obtain ⟨i, rfl, q⟩ := h
  refine ⟨_, (pss_one (ps_ret (pe_and (pe_callB call_isi (by rfl) T.isinstance (by decide +kernel) (pa_cons (pv 0) (pa_cons (pe_bltn (v := .ty "int") (u := .type "int") (by rfl) T.int_ (by decide +kernel) rfl) pa_nil))) (pe_one (pe_not (pe_callB call_isi (by rfl) T.isinstance (by decide +kernel) (pa_cons (pv 0) (pa_cons (pe_bltn (v := .ty "bool") (u := .type "bool") (by rfl) T.bool_ (by decide +kernel) rfl) pa_nil)))))))), ?_⟩
  refine ⟨_, rfl, _, _, _, _, true, rfl, .ty _, .base (.int _), kit_ty (by decide +kernel), _, rfl, ?_⟩
  refine ⟨_, rfl, _, _, _, _, false, rfl, .ty _, .base (.int _), kit_ty (by decide +kernel), _, rfl, q⟩

abbrev s_sameItems : Stmt := topS 12
abbrev N_sameItems : List Str := ["actual", "expected", "k"]
theorem sc_sameItems : FnScope N_sameItems ["actual", "expected"] (defScope s_sameItems) := ⟨rfl, rfl, rfl, by decide +kernel, rfl, by decide +kernel, by decide +kernel⟩
theorem ok_items {n : Nat} (F : Fun K "_law_same_items" "_law_same_items" s_sameItems f fd) (T : Nm mg) (C_law_same : Cal P w K mg base CX0 (2 * n) "_law_same" (spSame n)) : FnOk P w K mg base CX0 (2 * n + 1) f fd ["actual", "expected"] (spItems n) := by
  refine F.ok sc_sameItems (fun vs H Q E h => ?_) (fun cdv A outer s H vs Q E hr h => ?_)
  · obtain ⟨a, b, xs, ys, rfl, _⟩ := h
    rfl
  obtain ⟨a, b, xs, ys, rfl, hs, hl, hm, al, q⟩ := h
  have sa : SqL K H a xs ∨ SqT K H a xs := hs.elim (fun h => .inr (.inl (.inl h.1))) fun h => .inl (.inl (.inl h.1))
  have sb : SqL K H b ys ∨ SqT K H b ys := hs.elim (fun h => .inr (.inl (.inl h.2))) fun h => .inl (.inl (.inl h.2))
  refine ⟨_, (pss_cons (ps_if (pt_cmpR op_ne (pe_callB call_len_seq (by rfl) T.len PySem.boot_len (pa_cons (pv 0) pa_nil)) (pe_callB call_len_seq (by rfl) T.len PySem.boot_len (pa_cons (pv 1) pa_nil)) (nomark _)) (pss_one (ps_ret pe_bl)) pss_nil)
    (pss_cons (ps_for PassesOwn.never rfl (pi_range1 (by rfl) T.range (pa_cons (pe_callB call_len_seq (by rfl) T.len PySem.boot_len (pa_cons (pv 1) pa_nil)) pa_nil)) (pg_name (i := 2) sc_sameItems.nd rfl (Or.inl rfl)) (pss_one (ps_if (pt_not (pt_val (pe_c C_law_same hr (by first | decide | omega) pass0 (pa_cons (pe_ix (r := rIx K) ix_seq (pv 0) (pv 2) (fun _ _ => rfl)) (pa_cons (pe_ix (r := rIx K) ix_seq (pv 1) (pv 2) (fun _ _ => rfl)) pa_nil))))) (pss_one (ps_ret pe_bl)) pss_nil)))
    (pss_one (ps_ret pe_bl)))), ?_⟩
  refine ⟨_, rfl, a, xs, rfl, sa, _, rfl, b, ys, rfl, sb, rfl, _, rfl, ?_⟩
  refine iteNS (by rw [hl]) ?_
  refine ⟨_, rfl, b, ys, rfl, sb, _, rfl, by omega, by omega, for_range (lo := 0) (n := ((ys.length : Nat) : Int).toNat) (fun i σ H' => H' = H ∧ ∃ v, σ = [some (.ref a), some (.ref b), v]) ⟨rfl, none, rfl⟩ ?_ ?_⟩
  · rintro i σ H' hi ⟨rfl, v, rfl⟩
    have hi1 : i < ys.length := by omega
    have hi2 : i < xs.length := by omega
    have ei : ((0 : Int) + (i : Nat)) = ((i : Nat) : Int) := Int.zero_add _
    have g1 := List.getElem?_eq_getElem hi2
    have g2 := List.getElem?_eq_getElem hi1
    refine ⟨_, rfl, _, rfl, ?_⟩
    have r1 : ∀ {Q' : VK}, Q' xs[i] H' → rIx K (.ref a) (.int (0 + (i : Nat))) H' Q' := fun {Q'} h => sa.elim (fun s => .inl ⟨a, xs, _, _, rfl, rfl, s, at_of ei g1, h⟩) fun s => .inr (.inl ⟨a, xs, _, _, rfl, rfl, s, at_of ei g1, h⟩)
    have r2 : ∀ {Q' : VK}, Q' ys[i] H' → rIx K (.ref b) (.int (0 + (i : Nat))) H' Q' := fun {Q'} h => sb.elim (fun s => .inl ⟨b, ys, _, _, rfl, rfl, s, at_of ei g2, h⟩) fun s => .inr (.inl ⟨b, ys, _, _, rfl, rfl, s, at_of ei g2, h⟩)
    refine r1 ⟨_, rfl, _, rfl, r2 ?_⟩
    refine ⟨_, _, rfl, al i _ _ g1 g2, _, rfl, ?_⟩
    exact ⟨rfl, _, rfl⟩
  · rintro σ H' ⟨rfl, v, rfl⟩
    exact q

abbrev s_same : Stmt := topS 13
abbrev N_same : List Str := ["actual", "expected", "key"]
theorem sc_same : FnScope N_same ["actual", "expected"] (defScope s_same) := ⟨rfl, rfl, rfl, by decide +kernel, rfl, by decide +kernel, by decide +kernel⟩
theorem ok_same {n : Nat} (F : Fun K "_law_same" "_law_same" s_same f fd) (T : Nm mg) (C_law_is_integer : Cal P w K mg base CX0 1 "_law_is_integer" spIsInt) (C_law_same_items : Cal P w K mg base CX0 (2 * n + 1) "_law_same_items" (spItems n)) :
    FnOk P w K mg base CX0 (2 * n + 2) f fd ["actual", "expected"] (spSame (n + 1)) := by
  refine F.ok sc_same (fun vs H Q E h => ?_) (fun cdv A outer s H vs Q E hr h => ?_)
  · obtain ⟨x, y, rfl, _⟩ := h
    rfl
  obtain ⟨x, y, rfl, al, q⟩ := h
  refine ⟨_, (pss_cons (ps_if (pt_cmpR op_isN (pv 1) pe_non (nomark _)) (pss_one (ps_ret (pe_cmpR op_isN (pv 0) pe_non (nomark _)))) pss_nil)
    (pss_cons (ps_if (pt_val (pe_callB call_isi (by rfl) T.isinstance (by decide +kernel) (pa_cons (pv 1) (pa_cons (pe_bltn (v := .ty "bool") (u := .type "bool") (by rfl) T.bool_ (by decide +kernel) rfl) pa_nil)))) (pss_one (ps_ret (pe_and (pe_callB call_isi (by rfl) T.isinstance (by decide +kernel) (pa_cons (pv 0) (pa_cons (pe_bltn (v := .ty "bool") (u := .type "bool") (by rfl) T.bool_ (by decide +kernel) rfl) pa_nil))) (pe_one (pe_cmpR op_eq (pv 0) (pv 1) (nomark _)))))) pss_nil)
    (pss_cons (ps_if (pt_val (pe_callB call_isi (by rfl) T.isinstance (by decide +kernel) (pa_cons (pv 1) (pa_cons (pe_bltn (v := .ty "int") (u := .type "int") (by rfl) T.int_ (by decide +kernel) rfl) pa_nil)))) (pss_one (ps_ret (pe_and (pe_c C_law_is_integer hr (by first | decide | omega) pass0 (pa_cons (pv 0) pa_nil)) (pe_one (pe_cmpR op_eq (pv 0) (pv 1) (nomark _)))))) pss_nil)
    (pss_cons (ps_if (pt_val (pe_callB call_isi (by rfl) T.isinstance (by decide +kernel) (pa_cons (pv 1) (pa_cons (pe_bltn (v := .ty "str") (u := .type "str") (by rfl) T.str_ (by decide +kernel) rfl) pa_nil)))) (pss_one (ps_ret (pe_and (pe_callB call_isi (by rfl) T.isinstance (by decide +kernel) (pa_cons (pv 0) (pa_cons (pe_bltn (v := .ty "str") (u := .type "str") (by rfl) T.str_ (by decide +kernel) rfl) pa_nil))) (pe_one (pe_cmpR op_eq (pv 0) (pv 1) (nomark _)))))) pss_nil)
    (pss_cons (ps_if (pt_val (pe_callB call_isi (by rfl) T.isinstance (by decide +kernel) (pa_cons (pv 1) (pa_cons (pe_bltn (v := .ty "tuple") (u := .type "tuple") (by rfl) T.tuple_ (by decide +kernel) rfl) pa_nil)))) (pss_one (ps_ret (pe_and (pe_callB call_isi (by rfl) T.isinstance (by decide +kernel) (pa_cons (pv 0) (pa_cons (pe_bltn (v := .ty "tuple") (u := .type "tuple") (by rfl) T.tuple_ (by decide +kernel) rfl) pa_nil))) (pe_one (pe_c C_law_same_items hr (by first | decide | omega) pass0 (pa_cons (pv 0) (pa_cons (pv 1) pa_nil))))))) pss_nil)
    (pss_cons (ps_if (pt_val (pe_callB call_isi (by rfl) T.isinstance (by decide +kernel) (pa_cons (pv 1) (pa_cons (pe_bltn (v := .ty "list") (u := .type "list") (by rfl) T.list_ (by decide +kernel) rfl) pa_nil)))) (pss_one (ps_ret (pe_and (pe_callB call_isi (by rfl) T.isinstance (by decide +kernel) (pa_cons (pv 0) (pa_cons (pe_bltn (v := .ty "list") (u := .type "list") (by rfl) T.list_ (by decide +kernel) rfl) pa_nil))) (pe_one (pe_c C_law_same_items hr (by first | decide | omega) pass0 (pa_cons (pv 0) (pa_cons (pv 1) pa_nil))))))) pss_nil)
    (pss_cons ps_never
    (pss_cons ps_never
    (pss_cons ps_never
    (pss_one ps_never)))))))))), ?_⟩
  rcases al with ⟨rfl, hx⟩ | ⟨a, b, xs, ys, rfl, rfl, ha, hb, hl, hm, al⟩ | ⟨a, b, xs, ys, rfl, rfl, ha, hb, hl, hm, al⟩
  · cases x with
    | non => exact ⟨_, rfl, rfl, _, rfl, iteP rfl ⟨_, rfl, rfl, qP rfl q⟩⟩
    | bl k =>
      refine ⟨_, rfl, rfl, _, rfl, iteN (fun z => nomatch z) ?_⟩
      refine ⟨_, rfl, _, _, _, _, true, rfl, .ty _, .base (.bl _), kit_ty (by decide +kernel), _, rfl, ?_⟩
      refine ⟨_, rfl, _, _, _, _, true, rfl, .ty _, .base (.bl _), kit_ty (by decide +kernel), _, rfl, ?_⟩
      exact ⟨_, rfl, _, rfl, rfl, qP rfl q⟩
    | int i =>
      refine ⟨_, rfl, rfl, _, rfl, iteN (fun z => nomatch z) ?_⟩
      refine ⟨_, rfl, _, _, _, _, false, rfl, .ty _, .base (.int _), kit_ty (by decide +kernel), _, rfl, ?_⟩
      refine ⟨_, rfl, _, _, _, _, true, rfl, .ty _, .base (.int _), kit_ty (by decide +kernel), _, rfl, ?_⟩
      refine ⟨_, rfl, i, rfl, _, rfl, ?_⟩
      exact ⟨_, rfl, _, rfl, rfl, qP rfl q⟩
    | str z =>
      refine ⟨_, rfl, rfl, _, rfl, iteN (fun z => nomatch z) ?_⟩
      refine ⟨_, rfl, _, _, _, _, false, rfl, .ty _, .base (.str _), kit_ty (by decide +kernel), _, rfl, ?_⟩
      refine ⟨_, rfl, _, _, _, _, false, rfl, .ty _, .base (.str _), kit_ty (by decide +kernel), _, rfl, ?_⟩
      refine ⟨_, rfl, _, _, _, _, true, rfl, .ty _, .base (.str _), kit_ty (by decide +kernel), _, rfl, ?_⟩
      refine ⟨_, rfl, _, _, _, _, true, rfl, .ty _, .base (.str _), kit_ty (by decide +kernel), _, rfl, ?_⟩
      exact ⟨_, rfl, _, rfl, rfl, qP rfl q⟩
    | byt z => cases hx
    | flt z => cases hx
    | ref z => cases hx
    | ty z => cases hx
  · refine ⟨_, rfl, rfl, _, rfl, iteN (fun z => nomatch z) ?_⟩
    refine ⟨_, rfl, _, _, _, _, false, rfl, .ty _, .base (.tup hb), kit_ty (by decide +kernel), _, rfl, ?_⟩
    refine ⟨_, rfl, _, _, _, _, false, rfl, .ty _, .base (.tup hb), kit_ty (by decide +kernel), _, rfl, ?_⟩
    refine ⟨_, rfl, _, _, _, _, false, rfl, .ty _, .base (.tup hb), kit_ty (by decide +kernel), _, rfl, ?_⟩
    refine ⟨_, rfl, _, _, _, _, true, rfl, .ty _, .base (.tup hb), kit_ty (by decide +kernel), _, rfl, ?_⟩
    refine ⟨_, rfl, _, _, _, _, true, rfl, .ty _, .base (.tup ha), kit_ty (by decide +kernel), _, rfl, ?_⟩
    exact ⟨_, rfl, _, rfl, a, b, xs, ys, rfl, .inl ⟨ha, hb⟩, hl, hm, al, q⟩
  · refine ⟨_, rfl, rfl, _, rfl, iteN (fun z => nomatch z) ?_⟩
    refine ⟨_, rfl, _, _, _, _, false, rfl, .ty _, .base (.lst hb), kit_ty (by decide +kernel), _, rfl, ?_⟩
    refine ⟨_, rfl, _, _, _, _, false, rfl, .ty _, .base (.lst hb), kit_ty (by decide +kernel), _, rfl, ?_⟩
    refine ⟨_, rfl, _, _, _, _, false, rfl, .ty _, .base (.lst hb), kit_ty (by decide +kernel), _, rfl, ?_⟩
    refine ⟨_, rfl, _, _, _, _, false, rfl, .ty _, .base (.lst hb), kit_ty (by decide +kernel), _, rfl, ?_⟩
    refine ⟨_, rfl, _, _, _, _, true, rfl, .ty _, .base (.lst hb), kit_ty (by decide +kernel), _, rfl, ?_⟩
    refine ⟨_, rfl, _, _, _, _, true, rfl, .ty _, .base (.lst ha), kit_ty (by decide +kernel), _, rfl, ?_⟩
    exact ⟨_, rfl, _, rfl, a, b, xs, ys, rfl, .inr ⟨ha, hb⟩, hl, hm, al, q⟩
theorem no_same0 : ∀ vs H Q E, ¬ spSame 0 vs H Q E := fun vs H Q E h => by
  obtain ⟨x, y, _, al, _⟩ := h
  exact al
/-- both, as deep as one likes -/
theorem both {f g : Addr} {fd gd : FuncData} (FS : Fun K "_law_same" "_law_same" s_same f fd) (bS : Binds K fd ["actual", "expected"] []) (mS : mg "_law_same" = some (.ref f)) (FI : Fun K "_law_same_items" "_law_same_items" s_sameItems g gd) (bI : Binds K gd ["actual", "expected"] []) (mI : mg "_law_same_items" = some (.ref g))
    (T : Nm mg) (C_law_is_integer : Cal P w K mg base CX0 1 "_law_is_integer" spIsInt) : ∀ n, Cal P w K mg base CX0 (2 * n) "_law_same" (spSame n)
  | 0 => ⟨f, fd, _, none_left no_same0, mS, FS.kp, bS⟩
  | n + 1 => ⟨f, fd, _, ok_same FS T C_law_is_integer ⟨g, gd, _, ok_items FI T (both FS bS mS FI bI mI T C_law_is_integer n), mI, FI.kp, bI⟩, mS, FS.kp, bS⟩

end

end Sn

namespace Sn
open PySem PySem.Spec PyProof.Rows L2 TL
/-! ### the keeper's attributes -/
abbrev ns_Keeper : List Str := ["_function", "_now", "_left", "_inputs", "_entries", "_runs", "_asked", "_ended"]
structure NmK (K : PySem.W.Frag) (mg : Str → Option Value) (aF CK CR CC : Addr) : Prop extends Nm mg where
  cl_Keeper : Cls K CK
  cl_Run : Cls K CR
  n_function : NoAttr K CK "_function"
  n_now : NoAttr K CK "_now"
  n_left : NoAttr K CK "_left"
  n_inputs : NoAttr K CK "_inputs"
  n_entries : NoAttr K CK "_entries"
  n_runs : NoAttr K CK "_runs"
  n_asked : NoAttr K CK "_asked"
  n_ended : NoAttr K CK "_ended"
  n_live : NoAttr K CR "live"
  mk_Keeper : mg "Keeper" = some (.ref CK)
  mk_Run : mg "Run" = some (.ref CR)
  c__law_compute : mg "_law_compute" = some (.ref aF)
  c_Cancelled : mg "Cancelled" = some (.ref CC)
  bI : PySem.W.subIn K (.ref CC) (.type "BaseException") = some true
  tI : PySem.W.typeIn K (.ref CC) = some (.type "type")
  kI : PySem.W.keepIn K (.ref CC) = true
  xI : PySem.W.excIn K CC [.type "ValueError", .type "Exception", .type "BaseException", .type "object"] "ValueError.__new__" = true
  te : PySem.W.exmOne K (.ref CC) (.ref CC) = some true
structure KF where
  fn : V
  now : V
  left : V
  inp : V
  ent : V
  run : V
  asked : V
  ended : V
def kf (S : KF) : List (Str × V) := [("_function", S.fn), ("_now", S.now), ("_left", S.left), ("_inputs", S.inp), ("_entries", S.ent), ("_runs", S.run), ("_asked", S.asked), ("_ended", S.ended)]
theorem kf_function {S} : (kf S).lookup ("_function" : Str) = some S.fn := by kernel_rfl
theorem kf_now {S} : (kf S).lookup ("_now" : Str) = some S.now := by kernel_rfl
theorem kf_left {S} : (kf S).lookup ("_left" : Str) = some S.left := by kernel_rfl
theorem kf_inputs {S} : (kf S).lookup ("_inputs" : Str) = some S.inp := by kernel_rfl
theorem kf_entries {S} : (kf S).lookup ("_entries" : Str) = some S.ent := by kernel_rfl
theorem kf_runs {S} : (kf S).lookup ("_runs" : Str) = some S.run := by kernel_rfl
theorem kf_asked {S} : (kf S).lookup ("_asked" : Str) = some S.asked := by kernel_rfl
theorem kf_ended {S} : (kf S).lookup ("_ended" : Str) = some S.ended := by kernel_rfl
theorem kf_now' {S x} : putF "_now" x (kf S) = kf { S with now := x } := by kernel_rfl
theorem kf_asked' {S x} : putF "_asked" x (kf S) = kf { S with asked := x } := by kernel_rfl
theorem kf_left' {S x} : putF "_left" x (kf S) = kf { S with left := x } := by kernel_rfl
theorem kf_entries' {S x} : putF "_entries" x (kf S) = kf { S with ent := x } := by kernel_rfl
theorem kf_ended' {S x} : putF "_ended" x (kf S) = kf { S with ended := x } := by kernel_rfl
def KRaw (C : Addr) (H : Hp) (p : Addr) (S : KF) : Prop := ∃ dx, H p = some (.ins C dx (kf S))
theorem KRaw.isI {C : Addr} {H : Hp} {p : Addr} {S : KF} (h : KRaw C H p S) : IsI H C p ns_Keeper := let ⟨dx, e⟩ := h; ⟨dx, _, e, rfl⟩
section
variable {X : Cx} {C CR CE aF : Addr} {o v : Expr} {pos pos' : Pos} {ta tv : TE} {mg : Str → Option Value}
def tKf (C : Addr) (sel : KF → V) (ta : TE) : TE := fun σ H Q => ta σ H fun x H1 => ∃ p S, x = .ref p ∧ KRaw C H1 p S ∧ Q (sel S) H1
theorem pe_kf {f : Str} {sel : KF → V} (cl : Cls X.K C) (na : NoAttr X.K C f) (hl : ∀ S, (kf S).lookup f = some (sel S)) (he : PE X o ta) (hb : attributeBase o f X.env (eval o X.env) = eval o X.env) : PE X (.Attribute o f pos) (tKf C sel ta) := by
  refine PE.imp (pe_fld (PE.up he) hb) fun σ H Q h => ⟨_, h, ?_⟩
  rintro x H1 ⟨p, S, rfl, ⟨dx, e⟩, q⟩
  exact ⟨p, C, dx, _, _, rfl, e, cl, na, hl S, q⟩
theorem pe_k_function (T : NmK X.K mg aF C CR CE) (he : PE X o ta) (hb : attributeBase o "_function" X.env (eval o X.env) = eval o X.env := by rfl) : PE X (.Attribute o "_function" pos) (tKf C KF.fn ta) := pe_kf T.cl_Keeper T.n_function (fun _ => kf_function) he hb
theorem pe_k_now (T : NmK X.K mg aF C CR CE) (he : PE X o ta) (hb : attributeBase o "_now" X.env (eval o X.env) = eval o X.env := by rfl) : PE X (.Attribute o "_now" pos) (tKf C KF.now ta) := pe_kf T.cl_Keeper T.n_now (fun _ => kf_now) he hb
theorem pe_k_left (T : NmK X.K mg aF C CR CE) (he : PE X o ta) (hb : attributeBase o "_left" X.env (eval o X.env) = eval o X.env := by rfl) : PE X (.Attribute o "_left" pos) (tKf C KF.left ta) := pe_kf T.cl_Keeper T.n_left (fun _ => kf_left) he hb
theorem pe_k_inputs (T : NmK X.K mg aF C CR CE) (he : PE X o ta) (hb : attributeBase o "_inputs" X.env (eval o X.env) = eval o X.env := by rfl) : PE X (.Attribute o "_inputs" pos) (tKf C KF.inp ta) := pe_kf T.cl_Keeper T.n_inputs (fun _ => kf_inputs) he hb
theorem pe_k_entries (T : NmK X.K mg aF C CR CE) (he : PE X o ta) (hb : attributeBase o "_entries" X.env (eval o X.env) = eval o X.env := by rfl) : PE X (.Attribute o "_entries" pos) (tKf C KF.ent ta) := pe_kf T.cl_Keeper T.n_entries (fun _ => kf_entries) he hb
theorem pe_k_runs (T : NmK X.K mg aF C CR CE) (he : PE X o ta) (hb : attributeBase o "_runs" X.env (eval o X.env) = eval o X.env := by rfl) : PE X (.Attribute o "_runs" pos) (tKf C KF.run ta) := pe_kf T.cl_Keeper T.n_runs (fun _ => kf_runs) he hb
theorem pe_k_asked (T : NmK X.K mg aF C CR CE) (he : PE X o ta) (hb : attributeBase o "_asked" X.env (eval o X.env) = eval o X.env := by rfl) : PE X (.Attribute o "_asked" pos) (tKf C KF.asked ta) := pe_kf T.cl_Keeper T.n_asked (fun _ => kf_asked) he hb
theorem pe_k_ended (T : NmK X.K mg aF C CR CE) (he : PE X o ta) (hb : attributeBase o "_ended" X.env (eval o X.env) = eval o X.env := by rfl) : PE X (.Attribute o "_ended" pos) (tKf C KF.ended ta) := pe_kf T.cl_Keeper T.n_ended (fun _ => kf_ended) he hb
/-- self.f = e -/
def sKset (C : Addr) (u : KF → V → KF) (ta tv : TE) : TS := fun D σ H => tv σ H fun y H1 => ta σ H1 fun x H2 => ∃ p S, x = .ref p ∧ KRaw C H2 p S ∧ ∀ H', But p H2 H' → (∀ b, H2 b = none → H' b = none) → KRaw C H' p (u S y) → D.nx σ H'
theorem ps_kset {f : Str} {u : KF → V → KF} (cl : Cls X.K C) (na : NoAttr X.K C f) (hp : ∀ S x, putF f x (kf S) = kf (u S x)) (ha : PE X o ta) (hv : PE X v tv) (hs : swapsWith v (some (.Attribute o f pos')) pos.line X.env = pure false) : PS X (.Assign [.Attribute o f pos'] v pos) (sKset C u ta tv) := by
  refine PS.imp (ps_fld (PE.up ha) (PE.up hv) hs) fun D σ H h => ⟨_, h, ?_⟩
  intro y H1 h1
  refine ⟨_, h1, ?_⟩
  rintro x H2 ⟨p, S, rfl, ⟨dx, e⟩, q⟩
  refine ⟨p, C, dx, _, rfl, e, cl, na, (by show 8 < 1000; decide), q _ (But.refl _ _).upd (fun b hb => ?_) ⟨dx, ?_⟩⟩
  · rw [upd_ne (fun z => by rw [z, e] at hb; cases hb)]
    exact hb
  · rw [upd_same, hp]
theorem ps_k_asked (T : NmK X.K mg aF C CR CE) (ha : PE X o ta) (hv : PE X v tv) (hs : swapsWith v (some (.Attribute o "_asked" pos')) pos.line X.env = pure false := by rfl) : PS X (.Assign [.Attribute o "_asked" pos'] v pos) (sKset C (fun S y => { S with asked := y }) ta tv) := ps_kset T.cl_Keeper T.n_asked (fun _ _ => kf_asked') ha hv hs
theorem ps_k_left (T : NmK X.K mg aF C CR CE) (ha : PE X o ta) (hv : PE X v tv) (hs : swapsWith v (some (.Attribute o "_left" pos')) pos.line X.env = pure false := by rfl) : PS X (.Assign [.Attribute o "_left" pos'] v pos) (sKset C (fun S y => { S with left := y }) ta tv) := ps_kset T.cl_Keeper T.n_left (fun _ _ => kf_left') ha hv hs
theorem ps_k_entries (T : NmK X.K mg aF C CR CE) (ha : PE X o ta) (hv : PE X v tv) (hs : swapsWith v (some (.Attribute o "_entries" pos')) pos.line X.env = pure false := by rfl) : PS X (.Assign [.Attribute o "_entries" pos'] v pos) (sKset C (fun S y => { S with ent := y }) ta tv) := ps_kset T.cl_Keeper T.n_entries (fun _ _ => kf_entries') ha hv hs
theorem ps_k_ended (T : NmK X.K mg aF C CR CE) (ha : PE X o ta) (hv : PE X v tv) (hs : swapsWith v (some (.Attribute o "_ended" pos')) pos.line X.env = pure false := by rfl) : PS X (.Assign [.Attribute o "_ended" pos'] v pos) (sKset C (fun S y => { S with ended := y }) ta tv) := ps_kset T.cl_Keeper T.n_ended (fun _ _ => kf_ended') ha hv hs
/-- self._now += n, self._left -= n -/
def sKan (C : Addr) (i : Int) (ta : TE) : TS := fun D σ H => ta σ H fun x H1 => ∃ p S n, x = .ref p ∧ KRaw C H1 p S ∧ S.now = .int n ∧ ∀ H', But p H1 H' → KRaw C H' p { S with now := .int (n + i) } → D.nx σ H'
theorem ps_ka_now {i : Int} {j : Nat} {cp : Pos} (T : NmK X.K mg aF C CR CE) (he : PE X o ta) (_ : PE X (.Constant (.int i) j cp) (tC (.int i))) (hop : InOp X .Add rAdd) : PS X (.AugAssign (.Attribute o "_now" pos') .Add (.Constant (.int i) j cp) pos) (sKan C i ta) := by
  refine PS.imp (ps_fldaug (PE.up he) pe_int hop) fun D σ H h => ⟨_, h, ?_⟩
  rintro x H1 ⟨p, S, n, rfl, ⟨dx, e⟩, hn, q⟩
  refine ⟨p, C, dx, _, _, rfl, e, T.cl_Keeper, T.n_now, kf_now, n, i, hn, rfl, ?_⟩
  refine ⟨dx, _, e, (by show 8 < 1000; decide), q _ (But.refl _ _).upd ⟨dx, ?_⟩⟩
  rw [upd_same, kf_now']
def sKal (C : Addr) (i : Int) (ta : TE) : TS := fun D σ H => ta σ H fun x H1 => ∃ p S n, x = .ref p ∧ KRaw C H1 p S ∧ S.left = .int n ∧ ∀ H', But p H1 H' → (∀ b, H1 b = none → H' b = none) → KRaw C H' p { S with left := .int (n - i) } → D.nx σ H'
theorem ps_ka_left {i : Int} {j : Nat} {cp : Pos} (T : NmK X.K mg aF C CR CE) (he : PE X o ta) (_ : PE X (.Constant (.int i) j cp) (tC (.int i))) (hop : InOp X .Sub rSub) : PS X (.AugAssign (.Attribute o "_left" pos') .Sub (.Constant (.int i) j cp) pos) (sKal C i ta) := by
  refine PS.imp (ps_fldaug (PE.up he) pe_int hop) fun D σ H h => ⟨_, h, ?_⟩
  rintro x H1 ⟨p, S, n, rfl, ⟨dx, e⟩, hn, q⟩
  refine ⟨p, C, dx, _, _, rfl, e, T.cl_Keeper, T.n_left, kf_left, n, i, hn, rfl, ?_⟩
  refine ⟨dx, _, e, (by show 8 < 1000; decide), q _ (But.refl _ _).upd (fun b hb => ?_) ⟨dx, ?_⟩⟩
  · rw [upd_ne (fun z => by rw [z, e] at hb; cases hb)]
    exact hb
  · rw [upd_same, kf_left']
end
/-! ### objects by their class's name; xs[i] read for a store -/
structure CalO (P : Program) (w : World) (K : PySem.W.Frag) (mg : Str → Option Value) (base : Heap) (CX : CXT) (k : Nat) (C : Addr) (sp : Sp) : Prop where
  ex : ∃ (f : Addr) (fd : FuncData) (ps : List Str), FnOk P w K mg base CX k f fd ps sp ∧ Mk K C f ∧ Binds K fd ps []
theorem pe_mk {X : Cx} {x : Str} {C : Addr} {k j : Nat} {sp : Sp} {p pos : Pos} {e : Expr} {es : List Expr} {t : TA} {CX : CXT} {E : XK} (c : CalO X.prog X.w X.K X.mg X.base CX k C sp) (hr : Room j X.A) (hk : k + 1 ≤ j) (hm : X.mg x = some (.ref C)) (hx : Passes CX X E) (ha : PA X (e :: es) t) (hg : Gl X x := by rfl)
    (hdb : (x == ("__debug__" : Str)) = false := by decide) (he : starEach (e :: es) X.env = (false, eval e X.env) :: starEach es X.env := by rfl) (hpl : (backTo pos (starEach es X.env)).any (·.1) = false := by rfl) :
    PE X (.Call (.Name x p) (e :: es) [] pos) (tMake C sp [] E t) := by
  obtain ⟨f, fd, ps, F, M, b⟩ := c.ex
  exact pe_make M F (hr.mono hk) hg hm b .nil hx ha hdb he hpl
theorem pe_mk0 {X : Cx} {x : Str} {C : Addr} {k j : Nat} {sp : Sp} {p pos : Pos} {CX : CXT} {E : XK} (c : CalO X.prog X.w X.K X.mg X.base CX k C sp) (hr : Room j X.A) (hk : k + 1 ≤ j) (hm : X.mg x = some (.ref C)) (hx : Passes CX X E) (hg : Gl X x := by rfl)
    (hdb : (x == ("__debug__" : Str)) = false := by decide) : PE X (.Call (.Name x p) [] [] pos) (tMake C sp [] E tNil) := by
  obtain ⟨f, fd, ps, F, M, b⟩ := c.ex
  exact pe_make0 M F (hr.mono hk) hg hm b .nil hx hdb
def rGetL : V → V → Hp → VK → Prop := fun o i H Q => ∃ (p : Addr) (xs : List V) (k : Nat) (v : V), o = .ref p ∧ i = .int (k : Int) ∧ H p = some (.lst xs) ∧ xs[k]? = some v ∧ Q v H
theorem get_list {X : Cx} : PGet X rGetL := by
  intro pins s σ H o i ov iv Q I ro ri h
  obtain ⟨p, xs, k, v, rfl, rfl, hp, hk, q⟩ := h
  cases ro
  obtain ⟨t, rfl⟩ := ri
  obtain ⟨its, r, pl, hz⟩ := I.list (SqL.of hp)
  obtain ⟨w, ew, rw'⟩ := r.get hk
  have hl := (List.getElem?_eq_some_iff.mp hk).1
  have hn := line63
  exact wpAny_getItem_list (Q := fun r s' => EP X pins σ Q r s') pl.isList (by omega) (by omega) (by simpa using ew) ⟨v, H, I, rw', q⟩

end Sn

namespace Sn
open PySem PySem.Spec PyProof.Rows L2 TL
/-! ### the keeper in the heap, for any keys and values -/
structure Vl (α : Type) [DecidableEq α] where
  rp : Hp → V → α → Prop
  keep : ∀ {H H' : Hp} {v : V} {a : α}, (∀ b xs, H b = some (.tup xs) → H' b = some (.tup xs)) → rp H v a → rp H' v a
  dat : α → PyData
  dp : ∀ {K : PySem.W.Frag} {H : Hp} {v : V} {a : α}, rp H v a → Dp K H v (dat a)
  sh : ∀ a, SeqAt.shaped (dat a) = true
  eq : ∀ a b, PyData.eqv (dat a) (dat b) = decide (a = b)
def isK (H : Hp) (b : Addr) (k : Ky) : Prop := H b = some (.tup (k.map kV))
inductive Ks (H : Hp) : List Addr → List Ky → Prop
  | nil : Ks H [] []
  | cons {b : Addr} {k : Ky} {bs : List Addr} {ks : List Ky} : isK H b k → Ks H bs ks → Ks H (b :: bs) (k :: ks)
theorem Ks.keep {H H' : Hp} (f : ∀ b xs, H b = some (.tup xs) → H' b = some (.tup xs)) {bs : List Addr} {ks : List Ky} (h : Ks H bs ks) : Ks H' bs ks := by
  induction h with
  | nil => exact .nil
  | cons a _ ih => exact .cons (f _ _ a) ih
theorem Ks.snoc {H : Hp} {bs : List Addr} {ks : List Ky} {b : Addr} {k : Ky} (h : Ks H bs ks) (e : isK H b k) : Ks H (bs ++ [b]) (ks ++ [k]) := by
  induction h with
  | nil => exact .cons e .nil
  | cons a _ ih => exact .cons a ih
theorem Ks.get {H : Hp} {bs : List Addr} {ks : List Ky} (h : Ks H bs ks) : ∀ {j : Nat} {d : Ky}, ks[j]? = some d → ∃ b, bs[j]? = some b ∧ isK H b d := by
  induction h with
  | nil =>
    intro j d e
    simp at e
  | cons a _ ih =>
    intro j d e
    cases j with
    | zero =>
      simp at e
      subst e
      exact ⟨_, rfl, a⟩
    | succ j => exact ih (by simpa using e)
theorem Ks.len {H : Hp} {bs : List Addr} {ks : List Ky} (h : Ks H bs ks) : bs.length = ks.length := by
  induction h with
  | nil => rfl
  | cons _ _ ih => simp [ih]
structure KAd where
  i : Addr
  e : Addr
  r : Addr
  l : Addr
section
variable {α : Type} [DecidableEq α] (Vx : Vl α)
/-- the entry at p -/
def EntV (H : Hp) (p : Addr) (e : En α) : Prop :=
  ∃ v q bs, H p = some (.tup [v, .ref q, .int (e.c : Int), .int (e.g : Int)]) ∧ Vx.rp H v e.v ∧ H q = some (.tup (bs.map V.ref)) ∧ Ks H bs e.d
def lfV : Option Nat → V
  | none => .non
  | some n => .int (n : Int)
def kfo (aF : Addr) (A : KAd) (S : KS α) (av : V) : KF := ⟨.ref aF, .int (S.now : Int), lfV S.left, .ref A.i, .ref A.e, .ref A.r, av, .ref A.l⟩
def InpP (H : Hp) (d : Addr) (inp : Ky → Option (α × Nat)) (ni : Nat) : Prop := ∃ kvs : List (List L2.Key × V), H d = some (.dT kvs) ∧ kvs.length ≤ ni ∧ ∀ k, (valV kvs k = none ∧ inp k = none) ∨ ∃ p v a r, valV kvs k = some (.ref p) ∧ inp k = some (a, r) ∧ H p = some (.tup [v, .int ((r : Nat) : Int)]) ∧ Vx.rp H v a
def EntP (H : Hp) (d : Addr) (en : Ky → Option (En α)) (m : Nat) : Prop := ∃ kvs : List (List L2.Key × V), H d = some (.dT kvs) ∧ kvs.length ≤ m ∧ ∀ k, (valV kvs k = none ∧ en k = none) ∨ ∃ p e, valV kvs k = some (.ref p) ∧ en k = some e ∧ EntV Vx H p e
def RunP (H : Hp) (d : Addr) (rn : Ky → Option Addr) (m : Nat) : Prop := ∃ kvs : List (List L2.Key × V), H d = some (.dT kvs) ∧ kvs.length ≤ m ∧ ∀ k, valV kvs k = (rn k).map V.ref
def LiveP (CR : Addr) (H : Hp) (rn : Ky → Option Addr) (lv : List Ky) : Prop := ∀ k, (k ∈ lv → ∃ p dx, rn k = some p ∧ H p = some (.ins CR dx [("live", .bl true)])) ∧ (k ∉ lv → ∀ p, rn k = some p → ∃ dx, H p = some (.ins CR dx [("live", .bl false)]))
def EndP (H : Hp) (l : Addr) (done : List Ky) (m : Nat) : Prop := ∃ bs : List Addr, H l = some (.lst (bs.map V.ref)) ∧ bs.length ≤ m ∧ Ks H bs done
structure Kh (CK CR aF : Addr) (H : Hp) (o : Addr) (A : KAd) (S : KS α) (rn : Ky → Option Addr) (lv : List Ky) (av : V) (m ni : Nat) : Prop where
  raw : KRaw CK H o (kfo aF A S av)
  inp : InpP Vx H A.i S.inp ni
  ent : EntP Vx H A.e S.en m
  run : RunP H A.r rn m
  live : LiveP CR H rn lv
  ended : EndP H A.l S.done m
  d1 : A.i ≠ A.e
  d2 : A.i ≠ A.r
  d3 : A.e ≠ A.r
  ck : CK ≠ CR
end
/-- the objects that the keeper leans on -/
def Kob : HO → Prop
  | .ins _ _ _ => True
  | .dT _ => True
  | .tup _ => True
  | _ => False
theorem Kob.ne {H : Hp} {d b : Addr} {kvs : List (List L2.Key × V)} {u : HO} (hd : H d = some (.dT kvs)) (e : H b = some u) (n : ∀ kvs, u ≠ .dT kvs) : b ≠ d := fun z => by
  rw [z, hd] at e
  injection e with e
  exact n _ e.symm
section
variable {α : Type} [DecidableEq α] {Vx : Vl α}
variable {CK CR aF : Addr} {H H' : Hp} {o : Addr} {A : KAd} {S : KS α} {rn : Ky → Option Addr} {lv : List Ky} {av : V} {m ni : Nat}
abbrev FT (H H' : Hp) : Prop := ∀ b xs, H b = some (.tup xs) → H' b = some (.tup xs)
theorem EntV.keep {p : Addr} {e : En α} (f : FT H H') : EntV Vx H p e → EntV Vx H' p e := fun ⟨v, q, bs, h1, h2, h3, h4⟩ => ⟨v, q, bs, f _ _ h1, Vx.keep f h2, f _ _ h3, h4.keep f⟩
theorem InpP.keep {d : Addr} {inp : Ky → Option (α × Nat)} (f : FT H H') (g : ∀ kvs, H d = some (.dT kvs) → H' d = some (.dT kvs)) : InpP Vx H d inp ni → InpP Vx H' d inp ni := fun ⟨kvs, a, b, c⟩ =>
  ⟨kvs, g _ a, b, fun k => (c k).elim .inl fun ⟨p, v, a, r, x, y, z, w⟩ => .inr ⟨p, v, a, r, x, y, f _ _ z, Vx.keep f w⟩⟩
theorem EntP.keep {d : Addr} {en : Ky → Option (En α)} (f : FT H H') (g : ∀ kvs, H d = some (.dT kvs) → H' d = some (.dT kvs)) {m' : Nat} (hm : m ≤ m') : EntP Vx H d en m → EntP Vx H' d en m' := fun ⟨kvs, a, b, c⟩ =>
  ⟨kvs, g _ a, Nat.le_trans b hm, fun k => (c k).elim .inl fun ⟨p, e, x, y, z⟩ => .inr ⟨p, e, x, y, z.keep f⟩⟩
theorem RunP.keep {d : Addr} (g : ∀ kvs, H d = some (.dT kvs) → H' d = some (.dT kvs)) {m' : Nat} (hm : m ≤ m') : RunP H d rn m → RunP H' d rn m' := fun ⟨kvs, a, b, c⟩ => ⟨kvs, g _ a, Nat.le_trans b hm, c⟩
theorem LiveP.keep (g : ∀ p dx fs, H p = some (.ins CR dx fs) → H' p = some (.ins CR dx fs)) : LiveP CR H rn lv → LiveP CR H' rn lv := fun h k => ⟨fun hk => by
  obtain ⟨p, dx, a, b⟩ := (h k).1 hk
  exact ⟨p, dx, a, g _ _ _ b⟩, fun hk p hp => by
  obtain ⟨dx, b⟩ := (h k).2 hk p hp
  exact ⟨dx, g _ _ _ b⟩⟩
theorem EndP.keep {l : Addr} {done : List Ky} (f : FT H H') (g : ∀ vs, H l = some (.lst vs) → H' l = some (.lst vs)) {m' : Nat} (hm : m ≤ m') : EndP H l done m → EndP H' l done m' := fun ⟨bs, a, b, c⟩ => ⟨bs, g _ a, Nat.le_trans b hm, c.keep f⟩
theorem Kh.keep (h : Kh Vx CK CR aF H o A S rn lv av m ni) (f : ∀ b u, H b = some u → (b = A.l ∨ Kob u) → H' b = some u) : Kh Vx CK CR aF H' o A S rn lv av m ni := by
  have ft : FT H H' := fun b xs e => f _ _ e (.inr trivial)
  have fd : ∀ d kvs, H d = some (.dT kvs) → H' d = some (.dT kvs) := fun d kvs e => f _ _ e (.inr trivial)
  obtain ⟨dx, e⟩ := h.raw
  exact ⟨⟨dx, f _ _ e (.inr trivial)⟩, h.inp.keep ft (fd _), h.ent.keep ft (fd _) (Nat.le_refl _), h.run.keep (fd _) (Nat.le_refl _), h.live.keep (fun p dx fs e => f _ _ e (.inr trivial)), h.ended.keep ft (fun vs e => f _ _ e (.inl rfl)) (Nat.le_refl _), h.d1, h.d2, h.d3, h.ck⟩
theorem Kh.same (h : Kh Vx CK CR aF H o A S rn lv av m ni) (s : Same H H') : Kh Vx CK CR aF H' o A S rn lv av m ni := h.keep fun b u e _ => s b u e
theorem Kh.more {m' : Nat} (h : Kh Vx CK CR aF H o A S rn lv av m ni) (hm : m ≤ m') : Kh Vx CK CR aF H o A S rn lv av m' ni :=
  ⟨h.raw, h.inp, h.ent.keep (fun _ _ e => e) (fun _ e => e) hm, h.run.keep (fun _ e => e) hm, h.live, h.ended.keep (fun _ _ e => e) (fun _ e => e) hm, h.d1, h.d2, h.d3, h.ck⟩
theorem Kh.wider {n' : Nat} (h : Kh Vx CK CR aF H o A S rn lv av m ni) (hn : ni ≤ n') : Kh Vx CK CR aF H o A S rn lv av m n' := by
  obtain ⟨kv, a, b, c⟩ := h.inp
  exact ⟨h.raw, ⟨kv, a, Nat.le_trans b hn, c⟩, h.ent, h.run, h.live, h.ended, h.d1, h.d2, h.d3, h.ck⟩
/-- the keeper's own attributes change: what was asked, the revision, the limit -/
theorem Kh.self {S' : KS α} {y : V} (h : Kh Vx CK CR aF H o A S rn lv av m ni) (b : But o H H') (r : KRaw CK H' o (kfo aF A S' y)) (h1 : S'.inp = S.inp) (h2 : S'.en = S.en) (h3 : S'.done = S.done) : Kh Vx CK CR aF H' o A S' rn lv y m ni := by
  obtain ⟨dx, eo⟩ := h.raw
  have ne : ∀ {b u}, H b = some u → (∀ dx fs, u ≠ .ins CK dx fs) → b ≠ o := fun e n z => by
    rw [z, eo] at e
    injection e with e
    exact n _ _ e.symm
  have ft : FT H H' := fun c xs e => b _ _ (ne e fun _ _ z => nomatch z) e
  have fd : ∀ d kvs, H d = some (.dT kvs) → H' d = some (.dT kvs) := fun d kvs e => b _ _ (ne e fun _ _ z => nomatch z) e
  exact ⟨r, h1 ▸ h.inp.keep ft (fd _), h2 ▸ h.ent.keep ft (fd _) (Nat.le_refl _), h.run.keep (fd _) (Nat.le_refl _), h.live.keep (fun p dx fs e => b _ _ (ne e fun _ _ z => by injection z with z; exact h.ck z.symm) e), h3 ▸ h.ended.keep ft (fun vs e => b _ _ (ne e fun _ _ z => nomatch z) e) (Nat.le_refl _), h.d1, h.d2, h.d3, h.ck⟩
theorem Kh.ask {y : V} (h : Kh Vx CK CR aF H o A S rn lv av m ni) (b : But o H H') (r : KRaw CK H' o (kfo aF A S y)) : Kh Vx CK CR aF H' o A S rn lv y m ni := h.self b r rfl rfl rfl
theorem upd_st {d : Addr} {kvs k2 : List (List L2.Key × V)} (hd : H d = some (.dT kvs)) {b : Addr} {u : HO} (e : H b = some u) (n : ∀ kvs, u ≠ .dT kvs) : upd H d (.dT k2) b = some u := by
  rw [upd_ne (Kob.ne hd e n)]
  exact e
theorem upd_ft {d : Addr} {kvs k2 : List (List L2.Key × V)} (hd : H d = some (.dT kvs)) : FT H (upd H d (.dT k2)) := fun _ _ e => upd_st hd e fun _ z => nomatch z
theorem upd_fd {d d' : Addr} {k2 : List (List L2.Key × V)} (n : d' ≠ d) (kvs : List (List L2.Key × V)) (e : H d' = some (.dT kvs)) : upd H d (.dT k2) d' = some (.dT kvs) := by
  rw [upd_ne n]
  exact e
theorem Kh.put_inp {k : Ky} {p : Addr} {v : V} {a : α} {r : Nat} {kvs : List (List L2.Key × V)} (h : Kh Vx CK CR aF H o A S rn lv av m ni) (he : H A.i = some (.dT kvs)) (hp : H p = some (.tup [v, .int (r : Int)])) (hv : Vx.rp H v a) : Kh Vx CK CR aF (upd H A.i (.dT (putK kvs k (.ref p)))) o A { S with inp := ups S.inp k (a, r) } rn lv av m (ni + 1) := by
  have ft : FT H (upd H A.i (.dT (putK kvs k (.ref p)))) := upd_ft he
  refine ⟨?_, ?_, h.ent.keep ft (upd_fd h.d1.symm) (Nat.le_refl _), h.run.keep (upd_fd h.d2.symm) (Nat.le_refl _), h.live.keep (fun _ _ _ e => upd_st he e fun _ z => nomatch z), h.ended.keep ft (fun _ e => upd_st he e fun _ z => nomatch z) (Nat.le_refl _), h.d1, h.d2, h.d3, h.ck⟩
  · obtain ⟨dx, a⟩ := h.raw
    exact ⟨dx, upd_st he a fun _ z => nomatch z⟩
  · obtain ⟨k2, x1, x2, x3⟩ := h.inp
    rw [he] at x1
    cases x1
    refine ⟨_, upd_same, by have := length_putK kvs k (V.ref p); omega, fun j => ?_⟩
    by_cases hj : j = k
    · subst hj
      exact .inr ⟨p, v, a, r, by rw [valV_put, if_pos rfl], ups_at, ft _ _ hp, Vx.keep ft hv⟩
    · rw [valV_put, if_neg hj]
      rcases x3 j with ⟨x, y⟩ | ⟨p', v', a', r', x, y, z, w⟩
      · exact .inl ⟨x, (ups_ne hj).trans y⟩
      · exact .inr ⟨p', v', a', r', x, (ups_ne hj).trans y, ft _ _ z, Vx.keep ft w⟩
theorem Kh.put_ent {k : Ky} {p : Addr} {e : En α} {kvs : List (List L2.Key × V)} (h : Kh Vx CK CR aF H o A S rn lv av m ni) (he : H A.e = some (.dT kvs)) (hp : EntV Vx H p e) : Kh Vx CK CR aF (upd H A.e (.dT (putK kvs k (.ref p)))) o A { S with en := ups S.en k e } rn lv av (m + 1) ni := by
  have ft : FT H (upd H A.e (.dT (putK kvs k (.ref p)))) := upd_ft he
  refine ⟨?_, h.inp.keep ft (upd_fd h.d1), ?_, h.run.keep (upd_fd h.d3.symm) (Nat.le_succ _), h.live.keep (fun _ _ _ e => upd_st he e fun _ z => nomatch z), h.ended.keep ft (fun _ e => upd_st he e fun _ z => nomatch z) (Nat.le_succ _), h.d1, h.d2, h.d3, h.ck⟩
  · obtain ⟨dx, a⟩ := h.raw
    exact ⟨dx, upd_st he a fun _ z => nomatch z⟩
  · obtain ⟨k2, x1, x2, x3⟩ := h.ent
    rw [he] at x1
    cases x1
    refine ⟨_, upd_same, by have := length_putK kvs k (V.ref p); omega, fun j => ?_⟩
    by_cases hj : j = k
    · subst hj
      exact .inr ⟨p, e, by rw [valV_put, if_pos rfl], ups_at, hp.keep ft⟩
    · rw [valV_put, if_neg hj]
      rcases x3 j with ⟨x, y⟩ | ⟨p', e', x, y, z⟩
      · exact .inl ⟨x, (ups_ne hj).trans y⟩
      · exact .inr ⟨p', e', x, (ups_ne hj).trans y, z.keep ft⟩
theorem Kh.put_run {k : Ky} {p : Addr} {dx : Addr} {kvs : List (List L2.Key × V)} (h : Kh Vx CK CR aF H o A S rn lv av m ni) (he : H A.r = some (.dT kvs)) (hp : H p = some (.ins CR dx [("live", .bl true)])) : Kh Vx CK CR aF (upd H A.r (.dT (putK kvs k (.ref p)))) o A S (ups rn k p) (lv ++ [k]) av (m + 1) ni := by
  have ft : FT H (upd H A.r (.dT (putK kvs k (.ref p)))) := upd_ft he
  refine ⟨?_, h.inp.keep ft (upd_fd h.d2), h.ent.keep ft (upd_fd h.d3) (Nat.le_succ _), ?_, ?_, h.ended.keep ft (fun _ e => upd_st he e fun _ z => nomatch z) (Nat.le_succ _), h.d1, h.d2, h.d3, h.ck⟩
  · obtain ⟨dx, a⟩ := h.raw
    exact ⟨dx, upd_st he a fun _ z => nomatch z⟩
  · obtain ⟨k2, a, b, c⟩ := h.run
    rw [he] at a
    cases a
    refine ⟨_, upd_same, by have := length_putK kvs k (V.ref p); omega, fun j => ?_⟩
    by_cases hj : j = k
    · subst hj
      rw [valV_put, if_pos rfl, ups_at]
      rfl
    · rw [valV_put, if_neg hj, ups_ne hj]
      exact c j
  · refine fun j => ⟨fun hk => ?_, fun hk q hq => ?_⟩
    · by_cases hj : j = k
      · subst hj
        exact ⟨p, dx, ups_at, upd_st he hp fun _ z => nomatch z⟩
      · have : j ∈ lv := by
          rcases List.mem_append.mp hk with hk | hk
          · exact hk
          · exact absurd (List.mem_singleton.mp hk) hj
        obtain ⟨p', dx', a, c⟩ := (h.live j).1 this
        exact ⟨p', dx', by rw [ups_ne hj]; exact a, upd_st he c fun _ z => nomatch z⟩
    · have hj : j ≠ k := fun z => hk (List.mem_append.mpr (.inr (List.mem_singleton.mpr z)))
      rw [ups_ne hj] at hq
      obtain ⟨dx', c⟩ := (h.live j).2 (fun z => hk (List.mem_append.mpr (.inl z))) q hq
      exact ⟨dx', upd_st he c fun _ z => nomatch z⟩
theorem valV_dropK {κ : Type} [DecidableEq κ] (k j : κ) : ∀ kvs : List (κ × V), valV (dropK kvs k) j = if j = k then none else valV kvs j
  | [] => by split <;> rfl
  | p :: r => by
    have ih := valV_dropK k j r
    by_cases e : p.1 = k
    · have z : dropK (p :: r) k = dropK r k := List.filter_cons_of_neg (by simp [e])
      rw [z, ih]
      by_cases h : j = k
      · rw [if_pos h, if_pos h]
      · rw [if_neg h, if_neg h, valV_neg (fun z => h (z.symm.trans e))]
    · have z : dropK (p :: r) k = p :: dropK r k := List.filter_cons_of_pos (by simp [e])
      rw [z]
      by_cases h : p.1 = j
      · rw [valV_pos h, valV_pos h, if_neg (fun z => e (h.trans z))]
      · rw [valV_neg h, valV_neg h, ih]
def del {β : Type} (f : Ky → Option β) (k : Ky) : Ky → Option β := fun j => if j = k then none else f j
theorem Kh.drop_run {k : Ky} {kvs : List (List L2.Key × V)} (h : Kh Vx CK CR aF H o A S rn (lv ++ [k]) av m ni) (hk : k ∉ lv) (he : H A.r = some (.dT kvs)) : Kh Vx CK CR aF (upd H A.r (.dT (dropK kvs k))) o A S (del rn k) lv av m ni := by
  have ft : FT H (upd H A.r (.dT (dropK kvs k))) := upd_ft he
  refine ⟨?_, h.inp.keep ft (upd_fd h.d2), h.ent.keep ft (upd_fd h.d3) (Nat.le_refl _), ?_, ?_, h.ended.keep ft (fun _ e => upd_st he e fun _ z => nomatch z) (Nat.le_refl _), h.d1, h.d2, h.d3, h.ck⟩
  · obtain ⟨dx, a⟩ := h.raw
    exact ⟨dx, upd_st he a fun _ z => nomatch z⟩
  · obtain ⟨k2, a, b, c⟩ := h.run
    rw [he] at a
    cases a
    refine ⟨_, upd_same, Nat.le_trans (dropK_le kvs k) b, fun j => ?_⟩
    rw [valV_dropK]
    by_cases hj : j = k
    · subst hj
      rw [if_pos rfl, show del rn j j = none from if_pos rfl]
      rfl
    · rw [if_neg hj, show del rn k j = rn j from if_neg hj]
      exact c j
  · refine fun j => ⟨fun hl => ?_, fun hl q hq => ?_⟩
    · have hj : j ≠ k := fun z => hk (z ▸ hl)
      obtain ⟨p', dx', a, c⟩ := (h.live j).1 (List.mem_append.mpr (.inl hl))
      exact ⟨p', dx', by rw [show del rn k j = rn j from if_neg hj]; exact a, upd_st he c fun _ z => nomatch z⟩
    · by_cases hj : j = k
      · rw [show del rn k j = none from if_pos hj] at hq
        cases hq
      · rw [show del rn k j = rn j from if_neg hj] at hq
        obtain ⟨dx', c⟩ := (h.live j).2 (fun z => (List.mem_append.mp z).elim hl fun z => hj (List.mem_singleton.mp z)) q hq
        exact ⟨dx', upd_st he c fun _ z => nomatch z⟩
theorem Kh.drop_ent {k : Ky} {kvs : List (List L2.Key × V)} (h : Kh Vx CK CR aF H o A S rn lv av m ni) (he : H A.e = some (.dT kvs)) : Kh Vx CK CR aF (upd H A.e (.dT (dropK kvs k))) o A { S with en := del S.en k } rn lv av m ni := by
  have ft : FT H (upd H A.e (.dT (dropK kvs k))) := upd_ft he
  refine ⟨?_, h.inp.keep ft (upd_fd h.d1), ?_, h.run.keep (upd_fd h.d3.symm) (Nat.le_refl _), h.live.keep (fun _ _ _ e => upd_st he e fun _ z => nomatch z), h.ended.keep ft (fun _ e => upd_st he e fun _ z => nomatch z) (Nat.le_refl _), h.d1, h.d2, h.d3, h.ck⟩
  · obtain ⟨dx, a⟩ := h.raw
    exact ⟨dx, upd_st he a fun _ z => nomatch z⟩
  · obtain ⟨k2, a, b, c⟩ := h.ent
    rw [he] at a
    cases a
    refine ⟨_, upd_same, Nat.le_trans (dropK_le kvs k) b, fun j => ?_⟩
    rw [valV_dropK]
    by_cases hj : j = k
    · rw [if_pos hj]
      exact .inl ⟨rfl, if_pos hj⟩
    · rw [if_neg hj]
      rcases c j with ⟨x, y⟩ | ⟨p', e', x, y, z⟩
      · exact .inl ⟨x, (if_neg hj : del S.en k j = S.en j).trans y⟩
      · exact .inr ⟨p', e', x, (if_neg hj : del S.en k j = S.en j).trans y, z.keep ft⟩
theorem Kh.drop_inp {k : Ky} {kvs : List (List L2.Key × V)} (h : Kh Vx CK CR aF H o A S rn lv av m ni) (he : H A.i = some (.dT kvs)) : Kh Vx CK CR aF (upd H A.i (.dT (dropK kvs k))) o A { S with inp := del S.inp k } rn lv av m ni := by
  have ft : FT H (upd H A.i (.dT (dropK kvs k))) := upd_ft he
  refine ⟨?_, ?_, h.ent.keep ft (upd_fd h.d1.symm) (Nat.le_refl _), h.run.keep (upd_fd h.d2.symm) (Nat.le_refl _), h.live.keep (fun _ _ _ e => upd_st he e fun _ z => nomatch z), h.ended.keep ft (fun _ e => upd_st he e fun _ z => nomatch z) (Nat.le_refl _), h.d1, h.d2, h.d3, h.ck⟩
  · obtain ⟨dx, a⟩ := h.raw
    exact ⟨dx, upd_st he a fun _ z => nomatch z⟩
  · obtain ⟨k2, a, b, c⟩ := h.inp
    rw [he] at a
    cases a
    refine ⟨_, upd_same, Nat.le_trans (dropK_le kvs k) b, fun j => ?_⟩
    rw [valV_dropK]
    by_cases hj : j = k
    · rw [if_pos hj]
      exact .inl ⟨rfl, if_pos hj⟩
    · rw [if_neg hj]
      rcases c j with ⟨x, y⟩ | ⟨p', v', a', r', x, y, z, w⟩
      · exact .inl ⟨x, (if_neg hj : del S.inp k j = S.inp j).trans y⟩
      · exact .inr ⟨p', v', a', r', x, (if_neg hj : del S.inp k j = S.inp j).trans y, ft _ _ z, Vx.keep ft w⟩
theorem Kh.push {bs : List Addr} {b : Addr} {k : Ky} (h : Kh Vx CK CR aF H o A S rn lv av m ni) (hl : H A.l = some (.lst (bs.map V.ref))) (hk : Ks H bs S.done) (hb : isK H b k) (hm : bs.length ≤ m) : Kh Vx CK CR aF (upd H A.l (.lst (bs.map V.ref ++ [V.ref b]))) o A { S with done := S.done ++ [k] } rn lv av (m + 1) ni := by
  have st : ∀ {c u}, H c = some u → Kob u → upd H A.l (.lst (bs.map V.ref ++ [V.ref b])) c = some u := fun e' n => by
    rw [upd_ne (fun z => by rw [z, hl] at e'; injection e' with e'; rw [← e'] at n; exact n)]
    exact e'
  have ft : FT H (upd H A.l (.lst (bs.map V.ref ++ [V.ref b]))) := fun _ _ e => st e trivial
  have fd : ∀ d kvs, H d = some (.dT kvs) → upd H A.l (.lst (bs.map V.ref ++ [V.ref b])) d = some (.dT kvs) := fun _ _ e => st e trivial
  refine ⟨?_, h.inp.keep ft (fd _), h.ent.keep ft (fd _) (Nat.le_succ _), h.run.keep (fd _) (Nat.le_succ _), h.live.keep (fun _ _ _ e => st e trivial), ⟨bs ++ [b], by rw [List.map_append]; exact upd_same, by rw [List.length_append, List.length_singleton]; omega, (hk.snoc hb).keep ft⟩, h.d1, h.d2, h.d3, h.ck⟩
  obtain ⟨dx, a⟩ := h.raw
  exact ⟨dx, st a trivial⟩
/-- a run ends: the keys that it brought are not live any more -/
theorem Kh.stop {ps : List Ky} {pr dx : Addr} (h : Kh Vx CK CR aF H o A S rn (lv ++ ps) av m ni) (hp : H pr = some (.ins CR dx [("live", .bl true)])) (h1 : ∀ k ∈ ps, rn k = some pr) (h2 : ∀ k ∈ lv, rn k ≠ some pr) : Kh Vx CK CR aF (upd H pr (.ins CR dx [("live", .bl false)])) o A S rn lv av m ni := by
  have st : ∀ {b u}, H b = some u → (∀ dx fs, u ≠ .ins CR dx fs) → upd H pr (.ins CR dx [("live", .bl false)]) b = some u := fun e' n => by
    rw [upd_ne (fun z => by rw [z, hp] at e'; injection e' with e'; exact n _ _ e'.symm)]
    exact e'
  have ft : FT H (upd H pr (.ins CR dx [("live", .bl false)])) := fun b xs e' => st e' fun _ _ z => nomatch z
  have fd : ∀ d kvs, H d = some (.dT kvs) → upd H pr (.ins CR dx [("live", .bl false)]) d = some (.dT kvs) := fun _ _ e => st e fun _ _ z => nomatch z
  refine ⟨?_, h.inp.keep ft (fd _), h.ent.keep ft (fd _) (Nat.le_refl _), h.run.keep (fd _) (Nat.le_refl _), ?_, h.ended.keep ft (fun _ e => st e fun _ _ z => nomatch z) (Nat.le_refl _), h.d1, h.d2, h.d3, h.ck⟩
  · obtain ⟨dx, a⟩ := h.raw
    exact ⟨dx, st a fun _ _ z => by injection z with z; exact h.ck z⟩
  · refine fun j => ⟨fun hl => ?_, fun hl q hq => ?_⟩
    · obtain ⟨p', dx', a, c⟩ := (h.live j).1 (List.mem_append.mpr (.inl hl))
      exact ⟨p', dx', a, by rw [upd_ne (fun z => h2 j hl (by rw [a, z]))]; exact c⟩
    · have dec : (j ∈ ps) ∨ (j ∉ ps) := Classical.em _
      rcases dec with hj | hj
      · have e := h1 j hj
        rw [e] at hq
        cases hq
        exact ⟨dx, upd_same⟩
      · obtain ⟨dx', c⟩ := (h.live j).2 (fun z => (List.mem_append.mp z).elim hl hj) q hq
        refine ⟨dx', ?_⟩
        rw [upd_ne (fun z => by rw [z, hp] at c; injection c with c; injection c with _ _ c; exact absurd c (by decide))]
        exact c
theorem Kh.other {d : Addr} {kvs k2 : List (List L2.Key × V)} (h : Kh Vx CK CR aF H o A S rn lv av m ni) (hd : H d = some (.dT kvs)) (n1 : d ≠ A.i) (n2 : d ≠ A.e) (n3 : d ≠ A.r) : Kh Vx CK CR aF (upd H d (.dT k2)) o A S rn lv av m ni := by
  have ft : FT H (upd H d (.dT k2)) := upd_ft hd
  obtain ⟨dx, a⟩ := h.raw
  exact ⟨⟨dx, upd_st hd a fun _ z => nomatch z⟩, h.inp.keep ft (upd_fd n1.symm), h.ent.keep ft (upd_fd n2.symm) (Nat.le_refl _), h.run.keep (upd_fd n3.symm) (Nat.le_refl _), h.live.keep (fun _ _ _ e => upd_st hd e fun _ z => nomatch z), h.ended.keep ft (fun _ e => upd_st hd e fun _ z => nomatch z) (Nat.le_refl _), h.d1, h.d2, h.d3, h.ck⟩
/-- a frame for what an ask changes -/
def Fr (o : Addr) (A : KAd) (av : V) (H H' : Hp) : Prop := ∀ b u, H b = some u → b ≠ o → b ≠ A.e → b ≠ A.r → b ≠ A.l → V.ref b ≠ av → H' b = some u
end

end Sn

namespace Sn
open PySem PySem.Spec PyProof.Rows L2 TL
/-! ### the keeper's small methods -/
def spRunI (CR : Addr) : Sp := fun vs H Q _ => ∃ p dx, vs = [.ref p] ∧ H p = some (.ins CR dx []) ∧ Q .non (upd H p (.ins CR dx [("live", .bl true)]))
section
variable {α : Type} [DecidableEq α] (Vx : Vl α)
def KS0 : KS α := ⟨0, none, fun _ => none, fun _ => none, []⟩
def spKI (CK CR aF : Addr) : Sp := fun vs H Q _ => ∃ p dx, vs = [.ref p, .ref aF] ∧ CK ≠ CR ∧ H p = some (.ins CK dx []) ∧ ∀ H' A, (∀ b u, H b = some u → b ≠ p → H' b = some u) → H A.i = none → H A.e = none → H A.r = none → H A.l = none →
  Kh Vx CK CR aF H' p A KS0 (fun _ => none) [] .non 0 0 → Q .non H'
def spIC (CK CR aF : Addr) : Sp := fun vs H Q _ => ∃ o b A S rn lv av m ni k, vs = [.ref o, .ref b] ∧ Kh Vx CK CR aF H o A S rn lv av m ni ∧ isK H b k ∧ Q (.bl (chkB S k)) H
def spCh (CK CR aF : Addr) : Sp := fun vs H Q _ => ∃ o b A S rn lv av m ni k g, vs = [.ref o, .ref b] ∧ Kh Vx CK CR aF H o A S rn lv av m ni ∧ isK H b k ∧ S.chg k = some g ∧ Q (.int ((g : Nat) : Int)) H
def spBeg (CK CR CC aF : Addr) : Sp := fun vs H Q E => ∃ o A S rn lv av m ni, vs = [.ref o] ∧ Kh Vx CK CR aF H o A S rn lv av m ni ∧ (S.left = some 0 → E (.ref CC) none H) ∧
  (S.left ≠ some 0 → ∀ H' d, H d = none → But o H H' → H' d = some (.dT []) → Kh Vx CK CR aF H' o A S.dec rn lv (.ref d) m ni → Q .non H')
def spEnt (CK CR aF : Addr) : Sp := fun vs H Q E => ∃ o b pr dx A S rn lv av m ni k, vs = [.ref o, .ref b, .ref pr] ∧ Kh Vx CK CR aF H o A S rn lv av m ni ∧ isK H b k ∧ H pr = some (.ins CR dx [("live", .bl true)]) ∧ m < 16000000 ∧ k ∉ lv ∧
  ∀ H' st, (∀ b u, H b = some u → b ≠ A.r → H' b = some u) → H st = none → H' st = some (.lst [.ref b, .int 0]) → Kh Vx CK CR aF H' o A S (ups rn k pr) (lv ++ [k]) av (m + 1) ni → Q (.ref st) H'
end
theorem at_nat {xs : List V} {v : V} {i : Nat} (h : xs[i]? = some v) : atI xs (i : Int) = some v := at_of rfl h
theorem iteT' {c : Bool} {A B : Prop} (hc : c = true) (h : A) : if c = true then A else B := by
  rw [if_pos hc]
  exact h
theorem iteF' {c : Bool} {A B : Prop} (hc : c = false) (h : B) : if c = true then A else B := by
  rw [if_neg (by rw [hc]; decide)]
  exact h
theorem dec_nat {a b : Nat} : (decide (V.int (a : Int) = V.int (b : Int))) = decide (a = b) := by
  by_cases z : a = b
  · rw [decide_eq_true z, decide_eq_true (by rw [z])]
  · rw [decide_eq_false z, decide_eq_false (fun y => z (by injection y with y; omega))]
section
variable {α : Type} [DecidableEq α] {Vx : Vl α}
variable {P : Program} {w : World} {K : PySem.W.Frag} {mg : Str → Option Value} {base : Heap} {f : Addr} {fd : FuncData} {CK CR CC aF : Addr}
abbrev s_Run_init : Stmt := inClass (topS 6) 0
abbrev N_Run_init : List Str := ["self"]
theorem sc_Run_init : FnScope N_Run_init ["self"] (defScope s_Run_init) := ⟨rfl, rfl, rfl, by decide +kernel, rfl, by decide +kernel, by decide +kernel⟩
theorem ok_Run_init (F : Fun K "__init__" "Run.__init__" s_Run_init f fd) (T : NmK K mg aF CK CR CC) : FnOk P w K mg base CX0 1 f fd ["self"] (spRunI CR) := by
  refine F.ok sc_Run_init (fun vs H Q E h => ?_) (fun cdv A outer s H vs Q E hr h => ?_)
  · obtain ⟨p, dx, rfl, _⟩ := h
    rfl
  obtain ⟨p, dx, rfl, hp, q⟩ := h
  refine ⟨_, (pss_one (ps_fld (pv 0) pe_bl rfl)), ?_⟩
  exact ⟨_, rfl, p, CR, dx, _, rfl, hp, T.cl_Run, T.n_live, by decide, q⟩
abbrev s_K_is_checked : Stmt := inClass (topS 7) 12
abbrev N_K_is_checked : List Str := ["self", "key"]
theorem sc_K_is_checked : FnScope N_K_is_checked ["self", "key"] (defScope s_K_is_checked) := ⟨rfl, rfl, rfl, by decide +kernel, rfl, by decide +kernel, by decide +kernel⟩
theorem ok_is_checked (F : Fun K "_is_checked" "Keeper._is_checked" s_K_is_checked f fd) (T : NmK K mg aF CK CR CC) : FnOk P w K mg base CX0 1 f fd ["self", "key"] (spIC Vx CK CR aF) := by
  refine F.ok sc_K_is_checked (fun vs H Q E h => ?_) (fun cdv A outer s H vs Q E hr h => ?_)
  · obtain ⟨o, b, A, S, rn, lv, av, m, ni, k, rfl, _⟩ := h
    rfl
  obtain ⟨o, b, A, S, rn, lv, av, m, ni, k, rfl, kh, hb, q⟩ := h
  refine ⟨_, (pss_one (ps_ret (pe_and (pe_cmp (pc_din (hu_of hr) (pv 1) (pe_k_entries T (pv 0))) rfl) (pe_one (pe_cmpR op_eq (pe_ix (r := rIxT K) ix_tup (pe_dget (hu_of hr) (pe_k_entries T (pv 0)) (pv 1) (fun _ _ => rfl)) pe_int (fun _ _ => rfl)) (pe_k_now T (pv 0)) (nomark _)))))), ?_⟩
  unfold chkB at q
  obtain ⟨kvs, he, _, hs⟩ := kh.ent
  refine ⟨_, rfl, _, rfl, o, _, rfl, kh.raw, A.e, _, rfl, DGet.t he hb, ?_⟩
  rcases hs k with ⟨h1, h2⟩ | ⟨p, e, h1, h2, v, qq, bs, h3, _⟩
  · rw [h1]
    rw [h2] at q
    exact ⟨_, rfl, iteF q⟩
  · rw [h1]
    rw [h2] at q
    refine ⟨_, rfl, iteT ?_⟩
    refine ⟨_, rfl, o, _, rfl, kh.raw, _, rfl, A.e, _, rfl, ?_, p, _, _, _, rfl, rfl, .inl (.inl h3), at_nat (i := 2) rfl, _, rfl, o, _, rfl, kh.raw, rfl, ?_⟩
    · rw [← h1]
      exact DGet.t he hb
    show Q (.bl (decide (V.int (e.c : Int) = V.int (S.now : Int)))) H
    rw [dec_nat]
    exact q
abbrev s_K_changed : Stmt := inClass (topS 7) 13
abbrev N_K_changed : List Str := ["self", "key"]
theorem sc_K_changed : FnScope N_K_changed ["self", "key"] (defScope s_K_changed) := ⟨rfl, rfl, rfl, by decide +kernel, rfl, by decide +kernel, by decide +kernel⟩
theorem ok_changed (F : Fun K "_changed" "Keeper._changed" s_K_changed f fd) (T : NmK K mg aF CK CR CC) : FnOk P w K mg base CX0 1 f fd ["self", "key"] (spCh Vx CK CR aF) := by
  refine F.ok sc_K_changed (fun vs H Q E h => ?_) (fun cdv A outer s H vs Q E hr h => ?_)
  · obtain ⟨o, b, A, S, rn, lv, av, m, ni, k, g, rfl, _⟩ := h
    rfl
  obtain ⟨o, b, A, S, rn, lv, av, m, ni, k, g, rfl, kh, hb, hg, q⟩ := h
  refine ⟨_, (pss_cons (ps_if (pt_cmp (pc_din (hu_of hr) (pv 1) (pe_k_inputs T (pv 0)))) (pss_one (ps_ret (pe_ix (r := rIxT K) ix_tup (pe_dget (hu_of hr) (pe_k_inputs T (pv 0)) (pv 1) (fun _ _ => rfl)) pe_int (fun _ _ => rfl)))) pss_nil)
    (pss_one (ps_ret (pe_ix (r := rIxT K) ix_tup (pe_dget (hu_of hr) (pe_k_entries T (pv 0)) (pv 1) (fun _ _ => rfl)) pe_int (fun _ _ => rfl))))), ?_⟩
  unfold KS.chg at hg
  obtain ⟨kvi, hi, _, his⟩ := kh.inp
  obtain ⟨kvs, he, _, hs⟩ := kh.ent
  rcases his k with ⟨h1, h2⟩ | ⟨p, v, a, r, h1, h2, h3, _⟩
  · rw [h2] at hg
    have dn : DGet H A.i (.ref b) none := by
      rw [← h1]
      exact DGet.t hi hb
    rcases hs k with ⟨_, h4⟩ | ⟨p, e, h4, h5, v, qq, bs, h3, _⟩
    · rw [h4] at hg
      cases hg
    rw [h5] at hg
    injection hg with hg
    subst hg
    have dg : DGet H A.e (.ref b) (some (.ref p)) := by
      rw [← h4]
      exact DGet.t he hb
    refine ⟨_, rfl, _, rfl, o, _, rfl, kh.raw, A.i, _, rfl, dn, _, rfl, iteF ?_⟩
    exact ⟨_, rfl, o, _, rfl, kh.raw, _, rfl, A.e, _, rfl, dg, p, _, _, _, rfl, rfl, .inl (.inl h3), at_nat (i := 3) rfl, q⟩
  · rw [h2] at hg
    injection hg with hg
    subst hg
    have dg : DGet H A.i (.ref b) (some (.ref p)) := by
      rw [← h1]
      exact DGet.t hi hb
    refine ⟨_, rfl, _, rfl, o, _, rfl, kh.raw, A.i, _, rfl, dg, _, rfl, iteT ?_⟩
    exact ⟨_, rfl, o, _, rfl, kh.raw, _, rfl, A.i, _, rfl, dg, p, _, _, _, rfl, rfl, .inl (.inl h3), at_nat (i := 1) rfl, q⟩
abbrev s_K_begin : Stmt := inClass (topS 7) 14
abbrev N_K_begin : List Str := ["self"]
theorem sc_K_begin : FnScope N_K_begin ["self"] (defScope s_K_begin) := ⟨rfl, rfl, rfl, by decide +kernel, rfl, by decide +kernel, by decide +kernel⟩
theorem ok_begin (F : Fun K "_begin" "Keeper._begin" s_K_begin f fd) (T : NmK K mg aF CK CR CC) : FnOk P w K mg base (L2.CX P w) 1 f fd ["self"] (spBeg Vx CK CR CC aF) := by
  refine F.okX sc_K_begin (fun vs H Q E h => ?_) (fun cdv A outer s H vs Q E hr h => ?_)
  · obtain ⟨o, A, S, rn, lv, av, m, ni, rfl, _⟩ := h
    rfl
  obtain ⟨o, A, S, rn, lv, av, m, ni, rfl, kh, qe, q⟩ := h
  refine ⟨_, (pss_cons (ps_if (pt_cmpR op_eq (pe_k_left T (pv 0)) pe_int (nomark _)) (pss_one (ps_raise rfl (takes_of rfl rfl rfl rfl) (pmk_own PySem.F.excBase_ValueError T.xI T.c_Cancelled T.kI (raises_own T.bI T.tI) rfl))) pss_nil)
    (C8.pss_cut (ps_if (pt_cmpR op_notN (pe_k_left T (pv 0)) pe_non (nomark _)) (pss_one (ps_ka_left T (pv 0) pe_int in_sub)) pss_nil)
    (pss_one (ps_k_asked T (pv 0) pe_dnewT)))), ?_⟩
  obtain ⟨dx, eo⟩ := kh.raw
  have fin : ∀ (H1 : Hp) (S1 : KS α), But o H H1 → (∀ b, H1 b = none → H b = none) → Kh Vx CK CR aF H1 o A S1 rn lv av m ni → S1 = S.dec → S.left ≠ some 0 → ∀ d, H1 d = none → KRaw CK (upd H1 d (.dT [])) o (kfo aF A S1 av) ∧ ∀ H', But o (upd H1 d (.dT [])) H' → KRaw CK H' o { kfo aF A S1 av with asked := .ref d } → Q .non H' := fun H1 S1 b1 n1 k1 e1 hl d nd => by
    have s1 : Same H1 (upd H1 d (.dT [])) := same_new nd
    refine ⟨(k1.same s1).raw, fun H' b2 r2 => ?_⟩
    subst e1
    have kk := (k1.same s1).ask b2 r2
    obtain ⟨dx1, eo1⟩ := k1.raw
    exact q hl H' d (n1 d nd) ((b1.trans (But.of s1)).trans b2) (b2 _ _ (fun z => by rw [z, eo1] at nd; cases nd) upd_same) kk
  cases hl : S.left with
  | none =>
    refine ⟨_, rfl, o, _, rfl, kh.raw, (by show scal (lfV S.left) (V.int 0) = true; rw [hl]; rfl), _, rfl, ?_⟩
    show if decide (lfV S.left = V.int 0) = true then _ else _
    refine iteN (fun z => by rw [hl] at z; cases z) ?_
    refine ⟨fun σ H1 => σ = [some (.ref o)] ∧ H1 = H, ?_, ?_⟩
    · refine ⟨_, rfl, o, _, rfl, kh.raw, rfl, _, rfl, ?_⟩
      show if _ = true then _ else _
      refine iteF' (by show (!decide (lfV S.left = V.non)) = false; rw [hl]; rfl) ?_
      exact ⟨rfl, rfl⟩
    rintro σ H1 ⟨rfl, rfl⟩
    intro d nd
    have e1 : S = S.dec := by
      unfold KS.dec
      rw [hl]
      cases S
      cases hl
      rfl
    obtain ⟨r1, f1⟩ := fin H1 S (But.refl _ _) (fun _ z => z) kh e1 (by rw [hl]; exact fun z => nomatch z) d nd
    exact ⟨_, rfl, o, _, rfl, r1, fun H' b1 _ r2 => f1 H' b1 r2⟩
  | some n =>
    by_cases hn : n = 0
    · subst hn
      refine ⟨_, rfl, o, _, rfl, kh.raw, (by show scal (lfV S.left) (V.int 0) = true; rw [hl]; rfl), _, rfl, ?_⟩
      show if decide (lfV S.left = V.int 0) = true then _ else _
      exact iteP (by rw [hl]; rfl) (qe hl)
    · refine ⟨_, rfl, o, _, rfl, kh.raw, (by show scal (lfV S.left) (V.int 0) = true; rw [hl]; rfl), _, rfl, ?_⟩
      show if decide (lfV S.left = V.int 0) = true then _ else _
      refine iteN (fun z => by rw [hl] at z; injection z with z; exact hn (Int.ofNat.inj z)) ?_
      refine ⟨fun σ H1 => σ = [some (.ref o)] ∧ But o H H1 ∧ (∀ b, H1 b = none → H b = none) ∧ Kh Vx CK CR aF H1 o A S.dec rn lv av m ni, ?_, ?_⟩
      · refine ⟨_, rfl, o, _, rfl, kh.raw, rfl, _, rfl, ?_⟩
        show if _ = true then _ else _
        refine iteT' (by show (!decide (lfV S.left = V.non)) = true; rw [hl]; rfl) ?_
        refine ⟨_, rfl, o, _, (n : Int), rfl, kh.raw, (by show lfV S.left = _; rw [hl]; rfl), fun H1 b1 n1 r1 => ⟨rfl, b1, fun c hc => ?_, ?_⟩⟩
        · cases y : H c with
          | none => rfl
          | some u =>
            by_cases z : c = o
            · obtain ⟨dx1, eo1⟩ := r1
              rw [z, eo1] at hc
              cases hc
            · rw [b1 _ _ z y] at hc
              cases hc
        · refine kh.self b1 ?_ rfl rfl rfl
          have e : kfo aF A S.dec av = { kfo aF A S av with left := .int ((n : Int) - 1) } := by
            unfold kfo KS.dec
            rw [hl]
            show (⟨_, _, V.int ((n - 1 : Nat) : Int), _, _, _, _, _⟩ : KF) = _
            rw [show ((n - 1 : Nat) : Int) = (n : Int) - 1 by omega]
          rw [e]
          exact r1
      rintro σ H1 ⟨rfl, b1, n1, k1⟩
      intro d nd
      obtain ⟨r1, f1⟩ := fin H1 S.dec b1 n1 k1 rfl (by rw [hl]; exact fun z => hn (by injection z)) d nd
      exact ⟨_, rfl, o, _, rfl, r1, fun H' b1 _ r2 => f1 H' b1 r2⟩
abbrev s_K_entered : Stmt := inClass (topS 7) 10
abbrev N_K_entered : List Str := ["self", "key", "run"]
theorem sc_K_entered : FnScope N_K_entered ["self", "key", "run"] (defScope s_K_entered) := ⟨rfl, rfl, rfl, by decide +kernel, rfl, by decide +kernel, by decide +kernel⟩
theorem ok_entered (F : Fun K "_entered" "Keeper._entered" s_K_entered f fd) (T : NmK K mg aF CK CR CC) : FnOk P w K mg base CX0 1 f fd ["self", "key", "run"] (spEnt Vx CK CR aF) := by
  refine F.ok sc_K_entered (fun vs H Q E h => ?_) (fun cdv A outer s H vs Q E hr h => ?_)
  · obtain ⟨o, b, pr, dx, A, S, rn, lv, av, m, ni, k, rfl, _⟩ := h
    rfl
  obtain ⟨o, b, pr, dx, A, S, rn, lv, av, m, ni, k, rfl, kh, hb, hp, hm, hk, q⟩ := h
  refine ⟨_, (pss_cons (ps_if (PW.pt (pw_and (pt_cmp (pc_din (hu_of hr) (pv 1) (pe_k_runs T (pv 0)))) (pw_and1 (pt_val (pe_fld (pe_dget (hu_of hr) (pe_k_runs T (pv 0)) (pv 1) (fun _ _ => rfl)) rfl))))) (pss_one ps_never) pss_nil)
    (pss_cons (ps_dput (hu_of hr) (pe_k_runs T (pv 0)) (pv 1) (pv 2) rfl)
    (pss_one (ps_ret (pe_lst (pa_cons (pv 1) (pa_cons pe_int pa_nil))))))), ?_⟩
  obtain ⟨kvs, he, hlen, hs⟩ := kh.run
  have dg : DGet H A.r (.ref b) ((rn k).map V.ref) := by
    rw [← hs k]
    exact DGet.t he hb
  have fin : ∀ st, upd H A.r (.dT (putK kvs k (.ref pr))) st = none → Q (.ref st) (upd (upd H A.r (.dT (putK kvs k (.ref pr)))) st (.lst [.ref b, .int 0])) := fun st ns => by
    have k1 := kh.put_run (k := k) he hp
    have s1 : Same (upd H A.r (.dT (putK kvs k (.ref pr)))) (upd (upd H A.r (.dT (putK kvs k (.ref pr)))) st (.lst [.ref b, .int 0])) := same_new ns
    have ne : st ≠ A.r := fun z => by rw [z, upd_same] at ns; cases ns
    rw [upd_ne ne] at ns
    exact q _ st (fun c u e n => s1 _ _ (by rw [upd_ne n]; exact e)) ns upd_same (k1.same s1)
  refine ⟨_, rfl, _, rfl, o, _, rfl, kh.raw, A.r, _, rfl, dg, _, rfl, ?_⟩
  cases hr1 : rn k with
  | none =>
    refine iteF ?_
    refine ⟨_, rfl, _, rfl, o, _, rfl, kh.raw, _, rfl, A.r, _, rfl, DPut.t he hb (Nat.lt_of_le_of_lt hlen (by show m < 16777216; omega)), ?_⟩
    exact ⟨_, rfl, by show 2 ≤ sizeLine; decide, fin⟩
  | some p =>
    refine iteT ?_
    rw [hr1] at dg
    obtain ⟨dx', c⟩ := (kh.live k).2 hk p hr1
    refine ⟨_, rfl, o, _, rfl, kh.raw, _, rfl, A.r, _, rfl, dg, p, CR, dx', _, _, rfl, c, T.cl_Run, T.n_live, rfl, _, rfl, iteF ?_⟩
    refine ⟨_, rfl, _, rfl, o, _, rfl, kh.raw, _, rfl, A.r, _, rfl, DPut.t he hb (Nat.lt_of_le_of_lt hlen (by show m < 16777216; omega)), ?_⟩
    exact ⟨_, rfl, by show 2 ≤ sizeLine; decide, fin⟩
end

end Sn

namespace Sn
open PySem PySem.Spec PyProof.Rows L2 TL
/-! ### an end of a computation; what to bring up to date -/
/-- a key's step stands here -/
def Stp (H : Hp) (st b : Addr) (i : Int) : Prop := H st = some (.lst [.ref b, .int i])
section
variable {α : Type} [DecidableEq α] (Vx : Vl α)
def spEnd (CK CR aF : Addr) : Sp := fun vs H Q _ => ∃ o b d A S rn lv m ni k vv v as, vs = [.ref o, .ref b, vv] ∧ Kh Vx CK CR aF H o A S rn lv (.ref d) m ni ∧ isK H b k ∧ H d = some (.dT as) ∧ Vx.rp H vv v ∧ as.length ≤ 1000 ∧ m < 16000000 ∧
  ∀ H', (∀ b u, H b = some u → b ≠ A.e → b ≠ A.l → H' b = some u) → Kh Vx CK CR aF H' o A (S.keep k v (as.map (·.1))) rn lv (.ref d) (m + 2) ni → Q .non H'
def spWan (CK CR aF : Addr) : Sp := fun vs H Q _ => ∃ o st b A S rn lv av m ni k, ∃ i : Nat, vs = [.ref o, .ref st] ∧ Kh Vx CK CR aF H o A S rn lv av m ni ∧ isK H b k ∧ Stp H st b i ∧ st ≠ A.l ∧ m < 16000000 ∧
  ((∃ e, S.en k = some e ∧ e.c = S.now) → Q .non H) ∧
  ((S.en k = none ∨ ∃ e, S.en k = some e ∧ scan S e.c (e.d.drop i) i = .comp) → Unc S k → ∀ H', (∀ c u, H c = some u → c ≠ st → H' c = some u) → (∃ j : Nat, Stp H' st b j) → Kh Vx CK CR aF H' o A S rn lv av m ni → Q (.ref b) H') ∧
  (∀ (e : En α) (d : Ky) (j : Nat), S.en k = some e → Unc S k → scan S e.c (e.d.drop i) i = .push d j → ∀ (H' : Hp) (b' : Addr), (∀ c u, H c = some u → c ≠ st → H' c = some u) → Stp H' st b j → Kh Vx CK CR aF H' o A S rn lv av m ni → isK H' b' d → Q (.ref b') H') ∧
  (∀ e : En α, S.en k = some e → Unc S k → scan S e.c (e.d.drop i) i = .look → ∀ H', (∀ c u, H c = some u → c ≠ st → c ≠ A.e → H' c = some u) → (∃ j : Nat, Stp H' st b j) → Kh Vx CK CR aF H' o A (S.look k e) rn lv av (m + 1) ni → Q .non H')
end
theorem Rdy.chg {α : Type} [DecidableEq α] {S : KS α} {d : Ky} (r : Rdy S d) : ∃ g, S.chg d = some g := by
  unfold KS.chg
  rcases r with ⟨x, e⟩ | ⟨a, e, he, _⟩
  · rw [e]
    exact ⟨_, rfl⟩
  · rw [a, he]
    exact ⟨_, rfl⟩
theorem keys_of {H : Hp} {kvs : List (List L2.Key × V)} {bs : List Addr} (h : IsKeys H kvs bs) : Ks H bs (kvs.map (·.1)) := by
  unfold IsKeys at h
  induction h with
  | nil => exact .nil
  | cons a _ ih => exact .cons a ih
section
variable {α : Type} [DecidableEq α] {Vx : Vl α}
variable {P : Program} {w : World} {K : PySem.W.Frag} {mg : Str → Option Value} {base : Heap} {f : Addr} {fd : FuncData} {CK CR CC aF : Addr}
abbrev s_K_end : Stmt := inClass (topS 7) 15
abbrev N_K_end : List Str := ["self", "key", "value", "changed"]
theorem sc_K_end : FnScope N_K_end ["self", "key", "value"] (defScope s_K_end) := ⟨rfl, rfl, rfl, by decide +kernel, rfl, by decide +kernel, by decide +kernel⟩
theorem ok_end (F : Fun K "_end" "Keeper._end" s_K_end f fd) (T : NmK K mg aF CK CR CC) : FnOk P w K mg base CX0 1 f fd ["self", "key", "value"] (spEnd Vx CK CR aF) := by
  refine F.ok sc_K_end (fun vs H Q E h => ?_) (fun cdv A outer s H vs Q E hr h => ?_)
  · obtain ⟨o, b, d, A, S, rn, lv, m, ni, k, vv, v, as, rfl, _⟩ := h
    rfl
  obtain ⟨o, b, d, A, S, rn, lv, m, ni, k, vv, v, as, rfl, kh, hb, hd, hv, has, hm, q⟩ := h
  refine ⟨_, (pss_cons (ps_set (i := 3) sc_K_end.nd rfl (Or.inl rfl) (pe_k_now T (pv 0)))
    (C8.pss_cut (ps_if (PW.pt (pw_and (pt_cmp (pc_din (hu_of hr) (pv 1) (pe_k_entries T (pv 0)))) (pw_and1 (pt_cmpR (op_eqD hr.units) (pe_ix (r := rIxT K) ix_tup (pe_dget (hu_of hr) (pe_k_entries T (pv 0)) (pv 1) (fun _ _ => rfl)) pe_int (fun _ _ => rfl)) (pv 2) (nomark _))))) (pss_one (ps_set (i := 3) sc_K_end.nd rfl (Or.inl rfl) (pe_ix (r := rIxT K) ix_tup (pe_dget (hu_of hr) (pe_k_entries T (pv 0)) (pv 1) (fun _ _ => rfl)) pe_int (fun _ _ => rfl)))) pss_nil)
    (pss_cons (ps_dput (hu_of hr) (pe_k_entries T (pv 0)) (pv 1) (pe_tup (pa_cons (pv 2) (pa_cons (pe_callTy (call_tuple_dT rfl) (by rfl) T.tuple_ (by decide +kernel) (pa_cons (pe_k_asked T (pv 0)) pa_nil)) (pa_cons (pe_k_now T (pv 0)) (pa_cons (pv 3) pa_nil))))) rfl)
    (pss_one (ps_expr (pe_bm PySem.F.plainAttrs_list PySem.F.slot_list_append PySem.F.type_list_append mt_append (pe_k_ended T (pv 0)) (pa_cons (pv 1) pa_nil))))))), ?_⟩
  obtain ⟨kvs, he, hlen, hs⟩ := kh.ent
  have dg := DGet.t he hb
  refine ⟨_, rfl, o, _, rfl, kh.raw, ?_⟩
  refine ⟨fun σ H' => H' = H ∧ σ = [some (.ref o), some (.ref b), some vv, some (.int (S.chgOf k v : Int))], ?_, ?_⟩
  · refine ⟨_, rfl, _, rfl, o, _, rfl, kh.raw, A.e, _, rfl, dg, ?_⟩
    rcases hs k with ⟨h1, h2⟩ | ⟨p, e, h1, h2, ve, qq, bs, h3, h4, _⟩
    · rw [h1]
      refine ⟨_, rfl, iteF ⟨rfl, ?_⟩⟩
      unfold KS.chgOf
      rw [h2]
      rfl
    · rw [h1] at dg ⊢
      refine ⟨_, rfl, iteT ?_⟩
      refine ⟨_, rfl, o, _, rfl, kh.raw, _, rfl, A.e, _, rfl, dg, p, _, _, _, rfl, rfl, .inl (.inl h3), at_nat (i := 0) rfl, _, rfl, _, _, Vx.dp h4, Vx.dp hv, Vx.sh _, Vx.sh _, _, rfl, ?_⟩
      rw [Vx.eq]
      by_cases z : e.v = v
      · refine iteP z ?_
        refine ⟨_, rfl, o, _, rfl, kh.raw, _, rfl, A.e, _, rfl, dg, p, _, _, _, rfl, rfl, .inl (.inl h3), at_nat (i := 3) rfl, rfl, ?_⟩
        unfold KS.chgOf
        rw [h2]
        show _ = [_, _, _, some (V.int ((if e.v = v then e.g else S.now : Nat) : Int))]
        rw [if_pos z]
        rfl
      · refine iteN z ⟨rfl, ?_⟩
        unfold KS.chgOf
        rw [h2]
        show _ = [_, _, _, some (V.int ((if e.v = v then e.g else S.now : Nat) : Int))]
        rw [if_neg z]
        rfl
  rintro σ H' ⟨rfl, rfl⟩
  refine ⟨_, rfl, _, rfl, o, _, rfl, kh.raw, d, as, rfl, .inl hd, fun t bs nt ik => ?_⟩
  have s1 := same_new (o := .tup (bs.map V.ref)) nt
  have ht : upd H' t (.tup (bs.map V.ref)) t = some (.tup (bs.map V.ref)) := upd_same
  have k1 := kh.same s1
  have kk : Ks (upd H' t (.tup (bs.map V.ref))) bs (as.map (·.1)) := (keys_of ik).keep fun _ _ e => s1 _ _ e
  have hv1 := Vx.keep (fun _ _ e => s1 _ _ e) hv
  generalize upd H' t (.tup (bs.map V.ref)) = H1 at s1 ht k1 kk hv1 ⊢
  refine ⟨_, rfl, o, _, rfl, k1.raw, _, rfl, by show 4 ≤ sizeLine; decide, fun p np => ?_⟩
  have s2 := same_new (o := .tup [vv, .ref t, (kfo aF A S (V.ref d)).now, .int (S.chgOf k v : Int)]) np
  have k2 := k1.same s2
  have hp : EntV Vx (upd H1 p (.tup [vv, .ref t, (kfo aF A S (V.ref d)).now, .int (S.chgOf k v : Int)])) p ⟨v, as.map (·.1), S.now, S.chgOf k v⟩ :=
    ⟨vv, t, bs, upd_same, Vx.keep (fun _ _ e => s2 _ _ e) hv1, s2 _ _ ht, kk.keep fun _ _ e => s2 _ _ e⟩
  generalize upd H1 p (.tup [vv, .ref t, (kfo aF A S (V.ref d)).now, .int (S.chgOf k v : Int)]) = H2 at s2 k2 hp ⊢
  have he2 := s2 _ _ (s1 _ _ he)
  refine ⟨_, rfl, o, _, rfl, k2.raw, _, rfl, A.e, _, rfl, DPut.t he2 (s2 _ _ (s1 _ _ hb)) (Nat.lt_of_le_of_lt hlen (by show m < 16777216; omega)), ?_⟩
  have k3 := k2.put_ent (k := k) he2 hp
  obtain ⟨bl, hl, hvl, hdl⟩ := k3.ended
  have hl' : upd H2 A.e (.dT (putK kvs k (.ref p))) A.l = some (.lst (bl.map V.ref)) := hl
  refine ⟨_, rfl, o, _, rfl, k3.raw, .inl ⟨rfl, _, SqL.of hl⟩, _, rfl, A.l, _, _, rfl, rfl, hl, (by rw [List.length_map]; exact Nat.lt_of_le_of_lt hvl (by show m + 1 < 16777216; omega)), ?_⟩
  refine q _ (fun c u e n1 n2 => ?_) (k3.push hl hdl (b := b) (k := k) (upd_ft he2 _ _ (s2 _ _ (s1 _ _ hb))) hvl)
  rw [upd_ne n2, upd_ne n1]
  exact s2 _ _ (s1 _ _ e)
abbrev s_K_wanted : Stmt := inClass (topS 7) 11
abbrev N_K_wanted : List Str := ["self", "step", "key", "value", "needed", "checked", "changed", "other"]
theorem sc_K_wanted : FnScope N_K_wanted ["self", "step"] (defScope s_K_wanted) := ⟨rfl, rfl, rfl, by decide +kernel, rfl, by decide +kernel, by decide +kernel⟩
theorem ok_wanted (F : Fun K "_wanted" "Keeper._wanted" s_K_wanted f fd) (T : NmK K mg aF CK CR CC) (C_Keeper__is_checked : CalM P w K mg base CX0 1 CK "_is_checked" (spIC Vx CK CR aF)) (C_Keeper__changed : CalM P w K mg base CX0 1 CK "_changed" (spCh Vx CK CR aF)) : FnOk P w K mg base CX0 2 f fd ["self", "step"] (spWan Vx CK CR aF) := by
  refine F.ok sc_K_wanted (fun vs H Q E h => ?_) (fun cdv A outer s H vs Q E hr h => ?_)
  · obtain ⟨o, st, b, A, S, rn, lv, av, m, ni, k, i, rfl, _⟩ := h
    rfl
  obtain ⟨o, st, b, A, S, rn, lv, av, m, ni, k, i, rfl, kh, hb, hst, hsl, hm, qd, qa, qb, qc⟩ := h
  refine ⟨_, (pss_cons (ps_set (i := 2) sc_K_wanted.nd rfl (Or.inl rfl) (pe_ix (r := rIxL K) ix_list (pv 1) pe_int (fun _ _ => rfl)))
    (pss_cons (ps_if (pt_cmp (pc_dnotin (hu_of hr) (pv 2) (pe_k_entries T (pv 0)))) (pss_one (ps_ret (pv 2))) pss_nil)
    (pss_cons (ps_asg (pe_dget (hu_of hr) (pe_k_entries T (pv 0)) (pv 2) (fun _ _ => rfl)) (pg_tup rfl (pgs_cons (pg_name (i := 3) sc_K_wanted.nd rfl (Or.inl rfl)) (pgs_cons (pg_name (i := 4) sc_K_wanted.nd rfl (Or.inl rfl)) (pgs_cons (pg_name (i := 5) sc_K_wanted.nd rfl (Or.inl rfl)) (pgs_cons (pg_name (i := 6) sc_K_wanted.nd rfl (Or.inl rfl)) pgs_nil))))))
    (pss_cons (ps_if (pt_cmpR op_eq (pv 5) (pe_k_now T (pv 0)) (nomark _)) (pss_one (ps_ret pe_non)) pss_nil)
    (C8.pss_cut (ps_while PassesOwn.never (pt_cmpR op_lt (pe_ix (r := rIxL K) ix_list (pv 1) pe_int (fun _ _ => rfl)) (pe_callB call_len_seq (by rfl) T.len PySem.boot_len (pa_cons (pv 4) pa_nil)) (nomark _)) (pss_cons (ps_set (i := 7) sc_K_wanted.nd rfl (Or.inl rfl) (pe_ix (r := rIxT K) ix_tup (pv 4) (pe_ix (r := rIxL K) ix_list (pv 1) pe_int (fun _ _ => rfl)) (fun _ _ => rfl)))
    (pss_cons (ps_if (PW.pt (pw_and (pt_cmp (pc_dnotin (hu_of hr) (pv 7) (pe_k_inputs T (pv 0)))) (pw_and1 (pt_not (pt_val (pe_m ns_Keeper C_Keeper__is_checked T.cl_Keeper (by decide) hr (by first | decide | omega) pass0 (pv 0) (pa_cons (pv 7) pa_nil))))))) (pss_one (ps_ret (pv 7))) pss_nil)
    (pss_cons (ps_if (pt_cmpR op_gt (pe_m ns_Keeper C_Keeper__changed T.cl_Keeper (by decide) hr (by first | decide | omega) pass0 (pv 0) (pa_cons (pv 7) pa_nil)) (pv 5) (nomark _)) (pss_one (ps_ret (pv 2))) pss_nil)
    (pss_one (ps_augS (pv 1) pe_int get_list pe_int ip_add set_list))))))
    (pss_cons (ps_dput (hu_of hr) (pe_k_entries T (pv 0)) (pv 2) (pe_tup (pa_cons (pv 3) (pa_cons (pv 4) (pa_cons (pe_k_now T (pv 0)) (pa_cons (pv 6) pa_nil))))) rfl)
    (pss_one (ps_ret pe_non)))))))), ?_⟩
  obtain ⟨kvs, he, hlen, hs⟩ := kh.ent
  obtain ⟨kvi, hki, _, his⟩ := kh.inp
  have dg := DGet.t he hb
  refine ⟨_, rfl, st, _, _, _, rfl, rfl, SqL.of hst, at_nat (i := 0) rfl, ?_⟩
  refine ⟨_, rfl, _, rfl, o, _, rfl, kh.raw, A.e, _, rfl, dg, _, rfl, ?_⟩
  rcases hs k with ⟨h1, h2⟩ | ⟨p, e, h1, h2, ve, t, bs, h3, hve, ht, hks⟩
  · rw [h1]
    refine iteT ⟨_, rfl, ?_⟩
    exact qa (.inl h2) (fun e z => by rw [h2] at z; cases z) H (fun c u e _ => e) ⟨_, hst⟩ kh
  rw [h1] at dg ⊢
  refine iteF ?_
  refine ⟨_, rfl, o, _, rfl, kh.raw, _, rfl, A.e, _, rfl, dg, p, _, rfl, .inl (.inl h3), rfl, _, _, rfl, _, _, rfl, _, _, rfl, _, _, rfl, rfl, ?_⟩
  refine ⟨_, rfl, _, rfl, o, _, rfl, kh.raw, rfl, _, rfl, ?_⟩
  by_cases hnow : e.c = S.now
  · exact iteP (by show V.int (e.c : Int) = V.int (S.now : Int); rw [hnow]) (qd ⟨e, h2, hnow⟩)
  have un : Unc S k := fun e' z => by
    rw [h2] at z
    cases z
    exact hnow
  refine iteN (fun y => hnow (by injection y with y; exact Int.ofNat.inj y)) ?_
  -- the keys that were asked for
  have frt : ∀ {H' : Hp}, (∀ c u, H c = some u → c ≠ st → H' c = some u) → FT H H' := fun {H'} fr c xs z => fr _ _ z fun y => by
    rw [y, hst] at z
    cases z
  have frd : ∀ {H' : Hp}, (∀ c u, H c = some u → c ≠ st → H' c = some u) → ∀ {c kvs}, H c = some (.dT kvs) → H' c = some (.dT kvs) := fun {H'} fr {c kvs} z => fr _ _ z fun y => by
    rw [y, hst] at z
    cases z
  have keepK : ∀ {H' : Hp}, (∀ c u, H c = some u → c ≠ st → H' c = some u) → Kh Vx CK CR aF H' o A S rn lv av m ni := fun fr => kh.keep fun c u z hc => fr _ _ z fun y => by
    rcases hc with hc | hc
    · exact hsl (y ▸ hc)
    · rw [y, hst] at z
      cases z
      exact hc
  have lenE : bs.length = e.d.length := hks.len
  refine ⟨fun σ H' => ∃ (j : Nat) (ov : Option V), σ = [some (.ref o), some (.ref st), some (.ref b), some ve, some (.ref t), some (.int (e.c : Int)), some (.int (e.g : Int)), ov] ∧ Stp H' st b j ∧ (∀ c u, H c = some u → c ≠ st → H' c = some u) ∧ scan S e.c (e.d.drop i) i = .look, ?_, ?_⟩
  · refine while_m (fun σ H' => ∃ (j : Nat) (ov : Option V), σ = [some (.ref o), some (.ref st), some (.ref b), some ve, some (.ref t), some (.int (e.c : Int)), some (.int (e.g : Int)), ov] ∧ Stp H' st b j ∧ (∀ c u, H c = some u → c ≠ st → H' c = some u) ∧ scan S e.c (e.d.drop i) i = scan S e.c (e.d.drop j) j)
      (fun σ H' => match H' st with
        | some (.lst [_, .int j]) => ((e.d.length : Int) + 1 - j).toNat
        | _ => 0) ⟨i, none, rfl, hst, fun _ _ z _ => z, rfl⟩ ?_
    rintro σ H' ⟨j, ov, rfl, hst', fr, hsc⟩
    have kh' := keepK fr
    have ht' := frt fr _ _ ht
    refine ⟨_, rfl, st, _, _, _, rfl, rfl, SqL.of hst', at_nat (i := 1) rfl, _, rfl, t, _, rfl, .inr (.inl (.inl ht')), _, _, rfl, rfl, _, rfl, ?_⟩
    refine ite2 (fun hlt => ?_) (fun hge => ⟨j, ov, rfl, hst', fr, ?_⟩)
    rotate_left
    · have hge : e.d.length ≤ j := by
        by_cases z : e.d.length ≤ j
        · exact z
        · exact absurd (decide_eq_true (show (j : Int) < (((bs.map V.ref).length : Nat) : Int) by rw [List.length_map]; omega)) hge
      rw [hsc, List.drop_eq_nil_of_le hge]
      rfl
    have hlt : j < e.d.length := by
      have := of_decide_eq_true hlt
      rw [List.length_map] at this
      omega
    refine wN ?_
    have hdj : e.d[j]? = some e.d[j] := List.getElem?_eq_getElem hlt
    have hdrop : e.d.drop j = e.d[j] :: e.d.drop (j + 1) := List.drop_eq_getElem_cons hlt
    generalize e.d[j] = d at hdj hdrop
    obtain ⟨b', hb'j, hb'⟩ := hks.get hdj
    have hb'' : isK H' b' d := frt fr _ _ hb'
    have hbm : (bs.map V.ref)[j]? = some (.ref b') := by rw [List.getElem?_map, hb'j]; rfl
    refine ⟨_, rfl, _, rfl, st, _, _, _, rfl, rfl, SqL.of hst', at_nat (i := 1) rfl, t, _, _, _, rfl, rfl, .inl (.inl ht'), at_nat (i := j) hbm, ?_⟩
    by_cases c : S.inp d = none ∧ chkB S d = false
    · rcases his d with ⟨y1, y2⟩ | ⟨p', v', a', r', y1, y2, _⟩
      · have dgi : DGet H' A.i (.ref b') none := by
          rw [← y1]
          exact DGet.t (frd fr hki) hb''
        refine ⟨_, rfl, _, rfl, o, _, rfl, kh'.raw, A.i, _, rfl, dgi, _, rfl, iteT ?_⟩
        refine ⟨_, rfl, o, rfl, kh'.raw.isI, _, rfl, o, b', A, S, rn, lv, av, m, ni, d, rfl, kh', hb'', ?_⟩
        rw [c.2]
        refine ⟨_, rfl, iteT ⟨_, rfl, ?_⟩⟩
        exact qb e d j h2 un (hsc.trans (by rw [hdrop]; exact if_pos c)) H' b' fr hst' kh' hb''
      · rw [c.1] at y2
        cases y2
    obtain ⟨g, hg⟩ := (chkB_rdy c).chg
    have hscg := scan_chg (c := e.c) (ds := e.d.drop (j + 1)) (j := j) c hg
    rw [hdrop, hscg] at hsc
    rcases his d with ⟨y1, y2⟩ | ⟨p', v', a', r', y1, y2, _⟩
    have dgi : DGet H' A.i (.ref b') none := by
      rw [← y1]
      exact DGet.t (frd fr hki) hb''
    refine ⟨_, rfl, _, rfl, o, _, rfl, kh'.raw, A.i, _, rfl, dgi, _, rfl, iteT ?_⟩
    refine ⟨_, rfl, o, rfl, kh'.raw.isI, _, rfl, o, b', A, S, rn, lv, av, m, ni, d, rfl, kh', hb'', ?_⟩
    have ct : chkB S d = true := by
      cases q : chkB S d with
      | true => rfl
      | false => exact absurd ⟨y2, q⟩ c
    rw [ct]
    refine ⟨_, rfl, iteF ?_⟩
    rotate_left
    have dgi : DGet H' A.i (.ref b') (some (.ref p')) := by
      rw [← y1]
      exact DGet.t (frd fr hki) hb''
    refine ⟨_, rfl, _, rfl, o, _, rfl, kh'.raw, A.i, _, rfl, dgi, _, rfl, iteF ?_⟩
    all_goals
      refine ⟨_, rfl, o, rfl, kh'.raw.isI, _, rfl, o, b', A, S, rn, lv, av, m, ni, d, g, rfl, kh', hb'', hg, ?_⟩
      refine ⟨_, rfl, _, _, rfl, rfl, _, rfl, ?_⟩
      refine ite2 (fun hgt => ⟨_, rfl, qa (.inr ⟨e, h2, hsc.trans (if_pos (by have := of_decide_eq_true hgt; omega))⟩) un H' fr ⟨_, hst'⟩ kh'⟩) (fun hng => ?_)
      have hng : ¬ e.c < g := fun z => hng (decide_eq_true (show (e.c : Int) < (g : Int) by omega))
      refine ⟨_, rfl, st, _, 1, _, rfl, rfl, hst', rfl, _, _, rfl, rfl, st, _, _, 1, rfl, rfl, hst', rfl, ?_⟩
      have m1 : Stp (upd H' st (.lst [.ref b, .int ((j : Int) + 1)])) st b ((j + 1 : Nat) : Int) := upd_same
      refine ⟨⟨j + 1, _, rfl, m1, fun c u z n => by rw [upd_ne n]; exact fr c u z n, hsc.trans (if_neg hng)⟩, ?_⟩
      show (match upd H' st (.lst [.ref b, .int ((j : Int) + 1)]) st with
        | some (.lst [_, .int j]) => ((e.d.length : Int) + 1 - j).toNat
        | _ => 0) < (match H' st with
        | some (.lst [_, .int j]) => ((e.d.length : Int) + 1 - j).toNat
        | _ => 0)
      rw [m1, hst']
      show ((e.d.length : Int) + 1 - ((j + 1 : Nat) : Int)).toNat < ((e.d.length : Int) + 1 - (j : Int)).toNat
      omega
  · rintro σ H' ⟨j, ov, rfl, hst', fr, hsc⟩
    have kh' := keepK fr
    refine ⟨_, rfl, _, rfl, _, rfl, o, _, rfl, kh'.raw, _, rfl, by show 4 ≤ sizeLine; decide, fun p2 np => ?_⟩
    have s2 := same_new (o := .tup [ve, .ref t, (kfo aF A S av).now, .int (e.g : Int)]) np
    have k2 := kh'.same s2
    have hp : EntV Vx (upd H' p2 (.tup [ve, .ref t, (kfo aF A S av).now, .int (e.g : Int)])) p2 ⟨e.v, e.d, S.now, e.g⟩ :=
      ⟨ve, t, bs, upd_same, Vx.keep (fun c xs z => s2 _ _ (frt fr c xs z)) hve, s2 _ _ (frt fr _ _ ht), hks.keep fun c xs z => s2 _ _ (frt fr c xs z)⟩
    have he2 := s2 _ _ (frd fr he)
    have hst2 := s2 _ _ hst'
    have fr2 : ∀ c u, H c = some u → c ≠ st → upd H' p2 (.tup [ve, .ref t, (kfo aF A S av).now, .int (e.g : Int)]) c = some u := fun c u z n => s2 _ _ (fr c u z n)
    generalize upd H' p2 (.tup [ve, .ref t, (kfo aF A S av).now, .int (e.g : Int)]) = H2 at s2 k2 hp he2 hst2 fr2 ⊢
    refine ⟨_, rfl, o, _, rfl, k2.raw, _, rfl, A.e, _, rfl, DPut.t he2 (frt fr2 _ _ hb) (Nat.lt_of_le_of_lt hlen (by show m < 16777216; omega)), ?_⟩
    have k3 := k2.put_ent (k := k) he2 hp
    have hse : st ≠ A.e := fun z => by rw [z, he2] at hst2; cases hst2
    refine qc e h2 un hsc _ (fun c u z n1 n2 => ?_) ⟨_, (upd_ne hse).trans hst2⟩ k3
    rw [upd_ne n2]
    exact fr2 c u z n1
end

end Sn

namespace Sn
open PySem PySem.Spec PyProof.Rows L2 TL
/-! ### a key asked for -/
def AvOk (H : Hp) (A : KAd) (av : V) : Prop := av = .non ∨ ∃ (d : Addr) (as : List (List L2.Key × V)), av = .ref d ∧ H d = some (.dT as) ∧ as.length ≤ 1000 ∧ d ≠ A.i ∧ d ≠ A.e ∧ d ≠ A.r
def AvP (av : V) (key : Ky) (H H' : Hp) : Prop := ∀ (d : Addr) (as : List (List L2.Key × V)), av = .ref d → H d = some (.dT as) → H' d = some (.dT (putK as key (.bl true)))
theorem map_putK {k : Ky} {v : V} (kvs : List (List L2.Key × V)) : (putK kvs k v).map (·.1) = addK (kvs.map (·.1)) k := by
  have h : (kvs.map (·.1)).any (fun x => decide (x = k)) = kvs.any fun kv => decide (kv.1 = k) := by rw [List.any_map]; rfl
  unfold putK addK
  rw [h]
  split
  · rw [List.map_map]
    refine List.map_congr_left fun kv _ => ?_
    show (if kv.1 = k then (kv.1, v) else kv).1 = kv.1
    split <;> rfl
  · rw [List.map_append]
    rfl

section
variable {α : Type} [DecidableEq α] (Vx : Vl α) (G : Ky → Prop) (comp : Ky → Tr α)
structure Pre (CK CR aF : Addr) (H : Hp) (o : Addr) (A : KAd) (S : KS α) (rn : Ky → Option Addr) (lv Lv : List Ky) (av : V) (m ni z : Nat) : Prop where
  kh : Kh Vx CK CR aF H o A S rn lv av m ni
  nd : lv.Nodup
  eq : ∀ x, x ∈ lv ↔ x ∈ Lv
  un : ∀ x ∈ lv, Unc S x
  avk : AvOk H A av
  sz : m + 4 * z + 8 ≤ 15000000
/-- how it comes out -/
def Out (CK CR aF : Addr) (H : Hp) (o : Addr) (A : KAd) (S' : KS α) (rn : Ky → Option Addr) (lv : List Ky) (av : V) (m ni : Nat) (P : Hp → Prop) : Prop :=
  ∀ H' rn', Fr o A av H H' → Kh Vx CK CR aF H' o A S' rn' lv av m ni → (∀ x ∈ lv, rn' x = rn x) → P H'
def spAsk (CK CR CC aF : Addr) (n : Nat) : Sp := fun vs H Q E => ∃ o b A S rn lv Lv av m ni k z out, vs = [.ref o, .ref b] ∧ Pre Vx CK CR aF H o A S rn lv Lv av m ni z ∧ isK H b k ∧ Run G comp Lv n z (.br S k) out ∧
  (∀ S' a, out = .ok S' → S'.val k = some a → Out Vx CK CR aF H o A S' rn lv av (m + 4 * z + 8) ni (fun H' => AvP av k H H' → ∀ v, Vx.rp H' v a → Q v H')) ∧
  (∀ S', out = .no S' → Out Vx CK CR aF H o A S' rn lv av (m + 4 * z + 8) ni (fun H' => E (.ref CC) none H'))
def spFn (CK CR CC aF : Addr) (n : Nat) : Sp := fun vs H Q E => ∃ o b A S rn lv Lv d m ni k z out, vs = [.ref o, .ref b] ∧ Pre Vx CK CR aF H o A S rn lv Lv (.ref d) m ni z ∧ H d = some (.dT []) ∧ isK H b k ∧ G k ∧ Run G comp Lv n z (.ev S (comp k) []) out ∧
  (∀ S' a as, out = .val S' a as → Out Vx CK CR aF H o A S' rn lv (.ref d) (m + 4 * z) ni (fun H' => ∀ kvs v, H' d = some (.dT kvs) → kvs.map (·.1) = as → kvs.length ≤ 1000 → Vx.rp H' v a → Q v H')) ∧
  (∀ S', out = .no S' → Out Vx CK CR aF H o A S' rn lv (.ref d) (m + 4 * z) ni (fun H' => E (.ref CC) none H'))
end
section
variable {α : Type} [DecidableEq α] {Vx : Vl α} {G : Ky → Prop} {comp : Ky → Tr α}
variable {CK CR aF : Addr} {H H1 H2 H' : Hp} {o : Addr} {A : KAd} {S : KS α} {rn : Ky → Option Addr} {lv Lv : List Ky} {av : V} {m ni z : Nat}
theorem Pre.same (p : Pre Vx CK CR aF H o A S rn lv Lv av m ni z) (s : Same H H') : Pre Vx CK CR aF H' o A S rn lv Lv av m ni z :=
  ⟨p.kh.same s, p.nd, p.eq, p.un, p.avk.elim .inl fun ⟨d, as, a, b, c⟩ => .inr ⟨d, as, a, s _ _ b, c⟩, p.sz⟩
theorem Fr.of (s : Same H H') : Fr o A av H H' := fun b u e _ _ _ _ _ => s b u e
theorem Fr.trans (a : Fr o A av H H1) (b : Fr o A av H1 H2) : Fr o A av H H2 := fun c u e n1 n2 n3 n4 n5 => b c u (a c u e n1 n2 n3 n4 n5) n1 n2 n3 n4 n5
theorem Fr.tup (f : Fr o A av H H') (k : Kh Vx CK CR aF H o A S rn lv av m ni) (ao : AvOk H A av) : FT H H' := by
  intro b xs h
  have ne : ∀ {c u}, H c = some u → u ≠ .tup xs → b ≠ c := fun e n z => by
    rw [← z, h] at e
    injection e with e
    exact n e.symm
  obtain ⟨dx, e1⟩ := k.raw
  obtain ⟨_, e2, _⟩ := k.ent
  obtain ⟨_, e3, _⟩ := k.run
  obtain ⟨_, e4, _⟩ := k.ended
  refine f b _ h (ne e1 fun z => nomatch z) (ne e2 fun z => nomatch z) (ne e3 fun z => nomatch z) (ne e4 fun z => nomatch z) fun z => ?_
  rcases ao with rfl | ⟨d, as, rfl, hd, _⟩
  · cases z
  · exact ne hd (fun z => nomatch z) (by injection z)
theorem Unc.run {L : List Ky} {n z : Nat} {J : Jg α} {S S1 : KS α} {P : Ky → Prop} (h : Lat P S S1) {x : Ky} (hx : P x) (u : Unc S x) : Unc S1 x := u.lat h hx
end
/-! ### a while by a size -/
theorem while_z {c : TT} {tb : TS} {D : Ends} {σ : L2.St} {H : Hp} (W : Nat → L2.St → Hp → Prop) {z : Nat} (h0 : W z σ H)
    (hs : ∀ z σ H, W z σ H → c σ H fun b H1 => if b = true then ∃ N : L2.St → Hp → Prop, (∀ σ' H', N σ' H' → ∃ m', m' < z ∧ W m' σ' H') ∧ tb { D with nx := N, ct := N, bk := D.nx } σ H1 else D.nx σ H1) : tWhile c tb D σ H := ⟨W, ⟨z, h0⟩, hs⟩
theorem wNz {W : Nat → L2.St → Hp → Prop} {k : Nat} {tb : TS} {D : Ends} {σ : L2.St} {H1 : Hp} (h : tb { D with nx := fun σ' H' => ∃ m', m' < k ∧ W m' σ' H', ct := fun σ' H' => ∃ m', m' < k ∧ W m' σ' H', bk := D.nx } σ H1) :
    ∃ N : L2.St → Hp → Prop, (∀ σ' H', N σ' H' → ∃ m', m' < k ∧ W m' σ' H') ∧ tb { D with nx := N, ct := N, bk := D.nx } σ H1 := ⟨_, fun _ _ n => n, h⟩
/-! ### ask: the path -/
structure It where
  k : Ky
  st : Addr
  b : Addr
  i : Nat
def ks (rev : List It) : List Ky := rev.reverse.map It.k
def sts (rev : List It) : List V := rev.reverse.map fun x => V.ref x.st
theorem ks_cons {x : It} {r : List It} : ks (x :: r) = ks r ++ [x.k] := by unfold ks; rw [List.reverse_cons, List.map_append]; rfl
theorem sts_cons {x : It} {r : List It} : sts (x :: r) = sts r ++ [V.ref x.st] := by unfold sts; rw [List.reverse_cons, List.map_append]; rfl
theorem sts_len {r : List It} : (sts r).length = r.length := by unfold sts; rw [List.length_map, List.length_reverse]
theorem mem_ks {x : It} {r : List It} (h : x ∈ r) : x.k ∈ ks r := List.mem_map.mpr ⟨x, List.mem_reverse.mpr h, rfl⟩
theorem of_ks {k : Ky} {r : List It} (h : k ∈ ks r) : ∃ x ∈ r, x.k = k := by
  obtain ⟨x, a, b⟩ := List.mem_map.mp h
  exact ⟨x, List.mem_reverse.mp a, b⟩
def rks (r : List It) : List (Ky × Nat) := r.map fun x => (x.k, x.i)
theorem rks_k {r : List It} : (rks r).map (·.1) = r.map It.k := by unfold rks; rw [List.map_map]; rfl
theorem atI_last {xs : List V} {v : V} : atI (xs ++ [v]) (-1) = some v := by
  have h : ixN (xs ++ [v]).length (-1) = some xs.length := by
    rw [List.length_append, List.length_singleton]
    unfold ixN
    rw [if_neg (by decide)]
    simp
    omega
  unfold atI
  rw [h]
  show (xs ++ [v])[xs.length]? = some v
  simp
/-- a frame for the loop -/
def Fl (o : Addr) (A : KAd) (H H' : Hp) : Prop := ∀ c u, H c = some u → c ≠ o → c ≠ A.e → c ≠ A.r → c ≠ A.l → H' c = some u
section
variable {α : Type} [DecidableEq α] (Vx : Vl α) (G : Ky → Prop)
/-- how far it has come -/
structure LI (CK CR aF : Addr) (H0 : Hp) (o : Addr) (A : KAd) (rn : Ky → Option Addr) (lv : List Ky) (ni pa pr dx : Nat) (H' : Hp) (S' : KS α) (rn' : Ky → Option Addr) (m' : Nat) (av' : V) (rev : List It) : Prop where
  fr : Fl o A H0 H'
  kh : Kh Vx CK CR aF H' o A S' rn' (lv ++ ks rev) av' m' ni
  rl : ∀ x ∈ lv, rn' x = rn x
  nd : (lv ++ ks rev).Nodup
  hpa : H' pa = some (.lst (sts rev))
  rk : ∀ x ∈ ks rev, rn' x = some pr
  hp : H' pr = some (.ins CR dx [("live", .bl true)])
  its : ∀ x ∈ rev, G x.k ∧ isK H' x.b x.k ∧ x.st ≠ A.l ∧ x.st ≠ pa ∧ Stp H' x.st x.b x.i ∧ H0 x.st = none
  sn : (rev.map It.st).Nodup
  un : ∀ x ∈ lv, Unc S' x
  unr : ∀ x ∈ rev.tail, Unc S' x.k
  len : rev.length ≤ m'
end
section
variable {α : Type} [DecidableEq α] (Vx : Vl α)
/-- within a turn -/
structure Cm (CK CR aF : Addr) (H1 : Hp) (o : Addr) (A : KAd) (rn : Ky → Option Addr) (lv : List Ky) (ni pa pr dx : Nat) (top : It) (rest : List It) (H6 : Hp) (S6 : KS α) (rn6 : Ky → Option Addr) (m6 : Nat) (av6 : V) : Prop where
  fr : Fl o A H1 H6
  kh : Kh Vx CK CR aF H6 o A S6 rn6 (lv ++ ks (top :: rest)) av6 m6 ni
  rl : ∀ x ∈ lv, rn6 x = rn x
  rk : ∀ x ∈ ks (top :: rest), rn6 x = some pr
  hpa : H6 pa = some (.lst (sts (top :: rest)))
  hp : H6 pr = some (.ins CR dx [("live", .bl true)])
  hb : isK H6 top.b top.k
  stp : ∃ j : Nat, Stp H6 top.st top.b j
  its : ∀ x ∈ rest, isK H6 x.b x.k ∧ Stp H6 x.st x.b x.i
  un : ∀ x ∈ lv, Unc S6 x
  unr : ∀ x ∈ rest, Unc S6 x.k
end
/-- what stays for good -/
structure Cs (H1 : Hp) (A : KAd) (pa : Addr) (top : It) (rest : List It) : Prop where
  n0 : H1 top.st = none
  pl : pa ≠ A.l
  pt : pa ≠ top.st
  rs : ∀ x ∈ rest, x.st ≠ A.l ∧ x.st ≠ top.st
section
variable {α : Type} [DecidableEq α] {Vx : Vl α}
theorem Cm.step {CK CR aF : Addr} {H1 : Hp} {o : Addr} {A : KAd} {rn : Ky → Option Addr} {lv : List Ky} {ni pa pr dx : Nat} {top : It} {rest : List It} {H6 : Hp} {S6 : KS α} {rn6 : Ky → Option Addr} {m6 : Nat} {av6 : V}
    (c : Cm Vx CK CR aF H1 o A rn lv ni pa pr dx top rest H6 S6 rn6 m6 av6) (s : Cs H1 A pa top rest) {H7 : Hp} {S7 : KS α} {rn7 : Ky → Option Addr} {m7 : Nat} {av7 : V}
    (f : ∀ c u, H6 c = some u → c ≠ o → c ≠ A.e → c ≠ A.r → c ≠ A.l → c ≠ top.st → H7 c = some u) (stp : ∃ j : Nat, Stp H7 top.st top.b j) (kh : Kh Vx CK CR aF H7 o A S7 rn7 (lv ++ ks (top :: rest)) av7 m7 ni)
    (un : ∀ x ∈ lv, Unc S7 x) (unr : ∀ x ∈ rest, Unc S7 x.k) (rl : ∀ x ∈ lv, rn7 x = rn x) (rk : ∀ x ∈ ks (top :: rest), rn7 x = some pr) : Cm Vx CK CR aF H1 o A rn lv ni pa pr dx top rest H7 S7 rn7 m7 av7 := by
  obtain ⟨_, eo⟩ := c.kh.raw
  obtain ⟨_, ee, _⟩ := c.kh.ent
  obtain ⟨_, er, _⟩ := c.kh.run
  obtain ⟨_, el, _⟩ := c.kh.ended
  obtain ⟨j0, es⟩ := c.stp
  have es : H6 top.st = some (.lst [.ref top.b, .int (j0 : Int)]) := es
  have ne : ∀ {a b u v}, H6 a = some u → H6 b = some v → u ≠ v → a ≠ b := fun x y z w => by
    rw [w, y] at x
    injection x with x
    exact z x.symm
  have ft : ∀ {b xs}, H6 b = some (.tup xs) → H7 b = some (.tup xs) := fun x => f _ _ x (ne x eo fun z => nomatch z) (ne x ee fun z => nomatch z) (ne x er fun z => nomatch z) (ne x el fun z => nomatch z) (ne x es fun z => nomatch z)
  have fl : ∀ {b xs}, H6 b = some (.lst xs) → b ≠ A.l → b ≠ top.st → H7 b = some (.lst xs) := fun x y z => f _ _ x (ne x eo fun z => nomatch z) (ne x ee fun z => nomatch z) (ne x er fun z => nomatch z) y z
  refine ⟨fun a u x y1 y2 y3 y4 => f _ _ (c.fr a u x y1 y2 y3 y4) y1 y2 y3 y4 (fun z => by rw [z, s.n0] at x; cases x), kh, rl, rk, fl c.hpa s.pl s.pt, ?_, ft c.hb, stp, fun x hx => ?_, un, unr⟩
  · exact f _ _ c.hp (ne c.hp eo fun z => by injection z with z; exact c.kh.ck z.symm) (ne c.hp ee fun z => nomatch z) (ne c.hp er fun z => nomatch z) (ne c.hp el fun z => nomatch z) (ne c.hp es fun z => nomatch z)
  · obtain ⟨a, b⟩ := c.its x hx
    exact ⟨ft a, fl b (s.rs x hx).1 (s.rs x hx).2⟩
end
section
variable {α : Type} [DecidableEq α] {Vx : Vl α} {G : Ky → Prop} {comp : Ky → Tr α}
theorem dp_key {K : PySem.W.Frag} {H : Hp} {b : Addr} {k : Ky} (h : isK H b k) : Dp K H (.ref b) (.tuple (k.map fun x => match x with | .inl i => .int i | .inr x => .str x)) := by
  refine .tup (.inl (.inl h)) ?_
  clear h
  induction k with
  | nil => exact .nil
  | cons x r ih =>
    cases x with
    | inl i => exact .cons (.int i) ih
    | inr x => exact .cons (.str x) ih
end
theorem po_tr {X : Cx} {pn : List (Addr × Obj)} {xe : Value → Shared → Prop} (h : PassesOwn (model X.prog X.w) X.A X.env xe) : PassesOwn (model (X.tr pn xe).prog (X.tr pn xe).w) (X.tr pn xe).A (X.tr pn xe).env (X.tr pn xe).xe := h
theorem bmK {X : Cx} {K : PySem.W.Frag} {T : String} {r : V → List V → Hp → VK → Prop} {to : TE} {t : TA} {e : Expr} (hK : X.K = K) (h : PE X e (tBM X.K T r to t)) : PE X e (tBM K T r to t) := hK ▸ h
theorem bm0K {X : Cx} {K : PySem.W.Frag} {T : String} {r : V → List V → Hp → VK → Prop} {to : TE} {e : Expr} (hK : X.K = K) (h : PE X e (tBM0 X.K T r to)) : PE X e (tBM0 K T r to) := hK ▸ h
theorem truK {X : Cx} {K : PySem.W.Frag} {ta : TE} {e : Expr} (hK : X.K = K) (h : PT X e (fun σ H Q => ta σ H fun x H' => ∃ k, TruV X.K x H' k ∧ Q k H')) : PT X e (fun σ H Q => ta σ H fun x H' => ∃ k, TruV K x H' k ∧ Q k H') := hK ▸ h
theorem fldK {X : Cx} {K : PySem.W.Frag} {ta tv : TE} {f : Str} {st : Stmt} (hK : X.K = K) (h : PS X st (sFld X.K ta tv f)) : PS X st (sFld K ta tv f) := hK ▸ h
/-! keys as data -/
def datK (x : L2.Key) : PyData := match x with
  | .inl i => .int i
  | .inr x => .str x
theorem eqv_datK : ∀ a b : L2.Key, PyData.eqv (datK a) (datK b) = decide (a = b)
  | .inl i, .inl j => by
    show PyData.eqv (.int i) (.int j) = _
    rw [PyData.eqv]
    by_cases h : i = j <;> simp [h]
  | .inr i, .inr j => by
    show PyData.eqv (.str i) (.str j) = _
    rw [PyData.eqv]
    by_cases h : i = j <;> simp [h]
  | .inl i, .inr j => by
    show PyData.eqv (.int i) (.str j) = _
    rw [PyData.eqv]
    all_goals simp
  | .inr i, .inl j => by
    show PyData.eqv (.str i) (.int j) = _
    rw [PyData.eqv]
    all_goals simp
theorem eqvAll_datK : ∀ a b : Ky, PyData.eqvAll (a.map datK) (b.map datK) = decide (a = b)
  | [], [] => by rw [List.map_nil, PyData.eqvAll]; rfl
  | [], y :: s => by rw [List.map_nil, List.map_cons, PyData.eqvAll] <;> simp
  | x :: r, [] => by rw [List.map_nil, List.map_cons, PyData.eqvAll] <;> simp
  | x :: r, y :: s => by
    rw [List.map_cons, List.map_cons, PyData.eqvAll, eqv_datK, eqvAll_datK]
    by_cases h : x = y <;> by_cases h2 : r = s <;> simp [h, h2]
theorem eqv_key (a b : Ky) : PyData.eqv (.tuple (a.map datK)) (.tuple (b.map datK)) = decide (a = b) := by
  rw [PyData.eqv, eqvAll_datK]
theorem key_dp {K : PySem.W.Frag} {H : Hp} {b : Addr} {k : Ky} (h : isK H b k) : Dp K H (.ref b) (.tuple (k.map datK)) := dp_key h
def Shp (k : Ky) : Prop := SeqAt.shaped (.tuple (k.map datK)) = true

end Sn

namespace Sn
open PySem PySem.Spec PyProof.Rows L2 TL
/-! ### ask -/
section
variable {α : Type} [DecidableEq α] {Vx : Vl α} {G : Ky → Prop} {comp : Ky → Tr α}
variable {P : Program} {w : World} {K : PySem.W.Frag} {mg : Str → Option Value} {base : Heap} {f : Addr} {fd : FuncData} {CK CR CC aF : Addr}
abbrev s_K_ask : Stmt := inClass (topS 7) 9
abbrev N_K_ask : List Str := ["self", "key", "function", "outer", "run", "path", "last", "wanted", "value"]
theorem sc_K_ask : FnScope N_K_ask ["self", "key"] (defScope s_K_ask) := ⟨rfl, rfl, rfl, by decide +kernel, rfl, by decide +kernel, by decide +kernel⟩
theorem ok_ask {n L : Nat} {fdC : FuncData} (hG : ∀ k, G k → Shp k) (F : Fun K "ask" "Keeper.ask" s_K_ask f fd) (T : NmK K mg aF CK CR CC) (I_Run : CalO P w K mg base CX0 1 CR (spRunI CR))
    (C_Keeper__entered : CalM P w K mg base CX0 1 CK "_entered" (spEnt Vx CK CR aF)) (C_Keeper__wanted : CalM P w K mg base CX0 2 CK "_wanted" (spWan Vx CK CR aF)) (C_Keeper__begin : CalM P w K mg base (L2.CX P w) 1 CK "_begin" (spBeg Vx CK CR CC aF)) (C_Keeper__end : CalM P w K mg base CX0 1 CK "_end" (spEnd Vx CK CR aF))
    (hL : 2 ≤ L) (F__law_compute : FnOk P w K mg base (L2.CX P w) L aF fdC ["keeper", "key"] (spFn Vx G comp CK CR CC aF n)) (K__law_compute : PySem.W.keepIn K (.ref aF) = true) (B__law_compute : Binds K fdC ["keeper", "key"] []) : FnOk P w K mg base (L2.CX P w) (L + 1) f fd ["self", "key"] (spAsk Vx G comp CK CR CC aF (n + 1)) := by
  refine F.okX sc_K_ask (fun vs H Q E h => ?_) (fun cdv A outer s H vs Q E hr h => ?_)
  · obtain ⟨o, b, A, S, rn, lv, Lv, av, m, ni, k, z, out, rfl, _⟩ := h
    rfl
  obtain ⟨o, b, A, S, rn, lv, Lv, av, m, ni, k, z, res, rfl, pre, hkey, run, q, qe⟩ := h
  refine ⟨_, (C8.pss_cut (ps_if (pt_cmpR op_notN (pe_k_asked T (pv 0)) pe_non (nomark _)) (pss_one (ps_dput (hu_of hr) (pe_k_asked T (pv 0)) (pv 1) pe_bl rfl)) pss_nil)
    (pss_cons (ps_if (pt_cmp (pc_din (hu_of hr) (pv 1) (pe_k_inputs T (pv 0)))) (pss_one (ps_ret (pe_ix (r := rIxT K) ix_tup (pe_dget (hu_of hr) (pe_k_inputs T (pv 0)) (pv 1) (fun _ _ => rfl)) pe_int (fun _ _ => rfl)))) pss_nil)
    (pss_cons (ps_set (i := 2) sc_K_ask.nd rfl (Or.inl rfl) (pe_k_function T (pv 0)))
    (pss_cons (ps_set (i := 3) sc_K_ask.nd rfl (Or.inl rfl) (pe_k_asked T (pv 0)))
    (pss_cons (ps_set (i := 4) sc_K_ask.nd rfl (Or.inl rfl) (pe_mk0 I_Run hr (by first | decide | omega) T.mk_Run pass0))
    (pss_cons (ps_fi rfl rfl rfl (takes_of rfl rfl rfl rfl) (fun W pn xe tk po => (pss_cons (ps_set (i := 5) sc_K_ask.nd rfl (Or.inl rfl) (pe_lst (pa_cons (pe_m ns_Keeper C_Keeper__entered T.cl_Keeper (by decide) hr (by first | decide | omega) pass0 (pv 0) (pa_cons (pv 1) (pa_cons (pv 4) pa_nil))) pa_nil)))
    (pss_one (ps_while (po_tr po) (truK (K := K) rfl (pt_truth (pv 5) (by intro _; rfl))) (pss_cons (ps_set (i := 6) sc_K_ask.nd rfl (Or.inl rfl) (pe_ix (r := rIxL K) ix_list (pv 5) (pe_un un_neg pe_int) (fun _ _ => rfl)))
    (C8.pss_cut (ps_set (i := 7) sc_K_ask.nd rfl (Or.inl rfl) (pe_m ns_Keeper C_Keeper__wanted T.cl_Keeper (by decide) hr (by first | decide | omega) pass0 (pv 0) (pa_cons (pv 6) pa_nil)))
    (C8.pss_cut (ps_if (PW.pt (pw_and (pt_cmpR op_notN (pv 7) pe_non (nomark _)) (pw_and1 (pt_cmpR (r := rNeD K) (op_neD hr.units) (pv 7) (pe_ix (r := rIxL K) ix_list (pv 6) pe_int (fun _ _ => rfl)) (nomark _))))) (pss_cons (ps_expr (bmK (K := K) rfl (pe_bm PySem.F.plainAttrs_list PySem.F.slot_list_append PySem.F.type_list_append mt_append (pv 5) (pa_cons (pe_m ns_Keeper C_Keeper__entered T.cl_Keeper (by decide) hr (by first | decide | omega) pass0 (pv 0) (pa_cons (pv 7) (pa_cons (pv 4) pa_nil))) pa_nil))))
    (pss_one ps_continue)) pss_nil)
    (C8.pss_cut (ps_if (pt_cmpR op_notN (pv 7) pe_non (nomark _)) (pss_cons (ps_expr (pe_mS0 ns_Keeper C_Keeper__begin T.cl_Keeper (by decide) hr (by first | decide | omega) (fun σ => passAt tk σ) (pv 0)))
    (pss_cons (ps_set (i := 8) sc_K_ask.nd rfl (Or.inl rfl) (pe_caS (i := 2) F__law_compute hr (by first | decide | omega) rfl (.inl rfl) K__law_compute B__law_compute (fun σ => passAt tk σ) (pa_cons (pv 0) (pa_cons (pv 7) pa_nil))))
    (pss_one (ps_expr (pe_m ns_Keeper C_Keeper__end T.cl_Keeper (by decide) hr (by first | decide | omega) pass0 (pv 0) (pa_cons (pv 7) (pa_cons (pv 8) pa_nil))))))) pss_nil)
    (pss_cons (ps_expr (bm0K (K := K) rfl (pe_bm0 PySem.F.plainAttrs_list PySem.F.slot_list_pop PySem.F.type_list_pop mt_pop (pv 5))))
    (pss_one (ps_ddelT (hu_of hr) (pe_k_runs T (pv 0)) (pe_ix (r := rIxL K) ix_list (pv 6) pe_int (fun _ _ => rfl))))))))))))) (pss_cons (fldK (K := K) rfl (ps_fld (pv 4) pe_bl rfl))
    (pss_one (ps_k_asked T (pv 0) (pv 3)))) (fun a pn => (pss_cons (fldK (K := K) rfl (ps_fld (pv 4) pe_bl rfl))
    (pss_one (ps_k_asked T (pv 0) (pv 3))))))
    (pss_one (ps_ret (pe_ix (r := rIxT K) ix_tup (pe_dget (hu_of hr) (pe_k_entries T (pv 0)) (pv 1) (fun _ _ => rfl)) pe_int (fun _ _ => rfl)))))))))), ?_⟩
  have kh := pre.kh
  have sz := pre.sz
  -- what was asked is noted
  refine ⟨fun σ H1 => σ = [some (.ref o), some (.ref b), none, none, none, none, none, none, none] ∧ Fr o A av H H1 ∧ Kh Vx CK CR aF H1 o A S rn lv av m ni ∧ AvP av k H H1 ∧ H1 b = H b, ?_, ?_⟩
  · refine ⟨_, rfl, o, _, rfl, kh.raw, rfl, _, rfl, ?_⟩
    rcases pre.avk with rfl | ⟨d, as, rfl, hd, hl, n1, n2, n3⟩
    · exact iteF ⟨rfl, (fun c u z _ _ _ _ _ => z), kh, (fun d as z => nomatch z), rfl⟩
    · refine iteT ?_
      have hdl : as.length < sizeLine := Nat.lt_of_le_of_lt hl (by show 1000 < 16777216; decide)
      refine ⟨_, rfl, o, _, rfl, kh.raw, _, rfl, d, _, rfl, DPut.t hd hkey hdl, ?_⟩
      have nd : ∀ {c u}, H c = some u → (∀ kvs, u ≠ .dT kvs) → c ≠ d := fun e' nn z => by
        rw [z, hd] at e'
        injection e' with e'
        exact nn _ e'.symm
      have kh1 : Kh Vx CK CR aF (upd H d (.dT (putK as k (.bl true)))) o A S rn lv (.ref d) m ni := kh.other hd n1 n2 n3
      refine ⟨rfl, fun c u z _ _ _ _ nn => by rw [upd_ne (fun y => nn (by rw [y]))]; exact z, kh1, fun d' as' z1 z2 => ?_, ?_⟩
      · injection z1 with z1
        subst z1
        rw [hd] at z2
        cases z2
        exact upd_same
      · exact upd_ne (nd hkey fun _ z => nomatch z)
  rintro σ H1 ⟨rfl, fr1, kh1, avp1, hb1⟩
  obtain ⟨kvi, hki, _, his⟩ := kh1.inp
  have hkey1 : isK H1 b k := hb1.trans hkey
  have dgi := DGet.t hki hkey1
  refine ⟨_, rfl, _, rfl, o, _, rfl, kh1.raw, A.i, _, rfl, dgi, _, rfl, ?_⟩
  rcases his k with ⟨y1, y2⟩ | ⟨pk, vk, ak, rk, y1, y2, y3, y4⟩
  rotate_left
  · have e0 : res = .ok S := run.rdy (.inl ⟨_, y2⟩)
    subst e0
    rw [y1] at dgi ⊢
    refine iteT ⟨_, rfl, o, _, rfl, kh1.raw, _, rfl, A.i, _, rfl, dgi, pk, _, _, _, rfl, rfl, .inl (.inl y3), at_nat (i := 0) rfl, ?_⟩
    exact q S ak rfl (by unfold KS.val; rw [y2]) H1 rn fr1 (kh1.more (by omega)) (fun _ _ => rfl) avp1 _ y4
  rw [y1]
  refine iteF ?_
  -- the path's first key
  obtain ⟨gk, hk, z0, unw0, hz0⟩ : G k ∧ k ∉ lv ∧ ∃ z0, Unw G comp Lv (n + 1) [(k, 0)] z0 S res ∧ 1 + 4 * z0 ≤ 4 * z + 8 := by
    cases run with
    | b_in x =>
      rw [y2] at x
      cases x
    | b_now x1 x2 x3 x4 =>
      exact ⟨x4, fun y => pre.un k y _ x2 x3, 1, ⟨0, _, .r_now x2 x3, .inl ⟨S, 0, rfl, Nat.le_refl _, rfl⟩⟩, by omega⟩
    | b_rs x1 x2 x3 x4 x5 => exact ⟨x4, fun y => x3 ((pre.eq k).mp y), _, Unw.one x5 (x5.post List.mem_cons_self x2).2.2, by omega⟩
  have rdyk : ∀ S', res = .ok S' → Rdy S' k := run.post.2.1
  have inpk : res.st.inp k = none := (congrFun run.post.1.inp k).trans y2
  have novl : ∀ S' v as, res ≠ .val S' v as := run.post.2.2
  refine ⟨_, rfl, o, _, rfl, kh1.raw, ?_⟩
  refine ⟨_, rfl, o, _, rfl, kh1.raw, ?_⟩
  refine fun pr dx n1 n2 n3 => ⟨pr, dx, rfl, upd_same, rfl, ?_⟩
  have e2 : upd (upd (upd H1 dx (.own pr)) pr (.ins CR dx [])) pr (.ins CR dx [("live", .bl true)]) = upd (upd H1 dx (.own pr)) pr (.ins CR dx [("live", .bl true)]) := upd_upd
  rw [e2]
  have s2 : Same H1 (upd (upd H1 dx (.own pr)) pr (.ins CR dx [("live", .bl true)])) := fun c u z => by
    rw [upd_ne (fun y => by rw [y, n1] at z; cases z), upd_ne (fun y => by rw [y, n2] at z; cases z)]
    exact z
  have hpr2 : upd (upd H1 dx (.own pr)) pr (.ins CR dx [("live", .bl true)]) pr = some (.ins CR dx [("live", .bl true)]) := upd_same
  have hl0 : ∀ x ∈ lv, rn x ≠ some pr := fun x hx z => by
    obtain ⟨p, dx', a, c⟩ := (kh1.live x).1 hx
    rw [z] at a
    cases a
    rw [n1] at c
    cases c
  have kh2 := kh1.same s2
  have hS2 : isK (upd (upd H1 dx (.own pr)) pr (.ins CR dx [("live", .bl true)])) b k := s2 _ _ hkey1
  generalize upd (upd H1 dx (.own pr)) pr (.ins CR dx [("live", .bl true)]) = H2 at s2 hpr2 kh2 hS2 ⊢
  clear e2
  -- the end, either way
  have out : ∀ (ps : List Ky) (H' : Hp) (S' : KS α) (rn' : Ky → Option Addr) (m' : Nat) (av' : V), Fl o A H1 H' → Kh Vx CK CR aF H' o A S' rn' (lv ++ ps) av' m' ni → (∀ x ∈ lv, rn' x = rn x) → (∀ x ∈ ps, rn' x = some pr) → H' pr = some (.ins CR dx [("live", .bl true)]) → m' ≤ m + 4 * z + 8 →
      KRaw CK (upd H' pr (.ins CR dx [("live", .bl false)])) o (kfo aF A S' av') ∧ ∀ H4, But o (upd H' pr (.ins CR dx [("live", .bl false)])) H4 → KRaw CK H4 o { kfo aF A S' av' with asked := av } → Fr o A av H H4 ∧ Kh Vx CK CR aF H4 o A S' rn' lv av (m + 4 * z + 8) ni ∧ AvP av k H H4 := by
    intro ps H' S' rn' m' av' fr kh' rl rk hp hm'
    have kh3 := kh'.stop hp rk fun x hx z => hl0 x hx (by rw [← rl x hx]; exact z)
    refine ⟨kh3.raw, fun H4 b4 r4 => ⟨fun c u z z1 z2 z3 z4 z5 => ?_, (kh3.ask b4 r4).more hm', fun d as z1 z2 => ?_⟩⟩
    · have y := fr1 c u z z1 z2 z3 z4 z5
      refine b4 _ _ z1 ?_
      rw [upd_ne (fun y2 => by rw [y2, n1] at y; cases y)]
      exact fr c u y z1 z2 z3 z4
    · have y := avp1 d as z1 z2
      subst z1
      rcases pre.avk with z | ⟨d', as', z, _, _, w1, w2, w3⟩
      · cases z
      injection z with z
      subst z
      obtain ⟨_, eo⟩ := kh1.raw
      obtain ⟨_, el, _⟩ := kh1.ended
      have ndo : d ≠ o := fun z => by rw [z, eo] at y; cases y
      refine b4 _ _ ndo ?_
      rw [upd_ne (fun y2 => by rw [y2, n1] at y; cases y)]
      exact fr _ _ y ndo w2 w3 (fun z => by rw [z, el] at y; cases y)
  refine ⟨_, rfl, o, rfl, kh2.raw.isI, _, rfl, _, rfl, o, b, pr, dx, A, S, rn, lv, av, m, ni, k, rfl, kh2, hS2, hpr2, by omega, hk, ?_⟩
  have fl2 : Fl o A H1 H2 := fun c u z _ _ _ _ => s2 _ _ z
  intro H3 st fr3 nst hst kh3
  refine ⟨by show 1 ≤ sizeLine; decide, fun pa npa => ?_⟩
  have s4 := same_new (o := .lst [.ref st]) npa
  have kh4 := kh3.same s4
  have hpa4 : upd H3 pa (.lst [.ref st]) pa = some (.lst [.ref st]) := upd_same
  have nar : ∀ {c u}, H2 c = some u → c ≠ A.r → upd H3 pa (.lst [.ref st]) c = some u := fun z y => s4 _ _ (fr3 _ _ z y)
  have npa1 : H1 pa = none := by
    cases z : H1 pa with
    | none => rfl
    | some u =>
      exfalso
      by_cases y : pa = A.r
      · obtain ⟨_, w, _⟩ := kh3.run
        rw [y, w] at npa
        cases npa
      · rw [fr3 _ _ (s2 _ _ z) y] at npa
        cases npa
  have nst1 : H1 st = none := by
    cases z : H1 st with
    | none => rfl
    | some u => rw [s2 _ _ z] at nst; cases nst
  dsimp only [gName, tSeq]
  refine while_z (fun z' σ H' => ∃ o6 o7 o8 S' rn' m' av' rev, σ = [some (.ref o), some (.ref b), some (.ref aF), some av, some (.ref pr), some (.ref pa), o6, o7, o8] ∧ LI Vx G CK CR aF H1 o A rn lv ni pa pr dx H' S' rn' m' av' rev ∧ Unw G comp Lv (n + 1) (rks rev) z' S' res ∧ m' + 4 * z' ≤ m + 4 * z + 8) (z := z0)
    ⟨none, none, none, S, ups rn k pr, m + 1, av, [⟨k, st, b, 0⟩], rfl, ?_, unw0, by omega⟩ ?_
  · refine ⟨fun c u z _ _ z3 _ => nar (s2 _ _ z) z3, kh4, fun x hx => ups_ne fun z => hk (z ▸ hx), ?_, hpa4, ?_, nar hpr2 (fun z => by obtain ⟨_, w, _⟩ := kh2.run; rw [← z, hpr2] at w; cases w), ?_, ?_, pre.un, ?_, by show 1 ≤ m + 1; omega⟩
    · refine List.nodup_append.mpr ⟨pre.nd, by simp [ks], fun x hx y hy => ?_⟩
      rw [show y = k by simpa [ks] using hy]
      exact fun z => hk (z ▸ hx)
    · intro x hx
      rw [show x = k by simpa [ks] using hx]
      exact ups_at
    · intro x hx
      rw [List.mem_singleton.mp hx]
      refine ⟨gk, nar hS2 (fun z => by obtain ⟨_, w, _⟩ := kh2.run; rw [← z, show H2 b = _ from hS2] at w; cases w), fun z => ?_, fun z => ?_, s4 _ _ hst, nst1⟩
      · obtain ⟨_, w, _⟩ := kh2.ended
        have z : st = A.l := z
        rw [← z, nst] at w
        cases w
      · have z : st = pa := z
        rw [← z, hst] at npa
        cases npa
    · simp
    · exact fun x hx => absurd hx (by simp)
  rintro z5 σ H5 ⟨o6, o7, o8, S5, rn5, m5, av5, rev, rfl, L, unw5, hm5⟩
  refine ⟨_, rfl, _, .inl ⟨_, .inl (.inl L.hpa), rfl⟩, ?_⟩
  cases rev with
  | nil =>
    refine iteF ?_
    have e5 : res = .ok S5 := unw5
    subst e5
    obtain ⟨r3, ot⟩ := out [] H5 S5 rn5 m5 av5 L.fr L.kh L.rl (fun x hx => absurd hx (by simp)) L.hp (by omega)
    refine ⟨_, rfl, pr, CR, dx, _, rfl, L.hp, T.cl_Run, T.n_live, by decide, ?_⟩
    refine ⟨_, rfl, _, rfl, o, _, rfl, r3, fun H4 b4 _ r4 => ?_⟩
    obtain ⟨f4, k4, a4⟩ := ot H4 b4 r4
    obtain ⟨kve, hke, _, hse⟩ := k4.ent
    have inpk : S5.inp k = none := inpk
    obtain ⟨e, he, hc⟩ : ∃ e, S5.en k = some e ∧ e.c = S5.now := by
      rcases rdyk S5 rfl with ⟨x, y⟩ | ⟨_, y⟩
      · rw [inpk] at y
        cases y
      · exact y
    rcases hse k with ⟨_, y⟩ | ⟨pe, e', y1, y2, ve, qq, bb, y3, y4, _⟩
    · rw [he] at y
      cases y
    rw [he] at y2
    cases y2
    have dg : DGet H4 A.e (.ref b) (some (.ref pe)) := by
      rw [← y1]
      exact DGet.t hke (f4.tup pre.kh pre.avk _ _ hkey)
    refine ⟨_, rfl, o, _, rfl, k4.raw, _, rfl, A.e, _, rfl, dg, pe, _, _, _, rfl, rfl, .inl (.inl y3), at_nat (i := 0) rfl, ?_⟩
    exact q S5 e.v rfl (by unfold KS.val; rw [inpk, he]; rfl) H4 rn5 f4 k4 L.rl a4 _ y4
  | cons top rest =>
    have e1 : (!(sts (top :: rest)).isEmpty) = true := by rw [sts_cons]; cases sts rest <;> rfl
    rw [e1]
    refine iteT (wNz ?_)
    obtain ⟨gtop, hbS, hsl, hsp, hi, hs1⟩ := L.its top List.mem_cons_self
    have lat : atI (sts (top :: rest)) (-1) = some (.ref top.st) := by rw [sts_cons]; exact atI_last
    refine ⟨_, rfl, 1, rfl, pa, _, _, _, rfl, rfl, .inl (.inl L.hpa), lat, ?_⟩
    have sn := L.sn
    rw [List.map_cons, List.nodup_cons] at sn
    have pal : pa ≠ A.l := fun z => by
      obtain ⟨_, w, _⟩ := kh1.ended
      rw [← z, npa1] at w
      cases w
    have cs : Cs H1 A pa top rest := ⟨hs1, pal, hsp.symm, fun x hx => ⟨(L.its x (List.mem_cons_of_mem _ hx)).2.2.1, fun z => sn.1 (z ▸ List.mem_map.mpr ⟨x, hx, rfl⟩)⟩⟩
    have nd := L.nd
    rw [ks_cons, ← List.append_assoc, List.nodup_append] at nd
    obtain ⟨nd1, _, nd2⟩ := nd
    have tl0 : top.k ∉ lv := fun z => nd2 _ (List.mem_append.mpr (.inl z)) _ (List.mem_singleton.mpr rfl) rfl
    have tr0 : ∀ x ∈ rest, x.k ≠ top.k := fun x hx => nd2 _ (List.mem_append.mpr (.inr (mem_ks hx))) _ (List.mem_singleton.mpr rfl)
    have c5 : Cm Vx CK CR aF H1 o A rn lv ni pa pr dx top rest H5 S5 rn5 m5 av5 := ⟨L.fr, L.kh, L.rl, L.rk, L.hpa, L.hp, hbS, ⟨_, hi⟩, fun x hx => ⟨(L.its x (List.mem_cons_of_mem _ hx)).2.1, (L.its x (List.mem_cons_of_mem _ hx)).2.2.2.2.1⟩, L.un, fun x hx => L.unr x hx⟩
    have lenr : rest.length + 1 ≤ m5 := L.len
    refine ⟨fun σ H6 => ∃ wv S6 m6, σ = [some (.ref o), some (.ref b), some (.ref aF), some av, some (.ref pr), some (.ref pa), some (.ref top.st), some wv, o8] ∧ Cm Vx CK CR aF H1 o A rn lv ni pa pr dx top rest H6 S6 rn5 m6 av5 ∧
      ((wv = .ref top.b ∧ S6 = S5 ∧ m6 = m5 ∧ Unc S5 top.k ∧ (S5.en top.k = none ∨ ∃ e, S5.en top.k = some e ∧ scan S5 e.c (e.d.drop top.i) top.i = .comp)) ∨
       (∃ (b' : Addr) (e : En α) (d : Ky) (j : Nat), wv = .ref b' ∧ S6 = S5 ∧ m6 = m5 ∧ Unc S5 top.k ∧ S5.en top.k = some e ∧ scan S5 e.c (e.d.drop top.i) top.i = .push d j ∧ Stp H6 top.st top.b j ∧ isK H6 b' d) ∨
       (wv = .non ∧ ∃ z6, z6 < z5 ∧ Unw G comp Lv (n + 1) (rks rest) z6 S6 res ∧ m6 + 4 * z6 ≤ m + 4 * z + 8 ∧ rest.length ≤ m6)), ?_, ?_⟩
    · refine ⟨_, rfl, o, rfl, L.kh.raw.isI, _, rfl, o, top.st, top.b, A, S5, rn5, lv ++ ks (top :: rest), av5, m5, ni, top.k, top.i, rfl, L.kh, hbS, hi, hsl, by omega, fun ⟨e, he, hc⟩ => ?_, fun hq u H6 fr6 hj kh6 => ?_, fun e d j he u hq H6 b' fr6 hj kh6 hb6 => ?_, fun e he u hq H6 fr6 hj kh6 => ?_⟩
      · obtain ⟨z6, h6, u6⟩ := turnD unw5 he hc
        exact ⟨_, S5, m5, rfl, c5, .inr (.inr ⟨rfl, z6, by omega, u6, by omega, by omega⟩)⟩
      · exact ⟨_, S5, m5, rfl, c5.step cs (fun c u z _ _ _ _ y => fr6 c u z y) hj kh6 c5.un c5.unr L.rl L.rk, .inl ⟨rfl, rfl, rfl, u, hq⟩⟩
      · exact ⟨_, S5, m5, rfl, c5.step cs (fun c u z _ _ _ _ y => fr6 c u z y) ⟨j, hj⟩ kh6 c5.un c5.unr L.rl L.rk, .inr (.inl ⟨b', e, d, j, rfl, rfl, rfl, u, he, hq, hj, hb6⟩)⟩
      · obtain ⟨z6, h6, u6⟩ := turnC unw5 u he hq
        have un6 : ∀ x, x ≠ top.k → Unc S5 x → Unc (S5.look top.k e) x := fun x hx ux e' he' => ux e' ((ups_ne hx).symm.trans he')
        exact ⟨_, S5.look top.k e, m5 + 1, rfl, c5.step cs (fun c u z _ y1 _ _ y => fr6 c u z y y1) hj kh6 (fun x hx => un6 x (fun z => tl0 (z ▸ hx)) (c5.un x hx)) (fun x hx => un6 _ (tr0 x hx) (c5.unr x hx)) L.rl L.rk, .inr (.inr ⟨rfl, z6, by omega, u6, by omega, by omega⟩)⟩
    rintro σ H6 ⟨wv, S6, m6, rfl, c6, cases6⟩
    refine ⟨fun σ H7 => ∃ wv S7 m7, σ = [some (.ref o), some (.ref b), some (.ref aF), some av, some (.ref pr), some (.ref pa), some (.ref top.st), some wv, o8] ∧ Cm Vx CK CR aF H1 o A rn lv ni pa pr dx top rest H7 S7 rn5 m7 av5 ∧
      ((wv = .ref top.b ∧ S7 = S5 ∧ m7 = m5 ∧ Unc S5 top.k ∧ (S5.en top.k = none ∨ ∃ e, S5.en top.k = some e ∧ scan S5 e.c (e.d.drop top.i) top.i = .comp)) ∨
       (wv = .non ∧ ∃ z6, z6 < z5 ∧ Unw G comp Lv (n + 1) (rks rest) z6 S7 res ∧ m7 + 4 * z6 ≤ m + 4 * z + 8 ∧ rest.length ≤ m7)), ?_, ?_⟩
    · obtain ⟨j6, hj6⟩ := c6.stp
      rcases cases6 with ⟨rfl, c6a⟩ | ⟨b', e6, g', j, rfl, rfl, rfl, un6, he6, hq6, hst6, hb6⟩ | ⟨rfl, c6c⟩
      · refine ⟨_, rfl, rfl, _, rfl, iteT ?_⟩
        refine ⟨_, rfl, _, rfl, top.st, _, _, _, rfl, rfl, SqL.of hj6, at_nat (i := 0) rfl, _, _, key_dp c6.hb, key_dp c6.hb, hG _ gtop, hG _ gtop, _, rfl, ?_⟩
        rw [eqv_key, decide_eq_true rfl]
        exact iteF ⟨_, S6, m6, rfl, c6, .inl ⟨rfl, c6a⟩⟩
      · obtain ⟨⟨z7, hz7, unw7⟩, nin, gg, hin, ung⟩ := turnB unw5 un6 he6 hq6
        have nin' : g' ∉ lv ++ ks (top :: rest) := fun y => nin (by
          rcases List.mem_append.mp y with y | y
          · exact List.mem_cons_of_mem _ (List.mem_append.mpr (.inr ((pre.eq _).mp y)))
          · obtain ⟨x, hx, rfl⟩ := of_ks y
            rcases List.mem_cons.mp hx with rfl | hx
            · exact List.mem_cons_self
            · exact List.mem_cons_of_mem _ (List.mem_append.mpr (.inl (List.mem_map.mpr ⟨(x.k, x.i), List.mem_map.mpr ⟨x, hx, rfl⟩, rfl⟩))))
        have ng6 : g' ≠ top.k := fun y => nin' (y ▸ List.mem_append.mpr (.inr (mem_ks List.mem_cons_self)))
        refine ⟨_, rfl, rfl, _, rfl, iteT ?_⟩
        refine ⟨_, rfl, _, rfl, top.st, _, _, _, rfl, rfl, SqL.of hj6, at_nat (i := 0) rfl, _, _, key_dp hb6, key_dp c6.hb, hG _ gg, hG _ gtop, _, rfl, ?_⟩
        rw [eqv_key, decide_eq_false ng6]
        refine iteT ?_
        refine ⟨_, rfl, .inl ⟨rfl, _, SqL.of c6.hpa⟩, _, rfl, o, rfl, c6.kh.raw.isI, _, rfl, _, rfl, o, b', pr, dx, A, S6, rn5, lv ++ ks (top :: rest), av5, m6, ni, g', rfl, c6.kh, hb6, c6.hp, by omega, nin', ?_⟩
        intro H9 st9 fr9 nst9 hst9 kh9
        obtain ⟨_, er6, _⟩ := c6.kh.run
        obtain ⟨_, el6, _⟩ := c6.kh.ended
        obtain ⟨_, ee6, _⟩ := c6.kh.ent
        obtain ⟨_, eo6⟩ := c6.kh.raw
        have hpa9 := fr9 _ _ c6.hpa (fun z => by have w := c6.hpa; rw [z, er6] at w; cases w)
        refine ⟨pa, _, _, rfl, rfl, hpa9, by rw [sts_len]; show rest.length + 1 < 16777216; omega, ?_⟩
        have st9pa : st9 ≠ pa := fun z => by rw [z, c6.hpa] at nst9; cases nst9
        have up : ∀ {c u}, H6 c = some u → c ≠ A.r → c ≠ pa → upd H9 pa (.lst (sts (top :: rest) ++ [.ref st9])) c = some u := fun {c u} z y1 y2 => by
          rw [upd_ne y2]
          exact fr9 _ _ z y1
        have upT : ∀ {c xs}, H6 c = some (.tup xs) → upd H9 pa (.lst (sts (top :: rest) ++ [.ref st9])) c = some (.tup xs) := fun {c xs} z => up z (fun y => by rw [y, er6] at z; cases z) (fun y => by rw [y, c6.hpa] at z; cases z)
        have upL : ∀ {c xs}, H6 c = some (.lst xs) → c ≠ pa → upd H9 pa (.lst (sts (top :: rest) ++ [.ref st9])) c = some (.lst xs) := fun {c xs} z y => up z (fun y => by rw [y, er6] at z; cases z) y
        have nst91 : H1 st9 = none := by
          cases z : H1 st9 with
          | none => rfl
          | some u =>
            exfalso
            by_cases y1 : st9 = o
            · rw [y1, eo6] at nst9; cases nst9
            by_cases y2 : st9 = A.e
            · rw [y2, ee6] at nst9; cases nst9
            by_cases y3 : st9 = A.r
            · rw [y3, er6] at nst9; cases nst9
            by_cases y4 : st9 = A.l
            · rw [y4, el6] at nst9; cases nst9
            rw [c6.fr _ _ z y1 y2 y3 y4] at nst9
            cases nst9
        have kst : ks ({ top with i := j } :: rest) = ks (top :: rest) := by rw [ks_cons, ks_cons]
        have stst : sts ({ top with i := j } :: rest) = sts (top :: rest) := by rw [sts_cons, sts_cons]
        have hks : lv ++ ks (⟨g', st9, b', 0⟩ :: { top with i := j } :: rest) = lv ++ ks (top :: rest) ++ [g'] := by rw [ks_cons, kst, List.append_assoc]
        have hpa10 : upd H9 pa (.lst (sts (top :: rest) ++ [.ref st9])) pa = some (.lst (sts (⟨g', st9, b', 0⟩ :: { top with i := j } :: rest))) := by rw [upd_same, sts_cons (x := ⟨g', st9, b', 0⟩), stst]
        have hst10 : Stp (upd H9 pa (.lst (sts (top :: rest) ++ [.ref st9]))) st9 b' (0 : Nat) := (upd_ne st9pa).trans hst9
        have itsp : ∀ x ∈ rest, x.st ≠ pa := fun x hx => (L.its x (List.mem_cons_of_mem _ hx)).2.2.2.1
        refine ⟨z7, by omega, _, _, _, S6, ups rn5 g' pr, m6 + 1, av5, ⟨g', st9, b', 0⟩ :: { top with i := j } :: rest, rfl, ⟨fun c u z y1 y2 y3 y4 => up (c6.fr c u z y1 y2 y3 y4) y3 (fun y => by rw [y, npa1] at z; cases z), ?_, ?_, ?_, hpa10, ?_, ?_, ?_, ?_, c6.un, ?_, ?_⟩, unw7, by omega⟩
        · rw [hks]
          refine kh9.keep fun c u z hc => ?_
          rw [upd_ne fun y => ?_]
          · exact z
          · subst y
            rcases hc with hc | hc
            · exact pal hc
            · rw [hpa9] at z
              cases z
              exact hc
        · intro x hx
          rw [ups_ne (fun z => nin' (by rw [← z]; exact List.mem_append.mpr (.inl hx)))]
          exact c6.rl x hx
        · rw [hks]
          refine List.nodup_append.mpr ⟨L.nd, by simp, fun x hx y hy => ?_⟩
          rw [List.mem_singleton.mp hy]
          exact fun z => nin' (z ▸ hx)
        · intro x hx
          rw [ks_cons, kst] at hx
          by_cases hxg : x = g'
          · rw [hxg]
            exact ups_at
          · rw [ups_ne hxg]
            rcases List.mem_append.mp hx with hx | hx
            · exact c6.rk x hx
            · exact absurd (List.mem_singleton.mp hx) hxg
        · exact up c6.hp (fun y => by have w := c6.hp; rw [y, er6] at w; cases w) (fun y => by have w := c6.hp; rw [y, c6.hpa] at w; cases w)
        · intro x hx
          rcases List.mem_cons.mp hx with rfl | hx
          · refine ⟨gg, upT hb6, fun z => ?_, st9pa, hst10, nst91⟩
            have z : st9 = A.l := z
            rw [z, el6] at nst9
            cases nst9
          rcases List.mem_cons.mp hx with rfl | hx
          · exact ⟨gtop, upT c6.hb, hsl, hsp, upL hst6 hsp, hs1⟩
          · obtain ⟨a0, a1, a2, a3, a4, a5⟩ := L.its x (List.mem_cons_of_mem _ hx)
            obtain ⟨b1, b2⟩ := c6.its x hx
            exact ⟨a0, upT b1, a2, a3, upL b2 a3, a5⟩
        · rw [List.map_cons, List.nodup_cons]
          refine ⟨fun z => ?_, L.sn⟩
          obtain ⟨x, hx, hxs⟩ := List.mem_map.mp z
          have hxs : x.st = st9 := hxs
          rcases List.mem_cons.mp hx with rfl | hx
          · have hxs : top.st = st9 := hxs
            rw [← hxs, show H6 top.st = _ from hj6] at nst9
            cases nst9
          · rw [← hxs, show H6 x.st = _ from (c6.its x hx).2] at nst9
            cases nst9
        · intro x hx
          rcases List.mem_cons.mp hx with rfl | hx
          · exact un6
          · exact c6.unr x hx
        · show (rest.length + 1) + 1 ≤ m6 + 1
          omega
      · exact ⟨_, rfl, rfl, _, rfl, iteF ⟨_, S6, m6, rfl, c6, .inr ⟨rfl, c6c⟩⟩⟩
    rintro σ H7 ⟨wv, S7, m7, rfl, c7, cases7⟩
    refine ⟨fun σ H8 => ∃ wv vv S8 rn8 m8 av8, σ = [some (.ref o), some (.ref b), some (.ref aF), some av, some (.ref pr), some (.ref pa), some (.ref top.st), some wv, vv] ∧ Cm Vx CK CR aF H1 o A rn lv ni pa pr dx top rest H8 S8 rn8 m8 av8 ∧
      ∃ z6, z6 < z5 ∧ Unw G comp Lv (n + 1) (rks rest) z6 S8 res ∧ m8 + 4 * z6 ≤ m + 4 * z + 8 ∧ rest.length ≤ m8, ?_, ?_⟩
    · rcases cases7 with ⟨rfl, rfl, rfl, un7, hq7⟩ | ⟨rfl, ch7⟩
      · obtain ⟨z1, o1, run1, alt1⟩ := turnA unw5 un7 hq7
        refine ⟨_, rfl, rfl, _, rfl, iteT ?_⟩
        -- an error
        have err : ∀ (H9 : Hp) (S9 : KS α) (rn9 : Ky → Option Addr) (m9 : Nat) (av9 : V), Cm Vx CK CR aF H1 o A rn lv ni pa pr dx top rest H9 S9 rn9 m9 av9 → m9 ≤ m + 4 * z + 8 → o1 = .no S9 → KRaw CK (upd H9 pr (.ins CR dx [("live", .bl false)])) o (kfo aF A S9 av9) ∧ ∀ H4, But o (upd H9 pr (.ins CR dx [("live", .bl false)])) H4 → KRaw CK H4 o { kfo aF A S9 av9 with asked := av } → E (.ref CC) none H4 := fun H9 S9 rn9 m9 av9 c9 hm9 e9 => by
          obtain ⟨r3, ot⟩ := out (ks (top :: rest)) H9 S9 rn9 m9 av9 c9.fr c9.kh c9.rl c9.rk c9.hp hm9
          refine ⟨r3, fun H4 b4 r4 => ?_⟩
          obtain ⟨f4, k4, _⟩ := ot H4 b4 r4
          rcases alt1 with ⟨S1, z2, a1, a2, a3⟩ | ⟨S1, a1, a2, a3⟩
          · rw [e9] at a1
            cases a1
          · rw [e9] at a1
            injection a1 with a1
            subst a1
            exact qe S9 a3 H4 rn9 f4 k4 c9.rl
        have z1z : z1 + 2 ≤ z5 := by
          rcases alt1 with ⟨S1, z2, a1, a2, a3⟩ | ⟨S1, a1, a2, a3⟩ <;> omega
        refine ⟨_, rfl, o, rfl, c7.kh.raw.isI, o, A, S7, rn5, lv ++ ks (top :: rest), av5, m7, ni, rfl, c7.kh, fun hleft => ?_, fun hleft H8 d nd8 b8 hd8 kh8 => ?_⟩
        · have e9 : o1 = .no S7 := by
            cases run1 with
            | n_no a => rfl
            | n_ok a => exact absurd hleft a
            | n_fail a => exact absurd hleft a
          obtain ⟨r3, ot⟩ := err H7 S7 rn5 m7 av5 c7 (by omega) e9
          refine ⟨_, rfl, pr, CR, dx, _, rfl, c7.hp, T.cl_Run, T.n_live, by decide, ?_⟩
          exact ⟨_, rfl, _, rfl, o, _, rfl, r3, fun H4 b4 _ r4 => ot H4 b4 r4⟩
        obtain ⟨_, eo7⟩ := c7.kh.raw
        obtain ⟨_, er7, _⟩ := c7.kh.run
        obtain ⟨_, el7, _⟩ := c7.kh.ended
        obtain ⟨_, ee7, _⟩ := c7.kh.ent
        obtain ⟨_, ei7, _⟩ := c7.kh.inp
        obtain ⟨j7, hj7⟩ := c7.stp
        have hj7 : H7 top.st = some (.lst [.ref top.b, .int (j7 : Int)]) := hj7
        have hb7 : H7 top.b = some (.tup (top.k.map kV)) := c7.hb
        have hb8 : isK H8 top.b top.k := b8 _ _ (fun z => by rw [z, eo7] at hb7; cases hb7) c7.hb
        obtain ⟨ze, oe, hze, rune, hoe⟩ : ∃ ze oe, z1 = ze + 3 ∧ Run G comp (top.k :: ((rks rest).map (·.1) ++ Lv)) n ze (.ev S7.dec (comp top.k) []) oe ∧ ((∃ S1 v as, oe = .val S1 v as ∧ o1 = .ok (S1.keep top.k v as)) ∨ ∃ S1, oe = .no S1 ∧ o1 = .no S1) := by
          cases run1 with
          | n_no a => exact absurd a hleft
          | n_ok a b c => exact ⟨_, _, rfl, c, .inl ⟨_, _, _, rfl, rfl⟩⟩
          | n_fail a b c => exact ⟨_, _, rfl, c, .inr ⟨_, rfl, rfl⟩⟩
        have latE := rune.post.1
        have memL : ∀ x, x ∈ lv ++ ks (top :: rest) ↔ x ∈ top.k :: ((rks rest).map (·.1) ++ Lv) := fun x => by
          rw [rks_k]
          constructor
          · intro y
            rcases List.mem_append.mp y with y | y
            · exact List.mem_cons_of_mem _ (List.mem_append.mpr (.inr ((pre.eq _).mp y)))
            · obtain ⟨x, hx, rfl⟩ := of_ks y
              rcases List.mem_cons.mp hx with rfl | hx
              · exact List.mem_cons_self
              · exact List.mem_cons_of_mem _ (List.mem_append.mpr (.inl (List.mem_map.mpr ⟨x, hx, rfl⟩)))
          · intro y
            rcases List.mem_cons.mp y with rfl | y
            · exact List.mem_append.mpr (.inr (mem_ks List.mem_cons_self))
            rcases List.mem_append.mp y with y | y
            · obtain ⟨x, hx, rfl⟩ := List.mem_map.mp y
              exact List.mem_append.mpr (.inr (mem_ks (List.mem_cons_of_mem _ hx)))
            · exact List.mem_append.mpr (.inl ((pre.eq _).mpr y))
        have unAll : ∀ x ∈ lv ++ ks (top :: rest), Unc S7 x := fun x hx => by
          rcases List.mem_append.mp hx with hx | hx
          · exact c7.un x hx
          · obtain ⟨y, hy, rfl⟩ := of_ks hx
            rcases List.mem_cons.mp hy with rfl | hy
            · exact un7
            · exact c7.unr y hy
        refine ⟨rfl, _, rfl, _, rfl, o, top.b, A, S7.dec, rn5, lv ++ ks (top :: rest), top.k :: ((rks rest).map (·.1) ++ Lv), d, m7, ni, top.k, ze, oe, rfl, ⟨kh8, L.nd, memL, unAll, .inr ⟨d, [], rfl, hd8, Nat.zero_le _, (fun z => by rw [z, ei7] at nd8; cases nd8), (fun z => by rw [z, ee7] at nd8; cases nd8), (fun z => by rw [z, er7] at nd8; cases nd8)⟩, by omega⟩, hd8, hb8, gtop, rune, ?_, ?_⟩
        · intro S9 a as e9 H9 rn9 fr9 kh9 rl9 kvs v hd9 hk9 hlen9 hrp9
          have latE : Lat (· ∈ top.k :: ((rks rest).map (·.1) ++ Lv)) S7.dec S9 := by rw [e9] at latE; exact latE
          have un9 : ∀ x ∈ lv ++ ks (top :: rest), Unc S9 x := fun x hx => Unc.lat (S := S7.dec) (unAll x hx) latE ((memL x).mp hx)
          have f79 : ∀ c u, H7 c = some u → c ≠ o → c ≠ A.e → c ≠ A.r → c ≠ A.l → H9 c = some u := fun c u z y1 y2 y3 y4 => fr9 c u (b8 c u y1 z) y1 y2 y3 y4 (fun y => by injection y with y; rw [y, nd8] at z; cases z)
          have inl : ∀ x ∈ lv, x ∈ lv ++ ks (top :: rest) := fun x hx => List.mem_append.mpr (.inl hx)
          have inr : ∀ x ∈ rest, x.k ∈ lv ++ ks (top :: rest) := fun x hx => List.mem_append.mpr (.inr (mem_ks (List.mem_cons_of_mem _ hx)))
          have c9 := c7.step cs (S7 := S9) (fun c u z y1 y2 y3 y4 _ => f79 c u z y1 y2 y3 y4) ⟨j7, f79 _ _ hj7 (fun z => by rw [z, eo7] at hj7; cases hj7) (fun z => by rw [z, ee7] at hj7; cases hj7) (fun z => by rw [z, er7] at hj7; cases hj7) hsl⟩ kh9 (fun x hx => un9 x (inl x hx)) (fun x hx => un9 _ (inr x hx)) (fun x hx => (rl9 x (inl x hx)).trans (c7.rl x hx)) (fun x hx => (rl9 x (List.mem_append.mpr (.inr hx))).trans (c7.rk x hx))
          refine ⟨_, rfl, o, rfl, kh9.raw.isI, _, rfl, _, rfl, o, top.b, d, A, S9, rn9, lv ++ ks (top :: rest), _, ni, top.k, v, a, kvs, rfl, kh9, c9.hb, hd9, hrp9, hlen9, by omega, fun H10 fr10 kh10 => ?_⟩
          rw [hk9] at kh10
          have un10 : ∀ x, x ≠ top.k → Unc S9 x → Unc (S9.keep top.k a as) x := fun x hx ux e' he' => ux e' ((ups_ne hx).symm.trans he')
          have c10 := c9.step cs (fun c u z _ y2 _ y4 _ => fr10 c u z y2 y4) (by
            obtain ⟨j9, hj9⟩ := c9.stp
            have hj9 : H9 top.st = some (.lst [.ref top.b, .int (j9 : Int)]) := hj9
            obtain ⟨_, ee9, _⟩ := kh9.ent
            exact ⟨j9, fr10 _ _ hj9 (fun z => by rw [z, ee9] at hj9; cases hj9) hsl⟩) kh10 (fun x hx => un10 x (fun z => tl0 (z ▸ hx)) (c9.un x hx)) (fun x hx => un10 _ (tr0 x hx) (c9.unr x hx)) c9.rl c9.rk
          rcases hoe with ⟨S1, v1, as1, x1, x2⟩ | ⟨S1, x1, x2⟩
          · rw [e9] at x1
            injection x1 with x1 x3 x4
            subst x1 x3 x4
            rcases alt1 with ⟨S2, z2, a1, a2, a3⟩ | ⟨S2, a1, a2, a3⟩
            · rw [x2] at a1
              injection a1 with a1
              subst a1
              exact ⟨_, _, _, rn9, _, _, rfl, c10, z2, by omega, a3, by omega, by omega⟩
            · rw [x2] at a1
              cases a1
          · rw [e9] at x1
            cases x1
        · intro S9 e9 H9 rn9 fr9 kh9 rl9
          have latE : Lat (· ∈ top.k :: ((rks rest).map (·.1) ++ Lv)) S7.dec S9 := by rw [e9] at latE; exact latE
          have un9 : ∀ x ∈ lv ++ ks (top :: rest), Unc S9 x := fun x hx => Unc.lat (S := S7.dec) (unAll x hx) latE ((memL x).mp hx)
          have f79 : ∀ c u, H7 c = some u → c ≠ o → c ≠ A.e → c ≠ A.r → c ≠ A.l → H9 c = some u := fun c u z y1 y2 y3 y4 => fr9 c u (b8 c u y1 z) y1 y2 y3 y4 (fun y => by injection y with y; rw [y, nd8] at z; cases z)
          have inl : ∀ x ∈ lv, x ∈ lv ++ ks (top :: rest) := fun x hx => List.mem_append.mpr (.inl hx)
          have inr : ∀ x ∈ rest, x.k ∈ lv ++ ks (top :: rest) := fun x hx => List.mem_append.mpr (.inr (mem_ks (List.mem_cons_of_mem _ hx)))
          have c9 := c7.step cs (S7 := S9) (fun c u z y1 y2 y3 y4 _ => f79 c u z y1 y2 y3 y4) ⟨j7, f79 _ _ hj7 (fun z => by rw [z, eo7] at hj7; cases hj7) (fun z => by rw [z, ee7] at hj7; cases hj7) (fun z => by rw [z, er7] at hj7; cases hj7) hsl⟩ kh9 (fun x hx => un9 x (inl x hx)) (fun x hx => un9 _ (inr x hx)) (fun x hx => (rl9 x (inl x hx)).trans (c7.rl x hx)) (fun x hx => (rl9 x (List.mem_append.mpr (.inr hx))).trans (c7.rk x hx))
          have e10 : o1 = .no S9 := by
            rcases hoe with ⟨S1, v1, as1, x1, x2⟩ | ⟨S1, x1, x2⟩
            · rw [e9] at x1
              cases x1
            · rw [e9] at x1
              injection x1 with x1
              rw [x2, x1]
          obtain ⟨r3, ot⟩ := err H9 S9 rn9 _ _ c9 (by omega) e10
          refine ⟨_, rfl, pr, CR, dx, _, rfl, c9.hp, T.cl_Run, T.n_live, by decide, ?_⟩
          exact ⟨_, rfl, _, rfl, o, _, rfl, r3, fun H4 b4 _ r4 => ot H4 b4 r4⟩
      · exact ⟨_, rfl, rfl, _, rfl, iteF ⟨_, _, S7, rn5, m7, av5, rfl, c7, ch7⟩⟩
    rintro σ H8 ⟨wv, vv, S8, rn8, m8, av8, rfl, c8, z6, hz6, unw6, hm8, hl8⟩
    obtain ⟨j8, hj8⟩ := c8.stp
    obtain ⟨kvr, er8, _, hr8⟩ := c8.kh.run
    have lastE : (sts (top :: rest))[(sts (top :: rest)).length - 1]? = some (.ref top.st) := by rw [sts_cons]; simp
    have dropE : (sts (top :: rest)).dropLast = sts rest := by rw [sts_cons]; simp
    refine ⟨_, rfl, .inl ⟨rfl, _, SqL.of c8.hpa⟩, pa, _, _, rfl, rfl, c8.hpa, lastE, ?_⟩
    rw [dropE]
    have k9 : Kh Vx CK CR aF (upd H8 pa (.lst (sts rest))) o A S8 rn8 (lv ++ ks rest ++ [top.k]) av8 m8 ni := by
      rw [List.append_assoc, ← ks_cons]
      refine c8.kh.keep fun c u z hc => ?_
      rw [upd_ne fun y => ?_]
      · exact z
      · subst y
        rcases hc with hc | hc
        · exact pal hc
        · rw [c8.hpa] at z
          cases z
          exact hc
    have up9 : ∀ {c u}, H8 c = some u → c ≠ pa → upd H8 pa (.lst (sts rest)) c = some u := fun z y => by rw [upd_ne y]; exact z
    have hpa9 : upd H8 pa (.lst (sts rest)) pa = some (.lst (sts rest)) := upd_same
    have hst9 := up9 hj8 hsp
    have hb9 : upd H8 pa (.lst (sts rest)) top.b = some (.tup (top.k.map kV)) := up9 c8.hb (fun y => by have w : H8 top.b = some (.tup (top.k.map kV)) := c8.hb; rw [y, c8.hpa] at w; cases w)
    have er9 := up9 er8 (fun y => by rw [y, c8.hpa] at er8; cases er8)
    have hp9 := up9 c8.hp (fun y => by have w := c8.hp; rw [y, c8.hpa] at w; cases w)
    generalize upd H8 pa (.lst (sts rest)) = H9 at k9 up9 hpa9 hst9 hb9 er9 hp9 ⊢
    refine ⟨_, rfl, o, _, rfl, k9.raw, _, rfl, top.st, _, _, _, rfl, rfl, SqL.of hst9, at_nat (i := 0) rfl, A.r, kvr, top.k, top.b, .ref pr, rfl, er9, rfl, hb9, by rw [hr8, c8.rk _ (mem_ks List.mem_cons_self)]; rfl, ?_⟩
    have tkn : top.k ∉ lv ++ ks rest := fun z => nd2 _ z _ (List.mem_singleton.mpr rfl) rfl
    have k10 := k9.drop_run tkn er9
    have up10 : ∀ {c u}, H8 c = some u → c ≠ pa → c ≠ A.r → upd H9 A.r (.dT (dropK kvr top.k)) c = some u := fun z y1 y2 => by rw [upd_ne y2]; exact up9 z y1
    have upL : ∀ {c xs}, H8 c = some (.lst xs) → c ≠ pa → upd H9 A.r (.dT (dropK kvr top.k)) c = some (.lst xs) := fun {c xs} z y => up10 z y (fun y => by rw [y, er8] at z; cases z)
    have upT : ∀ {c xs}, H8 c = some (.tup xs) → upd H9 A.r (.dT (dropK kvr top.k)) c = some (.tup xs) := fun {c xs} z => up10 z (fun y => by rw [y, c8.hpa] at z; cases z) (fun y => by rw [y, er8] at z; cases z)
    have hpa10 : upd H9 A.r (.dT (dropK kvr top.k)) pa = some (.lst (sts rest)) := (upd_ne (fun y => by rw [y, er9] at hpa9; cases hpa9)).trans hpa9
    refine ⟨z6, hz6, _, _, _, S8, _, m8, av8, rest, rfl, ⟨fun c u z y1 y2 y3 y4 => up10 (c8.fr c u z y1 y2 y3 y4) (fun y => by rw [y, npa1] at z; cases z) y3, k10, ?_, nd1, hpa10, ?_, ?_, ?_, sn.2, c8.un, fun x hx => c8.unr x (List.mem_of_mem_tail hx), hl8⟩, unw6, hm8⟩
    · intro x hx
      rw [show del rn8 top.k x = rn8 x from if_neg (fun z => tl0 (by rw [← z]; exact hx))]
      exact c8.rl x hx
    · intro x hx
      rw [show del rn8 top.k x = rn8 x from if_neg (fun z => tkn (by rw [← z]; exact List.mem_append.mpr (.inr hx)))]
      exact c8.rk x (by rw [ks_cons]; exact List.mem_append.mpr (.inl hx))
    · exact (upd_ne (fun y => by rw [y, er9] at hp9; cases hp9)).trans hp9
    · intro x hx
      obtain ⟨a0, a1, a2, a3, a4, a5⟩ := L.its x (List.mem_cons_of_mem _ hx)
      obtain ⟨b1, b2⟩ := c8.its x hx
      exact ⟨a0, upT b1, a2, a3, upL b2 a3, a5⟩
end

end Sn

namespace Sn
open PySem PySem.Spec PyProof.Rows L2 TL
/-! ### inputs; the keeper is made; limits; what was computed -/
section
variable {α : Type} [DecidableEq α] (Vx : Vl α)
def KS.put (S : KS α) (k : Ky) (v : α) : KS α := match S.inp k with
  | some (a, r) => if a = v then { S with inp := ups S.inp k (v, r), en := del S.en k } else { S with now := S.now + 1, inp := ups S.inp k (v, S.now + 1), en := del S.en k }
  | none => { S with now := S.now + 1, inp := ups S.inp k (v, S.now + 1), en := del S.en k }
def spPut (CK CR aF : Addr) : Sp := fun vs H Q _ => ∃ o b A S rn lv av m ni k vv v, vs = [.ref o, .ref b, vv] ∧ Kh Vx CK CR aF H o A S rn lv av m ni ∧ isK H b k ∧ Vx.rp H vv v ∧ ni < 1000000 ∧
  ∀ H', (∀ b u, H b = some u → b ≠ o → b ≠ A.i → b ≠ A.e → H' b = some u) → Kh Vx CK CR aF H' o A (S.put k v) rn lv av m (ni + 1) → Q .non H'
def spLim (CK CR aF : Addr) : Sp := fun vs H Q _ => ∃ o A S rn lv av m ni l, vs = [.ref o, lfV l] ∧ Kh Vx CK CR aF H o A S rn lv av m ni ∧
  ∀ H', But o H H' → Kh Vx CK CR aF H' o A { S with left := l } rn lv av m ni → Q .non H'
def spFor (CK CR aF : Addr) : Sp := fun vs H Q _ => ∃ o b A S rn lv av m ni k, vs = [.ref o, .ref b] ∧ Kh Vx CK CR aF H o A S rn lv av m ni ∧ isK H b k ∧
  ∀ H', But A.e H H' → Kh Vx CK CR aF H' o A { S with en := del S.en k } rn lv av m ni → Q .non H'
def spCom (CK CR aF : Addr) : Sp := fun vs H Q _ => ∃ o A S rn lv av m ni, vs = [.ref o] ∧ Kh Vx CK CR aF H o A S rn lv av m ni ∧
  ∀ H' l' bs, But o H H' → H l' = none → Kh Vx CK CR aF H' o { A with l := l' } { S with done := [] } rn lv av m ni → H' A.l = some (.lst (bs.map V.ref)) → Ks H' bs S.done → Q (.ref A.l) H'
end
theorem del_none {β : Type} {f : Ky → Option β} {k : Ky} (h : f k = none) : del f k = f := by
  funext j
  unfold del
  by_cases c : j = k
  · rw [if_pos c, c, h]
  · rw [if_neg c]
section
variable {α : Type} [DecidableEq α] {Vx : Vl α}
variable {P : Program} {w : World} {K : PySem.W.Frag} {mg : Str → Option Value} {base : Heap} {f : Addr} {fd : FuncData} {CK CR CC aF : Addr}
/-- an entry is dropped -/
theorem Kh.pop {H : Hp} {o : Addr} {A : KAd} {S : KS α} {rn : Ky → Option Addr} {lv : List Ky} {av : V} {m ni : Nat} {kve : List (List L2.Key × V)} {k : Ky} (kh : Kh Vx CK CR aF H o A S rn lv av m ni) (he : H A.e = some (.dT kve)) {Q : V → Hp → Prop}
    (q : ∀ v H', But A.e H H' → Kh Vx CK CR aF H' o A { S with en := del S.en k } rn lv av m ni → Q v H') : (∀ v, valV kve k = some v → Q v (upd H A.e (.dT (dropK kve k)))) ∧ (valV kve k = none → Q .non H) := by
  refine ⟨fun v _ => q v _ (But.refl _ _).upd (kh.drop_ent he), fun hn => q _ _ (But.refl _ _) ?_⟩
  obtain ⟨kv, x1, x2, x3⟩ := kh.ent
  rw [he] at x1
  cases x1
  have e : S.en k = none := by
    rcases x3 k with ⟨_, y⟩ | ⟨p, e, y, _⟩
    · exact y
    · rw [hn] at y
      cases y
  have e2 : ({ S with en := del S.en k } : KS α) = S := by rw [del_none e]
  rw [e2]
  exact kh
abbrev s_K_put : Stmt := inClass (topS 7) 1
abbrev N_K_put : List Str := ["self", "key", "value"]
theorem sc_K_put : FnScope N_K_put ["self", "key", "value"] (defScope s_K_put) := ⟨rfl, rfl, rfl, by decide +kernel, rfl, by decide +kernel, by decide +kernel⟩
theorem ok_put (F : Fun K "put" "Keeper.put" s_K_put f fd) (T : NmK K mg aF CK CR CC) : FnOk P w K mg base CX0 1 f fd ["self", "key", "value"] (spPut Vx CK CR aF) := by
  refine F.ok sc_K_put (fun vs H Q E h => ?_) (fun cdv A outer s H vs Q E hr h => ?_)
  · obtain ⟨o, b, A, S, rn, lv, av, m, ni, k, vv, v, rfl, _⟩ := h
    rfl
  obtain ⟨o, b, A, S, rn, lv, av, m, ni, k, vv, v, rfl, kh, hb, hv, hni, q⟩ := h
  refine ⟨_, (pss_cons (ps_expr (pe_bm PySem.F.plainAttrs_dict PySem.F.slot_dict_pop PySem.F.type_dict_pop (L2.DX.mt_popT (hu_of hr)) (pe_k_entries T (pv 0)) (pa_cons (pv 1) (pa_cons pe_non pa_nil))))
    (C8.pss_cut (ps_if (PW.pt (pw_and (pt_cmp (pc_din (hu_of hr) (pv 1) (pe_k_inputs T (pv 0)))) (pw_and1 (pt_cmpR (op_eqD hr.units) (pe_ix (r := rIxT K) ix_tup (pe_dget (hu_of hr) (pe_k_inputs T (pv 0)) (pv 1) (fun _ _ => rfl)) pe_int (fun _ _ => rfl)) (pv 2) (nomark _))))) (pss_cons (ps_dput (hu_of hr) (pe_k_inputs T (pv 0)) (pv 1) (pe_tup (pa_cons (pv 2) (pa_cons (pe_ix (r := rIxT K) ix_tup (pe_dget (hu_of hr) (pe_k_inputs T (pv 0)) (pv 1) (fun _ _ => rfl)) pe_int (fun _ _ => rfl)) pa_nil))) rfl)
    (pss_one ps_retN)) pss_nil)
    (pss_cons (ps_ka_now T (pv 0) pe_int in_add)
    (pss_one (ps_dput (hu_of hr) (pe_k_inputs T (pv 0)) (pv 1) (pe_tup (pa_cons (pv 2) (pa_cons (pe_k_now T (pv 0)) pa_nil))) rfl))))), ?_⟩
  obtain ⟨kve, he, _⟩ := kh.ent
  refine ⟨_, rfl, o, _, rfl, kh.raw, .inr (.inr (.inl ⟨rfl, .inr ⟨_, he⟩⟩)), _, rfl, A.e, kve, k, b, .non, rfl, rfl, he, hb, kh.pop he fun _ H1 b1 k1 => ?_⟩
  have hb1 : isK H1 b k := b1 _ _ (fun z => by have w : H b = some (.tup (k.map kV)) := hb; rw [z, he] at w; cases w) hb
  have hv1 : Vx.rp H1 vv v := Vx.keep (fun c xs z => b1 _ _ (fun y => by rw [y, he] at z; cases z) z) hv
  obtain ⟨kvi, hki, hlen, his⟩ := k1.inp
  have dgi := DGet.t hki hb1
  have hlt : kvi.length < sizeLine := Nat.lt_of_le_of_lt hlen (by show ni < 16777216; omega)
  refine ⟨fun σ H' => H' = H1 ∧ σ = [some (.ref o), some (.ref b), some vv] ∧ S.put k v = { S with now := S.now + 1, inp := ups S.inp k (v, S.now + 1), en := del S.en k }, ?_, ?_⟩
  · refine ⟨_, rfl, _, rfl, o, _, rfl, k1.raw, A.i, _, rfl, dgi, _, rfl, ?_⟩
    rcases his k with ⟨h1, h2⟩ | ⟨p, vg, g, r, h1, h2, h3, h4⟩
    · rw [h1]
      have h2 : S.inp k = none := h2
      exact iteF ⟨rfl, rfl, by unfold KS.put; rw [h2]⟩
    · have h2 : S.inp k = some (g, r) := h2
      rw [h1] at dgi ⊢
      refine iteT ?_
      refine ⟨_, rfl, o, _, rfl, k1.raw, _, rfl, A.i, _, rfl, dgi, p, _, _, _, rfl, rfl, .inl (.inl h3), at_nat (i := 0) rfl, _, rfl, _, _, Vx.dp h4, Vx.dp hv1, Vx.sh _, Vx.sh _, _, rfl, ?_⟩
      rw [Vx.eq]
      by_cases z : g = v
      · subst z
        refine iteP rfl ?_
        refine ⟨_, rfl, _, rfl, o, _, rfl, k1.raw, _, rfl, A.i, _, rfl, dgi, p, _, _, _, rfl, rfl, .inl (.inl h3), at_nat (i := 1) rfl, by show 2 ≤ sizeLine; decide, fun p2 np => ?_⟩
        have s2 := same_new (o := .tup [vv, .int ((r : Nat) : Int)]) np
        have k2 := k1.same s2
        have hp2 : upd H1 p2 (.tup [vv, .int ((r : Nat) : Int)]) p2 = some (.tup [vv, .int ((r : Nat) : Int)]) := upd_same
        have hki2 := s2 _ _ hki
        have k3 := k2.put_inp (k := k) hki2 hp2 (Vx.keep (fun _ _ z => s2 _ _ z) hv1)
        refine ⟨_, rfl, o, _, rfl, k2.raw, _, rfl, A.i, _, rfl, DPut.t hki2 (s2 _ _ hb1) hlt, ?_⟩
        have e3 : S.put k g = { S with inp := ups S.inp k (g, r), en := del S.en k } := by unfold KS.put; rw [h2]; exact if_pos rfl
        refine q _ (fun c u e y1 y2 y3 => by rw [upd_ne y2]; exact s2 _ _ (b1 _ _ y3 e)) ?_
        rw [e3]
        exact k3
      · exact iteN z ⟨rfl, rfl, by unfold KS.put; rw [h2]; exact if_neg z⟩
  rintro σ H' ⟨rfl, rfl, e3⟩
  refine ⟨_, rfl, o, _, (S.now : Int), rfl, k1.raw, rfl, fun H2 b2 r2 => ?_⟩
  have k2 : Kh Vx CK CR aF H2 o A { S with now := S.now + 1, en := del S.en k } rn lv av m ni := k1.self b2 r2 rfl rfl rfl
  obtain ⟨_, eo⟩ := k1.raw
  have hki2 := b2 _ _ (fun z => by rw [z, eo] at hki; cases hki) hki
  have hb2 : isK H2 b k := b2 _ _ (fun z => by have w : H' b = some (.tup (k.map kV)) := hb1; rw [z, eo] at w; cases w) hb1
  have hv2 : Vx.rp H2 vv v := Vx.keep (fun c xs z => b2 _ _ (fun y => by rw [y, eo] at z; cases z) z) hv1
  refine ⟨_, rfl, _, rfl, o, _, rfl, k2.raw, by show 2 ≤ sizeLine; decide, fun p2 np => ?_⟩
  have s2 := same_new (o := .tup [vv, (kfo aF A { S with now := S.now + 1, en := del S.en k } av).now]) np
  have k3 := k2.same s2
  have hp2 : upd H2 p2 (.tup [vv, (kfo aF A { S with now := S.now + 1, en := del S.en k } av).now]) p2 = some (.tup [vv, .int ((S.now + 1 : Nat) : Int)]) := upd_same
  have hki3 := s2 _ _ hki2
  have hb3 : isK _ b k := s2 _ _ hb2
  have hv3 := Vx.keep (fun _ _ z => s2 _ _ z) hv2
  generalize upd H2 p2 (.tup [vv, (kfo aF A { S with now := S.now + 1, en := del S.en k } av).now]) = H3 at s2 k3 hp2 hki3 hb3 hv3 ⊢
  have k4 := k3.put_inp (k := k) hki3 hp2 hv3
  refine ⟨_, rfl, o, _, rfl, k3.raw, _, rfl, A.i, _, rfl, DPut.t hki3 hb3 hlt, ?_⟩
  refine q _ (fun c u e y1 y2 y3 => by rw [upd_ne y2]; exact s2 _ _ (b2 _ _ y1 (b1 _ _ y3 e))) ?_
  rw [e3]
  exact k4
abbrev s_K_limit : Stmt := inClass (topS 7) 3
abbrev N_K_limit : List Str := ["self", "count"]
theorem sc_K_limit : FnScope N_K_limit ["self", "count"] (defScope s_K_limit) := ⟨rfl, rfl, rfl, by decide +kernel, rfl, by decide +kernel, by decide +kernel⟩
theorem ok_limit (F : Fun K "limit" "Keeper.limit" s_K_limit f fd) (T : NmK K mg aF CK CR CC) : FnOk P w K mg base CX0 1 f fd ["self", "count"] (spLim Vx CK CR aF) := by
  refine F.ok sc_K_limit (fun vs H Q E h => ?_) (fun cdv A outer s H vs Q E hr h => ?_)
  · obtain ⟨o, A, S, rn, lv, av, m, ni, l, rfl, _⟩ := h
    rfl
  obtain ⟨o, A, S, rn, lv, av, m, ni, l, rfl, kh, q⟩ := h
  refine ⟨_, (pss_one (ps_k_left T (pv 0) (pv 1))), ?_⟩
  exact ⟨_, rfl, _, rfl, o, _, rfl, kh.raw, fun H' b1 _ r1 => q H' b1 (kh.self b1 r1 rfl rfl rfl)⟩
abbrev s_K_forget : Stmt := inClass (topS 7) 4
abbrev N_K_forget : List Str := ["self", "key"]
theorem sc_K_forget : FnScope N_K_forget ["self", "key"] (defScope s_K_forget) := ⟨rfl, rfl, rfl, by decide +kernel, rfl, by decide +kernel, by decide +kernel⟩
theorem ok_forget (F : Fun K "forget" "Keeper.forget" s_K_forget f fd) (T : NmK K mg aF CK CR CC) : FnOk P w K mg base CX0 1 f fd ["self", "key"] (spFor Vx CK CR aF) := by
  refine F.ok sc_K_forget (fun vs H Q E h => ?_) (fun cdv A outer s H vs Q E hr h => ?_)
  · obtain ⟨o, b, A, S, rn, lv, av, m, ni, k, rfl, _⟩ := h
    rfl
  obtain ⟨o, b, A, S, rn, lv, av, m, ni, k, rfl, kh, hb, q⟩ := h
  refine ⟨_, (pss_one (ps_expr (pe_bm PySem.F.plainAttrs_dict PySem.F.slot_dict_pop PySem.F.type_dict_pop (L2.DX.mt_popT (hu_of hr)) (pe_k_entries T (pv 0)) (pa_cons (pv 1) (pa_cons pe_non pa_nil))))), ?_⟩
  obtain ⟨kve, he, _⟩ := kh.ent
  exact ⟨_, rfl, o, _, rfl, kh.raw, .inr (.inr (.inl ⟨rfl, .inr ⟨_, he⟩⟩)), _, rfl, A.e, kve, k, b, .non, rfl, rfl, he, hb, kh.pop he fun _ H1 b1 k1 => q H1 b1 k1⟩
abbrev s_K_computed : Stmt := inClass (topS 7) 7
abbrev N_K_computed : List Str := ["self", "ended"]
theorem sc_K_computed : FnScope N_K_computed ["self"] (defScope s_K_computed) := ⟨rfl, rfl, rfl, by decide +kernel, rfl, by decide +kernel, by decide +kernel⟩
theorem ok_computed (F : Fun K "computed" "Keeper.computed" s_K_computed f fd) (T : NmK K mg aF CK CR CC) : FnOk P w K mg base CX0 1 f fd ["self"] (spCom Vx CK CR aF) := by
  refine F.ok sc_K_computed (fun vs H Q E h => ?_) (fun cdv A outer s H vs Q E hr h => ?_)
  · obtain ⟨o, A, S, rn, lv, av, m, ni, rfl, _⟩ := h
    rfl
  obtain ⟨o, A, S, rn, lv, av, m, ni, rfl, kh, q⟩ := h
  refine ⟨_, (pss_cons (ps_set (i := 1) sc_K_computed.nd rfl (Or.inl rfl) (pe_k_ended T (pv 0)))
    (pss_cons (ps_k_ended T (pv 0) (pe_lst pa_nil))
    (pss_one (ps_ret (pv 1))))), ?_⟩
  obtain ⟨bs, hl, hm, hk⟩ := kh.ended
  refine ⟨_, rfl, o, _, rfl, kh.raw, ?_⟩
  refine ⟨Nat.zero_le _, fun l nl => ?_⟩
  have s1 := same_new (o := .lst []) nl
  have k1 := kh.same s1
  have hl1 : upd H l (.lst []) l = some (.lst []) := upd_same
  refine ⟨_, rfl, o, _, rfl, k1.raw, fun H' b1 _ r1 => ?_⟩
  refine ⟨_, rfl, ?_⟩
  obtain ⟨dx, eo⟩ := k1.raw
  have ne : ∀ {b u}, upd H l (.lst []) b = some u → (∀ dx fs, u ≠ .ins CK dx fs) → b ≠ o := fun e n z => by
    rw [z, eo] at e
    injection e with e
    exact n _ _ e.symm
  have ft : FT (upd H l (.lst [])) H' := fun c xs e => b1 _ _ (ne e fun _ _ z => nomatch z) e
  have fd : ∀ d kvs, upd H l (.lst []) d = some (.dT kvs) → H' d = some (.dT kvs) := fun d kvs e => b1 _ _ (ne e fun _ _ z => nomatch z) e
  refine q H' l bs ((But.of s1).trans b1) nl ⟨r1, k1.inp.keep ft (fd _), k1.ent.keep ft (fd _) (Nat.le_refl _), k1.run.keep (fd _) (Nat.le_refl _), k1.live.keep (fun p dx fs e => b1 _ _ (ne e fun _ _ z => by injection z with z; exact kh.ck z.symm) e), ⟨[], b1 _ _ (ne hl1 fun _ _ z => nomatch z) hl1, Nat.zero_le _, .nil⟩, kh.d1, kh.d2, kh.d3, kh.ck⟩ ?_ ?_
  · exact b1 _ _ (ne (s1 _ _ hl) fun _ _ z => nomatch z) (s1 _ _ hl)
  · exact hk.keep fun c xs e => ft _ _ (s1 _ _ e)
abbrev s_K_init : Stmt := inClass (topS 7) 0
abbrev N_K_init : List Str := ["self", "compute"]
theorem sc_K_init : FnScope N_K_init ["self", "compute"] (defScope s_K_init) := ⟨rfl, rfl, rfl, by decide +kernel, rfl, by decide +kernel, by decide +kernel⟩
theorem ok_K_init (F : Fun K "__init__" "Keeper.__init__" s_K_init f fd) (T : NmK K mg aF CK CR CC) : FnOk P w K mg base CX0 1 f fd ["self", "compute"] (spKI Vx CK CR aF) := by
  refine F.ok sc_K_init (fun vs H Q E h => ?_) (fun cdv A outer s H vs Q E hr h => ?_)
  · obtain ⟨p, dx, rfl, _⟩ := h
    rfl
  obtain ⟨p, dx, rfl, ck, hp, q⟩ := h
  refine ⟨_, (pss_cons (ps_fld (pv 0) (pv 1) rfl)
    (pss_cons (ps_fld (pv 0) pe_int rfl)
    (pss_cons (ps_fld (pv 0) pe_non rfl)
    (pss_cons (ps_fld (pv 0) pe_dnewT rfl)
    (pss_cons (ps_fld (pv 0) pe_dnewT rfl)
    (pss_cons (ps_fld (pv 0) pe_dnewT rfl)
    (pss_cons (ps_fld (pv 0) pe_non rfl)
    (pss_one (ps_fld (pv 0) (pe_lst pa_nil) rfl))))))))), ?_⟩
  refine ⟨_, rfl, _, rfl, p, CK, dx, _, rfl, hp, T.cl_Keeper, T.n_function, by decide, ?_⟩
  refine ⟨_, rfl, p, CK, dx, _, rfl, upd_same, T.cl_Keeper, T.n_now, by show 1 < 1000; decide, ?_⟩
  refine ⟨_, rfl, p, CK, dx, _, rfl, upd_same, T.cl_Keeper, T.n_left, by show 2 < 1000; decide, ?_⟩
  rw [upd_upd, upd_upd]
  have fr : ∀ {fs} c u, H c = some u → c ≠ p → upd H p (.ins CK dx fs) c = some u := fun c u z y => by rw [upd_ne y]; exact z
  have none1 : ∀ {fs c}, upd H p (.ins CK dx fs) c = none → H c = none ∧ c ≠ p := fun {fs c} z => by
    by_cases y : c = p
    · rw [y, upd_same] at z
      cases z
    · rw [upd_ne y] at z
      exact ⟨z, y⟩
  intro i ni
  obtain ⟨ni0, nip⟩ := none1 ni
  refine ⟨_, rfl, p, CK, dx, _, rfl, (upd_ne nip.symm).trans upd_same, T.cl_Keeper, T.n_inputs, by show 3 < 1000; decide, ?_⟩
  intro e ne
  have nep : e ≠ p := fun z => by rw [z, upd_same] at ne; cases ne
  rw [upd_ne nep] at ne
  have nei : e ≠ i := fun z => by rw [z, upd_same] at ne; cases ne
  rw [upd_ne nei, upd_ne nep] at ne
  refine ⟨_, rfl, p, CK, dx, _, rfl, (upd_ne nep.symm).trans upd_same, T.cl_Keeper, T.n_entries, by show 4 < 1000; decide, ?_⟩
  intro r nr
  have nrp : r ≠ p := fun z => by rw [z, upd_same] at nr; cases nr
  rw [upd_ne nrp] at nr
  have nre : r ≠ e := fun z => by rw [z, upd_same] at nr; cases nr
  rw [upd_ne nre, upd_ne nrp] at nr
  have nri : r ≠ i := fun z => by rw [z, upd_same] at nr; cases nr
  rw [upd_ne nri, upd_ne nrp] at nr
  refine ⟨_, rfl, p, CK, dx, _, rfl, (upd_ne nrp.symm).trans upd_same, T.cl_Keeper, T.n_runs, by show 5 < 1000; decide, ?_⟩
  refine ⟨_, rfl, p, CK, dx, _, rfl, upd_same, T.cl_Keeper, T.n_asked, by show 6 < 1000; decide, ?_⟩
  rw [upd_upd]
  refine ⟨Nat.zero_le _, fun l nl => ?_⟩
  have nlp : l ≠ p := fun z => by rw [z, upd_same] at nl; cases nl
  rw [upd_ne nlp] at nl
  have nlr : l ≠ r := fun z => by rw [z, upd_same] at nl; cases nl
  rw [upd_ne nlr, upd_ne nlp] at nl
  have nle : l ≠ e := fun z => by rw [z, upd_same] at nl; cases nl
  rw [upd_ne nle, upd_ne nlp] at nl
  have nli : l ≠ i := fun z => by rw [z, upd_same] at nl; cases nl
  rw [upd_ne nli, upd_ne nlp] at nl
  refine ⟨_, rfl, p, CK, dx, _, rfl, (upd_ne nlp.symm).trans upd_same, T.cl_Keeper, T.n_ended, by show 7 < 1000; decide, ?_⟩
  refine q _ ⟨i, e, r, l⟩ (fun c u z y => ?_) ni0 ne nr nl ⟨⟨dx, upd_same⟩, ⟨[], ?_, Nat.le_refl _, fun _ => .inl ⟨rfl, rfl⟩⟩, ⟨[], ?_, Nat.le_refl _, fun _ => .inl ⟨rfl, rfl⟩⟩, ⟨[], ?_, Nat.le_refl _, fun _ => rfl⟩, fun k => ⟨fun z => absurd z (by simp), fun _ p z => by cases z⟩, ⟨[], ?_, Nat.le_refl _, .nil⟩, nei.symm, nri.symm, nre.symm, ck⟩
  · have c1 : c ≠ l := fun y => by rw [y, nl] at z; cases z
    have c2 : c ≠ r := fun y => by rw [y, nr] at z; cases z
    have c3 : c ≠ e := fun y => by rw [y, ne] at z; cases z
    have c4 : c ≠ i := fun y => by rw [y, ni0] at z; cases z
    rw [upd_ne y, upd_ne c1, upd_ne y, upd_ne c2, upd_ne y, upd_ne c3, upd_ne y, upd_ne c4, upd_ne y]
    exact z
  · show upd _ _ _ i = _
    rw [upd_ne nip, upd_ne nli.symm, upd_ne nip, upd_ne nri.symm, upd_ne nip, upd_ne nei.symm, upd_ne nip, upd_same]
  · show upd _ _ _ e = _
    rw [upd_ne nep, upd_ne nle.symm, upd_ne nep, upd_ne nre.symm, upd_ne nep, upd_same]
  · show upd _ _ _ r = _
    rw [upd_ne nrp, upd_ne nlr.symm, upd_ne nrp, upd_same]
  · show upd _ _ _ l = _
    rw [upd_ne nlp, upd_same]
    rfl
end

end Sn

namespace Sn
open PySem PySem.Spec PyProof.Rows L2 TL
/-! ### what the law computes -/
inductive Va where
  | i (n : Int)
  | p (a b : Int)
deriving DecidableEq
def Va.rp (H : Hp) (v : V) : Va → Prop
  | .i n => v = .int n
  | .p a b => ∃ q, v = .ref q ∧ H q = some (.tup [.int a, .int b])
def Va.dat : Va → PyData
  | .i n => .int n
  | .p a b => .tuple [.int a, .int b]
def vxx : Vl Va where
  rp := Va.rp
  keep := fun {H H' v a} f h => by
    cases a with
    | i n => exact h
    | p a b =>
      obtain ⟨q, e, h⟩ := h
      exact ⟨q, e, f _ _ h⟩
  dat := Va.dat
  dp := fun {K H v a} h => by
    cases a with
    | i n =>
      have h : v = .int n := h
      subst h
      exact .int n
    | p a b =>
      obtain ⟨q, rfl, h⟩ := h
      exact .tup (.inl (.inl h)) (.cons (.int a) (.cons (.int b) .nil))
  sh := fun a => by
    cases a with
    | i n =>
      unfold SeqAt.shaped
      rw [Bool.and_eq_true]
      exact ⟨by kernel_rfl, decide_eq_true (show 0 ≤ 64 by decide)⟩
    | p x y =>
      unfold SeqAt.shaped
      rw [Bool.and_eq_true]
      exact ⟨by kernel_rfl, decide_eq_true (show 1 ≤ 64 by decide)⟩
  eq := fun x y => by
    cases x with
    | i n =>
      cases y with
      | i m =>
        show PyData.eqv (.int n) (.int m) = _
        rw [PyData.eqv]
        by_cases h : n = m <;> simp [h]
      | p a b =>
        show PyData.eqv (.int n) (.tuple _) = _
        rw [PyData.eqv]
        all_goals simp
    | p a b =>
      cases y with
      | i m =>
        show PyData.eqv (.tuple _) (.int m) = _
        rw [PyData.eqv]
        all_goals simp
      | p c d =>
        show PyData.eqv (.tuple [.int a, .int b]) (.tuple [.int c, .int d]) = _
        rw [PyData.eqv, PyData.eqvAll, PyData.eqvAll, PyData.eqvAll, PyData.eqv, PyData.eqv]
        by_cases h : a = c <;> by_cases h2 : b = d <;> simp [h, h2]
def kIn (j : Int) : Ky := [.inr "in", .inl j]
def kNd (l s : Int) : Ky := [.inr "node", .inl l, .inl s]
def pIn (v : Va) : Prop := ∃ f, v = .i f ∧ 0 ≤ f ∧ f ≤ 8
def pNd (v : Va) : Prop := ∃ a b, v = .p a b ∧ 0 ≤ a ∧ a ≤ 3
def Va.fst : Va → Int
  | .i n => n
  | .p a _ => a
def tE (f r : Int) : Tr Va := .ret (.p (r % 3) (f % 2))
def tB (l s f r : Int) : Tr Va := if f % 2 = 0 then .ask (kNd (l - 1) ((s + 3) % 6)) pNd fun w => tE f (r + 2 * w.fst) else tE f r
def tA (l s f : Int) : Tr Va := if 0 < f % 3 then .ask (kNd (l - 1) ((s * 7 + f) % 6)) pNd fun w => tB l s f (f + w.fst) else tB l s f f
def cT (l s : Int) : Tr Va := .ask (kIn (s % 4)) pIn fun v => if l = 0 then .ret (.p (v.fst % 4) s) else tA l s v.fst
def comp : Ky → Tr Va
  | [_, .inl l, .inl s] => cT l s
  | _ => .ret (.i 0)
def Gk (k : Ky) : Prop := ∃ l s : Int, k = kNd l s ∧ 0 ≤ l ∧ l < 4 ∧ 0 ≤ s ∧ s < 6
theorem Gk.shp (k : Ky) (h : Gk k) : Shp k := by
  obtain ⟨l, s, rfl, _⟩ := h
  show SeqAt.shaped (.tuple [.str "node", .int l, .int s]) = true
  unfold SeqAt.shaped
  rw [Bool.and_eq_true]
  exact ⟨by kernel_rfl, decide_eq_true (show 1 ≤ 64 by decide)⟩
/-! ### within a computation -/
section
variable {α : Type} [DecidableEq α] (Vx : Vl α)
structure Cp (CK CR aF : Addr) (o : Addr) (A : KAd) (rn0 : Ky → Option Addr) (lv Lv : List Ky) (d : Addr) (ni M : Nat) (H0 H : Hp) (S : KS α) (rn : Ky → Option Addr) (m z : Nat) (as : List Ky) (j : Nat) : Prop where
  fr : Fr o A (.ref d) H0 H
  pre : Pre Vx CK CR aF H o A S rn lv Lv (.ref d) m ni z
  rl : ∀ x ∈ lv, rn x = rn0 x
  ex : ∃ kvs, H d = some (.dT kvs) ∧ kvs.map (·.1) = as ∧ kvs.length ≤ j
  bd : m + 4 * z ≤ M
end
section
variable {α : Type} [DecidableEq α] {Vx : Vl α} {G : Ky → Prop} {cmp : Ky → Tr α}
variable {CK CR aF : Addr} {H0 H H1 H' : Hp} {o : Addr} {A : KAd} {S S1 : KS α} {rn rn0 rn' : Ky → Option Addr} {lv Lv : List Ky} {d : Addr} {ni M m z z1 z2 j n : Nat} {as : List Ky} {k : Ky}
theorem Cp.same (c : Cp Vx CK CR aF o A rn0 lv Lv d ni M H0 H S rn m z as j) (s : Same H H') : Cp Vx CK CR aF o A rn0 lv Lv d ni M H0 H' S rn m z as j := by
  obtain ⟨kvs, a, b, e⟩ := c.ex
  exact ⟨c.fr.trans (Fr.of s), c.pre.same s, c.rl, ⟨kvs, s _ _ a, b, e⟩, c.bd⟩
theorem Cp.next (c : Cp Vx CK CR aF o A rn0 lv Lv d ni M H0 H S rn m z as j) (hz : z1 + z2 + 2 ≤ z) (run1 : Run G cmp Lv n z1 (.br S k) (.ok S1)) (hj : j ≤ 900) (fr : Fr o A (.ref d) H H') (kh : Kh Vx CK CR aF H' o A S1 rn' lv (.ref d) (m + 4 * z1 + 8) ni) (rl : ∀ x ∈ lv, rn' x = rn x) (avp : AvP (.ref d) k H H') :
    Cp Vx CK CR aF o A rn0 lv Lv d ni M H0 H' S1 rn' (m + 4 * z1 + 8) z2 (addK as k) (j + 1) := by
  obtain ⟨kvs, a, b, e⟩ := c.ex
  have hd := avp d kvs rfl a
  have hl : (putK kvs k (.bl true)).length ≤ j + 1 := Nat.le_trans (length_putK kvs k (V.bl true)) (by omega)
  have lat := run1.post.1
  have sz := c.pre.sz
  have bd := c.bd
  refine ⟨c.fr.trans fr, ⟨kh, c.pre.nd, c.pre.eq, fun x hx => (c.pre.un x hx).lat lat ((c.pre.eq x).mp hx), .inr ?_, by omega⟩, fun x hx => (rl x hx).trans (c.rl x hx), ⟨_, hd, by rw [map_putK, b], hl⟩, by omega⟩
  rcases c.pre.avk with z | ⟨d', as', z, _, _, n1, n2, n3⟩
  · cases z
  · injection z with z
    subst z
    exact ⟨_, _, rfl, hd, by omega, n1, n2, n3⟩
theorem Cp.sub (c : Cp Vx CK CR aF o A rn0 lv Lv d ni M H0 H S rn m z as j) (hz : z1 + 2 ≤ z) : Pre Vx CK CR aF H o A S rn lv Lv (.ref d) m ni z1 := by
  have sz := c.pre.sz
  exact ⟨c.pre.kh, c.pre.nd, c.pre.eq, c.pre.un, c.pre.avk, by omega⟩
end
section
variable {P : Program} {w : World} {K : PySem.W.Frag} {mg : Str → Option Value} {base : Heap} {f : Addr} {fd : FuncData} {CK CR CC aF : Addr}
abbrev s_l_compute : Stmt := topS 14
abbrev N_l_compute : List Str := ["keeper", "key", "word", "level", "seed", "first", "result", "found"]
theorem sc_l_compute : FnScope N_l_compute ["keeper", "key"] (defScope s_l_compute) := ⟨rfl, rfl, rfl, by decide +kernel, rfl, by decide +kernel, by decide +kernel⟩
theorem ok_l_compute {n L : Nat} (F : Fun K "_law_compute" "_law_compute" s_l_compute f fd) (T : NmK K mg aF CK CR CC) (C_Keeper_ask : CalM P w K mg base (L2.CX P w) L CK "ask" (spAsk vxx Gk comp CK CR CC aF n)) : FnOk P w K mg base (L2.CX P w) (L + 1) f fd ["keeper", "key"] (spFn vxx Gk comp CK CR CC aF n) := by
  refine F.okX sc_l_compute (fun vs H Q E h => ?_) (fun cdv A outer s H vs Q E hr h => ?_)
  · obtain ⟨o, b, A, S, rn, lv, Lv, d, m, ni, k, z, out, rfl, _⟩ := h
    rfl
  obtain ⟨o, b, A, S, rn, lv, Lv, d, m, ni, k, z, out, rfl, pre, hd, hb, ⟨l, sd, rfl, l0, l4, s0, s6⟩, run, q, qe⟩ := h
  refine ⟨_, (pss_cons (ps_asg (pv 1) (pg_tup rfl (pgs_cons (pg_name (i := 2) sc_l_compute.nd rfl (Or.inl rfl)) (pgs_cons (pg_name (i := 3) sc_l_compute.nd rfl (Or.inl rfl)) (pgs_cons (pg_name (i := 4) sc_l_compute.nd rfl (Or.inl rfl)) pgs_nil)))))
    (pss_cons (ps_set (i := 5) sc_l_compute.nd rfl (Or.inl rfl) (pe_m ns_Keeper C_Keeper_ask T.cl_Keeper (by decide) hr (by first | decide | omega) (passes_call (takes_of rfl rfl rfl rfl) (fun _ _ _ _ h => h)) (pv 0) (pa_cons (pe_tup (pa_cons pe_str (pa_cons (pe_op op_mod (pe_callTy call_int1 (by rfl) T.int_ (by decide +kernel) (pa_cons (pv 4) pa_nil)) pe_int) pa_nil))) pa_nil)))
    (pss_cons (ps_if (pt_cmpR op_eq (pv 3) pe_int (nomark _)) (pss_one (ps_ret (pe_tup (pa_cons (pe_op op_mod (pe_callTy call_int1 (by rfl) T.int_ (by decide +kernel) (pa_cons (pv 5) pa_nil)) pe_int) (pa_cons (pv 4) pa_nil))))) pss_nil)
    (pss_cons (ps_set (i := 6) sc_l_compute.nd rfl (Or.inl rfl) (pe_callTy call_int1 (by rfl) T.int_ (by decide +kernel) (pa_cons (pv 5) pa_nil)))
    (C8.pss_cut (ps_if (pt_cmpR op_gt (pe_op op_mod (pv 5) pe_int) pe_int (nomark _)) (pss_cons (ps_set (i := 7) sc_l_compute.nd rfl (Or.inl rfl) (pe_m ns_Keeper C_Keeper_ask T.cl_Keeper (by decide) hr (by first | decide | omega) (passes_call (takes_of rfl rfl rfl rfl) (fun _ _ _ _ h => h)) (pv 0) (pa_cons (pe_tup (pa_cons pe_str (pa_cons (pe_op op_sub (pv 3) pe_int) (pa_cons (pe_op op_mod (pe_op op_add (pe_op op_mul (pv 4) pe_int) (pv 5)) pe_int) pa_nil)))) pa_nil)))
    (pss_one (ps_set (i := 6) sc_l_compute.nd rfl (Or.inl rfl) (pe_op op_add (pv 6) (pe_ix (r := rIxT K) ix_tup (pv 7) pe_int (fun _ _ => rfl)))))) pss_nil)
    (C8.pss_cut (ps_if (pt_cmpR op_eq (pe_op op_mod (pv 5) pe_int) pe_int (nomark _)) (pss_cons (ps_set (i := 7) sc_l_compute.nd rfl (Or.inl rfl) (pe_m ns_Keeper C_Keeper_ask T.cl_Keeper (by decide) hr (by first | decide | omega) (passes_call (takes_of rfl rfl rfl rfl) (fun _ _ _ _ h => h)) (pv 0) (pa_cons (pe_tup (pa_cons pe_str (pa_cons (pe_op op_sub (pv 3) pe_int) (pa_cons (pe_op op_mod (pe_op op_add (pv 4) pe_int) pe_int) pa_nil)))) pa_nil)))
    (pss_one (ps_set (i := 6) sc_l_compute.nd rfl (Or.inl rfl) (pe_op op_add (pv 6) (pe_op op_mul pe_int (pe_ix (r := rIxT K) ix_tup (pv 7) pe_int (fun _ _ => rfl))))))) pss_nil)
    (pss_one (ps_ret (pe_tup (pa_cons (pe_op op_mod (pe_callTy call_int1 (by rfl) T.int_ (by decide +kernel) (pa_cons (pv 6) pa_nil)) pe_int) (pa_cons (pe_op op_mod (pv 5) pe_int) pa_nil))))))))))), ?_⟩
  have c0 : Cp vxx CK CR aF o A rn lv Lv d ni (m + 4 * z) H H S rn m z [] 0 := ⟨fun _ _ e _ _ _ _ _ => e, pre, fun _ _ => rfl, ⟨[], hd, rfl, Nat.le_refl _⟩, Nat.le_refl _⟩
  have hb' : H b = some (.tup [.str "node", .int l, .int sd]) := hb
  refine ⟨_, rfl, b, _, rfl, .inl (.inl hb'), rfl, _, _, rfl, _, _, rfl, _, _, rfl, rfl, ?_⟩
  -- an error
  have err : ∀ {H1 : Hp} {S1 : KS Va} {rn1 : Ky → Option Addr} {m1 z1 j z2 : Nat} {as : List Ky} {S2 : KS Va} {H2 : Hp} {rn2 : Ky → Option Addr}, Cp vxx CK CR aF o A rn lv Lv d ni (m + 4 * z) H H1 S1 rn1 m1 z1 as j → z2 + 2 ≤ z1 → out = .no S2 → Fr o A (.ref d) H1 H2 → Kh vxx CK CR aF H2 o A S2 rn2 lv (.ref d) (m1 + 4 * z2 + 8) ni → (∀ x ∈ lv, rn2 x = rn1 x) → E (.ref CC) none H2 := fun c hz e fr kh rl =>
    qe _ e _ _ (c.fr.trans fr) (kh.more (by have := c.bd; omega)) fun x hx => (rl x hx).trans (c.rl x hx)
  -- the input
  refine ⟨_, rfl, o, rfl, c0.pre.kh.raw.isI, _, rfl, .inl ⟨_, rfl, _, _, rfl, rfl, (show (0 : Int) < 4 by decide), by show 2 ≤ sizeLine; decide, fun bt nt => ?_⟩⟩
  have s1 := same_new (o := .tup [.str "in", .int (sd % 4)]) nt
  have c1 := c0.same s1
  have hbt : isK (upd H bt (.tup [.str "in", .int (sd % 4)])) bt (kIn (sd % 4)) := upd_same
  generalize upd H bt (.tup [.str "in", .int (sd % 4)]) = H1 at s1 c1 hbt ⊢
  obtain ⟨z1, o1, hz1, run1, alt⟩ := Run.ask_inv (show Run Gk comp Lv n z (.ev S (.ask (kIn (sd % 4)) pIn fun v => if l = 0 then .ret (.p (v.fst % 4) sd) else tA l sd v.fst) []) out from run)
  refine ⟨o, bt, A, S, rn, lv, Lv, .ref d, m, ni, _, z1, o1, rfl, c1.sub hz1, hbt, run1, fun S2 a e2 ha H2 rn2 fr2 kh2 rl2 avp2 v hv => ?_, fun S2 e2 H2 rn2 fr2 kh2 rl2 => ?_⟩
  rotate_left
  · rcases alt with ⟨S3, v3, z3, x1, _⟩ | ⟨S3, x1, x2⟩
    · rw [e2] at x1
      cases x1
    · rw [e2] at x1
      injection x1 with x1
      subst x1
      exact err c1 hz1 x2 fr2 kh2 rl2
  obtain ⟨z2, hp, hz2, run2⟩ : ∃ z2, pIn a ∧ z1 + z2 + 2 ≤ z ∧ Run Gk comp Lv n z2 (.ev S2 (if l = 0 then .ret (.p (a.fst % 4) sd) else tA l sd a.fst) (addK [] (kIn (sd % 4)))) out := by
    rcases alt with ⟨S3, v3, z3, x1, x2, x3, x4, x5⟩ | ⟨S3, x1, x2⟩
    · rw [e2] at x1
      injection x1 with x1
      subst x1
      rw [ha] at x2
      cases x2
      exact ⟨z3, x3, x4, x5⟩
    · rw [e2] at x1
      cases x1
  subst e2
  have c2 := c1.next hz2 run1 (by decide) fr2 kh2 rl2 avp2
  obtain ⟨fv, rfl, f0, f8⟩ := hp
  have hv : v = .int fv := hv
  subst hv
  have run2 : Run Gk comp Lv n z2 (.ev S2 (if l = 0 then .ret (.p (fv % 4) sd) else tA l sd fv) (addK [] (kIn (sd % 4)))) out := run2
  generalize addK [] (kIn (sd % 4)) = as2 at c2 run2
  generalize m + 4 * z1 + 8 = m2 at c2 kh2
  -- how it comes out
  have fin : ∀ {H3 : Hp} {S3 : KS Va} {rn3 : Ky → Option Addr} {m3 z3 j : Nat} {as : List Ky} {x y : Int} {p : Addr}, Cp vxx CK CR aF o A rn lv Lv d ni (m + 4 * z) H H3 S3 rn3 m3 z3 as j → j ≤ 900 → out = .val S3 (.p x y) as → H3 p = none → Q (.ref p) (upd H3 p (.tup [.int x, .int y])) := fun {H3 S3 rn3 m3 z3 j as x y p} c hj e np => by
    have cc := c.same (same_new (o := .tup [.int x, .int y]) np)
    obtain ⟨kvs, k1, k2, k3⟩ := cc.ex
    exact q _ _ _ e _ rn3 cc.fr (cc.pre.kh.more (by have := cc.bd; omega)) cc.rl kvs _ k1 k2 (by omega) ⟨p, rfl, upd_same⟩
  refine ⟨_, rfl, rfl, _, rfl, ?_⟩
  by_cases hl : l = 0
  · refine iteP (by rw [hl]) ?_
    rw [if_pos hl] at run2
    have e3 := run2.ret_inv
    refine ⟨_, rfl, .inl ⟨_, rfl, _, _, rfl, rfl, (show (0 : Int) < 4 by decide), _, rfl, by show 2 ≤ sizeLine; decide, fun p np => ?_⟩⟩
    exact fin c2 (by decide) e3 np
  refine iteN (fun z => hl (by injection z)) ?_
  rw [if_neg hl] at run2
  refine ⟨_, rfl, .inl ⟨_, rfl, ?_⟩⟩
  -- one more key
  have more : ∀ {H3 : Hp} {S3 : KS Va} {rn3 : Ky → Option Addr} {m3 z3 j : Nat} {as : List Ky} {g : Int → Tr Va} {l2 s2 : Int} {bt : Addr} {Q' : V → Hp → Prop}, Cp vxx CK CR aF o A rn lv Lv d ni (m + 4 * z) H H3 S3 rn3 m3 z3 as j → j ≤ 900 → isK H3 bt (kNd l2 s2) → Run Gk comp Lv n z3 (.ev S3 (.ask (kNd l2 s2) pNd fun w => g w.fst) as) out →
      (∀ (x y : Int) (q : Addr) H4 S4 rn4 m4 z4 as4, Cp vxx CK CR aF o A rn lv Lv d ni (m + 4 * z) H H4 S4 rn4 m4 z4 as4 (j + 1) → Run Gk comp Lv n z4 (.ev S4 (g x) as4) out → H4 q = some (.tup [.int x, .int y]) → Q' (.ref q) H4) → spAsk vxx Gk comp CK CR CC aF n [.ref o, .ref bt] H3 Q' E := by
    intro H3 S3 rn3 m3 z3 j as g l2 s2 bt Q' c hj hbt run3 q'
    obtain ⟨z1, o1, hz1, run1, alt⟩ := Run.ask_inv run3
    refine ⟨o, bt, A, S3, rn3, lv, Lv, .ref d, m3, ni, _, z1, o1, rfl, c.sub hz1, hbt, run1, fun S2 a e2 ha H2 rn2 fr2 kh2 rl2 avp2 v hv => ?_, fun S2 e2 H2 rn2 fr2 kh2 rl2 => ?_⟩
    · rcases alt with ⟨S5, v5, z5, x1, x2, x3, x4, x5⟩ | ⟨S5, x1, x2⟩
      · rw [e2] at x1
        injection x1 with x1
        subst x1
        rw [ha] at x2
        cases x2
        subst e2
        obtain ⟨x, y, rfl, _, _⟩ := x3
        obtain ⟨q, rfl, hq⟩ := hv
        exact q' x y q H2 _ _ _ _ _ (c.next x4 run1 hj fr2 kh2 rl2 avp2) x5 hq
      · rw [e2] at x1
        cases x1
    · rcases alt with ⟨S5, v5, z5, x1, _⟩ | ⟨S5, x1, x2⟩
      · rw [e2] at x1
        cases x1
      · rw [e2] at x1
        injection x1 with x1
        subst x1
        exact err c hz1 x2 fr2 kh2 rl2
  refine ⟨fun σ H4 => ∃ (r : Int) (ov : Option V) (S4 : KS Va) (rn4 : Ky → Option Addr) (m4 z4 : Nat) (as4 : List Ky), σ = [some (.ref o), some (.ref b), some (.str "node"), some (.int l), some (.int sd), some (.int fv), some (.int r), ov] ∧ Cp vxx CK CR aF o A rn lv Lv d ni (m + 4 * z) H H4 S4 rn4 m4 z4 as4 2 ∧ Run Gk comp Lv n z4 (.ev S4 (tB l sd fv r) as4) out, ?_, ?_⟩
  · refine ⟨_, rfl, _, _, rfl, rfl, (show (0 : Int) < 3 by decide), _, _, rfl, rfl, _, rfl, ?_⟩
    by_cases h3 : 0 < fv % 3
    · have e3 : tA l sd fv = .ask (kNd (l - 1) ((sd * 7 + fv) % 6)) pNd fun w => tB l sd fv (fv + w.fst) := if_pos h3
      rw [e3] at run2
      refine iteP h3 ?_
      refine ⟨_, rfl, o, rfl, c2.pre.kh.raw.isI, _, rfl, _, _, rfl, rfl, _, rfl, _, _, rfl, rfl, .inr ⟨by decide, by decide⟩, _, rfl, _, _, rfl, rfl, _, _, rfl, rfl, (show (0 : Int) < 6 by decide), by show 3 ≤ sizeLine; decide, fun bt nt => ?_⟩
      refine more (g := fun x => tB l sd fv (fv + x)) (c2.same (same_new nt)) (by decide) (bt := bt) upd_same run2 fun x y q H4 S4 rn4 m4 z4 as4 c4 run4 hq => ?_
      exact ⟨_, rfl, _, rfl, q, _, _, _, rfl, rfl, .inl (.inl hq), at_nat (i := 0) rfl, _, _, rfl, rfl, _, _, S4, rn4, m4, z4, as4, rfl, c4, run4⟩
    · have e3 : tA l sd fv = tB l sd fv fv := if_neg h3
      rw [e3] at run2
      refine iteN h3 ?_
      obtain ⟨kvs, k1, k2, k3⟩ := c2.ex
      exact ⟨_, _, S2, _, _, _, _, rfl, ⟨c2.fr, c2.pre, c2.rl, ⟨kvs, k1, k2, by omega⟩, c2.bd⟩, run2⟩
  rintro σ H4 ⟨r, ov, S4, rn4, m4, z4, as4, rfl, c4, run4⟩
  refine ⟨fun σ H5 => ∃ (r : Int) (ov : Option V) (S5 : KS Va) (rn5 : Ky → Option Addr) (m5 z5 : Nat) (as5 : List Ky), σ = [some (.ref o), some (.ref b), some (.str "node"), some (.int l), some (.int sd), some (.int fv), some (.int r), ov] ∧ Cp vxx CK CR aF o A rn lv Lv d ni (m + 4 * z) H H5 S5 rn5 m5 z5 as5 3 ∧ Run Gk comp Lv n z5 (.ev S5 (tE fv r) as5) out, ?_, ?_⟩
  · refine ⟨_, rfl, _, _, rfl, rfl, (show (0 : Int) < 2 by decide), rfl, _, rfl, ?_⟩
    by_cases h3 : fv % 2 = 0
    · have e3 : tB l sd fv r = .ask (kNd (l - 1) ((sd + 3) % 6)) pNd fun w => tE fv (r + 2 * w.fst) := if_pos h3
      rw [e3] at run4
      refine iteP (by show V.int (fv % 2) = V.int 0; rw [h3]) ?_
      refine ⟨_, rfl, o, rfl, c4.pre.kh.raw.isI, _, rfl, _, _, rfl, rfl, _, rfl, _, _, rfl, rfl, _, _, rfl, rfl, (show (0 : Int) < 6 by decide), by show 3 ≤ sizeLine; decide, fun bt nt => ?_⟩
      refine more (g := fun x => tE fv (r + 2 * x)) (c4.same (same_new nt)) (by decide) (bt := bt) upd_same run4 fun x y q H5 S5 rn5 m5 z5 as5 c5 run5 hq => ?_
      exact ⟨_, rfl, _, rfl, q, _, _, _, rfl, rfl, .inl (.inl hq), at_nat (i := 0) rfl, _, _, rfl, rfl, .inl ⟨by decide, by decide⟩, _, _, rfl, rfl, _, _, S5, rn5, m5, z5, as5, rfl, c5, run5⟩
    · have e3 : tB l sd fv r = tE fv r := if_neg h3
      rw [e3] at run4
      refine iteN (fun z => h3 (by injection z)) ?_
      obtain ⟨kvs, k1, k2, k3⟩ := c4.ex
      exact ⟨_, _, S4, _, _, _, _, rfl, ⟨c4.fr, c4.pre, c4.rl, ⟨kvs, k1, k2, by omega⟩, c4.bd⟩, run4⟩
  rintro σ H5 ⟨r5, ov5, S5, rn5, m5, z5, as5, rfl, c5, run5⟩
  have e5 := Run.ret_inv (show Run Gk comp Lv n z5 (.ev S5 (.ret (.p (r5 % 3) (fv % 2))) as5) out from run5)
  refine ⟨_, rfl, .inl ⟨_, rfl, _, _, rfl, rfl, (show (0 : Int) < 3 by decide), _, rfl, _, _, rfl, rfl, (show (0 : Int) < 2 by decide), by show 2 ≤ sizeLine; decide, fun p np => ?_⟩⟩
  exact fin c5 (by decide) e5 np
end
structure MF (K : PySem.W.Frag) (C : Addr) (m qual : Str) (st : Stmt) (ps : List Str) : Prop where
  ex : ∃ (f : Addr) (fd : FuncData), Fun K m qual st f fd ∧ Meth K C m f ∧ Binds K fd ps []
section
variable {P : Program} {w : World} {K : PySem.W.Frag} {mg : Str → Option Value} {base : Heap} {CX : CXT} {k : Nat} {C : Addr} {m qual : Str} {st : Stmt} {ps : List Str} {sp : Sp}
theorem MF.cal (h : MF K C m qual st ps) (ok : ∀ f fd, Fun K m qual st f fd → FnOk P w K mg base CX k f fd ps sp) : CalM P w K mg base CX k C m sp := by
  obtain ⟨f, fd, F, M, b⟩ := h.ex
  exact ⟨⟨f, fd, ps, ok f fd F, M, b⟩⟩
end
theorem no_ask {α : Type} [DecidableEq α] {Vx : Vl α} {G : Ky → Prop} {cmp : Ky → Tr α} {CK CR aF CC : Addr} {vs : List V} {H : Hp} {Q : VK} {E : XK} (h : spAsk Vx G cmp CK CR CC aF 0 vs H Q E) : False := by
  obtain ⟨o, b, A, S, rn, lv, Lv, av, m, ni, k, z, out, _, _, _, r, _⟩ := h
  cases r
structure KM (K : PySem.W.Frag) (CK : Addr) : Prop where
  ask : MF K CK "ask" "Keeper.ask" s_K_ask ["self", "key"]
  entered : MF K CK "_entered" "Keeper._entered" s_K_entered ["self", "key", "run"]
  wanted : MF K CK "_wanted" "Keeper._wanted" s_K_wanted ["self", "step"]
  is_checked : MF K CK "_is_checked" "Keeper._is_checked" s_K_is_checked ["self", "key"]
  changed : MF K CK "_changed" "Keeper._changed" s_K_changed ["self", "key"]
  begin_ : MF K CK "_begin" "Keeper._begin" s_K_begin ["self"]
  end_ : MF K CK "_end" "Keeper._end" s_K_end ["self", "key", "value"]
theorem ask_all {P : Program} {w : World} {K : PySem.W.Frag} {mg : Str → Option Value} {base : Heap} {CK CR CC aF : Addr} {fdC : FuncData} (T : NmK K mg aF CK CR CC) (M : KM K CK) (I_Run : CalO P w K mg base CX0 1 CR (spRunI CR))
    (FC : Fun K "_law_compute" "_law_compute" s_l_compute aF fdC) (BC : Binds K fdC ["keeper", "key"] []) : ∀ n, CalM P w K mg base (L2.CX P w) (3 + 2 * n) CK "ask" (spAsk vxx Gk comp CK CR CC aF n)
  | 0 => M.ask.cal fun f fd F => ⟨fun _ _ _ _ h => (no_ask h).elim, fun _ _ _ _ _ _ _ _ _ _ _ _ _ h => (no_ask h).elim⟩
  | n + 1 => by
    have c := ask_all T M I_Run FC BC n
    have c1 := M.is_checked.cal (P := P) (w := w) (mg := mg) (base := base) fun f fd F => ok_is_checked (Vx := vxx) F T
    have c2 := M.changed.cal (P := P) (w := w) (mg := mg) (base := base) fun f fd F => ok_changed (Vx := vxx) F T
    have c3 := M.wanted.cal (P := P) (w := w) (mg := mg) (base := base) fun f fd F => ok_wanted F T c1 c2
    have c4 := M.entered.cal (P := P) (w := w) (mg := mg) (base := base) fun f fd F => ok_entered (Vx := vxx) F T
    have c5 := M.begin_.cal (P := P) (w := w) (mg := mg) (base := base) fun f fd F => ok_begin (Vx := vxx) F T
    have c6 := M.end_.cal (P := P) (w := w) (mg := mg) (base := base) fun f fd F => ok_end (Vx := vxx) F T
    exact M.ask.cal fun f fd F => ok_ask (L := 3 + 2 * n + 1) Gk.shp F T I_Run c4 c3 c5 c6 (by omega) (ok_l_compute FC T c) FC.kp BC

end Sn

namespace Sn
open PySem PySem.Spec PyProof.Rows L2 TL
/-! ### every key can be brought -/
theorem kNd_inj {l s l' s' : Int} (h : kNd l s = kNd l' s') : l = l' ∧ s = s' := by
  unfold kNd at h
  injection h with _ h
  injection h with h1 h
  injection h with h2 _
  injection h1 with h1
  injection h2 with h2
  exact ⟨h1, h2⟩
theorem kIn_ne {j l s : Int} : kIn j ≠ kNd l s := fun h => by
  unfold kIn kNd at h
  injection h with h _
  injection h with h
  exact absurd h (by decide)
theorem kIn_inj {i j : Int} (h : kIn i = kIn j) : i = j := by
  unfold kIn at h
  injection h with _ h
  injection h with h _
  injection h
def Dep (l : Int) (d : Ky) : Prop := (∃ j, d = kIn j ∧ 0 ≤ j ∧ j < 4) ∨ ∃ l' s', d = kNd l' s' ∧ 0 ≤ l' ∧ l' < l ∧ 0 ≤ s' ∧ s' < 6
structure Ty (S : KS Va) : Prop where
  inn : ∀ j : Int, 0 ≤ j → j < 4 → ∃ f r, S.inp (kIn j) = some (.i f, r) ∧ 0 ≤ f ∧ f ≤ 8
  ind : ∀ l s, S.inp (kNd l s) = none
  ent : ∀ k e, S.en k = some e → (∃ l s, k = kNd l s ∧ (∀ d ∈ e.d, Dep l d) ∧ e.d.length ≤ 3) ∧ pNd e.v
theorem Ty.set {S : KS Va} (t : Ty S) {k : Ky} {e : En Va} {dn : List Ky} {l s : Int} (hk : k = kNd l s) (hd : ∀ d ∈ e.d, Dep l d) (hl : e.d.length ≤ 3) (hv : pNd e.v) : Ty { S with en := ups S.en k e, done := dn } :=
  ⟨t.inn, t.ind, fun k' e' h => by
    have h : ups S.en k e k' = some e' := h
    by_cases c : k' = k
    · subst c
      rw [ups_at] at h
      cases h
      exact ⟨⟨l, s, hk, hd, hl⟩, hv⟩
    · rw [ups_ne c] at h
      exact t.ent k' e' h⟩
theorem Ty.dec {S : KS Va} (t : Ty S) : Ty S.dec := ⟨t.inn, t.ind, t.ent⟩
theorem Ty.rdy_in {S : KS Va} (t : Ty S) {j : Int} (h0 : 0 ≤ j) (h4 : j < 4) : ∃ v, S.val (kIn j) = some v ∧ pIn v := by
  obtain ⟨f, r, h, a, b⟩ := t.inn j h0 h4
  exact ⟨.i f, by unfold KS.val; rw [h], f, rfl, a, b⟩
theorem Ty.rdy_nd {S : KS Va} (t : Ty S) {l s : Int} (r : Rdy S (kNd l s)) : ∃ v, S.val (kNd l s) = some v ∧ pNd v := by
  rcases r with ⟨x, h⟩ | ⟨h, e, he, _⟩
  · rw [t.ind] at h
    cases h
  · exact ⟨e.v, by unfold KS.val; rw [h, he]; rfl, (t.ent _ _ he).2⟩
def NoV (o : Ot Va) : Prop := ∀ S' v as, o ≠ .val S' v as
def Can (L : List Ky) (n b : Nat) (d : Ky) : Prop := ∀ S, Ty S → ∃ z o, Run Gk comp L n z (.br S d) o ∧ z ≤ b ∧ Ty o.st ∧ NoV o
theorem lk_ex {L : List Ky} {n b c : Nat} {k : Ky} {e : En Va} (hrn : ∀ S, Ty S → ∃ z o, Run Gk comp L n z (.rn S k) o ∧ z ≤ c ∧ Ty o.st ∧ NoV o) (hlk : ∀ S, Ty S → Ty (S.look k e)) :
    ∀ ds : List Ky, (∀ d ∈ ds, Can L n b d) → ∀ S, Ty S → ∃ z o, Run Gk comp L n z (.lk S k e ds) o ∧ z ≤ ds.length * (b + 1) + c ∧ Ty o.st ∧ NoV o
  | [], _, S, t => ⟨0, _, .l_nil, Nat.zero_le _, hlk S t, fun _ _ _ e => nomatch e⟩
  | d :: ds, hc, S, t => by
    obtain ⟨z, o, r, hz, t1, nv⟩ := hc d List.mem_cons_self S t
    have hlen : (d :: ds).length * (b + 1) = ds.length * (b + 1) + (b + 1) := Nat.succ_mul _ _
    cases o with
    | val S' v as => exact absurd rfl (nv S' v as)
    | no S1 => exact ⟨_, _, .l_no r, by omega, t1, fun _ _ _ e => nomatch e⟩
    | ok S1 =>
      obtain ⟨g, hg⟩ := (r.post.2.1 S1 rfl).chg
      by_cases h : e.c < g
      · obtain ⟨z2, o2, r2, hz2, t2, nv2⟩ := hrn S1 t1
        exact ⟨_, _, .l_chg r hg h r2, by omega, t2, nv2⟩
      · obtain ⟨z2, o2, r2, hz2, t2, nv2⟩ := lk_ex hrn hlk ds (fun d hd => hc d (List.mem_cons_of_mem _ hd)) S1 t1
        exact ⟨_, _, .l_go r hg (by omega) r2, by omega, t2, nv2⟩
def Tok (L : List Ky) (n b : Nat) (l : Int) : Nat → Tr Va → Prop
  | _, .ret v => pNd v
  | 0, .ask _ _ _ => False
  | m + 1, .ask d p f => Can L n b d ∧ Dep l d ∧ (∀ S, Ty S → Rdy S d → ∃ v, S.val d = some v ∧ p v) ∧ ∀ v, p v → Tok L n b l m (f v)
theorem addK_mem {as : List Ky} {k x : Ky} (h : x ∈ addK as k) : x ∈ as ∨ x = k := by
  unfold addK at h
  split at h
  · exact .inl h
  · rcases List.mem_append.mp h with h | h
    · exact .inl h
    · exact .inr (List.mem_singleton.mp h)
theorem mem_addK {as : List Ky} {k x : Ky} (h : x ∈ as ∨ x = k) : x ∈ addK as k := by
  unfold addK
  split
  · rename_i c
    rcases h with h | h
    · exact h
    · subst h
      obtain ⟨y, hy, e⟩ := List.any_eq_true.mp c
      rw [← of_decide_eq_true e]
      exact hy
  · rcases h with h | h
    · exact List.mem_append.mpr (.inl h)
    · exact List.mem_append.mpr (.inr (List.mem_singleton.mpr h))
theorem addK_len {as : List Ky} {k : Ky} : (addK as k).length ≤ as.length + 1 := by
  unfold addK
  split
  · omega
  · rw [List.length_append]
    exact Nat.le_refl _
theorem ev_ex {L : List Ky} {n b : Nat} {l : Int} : ∀ (m : Nat) (t : Tr Va), Tok L n b l m t → ∀ S as, Ty S → ∃ z o, Run Gk comp L n z (.ev S t as) o ∧ z ≤ m * (b + 2) ∧ Ty o.st ∧ ∀ S' v as', o = .val S' v as' → pNd v ∧ (∀ d ∈ as', d ∈ as ∨ Dep l d) ∧ as'.length ≤ as.length + m
  | m, .ret v, h, S, as, t => ⟨0, _, .e_ret, Nat.zero_le _, t, fun S' v' as' e => by
      injection e with e1 e2 e3
      subst e2 e3
      exact ⟨by cases m <;> exact h, fun d hd => .inl hd, Nat.le_add_right _ _⟩⟩
  | 0, .ask d p f, h, S, as, t => h.elim
  | m + 1, .ask d p f, h, S, as, t => by
    obtain ⟨hc, hd, hr, hf⟩ := h
    obtain ⟨z, o, r, hz, t1, nv⟩ := hc S t
    have hm : (m + 1) * (b + 2) = m * (b + 2) + (b + 2) := Nat.succ_mul _ _
    cases o with
    | val S' v as => exact absurd rfl (nv S' v as)
    | no S1 => exact ⟨_, _, .e_no r, by omega, t1, fun _ _ _ e => nomatch e⟩
    | ok S1 =>
      obtain ⟨v, hv, hp⟩ := hr S1 t1 (r.post.2.1 S1 rfl)
      obtain ⟨z2, o2, r2, hz2, t2, q2⟩ := ev_ex m (f v) (hf v hp) S1 (addK as d) t1
      refine ⟨_, _, .e_ask r hv hp r2, by omega, t2, fun S' v' as' e => ?_⟩
      obtain ⟨a, bb, c⟩ := q2 S' v' as' e
      refine ⟨a, fun x hx => ?_, by have := addK_len (as := as) (k := d); omega⟩
      rcases bb x hx with h | h
      · rcases addK_mem h with h | h
        · exact .inl h
        · exact .inr (h ▸ hd)
      · exact .inr h
theorem rn_ex {L : List Ky} {n b : Nat} {l s : Int} (hg : Gk (kNd l s)) (ht : Tok L n b l 3 (cT l s)) (S : KS Va) (t : Ty S) : ∃ z o, Run Gk comp L (n + 1) z (.rn S (kNd l s)) o ∧ z ≤ 3 * (b + 2) + 3 ∧ Ty o.st ∧ NoV o := by
  by_cases hl : S.left = some 0
  · exact ⟨1, _, .n_no hl, by omega, t, fun _ _ _ e => nomatch e⟩
  obtain ⟨z, o, r, hz, t1, q⟩ := ev_ex 3 (cT l s) ht S.dec [] t.dec
  cases o with
  | ok S1 => exact absurd rfl (r.post.2 S1)
  | no S1 => exact ⟨_, _, .n_fail hl hg r, by omega, t1, fun _ _ _ e => nomatch e⟩
  | val S1 v as =>
    obtain ⟨a, c, d⟩ := q S1 v as rfl
    have t1 : Ty S1 := t1
    refine ⟨_, _, .n_ok hl hg r, by omega, t1.set (e := ⟨v, as, S1.now, S1.chgOf (kNd l s) v⟩) rfl (fun x hx => ?_) (by simpa using d) a, fun _ _ _ e => nomatch e⟩
    rcases c x hx with h | h
    · exact absurd h (by simp)
    · exact h
def Bb : Nat → Nat
  | 0 => 20
  | l + 1 => 6 * Bb l + 20
def Bp : Nat → Nat
  | 0 => 0
  | l + 1 => Bb l
theorem Bb_eq (l : Nat) : Bb l = 6 * Bp l + 20 := by cases l <;> rfl
theorem mod_lt4 (a : Int) : 0 ≤ a % 4 ∧ a % 4 < 4 := ⟨Int.emod_nonneg _ (by decide), Int.emod_lt_of_pos _ (by decide)⟩
theorem mod_lt6 (a : Int) : 0 ≤ a % 6 ∧ a % 6 < 6 := ⟨Int.emod_nonneg _ (by decide), Int.emod_lt_of_pos _ (by decide)⟩
theorem mod_lt3 (a : Int) : 0 ≤ a % 3 ∧ a % 3 < 3 := ⟨Int.emod_nonneg _ (by decide), Int.emod_lt_of_pos _ (by decide)⟩
theorem can_in {L : List Ky} {n b : Nat} {j : Int} (h0 : 0 ≤ j) (h4 : j < 4) : Can L (n + 1) b (kIn j) := fun S t => by
  obtain ⟨f, r, h, _⟩ := t.inn j h0 h4
  exact ⟨0, _, .b_in h, Nat.zero_le _, t, fun _ _ _ e => nomatch e⟩
theorem tok_E {L : List Ky} {n b m : Nat} {l f r : Int} : Tok L n b l m (tE f r) := by
  have h := mod_lt3 r
  have : pNd (.p (r % 3) (f % 2)) := ⟨_, _, rfl, h.1, by omega⟩
  cases m <;> exact this
theorem tok_cT {L : List Ky} {n b : Nat} {l s : Int} (hs : 0 ≤ s) (hc : l ≠ 0 → 0 < l ∧ ∀ s', 0 ≤ s' → s' < 6 → Can L (n + 1) b (kNd (l - 1) s')) : Tok L (n + 1) b l 3 (cT l s) := by
  have h4 := mod_lt4 s
  refine ⟨can_in h4.1 h4.2, .inl ⟨_, rfl, h4⟩, fun S t _ => t.rdy_in h4.1 h4.2, fun v hv => ?_⟩
  show Tok L (n + 1) b l 2 (if l = 0 then .ret (.p (v.fst % 4) s) else tA l s v.fst)
  by_cases hl : l = 0
  · rw [if_pos hl]
    have := mod_lt4 v.fst
    exact ⟨_, _, rfl, this.1, by omega⟩
  rw [if_neg hl]
  obtain ⟨lp, hc⟩ := hc hl
  have nd : ∀ x : Int, Can L (n + 1) b (kNd (l - 1) (x % 6)) ∧ Dep l (kNd (l - 1) (x % 6)) ∧ (∀ S, Ty S → Rdy S (kNd (l - 1) (x % 6)) → ∃ v, S.val (kNd (l - 1) (x % 6)) = some v ∧ pNd v) := fun x =>
    ⟨hc _ (mod_lt6 x).1 (mod_lt6 x).2, .inr ⟨_, _, rfl, by omega, by omega, mod_lt6 x⟩, fun S t r => t.rdy_nd r⟩
  have tb : ∀ (m : Nat) (f r : Int), Tok L (n + 1) b l (m + 1) (tB l s f r) := fun m f r => by
    unfold tB
    split
    · obtain ⟨a, c, d⟩ := nd (s + 3)
      exact ⟨a, c, d, fun v _ => tok_E⟩
    · exact tok_E
  unfold tA
  split
  · obtain ⟨a, c, d⟩ := nd (s * 7 + v.fst)
    exact ⟨a, c, d, fun w _ => tb 0 _ _⟩
  · exact tb 1 _ _
theorem can_nd : ∀ (l : Nat) (n : Nat) (L : List Ky) (s : Int), l < 4 → l + 2 ≤ n → 0 ≤ s → s < 6 → (∀ l' s', kNd l' s' ∈ L → (l : Int) < l') → Can L n (Bb l) (kNd (l : Int) s)
  | l, 0, _, _, _, h, _, _, _ => by omega
  | l, 1, _, _, _, h, _, _, _ => by omega
  | l, n + 2, L, s, hl, hn, s0, s6, hL => by
    intro S t
    have gk : Gk (kNd (l : Int) s) := ⟨_, _, rfl, by omega, by omega, s0, s6⟩
    by_cases hnow : ∃ e, S.en (kNd (l : Int) s) = some e ∧ e.c = S.now
    · obtain ⟨e, he, hc⟩ := hnow
      exact ⟨0, _, .b_now (t.ind _ _) he hc gk, Nat.zero_le _, t, fun _ _ _ e => nomatch e⟩
    have un : ∀ e, S.en (kNd (l : Int) s) = some e → e.c ≠ S.now := fun e he hc => hnow ⟨e, he, hc⟩
    have notin : kNd (l : Int) s ∉ L := fun z => by
      have := hL _ _ z
      omega
    have sub : ∀ d, Dep l d → Can (kNd (l : Int) s :: L) (n + 2) (Bp l) d := fun d hd => by
      rcases hd with ⟨j, rfl, a, b⟩ | ⟨l', s', rfl, a, b, c, e⟩
      · exact can_in a b
      · obtain ⟨l2, rfl⟩ : ∃ l2 : Nat, l' = (l2 : Int) := ⟨l'.toNat, by omega⟩
        cases l with
        | zero => omega
        | succ l1 =>
          have q := can_nd l2 (n + 2) (kNd ((l1 + 1 : Nat) : Int) s :: L) s' (by omega) (by omega) c e fun l3 s3 h => by
            rcases List.mem_cons.mp h with h | h
            · rw [(kNd_inj h).1]
              exact b
            · have := hL _ _ h
              omega
          intro S t
          obtain ⟨z, o, r, hz, t1, nv⟩ := q S t
          refine ⟨z, o, r, Nat.le_trans hz ?_, t1, nv⟩
          have mono : ∀ a b : Nat, a ≤ b → Bb a ≤ Bb b := fun a b h => by
            induction h with
            | refl => exact Nat.le_refl _
            | step _ ih => exact Nat.le_trans ih (by show _ ≤ 6 * _ + 20; omega)
          exact mono _ _ (by omega)
    have sub1 : ∀ d, Dep l d → Can (kNd (l : Int) s :: L) (n + 1) (Bp l) d := fun d hd => by
      rcases hd with ⟨j, rfl, a, b⟩ | ⟨l', s', rfl, a, b, c, e⟩
      · exact can_in a b
      · obtain ⟨l2, rfl⟩ : ∃ l2 : Nat, l' = (l2 : Int) := ⟨l'.toNat, by omega⟩
        cases l with
        | zero => omega
        | succ l1 =>
          have q := can_nd l2 (n + 1) (kNd ((l1 + 1 : Nat) : Int) s :: L) s' (by omega) (by omega) c e fun l3 s3 h => by
            rcases List.mem_cons.mp h with h | h
            · rw [(kNd_inj h).1]
              exact b
            · have := hL _ _ h
              omega
          intro S t
          obtain ⟨z, o, r, hz, t1, nv⟩ := q S t
          refine ⟨z, o, r, Nat.le_trans hz ?_, t1, nv⟩
          have mono : ∀ a b : Nat, a ≤ b → Bb a ≤ Bb b := fun a b h => by
            induction h with
            | refl => exact Nat.le_refl _
            | step _ ih => exact Nat.le_trans ih (by show _ ≤ 6 * _ + 20; omega)
          exact mono _ _ (by omega)
    have tk : Tok (kNd (l : Int) s :: L) (n + 1) (Bp l) l 3 (cT l s) := tok_cT s0 fun h0 => ⟨by omega, fun s' a b => sub1 _ (.inr ⟨_, _, rfl, by omega, by omega, a, b⟩)⟩
    have rn : ∀ S, Ty S → ∃ z o, Run Gk comp (kNd (l : Int) s :: L) (n + 2) z (.rn S (kNd (l : Int) s)) o ∧ z ≤ 3 * (Bp l + 2) + 3 ∧ Ty o.st ∧ NoV o := fun S t => rn_ex gk tk S t
    have eB := Bb_eq l
    cases he : S.en (kNd (l : Int) s) with
    | none =>
      obtain ⟨z, o, r, hz, t1, nv⟩ := rn S t
      exact ⟨_, o, .b_rs (t.ind _ _) un notin gk (.r_none he r), by omega, t1, nv⟩
    | some e =>
      obtain ⟨⟨l3, s3, e3, hd, hlen⟩, hv⟩ := t.ent _ _ he
      have el := (kNd_inj e3).1
      subst el
      obtain ⟨z, o, r, hz, t1, nv⟩ := lk_ex (b := Bp l) rn (fun S t => t.set (e := ⟨e.v, e.d, S.now, e.g⟩) e3 hd hlen hv) e.d (fun d h => sub d (hd d h)) S t
      have hm : e.d.length * (Bp l + 1) ≤ 3 * (Bp l + 1) := Nat.mul_le_mul_right _ hlen
      exact ⟨_, o, .b_rs (t.ind _ _) un notin gk (.r_old he (un e he) r), by omega, t1, nv⟩

end Sn

namespace Sn
open PySem PySem.Spec PyProof.Rows L2 TL
/-! ### kept values are fresh -/
def evT (N : Ky → Va) : Tr Va → List Ky → Va × List Ky
  | .ret v, as => (v, as)
  | .ask d _ f, as => evT N (f (N d)) (addK as d)
theorem evT_sub {N : Ky → Va} : ∀ (t : Tr Va) (as : List Ky), ∀ d ∈ as, d ∈ (evT N t as).2
  | .ret v, as, d, h => h
  | .ask d0 _ f, as, d, h => evT_sub (f (N d0)) (addK as d0) d (mem_addK (.inl h))
theorem evT_congr {N N' : Ky → Va} : ∀ (t : Tr Va) (as : List Ky), (∀ d ∈ (evT N t as).2, N d = N' d) → evT N t as = evT N' t as
  | .ret v, as, _ => rfl
  | .ask d _ f, as, h => by
    have hd : N d = N' d := h d (evT_sub (f (N d)) (addK as d) d (mem_addK (.inr rfl)))
    show evT N (f (N d)) (addK as d) = evT N' (f (N' d)) (addK as d)
    rw [← hd]
    exact evT_congr (f (N d)) (addK as d) h
abbrev Inps := Ky → Option Va
def inpV (I : Inps) (k : Ky) : Va := (I k).getD (.i 0)
def lowN (I : Inps) (g : Int → Va) : Ky → Va
  | [_, .inl _, .inl s'] => g s'
  | k => inpV I k
def NN (I : Inps) : Nat → Int → Va
  | 0, s => (evT (lowN I fun _ => .i 0) (cT 0 s) []).1
  | l + 1, s => (evT (lowN I (NN I l)) (cT ((l + 1 : Nat) : Int) s) []).1
/-- the value of a key for these inputs -/
def Nv (I : Inps) : Ky → Va
  | [_, .inl l, .inl s] => NN I l.toNat s
  | k => inpV I k
theorem Nv_in {I : Inps} {j : Int} : Nv I (kIn j) = inpV I (kIn j) := rfl
theorem Nv_nd {I : Inps} {l : Nat} {s : Int} : Nv I (kNd (l : Int) s) = NN I l s := rfl
/-- two ways to see the keys below agree on what is asked -/
theorem evT_cT {N N' : Ky → Va} {l s : Int} (h1 : ∀ j, 0 ≤ j → j < 4 → N (kIn j) = N' (kIn j)) (h2 : l ≠ 0 → ∀ s', N (kNd (l - 1) s') = N' (kNd (l - 1) s')) : evT N (cT l s) [] = evT N' (cT l s) [] := by
  show evT N (if l = 0 then .ret (.p ((N (kIn (s % 4))).fst % 4) s) else tA l s (N (kIn (s % 4))).fst) (addK [] (kIn (s % 4))) = evT N' (if l = 0 then .ret (.p ((N' (kIn (s % 4))).fst % 4) s) else tA l s (N' (kIn (s % 4))).fst) (addK [] (kIn (s % 4)))
  rw [h1 _ (mod_lt4 s).1 (mod_lt4 s).2]
  by_cases hl : l = 0
  · rw [if_pos hl]
    rfl
  rw [if_neg hl]
  have h2 := h2 hl
  have tb : ∀ f r as, evT N (tB l s f r) as = evT N' (tB l s f r) as := fun f r as => by
    unfold tB
    split
    · show evT N (tE f (r + 2 * (N (kNd (l - 1) ((s + 3) % 6))).fst)) _ = evT N' (tE f (r + 2 * (N' (kNd (l - 1) ((s + 3) % 6))).fst)) _
      rw [h2]
      rfl
    · rfl
  unfold tA
  split
  · show evT N (tB l s _ (_ + (N (kNd (l - 1) _)).fst)) _ = evT N' (tB l s _ (_ + (N' (kNd (l - 1) _)).fst)) _
    rw [h2]
    exact tb _ _ _
  · exact tb _ _ _
theorem Nv_eq {I : Inps} {l : Nat} {s : Int} : Nv I (kNd (l : Int) s) = (evT (Nv I) (cT (l : Int) s) []).1 := by
  rw [Nv_nd]
  cases l with
  | zero =>
    show (evT (lowN I fun _ => .i 0) (cT 0 s) []).1 = (evT (Nv I) (cT 0 s) []).1
    rw [evT_cT (N := lowN I fun _ => .i 0) (N' := Nv I) (fun j _ _ => rfl) (fun h => absurd rfl h)]
  | succ l =>
    show (evT (lowN I (NN I l)) (cT ((l + 1 : Nat) : Int) s) []).1 = _
    rw [evT_cT (N := lowN I (NN I l)) (N' := Nv I) (fun j _ _ => rfl) (fun _ s' => ?_)]
    show NN I l s' = NN I (((l + 1 : Nat) : Int) - 1).toNat s'
    rw [show (((l + 1 : Nat) : Int) - 1).toNat = l by omega]
theorem NN_congr {I I' : Inps} (h : ∀ j, 0 ≤ j → j < 4 → I (kIn j) = I' (kIn j)) : ∀ (l : Nat) (s : Int), NN I l s = NN I' l s
  | 0, s => by
    show (evT (lowN I fun _ => .i 0) (cT 0 s) []).1 = (evT (lowN I' fun _ => .i 0) (cT 0 s) []).1
    rw [evT_cT (N := lowN I fun _ => .i 0) (N' := lowN I' fun _ => .i 0) (fun j a b => by show inpV I (kIn j) = inpV I' (kIn j); unfold inpV; rw [h j a b]) (fun h => absurd rfl h)]
  | l + 1, s => by
    show (evT (lowN I (NN I l)) (cT ((l + 1 : Nat) : Int) s) []).1 = (evT (lowN I' (NN I' l)) (cT ((l + 1 : Nat) : Int) s) []).1
    rw [evT_cT (N := lowN I (NN I l)) (N' := lowN I' (NN I' l)) (fun j a b => by show inpV I (kIn j) = inpV I' (kIn j); unfold inpV; rw [h j a b]) (fun _ s' => NN_congr h l s')]
/-- what always holds; I tells the inputs of each revision -/
structure KI (I : Nat → Inps) (S : KS Va) : Prop where
  inp : ∀ k x g, S.inp k = some (x, g) → g ≤ S.now ∧ I S.now k = some x
  isI : ∀ k x g, S.inp k = some (x, g) → ∃ j, k = kIn j
  ent : ∀ k e, S.en k = some e → e.c ≤ S.now ∧ e.g ≤ e.c ∧ ∃ (l : Nat) (s : Int), k = kNd (l : Int) s ∧ evT (Nv (I e.c)) (cT (l : Int) s) [] = (e.v, e.d)
  dep : ∀ k e d, S.en k = some e → d ∈ e.d → (∀ ed, S.en d = some ed → ed.g ≤ e.c → Nv (I e.c) d = ed.v) ∧ (∀ x g, S.inp d = some (x, g) → g ≤ e.c → Nv (I e.c) d = x)
/-- what a key that is ready gives -/
theorem KI.val {I : Nat → Inps} {S : KS Va} (K : KI I S) {d : Ky} {v : Va} (r : Rdy S d) (h : S.val d = some v) : Nv (I S.now) d = v := by
  unfold KS.val at h
  rcases r with ⟨⟨x, g⟩, e⟩ | ⟨hn, e, he, hc⟩
  · rw [e] at h
    cases h
    obtain ⟨j, rfl⟩ := K.isI _ _ _ e
    show inpV (I S.now) (kIn j) = x
    unfold inpV
    rw [(K.inp _ _ _ e).2]
    rfl
  · rw [hn, he] at h
    cases h
    obtain ⟨_, _, l, s, rfl, z⟩ := K.ent _ _ he
    rw [Nv_eq, ← hc, z]
theorem KI.set {I : Nat → Inps} {S : KS Va} (K : KI I S) {e : En Va} {dn : List Ky} {l : Nat} {s : Int} (un : Unc S (kNd (l : Int) s)) (hc : e.c = S.now) (hg : e.g ≤ S.now) (hv : evT (Nv (I S.now)) (cT (l : Int) s) [] = (e.v, e.d)) (hd : ∀ d ∈ e.d, Rdy S d)
    (same : ∀ e0, S.en (kNd (l : Int) s) = some e0 → (e.v = e0.v ∧ e.g = e0.g) ∨ e.g = S.now) (new : S.en (kNd (l : Int) s) = none → e.g = S.now) (ni : S.inp (kNd (l : Int) s) = none) : KI I { S with en := ups S.en (kNd (l : Int) s) e, done := dn } := by
  have val : Nv (I S.now) (kNd (l : Int) s) = e.v := by rw [Nv_eq, hv]
  have nk : ∀ d ∈ e.d, d ≠ kNd (l : Int) s := fun d h z => by
    subst z
    rcases hd _ h with ⟨x, y⟩ | ⟨_, e1, y1, y2⟩
    · rw [ni] at y
      cases y
    · exact un _ y1 y2
  refine ⟨K.inp, K.isI, fun k e1 h => ?_, fun k e1 d h hm => ⟨fun ed h2 hle => ?_, fun x g h2 hle => ?_⟩⟩
  · have h : ups S.en (kNd (l : Int) s) e k = some e1 := h
    by_cases c : k = kNd (l : Int) s
    · subst c
      rw [ups_at] at h
      cases h
      exact ⟨by show e.c ≤ S.now; omega, by omega, l, s, rfl, by rw [hc]; exact hv⟩
    · rw [ups_ne c] at h
      exact K.ent k e1 h
  · have h : ups S.en (kNd (l : Int) s) e k = some e1 := h
    have h2 : ups S.en (kNd (l : Int) s) e d = some ed := h2
    by_cases c : k = kNd (l : Int) s
    · subst c
      rw [ups_at] at h
      cases h
      rw [ups_ne (nk d hm)] at h2
      rw [hc]
      refine K.val (hd d hm) ?_
      unfold KS.val
      rcases hd d hm with ⟨⟨x, g⟩, y⟩ | ⟨y, _⟩
      · obtain ⟨j, rfl⟩ := K.isI _ _ _ y
        obtain ⟨_, _, l2, s2, z, _⟩ := K.ent _ _ h2
        exact absurd z kIn_ne
      · rw [y, h2]
        rfl
    · rw [ups_ne c] at h
      by_cases c2 : d = kNd (l : Int) s
      · subst c2
        rw [ups_at] at h2
        cases h2
        have hcn := (K.ent k e1 h).1
        have now : e.g = S.now → Nv (I e1.c) (kNd (l : Int) s) = e.v := fun hg => by
          have : e1.c = S.now := by omega
          rw [this]
          exact val
        cases h0 : S.en (kNd (l : Int) s) with
        | none => exact now (new h0)
        | some e0 =>
          rcases same e0 h0 with ⟨s1, s2⟩ | s1
          · rw [s1]
            exact (K.dep k e1 _ h hm).1 e0 h0 (by omega)
          · exact now s1
      · rw [ups_ne c2] at h2
        exact (K.dep k e1 d h hm).1 ed h2 hle
  · have h : ups S.en (kNd (l : Int) s) e k = some e1 := h
    by_cases c : k = kNd (l : Int) s
    · subst c
      rw [ups_at] at h
      cases h
      rw [hc]
      obtain ⟨j, rfl⟩ := K.isI _ _ _ h2
      show inpV (I S.now) (kIn j) = x
      unfold inpV
      rw [(K.inp _ _ _ h2).2]
      rfl
    · rw [ups_ne c] at h
      exact (K.dep k e1 d h hm).2 x g h2 hle
/-- looked through so far -/
def Lkd (S : KS Va) (e : En Va) (ds : List Ky) : Prop := ∀ d ∈ e.d, d ∈ ds ∨ (Rdy S d ∧ ∃ g, S.chg d = some g ∧ g ≤ e.c)
theorem Rdy.lat {P : Ky → Prop} {S S1 : KS Va} (l : Lat P S S1) {d : Ky} (r : Rdy S d) : Rdy S1 d ∧ S1.chg d = S.chg d := by
  unfold KS.chg
  rcases r with ⟨x, e⟩ | ⟨hn, e, he, hc⟩
  · rw [l.inp]
    exact ⟨.inl ⟨x, by rw [l.inp]; exact e⟩, by rw [e]⟩
  · have h1 := l.mono d e he hc
    rw [l.inp, hn, h1, he]
    exact ⟨.inr ⟨by rw [l.inp]; exact hn, e, h1, by rw [hc, l.now]⟩, rfl⟩
def Kpost (I : Nat → Inps) (L : List Ky) : Jg Va → Ot Va → Prop
  | .br S k, o => KI I S → KI I o.st
  | .ev S t as, o => KI I S → (∀ d ∈ as, Rdy S d) → KI I o.st ∧ ∀ S' v as', o = .val S' v as' → evT (Nv (I S.now)) t as = (v, as') ∧ ∀ d ∈ as', Rdy S' d
  | .rs S k i, o => KI I S → k ∈ L → Unc S k → Gk k → S.inp k = none → i = 0 → KI I o.st
  | .lk S k e ds, o => KI I S → k ∈ L → Unc S k → Gk k → S.inp k = none → S.en k = some e → Lkd S e ds → KI I o.st
  | .rn S k, o => KI I S → k ∈ L → Unc S k → Gk k → S.inp k = none → KI I o.st
theorem gk_nat {k : Ky} (h : Gk k) : ∃ (l : Nat) (s : Int), k = kNd (l : Int) s := by
  obtain ⟨l, s, rfl, h, _⟩ := h
  exact ⟨l.toNat, s, by rw [Int.toNat_of_nonneg h]⟩
theorem Run.fresh {I : Nat → Inps} {L : List Ky} {n z : Nat} {J : Jg Va} {o : Ot Va} (h : Run Gk comp L n z J o) : Kpost I L J o := by
  induction h with
  | b_in a => exact fun K => K
  | b_now a b c g => exact fun K => K
  | b_rs a b c g r ih => exact fun K => ih K List.mem_cons_self b g a rfl
  | r_now a b => exact fun K hk u => absurd b (u _ a)
  | r_none a r ih => exact fun K hk u g hi _ => ih K hk u g hi
  | r_old a b r ih => exact fun K hk u g hi h0 => ih K hk u g hi a fun d hd => .inl (by rw [h0]; exact hd)
  | @l_nil L n S k e =>
    intro K hk u g hi he lk
    obtain ⟨l, s, rfl⟩ := gk_nat g
    obtain ⟨e1, e2, l', s', e3, e4⟩ := K.ent _ _ he
    obtain ⟨e5, e6⟩ := kNd_inj e3
    have e5 : l = l' := Int.ofNat.inj e5
    subst e5 e6
    have hd : ∀ d ∈ e.d, Rdy S d ∧ Nv (I e.c) d = Nv (I S.now) d := fun d hd => by
      rcases lk d hd with h | ⟨r, gg, h1, h2⟩
      · exact absurd h (by simp)
      · refine ⟨r, ?_⟩
        unfold KS.chg at h1
        rcases r with ⟨⟨x, y⟩, q⟩ | ⟨q, ed, q1, q2⟩
        · rw [q] at h1
          cases h1
          rw [(K.dep _ _ _ he hd).2 x y q h2]
          exact (K.val (.inl ⟨_, q⟩) (by unfold KS.val; rw [q])).symm
        · rw [q, q1] at h1
          cases h1
          rw [(K.dep _ _ _ he hd).1 ed q1 h2]
          exact (K.val (.inr ⟨q, ed, q1, q2⟩) (by unfold KS.val; rw [q, q1]; rfl)).symm
    have ev : evT (Nv (I S.now)) (cT (l : Int) s) [] = (e.v, e.d) := by
      rw [← evT_congr (N := Nv (I e.c)) (cT (l : Int) s) [] fun d h => (hd d (by rw [e4] at h; exact h)).2]
      exact e4
    exact K.set (e := ⟨e.v, e.d, S.now, e.g⟩) (dn := S.done) u rfl (by show e.g ≤ S.now; omega) ev (fun d h => (hd d h).1) (fun e0 h0 => by rw [he] at h0; cases h0; exact .inl ⟨rfl, rfl⟩) (fun h0 => by rw [he] at h0; cases h0) hi
  | l_no r ih => exact fun K hk u g hi he lk => ih K
  | @l_chg L n z1 z2 S k e d ds S1 gg o r a b r2 ih ih2 =>
    intro K hk u g hi he lk
    have lat : Lat (· ∈ L) S S1 := r.post.1
    exact ih2 (ih K) hk (u.lat lat hk) g (by rw [lat.inp]; exact hi)
  | @l_go L n z1 z2 S k e d0 ds S1 g0 o r a b r2 ih ih2 =>
    intro K hk u g hi he lk
    have lat : Lat (· ∈ L) S S1 := r.post.1
    refine ih2 (ih K) hk (u.lat lat hk) g (by rw [lat.inp]; exact hi) ((lat.en _ hk).trans he) fun d hd => ?_
    rcases lk d hd with h | ⟨q, gg, h1, h2⟩
    · rcases List.mem_cons.mp h with rfl | h
      · exact .inr ⟨r.post.2.1 _ rfl, _, a, b⟩
      · exact .inl h
    · obtain ⟨q1, q2⟩ := q.lat lat
      exact .inr ⟨q1, gg, by rw [q2]; exact h1, h2⟩
  | n_no a => exact fun K hk u g hi => K
  | @n_ok L n z S k S1 v as a gk r ih =>
    intro K hk u g hi
    obtain ⟨l, s, rfl⟩ := gk_nat g
    have K1 : KI I S.dec := ⟨K.inp, K.isI, K.ent, K.dep⟩
    obtain ⟨K2, q⟩ := ih K1 fun d h => absurd h (by simp)
    have K2 : KI I S1 := K2
    obtain ⟨q1, q2⟩ := q S1 v as rfl
    have lat := r.post.1
    have lat : Lat (· ∈ L) S.dec S1 := lat
    have un : Unc S1 (kNd (l : Int) s) := Unc.lat (S := S.dec) u lat hk
    have hn : S1.now = S.now := lat.now
    refine K2.set (e := ⟨v, as, S1.now, S1.chgOf (kNd (l : Int) s) v⟩) (dn := S1.done ++ [kNd (l : Int) s]) un rfl ?_ (by rw [hn]; exact q1) q2 (fun e0 h0 => ?_) (fun h0 => ?_) (by rw [show S1.inp = S.inp from lat.inp]; exact hi)
    · show S1.chgOf (kNd (l : Int) s) v ≤ S1.now
      unfold KS.chgOf
      cases h : S1.en (kNd (l : Int) s) with
      | none => exact Nat.le_refl _
      | some e =>
        show (if e.v = v then e.g else S1.now) ≤ S1.now
        have := K2.ent _ _ h
        split <;> omega
    · show (v = e0.v ∧ S1.chgOf (kNd (l : Int) s) v = e0.g) ∨ S1.chgOf (kNd (l : Int) s) v = S1.now
      unfold KS.chgOf
      rw [h0]
      show (v = e0.v ∧ (if e0.v = v then e0.g else S1.now) = e0.g) ∨ (if e0.v = v then e0.g else S1.now) = S1.now
      by_cases c : e0.v = v
      · rw [if_pos c]
        exact .inl ⟨c.symm, rfl⟩
      · rw [if_neg c]
        exact .inr rfl
    · show S1.chgOf (kNd (l : Int) s) v = S1.now
      unfold KS.chgOf
      rw [h0]
  | @n_fail L n z S k S1 a gk r ih =>
    intro K hk u g hi
    have K1 : KI I S.dec := ⟨K.inp, K.isI, K.ent, K.dep⟩
    exact (ih K1 fun d h => absurd h (by simp)).1
  | e_ret => exact fun K hr => ⟨K, fun S' v' as' e => by injection e with e1 e2 e3; subst e1 e2 e3; exact ⟨rfl, hr⟩⟩
  | @e_ask L n z1 z2 S d p f as S1 v o r a pv r2 ih ih2 =>
    intro K hr
    have lat := r.post.1
    have lat : Lat (· ∈ L) S S1 := lat
    have rd := r.post.2.1 S1 rfl
    have K1 : KI I S1 := ih K
    obtain ⟨K2, q⟩ := ih2 K1 fun x hx => by
      rcases addK_mem hx with h | h
      · exact ((hr x h).lat lat).1
      · exact h ▸ rd
    refine ⟨K2, fun S' v' as' e => ?_⟩
    obtain ⟨q1, q2⟩ := q S' v' as' e
    refine ⟨?_, q2⟩
    show evT (Nv (I S.now)) (f (Nv (I S.now) d)) (addK as d) = _
    have ev := K1.val rd a
    rw [lat.now] at ev q1
    rw [ev]
    exact q1
  | e_no r ih => exact fun K hr => ⟨ih K, fun _ _ _ e => nomatch e⟩
/-! ### changes from outside -/
theorem Run.unlim {L : List Ky} {n z : Nat} {J : Jg Va} {o : Ot Va} (h : Run Gk comp L n z J o) : (match J with | .br S _ => S.left = none | .rs S _ _ => S.left = none | .lk S _ _ _ => S.left = none | .rn S _ => S.left = none | .ev S _ _ => S.left = none) → o.st.left = none ∧ ∀ S', o ≠ .no S' := by
  induction h with
  | b_in a => exact fun h => ⟨h, fun _ e => nomatch e⟩
  | b_now a b c g => exact fun h => ⟨h, fun _ e => nomatch e⟩
  | b_rs a b c g r ih => exact fun h => ih h
  | r_now a b => exact fun h => ⟨h, fun _ e => nomatch e⟩
  | r_none a r ih => exact fun h => ih h
  | r_old a b r ih => exact fun h => ih h
  | l_nil => exact fun h => ⟨h, fun _ e => nomatch e⟩
  | l_no r ih => exact fun h => absurd rfl ((ih h).2 _)
  | l_chg r a b r2 ih ih2 => exact fun h => ih2 (ih h).1
  | l_go r a b r2 ih ih2 => exact fun h => ih2 (ih h).1
  | n_no a => exact fun h => by rw [show _ = none from h] at a; cases a
  | @n_ok L n z S k S1 v as a gk r ih => exact fun h => ⟨(ih (by show S.left.map _ = none; rw [show S.left = none from h]; rfl)).1, fun _ e => nomatch e⟩
  | @n_fail L n z S k S1 a gk r ih => exact fun h => absurd rfl ((ih (by show S.left.map _ = none; rw [show S.left = none from h]; rfl)).2 _)
  | e_ret => exact fun h => ⟨h, fun _ e => nomatch e⟩
  | e_ask r a _ r2 ih ih2 => exact fun h => ih2 (ih h).1
  | e_no r ih => exact fun h => absurd rfl ((ih h).2 _)
theorem KI.put {I : Nat → Inps} {S : KS Va} (K : KI I S) (j : Int) (v : Va) : ∃ I', KI I' (S.put (kIn j) v) := by
  have en : ∀ k e, del S.en (kIn j) k = some e → S.en k = some e := fun k e h => by
    unfold del at h
    split at h
    · cases h
    · exact h
  have main : (∀ a r, S.inp (kIn j) = some (a, r) → a ≠ v) → ∃ I', KI I' { S with now := S.now + 1, inp := ups S.inp (kIn j) (v, S.now + 1), en := del S.en (kIn j) } := fun hne => by
    refine ⟨fun r => if r = S.now + 1 then fun k => (ups S.inp (kIn j) (v, S.now + 1) k).map (·.1) else I r, ?_⟩
    have old : ∀ c, c ≤ S.now → (if c = S.now + 1 then fun k => (ups S.inp (kIn j) (v, S.now + 1) k).map (·.1) else I c) = I c := fun c h => if_neg (by omega)
    refine ⟨fun k x g h => ?_, fun k x g h => ?_, fun k e h => ?_, fun k e d h hm => ⟨fun ed h2 hle => ?_, fun x g h2 hle => ?_⟩⟩
    · have h : ups S.inp (kIn j) (v, S.now + 1) k = some (x, g) := h
      refine ⟨?_, ?_⟩
      · by_cases c : k = kIn j
        · rw [c, ups_at] at h
          cases h
          exact Nat.le_refl _
        · rw [ups_ne c] at h
          exact Nat.le_succ_of_le (K.inp _ _ _ h).1
      · show (if S.now + 1 = S.now + 1 then fun k => (ups S.inp (kIn j) (v, S.now + 1) k).map (·.1) else I (S.now + 1)) k = some x
        rw [if_pos rfl, h]
        rfl
    · have h : ups S.inp (kIn j) (v, S.now + 1) k = some (x, g) := h
      by_cases c : k = kIn j
      · exact ⟨j, c⟩
      · rw [ups_ne c] at h
        exact K.isI _ _ _ h
    · have h := en k e h
      obtain ⟨a, b, c⟩ := K.ent k e h
      refine ⟨Nat.le_succ_of_le a, b, ?_⟩
      show ∃ l s, k = kNd (Int.ofNat l) s ∧ evT (Nv (if e.c = S.now + 1 then _ else I e.c)) _ _ = _
      rw [old _ a]
      exact c
    · have h := en k e h
      have h2 := en d ed h2
      show Nv (if e.c = S.now + 1 then _ else I e.c) d = ed.v
      rw [old _ (K.ent k e h).1]
      exact (K.dep k e d h hm).1 ed h2 hle
    · have h := en k e h
      have h2 : ups S.inp (kIn j) (v, S.now + 1) d = some (x, g) := h2
      show Nv (if e.c = S.now + 1 then _ else I e.c) d = x
      have hc := (K.ent k e h).1
      rw [old _ hc]
      by_cases c : d = kIn j
      · rw [c, ups_at] at h2
        cases h2
        omega
      · rw [ups_ne c] at h2
        exact (K.dep k e d h hm).2 x g h2 hle
  unfold KS.put
  cases hi : S.inp (kIn j) with
  | none => exact main fun a r h => by rw [hi] at h; cases h
  | some p =>
    obtain ⟨a, r⟩ := p
    show ∃ I', KI I' (if a = v then { S with inp := ups S.inp (kIn j) (v, r), en := del S.en (kIn j) } else { S with now := S.now + 1, inp := ups S.inp (kIn j) (v, S.now + 1), en := del S.en (kIn j) })
    by_cases c : a = v
    · rw [if_pos c]
      subst c
      rw [ups_self hi]
      exact ⟨I, K.inp, K.isI, fun k e h => K.ent k e (en k e h), fun k e d h hm => ⟨fun ed h2 => (K.dep k e d (en k e h) hm).1 ed (en d ed h2), (K.dep k e d (en k e h) hm).2⟩⟩
    · rw [if_neg c]
      exact main fun a' r' h => by rw [hi] at h; cases h; exact c
theorem KI.forget {I : Nat → Inps} {S : KS Va} (K : KI I S) (k0 : Ky) : KI I { S with en := del S.en k0 } := by
  have en : ∀ k e, del S.en k0 k = some e → S.en k = some e := fun k e h => by
    unfold del at h
    split at h
    · cases h
    · exact h
  exact ⟨K.inp, K.isI, fun k e h => K.ent k e (en k e h), fun k e d h hm => ⟨fun ed h2 => (K.dep k e d (en k e h) hm).1 ed (en d ed h2), (K.dep k e d (en k e h) hm).2⟩⟩
theorem KI.left {I : Nat → Inps} {S : KS Va} (K : KI I S) (l : Option Nat) : KI I { S with left := l } := ⟨K.inp, K.isI, K.ent, K.dep⟩
theorem KI.cleared {I : Nat → Inps} {S : KS Va} (K : KI I S) : KI I { S with done := [] } := ⟨K.inp, K.isI, K.ent, K.dep⟩
theorem KI.zero : KI (fun _ _ => none) (KS0 : KS Va) := ⟨fun _ _ _ h => (by cases h), fun _ _ _ h => (by cases h), fun _ _ h => (by cases h), fun _ _ _ h => (by cases h)⟩
theorem put_inp_at {S : KS Va} {k : Ky} {v : Va} : ∃ r, (S.put k v).inp k = some (v, r) := by
  unfold KS.put
  split
  · split
    · exact ⟨_, ups_at⟩
    · exact ⟨_, ups_at⟩
  · exact ⟨_, ups_at⟩
theorem put_inp_ne {S : KS Va} {k k' : Ky} {v : Va} (h : k' ≠ k) : (S.put k v).inp k' = S.inp k' := by
  unfold KS.put
  split
  · split
    · exact ups_ne h
    · exact ups_ne h
  · exact ups_ne h
theorem put_en {S : KS Va} {k k' : Ky} {v : Va} {e : En Va} (h : (S.put k v).en k' = some e) : S.en k' = some e := by
  have en : del S.en k k' = some e → S.en k' = some e := fun h => by
    unfold del at h
    split at h
    · cases h
    · exact h
  unfold KS.put at h
  split at h
  · split at h
    · exact en h
    · exact en h
  · exact en h
theorem put_left {S : KS Va} {k : Ky} {v : Va} : (S.put k v).left = S.left := by
  unfold KS.put
  split
  · split <;> rfl
  · rfl
theorem Ty.put {S : KS Va} (t : Ty S) {j f : Int} (f0 : 0 ≤ f) (f8 : f ≤ 8) : Ty (S.put (kIn j) (.i f)) := by
  refine ⟨fun i h0 h4 => ?_, fun l s => ?_, fun k e h => t.ent k e (put_en h)⟩
  · by_cases c : i = j
    · subst c
      obtain ⟨r, h⟩ := put_inp_at (S := S) (k := kIn i) (v := .i f)
      exact ⟨f, r, h, f0, f8⟩
    · rw [put_inp_ne (fun z => c (kIn_inj z))]
      exact t.inn i h0 h4
  · rw [put_inp_ne kIn_ne.symm]
    exact t.ind l s
theorem Ty.forget {S : KS Va} (t : Ty S) (k0 : Ky) : Ty { S with en := del S.en k0 } := ⟨t.inn, t.ind, fun k e h => t.ent k e (by
  have h : del S.en k0 k = some e := h
  unfold del at h
  split at h
  · cases h
  · exact h)⟩
theorem Ty.left {S : KS Va} (t : Ty S) (l : Option Nat) : Ty { S with left := l } := ⟨t.inn, t.ind, t.ent⟩
theorem Ty.cleared {S : KS Va} (t : Ty S) : Ty { S with done := [] } := ⟨t.inn, t.ind, t.ent⟩

end Sn

namespace Sn
open PySem PySem.Spec PyProof.Rows L2 TL
/-! ### the law's calls -/
def spKey : Sp := fun vs H Q _ => ∃ t c, vs = [.ref t] ∧ Tp H t c ∧ ∀ (l : Nat) (s : Int) (b : Addr) H', l < 4 → 0 ≤ s → s < 6 → But t H H' → Tp H' t c → isK H' b (kNd (l : Int) s) → Q (.ref b) H'
structure LS (CK CR aF t c o d : Addr) (A : KAd) (m ni : Nat) (H : Hp) (S : KS Va) (rn : Ky → Option Addr) (kvs : List (List L2.Key × V)) : Prop where
  tp : Tp H t c
  kh : Kh vxx CK CR aF H o A S rn [] .non m ni
  hd : H d = some (.dT kvs)
  n1 : d ≠ A.i
  n2 : d ≠ A.e
  n3 : d ≠ A.r
  cl : c ≠ A.l
  len : kvs.length ≤ ni
  ki : ∃ I, KI I S
/-- what the law keeps of the inputs -/
def Con (D : Int → Prop) (kvs : List (List L2.Key × V)) (S : KS Va) : Prop := ∀ j, D j → ∃ f r, S.inp (kIn j) = some (.i f, r) ∧ 0 ≤ f ∧ f ≤ 8 ∧ valV kvs (kIn j) = some (.int f)
def Kin (kvs : List (List L2.Key × V)) : Prop := ∀ p ∈ kvs, ∃ j : Int, p.1 = kIn j ∧ 0 ≤ j ∧ j < 4
theorem Con.put {D : Int → Prop} {kvs : List (List L2.Key × V)} {S : KS Va} (h : Con D kvs S) {j f : Int} (f0 : 0 ≤ f) (f8 : f ≤ 8) : Con (fun i => D i ∨ i = j) (putK kvs (kIn j) (.int f)) (S.put (kIn j) (.i f)) := by
  intro i hi
  by_cases c : i = j
  · subst c
    obtain ⟨r, e⟩ := put_inp_at (S := S) (k := kIn i) (v := .i f)
    exact ⟨f, r, e, f0, f8, by rw [valV_put, if_pos rfl]⟩
  · obtain ⟨g, r, a, b, e, v⟩ := h i (hi.resolve_right c)
    have ne : kIn i ≠ kIn j := fun z => c (kIn_inj z)
    exact ⟨g, r, by rw [put_inp_ne ne]; exact a, b, e, by rw [valV_put, if_neg ne]; exact v⟩
theorem Con.of {D : Int → Prop} {kvs : List (List L2.Key × V)} {S S' : KS Va} (h : Con D kvs S) (e : S'.inp = S.inp) : Con D kvs S' := fun i hi => by
  rw [e]
  exact h i hi
theorem putK_mem {kvs : List (List L2.Key × V)} {k : Ky} {v : V} {p : List L2.Key × V} (h : p ∈ putK kvs k v) : (∃ q ∈ kvs, q.1 = p.1) ∨ p.1 = k := by
  have h : p.1 ∈ (putK kvs k v).map (·.1) := List.mem_map.mpr ⟨p, h, rfl⟩
  rw [map_putK] at h
  rcases addK_mem h with h | h
  · obtain ⟨q, hq, e⟩ := List.mem_map.mp h
    exact .inl ⟨q, hq, e⟩
  · exact .inr h
theorem Kin.put {kvs : List (List L2.Key × V)} (h : Kin kvs) {j : Int} {v : V} (h0 : 0 ≤ j) (h4 : j < 4) : Kin (putK kvs (kIn j) v) := fun p hp => by
  rcases putK_mem hp with ⟨q, hq, e⟩ | e
  · obtain ⟨i, a, b⟩ := h q hq
    exact ⟨i, e.symm.trans a, b⟩
  · exact ⟨j, e, h0, h4⟩
section
variable {CK CR aF t c o d : Addr} {A : KAd} {m ni : Nat} {H H' : Hp} {S S' : KS Va} {rn rn' : Ky → Option Addr} {kvs : List (List L2.Key × V)}
theorem LS.take (L : LS CK CR aF t c o d A m ni H S rn kvs) (b : But t H H') (T : Tp H' t c) : LS CK CR aF t c o d A m ni H' S rn kvs := by
  refine ⟨T, L.kh.keep fun x u e hb => b x u (L.tp.ne e fun k z => ?_) e, b _ _ (L.tp.ne L.hd fun _ z => nomatch z) L.hd, L.n1, L.n2, L.n3, L.cl, L.len, L.ki⟩
  subst z
  rcases hb with hb | hb
  · obtain ⟨_, w, _⟩ := L.kh.ended
    rw [hb, w] at e
    cases e
  · exact hb
theorem LS.same (L : LS CK CR aF t c o d A m ni H S rn kvs) (s : Same H H') : LS CK CR aF t c o d A m ni H' S rn kvs :=
  ⟨L.tp.same s, L.kh.same s, s _ _ L.hd, L.n1, L.n2, L.n3, L.cl, L.len, L.ki⟩
theorem LS.frm (L : LS CK CR aF t c o d A m ni H S rn kvs) (f : ∀ b u, H b = some u → b ≠ o → b ≠ A.i → b ≠ A.e → b ≠ A.r → b ≠ A.l → H' b = some u) : Tp H' t c ∧ H' d = some (.dT kvs) := by
  obtain ⟨_, eo⟩ := L.kh.raw
  obtain ⟨_, er, _⟩ := L.kh.run
  obtain ⟨_, el, _⟩ := L.kh.ended
  obtain ⟨_, ee, _⟩ := L.kh.ent
  obtain ⟨_, ei, _⟩ := L.kh.inp
  have ne : ∀ {a b u v}, H a = some u → H b = some v → u ≠ v → a ≠ b := fun x y z w => by
    rw [w, y] at x
    injection x with x
    exact z x.symm
  have dk : ∀ {b k}, H b = some (.dK k) → H' b = some (.dK k) := fun x => f _ _ x (ne x eo fun z => nomatch z) (ne x ei fun z => nomatch z) (ne x ee fun z => nomatch z) (ne x er fun z => nomatch z) (ne x el fun z => nomatch z)
  obtain ⟨cs, a, l, se, sa, z⟩ := L.tp
  exact ⟨⟨cs, a, l, se, sa, dk z.d, f _ _ z.cl (ne z.cl eo fun z => nomatch z) (ne z.cl ei fun z => nomatch z) (ne z.cl ee fun z => nomatch z) (ne z.cl er fun z => nomatch z) L.cl, z.cp, z.a0, z.l0, z.s0, z.s1⟩, f _ _ L.hd (ne L.hd eo fun z => nomatch z) L.n1 L.n2 L.n3 (ne L.hd el fun z => nomatch z)⟩
/-- the dict of the inputs changes -/
theorem LS.dput (L : LS CK CR aF t c o d A m ni H S rn kvs) {k2 : List (List L2.Key × V)} (h : k2.length ≤ ni + 1) : LS CK CR aF t c o d A m (ni + 1) (upd H d (.dT k2)) S rn k2 := by
  refine ⟨?_, (L.kh.other L.hd L.n1 L.n2 L.n3).wider (Nat.le_succ _), upd_same, L.n1, L.n2, L.n3, L.cl, h, L.ki⟩
  obtain ⟨cs, a, l, se, sa, z⟩ := L.tp
  exact ⟨cs, a, l, se, sa, upd_st L.hd z.d (fun _ z => nomatch z), upd_st L.hd z.cl (fun _ z => nomatch z), z.cp, z.a0, z.l0, z.s0, z.s1⟩
end
/-- what one call of the law needs and gives -/
def spCall (CK CR aF : Addr) : Sp := fun vs H Q _ => ∃ t c o d A m ni S rn kvs, vs = [.ref t, .ref o, .ref d] ∧ LS CK CR aF t c o d A m ni H S rn kvs ∧ Ty S ∧ Con (fun j => 0 ≤ j ∧ j < 4) kvs S ∧ Kin kvs ∧ m ≤ 14000000 ∧ ni < 1000 ∧
  ∀ H' S' rn' kvs', LS CK CR aF t c o d A (m + 30000) (ni + 2) H' S' rn' kvs' → Ty S' → Con (fun j => 0 ≤ j ∧ j < 4) kvs' S' → Kin kvs' → Q .non H'
theorem LS.more {CK CR aF t c o d : Addr} {A : KAd} {m ni m' ni' : Nat} {H : Hp} {S : KS Va} {rn : Ky → Option Addr} {kvs : List (List L2.Key × V)} (L : LS CK CR aF t c o d A m ni H S rn kvs) (h1 : m ≤ m') (h2 : ni ≤ ni') : LS CK CR aF t c o d A m' ni' H S rn kvs :=
  ⟨L.tp, (L.kh.more h1).wider h2, L.hd, L.n1, L.n2, L.n3, L.cl, Nat.le_trans L.len h2, L.ki⟩
section
variable {P : Program} {w : World} {K : PySem.W.Frag} {mg : Str → Option Value} {base : Heap} {f : Addr} {fd : FuncData} {CK CR CC aF : Addr}
abbrev s_l_key : Stmt := topS 15
abbrev N_l_key : List Str := ["tape"]
theorem sc_l_key : FnScope N_l_key ["tape"] (defScope s_l_key) := ⟨rfl, rfl, rfl, by decide +kernel, rfl, by decide +kernel, by decide +kernel⟩
theorem ok_l_key (F : Fun K "_law_key" "_law_key" s_l_key f fd) (T : NmK K mg aF CK CR CC) (C_law_take : Cal P w K mg base CX0 1 "_law_take" spTake) : FnOk P w K mg base CX0 2 f fd ["tape"] spKey := by
  refine F.ok sc_l_key (fun vs H Q E h => ?_) (fun cdv A outer s H vs Q E hr h => ?_)
  · obtain ⟨t, c, rfl, _⟩ := h
    rfl
  obtain ⟨t, c, rfl, tp, q⟩ := h
  refine ⟨_, (pss_one (ps_ret (pe_tup (pa_cons pe_str (pa_cons (pe_c C_law_take hr (by first | decide | omega) pass0 (pa_cons (pv 0) (pa_cons pe_int pa_nil))) (pa_cons (pe_c C_law_take hr (by first | decide | omega) pass0 (pa_cons (pv 0) (pa_cons pe_int pa_nil))) pa_nil)))))), ?_⟩
  refine ⟨_, rfl, t, c, 4, rfl, tp, by decide, by decide, fun r1 H1 r10 r11 b1 T1 => ?_⟩
  refine ⟨_, rfl, t, c, 6, rfl, T1, by decide, by decide, fun r2 H2 r20 r21 b2 T2 => ?_⟩
  refine ⟨by show 3 ≤ sizeLine; decide, fun p np => ?_⟩
  have e : r1 = ((r1.toNat : Nat) : Int) := (Int.toNat_of_nonneg r10).symm
  refine q r1.toNat r2 p _ (by omega) r20 r21 (b1.trans (b2.trans (But.of (same_new np)))) (T2.new np) ?_
  show upd H2 p _ p = _
  rw [upd_same, e]
  rfl
abbrev s_l_call : Stmt := topS 16
abbrev N_l_call : List Str := ["tape", "keeper", "inputs", "choice", "key"]
theorem sc_l_call : FnScope N_l_call ["tape", "keeper", "inputs"] (defScope s_l_call) := ⟨rfl, rfl, rfl, by decide +kernel, rfl, by decide +kernel, by decide +kernel⟩
theorem ok_l_call (F : Fun K "_law_call" "_law_call" s_l_call f fd) (T : NmK K mg aF CK CR CC) (C_law_take : Cal P w K mg base CX0 1 "_law_take" spTake) (C_law_key : Cal P w K mg base CX0 2 "_law_key" spKey) (C_Keeper_put : CalM P w K mg base CX0 1 CK "put" (spPut vxx CK CR aF)) (C_Keeper_limit : CalM P w K mg base CX0 1 CK "limit" (spLim vxx CK CR aF)) (C_Keeper_forget : CalM P w K mg base CX0 1 CK "forget" (spFor vxx CK CR aF))
    (C_Keeper_ask : CalM P w K mg base (L2.CX P w) 13 CK "ask" (spAsk vxx Gk comp CK CR CC aF 5)) : FnOk P w K mg base CX0 14 f fd ["tape", "keeper", "inputs"] (spCall CK CR aF) := by
  refine F.ok sc_l_call (fun vs H Q E h => ?_) (fun cdv A' outer s H vs Q E hr h => ?_)
  · obtain ⟨t, c, o, d, A, m, ni, S, rn, kvs, rfl, _⟩ := h
    rfl
  obtain ⟨t, c, o, d, A, m, ni, S, rn, kvs, rfl, L0, ty, con, kin, hm, hni, q⟩ := h
  refine ⟨_, (pss_cons (ps_set (i := 3) sc_l_call.nd rfl (Or.inl rfl) (pe_c C_law_take hr (by first | decide | omega) pass0 (pa_cons (pv 0) (pa_cons pe_int pa_nil))))
    (pss_cons (ps_set (i := 4) sc_l_call.nd rfl (Or.inl rfl) (pe_tup (pa_cons pe_str (pa_cons (pe_c C_law_take hr (by first | decide | omega) pass0 (pa_cons (pv 0) (pa_cons pe_int pa_nil))) pa_nil))))
    (pss_one (ps_if (pt_cmpR op_lt (pv 3) pe_int (nomark _)) (pss_cons (ps_dput (hu_of hr) (pv 2) (pv 4) (pe_c C_law_take hr (by first | decide | omega) pass0 (pa_cons (pv 0) (pa_cons pe_int pa_nil))) rfl)
    (pss_one (ps_expr (pe_m ns_Keeper C_Keeper_put T.cl_Keeper (by decide) hr (by first | decide | omega) pass0 (pv 1) (pa_cons (pv 4) (pa_cons (pe_dget (hu_of hr) (pv 2) (pv 4) (fun _ _ => rfl)) pa_nil)))))) (pss_one (ps_if (pt_cmpR op_eq (pv 3) pe_int (nomark _)) (pss_one (ps_expr (pe_m ns_Keeper C_Keeper_forget T.cl_Keeper (by decide) hr (by first | decide | omega) pass0 (pv 1) (pa_cons (pe_c C_law_key hr (by first | decide | omega) pass0 (pa_cons (pv 0) pa_nil)) pa_nil)))) (pss_cons (ps_expr (pe_m ns_Keeper C_Keeper_limit T.cl_Keeper (by decide) hr (by first | decide | omega) pass0 (pv 1) (pa_cons (pe_ifExp (pt_cmpR op_lt (pv 3) pe_int (nomark _)) (pe_c C_law_take hr (by first | decide | omega) pass0 (pa_cons (pv 0) (pa_cons pe_int pa_nil))) pe_non) pa_nil)))
    (pss_one (ps_try_only rfl rfl ⟨rfl, by decide, .inl T.c_Cancelled⟩ takes0 (fun W pn xe tk _ => (pss_one (ps_expr (pe_mS ns_Keeper C_Keeper_ask T.cl_Keeper (by decide) hr (by first | decide | omega) (fun σ => passAt tk σ) (pv 1) (pa_cons (pe_c C_law_key hr (by first | decide | omega) pass0 (pa_cons (pv 0) pa_nil)) pa_nil))))) (fun a oe cls d pn _ _ => (pss_one ps_retN))))))))))), ?_⟩
  refine ⟨_, rfl, t, c, 8, rfl, L0.tp, by decide, by decide, fun r1 H1 r10 r11 b1 T1 => ?_⟩
  have L1 := L0.take b1 T1
  refine ⟨_, rfl, t, c, 4, rfl, T1, by decide, by decide, fun j H2 j0 j4 b2 T2 => ?_⟩
  have L2 := L1.take b2 T2
  refine ⟨by show 2 ≤ sizeLine; decide, fun kb nkb => ?_⟩
  have s3 := same_new (o := .tup [.str "in", .int j]) nkb
  have L3 := L2.same s3
  have hkb : isK (upd H2 kb (.tup [.str "in", .int j])) kb (kIn j) := upd_same
  generalize upd H2 kb (.tup [.str "in", .int j]) = H3 at s3 L3 hkb ⊢
  refine ⟨_, rfl, _, _, rfl, rfl, _, rfl, ?_⟩
  refine ite2 (fun _ => ?_) (fun _ => ?_)
  · -- an input is put
    refine ⟨_, rfl, t, c, 9, rfl, L3.tp, by decide, by decide, fun v H4 v0 v9 b4 T4 => ?_⟩
    have L4 := L3.take b4 T4
    have hkb4 : isK H4 kb (kIn j) := b4 _ _ (L3.tp.ne hkb fun _ z => nomatch z) hkb
    have hlen : kvs.length < sizeLine := Nat.lt_of_le_of_lt L4.len (by show ni < 16777216; omega)
    refine ⟨_, rfl, _, rfl, d, _, rfl, DPut.t L4.hd hkb4 hlen, ?_⟩
    have L5 := L4.dput (k2 := putK kvs (kIn j) (.int v)) (by have := length_putK kvs (kIn j) (V.int v); have := L4.len; omega)
    have hkb5 : isK (upd H4 d (.dT (putK kvs (kIn j) (.int v)))) kb (kIn j) := upd_ft L4.hd _ _ hkb4
    generalize upd H4 d (.dT (putK kvs (kIn j) (.int v))) = H5 at L5 hkb5 ⊢
    have dg : DGet H5 d (.ref kb) (some (.int v)) := by
      have e : valV (putK kvs (kIn j) (.int v)) (kIn j) = some (.int v) := by rw [valV_put, if_pos rfl]
      rw [← e]
      exact DGet.t L5.hd hkb5
    refine ⟨_, rfl, o, rfl, L5.kh.raw.isI, _, rfl, _, rfl, _, rfl, d, _, rfl, dg, o, kb, A, S, rn, [], .non, m, ni + 1, _, _, .i v, rfl, L5.kh, hkb5, rfl, by omega, fun H6 fr6 kh6 => ?_⟩
    obtain ⟨T6, hd6⟩ := L5.frm (H' := H6) fun b u e y1 y2 y3 _ _ => fr6 b u e y1 y2 y3
    obtain ⟨I, hI⟩ := L5.ki
    exact q H6 _ rn _ ((⟨T6, kh6, hd6, L5.n1, L5.n2, L5.n3, L5.cl, by have := L5.len; omega, hI.put j (.i v)⟩ : LS CK CR aF t c o d A m (ni + 1 + 1) H6 _ rn _).more (by omega) (by omega)) (ty.put v0 (by omega)) (fun i hi => (con.put v0 (by omega)) i (.inl hi)) (kin.put j0 j4)
  refine ⟨_, rfl, rfl, _, rfl, ?_⟩
  refine ite2 (fun _ => ?_) (fun _ => ?_)
  · -- an entry is forgotten
    refine ⟨_, rfl, o, rfl, L3.kh.raw.isI, _, rfl, t, c, rfl, L3.tp, fun l s b H4 l4 s0 s6 b4 T4 hb4 => ?_⟩
    have L4 := L3.take b4 T4
    refine ⟨o, b, A, S, rn, [], .non, m, ni, _, rfl, L4.kh, hb4, fun H5 b5 kh5 => ?_⟩
    obtain ⟨T5, hd5⟩ := L4.frm (H' := H5) fun b u e y1 y2 y3 y4 y5 => b5 b u y3 e
    obtain ⟨I, hI⟩ := L4.ki
    exact q H5 _ rn _ ((⟨T5, kh5, hd5, L4.n1, L4.n2, L4.n3, L4.cl, L4.len, I, hI.forget _⟩ : LS CK CR aF t c o d A m ni H5 _ rn _).more (by omega) (by omega)) (ty.forget _) (con.of rfl) kin
  -- a question
  refine ⟨_, rfl, o, rfl, L3.kh.raw.isI, _, rfl, _, _, rfl, rfl, _, rfl, ?_⟩
  have ask : ∀ {H5 : Hp} {l : Option Nat} {l5 : Nat} {s5 : Int} {b5 : Addr} {Q' : V → Hp → Prop} {E' : XK}, LS CK CR aF t c o d A m ni H5 { S with left := l } rn kvs → l5 < 4 → 0 ≤ s5 → s5 < 6 → isK H5 b5 (kNd (l5 : Int) s5) →
      (∀ v H' S' rn', LS CK CR aF t c o d A (m + 30000) (ni + 2) H' S' rn' kvs → Ty S' → Con (fun j => 0 ≤ j ∧ j < 4) kvs S' → Q' v H') → (∀ H' S' rn', LS CK CR aF t c o d A (m + 30000) (ni + 2) H' S' rn' kvs → Ty S' → Con (fun j => 0 ≤ j ∧ j < 4) kvs S' → E' (.ref CC) none H') → spAsk vxx Gk comp CK CR CC aF 5 [.ref o, .ref b5] H5 Q' E' := by
    intro H5 l l5 s5 b5 Q' E' L5 hl s0 s6 hb q1 q2
    obtain ⟨z, out, run, hz, ty2, nv⟩ := can_nd l5 5 [] s5 hl (by omega) s0 s6 (fun _ _ h => absurd h (by simp)) _ (ty.left l)
    have hz2 : z ≤ 5180 := Nat.le_trans hz (by
      have : l5 = 0 ∨ l5 = 1 ∨ l5 = 2 ∨ l5 = 3 := by omega
      rcases this with rfl | rfl | rfl | rfl <;> decide)
    obtain ⟨I, hI⟩ := L5.ki
    have kI := run.fresh (I := I) hI
    have lat := run.post.1
    have fin : ∀ (S2 : KS Va) (H6 : Hp) (rn6 : Ky → Option Addr), out.st = S2 → Fr o A .non H5 H6 → Kh vxx CK CR aF H6 o A S2 rn6 [] .non (m + 4 * z + 8) ni → LS CK CR aF t c o d A (m + 30000) (ni + 2) H6 S2 rn6 kvs ∧ Ty S2 ∧ Con (fun j => 0 ≤ j ∧ j < 4) kvs S2 := fun S2 H6 rn6 e fr kh => by
      subst e
      obtain ⟨T6, hd6⟩ := L5.frm (H' := H6) fun b u e y1 y2 y3 y4 y5 => fr b u e y1 y3 y4 y5 fun z => nomatch z
      exact ⟨(⟨T6, kh, hd6, L5.n1, L5.n2, L5.n3, L5.cl, L5.len, I, kI⟩ : LS CK CR aF t c o d A (m + 4 * z + 8) ni H6 out.st rn6 kvs).more (by omega) (by omega), ty2, con.of lat.inp⟩
    refine ⟨o, b5, A, _, rn, [], [], .non, m, ni, _, z, out, rfl, ⟨L5.kh, List.nodup_nil, fun x => Iff.rfl, fun x hx => absurd hx (by simp), .inl rfl, by omega⟩, hb, run, fun S2 a e ha H6 rn6 fr6 kh6 _ _ v _ => ?_, fun S2 e H6 rn6 fr6 kh6 _ => ?_⟩
    · obtain ⟨x1, x2, x3⟩ := fin S2 H6 rn6 (by rw [e]; rfl) fr6 kh6
      exact q1 v H6 S2 rn6 x1 x2 x3
    · obtain ⟨x1, x2, x3⟩ := fin S2 H6 rn6 (by rw [e]; rfl) fr6 kh6
      exact q2 H6 S2 rn6 x1 x2 x3
  have lim : ∀ {H4 H5 : Hp} {l : Option Nat}, LS CK CR aF t c o d A m ni H4 S rn kvs → But o H4 H5 → Kh vxx CK CR aF H5 o A { S with left := l } rn [] .non m ni → LS CK CR aF t c o d A m ni H5 { S with left := l } rn kvs := fun {H4 H5 l} L b kh => by
    obtain ⟨T5, hd5⟩ := L.frm (H' := H5) fun x u e y1 y2 y3 y4 y5 => b x u y1 e
    obtain ⟨I, hI⟩ := L.ki
    exact ⟨T5, kh, hd5, L.n1, L.n2, L.n3, L.cl, L.len, I, hI.left l⟩
  refine ite2 (fun _ => ?_) (fun _ => ?_)
  · refine ⟨_, rfl, t, c, 7, rfl, L3.tp, by decide, by decide, fun r7 H4 r70 r71 b4 T4 => ?_⟩
    obtain ⟨n7, rfl⟩ : ∃ n7 : Nat, r7 = (n7 : Int) := ⟨r7.toNat, by omega⟩
    have L4 := L3.take b4 T4
    refine ⟨o, A, S, rn, [], .non, m, ni, some n7, rfl, L4.kh, fun H5 b5 kh5 => ?_⟩
    have L5 := lim L4 b5 kh5
    refine ⟨_, rfl, o, rfl, L5.kh.raw.isI, _, rfl, t, c, rfl, L5.tp, fun l s b H6 l4 s0 s6 b6 T6 hb6 => ?_⟩
    refine ask (L5.take b6 T6) l4 s0 s6 hb6 (fun v H' S' rn' L ty con => ?_) (fun H' S' rn' L ty con => ?_)
    · exact q H' S' rn' kvs L ty con kin
    · exact ⟨true, T.te, fun _ ax hax => q H' S' rn' kvs L ty con kin, fun q => nomatch q⟩
  · refine ⟨o, A, S, rn, [], .non, m, ni, none, rfl, L3.kh, fun H5 b5 kh5 => ?_⟩
    have L5 := lim L3 b5 kh5
    refine ⟨_, rfl, o, rfl, L5.kh.raw.isI, _, rfl, t, c, rfl, L5.tp, fun l s b H6 l4 s0 s6 b6 T6 hb6 => ?_⟩
    refine ask (L5.take b6 T6) l4 s0 s6 hb6 (fun v H' S' rn' L ty con => ?_) (fun H' S' rn' L ty con => ?_)
    · exact q H' S' rn' kvs L ty con kin
    · exact ⟨true, T.te, fun _ ax hax => q H' S' rn' kvs L ty con kin, fun q => nomatch q⟩
end

end Sn

namespace Sn
open PySem PySem.Spec PyProof.Rows L2 TL
/-! ### two keepers -/
structure Sep (o : Addr) (A : KAd) (o2 : Addr) (A2 : KAd) : Prop where
  oo : o ≠ o2
  ii : A.i ≠ A2.i
  ie : A.i ≠ A2.e
  ir : A.i ≠ A2.r
  ei : A.e ≠ A2.i
  ee : A.e ≠ A2.e
  er : A.e ≠ A2.r
  ri : A.r ≠ A2.i
  re : A.r ≠ A2.e
  rr : A.r ≠ A2.r
  ll : A.l ≠ A2.l
theorem Sep.symm {o : Addr} {A : KAd} {o2 : Addr} {A2 : KAd} (s : Sep o A o2 A2) : Sep o2 A2 o A :=
  ⟨s.oo.symm, s.ii.symm, s.ei.symm, s.ri.symm, s.ie.symm, s.ee.symm, s.re.symm, s.ir.symm, s.er.symm, s.rr.symm, s.ll.symm⟩
section
variable {α : Type} [DecidableEq α] {Vx : Vl α}
variable {CK CR aF : Addr} {H H' : Hp} {o o2 : Addr} {A A2 : KAd} {S S2 : KS α} {rn rn2 : Ky → Option Addr} {lv lv2 : List Ky} {av av2 : V} {m ni m2 ni2 : Nat}
def Frm (o : Addr) (A : KAd) (H H' : Hp) : Prop := ∀ b u, H b = some u → b ≠ o → b ≠ A.i → b ≠ A.e → b ≠ A.r → b ≠ A.l → H' b = some u
theorem Kh.away (kh : Kh Vx CK CR aF H o A S rn lv av m ni) (f : Frm o A H H') : FT H H' ∧ (∀ b kvs, H b = some (.dT kvs) → b ≠ A.i → b ≠ A.e → b ≠ A.r → H' b = some (.dT kvs)) ∧ (∀ b vs, H b = some (.lst vs) → b ≠ A.l → H' b = some (.lst vs)) ∧ (∀ b C dx fs, H b = some (.ins C dx fs) → b ≠ o → H' b = some (.ins C dx fs)) ∧ (∀ b kvs, H b = some (.dK kvs) → H' b = some (.dK kvs)) ∧ ∀ b u v, H b = some (.frz u v) → H' b = some (.frz u v) := by
  obtain ⟨_, eo⟩ := kh.raw
  obtain ⟨_, er, _⟩ := kh.run
  obtain ⟨_, el, _⟩ := kh.ended
  obtain ⟨_, ee, _⟩ := kh.ent
  obtain ⟨_, ei, _⟩ := kh.inp
  have ne : ∀ {a b u v}, H a = some u → H b = some v → u ≠ v → a ≠ b := fun x y z w => by
    rw [w, y] at x
    injection x with x
    exact z x.symm
  refine ⟨fun b xs x => ?_, fun b kvs x n1 n2 n3 => ?_, fun b vs x n => ?_, fun b C dx fs x n => ?_, fun b kvs x => ?_, fun b u v x => ?_⟩
  · exact f _ _ x (ne x eo fun z => nomatch z) (ne x ei fun z => nomatch z) (ne x ee fun z => nomatch z) (ne x er fun z => nomatch z) (ne x el fun z => nomatch z)
  · exact f _ _ x (ne x eo fun z => nomatch z) n1 n2 n3 (ne x el fun z => nomatch z)
  · exact f _ _ x (ne x eo fun z => nomatch z) (ne x ei fun z => nomatch z) (ne x ee fun z => nomatch z) (ne x er fun z => nomatch z) n
  · exact f _ _ x n (ne x ei fun z => nomatch z) (ne x ee fun z => nomatch z) (ne x er fun z => nomatch z) (ne x el fun z => nomatch z)
  · exact f _ _ x (ne x eo fun z => nomatch z) (ne x ei fun z => nomatch z) (ne x ee fun z => nomatch z) (ne x er fun z => nomatch z) (ne x el fun z => nomatch z)
  · exact f _ _ x (ne x eo fun z => nomatch z) (ne x ei fun z => nomatch z) (ne x ee fun z => nomatch z) (ne x er fun z => nomatch z) (ne x el fun z => nomatch z)
theorem Kh.apart (kh : Kh Vx CK CR aF H o A S rn lv av m ni) (k2 : Kh Vx CK CR aF H o2 A2 S2 rn2 lv2 av2 m2 ni2) (s : Sep o A o2 A2) (f : Frm o A H H') : Kh Vx CK CR aF H' o2 A2 S2 rn2 lv2 av2 m2 ni2 := by
  obtain ⟨ft, fd, fl, fi, _, _⟩ := kh.away f
  obtain ⟨dx, e⟩ := k2.raw
  obtain ⟨_, eo⟩ := kh.raw
  refine ⟨⟨dx, fi _ _ _ _ e s.oo.symm⟩, k2.inp.keep ft fun _ e => fd _ _ e s.ii.symm s.ei.symm s.ri.symm, k2.ent.keep ft (fun _ e => fd _ _ e s.ie.symm s.ee.symm s.re.symm) (Nat.le_refl _), k2.run.keep (fun _ e => fd _ _ e s.ir.symm s.er.symm s.rr.symm) (Nat.le_refl _), k2.live.keep (fun p dx fs e => fi _ _ _ _ e fun z => ?_), k2.ended.keep ft (fun _ e => fl _ _ e s.ll.symm) (Nat.le_refl _), k2.d1, k2.d2, k2.d3, k2.ck⟩
  rw [z, eo] at e
  injection e with e
  injection e with e
  exact k2.ck e
theorem Kh.tp {t c : Addr} (kh : Kh Vx CK CR aF H o A S rn lv av m ni) (f : Frm o A H H') (T : Tp H t c) (n : c ≠ A.l) : Tp H' t c := by
  obtain ⟨_, _, fl, _, fk, _⟩ := kh.away f
  obtain ⟨cs, a, l, se, sa, z⟩ := T
  exact ⟨cs, a, l, se, sa, fk _ _ z.d, fl _ _ z.cl n, z.cp, z.a0, z.l0, z.s0, z.s1⟩
theorem Kh.but {t c : Addr} (kh : Kh Vx CK CR aF H o A S rn lv av m ni) (T : Tp H t c) (b : But t H H') : Kh Vx CK CR aF H' o A S rn lv av m ni := by
  refine kh.keep fun x u e hb => b x u (T.ne e fun k z => ?_) e
  subst z
  rcases hb with hb | hb
  · obtain ⟨_, w, _⟩ := kh.ended
    rw [hb, w] at e
    cases e
  · exact hb
/-- a dict of the law's own changes, or is locked -/
theorem Kh.own {d : Addr} {kvs : List (List L2.Key × V)} {u : HO} (h : Kh Vx CK CR aF H o A S rn lv av m ni) (hd : H d = some (.dT kvs)) (n1 : d ≠ A.i) (n2 : d ≠ A.e) (n3 : d ≠ A.r) : Kh Vx CK CR aF (upd H d u) o A S rn lv av m ni := by
  have st : ∀ {b v}, H b = some v → (∀ kvs, v ≠ .dT kvs) → upd H d u b = some v := fun e n => by
    rw [upd_ne (Kob.ne hd e n)]
    exact e
  have ft : FT H (upd H d u) := fun _ _ e => st e fun _ z => nomatch z
  have fd : ∀ {d' : Addr}, d' ≠ d → ∀ kvs, H d' = some (.dT kvs) → upd H d u d' = some (.dT kvs) := fun n kvs e => by
    rw [upd_ne n]
    exact e
  obtain ⟨dx, a⟩ := h.raw
  exact ⟨⟨dx, st a fun _ z => nomatch z⟩, h.inp.keep ft (fd n1.symm), h.ent.keep ft (fd n2.symm) (Nat.le_refl _), h.run.keep (fd n3.symm) (Nat.le_refl _), h.live.keep (fun _ _ _ e => st e fun _ z => nomatch z), h.ended.keep ft (fun _ e => st e fun _ z => nomatch z) (Nat.le_refl _), h.d1, h.d2, h.d3, h.ck⟩
theorem Kh.unown {d : Addr} {od : Obj} {v u : HO} (h : Kh Vx CK CR aF H o A S rn lv av m ni) (hd : H d = some (.frz od v)) : Kh Vx CK CR aF (upd H d u) o A S rn lv av m ni := by
  refine h.keep fun b w e hb => ?_
  rw [upd_ne fun z => ?_]
  · exact e
  · subst z
    rw [hd] at e
    cases e
    rcases hb with hb | hb
    · obtain ⟨_, w, _⟩ := h.ended
      rw [← hb, hd] at w
      cases w
    · exact hb
theorem Frm.of (s : Same H H') : Frm o A H H' := fun b u e _ _ _ _ _ => s b u e
theorem Fr.frm (f : Fr o A .non H H') : Frm o A H H' := fun b u e n1 _ n3 n4 n5 => f b u e n1 n3 n4 n5 fun z => nomatch z
end
/-! ### one question without a limit -/
theorem ask_ok {CK CR CC aF : Addr} {I : Nat → Inps} {H : Hp} {o : Addr} {A : KAd} {S : KS Va} {rn : Ky → Option Addr} {m ni l5 : Nat} {s5 : Int} {b5 : Addr} {Q : V → Hp → Prop} {E : XK} (kh : Kh vxx CK CR aF H o A S rn [] .non m ni) (ty : Ty S) (hI : KI I S) (hlf : S.left = none) (l4 : l5 < 4) (s0 : 0 ≤ s5) (s6 : s5 < 6) (hb : isK H b5 (kNd (l5 : Int) s5)) (hm : m ≤ 14000000)
    (q : ∀ H' S' rn' a b p, Frm o A H H' → Kh vxx CK CR aF H' o A S' rn' [] .non (m + 30000) ni → Ty S' → KI I S' → S'.left = none → S'.inp = S.inp → Rdy S' (kNd (l5 : Int) s5) → H' p = some (.tup [.int a, .int b]) → Nv (I S'.now) (kNd (l5 : Int) s5) = .p a b → (Rdy S (kNd (l5 : Int) s5) → S' = S) → Q (.ref p) H') : spAsk vxx Gk comp CK CR CC aF 5 [.ref o, .ref b5] H Q E := by
  obtain ⟨z, out, run, hz, ty2, nv⟩ := can_nd l5 5 [] s5 l4 (by omega) s0 s6 (fun _ _ h => absurd h (by simp)) _ ty
  have hz2 : z ≤ 5180 := Nat.le_trans hz (by
    have : l5 = 0 ∨ l5 = 1 ∨ l5 = 2 ∨ l5 = 3 := by omega
    rcases this with rfl | rfl | rfl | rfl <;> decide)
  have kI := run.fresh (I := I) hI
  have lat := run.post.1
  obtain ⟨hl2, nno⟩ := run.unlim hlf
  refine ⟨o, b5, A, _, rn, [], [], .non, m, ni, _, z, out, rfl, ⟨kh, List.nodup_nil, fun x => Iff.rfl, fun x hx => absurd hx (by simp), .inl rfl, by omega⟩, hb, run, fun S2 a e ha H6 rn6 fr6 kh6 _ _ v hv => ?_, fun S2 e => absurd e (nno S2)⟩
  subst e
  have rdy := run.post.2.1 S2 rfl
  have kI : KI I S2 := kI
  have val := kI.val rdy ha
  obtain ⟨v', hv', ⟨x, y, e, _⟩⟩ := (show Ty S2 from ty2).rdy_nd rdy
  rw [ha] at hv'
  cases hv'
  subst e
  obtain ⟨p, rfl, hp⟩ := hv
  exact q H6 S2 rn6 x y p fr6.frm (kh6.more (by omega)) ty2 kI hl2 lat.inp rdy hp val fun r => by have := run.rdy r; injection this
/-! ### the keys of a dict, one after another -/
theorem for_keysT {d : Addr} {od : Obj} {kvs : List (List L2.Key × V)} {g : TG} {tb : TS} {D : Ends} {σ : L2.St} {H : Hp} (Pv : Nat → L2.St → Hp → Prop) (h0 : Pv 0 σ H) (hl : ∀ i σ H, Pv i σ H → H d = some (.frz od (.dT kvs)))
    (hs : ∀ i k v q σ H, kvs[i]? = some (k, v) → H q = some (.tup (k.map kV)) → Pv i σ H → g (.ref q) σ H fun σ2 H2 => tb { D with nx := Pv (i + 1), ct := Pv (i + 1), bk := D.nx } σ2 H2) (hd : ∀ σ H, Pv kvs.length σ H → D.nx σ H) :
    ∃ W : Nat → Nat → L2.St → Hp → Prop, (∃ m, W 0 m σ H) ∧ ∀ i m σ H, W i m σ H →
      ((Itkt d od kvs).stop i H ∧ D.nx σ H) ∨ ((Itkt d od kvs).go i H ∧ ∃ Nx : L2.St → Hp → Prop, (∀ σ' H', Nx σ' H' → ∃ m', m' < m ∧ W (i + 1) m' σ' H') ∧ ∀ y H', (Itkt d od kvs).yld i H y H' → g y σ H' fun σ2 H2 => tb { D with nx := Nx, ct := Nx, bk := D.nx } σ2 H2) := by
  refine ⟨fun i m σ H => m = kvs.length - i ∧ i ≤ kvs.length ∧ Pv i σ H, ⟨kvs.length, by simp, Nat.zero_le _, h0⟩, ?_⟩
  rintro i m σ H ⟨rfl, hi, p⟩
  by_cases hlt : i < kvs.length
  · refine .inr ⟨⟨hl i σ H p, hlt⟩, Pv (i + 1), fun σ' H' p' => ⟨kvs.length - (i + 1), by omega, rfl, hlt, p'⟩, fun y H' z => ?_⟩
    obtain ⟨e, k, v, q, hk, rfl, hq⟩ := z
    subst e
    exact hs i k v q σ H' hk hq p
  · have e : i = kvs.length := by omega
    subst e
    exact .inl ⟨⟨hl _ σ H p, Nat.le_refl _⟩, hd σ H p⟩

end Sn

namespace Sn
open PySem PySem.Spec PyProof.Rows L2 TL
/-! ### the law -/
section
variable {P : Program} {w : World} {K : PySem.W.Frag} {mg : Str → Option Value} {base : Heap} {f : Addr} {fd : FuncData} {CK CR CC aF : Addr}
abbrev s_law : Stmt := topS 17
abbrev N_law : List Str := ["script", "tape", "keeper", "inputs", "k", "fresh", "key", "value"]
theorem sc_law : FnScope N_law ["script"] (defScope s_law) := ⟨rfl, rfl, rfl, by decide +kernel, rfl, by decide +kernel, by decide +kernel⟩
theorem ok_law (F : Fun K "law" "law" s_law f fd) (T : NmK K mg aF CK CR CC) (ck : CK ≠ CR) (C_law_tape : Cal P w K mg base CX0 1 "_law_tape" (spTape K)) (C_law_take : Cal P w K mg base CX0 1 "_law_take" spTake) (C_law_same : Cal P w K mg base CX0 8 "_law_same" (spSame 4)) (C_law_key : Cal P w K mg base CX0 2 "_law_key" spKey) (C_law_call : Cal P w K mg base CX0 14 "_law_call" (spCall CK CR aF))
    (I_Keeper : CalO P w K mg base CX0 1 CK (spKI vxx CK CR aF)) (C_Keeper_put : CalM P w K mg base CX0 1 CK "put" (spPut vxx CK CR aF)) (C_Keeper_limit : CalM P w K mg base CX0 1 CK "limit" (spLim vxx CK CR aF)) (C_Keeper_computed : CalM P w K mg base CX0 1 CK "computed" (spCom vxx CK CR aF)) (C_Keeper_ask : CalM P w K mg base (L2.CX P w) 13 CK "ask" (spAsk vxx Gk comp CK CR CC aF 5)) : FnOk P w K mg base CX0 20 f fd ["script"] (spLaw K) := by
  refine F.ok sc_law (fun vs H Q E h => ?_) (fun cdv A' outer s H vs Q E hr h => ?_)
  · obtain ⟨a, ns, rfl, _⟩ := h
    rfl
  obtain ⟨a, ns, rfl, hS, h63, q⟩ := h
  refine ⟨_, (pss_cons (ps_set (i := 1) sc_law.nd rfl (Or.inl rfl) (pe_c C_law_tape hr (by first | decide | omega) pass0 (pa_cons (pv 0) pa_nil)))
    (pss_cons (ps_set (i := 2) sc_law.nd rfl (Or.inl rfl) (pe_mk I_Keeper hr (by first | decide | omega) T.mk_Keeper pass0 (pa_cons (pe_glob (v := .ref aF) (by rfl) T.c__law_compute rfl) pa_nil)))
    (pss_cons (ps_set (i := 3) sc_law.nd rfl (Or.inl rfl) pe_dnewT)
    (pss_cons (ps_for PassesOwn.never rfl (pi_range1 (by rfl) T.range (pa_cons pe_int pa_nil)) (pg_name (i := 4) sc_law.nd rfl (Or.inl rfl)) (pss_cons (ps_dput (hu_of hr) (pv 3) (pe_tup (pa_cons pe_str (pa_cons (pv 4) pa_nil))) (pe_c C_law_take hr (by first | decide | omega) pass0 (pa_cons (pv 1) (pa_cons pe_int pa_nil))) rfl)
    (pss_one (ps_expr (pe_m ns_Keeper C_Keeper_put T.cl_Keeper (by decide) hr (by first | decide | omega) pass0 (pv 2) (pa_cons (pe_tup (pa_cons pe_str (pa_cons (pv 4) pa_nil))) (pa_cons (pe_dget (hu_of hr) (pv 3) (pe_tup (pa_cons pe_str (pa_cons (pv 4) pa_nil))) (fun _ _ => rfl)) pa_nil)))))))
    (pss_cons (ps_for PassesOwn.never rfl (pi_range1 (by rfl) T.range (pa_cons (pe_c C_law_take hr (by first | decide | omega) pass0 (pa_cons (pv 1) (pa_cons pe_int pa_nil))) pa_nil)) (pg_name (i := 4) sc_law.nd rfl (Or.inl rfl)) (pss_one (ps_expr (pe_c C_law_call hr (by first | decide | omega) pass0 (pa_cons (pv 1) (pa_cons (pv 2) (pa_cons (pv 3) pa_nil)))))))
    (pss_cons (ps_expr (pe_m ns_Keeper C_Keeper_limit T.cl_Keeper (by decide) hr (by first | decide | omega) pass0 (pv 2) (pa_cons pe_non pa_nil)))
    (pss_cons (ps_set (i := 5) sc_law.nd rfl (Or.inl rfl) (pe_mk I_Keeper hr (by first | decide | omega) T.mk_Keeper pass0 (pa_cons (pe_glob (v := .ref aF) (by rfl) T.c__law_compute rfl) pa_nil)))
    (pss_cons (ps_lock (ps_for PassesOwn.never rfl (pi_keys (pv 3)) (pg_name (i := 6) sc_law.nd rfl (Or.inl rfl)) (pss_one (ps_expr (pe_m ns_Keeper C_Keeper_put T.cl_Keeper (by decide) hr (by first | decide | omega) pass0 (pv 5) (pa_cons (pv 6) (pa_cons (pe_dget (hu_of hr) (pv 3) (pv 6) (fun _ _ => rfl)) pa_nil)))))))
    (pss_cons (ps_for PassesOwn.never rfl (pi_range1 (by rfl) T.range (pa_cons (pe_op op_add pe_int (pe_c C_law_take hr (by first | decide | omega) pass0 (pa_cons (pv 1) (pa_cons pe_int pa_nil)))) pa_nil)) (pg_name (i := 4) sc_law.nd rfl (Or.inl rfl)) (pss_cons (ps_set (i := 6) sc_law.nd rfl (Or.inl rfl) (pe_c C_law_key hr (by first | decide | omega) pass0 (pa_cons (pv 1) pa_nil)))
    (pss_cons (ps_set (i := 7) sc_law.nd rfl (Or.inl rfl) (pe_m ns_Keeper C_Keeper_ask T.cl_Keeper (by decide) hr (by first | decide | omega) passL (pv 2) (pa_cons (pv 6) pa_nil)))
    (pss_cons (ps_if (pt_not (pt_val (pe_c C_law_same hr (by first | decide | omega) pass0 (pa_cons (pv 7) (pa_cons (pe_m ns_Keeper C_Keeper_ask T.cl_Keeper (by decide) hr (by first | decide | omega) passL (pv 5) (pa_cons (pv 6) pa_nil)) pa_nil))))) (pss_one (ps_ret pe_bl)) pss_nil)
    (pss_cons (ps_expr (pe_m0 ns_Keeper C_Keeper_computed T.cl_Keeper (by decide) hr (by first | decide | omega) pass0 (pv 2)))
    (pss_one (ps_if (PW.pt (pw_or (pt_not (pt_val (pe_c C_law_same hr (by first | decide | omega) pass0 (pa_cons (pe_m ns_Keeper C_Keeper_ask T.cl_Keeper (by decide) hr (by first | decide | omega) passL (pv 2) (pa_cons (pv 6) pa_nil)) (pa_cons (pv 7) pa_nil))))) (pw_or1 (pt_cmpR (op_neD hr.units) (pe_m0 ns_Keeper C_Keeper_computed T.cl_Keeper (by decide) hr (by first | decide | omega) pass0 (pv 2)) (pe_lst pa_nil) (nomark _))))) (pss_one (ps_ret pe_bl)) pss_nil)))))))
    (pss_one (ps_ret pe_bl))))))))))), ?_⟩
  refine ⟨_, rfl, a, ns, rfl, hS, h63, fun t c H1 s1 nt nc tp1 => ?_⟩
  refine fun o dx n1 n2 n3 => ⟨o, dx, rfl, ck, upd_same, fun H2 A fr2 ni0 ne0 nr0 nl0 kh2 => ⟨rfl, ?_⟩⟩
  have s12 : Same H1 H2 := fun b u e => fr2 b u (by rw [upd_ne (fun z => by rw [z, n1] at e; cases e), upd_ne (fun z => by rw [z, n2] at e; cases e)]; exact e) (fun z => by rw [z, n1] at e; cases e)
  have tp2 := tp1.same s12
  intro d nd
  have s23 := same_new (o := .dT []) nd
  have tp3 := tp2.same s23
  have hd3 : upd H2 d (.dT []) d = some (.dT []) := upd_same
  have kh3 := kh2.same s23
  have ccl : c ≠ A.l := fun z => by
    obtain ⟨cs, a, l, se, sa, zz⟩ := tp1
    have zc := zz.cl
    have y : upd (upd H1 dx (.own o)) o (.ins CK dx []) c = some (.lst (cs.map V.int)) := by rw [upd_ne (fun z => by rw [z, n1] at zc; cases zc), upd_ne (fun z => by rw [z, n2] at zc; cases zc)]; exact zc
    rw [z, nl0] at y
    cases y
  have dn : ∀ x, H2 x ≠ none → d ≠ x := fun x hx z => hx (z ▸ nd)
  have L3 : LS CK CR aF t c o d A 0 0 (upd H2 d (.dT [])) KS0 (fun _ => none) [] := by
    obtain ⟨_, ei, _⟩ := kh2.inp
    obtain ⟨_, ee, _⟩ := kh2.ent
    obtain ⟨_, er, _⟩ := kh2.run
    exact ⟨tp3, kh3, hd3, dn _ (by rw [ei]; exact fun z => nomatch z), dn _ (by rw [ee]; exact fun z => nomatch z), dn _ (by rw [er]; exact fun z => nomatch z), ccl, Nat.le_refl _, _, KI.zero⟩
  generalize upd H2 d (.dT []) = H3 at L3 ⊢
  clear tp3 hd3 kh3 s23 tp2 s12 kh2 fr2
  -- the four inputs
  refine ⟨4, rfl, by decide, by decide, ?_⟩
  refine for_range (lo := 0) (n := (4 : Int).toNat) (fun i σ H' => ∃ (v4 : Option V) (S : KS Va) (kvs : List (List L2.Key × V)), σ = [some (.ref a), some (.ref t), some (.ref o), some (.ref d), v4, none, none, none] ∧ LS CK CR aF t c o d A 0 (2 * i) H' S (fun _ => none) kvs ∧ Con (fun j => 0 ≤ j ∧ j < i) kvs S ∧ Kin kvs ∧ (∀ k, S.en k = none) ∧ S.left = none)
    ⟨none, KS0, [], rfl, L3, fun j z => by omega, fun p hp => absurd hp (by simp), fun _ => rfl, rfl⟩ ?_ ?_
  · rintro i σ H4 hi ⟨v4, S, kvs, rfl, L4, con, kin, hen, hlf⟩
    have hi : i < 4 := hi
    have ei : (0 : Int) + (i : Nat) = (i : Nat) := by omega
    rw [ei]
    refine ⟨_, rfl, t, c, 9, rfl, L4.tp, by decide, by decide, fun v H5 v0 v9 b5 T5 => ?_⟩
    have L5 := L4.take b5 T5
    have hlen : kvs.length < sizeLine := Nat.lt_of_le_of_lt L5.len (by show 2 * i < 16777216; omega)
    refine ⟨_, rfl, _, rfl, by show 2 ≤ sizeLine; decide, fun kb nkb => ?_⟩
    have s6 := same_new (o := .tup [.str "in", .int (i : Int)]) nkb
    have L6 := L5.same s6
    have hkb : isK (upd H5 kb (.tup [.str "in", .int (i : Int)])) kb (kIn (i : Int)) := upd_same
    generalize upd H5 kb (.tup [.str "in", .int (i : Int)]) = H6 at s6 L6 hkb ⊢
    refine ⟨d, _, rfl, DPut.t L6.hd hkb hlen, ?_⟩
    have L7 := L6.dput (k2 := putK kvs (kIn i) (.int v)) (by have := length_putK kvs (kIn i) (V.int v); have := L6.len; omega)
    generalize upd H6 d (.dT (putK kvs (kIn i) (.int v))) = H7 at L7 ⊢
    refine ⟨_, rfl, o, rfl, L7.kh.raw.isI, _, rfl, by show 2 ≤ sizeLine; decide, fun kb2 nkb2 => ?_⟩
    have L8 := L7.same (same_new (o := .tup [.str "in", .int (i : Int)]) nkb2)
    have hkb8 : isK (upd H7 kb2 (.tup [.str "in", .int (i : Int)])) kb2 (kIn (i : Int)) := upd_same
    generalize upd H7 kb2 (.tup [.str "in", .int (i : Int)]) = H8 at L8 hkb8 ⊢
    refine ⟨_, rfl, _, rfl, by show 2 ≤ sizeLine; decide, fun kb3 nkb3 => ?_⟩
    have s9 := same_new (o := .tup [.str "in", .int (i : Int)]) nkb3
    have L9 := L8.same s9
    have hkb9 : isK (upd H8 kb3 (.tup [.str "in", .int (i : Int)])) kb3 (kIn (i : Int)) := upd_same
    have hkb9' : isK (upd H8 kb3 (.tup [.str "in", .int (i : Int)])) kb2 (kIn (i : Int)) := s9 _ _ hkb8
    generalize upd H8 kb3 (.tup [.str "in", .int (i : Int)]) = H9 at L9 hkb9 hkb9' ⊢
    have dg : DGet H9 d (.ref kb3) (some (.int v)) := by
      have e : valV (putK kvs (kIn i) (.int v)) (kIn i) = some (.int v) := by rw [valV_put, if_pos rfl]
      rw [← e]
      exact DGet.t L9.hd hkb9
    refine ⟨d, _, rfl, dg, o, kb2, A, S, _, [], .non, 0, 2 * i + 1, _, _, .i v, rfl, L9.kh, hkb9', rfl, by omega, fun H10 fr10 kh10 => ?_⟩
    obtain ⟨T10, hd10⟩ := L9.frm (H' := H10) fun b u e y1 y2 y3 _ _ => fr10 b u e y1 y2 y3
    obtain ⟨I, hI⟩ := L9.ki
    refine ⟨_, _, _, rfl, (⟨T10, kh10, hd10, L9.n1, L9.n2, L9.n3, L9.cl, by have := L9.len; omega, hI.put i (.i v)⟩ : LS CK CR aF t c o d A 0 (2 * i + 1 + 1) H10 _ _ _), fun j hj => ?_, kin.put (by omega) (by omega), fun k => ?_, put_left.trans hlf⟩
    · refine (con.put v0 (by omega)) j ?_
      have : j < ((i + 1 : Nat) : Int) := hj.2
      by_cases z : j = i
      · exact .inr z
      · exact .inl ⟨hj.1, by omega⟩
    · cases z : (S.put (kIn i) (.i v)).en k with
      | none => rfl
      | some e =>
        have := put_en z
        rw [hen] at this
        cases this
  rintro σ H4 ⟨v4, S4, kvs4, rfl, L4, con4, kin4, hen4, hlf4⟩
  have con4 : Con (fun j => 0 ≤ j ∧ j < 4) kvs4 S4 := con4
  have L4 : LS CK CR aF t c o d A 0 8 H4 S4 (fun _ => none) kvs4 := L4
  obtain ⟨I4, hI4⟩ := L4.ki
  have ty4 : Ty S4 := ⟨fun j h0 h4 => by
    obtain ⟨f, r, a, b, e, _⟩ := con4 j ⟨h0, h4⟩
    exact ⟨f, r, a, b, e⟩, fun l s => by
    cases z : S4.inp (kNd l s) with
    | none => rfl
    | some x =>
      obtain ⟨x, g⟩ := x
      obtain ⟨j, e⟩ := hI4.isI _ _ _ z
      exact absurd e.symm kIn_ne, fun k e h => by rw [hen4] at h; cases h⟩
  -- the calls
  refine ⟨_, rfl, t, c, 17, rfl, L4.tp, by decide, by decide, fun r5 H5 r50 r51 b5 T5 => ?_⟩
  have L5 := L4.take b5 T5
  refine ⟨r5, rfl, by omega, by omega, ?_⟩
  refine for_range (lo := 0) (n := r5.toNat) (fun i σ H' => ∃ (v4 : Option V) (S : KS Va) (rn : Ky → Option Addr) (kvs : List (List L2.Key × V)), σ = [some (.ref a), some (.ref t), some (.ref o), some (.ref d), v4, none, none, none] ∧ LS CK CR aF t c o d A (30000 * i) (8 + 2 * i) H' S rn kvs ∧ Ty S ∧ Con (fun j => 0 ≤ j ∧ j < 4) kvs S ∧ Kin kvs)
    ⟨_, S4, _, kvs4, rfl, L5, ty4, con4, kin4⟩ ?_ ?_
  · rintro i σ H6 hi ⟨v6, S6, rn6, kvs6, rfl, L6, ty6, con6, kin6⟩
    have hi : i < 16 := by omega
    exact ⟨_, rfl, _, rfl, _, rfl, t, c, o, d, A, _, _, S6, rn6, kvs6, rfl, L6, ty6, con6, kin6, by omega, by omega, fun H7 S7 rn7 kvs7 L7 ty7 con7 kin7 => ⟨_, S7, rn7, kvs7, rfl, L7, ty7, con7, kin7⟩⟩
  rintro σ H6 ⟨v7, S6, rn6, kvs6, rfl, L6, ty6, con6, kin6⟩
  have L6 : LS CK CR aF t c o d A 480000 40 H6 S6 rn6 kvs6 := L6.more (by omega) (by omega)
  -- no limit any more
  refine ⟨_, rfl, o, rfl, L6.kh.raw.isI, o, A, S6, rn6, [], .non, _, _, none, rfl, L6.kh, fun H7 b7 kh7 => ?_⟩
  obtain ⟨T7, hd7⟩ := L6.frm (H' := H7) fun x u e y1 y2 y3 y4 y5 => b7 x u y1 e
  obtain ⟨I6, hI6⟩ := L6.ki
  have hI7 := hI6.left none
  have ty7 := ty6.left none
  have con7 : Con (fun j => 0 ≤ j ∧ j < 4) kvs6 { S6 with left := none } := con6.of rfl
  have hlf7 : ({ S6 with left := none } : KS Va).left = none := rfl
  generalize ({ S6 with left := none } : KS Va) = S7 at kh7 hI7 ty7 con7 hlf7
  have n16 := L6.n1
  have n26 := L6.n2
  have n36 := L6.n3
  have len6 : kvs6.length ≤ 40 := L6.len
  clear L4 L5 L6 L3
  -- a new keeper
  refine fun o2 dx2 m1 m2 m3 => ⟨o2, dx2, rfl, ck, upd_same, fun H8 A2 fr8 ni8 ne8 nr8 nl8 kh8 => ⟨rfl, ?_⟩⟩
  have sx : Same H7 (upd (upd H7 dx2 (.own o2)) o2 (.ins CK dx2 [])) := fun b u e => by
    rw [upd_ne (fun z => by rw [z, m1] at e; cases e), upd_ne (fun z => by rw [z, m2] at e; cases e)]
    exact e
  have s78 : Same H7 H8 := fun b u e => fr8 b u (sx _ _ e) (fun z => by rw [z, m1] at e; cases e)
  have sep : Sep o A o2 A2 := by
    obtain ⟨_, eo⟩ := kh7.raw
    obtain ⟨_, ei, _⟩ := kh7.inp
    obtain ⟨_, ee, _⟩ := kh7.ent
    obtain ⟨_, er, _⟩ := kh7.run
    obtain ⟨_, el, _⟩ := kh7.ended
    have ne : ∀ {b u x}, H7 b = some u → upd (upd H7 dx2 (.own o2)) o2 (.ins CK dx2 []) x = none → b ≠ x := fun e n z => by
      rw [z] at e
      rw [sx _ _ e] at n
      cases n
    exact ⟨fun z => (by rw [z, m1] at eo; cases eo), ne ei ni8, ne ei ne8, ne ei nr8, ne ee ni8, ne ee ne8, ne ee nr8, ne er ni8, ne er ne8, ne er nr8, ne el nl8⟩
  have T8 := T7.same s78
  have hd8 := s78 _ _ hd7
  have k18 := kh7.same s78
  have c2l : c ≠ A2.l := fun z => by
    obtain ⟨cs, a, l, se, sa, zz⟩ := T7
    have y := sx _ _ zz.cl
    rw [z, nl8] at y
    cases y
  have dn2 : ∀ x, upd (upd H7 dx2 (.own o2)) o2 (.ins CK dx2 []) x = none → d ≠ x := fun x hx z => by
    have y := sx _ _ hd7
    rw [z, hx] at y
    cases y
  have e1 := dn2 _ ni8
  have e2 := dn2 _ ne8
  have e3 := dn2 _ nr8
  clear kh7 T7 hd7 fr8 dn2 sx ni8 ne8 nr8 nl8
  -- the inputs once more
  refine ⟨d, _, hd8, trivial, fun od => ?_⟩
  refine ⟨_, rfl, d, od, rfl, .inr ⟨kvs6, upd_same, ?_⟩⟩
  refine for_keysT (fun i σ H' => ∃ (v6 : Option V) (S2 : KS Va), σ = [some (.ref a), some (.ref t), some (.ref o), some (.ref d), v7, some (.ref o2), v6, none] ∧ Tp H' t c ∧ Kh vxx CK CR aF H' o A S7 rn6 [] .non 480000 40 ∧ Kh vxx CK CR aF H' o2 A2 S2 (fun _ => none) [] .non 0 i ∧ H' d = some (.frz od (.dT kvs6)) ∧ (∃ I, KI I S2) ∧ (∀ k, S2.en k = none) ∧ S2.left = none ∧
    ∀ i', i' < i → ∀ k v, kvs6[i']? = some (k, v) → ∀ j f, k = kIn j → valV kvs6 (kIn j) = some (.int f) → ∃ r, S2.inp (kIn j) = some (.i f, r)) ⟨none, KS0, rfl, ?_, k18.own hd8 n16 n26 n36, kh8.own hd8 e1 e2 e3, upd_same, ⟨_, KI.zero⟩, fun _ => rfl, rfl, fun i' h => absurd h (Nat.not_lt_zero _)⟩ (fun i σ H' ⟨_, _, _, _, _, _, e, _⟩ => e) ?_ ?_
  · obtain ⟨cs, a, l, se, sa, z⟩ := T8
    exact ⟨cs, a, l, se, sa, (upd_ne (Kob.ne hd8 z.d fun _ z => nomatch z)).trans z.d, (upd_ne (Kob.ne hd8 z.cl fun _ z => nomatch z)).trans z.cl, z.cp, z.a0, z.l0, z.s0, z.s1⟩
  · rintro i k v q9 σ H9 hik hq9 ⟨v6, S2, rfl, T9, k19, k29, hd9, ⟨I2, hI2⟩, hen2, hlf2, dn2⟩
    have hi : i < kvs6.length := (List.getElem?_eq_some_iff.mp hik).1
    obtain ⟨j, ej, j0, j4⟩ := kin6 (k, v) (List.mem_of_getElem? hik)
    have ej : k = kIn j := ej
    obtain ⟨fj, rj, _, f0, f8, hval⟩ := con7 j ⟨j0, j4⟩
    have dg : DGet H9 d (.ref q9) (some (.int fj)) := .inr ⟨kvs6, k, q9, .inr ⟨od, hd9⟩, rfl, hq9, by rw [ej, hval]⟩
    refine ⟨_, rfl, o2, rfl, k29.raw.isI, _, rfl, _, rfl, _, rfl, d, _, rfl, dg, o2, q9, A2, S2, _, [], .non, 0, i, k, _, .i fj, rfl, k29, hq9, rfl, by omega, fun H10 fr10 kh10 => ?_⟩
    have fm : Frm o2 A2 H9 H10 := fun b u e y1 y2 y3 _ _ => fr10 b u e y1 y2 y3
    subst ej
    refine ⟨_, _, rfl, k29.tp fm T9 c2l, k29.apart k19 sep.symm fm, kh10, (k29.away fm).2.2.2.2.2 _ _ _ hd9, hI2.put j (.i fj), fun k => ?_, put_left.trans hlf2, fun i' hi' k' v' hk' j' f' ek' hv' => ?_⟩
    · cases z : (S2.put (kIn j) (.i fj)).en k with
      | none => rfl
      | some e =>
        have := put_en z
        rw [hen2] at this
        cases this
    · by_cases c : j' = j
      · subst c
        rw [hval] at hv'
        cases hv'
        exact put_inp_at
      · have hne : i' ≠ i := fun z => by
          subst z
          rw [hik] at hk'
          cases hk'
          exact c (kIn_inj ek').symm
        obtain ⟨r, hr⟩ := dn2 i' (by omega) k' v' hk' j' f' ek' hv'
        exact ⟨r, by rw [put_inp_ne (fun z => c (kIn_inj z))]; exact hr⟩
  rintro σ H9 ⟨v6, S2, rfl, T9, k19, k29, hd9, ⟨I2, hI2⟩, hen2, hlf2, dn2⟩
  have same2 : ∀ j, 0 ≤ j → j < 4 → ∃ f r r2, S7.inp (kIn j) = some (.i f, r) ∧ S2.inp (kIn j) = some (.i f, r2) ∧ 0 ≤ f ∧ f ≤ 8 := fun j j0 j4 => by
    obtain ⟨fj, rj, h1, f0, f8, hval⟩ := con7 j ⟨j0, j4⟩
    obtain ⟨i', k', v', h2, h3⟩ : ∃ i' k' v', kvs6[i']? = some (k', v') ∧ k' = kIn j := by
      have : ∀ (l : List (List L2.Key × V)) (x : V), valV l (kIn j) = some x → ∃ i' k' v', l[i']? = some (k', v') ∧ k' = kIn j := fun l x h => by
        induction l with
        | nil => cases h
        | cons p r ih =>
          by_cases z : p.1 = kIn j
          · exact ⟨0, p.1, p.2, rfl, z⟩
          · rw [valV_neg z] at h
            obtain ⟨i', k', v', a, b⟩ := ih h
            exact ⟨i' + 1, k', v', a, b⟩
      exact this _ _ hval
    obtain ⟨r, hr⟩ := dn2 i' (List.getElem?_eq_some_iff.mp h2).1 k' v' h2 j fj h3 hval
    exact ⟨fj, rj, r, h1, hr, f0, f8⟩
  have ty2 : Ty S2 := ⟨fun j h0 h4 => by
    obtain ⟨f, r, r2, _, b, e⟩ := same2 j h0 h4
    exact ⟨f, r2, b, e⟩, fun l s => by
    cases z : S2.inp (kNd l s) with
    | none => rfl
    | some x =>
      obtain ⟨x, g⟩ := x
      obtain ⟨j, e⟩ := hI2.isI _ _ _ z
      exact absurd e.symm kIn_ne, fun k e h => by rw [hen2] at h; cases h⟩
  refine ⟨hd9, ?_⟩
  have k110 : Kh vxx CK CR aF (upd H9 d (.dT kvs6)) o A S7 rn6 [] .non 480000 40 := k19.unown hd9
  have k210 : Kh vxx CK CR aF (upd H9 d (.dT kvs6)) o2 A2 S2 (fun _ => none) [] .non 0 40 := (k29.unown hd9).wider len6
  have T10 : Tp (upd H9 d (.dT kvs6)) t c := by
    obtain ⟨cs, a, l, se, sa, z⟩ := T9
    exact ⟨cs, a, l, se, sa, (upd_ne (fun y => by rw [← y, z.d] at hd9; cases hd9)).trans z.d, (upd_ne (fun y => by rw [← y, z.cl] at hd9; cases hd9)).trans z.cl, z.cp, z.a0, z.l0, z.s0, z.s1⟩
  generalize upd H9 d (.dT kvs6) = H10 at k110 k210 T10 ⊢
  clear k19 k29 hd9 T9
  refine ⟨_, rfl, t, c, 4, rfl, T10, by decide, by decide, fun r11 H11 r0 r1 b11 T11 => ⟨_, _, rfl, rfl, ?_⟩⟩
  have k111 := k110.but T10 b11
  have k211 := k210.but T10 b11
  refine ⟨1 + r11, rfl, by omega, by omega, ?_⟩
  refine for_range (lo := 0) (n := (1 + r11).toNat) (fun i σ H' => ∃ (v4 v6 v7 : Option V) (l1 l2 : Addr) (S1 S2' : KS Va) (rn1 rn2 : Ky → Option Addr), σ = [some (.ref a), some (.ref t), some (.ref o), some (.ref d), v4, some (.ref o2), v6, v7] ∧ Tp H' t c ∧ c ≠ l1 ∧ Sep o { A with l := l1 } o2 A2 ∧ Kh vxx CK CR aF H' o { A with l := l1 } S1 rn1 [] .non (480000 + 60000 * i) 40 ∧ Kh vxx CK CR aF H' o2 A2 S2' rn2 [] .non (30000 * i) 40 ∧ KI I6 S1 ∧ KI I2 S2' ∧ Ty S1 ∧ Ty S2' ∧ S1.left = none ∧ S2'.left = none ∧ S1.inp = S7.inp ∧ S2'.inp = S2.inp)
    ⟨_, _, _, A.l, A.l, S7, S2, rn6, _, rfl, T11, ccl, sep, k111, k211, hI7, hI2, ty7, ty2, hlf7, hlf2, rfl, rfl⟩ ?_ (fun σ H' _ => q _)
  rintro i σ H12 hi ⟨v4, v6, v7, l1, _, S1, S2', rn1, rn2, rfl, T12, cl1, sp1, k1, k2, hI1, hI2', ty1, ty2', hl1, hl2, in1, in2⟩
  have hi : i < 4 := by omega
  refine ⟨_, rfl, t, c, rfl, T12, fun l s b H13 l4 s0 s6 b13 T13 hb13 => ?_⟩
  have k1 := k1.but T12 b13
  have k2 := k2.but T12 b13
  refine ⟨_, rfl, o, rfl, k1.raw.isI, _, rfl, ask_ok k1 ty1 hI1 hl1 l4 s0 s6 hb13 (by omega) fun H14 S14 rn14 x y p fm14 k14 ty14 hI14 hl14 in14 rd14 hp14 val14 _ => ?_⟩
  have k2 := k1.apart k2 sp1 fm14
  have T14 := k1.tp fm14 T13 cl1
  have hb14 : isK H14 b (kNd (l : Int) s) := (k1.away fm14).1 _ _ hb13
  refine ⟨_, rfl, _, rfl, o2, rfl, k2.raw.isI, _, rfl, ask_ok k2 ty2' hI2' hl2 l4 s0 s6 hb14 (by omega) fun H15 S15 rn15 x' y' p' fm15 k15 ty15 hI15 hl15 in15 rd15 hp15 val15 _ => ?_⟩
  have k1 := k2.apart k14 sp1.symm fm15
  have T15 := k2.tp fm15 T14 c2l
  have ft15 := (k2.away fm15).1
  have hb15 : isK H15 b (kNd (l : Int) s) := ft15 _ _ hb14
  have hp14' := ft15 _ _ hp14
  have veq : x' = x ∧ y' = y := by
    have e : Nv (I6 S14.now) (kNd (l : Int) s) = Nv (I2 S15.now) (kNd (l : Int) s) := by
      rw [Nv_nd, Nv_nd]
      refine NN_congr (fun j j0 j4 => ?_) l s
      obtain ⟨f, r, r2, h1, h2, _⟩ := same2 j j0 j4
      rw [(hI14.inp _ _ _ (by rw [in14, in1]; exact h1)).2, (hI15.inp _ _ _ (by rw [in15, in2]; exact h2)).2]
    rw [val14, val15] at e
    injection e with e1 e2
    exact ⟨e1.symm, e2.symm⟩
  obtain ⟨rfl, rfl⟩ := veq
  have al15 : Al H15 4 (.ref p) (.ref p') := Al.tup hp14' hp15 rfl (by show 2 ≤ 1000000; decide) (al_eq rfl)
  refine ⟨_, _, rfl, al15, _, rfl, iteF ?_⟩
  refine ⟨_, rfl, o, rfl, k1.raw.isI, o, _, S14, rn14, [], .non, _, _, rfl, k1, fun H16 l16 bs16 b16 nl16 k16 _ _ => ?_⟩
  have fm16 : Frm o { A with l := l1 } H15 H16 := fun c u e y1 _ _ _ _ => b16 c u y1 e
  have k2 := k1.apart k15 sp1 fm16
  have T16 := k1.tp fm16 T15 cl1
  have ft16 := (k1.away fm16).1
  have hb16 : isK H16 b (kNd (l : Int) s) := ft16 _ _ hb15
  have hp16 := ft16 _ _ hp14'
  have ne16 : ∀ {z u}, H15 z = some u → z ≠ l16 := fun e z => by rw [z, nl16] at e; cases e
  have cl16 : c ≠ l16 := by
    obtain ⟨cs, a, l, se, sa, z⟩ := T15
    exact ne16 z.cl
  have sp16 : Sep o { A with l := l16 } o2 A2 := by
    obtain ⟨_, el, _⟩ := k15.ended
    exact ⟨sp1.oo, sp1.ii, sp1.ie, sp1.ir, sp1.ei, sp1.ee, sp1.er, sp1.ri, sp1.re, sp1.rr, (ne16 el).symm⟩
  have ty16 := ty14.cleared
  have hI16 := hI14.cleared
  have rd16 : Rdy ({ S14 with done := [] } : KS Va) (kNd (l : Int) s) := rd14
  refine ⟨_, rfl, o, rfl, k16.raw.isI, _, rfl, ask_ok k16 ty16 hI16 hl14 l4 s0 s6 hb16 (by omega) fun H17 S17 rn17 x7 y7 p7 fm17 k17 ty17 hI17 hl17 in17 rd17 hp17 val17 eq17 => ?_⟩
  have eq17 := eq17 rd16
  subst eq17
  have val17 : Nv (I6 S14.now) (kNd (l : Int) s) = .p x7 y7 := val17
  rw [val14] at val17
  injection val17 with v1 v2
  subst v1 v2
  have k2 := k16.apart k2 sp16 fm17
  have T17 := k16.tp fm17 T16 cl16
  have hp17' := (k16.away fm17).1 _ _ hp16
  have al17 : Al H17 4 (.ref p7) (.ref p) := Al.tup hp17 hp17' rfl (by show 2 ≤ 1000000; decide) (al_eq rfl)
  refine ⟨_, rfl, _, _, rfl, al17, _, rfl, iteF ?_⟩
  refine ⟨_, rfl, o, rfl, k17.raw.isI, o, _, _, rn17, [], .non, _, _, rfl, k17, fun H18 l18 bs18 b18 nl18 k18' hl18 hk18 => ?_⟩
  have fm18 : Frm o { A with l := l16 } H17 H18 := fun c u e y1 _ _ _ _ => b18 c u y1 e
  have k2 := k17.apart k2 sp16 fm18
  have T18 := k17.tp fm18 T17 cl16
  have ne18 : ∀ {z u}, H17 z = some u → z ≠ l18 := fun e z => by rw [z, nl18] at e; cases e
  cases hk18
  have cl18 : c ≠ l18 := by
    obtain ⟨cs, a, l, se, sa, z⟩ := T17
    exact ne18 z.cl
  have sp18 : Sep o { A with l := l18 } o2 A2 := by
    obtain ⟨_, el, _⟩ := (k16.apart (k1.apart k15 sp1 fm16) sp16 fm17).ended
    exact ⟨sp1.oo, sp1.ii, sp1.ie, sp1.ir, sp1.ei, sp1.ee, sp1.er, sp1.ri, sp1.re, sp1.rr, (ne18 el).symm⟩
  refine ⟨Nat.zero_le _, fun e19 ne19 => ?_⟩
  have s19 := same_new (o := .lst []) ne19
  refine ⟨.list [], .list [], .lst (SqL.of (s19 _ _ hl18)) .nil, .lst (SqL.of upd_same) .nil, by kernel_rfl, by kernel_rfl, _, rfl, ?_⟩
  rw [show PyData.eqv (.list []) (.list []) = true by kernel_rfl]
  refine iteF ?_
  exact ⟨_, _, _, l18, l18, _, S15, rn17, rn15, rfl, T18.same s19, cl18, sp18, (k18'.same s19).more (by omega), (k2.same s19).more (by omega), hI17.cleared, hI15, ty17.cleared, ty15, hl17, hl15, in14.trans in1, in15.trans in2⟩
end

end Sn

namespace Sn
open PySem PySem.Spec PyProof.Rows L2 TL
theorem all_mk {l : PySem.W.OpenLaw} {w : World} {K : PySem.W.Frag} {h : Heap} {mg : Str → Option Value} {fa f0 f1 f2 f3 f4 f5 f6 f7 f8 : Addr}
    {od0 an0 od1 an1 od2 an2 od3 an3 od4 an4 od5 an5 od6 an6 od7 an7 od8 an8 : Option Addr} {sl0 sl1 sl2 sl3 sl4 sl5 sl6 sl7 sl8 : Array (Option Value)} {oc0 kV0 dc0 pm0 cd0 ct0 oc1 kV1 dc1 pm1 cd1 ct1 oc2 kV2 dc2 pm2 cd2 ct2 oc3 kV3 dc3 pm3 cd3 ct3 oc4 kV4 dc4 pm4 cd4 ct4 oc5 kV5 dc5 pm5 cd5 ct5 oc6 kV6 dc6 pm6 cd6 ct6 oc7 kV7 dc7 pm7 cd7 ct7 oc8 kV8 dc8 pm8 cd8 ct8 : Value}
    {CK CR CE : Addr}
    {f9 : Addr} {od9 an9 : Option Addr} {sl9 : Array (Option Value)} {oc9 kV9 dc9 pm9 cd9 ct9 : Value}
    {f10 : Addr} {od10 an10 : Option Addr} {sl10 : Array (Option Value)} {oc10 kV10 dc10 pm10 cd10 ct10 : Value}
    {f11 : Addr} {od11 an11 : Option Addr} {sl11 : Array (Option Value)} {oc11 kV11 dc11 pm11 cd11 ct11 : Value}
    {f12 : Addr} {od12 an12 : Option Addr} {sl12 : Array (Option Value)} {oc12 kV12 dc12 pm12 cd12 ct12 : Value}
    {f13 : Addr} {od13 an13 : Option Addr} {sl13 : Array (Option Value)} {oc13 kV13 dc13 pm13 cd13 ct13 : Value}
    {f14 : Addr} {od14 an14 : Option Addr} {sl14 : Array (Option Value)} {oc14 kV14 dc14 pm14 cd14 ct14 : Value}
    {f15 : Addr} {od15 an15 : Option Addr} {sl15 : Array (Option Value)} {oc15 kV15 dc15 pm15 cd15 ct15 : Value}
    {f16 : Addr} {od16 an16 : Option Addr} {sl16 : Array (Option Value)} {oc16 kV16 dc16 pm16 cd16 ct16 : Value}
    {f17 : Addr} {od17 an17 : Option Addr} {sl17 : Array (Option Value)} {oc17 kV17 dc17 pm17 cd17 ct17 : Value}
    {f18 : Addr} {od18 an18 : Option Addr} {sl18 : Array (Option Value)} {oc18 kV18 dc18 pm18 cd18 ct18 : Value}
    {f19 : Addr} {od19 an19 : Option Addr} {sl19 : Array (Option Value)} {oc19 kV19 dc19 pm19 cd19 ct19 : Value}
    {f20 : Addr} {od20 an20 : Option Addr} {sl20 : Array (Option Value)} {oc20 kV20 dc20 pm20 cd20 ct20 : Value}
    {f21 : Addr} {od21 an21 : Option Addr} {sl21 : Array (Option Value)} {oc21 kV21 dc21 pm21 cd21 ct21 : Value} (X : K.In h) (G : h.Ns mainGlobals mg) (hfa : mg "law" = some (.ref fa))
    (a0 : PySem.W.nsIn K mainGlobals "_law_tape" = some (some (.ref f0)))
    (l0 : K.lookup f0 = some ⟨oc0, od0, .func (PySem.W.fnOf "_law_tape" "_law_tape" (defArgs s_tape) (defBody s_tape) (defScope s_tape) .none kV0 dc0 pm0 an0 cd0 ct0), sl0⟩)
    (c0 : PySem.W.codeIn K cd0 "_law_tape" = true)
    (k0 : PySem.W.keepIn K (.ref f0) = true)
    (a1 : PySem.W.nsIn K mainGlobals "_law_take" = some (some (.ref f1)))
    (l1 : K.lookup f1 = some ⟨oc1, od1, .func (PySem.W.fnOf "_law_take" "_law_take" (defArgs s_take) (defBody s_take) (defScope s_take) .none kV1 dc1 pm1 an1 cd1 ct1), sl1⟩)
    (c1 : PySem.W.codeIn K cd1 "_law_take" = true)
    (k1 : PySem.W.keepIn K (.ref f1) = true)
    (a2 : PySem.W.nsIn K mainGlobals "_law_is_integer" = some (some (.ref f2)))
    (l2 : K.lookup f2 = some ⟨oc2, od2, .func (PySem.W.fnOf "_law_is_integer" "_law_is_integer" (defArgs s_isInt) (defBody s_isInt) (defScope s_isInt) .none kV2 dc2 pm2 an2 cd2 ct2), sl2⟩)
    (c2 : PySem.W.codeIn K cd2 "_law_is_integer" = true)
    (k2 : PySem.W.keepIn K (.ref f2) = true)
    (a3 : PySem.W.nsIn K mainGlobals "_law_same_items" = some (some (.ref f3)))
    (l3 : K.lookup f3 = some ⟨oc3, od3, .func (PySem.W.fnOf "_law_same_items" "_law_same_items" (defArgs s_sameItems) (defBody s_sameItems) (defScope s_sameItems) .none kV3 dc3 pm3 an3 cd3 ct3), sl3⟩)
    (c3 : PySem.W.codeIn K cd3 "_law_same_items" = true)
    (k3 : PySem.W.keepIn K (.ref f3) = true)
    (a4 : PySem.W.nsIn K mainGlobals "_law_same" = some (some (.ref f4)))
    (l4 : K.lookup f4 = some ⟨oc4, od4, .func (PySem.W.fnOf "_law_same" "_law_same" (defArgs s_same) (defBody s_same) (defScope s_same) .none kV4 dc4 pm4 an4 cd4 ct4), sl4⟩)
    (c4 : PySem.W.codeIn K cd4 "_law_same" = true)
    (k4 : PySem.W.keepIn K (.ref f4) = true)
    (a5 : PySem.W.nsIn K mainGlobals "_law_compute" = some (some (.ref f5)))
    (l5 : K.lookup f5 = some ⟨oc5, od5, .func (PySem.W.fnOf "_law_compute" "_law_compute" (defArgs s_l_compute) (defBody s_l_compute) (defScope s_l_compute) .none kV5 dc5 pm5 an5 cd5 ct5), sl5⟩)
    (c5 : PySem.W.codeIn K cd5 "_law_compute" = true)
    (k5 : PySem.W.keepIn K (.ref f5) = true)
    (a6 : PySem.W.nsIn K mainGlobals "_law_key" = some (some (.ref f6)))
    (l6 : K.lookup f6 = some ⟨oc6, od6, .func (PySem.W.fnOf "_law_key" "_law_key" (defArgs s_l_key) (defBody s_l_key) (defScope s_l_key) .none kV6 dc6 pm6 an6 cd6 ct6), sl6⟩)
    (c6 : PySem.W.codeIn K cd6 "_law_key" = true)
    (k6 : PySem.W.keepIn K (.ref f6) = true)
    (a7 : PySem.W.nsIn K mainGlobals "_law_call" = some (some (.ref f7)))
    (l7 : K.lookup f7 = some ⟨oc7, od7, .func (PySem.W.fnOf "_law_call" "_law_call" (defArgs s_l_call) (defBody s_l_call) (defScope s_l_call) .none kV7 dc7 pm7 an7 cd7 ct7), sl7⟩)
    (c7 : PySem.W.codeIn K cd7 "_law_call" = true)
    (k7 : PySem.W.keepIn K (.ref f7) = true)
    (a8 : PySem.W.nsIn K mainGlobals "law" = some (some (.ref f8)))
    (l8 : K.lookup f8 = some ⟨oc8, od8, .func (PySem.W.fnOf "law" "law" (defArgs s_law) (defBody s_law) (defScope s_law) .none kV8 dc8 pm8 an8 cd8 ct8), sl8⟩)
    (c8 : PySem.W.codeIn K cd8 "law" = true)
    (k8 : PySem.W.keepIn K (.ref f8) = true)
    (a9 : PySem.W.findIn K (.ref CR) "__init__" = some (some (.ref f9)))
    (i9 : PySem.W.isFn K (.ref f9) = true)
    (l9 : K.lookup f9 = some ⟨oc9, od9, .func (PySem.W.fnOf "__init__" "Run.__init__" (defArgs s_Run_init) (defBody s_Run_init) (defScope s_Run_init) .none kV9 dc9 pm9 an9 cd9 ct9), sl9⟩)
    (c9 : PySem.W.codeIn K cd9 "Run.__init__" = true)
    (k9 : PySem.W.keepIn K (.ref f9) = true)
    (a10 : PySem.W.findIn K (.ref CK) "__init__" = some (some (.ref f10)))
    (i10 : PySem.W.isFn K (.ref f10) = true)
    (l10 : K.lookup f10 = some ⟨oc10, od10, .func (PySem.W.fnOf "__init__" "Keeper.__init__" (defArgs s_K_init) (defBody s_K_init) (defScope s_K_init) .none kV10 dc10 pm10 an10 cd10 ct10), sl10⟩)
    (c10 : PySem.W.codeIn K cd10 "Keeper.__init__" = true)
    (k10 : PySem.W.keepIn K (.ref f10) = true)
    (a11 : PySem.W.findIn K (.ref CK) "put" = some (some (.ref f11)))
    (i11 : PySem.W.isFn K (.ref f11) = true)
    (l11 : K.lookup f11 = some ⟨oc11, od11, .func (PySem.W.fnOf "put" "Keeper.put" (defArgs s_K_put) (defBody s_K_put) (defScope s_K_put) .none kV11 dc11 pm11 an11 cd11 ct11), sl11⟩)
    (c11 : PySem.W.codeIn K cd11 "Keeper.put" = true)
    (k11 : PySem.W.keepIn K (.ref f11) = true)
    (a12 : PySem.W.findIn K (.ref CK) "limit" = some (some (.ref f12)))
    (i12 : PySem.W.isFn K (.ref f12) = true)
    (l12 : K.lookup f12 = some ⟨oc12, od12, .func (PySem.W.fnOf "limit" "Keeper.limit" (defArgs s_K_limit) (defBody s_K_limit) (defScope s_K_limit) .none kV12 dc12 pm12 an12 cd12 ct12), sl12⟩)
    (c12 : PySem.W.codeIn K cd12 "Keeper.limit" = true)
    (k12 : PySem.W.keepIn K (.ref f12) = true)
    (a13 : PySem.W.findIn K (.ref CK) "forget" = some (some (.ref f13)))
    (i13 : PySem.W.isFn K (.ref f13) = true)
    (l13 : K.lookup f13 = some ⟨oc13, od13, .func (PySem.W.fnOf "forget" "Keeper.forget" (defArgs s_K_forget) (defBody s_K_forget) (defScope s_K_forget) .none kV13 dc13 pm13 an13 cd13 ct13), sl13⟩)
    (c13 : PySem.W.codeIn K cd13 "Keeper.forget" = true)
    (k13 : PySem.W.keepIn K (.ref f13) = true)
    (a14 : PySem.W.findIn K (.ref CK) "computed" = some (some (.ref f14)))
    (i14 : PySem.W.isFn K (.ref f14) = true)
    (l14 : K.lookup f14 = some ⟨oc14, od14, .func (PySem.W.fnOf "computed" "Keeper.computed" (defArgs s_K_computed) (defBody s_K_computed) (defScope s_K_computed) .none kV14 dc14 pm14 an14 cd14 ct14), sl14⟩)
    (c14 : PySem.W.codeIn K cd14 "Keeper.computed" = true)
    (k14 : PySem.W.keepIn K (.ref f14) = true)
    (a15 : PySem.W.findIn K (.ref CK) "ask" = some (some (.ref f15)))
    (i15 : PySem.W.isFn K (.ref f15) = true)
    (l15 : K.lookup f15 = some ⟨oc15, od15, .func (PySem.W.fnOf "ask" "Keeper.ask" (defArgs s_K_ask) (defBody s_K_ask) (defScope s_K_ask) .none kV15 dc15 pm15 an15 cd15 ct15), sl15⟩)
    (c15 : PySem.W.codeIn K cd15 "Keeper.ask" = true)
    (k15 : PySem.W.keepIn K (.ref f15) = true)
    (a16 : PySem.W.findIn K (.ref CK) "_entered" = some (some (.ref f16)))
    (i16 : PySem.W.isFn K (.ref f16) = true)
    (l16 : K.lookup f16 = some ⟨oc16, od16, .func (PySem.W.fnOf "_entered" "Keeper._entered" (defArgs s_K_entered) (defBody s_K_entered) (defScope s_K_entered) .none kV16 dc16 pm16 an16 cd16 ct16), sl16⟩)
    (c16 : PySem.W.codeIn K cd16 "Keeper._entered" = true)
    (k16 : PySem.W.keepIn K (.ref f16) = true)
    (a17 : PySem.W.findIn K (.ref CK) "_wanted" = some (some (.ref f17)))
    (i17 : PySem.W.isFn K (.ref f17) = true)
    (l17 : K.lookup f17 = some ⟨oc17, od17, .func (PySem.W.fnOf "_wanted" "Keeper._wanted" (defArgs s_K_wanted) (defBody s_K_wanted) (defScope s_K_wanted) .none kV17 dc17 pm17 an17 cd17 ct17), sl17⟩)
    (c17 : PySem.W.codeIn K cd17 "Keeper._wanted" = true)
    (k17 : PySem.W.keepIn K (.ref f17) = true)
    (a18 : PySem.W.findIn K (.ref CK) "_is_checked" = some (some (.ref f18)))
    (i18 : PySem.W.isFn K (.ref f18) = true)
    (l18 : K.lookup f18 = some ⟨oc18, od18, .func (PySem.W.fnOf "_is_checked" "Keeper._is_checked" (defArgs s_K_is_checked) (defBody s_K_is_checked) (defScope s_K_is_checked) .none kV18 dc18 pm18 an18 cd18 ct18), sl18⟩)
    (c18 : PySem.W.codeIn K cd18 "Keeper._is_checked" = true)
    (k18 : PySem.W.keepIn K (.ref f18) = true)
    (a19 : PySem.W.findIn K (.ref CK) "_changed" = some (some (.ref f19)))
    (i19 : PySem.W.isFn K (.ref f19) = true)
    (l19 : K.lookup f19 = some ⟨oc19, od19, .func (PySem.W.fnOf "_changed" "Keeper._changed" (defArgs s_K_changed) (defBody s_K_changed) (defScope s_K_changed) .none kV19 dc19 pm19 an19 cd19 ct19), sl19⟩)
    (c19 : PySem.W.codeIn K cd19 "Keeper._changed" = true)
    (k19 : PySem.W.keepIn K (.ref f19) = true)
    (a20 : PySem.W.findIn K (.ref CK) "_begin" = some (some (.ref f20)))
    (i20 : PySem.W.isFn K (.ref f20) = true)
    (l20 : K.lookup f20 = some ⟨oc20, od20, .func (PySem.W.fnOf "_begin" "Keeper._begin" (defArgs s_K_begin) (defBody s_K_begin) (defScope s_K_begin) .none kV20 dc20 pm20 an20 cd20 ct20), sl20⟩)
    (c20 : PySem.W.codeIn K cd20 "Keeper._begin" = true)
    (k20 : PySem.W.keepIn K (.ref f20) = true)
    (a21 : PySem.W.findIn K (.ref CK) "_end" = some (some (.ref f21)))
    (i21 : PySem.W.isFn K (.ref f21) = true)
    (l21 : K.lookup f21 = some ⟨oc21, od21, .func (PySem.W.fnOf "_end" "Keeper._end" (defArgs s_K_end) (defBody s_K_end) (defScope s_K_end) .none kV21 dc21 pm21 an21 cd21 ct21), sl21⟩)
    (c21 : PySem.W.codeIn K cd21 "Keeper._end" = true)
    (k21 : PySem.W.keepIn K (.ref f21) = true)
    (z0 : PySem.W.nsIn K mainGlobals "abs" = some none)
    (z1 : PySem.W.nsIn K mainGlobals "int" = some none)
    (z2 : PySem.W.nsIn K mainGlobals "len" = some none)
    (z3 : PySem.W.nsIn K mainGlobals "range" = some none)
    (z4 : PySem.W.nsIn K mainGlobals "isinstance" = some none)
    (z5 : PySem.W.nsIn K mainGlobals "bool" = some none)
    (z6 : PySem.W.nsIn K mainGlobals "str" = some none)
    (z7 : PySem.W.nsIn K mainGlobals "tuple" = some none)
    (z8 : PySem.W.nsIn K mainGlobals "list" = some none)
    (aCK : PySem.W.nsIn K mainGlobals "Keeper" = some (some (.ref CK)))
    (aCR : PySem.W.nsIn K mainGlobals "Run" = some (some (.ref CR)))
    (aCE : PySem.W.nsIn K mainGlobals "Cancelled" = some (some (.ref CE)))
    (pg1 : PySem.W.plainGet K CK Str.empty = true)
    (hd1 : PySem.W.hasDictIn K CK = true)
    (po1 : PySem.W.plainOver K CK = true)
    (sa1 : PySem.W.findIn K (.ref CK) "__setattr__" = some (some (.builtin "object.__setattr__")))
    (mk1 : PySem.W.makesIn K CK = true)
    (kc1 : PySem.W.keepIn K (.ref CK) = true)
    (pg2 : PySem.W.plainGet K CR Str.empty = true)
    (hd2 : PySem.W.hasDictIn K CR = true)
    (po2 : PySem.W.plainOver K CR = true)
    (sa2 : PySem.W.findIn K (.ref CR) "__setattr__" = some (some (.builtin "object.__setattr__")))
    (mk2 : PySem.W.makesIn K CR = true)
    (kc2 : PySem.W.keepIn K (.ref CR) = true)
    (n1 : PySem.W.findIn K (.ref CK) "_function" = some none)
    (n2 : PySem.W.findIn K (.ref CK) "_now" = some none)
    (n3 : PySem.W.findIn K (.ref CK) "_left" = some none)
    (n4 : PySem.W.findIn K (.ref CK) "_inputs" = some none)
    (n5 : PySem.W.findIn K (.ref CK) "_entries" = some none)
    (n6 : PySem.W.findIn K (.ref CK) "_runs" = some none)
    (n7 : PySem.W.findIn K (.ref CK) "_asked" = some none)
    (n8 : PySem.W.findIn K (.ref CK) "_ended" = some none)
    (nl : PySem.W.findIn K (.ref CR) "live" = some none)
    (nkr : (CK == CR) = false)
    (xI : PySem.W.excIn K CE [.type "ValueError", .type "Exception", .type "BaseException", .type "object"] "ValueError.__new__" = true)
    (kI : PySem.W.keepIn K (.ref CE) = true)
    (bI : PySem.W.subIn K (.ref CE) (.type "BaseException") = some true)
    (tI : PySem.W.typeIn K (.ref CE) = some (.type "type"))
    (iC : PySem.W.isClsIn K CE = true)
    (sC : PySem.W.subIn K (.ref CE) (.ref CE) = some true) :
    ∃ fd : FuncData, (∀ (s : Shared) (v : Value), BindsTo s fd ⟨[v], []⟩ [("script", v)]) ∧ ∀ base : Heap, K.In base → base.Ns mainGlobals mg → FnOk l.prog w K mg base CX0 20 fa fd ["script"] (spLaw K) := by
  have e := hfa.symm.trans (PySem.W.mg_of X G a8)
  cases e
  have F0 := fun_mk (st := s_tape) l0 c0 k0
  have b0 := F0.binds (ps := ["script"]) fun _ _ _ _ _ _ us hl => match us, hl with | [_], _ => rfl
  have m0 := PySem.W.mg_of X G a0
  have F1 := fun_mk (st := s_take) l1 c1 k1
  have b1 := F1.binds (ps := ["tape", "many"]) fun _ _ _ _ _ _ us hl => match us, hl with | [_, _], _ => rfl
  have m1 := PySem.W.mg_of X G a1
  have F2 := fun_mk (st := s_isInt) l2 c2 k2
  have b2 := F2.binds (ps := ["actual"]) fun _ _ _ _ _ _ us hl => match us, hl with | [_], _ => rfl
  have m2 := PySem.W.mg_of X G a2
  have F3 := fun_mk (st := s_sameItems) l3 c3 k3
  have b3 := F3.binds (ps := ["actual", "expected"]) fun _ _ _ _ _ _ us hl => match us, hl with | [_, _], _ => rfl
  have m3 := PySem.W.mg_of X G a3
  have F4 := fun_mk (st := s_same) l4 c4 k4
  have b4 := F4.binds (ps := ["actual", "expected"]) fun _ _ _ _ _ _ us hl => match us, hl with | [_, _], _ => rfl
  have m4 := PySem.W.mg_of X G a4
  have F5 := fun_mk (st := s_l_compute) l5 c5 k5
  have b5 := F5.binds (ps := ["keeper", "key"]) fun _ _ _ _ _ _ us hl => match us, hl with | [_, _], _ => rfl
  have m5 := PySem.W.mg_of X G a5
  have F6 := fun_mk (st := s_l_key) l6 c6 k6
  have b6 := F6.binds (ps := ["tape"]) fun _ _ _ _ _ _ us hl => match us, hl with | [_], _ => rfl
  have m6 := PySem.W.mg_of X G a6
  have F7 := fun_mk (st := s_l_call) l7 c7 k7
  have b7 := F7.binds (ps := ["tape", "keeper", "inputs"]) fun _ _ _ _ _ _ us hl => match us, hl with | [_, _, _], _ => rfl
  have m7 := PySem.W.mg_of X G a7
  have F8 := fun_mk (st := s_law) l8 c8 k8
  have F9 := fun_mk (st := s_Run_init) l9 c9 k9
  have b9 := F9.binds (ps := ["self"]) fun _ _ _ _ _ _ us hl => match us, hl with | [_], _ => rfl
  have F10 := fun_mk (st := s_K_init) l10 c10 k10
  have b10 := F10.binds (ps := ["self", "compute"]) fun _ _ _ _ _ _ us hl => match us, hl with | [_, _], _ => rfl
  have F11 := fun_mk (st := s_K_put) l11 c11 k11
  have b11 := F11.binds (ps := ["self", "key", "value"]) fun _ _ _ _ _ _ us hl => match us, hl with | [_, _, _], _ => rfl
  have F12 := fun_mk (st := s_K_limit) l12 c12 k12
  have b12 := F12.binds (ps := ["self", "count"]) fun _ _ _ _ _ _ us hl => match us, hl with | [_, _], _ => rfl
  have F13 := fun_mk (st := s_K_forget) l13 c13 k13
  have b13 := F13.binds (ps := ["self", "key"]) fun _ _ _ _ _ _ us hl => match us, hl with | [_, _], _ => rfl
  have F14 := fun_mk (st := s_K_computed) l14 c14 k14
  have b14 := F14.binds (ps := ["self"]) fun _ _ _ _ _ _ us hl => match us, hl with | [_], _ => rfl
  have F15 := fun_mk (st := s_K_ask) l15 c15 k15
  have b15 := F15.binds (ps := ["self", "key"]) fun _ _ _ _ _ _ us hl => match us, hl with | [_, _], _ => rfl
  have F16 := fun_mk (st := s_K_entered) l16 c16 k16
  have b16 := F16.binds (ps := ["self", "key", "run"]) fun _ _ _ _ _ _ us hl => match us, hl with | [_, _, _], _ => rfl
  have F17 := fun_mk (st := s_K_wanted) l17 c17 k17
  have b17 := F17.binds (ps := ["self", "step"]) fun _ _ _ _ _ _ us hl => match us, hl with | [_, _], _ => rfl
  have F18 := fun_mk (st := s_K_is_checked) l18 c18 k18
  have b18 := F18.binds (ps := ["self", "key"]) fun _ _ _ _ _ _ us hl => match us, hl with | [_, _], _ => rfl
  have F19 := fun_mk (st := s_K_changed) l19 c19 k19
  have b19 := F19.binds (ps := ["self", "key"]) fun _ _ _ _ _ _ us hl => match us, hl with | [_, _], _ => rfl
  have F20 := fun_mk (st := s_K_begin) l20 c20 k20
  have b20 := F20.binds (ps := ["self"]) fun _ _ _ _ _ _ us hl => match us, hl with | [_], _ => rfl
  have F21 := fun_mk (st := s_K_end) l21 c21 k21
  have b21 := F21.binds (ps := ["self", "key", "value"]) fun _ _ _ _ _ _ us hl => match us, hl with | [_, _, _], _ => rfl
  refine ⟨PySem.W.fnOf "law" "law" (defArgs s_law) (defBody s_law) (defScope s_law) .none kV8 dc8 pm8 an8 cd8 ct8, fun s v => .of_eq rfl, fun base _ _ => ?_⟩
  have T : NmK K mg f5 CK CR CE := ⟨⟨(PySem.W.mg_none_of X G z0), (PySem.W.mg_none_of X G z1), (PySem.W.mg_none_of X G z2), (PySem.W.mg_none_of X G z3), (PySem.W.mg_none_of X G z4), (PySem.W.mg_none_of X G z5), (PySem.W.mg_none_of X G z6), (PySem.W.mg_none_of X G z7), (PySem.W.mg_none_of X G z8)⟩, ⟨pg1, hd1, po1, sa1⟩, ⟨pg2, hd2, po2, sa2⟩, n1, n2, n3, n4, n5, n6, n7, n8, nl, PySem.W.mg_of X G aCK, PySem.W.mg_of X G aCR, PySem.W.mg_of X G a5, PySem.W.mg_of X G aCE, bI, tI, kI, xI, exm_of bI iC tI sC⟩
  have M_K : KM K CK := ⟨⟨⟨_, _, F15, ⟨a15, i15, k15⟩, b15⟩⟩, ⟨⟨_, _, F16, ⟨a16, i16, k16⟩, b16⟩⟩, ⟨⟨_, _, F17, ⟨a17, i17, k17⟩, b17⟩⟩, ⟨⟨_, _, F18, ⟨a18, i18, k18⟩, b18⟩⟩, ⟨⟨_, _, F19, ⟨a19, i19, k19⟩, b19⟩⟩, ⟨⟨_, _, F20, ⟨a20, i20, k20⟩, b20⟩⟩, ⟨⟨_, _, F21, ⟨a21, i21, k21⟩, b21⟩⟩⟩
  have I_Run : CalO l.prog w K mg base CX0 1 CR (spRunI CR) := ⟨⟨_, _, _, ok_Run_init F9 T, ⟨mk2, a9, i9, kc2⟩, b9⟩⟩
  have I_Keeper : CalO l.prog w K mg base CX0 1 CK (spKI vxx CK CR f5) := ⟨⟨_, _, _, ok_K_init F10 T, ⟨mk1, a10, i10, kc1⟩, b10⟩⟩
  have C_Keeper_put : CalM l.prog w K mg base CX0 1 CK "put" (spPut vxx CK CR f5) := ⟨⟨_, _, _, ok_put F11 T, ⟨a11, i11, k11⟩, b11⟩⟩
  have C_Keeper_limit : CalM l.prog w K mg base CX0 1 CK "limit" (spLim vxx CK CR f5) := ⟨⟨_, _, _, ok_limit F12 T, ⟨a12, i12, k12⟩, b12⟩⟩
  have C_Keeper_forget : CalM l.prog w K mg base CX0 1 CK "forget" (spFor vxx CK CR f5) := ⟨⟨_, _, _, ok_forget F13 T, ⟨a13, i13, k13⟩, b13⟩⟩
  have C_Keeper_computed : CalM l.prog w K mg base CX0 1 CK "computed" (spCom vxx CK CR f5) := ⟨⟨_, _, _, ok_computed F14 T, ⟨a14, i14, k14⟩, b14⟩⟩
  have C_Keeper_ask : CalM l.prog w K mg base (L2.CX l.prog w) 13 CK "ask" (spAsk vxx Gk comp CK CR CE f5 5) := ask_all T M_K I_Run F5 b5 5
  have C_law_tape : Cal l.prog w K mg base CX0 1 "_law_tape" (spTape K) := ⟨_, _, _, ok_tape F0 T.toNm, m0, F0.kp, b0⟩
  have C_law_take : Cal l.prog w K mg base CX0 1 "_law_take" spTake := ⟨_, _, _, ok_take F1 T.toNm, m1, F1.kp, b1⟩
  have C_law_is_integer : Cal l.prog w K mg base CX0 1 "_law_is_integer" spIsInt := ⟨_, _, _, ok_isInt F2 T.toNm, m2, F2.kp, b2⟩
  have C_law_same : Cal l.prog w K mg base CX0 8 "_law_same" (spSame 4) := both F4 b4 m4 F3 b3 m3 T.toNm C_law_is_integer 4
  have C_law_key : Cal l.prog w K mg base CX0 2 "_law_key" spKey := ⟨_, _, _, ok_l_key F6 T C_law_take, m6, F6.kp, b6⟩
  have C_law_call : Cal l.prog w K mg base CX0 14 "_law_call" (spCall CK CR f5) := ⟨_, _, _, ok_l_call F7 T C_law_take C_law_key C_Keeper_put C_Keeper_limit C_Keeper_forget C_Keeper_ask, m7, F7.kp, b7⟩
  exact ok_law F8 T (fun z => by simp [z] at nkr) C_law_tape C_law_take C_law_same C_law_key C_law_call I_Keeper C_Keeper_put C_Keeper_limit C_Keeper_computed C_Keeper_ask
theorem walk {l : PySem.W.OpenLaw} {q : Program} {loose : List Str} {XP : (Str → Option Value) → Heap → Prop} {YP : World → Heap → Prop} {d : DefRec} {K : Params → PySem.W.Frag} (hn : l.most = some 63) (hdf : d.params.defaults = [])
    (hY : ∀ (w : World) (h : Heap), YP w h → (K w.params).In h)
    (F : ∀ (w : World) (mg : Str → Option Value) (fa : Addr) (h : Heap), (K w.params).In h → h.Ns mainGlobals mg → mg d.name = some (.ref fa) →
      ∃ fd : FuncData, (∀ (s : Shared) (u : Value), BindsTo s fd ⟨[u], []⟩ [("script", u)]) ∧ ∀ base : Heap, (K w.params).In base → base.Ns mainGlobals mg → FnOk l.prog w (K w.params) mg base CX0 20 fa fd ["script"] (spLaw (K w.params))) :
    PySem.W.WalkO q loose XP YP l.row.toRowW d [] (fun f vs => PySem.call f vs) :=
  L2.walk_of (n := 63) (k := 20) (x := "script") (CX := fun _ => CX0) (sp := fun w => spLaw (K w.params)) hn (by decide) hdf ⟨rfl, by decide, by decide⟩ hY F (fun _ _ a ns hl _ hS => ⟨a, ns, rfl, hS, hl, fun _ => rfl⟩) fun _ _ _ _ _ z => z
end Sn
open PySem PySem.W PyProof.Rows
set_option maxRecDepth 100000 in
set_option maxHeartbeats 0 in
theorem PySem.Challenge.cw_samenames_k21_kept_values_are_fresh_holds : PySem.Challenge.rw_samenames_k21_kept_values_are_fresh.Holds := by
  w_on; o_law; k_head; (case hw => w_witness2)
  k_fill
  refine Sn.walk (l := PySem.Challenge.rw_samenames_k21_kept_values_are_fresh) rfl rfl (fun w h Y => PySem.W.kIn_of Y) ?F
  case F =>
    intro w mg fa h KX G hmg
    refine' Sn.all_mk KX G hmg ?a0 ?l0 ?c0 ?k0 ?a1 ?l1 ?c1 ?k1 ?a2 ?l2 ?c2 ?k2 ?a3 ?l3 ?c3 ?k3 ?a4 ?l4 ?c4 ?k4 ?a5 ?l5 ?c5 ?k5 ?a6 ?l6 ?c6 ?k6 ?a7 ?l7 ?c7 ?k7 ?a8 ?l8 ?c8 ?k8 ?a9 ?i9 ?l9 ?c9 ?k9 ?a10 ?i10 ?l10 ?c10 ?k10 ?a11 ?i11 ?l11 ?c11 ?k11 ?a12 ?i12 ?l12 ?c12 ?k12 ?a13 ?i13 ?l13 ?c13 ?k13 ?a14 ?i14 ?l14 ?c14 ?k14 ?a15 ?i15 ?l15 ?c15 ?k15 ?a16 ?i16 ?l16 ?c16 ?k16 ?a17 ?i17 ?l17 ?c17 ?k17 ?a18 ?i18 ?l18 ?c18 ?k18 ?a19 ?i19 ?l19 ?c19 ?k19 ?a20 ?i20 ?l20 ?c20 ?k20 ?a21 ?i21 ?l21 ?c21 ?k21 ?z0 ?z1 ?z2 ?z3 ?z4 ?z5 ?z6 ?z7 ?z8 ?aCK ?aCR ?aCE ?pg1 ?hd1 ?po1 ?sa1 ?mk1 ?kc1 ?pg2 ?hd2 ?po2 ?sa2 ?mk2 ?kc2 ?n1 ?n2 ?n3 ?n4 ?n5 ?n6 ?n7 ?n8 ?nl ?nkr ?xI ?kI ?bI ?tI ?iC ?sC
    (case aCK => k_is)
    (case aCR => k_is)
    (case aCE => k_is)
    (case pg1 => k_is)
    (case hd1 => k_is)
    (case po1 => k_is)
    (case sa1 => k_is)
    (case mk1 => k_is)
    (case kc1 => k_is)
    (case pg2 => k_is)
    (case hd2 => k_is)
    (case po2 => k_is)
    (case sa2 => k_is)
    (case mk2 => k_is)
    (case kc2 => k_is)
    (case n1 => k_is)
    (case n2 => k_is)
    (case n3 => k_is)
    (case n4 => k_is)
    (case n5 => k_is)
    (case n6 => k_is)
    (case n7 => k_is)
    (case n8 => k_is)
    (case nl => k_is)
    (case nkr => first | rfl | decide +kernel)
    (case xI => k_exc)
    (case kI => k_is)
    (case bI => k_is)
    (case tI => k_is)
    (case iC => k_is)
    (case sC => k_is)
    (case a0 => k_is)
    (case l0 => k_is)
    (case c0 => k_is)
    (case k0 => k_is)
    (case a1 => k_is)
    (case l1 => k_is)
    (case c1 => k_is)
    (case k1 => k_is)
    (case a2 => k_is)
    (case l2 => k_is)
    (case c2 => k_is)
    (case k2 => k_is)
    (case a3 => k_is)
    (case l3 => k_is)
    (case c3 => k_is)
    (case k3 => k_is)
    (case a4 => k_is)
    (case l4 => k_is)
    (case c4 => k_is)
    (case k4 => k_is)
    (case a5 => k_is)
    (case l5 => k_is)
    (case c5 => k_is)
    (case k5 => k_is)
    (case a6 => k_is)
    (case l6 => k_is)
    (case c6 => k_is)
    (case k6 => k_is)
    (case a7 => k_is)
    (case l7 => k_is)
    (case c7 => k_is)
    (case k7 => k_is)
    (case a8 => k_is)
    (case l8 => k_is)
    (case c8 => k_is)
    (case k8 => k_is)
    (case a9 => k_is)
    (case i9 => k_is)
    (case l9 => k_is)
    (case c9 => k_is)
    (case k9 => k_is)
    (case a10 => k_is)
    (case i10 => k_is)
    (case l10 => k_is)
    (case c10 => k_is)
    (case k10 => k_is)
    (case a11 => k_is)
    (case i11 => k_is)
    (case l11 => k_is)
    (case c11 => k_is)
    (case k11 => k_is)
    (case a12 => k_is)
    (case i12 => k_is)
    (case l12 => k_is)
    (case c12 => k_is)
    (case k12 => k_is)
    (case a13 => k_is)
    (case i13 => k_is)
    (case l13 => k_is)
    (case c13 => k_is)
    (case k13 => k_is)
    (case a14 => k_is)
    (case i14 => k_is)
    (case l14 => k_is)
    (case c14 => k_is)
    (case k14 => k_is)
    (case a15 => k_is)
    (case i15 => k_is)
    (case l15 => k_is)
    (case c15 => k_is)
    (case k15 => k_is)
    (case a16 => k_is)
    (case i16 => k_is)
    (case l16 => k_is)
    (case c16 => k_is)
    (case k16 => k_is)
    (case a17 => k_is)
    (case i17 => k_is)
    (case l17 => k_is)
    (case c17 => k_is)
    (case k17 => k_is)
    (case a18 => k_is)
    (case i18 => k_is)
    (case l18 => k_is)
    (case c18 => k_is)
    (case k18 => k_is)
    (case a19 => k_is)
    (case i19 => k_is)
    (case l19 => k_is)
    (case c19 => k_is)
    (case k19 => k_is)
    (case a20 => k_is)
    (case i20 => k_is)
    (case l20 => k_is)
    (case c20 => k_is)
    (case k20 => k_is)
    (case a21 => k_is)
    (case i21 => k_is)
    (case l21 => k_is)
    (case c21 => k_is)
    (case k21 => k_is)
    (case z0 => k_is)
    (case z1 => k_is)
    (case z2 => k_is)
    (case z3 => k_is)
    (case z4 => k_is)
    (case z5 => k_is)
    (case z6 => k_is)
    (case z7 => k_is)
    (case z8 => k_is)
