import PyProof.Rows.All
import Wide.All
import OpenK.AllK
import Wide.FinOn
import PyProof.EqAt
import PyProof.EqKinds
import PyProof.TupleCall
import HandS.ForMost
import HandS.IsInst
import HandS.StrMore
import HandS.Codes
import HandS.Style
import HandS.Exc
import HandS.ExcOwn
import HandS.TryOnly
import HandS.ExcIs
import HandS.WordsExc
import HandS.Hot
import HandS.HotCalls
import HandS.ExcCtx
import HandS.Replace
import HandS.ReplaceLit
import HandS.ExcInit
import HandS.ExcField
import HandS.WrittenGet
import KE.KExcIs
import KE.GoesNew
import KE.GoesMore
import KE.GoesEnum
import HandS.Iter
import PyProof.RulesMatch
import PySem.Challenge.RW_samenames_k50_printed_values_are_read_ba
set_option Elab.async false
set_option linter.all false
set_option maxRecDepth 100000
set_option maxHeartbeats 4000000
/-! My own words over the hand layer: calls by name, heaps but for one place, texts, data. -/
namespace Sn
open PySem PySem.Spec PyProof.Rows L2

/-- a def that may be called by its name -/
structure Cal (P : Program) (w : World) (K : PySem.W.Frag) (mg : Str → Option Value) (base : Heap) (CX : CXT) (k : Nat) (x : Str) (sp : Sp) : Prop where
  ex : ∃ (f : Addr) (fd : FuncData) (ps : List Str), FnOk P w K mg base CX k f fd ps sp ∧ mg x = some (.ref f) ∧ PySem.W.keepIn K (.ref f) = true ∧ Binds K fd ps []
section
variable {X : Cx} {k j : Nat} {x : Str} {sp : Sp} {p pos : Pos} {e : Expr} {es : List Expr} {t : TA} {CX : CXT} {E : XK}
theorem pe_c (c : Cal X.prog X.w X.K X.mg X.base CX k x sp) (hr : Room j X.A) (hk : k ≤ j) (hx : Passes CX X E) (ha : PA X (e :: es) t) (hg : Gl X x := by rfl)
    (hdb : (x == ("__debug__" : Str)) = false := by decide) (he : starEach (e :: es) X.env = (false, eval e X.env) :: starEach es X.env := by rfl) (hpl : (backTo pos (starEach es X.env)).any (·.1) = false := by rfl) :
    PE X (.Call (.Name x p) (e :: es) [] pos) (tCall sp [] E t) := by
  obtain ⟨f, fd, ps, F, hm, kp, b⟩ := c.ex
  exact pe_call F (hr.mono hk) hg hm kp b .nil hx ha hdb he hpl
end

/-! ### displays of many written texts -/
def strOf : Expr → Option Str
  | .Constant (.str x) _ _ => some x
  | _ => none
def strsOf : List Expr → Option (List Str)
  | [] => some []
  | e :: r => match strOf e, strsOf r with
    | some x, some l => some (x :: l)
    | _, _ => none
theorem starEach_strs {env : Env} : ∀ {es : List Expr} {l : List Str}, strsOf es = some l → ∀ {e : Expr} {x : Str}, strOf e = some x → starEach (e :: es) env = (false, eval e env) :: starEach es env := by
  intro es l h e x hx
  unfold strOf at hx
  split at hx
  · rfl
  · cases hx
theorem pa_strsL {X : Cx} : ∀ (es : List Expr) (l : List Str), strsOf es = some l → PA X es (fun _ H Q => Q (l.map V.str) H)
  | [], l, h => by
    have e : l = [] := (Option.some.inj h).symm
    subst e
    exact pa_nil
  | e :: r, l, h => by
    unfold strsOf at h
    split at h
    · rename_i x m hx hm
      have el : l = x :: m := (Option.some.inj h).symm
      subst el
      have q := pa_strsL (X := X) r m hm
      have hs := starEach_strs (env := X.env) hm hx
      unfold strOf at hx
      split at hx
      · rename_i x' j pos
        have ex : x' = x := Option.some.inj hx
        subst ex
        exact pa_cons (te := tC (.str x')) (t := fun _ H Q => Q (m.map V.str) H) pe_str q hs
      · cases hx
    · cases h
theorem pa_strs {X : Cx} {es : List Expr} (l : List Str) (h : strsOf es = some l := by rfl) : PA X es (fun _ H Q => Q (l.map V.str) H) := pa_strsL es l h

/-! ### heaps -/
/-- all that was tracked but the object at t is as it was -/
def But (t : Addr) (H H' : Hp) : Prop := ∀ b o, b ≠ t → H b = some o → H' b = some o
theorem But.refl (t : Addr) (H : Hp) : But t H H := fun _ _ _ h => h
theorem But.trans {t : Addr} {H H1 H2 : Hp} (a : But t H H1) (b : But t H1 H2) : But t H H2 := fun c o n h => b c o n (a c o n h)
theorem But.of {t : Addr} {H H' : Hp} (s : Same H H') : But t H H' := fun b o _ h => s b o h
theorem same_new {H : Hp} {p : Addr} {o : HO} (h : H p = none) : Same H (upd H p o) := fun b u q => by
  rw [upd_ne (ne_of_none q h)]
  exact q
theorem But.upd {t : Addr} {H H1 : Hp} {o : HO} (b : But t H H1) : But t H (upd H1 t o) := fun c u n h => by
  rw [upd_ne n]
  exact b c u n h

/-! ### the tape -/
def tk (c : Addr) (a l se sa : Int) : List (Key × V) := [(.inr "cells", .ref c), (.inr "at", .int a), (.inr "left", .int l), (.inr "seed", .int se), (.inr "salt", .int sa)]
structure TkAt (H : Hp) (t c : Addr) (cs : List Int) (a l se sa : Int) : Prop where
  d : H t = some (.dK (tk c a l se sa))
  cl : H c = some (.lst (cs.map V.int))
  cp : ∀ x ∈ cs, 0 ≤ x
  a0 : 0 ≤ a
  l0 : 0 ≤ l
  s0 : 0 ≤ se
  s1 : se < 2147483647
/-- a tape stands at t -/
def Tp (H : Hp) (t c : Addr) : Prop := ∃ cs a l se sa, TkAt H t c cs a l se sa
theorem TkAt.ne {H : Hp} {t c : Addr} {cs : List Int} {a l se sa : Int} (z : TkAt H t c cs a l se sa) : c ≠ t := ne_of z.cl z.d (by intro q; cases q)
theorem Tp.same {H H' : Hp} {t c : Addr} (s : Same H H') : Tp H t c → Tp H' t c := fun ⟨cs, a, l, se, sa, z⟩ => ⟨cs, a, l, se, sa, s _ _ z.d, s _ _ z.cl, z.cp, z.a0, z.l0, z.s0, z.s1⟩
theorem Tp.ne {H : Hp} {t c b : Addr} (z : Tp H t c) {o : HO} (h : H b = some o) (hn : ∀ kvs, o ≠ .dK kvs) : b ≠ t := by
  obtain ⟨cs, a, l, se, sa, z⟩ := z
  exact ne_of h z.d (hn _)
theorem Tp.nt {H : Hp} {t c b : Addr} (z : Tp H t c) (h : H b = none) : t ≠ b := by
  obtain ⟨cs, a, l, se, sa, z⟩ := z
  exact ne_of_none z.d h
theorem Tp.nc {H : Hp} {t c b : Addr} (z : Tp H t c) (h : H b = none) : c ≠ b := by
  obtain ⟨cs, a, l, se, sa, z⟩ := z
  exact ne_of_none z.cl h
theorem Tp.upd {H : Hp} {t c b : Addr} {o : HO} (z : Tp H t c) (h1 : t ≠ b) (h2 : c ≠ b) : Tp (upd H b o) t c := by
  obtain ⟨cs, a, l, se, sa, z⟩ := z
  exact ⟨cs, a, l, se, sa, by rw [upd_ne h1]; exact z.d, by rw [upd_ne h2]; exact z.cl, z.cp, z.a0, z.l0, z.s0, z.s1⟩
theorem Tp.new {H : Hp} {t c b : Addr} {o : HO} (z : Tp H t c) (h : H b = none) : Tp (L2.upd H b o) t c := z.upd (z.nt h) (z.nc h)
section
variable {c : Addr} {a l se sa v : Int}
theorem g_cells : valV (tk c a l se sa) (.inr "cells") = some (.ref c) := by kernel_rfl
theorem g_at : valV (tk c a l se sa) (.inr "at") = some (.int a) := by kernel_rfl
theorem g_left : valV (tk c a l se sa) (.inr "left") = some (.int l) := by kernel_rfl
theorem g_seed : valV (tk c a l se sa) (.inr "seed") = some (.int se) := by kernel_rfl
theorem g_salt : valV (tk c a l se sa) (.inr "salt") = some (.int sa) := by kernel_rfl
theorem p_at : putK (tk c a l se sa) (.inr "at") (.int v) = tk c v l se sa := by kernel_rfl
theorem p_left : putK (tk c a l se sa) (.inr "left") (.int v) = tk c a v se sa := by kernel_rfl
theorem p_salt : putK (tk c a l se sa) (.inr "salt") (.int v) = tk c a l se v := by kernel_rfl
theorem tk_len : (tk c a l se sa).length < sizeLine := by
  show 5 < sizeLine
  decide
end
section
variable {H : Hp} {t c : Addr} {cs : List Int} {a l se sa v : Int}
theorem TkAt.dg (z : TkAt H t c cs a l se sa) {k : Key} {x : V} (h : valV (tk c a l se sa) k = some x) : DGet H t (kV k) (some x) := h ▸ DGet.k z.d
theorem TkAt.sAt (z : TkAt H t c cs a l se sa) (hv : 0 ≤ v) : TkAt (upd H t (.dK (tk c v l se sa))) t c cs v l se sa :=
  ⟨upd_same, by rw [upd_ne z.ne]; exact z.cl, z.cp, hv, z.l0, z.s0, z.s1⟩
theorem TkAt.sLeft (z : TkAt H t c cs a l se sa) (hv : 0 ≤ v) : TkAt (upd H t (.dK (tk c a v se sa))) t c cs a v se sa :=
  ⟨upd_same, by rw [upd_ne z.ne]; exact z.cl, z.cp, z.a0, hv, z.s0, z.s1⟩
theorem TkAt.sSalt (z : TkAt H t c cs a l se sa) : TkAt (upd H t (.dK (tk c a l se v))) t c cs a l se v :=
  ⟨upd_same, by rw [upd_ne z.ne]; exact z.cl, z.cp, z.a0, z.l0, z.s0, z.s1⟩
theorem TkAt.pAt (z : TkAt H t c cs a l se sa) : DPut H t (.str "at") (.int v) (upd H t (.dK (tk c v l se sa))) := p_at (c := c) (a := a) (l := l) (se := se) (sa := sa) (v := v) ▸ DPut.k (k := .inr "at") z.d tk_len
theorem TkAt.pLeft (z : TkAt H t c cs a l se sa) : DPut H t (.str "left") (.int v) (upd H t (.dK (tk c a v se sa))) := p_left (c := c) (a := a) (l := l) (se := se) (sa := sa) (v := v) ▸ DPut.k (k := .inr "left") z.d tk_len
theorem TkAt.pSalt (z : TkAt H t c cs a l se sa) : DPut H t (.str "salt") (.int v) (upd H t (.dK (tk c a l se v))) := p_salt (c := c) (a := a) (l := l) (se := se) (sa := sa) (v := v) ▸ DPut.k (k := .inr "salt") z.d tk_len
end

/-! ### texts -/
/-- a sign that may stand in a text -/
def okc (c : Nat) : Bool := c == 10 || (decide (32 ≤ c) && decide (c ≤ 126) && c != 37)
def OkT (z : Str) : Prop := ∀ c ∈ z.cps.toList, okc c = true
def okT (z : Str) : Bool := z.cps.toList.all okc
theorem OkT.of {z : Str} (h : okT z = true) : OkT z := List.all_eq_true.mp h
theorem OkT.append {x y : Str} (a : OkT x) (b : OkT y) : OkT (x ++ y) := fun c h => by
  rw [show (x ++ y).cps.toList = x.cps.toList ++ y.cps.toList from TL.tl_append x y] at h
  rcases List.mem_append.mp h with h | h
  · exact a c h
  · exact b c h
theorem joinL_nil : ∀ l : List (List Nat), TL.joinL [] l = l.flatten
  | [] => rfl
  | [p] => by simp [TL.joinL]
  | p :: q :: r => by
    show p ++ ([] ++ TL.joinL [] (q :: r)) = _
    rw [joinL_nil (q :: r), List.nil_append] <;> rfl
theorem tl_join0 (y : Str) (hy : TL.tl y = []) (l : List Str) : TL.tl (Txt.join y l) = (l.map TL.tl).flatten := by
  rw [TL.join_eq, TL.tl_join, hy, joinL_nil]
theorem OkT.join {y : Str} (hy : TL.tl y = []) {l : List Str} (h : ∀ z ∈ l, OkT z) : OkT (Txt.join y l) := fun c hc => by
  rw [show (Txt.join y l).cps.toList = (l.map TL.tl).flatten from tl_join0 y hy l] at hc
  obtain ⟨m, hm, hc⟩ := List.mem_flatten.mp hc
  obtain ⟨z, hz, rfl⟩ := List.mem_map.mp hm
  exact h z hz c hc
theorem sum_len_le {n : Nat} : ∀ {l : List Str}, (∀ z ∈ l, z.length ≤ n) → (l.map (·.length)).sum ≤ n * l.length
  | [], _ => by simp
  | z :: r, h => by
    have ih := sum_len_le (l := r) fun y hy => h y (List.mem_cons_of_mem _ hy)
    have h0 := h z List.mem_cons_self
    rw [List.map_cons, List.sum_cons, List.length_cons, Nat.mul_add]
    omega
theorem flat_len : ∀ l : List Str, ((l.map TL.tl).flatten).length = (l.map (·.length)).sum
  | [] => rfl
  | z :: r => by
    rw [List.map_cons, List.flatten_cons, List.length_append, flat_len r, List.map_cons, List.sum_cons, TL.len_tl z]
theorem join_len (y : Str) (hy : TL.tl y = []) (l : List Str) : (Txt.join y l).length = (l.map (·.length)).sum := by
  rw [TL.len_tl, tl_join0 y hy, flat_len]
theorem small {n : Nat} (h : n ≤ 1000000) : n ≤ sizeLine := Nat.le_trans h (by decide)

/-! ### data that are equal -/
def sca : V → Bool
  | .non => true
  | .bl _ => true
  | .int _ => true
  | .str _ => true
  | _ => false
def Al (H : Hp) : Nat → V → V → Prop
  | 0, _, _ => False
  | n + 1, x, y => (x = y ∧ sca x = true) ∨
    (∃ a b xs ys, x = .ref a ∧ y = .ref b ∧ H a = some (.tup xs) ∧ H b = some (.tup ys) ∧ xs.length = ys.length ∧ xs.length ≤ 1000000 ∧ ∀ (i : Nat) (u v : V), xs[i]? = some u → ys[i]? = some v → Al H n u v) ∨
    (∃ a b xs ys, x = .ref a ∧ y = .ref b ∧ H a = some (.lst xs) ∧ H b = some (.lst ys) ∧ xs.length = ys.length ∧ xs.length ≤ 1000000 ∧ ∀ (i : Nat) (u v : V), xs[i]? = some u → ys[i]? = some v → Al H n u v)
theorem Al.sc {H : Hp} {n : Nat} {x : V} (h : sca x = true) : Al H (n + 1) x x := .inl ⟨rfl, h⟩
theorem Al.same {H H' : Hp} (s : Same H H') : ∀ {n : Nat} {x y : V}, Al H n x y → Al H' n x y
  | 0, _, _, h => h
  | n + 1, x, y, h => by
    rcases h with h | ⟨a, b, xs, ys, e1, e2, h1, h2, hl, hm, h⟩ | ⟨a, b, xs, ys, e1, e2, h1, h2, hl, hm, h⟩
    · exact .inl h
    · exact .inr (.inl ⟨a, b, xs, ys, e1, e2, s _ _ h1, s _ _ h2, hl, hm, fun i u v p q => Al.same s (h i u v p q)⟩)
    · exact .inr (.inr ⟨a, b, xs, ys, e1, e2, s _ _ h1, s _ _ h2, hl, hm, fun i u v p q => Al.same s (h i u v p q)⟩)
theorem Al.tup {H : Hp} {n : Nat} {a b : Addr} {xs ys : List V} (h1 : H a = some (.tup xs)) (h2 : H b = some (.tup ys)) (hl : xs.length = ys.length) (hm : xs.length ≤ 1000000) (h : ∀ (i : Nat) (u v : V), xs[i]? = some u → ys[i]? = some v → Al H n u v) : Al H (n + 1) (.ref a) (.ref b) :=
  .inr (.inl ⟨a, b, xs, ys, rfl, rfl, h1, h2, hl, hm, h⟩)
theorem Al.lst {H : Hp} {n : Nat} {a b : Addr} {xs ys : List V} (h1 : H a = some (.lst xs)) (h2 : H b = some (.lst ys)) (hl : xs.length = ys.length) (hm : xs.length ≤ 1000000) (h : ∀ (i : Nat) (u v : V), xs[i]? = some u → ys[i]? = some v → Al H n u v) : Al H (n + 1) (.ref a) (.ref b) :=
  .inr (.inr ⟨a, b, xs, ys, rfl, rfl, h1, h2, hl, hm, h⟩)
/-- two tuples (lists) of the same plain values -/
theorem al_eq {H : Hp} {n : Nat} {xs : List V} (h : xs.all sca = true) : ∀ (i : Nat) (u v : V), xs[i]? = some u → xs[i]? = some v → Al H (n + 1) u v := fun i u v p q => by
  have e : u = v := Option.some.inj (p.symm.trans q)
  subst e
  exact Al.sc (List.all_eq_true.mp h u (List.mem_of_getElem? p))

/-! ### tests -/
theorem iteP {p A B : Prop} [Decidable p] (hp : p) (h : A) : if decide p = true then A else B := by
  rw [if_pos (decide_eq_true hp)]
  exact h
theorem iteN {p A B : Prop} [Decidable p] (hp : ¬ p) (h : B) : if decide p = true then A else B := by
  rw [if_neg (by rw [decide_eq_false hp]; exact Bool.false_ne_true)]
  exact h
theorem iteNN {p A B : Prop} [Decidable p] (hp : ¬ p) (h : A) : if (!decide p) = true then A else B := by
  rw [decide_eq_false hp]
  exact iteT h
theorem qP {p : Prop} [Decidable p] {Q : VK} {H : Hp} (hp : p) (h : Q (.bl true) H) : Q (.bl (decide p)) H := by
  rw [decide_eq_true hp]
  exact h
theorem none_left {P : Program} {w : World} {K : PySem.W.Frag} {mg : Str → Option Value} {base : Heap} {f : Addr} {fd : FuncData} {ps : List Str} {sp : Sp} (no : ∀ vs H Q E, ¬ sp vs H Q E) : FnOk P w K mg base CX0 0 f fd ps sp :=
  ⟨fun vs H Q E h => absurd h (no vs H Q E), fun A outer s H args us vs Q E _ _ _ _ h => absurd h (no vs H Q E)⟩

/-! ### promises of the law's own helpers -/
def spTape (K : PySem.W.Frag) : Sp := fun vs H Q _ => ∃ (a : Addr) (ns : List Int), vs = [.ref a] ∧ SqL K H a (ns.map V.int) ∧ ns.length ≤ 63 ∧ ∀ t c H', Same H H' → H t = none → H c = none → Tp H' t c → Q (.ref t) H'
def spTake : Sp := fun vs H Q _ => ∃ (t c : Addr) (n : Int), vs = [.ref t, .int n] ∧ Tp H t c ∧ 0 < n ∧ n < 1073741824 ∧ ∀ (r : Int) H', 0 ≤ r → r < n → But t H H' → Tp H' t c → Q (.int r) H'
def spIsInt : Sp := fun vs H Q _ => ∃ i : Int, vs = [.int i] ∧ Q (.bl true) H
def spSame (n : Nat) : Sp := fun vs H Q _ => ∃ x y, vs = [x, y] ∧ Al H n x y ∧ Q (.bl true) H
def spItems (n : Nat) : Sp := fun vs H Q _ => ∃ a b xs ys, vs = [.ref a, .ref b] ∧ ((H a = some (.tup xs) ∧ H b = some (.tup ys)) ∨ (H a = some (.lst xs) ∧ H b = some (.lst ys))) ∧ xs.length = ys.length ∧ xs.length ≤ 1000000 ∧
  (∀ (i : Nat) (u v : V), xs[i]? = some u → ys[i]? = some v → Al H n u v) ∧ Q (.bl true) H
def spSnippet : Sp := fun vs H Q _ => ∃ t c, vs = [.ref t] ∧ Tp H t c ∧ ∀ z H', OkT z → z.length ≤ 45 → But t H H' → Tp H' t c → Q (.str z) H'
def spChar : Sp := fun vs H Q _ => ∃ t c, vs = [.ref t] ∧ Tp H t c ∧ ∀ z H', OkT z → z.length = 1 → But t H H' → Tp H' t c → Q (.str z) H'
def spAny : Sp := fun vs H Q _ => ∃ (t c : Addr) (m : Nat), vs = [.ref t, .int m] ∧ Tp H t c ∧ m ≤ 100 ∧ ∀ z H', OkT z → z.length ≤ 45 * m → But t H H' → Tp H' t c → Q (.str z) H'

/-! ### a text walked sign by sign -/
theorem for_str {x : Str} {g : TG} {tb : TS} {D : Ends} {σ : L2.St} {H : Hp} (Pv : Nat → L2.St → Hp → Prop) (h0 : Pv 0 σ H)
    (hs : ∀ i c σ H, x.cps.toList[i]? = some c → Pv i σ H → g (.str ⟨#[c]⟩) σ H fun σ2 H2 => tb { D with nx := Pv (i + 1), ct := Pv (i + 1), bk := D.nx } σ2 H2) (hd : ∀ σ H, Pv x.cps.toList.length σ H → D.nx σ H) :
    ∃ W : Nat → Nat → L2.St → Hp → Prop, (∃ m, W 0 m σ H) ∧ ∀ i m σ H, W i m σ H →
      ((Its x).stop i H ∧ D.nx σ H) ∨ ((Its x).go i H ∧ ∃ Nx : L2.St → Hp → Prop, (∀ σ' H', Nx σ' H' → ∃ m', m' < m ∧ W (i + 1) m' σ' H') ∧ ∀ y H', (Its x).yld i H y H' → g y σ H' fun σ2 H2 => tb { D with nx := Nx, ct := Nx, bk := D.nx } σ2 H2) := by
  refine ⟨fun i m σ H => m = x.cps.toList.length - i ∧ i ≤ x.cps.toList.length ∧ Pv i σ H, ⟨x.cps.toList.length, by simp, Nat.zero_le _, h0⟩, ?_⟩
  rintro i m σ H ⟨rfl, hi, p⟩
  have hsz : x.cps.toList.length = x.cps.size := Array.length_toList
  by_cases hlt : i < x.cps.toList.length
  · refine .inr ⟨by show i < x.cps.size; omega, Pv (i + 1), fun σ' H' p' => ⟨x.cps.toList.length - (i + 1), by omega, rfl, hlt, p'⟩, fun y H' z => ?_⟩
    obtain ⟨e, c, hc, z⟩ := z
    subst e z
    exact hs i c σ _ (by rw [Array.getElem?_toList]; exact hc) p
  · have e : i = x.cps.toList.length := by omega
    subst e
    exact .inl ⟨by show x.cps.size ≤ _; omega, hd σ H p⟩
/-! ### a while by an invariant and a measure -/
theorem while_m {c : TT} {tb : TS} {D : Ends} {σ : L2.St} {H : Hp} (Pv : L2.St → Hp → Prop) (μ : L2.St → Hp → Nat) (h0 : Pv σ H)
    (hs : ∀ σ H, Pv σ H → c σ H fun b H1 => if b = true then ∃ N : L2.St → Hp → Prop, (∀ σ' H', N σ' H' → ∃ m', m' < μ σ H ∧ m' = μ σ' H' ∧ Pv σ' H') ∧ tb { D with nx := N, ct := N, bk := D.nx } σ H1 else D.nx σ H1) : tWhile c tb D σ H :=
  ⟨fun m σ H => m = μ σ H ∧ Pv σ H, ⟨_, rfl, h0⟩, fun m σ H h => by
    obtain ⟨rfl, p⟩ := h
    exact hs σ H p⟩
theorem wN {Pv : L2.St → Hp → Prop} {μ : L2.St → Hp → Nat} {k : Nat} {tb : TS} {D : Ends} {σ : L2.St} {H1 : Hp} (h : tb { D with nx := fun σ' H' => Pv σ' H' ∧ μ σ' H' < k, ct := fun σ' H' => Pv σ' H' ∧ μ σ' H' < k, bk := D.nx } σ H1) :
    ∃ N : L2.St → Hp → Prop, (∀ σ' H', N σ' H' → ∃ m', m' < k ∧ m' = μ σ' H' ∧ Pv σ' H') ∧ tb { D with nx := N, ct := N, bk := D.nx } σ H1 := ⟨_, fun _ _ n => ⟨_, n.2, rfl, n.1⟩, h⟩
def spLaw (K : PySem.W.Frag) : Sp := fun vs H Q _ => ∃ (a : Addr) (ns : List Int), vs = [.ref a] ∧ SqL K H a (ns.map V.int) ∧ ns.length ≤ 63 ∧ ∀ H', Q (.bl true) H'
end Sn

/-! Mathematics of texts: counting a sign, the last one, lines, cuts. -/
namespace Sn
open PySem PySem.Spec PyProof.Rows L2 PySem.StrLaws PySem.Builtin.Str TL
abbrev strL (l : List Nat) : Str := ⟨l.toArray⟩
/-! ### cuts -/
theorem tl_cut (z : Str) (lo hi : Option Int) : tl (cutS z lo hi) = ((tl z).drop (HT.sIx z.length 0 lo)).take (HT.sIx z.length z.length hi - HT.sIx z.length 0 lo) := rfl
theorem tl_cut_to (z : Str) (o : Nat) : tl (cutS z none (some (o : Int))) = (tl z).take o := by
  rw [tl_cut, HT.sIx_none, HT.sIx_nat, List.drop_zero, Nat.sub_zero, len_tl, List.take_eq_take_iff]
  omega
theorem tl_cut_from (z : Str) (o : Nat) : tl (cutS z (some (o : Int)) none) = (tl z).drop o := by
  rw [tl_cut, HT.sIx_none, HT.sIx_nat, len_tl]
  by_cases h : o ≤ (tl z).length
  · rw [Nat.min_eq_left h, List.take_of_length_le (by rw [List.length_drop] <;> omega)]
  · rw [Nat.min_eq_right (by omega), Nat.sub_self, List.take_zero, List.drop_eq_nil_of_le (by omega)]
theorem tl_cut_mid (z : Str) (a b : Nat) (h : a ≤ (tl z).length) : tl (cutS z (some (a : Int)) (some (b : Int))) = ((tl z).drop a).take (b - a) := by
  rw [tl_cut, HT.sIx_nat, HT.sIx_nat, len_tl, Nat.min_eq_left h, List.take_eq_take_iff, List.length_drop]
  omega
theorem len_eq (z : Str) : z.length = (tl z).length := len_tl z
/-! ### counting one sign -/
theorem drop_take_cons {l : List Nat} {a hi : Nat} (h : a < hi) (hl : hi ≤ l.length) : ∃ (h2 : a < l.length), (l.take hi).drop a = l[a] :: (l.take hi).drop (a + 1) := by
  have h2 : a < (l.take hi).length := by rw [List.length_take]; omega
  refine ⟨by omega, ?_⟩
  rw [List.drop_eq_getElem_cons h2, List.getElem_take]
theorem drop_take_nil {l : List Nat} {a hi : Nat} (h : hi ≤ a) : (l.take hi).drop a = [] := List.drop_eq_nil_of_le (by rw [List.length_take]; omega)
theorem occ_cnt (x : Str) (c hi limit : Nat) (hhi : hi ≤ (tl x).length) : ∀ (m a : Nat) (st : Array Nat × Nat), st.2 ≤ a → st.1.size + m ≤ limit → a + m = hi + 1 →
    (forIn (List.range' a m) st (occBody x ⟨#[c]⟩ hi limit)).run.fst.size = st.1.size + (((tl x).take hi).drop a).count c
  | 0, a, st, _, _, e => by
    rw [drop_take_nil (by omega)]
    rfl
  | m + 1, a, st, hf, hl, e => by
    have one : ∀ i, (i + (⟨#[c]⟩ : Str).length ≤ hi ∧ subAt x ⟨#[c]⟩ i = true) ↔ i < hi ∧ (tl x)[i]? = some c := fun i => by
      have k := subAt_one x c i
      have hx : x.length = (tl x).length := len_tl x
      have h1 : (⟨#[c]⟩ : Str).length = 1 := rfl
      constructor
      · intro h
        have z := k.mp ⟨by omega, h.2⟩
        exact ⟨by omega, z⟩
      · intro h
        have z := k.mpr h.2
        exact ⟨by omega, z.2⟩
    rw [List.range'_succ, List.forIn_cons]
    unfold occBody
    by_cases ha : a < hi
    · obtain ⟨h2, e2⟩ := drop_take_cons ha hhi
      rw [e2, List.count_cons]
      by_cases hc : (tl x)[a] = c
      · have k := (one a).mpr ⟨ha, by rw [List.getElem?_eq_getElem h2, hc]⟩
        rw [if_pos ⟨⟨⟨by omega, hf⟩, k.1⟩, k.2⟩]
        have ih := occ_cnt x c hi limit hhi m (a + 1) (st.1.push a, a + (⟨#[c]⟩ : Str).length) (Nat.le_refl _) (by show (st.1.push a).size + m ≤ limit; rw [Array.size_push]; omega) (by omega)
        have e3 : (st.1.push a).size = st.1.size + 1 := Array.size_push ..
        show (forIn (List.range' (a + 1) m) (st.1.push a, a + (⟨#[c]⟩ : Str).length) (occBody x ⟨#[c]⟩ hi limit)).run.fst.size = _
        rw [ih, e3, hc]
        simp
        omega
      · have k : ¬ ((((st.1.size < limit ∧ st.2 ≤ a) ∧ a + (⟨#[c]⟩ : Str).length ≤ hi) ∧ subAt x ⟨#[c]⟩ a = true)) := fun h => by
          have z := (one a).mp ⟨h.1.2, h.2⟩
          rw [List.getElem?_eq_getElem h2] at z
          exact hc (Option.some.inj z.2)
        rw [if_neg k]
        have ih := occ_cnt x c hi limit hhi m (a + 1) (st.1, st.2) (by show st.2 ≤ a + 1; omega) (by show st.1.size + m ≤ limit; omega) (by omega)
        show (forIn (List.range' (a + 1) m) (st.1, st.2) (occBody x ⟨#[c]⟩ hi limit)).run.fst.size = _
        rw [ih]
        have e4 : ((tl x)[a] == c) = false := beq_eq_false_iff_ne.mpr hc
        rw [e4, if_neg Bool.false_ne_true]
        rfl
    · have k : ¬ ((((st.1.size < limit ∧ st.2 ≤ a) ∧ a + (⟨#[c]⟩ : Str).length ≤ hi) ∧ subAt x ⟨#[c]⟩ a = true)) := fun h => by
        have z := (one a).mp ⟨h.1.2, h.2⟩
        omega
      rw [if_neg k]
      have em : m = 0 := by omega
      subst em
      rw [drop_take_nil (by omega)]
      rfl
theorem occ_count (x : Str) (c hi : Nat) (hhi : hi ≤ (tl x).length) : (occurrences x ⟨#[c]⟩ 0 hi (x.length + 1)).length = ((tl x).take hi).count c := by
  rw [occ_eq, Array.length_toList]
  have k := occ_cnt x c hi (x.length + 1) hhi (hi + 1 - 0) 0 (#[], 0) (Nat.le_refl _) (by show 0 + (hi + 1 - 0) ≤ x.length + 1; rw [len_tl]; omega) (by omega)
  rw [k, List.drop_zero]
  show 0 + _ = _
  omega
theorem count_all (x : Str) (c : Nat) : Txt.count x ⟨#[c]⟩ = (((tl x).count c : Nat) : Int) := by
  show (((occurrences x ⟨#[c]⟩ 0 x.length (x.length + 1)).length : Nat) : Int) = _
  rw [occ_count x c x.length (by rw [len_tl]; exact Nat.le_refl _), len_tl, List.take_length]
theorem toW (n o : Nat) (h : o ≤ n) : toIndexW n (o : Int) = o := by
  unfold toIndexW
  rw [if_neg (by omega)]
  omega
theorem fromI (n o : Nat) : fromIndex n (o : Int) = o := by
  unfold fromIndex
  rw [if_neg (by omega)]
  omega
theorem count_in (x : Str) (c o : Nat) (h : o ≤ (tl x).length) : Txt.countIn x ⟨#[c]⟩ 0 (o : Int) = ((((tl x).take o).count c : Nat) : Int) := by
  unfold Txt.countIn
  rw [toW _ _ (by rw [len_tl]; exact h), show fromIndex x.length 0 = 0 from fromI x.length 0, occ_count x c o h]
/-! ### the last newline -/
/-- how many signs stand behind the last c, k of them ahead -/
def colF (c k : Nat) : List Nat → Nat
  | [] => k
  | d :: r => if d = c then colF c 0 r else colF c (k + 1) r
theorem colF_snoc (c d : Nat) : ∀ (l : List Nat) (k : Nat), colF c k (l ++ [d]) = if d = c then 0 else colF c k l + 1
  | [], k => by
    show (if d = c then colF c 0 [] else colF c (k + 1) []) = _
    rfl
  | e :: r, k => by
    show (if e = c then colF c 0 (r ++ [d]) else colF c (k + 1) (r ++ [d])) = _
    rw [colF_snoc c d r 0, colF_snoc c d r (k + 1)]
    by_cases h : e = c
    · rw [if_pos h]
      show _ = if d = c then 0 else (if e = c then colF c 0 r else colF c (k + 1) r) + 1
      rw [if_pos h]
    · rw [if_neg h]
      show _ = if d = c then 0 else (if e = c then colF c 0 r else colF c (k + 1) r) + 1
      rw [if_neg h]
theorem colF_le (c : Nat) : ∀ (l : List Nat) (k : Nat), colF c k l ≤ k + l.length
  | [], k => Nat.le_refl _
  | e :: r, k => by
    show (if e = c then colF c 0 r else colF c (k + 1) r) ≤ k + (r.length + 1)
    have h0 := colF_le c r 0
    have h1 := colF_le c r (k + 1)
    split <;> omega
def valO : Option Nat → Nat
  | none => 0
  | some k => k + 1
theorem last_col (x : Str) (c hi : Nat) (hhi : hi ≤ (tl x).length) : ∀ (m a : Nat) (st : Option Nat), valO st ≤ a → a + m = hi + 1 → a ≤ hi →
    valO (forIn (List.range' a m) st (lastBody x ⟨#[c]⟩ hi)).run ≤ hi ∧ hi - valO (forIn (List.range' a m) st (lastBody x ⟨#[c]⟩ hi)).run = colF c (a - valO st) (((tl x).take hi).drop a)
  | 0, a, st, _, e, _ => by omega
  | m + 1, a, st, hf, e, hah => by
    have one : ∀ i, (i + (⟨#[c]⟩ : Str).length ≤ hi ∧ subAt x ⟨#[c]⟩ i = true) ↔ i < hi ∧ (tl x)[i]? = some c := fun i => by
      have k := subAt_one x c i
      have hx : x.length = (tl x).length := len_tl x
      have h1 : (⟨#[c]⟩ : Str).length = 1 := rfl
      constructor
      · intro h
        have z := k.mp ⟨by omega, h.2⟩
        exact ⟨by omega, z⟩
      · intro h
        have z := k.mpr h.2
        exact ⟨by omega, z.2⟩
    rw [List.range'_succ, List.forIn_cons]
    unfold lastBody
    by_cases ha : a < hi
    · obtain ⟨h2, e2⟩ := drop_take_cons ha hhi
      rw [e2]
      by_cases hc : (tl x)[a] = c
      · have k := (one a).mpr ⟨ha, by rw [List.getElem?_eq_getElem h2, hc]⟩
        rw [if_pos k]
        have ih := last_col x c hi hhi m (a + 1) (some a) (Nat.le_refl _) (by omega) (by omega)
        show valO (forIn (List.range' (a + 1) m) (some a) (lastBody x ⟨#[c]⟩ hi)).run ≤ hi ∧ hi - valO (forIn (List.range' (a + 1) m) (some a) (lastBody x ⟨#[c]⟩ hi)).run = if (tl x)[a] = c then _ else _
        rw [if_pos hc]
        have e5 : a + 1 - valO (some a) = 0 := by
          show a + 1 - (a + 1) = 0
          omega
        rw [e5] at ih
        exact ih
      · have k : ¬ (a + (⟨#[c]⟩ : Str).length ≤ hi ∧ subAt x ⟨#[c]⟩ a = true) := fun h => by
          have z := (one a).mp h
          rw [List.getElem?_eq_getElem h2] at z
          exact hc (Option.some.inj z.2)
        rw [if_neg k]
        have ih := last_col x c hi hhi m (a + 1) st (by omega) (by omega) (by omega)
        show valO (forIn (List.range' (a + 1) m) st (lastBody x ⟨#[c]⟩ hi)).run ≤ hi ∧ hi - valO (forIn (List.range' (a + 1) m) st (lastBody x ⟨#[c]⟩ hi)).run = if (tl x)[a] = c then _ else _
        rw [if_neg hc]
        have e5 : a + 1 - valO st = a - valO st + 1 := by omega
        rw [e5] at ih
        exact ih
    · have k : ¬ (a + (⟨#[c]⟩ : Str).length ≤ hi ∧ subAt x ⟨#[c]⟩ a = true) := fun h => by
        have z := (one a).mp h
        omega
      rw [if_neg k]
      have em : m = 0 := by omega
      subst em
      rw [drop_take_nil (by omega)]
      show valO st ≤ hi ∧ hi - valO st = a - valO st
      omega
/-- x.rfind(c, 0, o) + 1 is where the last line of x[:o] begins -/
theorem rfind_col (x : Str) (c o : Nat) (h : o ≤ (tl x).length) : ∃ b : Nat, Txt.rfindIn x ⟨#[c]⟩ 0 (o : Int) + 1 = (b : Int) ∧ b ≤ o ∧ o - b = colF c 0 ((tl x).take o) := by
  unfold Txt.rfindIn
  rw [toW _ _ (by rw [len_tl]; exact h), show fromIndex x.length 0 = 0 from fromI x.length 0, last_eq]
  have k := last_col x c o h (o + 1 - 0) 0 none (Nat.le_refl _) (by omega) (Nat.zero_le _)
  rw [List.drop_zero] at k
  refine ⟨_, ?_, k.1, k.2⟩
  cases (forIn (List.range' 0 (o + 1 - 0)) none (lastBody x ⟨#[c]⟩ o)).run with
  | none => rfl
  | some j => rfl
/-! ### lines -/
def rows (c : Nat) : List Nat → List Nat → List (List Nat)
  | acc, [] => [acc]
  | acc, d :: r => if d = c then acc :: rows c [] r else rows c (acc ++ [d]) r
theorem spl_rows (c : Nat) : ∀ (l acc : List Nat), spl [c] 0 acc l = rows c acc l
  | [], acc => by rw [spl_nil]; rfl
  | d :: r, acc => by
    by_cases h : d = c
    · have p : TL.pre [c] (d :: r) = true := by rw [h]; simp [TL.pre]
      rw [spl_hit p]
      show acc :: spl [c] 0 [] r = if d = c then _ else _
      rw [if_pos h, spl_rows c r []]
    · have p : TL.pre [c] (d :: r) = false := pre_of_head [] r h
      rw [spl_miss p, spl_rows c r (acc ++ [d])]
      show _ = if d = c then _ else _
      rw [if_neg h]
theorem split_rows (x : Str) (c : Nat) (hc : c < 256) : (Txt.split x ⟨#[c]⟩).map tl = rows c [] (tl x) := by
  rw [split_spl x ⟨#[c]⟩ (by show [c] ≠ []; simp) (kind_ok (by simp [hc]))]
  exact spl_rows c (tl x) []
theorem rows_len (c : Nat) : ∀ (l acc : List Nat), (rows c acc l).length = l.count c + 1
  | [], acc => rfl
  | d :: r, acc => by
    show (if d = c then acc :: rows c [] r else rows c (acc ++ [d]) r).length = _
    rw [List.count_cons]
    by_cases h : d = c
    · rw [if_pos h, List.length_cons, rows_len c r []]
      simp [h]
    · have h' : (d == c) = false := by simpa using h
      rw [if_neg h, rows_len c r]
      simp [h']
/-- the lengths of lines with their newlines -/
def lens (rs : List (List Nat)) : Nat := (rs.map fun r => r.length + 1).sum
theorem rows_at (c : Nat) : ∀ (l acc : List Nat) (o : Nat), o ≤ l.length → ∃ row, (rows c acc l)[(l.take o).count c]? = some row ∧ colF c acc.length (l.take o) ≤ row.length ∧
    lens ((rows c acc l).take ((l.take o).count c)) + colF c acc.length (l.take o) = acc.length + o
  | l, acc, 0, _ => by
    rw [List.take_zero]
    show ∃ row, (rows c acc l)[0]? = some row ∧ acc.length ≤ row.length ∧ lens ((rows c acc l).take 0) + acc.length = acc.length + 0
    have : ∀ (l acc : List Nat), ∃ row, (rows c acc l)[0]? = some row ∧ acc.length ≤ row.length := by
      intro l
      induction l with
      | nil => exact fun acc => ⟨acc, rfl, Nat.le_refl _⟩
      | cons d r ih =>
        intro acc
        show ∃ row, (if d = c then acc :: rows c [] r else rows c (acc ++ [d]) r)[0]? = some row ∧ _
        by_cases h : d = c
        · rw [if_pos h]
          exact ⟨acc, rfl, Nat.le_refl _⟩
        · rw [if_neg h]
          obtain ⟨row, h1, h2⟩ := ih (acc ++ [d])
          rw [List.length_append] at h2
          exact ⟨row, h1, by omega⟩
    obtain ⟨row, h1, h2⟩ := this l acc
    refine ⟨row, h1, h2, ?_⟩
    rw [List.take_zero]
    show 0 + acc.length = acc.length + 0
    omega
  | [], acc, o + 1, h => absurd h (by simp)
  | d :: r, acc, o + 1, h => by
    have ho : o ≤ r.length := by simpa using h
    rw [List.take_succ_cons, List.count_cons]
    by_cases e : d = c
    · subst e
      have ih := rows_at d r [] o ho
      obtain ⟨row, h1, h2, h3⟩ := ih
      have er : rows d acc (d :: r) = acc :: rows d [] r := by
        show (if d = d then _ else _) = _
        rw [if_pos rfl]
      have ec : colF d acc.length (d :: r.take o) = colF d 0 (r.take o) := by
        show (if d = d then _ else _) = _
        rw [if_pos rfl]
      rw [er, ec]
      simp only [beq_self_eq_true, if_true]
      refine ⟨row, by rw [List.getElem?_cons_succ]; exact h1, h2, ?_⟩
      rw [List.take_succ_cons]
      show (acc.length + 1) + lens _ + _ = _
      simp only [List.length_nil] at h3
      unfold lens at h3 ⊢
      omega
    · have er : rows c acc (d :: r) = rows c (acc ++ [d]) r := by
        show (if d = c then _ else _) = _
        rw [if_neg e]
      have ec : colF c acc.length (d :: r.take o) = colF c (acc.length + 1) (r.take o) := by
        show (if d = c then _ else _) = _
        rw [if_neg e]
      have eb : (d == c) = false := by simpa using e
      have ih := rows_at c r (acc ++ [d]) o ho
      rw [er, ec]
      simp only [eb, Bool.false_eq_true, if_false, Nat.add_zero]
      obtain ⟨row, h1, h2, h3⟩ := ih
      rw [List.length_append, List.length_singleton] at h2 h3
      exact ⟨row, h1, h2, by omega⟩
theorem join_lens (y : List Nat) (hy : y.length = 1) : ∀ rs : List (List Nat), rs ≠ [] → (joinL y rs).length + 1 = lens rs
  | [], h => absurd rfl h
  | [p], _ => by
    show p.length + 1 = (p.length + 1) + 0
    omega
  | p :: q :: r, _ => by
    show (p ++ (y ++ joinL y (q :: r))).length + 1 = (p.length + 1) + lens (q :: r)
    have ih := join_lens y hy (q :: r) (by simp)
    rw [List.length_append, List.length_append]
    omega
end Sn

/-! Mathematics of tokens. -/
namespace Sn
open PySem PySem.Spec PyProof.Rows L2 TL PySem.StrLaws PySem.Builtin.Str
/-! ### runs -/
def run (p : Nat → Bool) (l : List Nat) (i : Nat) : Nat := i + ((l.drop i).takeWhile p).length
theorem run_step {p : Nat → Bool} {l : List Nat} {i c : Nat} (h : l[i]? = some c) (hp : p c = true) : run p l i = run p l (i + 1) := by
  obtain ⟨hi, e⟩ := List.getElem?_eq_some_iff.mp h
  unfold run
  rw [List.drop_eq_getElem_cons hi, e, List.takeWhile_cons, if_pos hp, List.length_cons]
  omega
theorem run_stop {p : Nat → Bool} {l : List Nat} {i c : Nat} (h : l[i]? = some c) (hp : p c = false) : run p l i = i := by
  obtain ⟨hi, e⟩ := List.getElem?_eq_some_iff.mp h
  unfold run
  rw [List.drop_eq_getElem_cons hi, e, List.takeWhile_cons, if_neg (by rw [hp]; exact Bool.false_ne_true)]
  rfl
theorem run_end {p : Nat → Bool} {l : List Nat} {i : Nat} (h : l.length ≤ i) : run p l i = i := by
  unfold run
  rw [List.drop_eq_nil_of_le h]
  rfl
theorem run_ge (p : Nat → Bool) (l : List Nat) (i : Nat) : i ≤ run p l i := Nat.le_add_right _ _
theorem run_le {p : Nat → Bool} {l : List Nat} {i : Nat} (h : i ≤ l.length) : run p l i ≤ l.length := by
  unfold run
  have := (List.takeWhile_prefix (l := l.drop i) p).length_le
  rw [List.length_drop] at this
  omega
theorem run_at {p : Nat → Bool} {l : List Nat} : ∀ (m i a : Nat), a = i + m → (∀ k c, i ≤ k → k < a → l[k]? = some c → p c = true) → a ≤ l.length → (∀ c, l[a]? = some c → p c = false) → run p l i = a
  | 0, i, a, e, _, hl, hs => by
    have e : a = i := e
    subst e
    cases h : l[a]? with
    | none => exact run_end (List.getElem?_eq_none_iff.mp h)
    | some c => exact run_stop h (hs c h)
  | m + 1, i, a, e, hr, hl, hs => by
    have hi : i < l.length := by omega
    have hg := List.getElem?_eq_getElem hi
    rw [run_step hg (hr i _ (Nat.le_refl _) (by omega) hg)]
    exact run_at m (i + 1) a (by omega) (fun k c h1 h2 h3 => hr k c (by omega) h2 h3) hl hs
theorem run_in {p : Nat → Bool} {l : List Nat} : ∀ (m i : Nat), l.length = i + m → ∀ k c, i ≤ k → k < run p l i → l[k]? = some c → p c = true
  | 0, i, e, k, c, h1, h2, h3 => by
    rw [run_end (by omega)] at h2
    omega
  | m + 1, i, e, k, c, h1, h2, h3 => by
    have hi : i < l.length := by omega
    have hg := List.getElem?_eq_getElem hi
    by_cases hp : p l[i] = true
    · rw [run_step hg hp] at h2
      by_cases hk : k = i
      · subst hk
        rw [hg] at h3
        rw [← Option.some.inj h3]
        exact hp
      · exact run_in m (i + 1) (by omega) k c (by omega) h2 h3
    · rw [run_stop hg (Bool.eq_false_iff.mpr hp)] at h2
      omega
/-! ### signs -/
def isL (c : Nat) : Bool := (decide (97 ≤ c) && decide (c ≤ 122)) || (decide (65 ≤ c) && decide (c ≤ 90))
def isD (c : Nat) : Bool := decide (48 ≤ c) && decide (c ≤ 57)
def isW (c : Nat) : Bool := isL c || (isD c || c == 95)
def wds : List Str := ["\x69mport", "data", "trait", "with", "impl", "for", "def", "let", "in", "if", "then", "else", "loop", "times", "do", "not", "and", "or", "True", "False"]
def sgs : Str := "()[],:.=<+-*/"
/-- x.find(c, o): the end of the run of other signs, or -1 -/
theorem find_run (x : Str) (c o : Nat) (ho : o ≤ (tl x).length) : Txt.find3 x ⟨#[c]⟩ (o : Int) = if run (fun d => d != c) (tl x) o < (tl x).length then ((run (fun d => d != c) (tl x) o : Nat) : Int) else -1 := by
  have hx : x.length = (tl x).length := len_tl x
  have one : ∀ i, At x ⟨#[c]⟩ x.length i ↔ (tl x)[i]? = some c := fun i => subAt_one x c i
  have hf : fromIndex x.length (o : Int) = o := fromI _ _
  have h3 : Txt.find3 x ⟨#[c]⟩ (o : Int) = (match occurrences x ⟨#[c]⟩ o x.length 1 with | k :: _ => (k : Int) | [] => -1) := by
    show (match occurrences x ⟨#[c]⟩ (fromIndex x.length (o : Int)) x.length 1 with | k :: _ => (k : Int) | [] => -1) = _
    rw [hf]
  rw [h3, occ_eq]
  rcases occ_first x ⟨#[c]⟩ x.length 1 (Nat.le_refl 1) (List.range' o (x.length + 1 - o)) o (fun i hi => (List.mem_range'_1.mp hi).1) with ⟨h0, hn⟩ | ⟨pre, a, post, e, h0, ha, hn⟩
  · rw [h0]
    have er : run (fun d => d != c) (tl x) o = (tl x).length := run_at ((tl x).length - o) o (tl x).length (by omega) (fun k d h1 h2 h4 => by
      have k2 := hn k (List.mem_range'_1.mpr ⟨h1, by omega⟩)
      rw [one, h4] at k2
      simpa using fun z : d = c => k2 (by rw [z])) (Nat.le_refl _) (fun d h => by
        rw [List.getElem?_eq_none (Nat.le_refl _)] at h
        cases h)
    rw [er, if_neg (Nat.lt_irrefl _)]
  · have hoa : o ≤ a ∧ a < o + (x.length + 1 - o) := List.mem_range'_1.mp (by rw [e]; simp)
    have hac := (one a).mp ha
    have hal := (List.getElem?_eq_some_iff.mp hac).1
    have hpre : ∀ k, o ≤ k → k < a → k ∈ pre := by
      intro k h1 h2
      have hm : k ∈ List.range' o (x.length + 1 - o) := List.mem_range'_1.mpr ⟨h1, by omega⟩
      rw [e] at hm
      rcases List.mem_append.mp hm with hm | hm
      · exact hm
      · have hs : (List.range' o (x.length + 1 - o)).Pairwise (· < ·) := by
          first
            | exact List.pairwise_lt_range'
            | simpa using List.pairwise_lt_range' (s := o) (n := x.length + 1 - o)
        rw [e] at hs
        have h5 := (List.pairwise_cons.mp (List.pairwise_append.mp hs).2.1).1
        rcases List.mem_cons.mp hm with hm | hm
        · omega
        · have := h5 k hm
          omega
    have er : run (fun d => d != c) (tl x) o = a := run_at (a - o) o a (by omega) (fun k d h1 h2 h4 => by
      have k2 := hn k (hpre k h1 h2)
      rw [one, h4] at k2
      simpa using fun z : d = c => k2 (by rw [z])) (by omega) (fun d h => by
        rw [hac] at h
        rw [← Option.some.inj h]
        simp)
    rw [er, if_pos hal]
    generalize (forIn (List.range' o (x.length + 1 - o)) ((#[] : Array Nat), o) (occBody x ⟨#[c]⟩ x.length 1)).run.fst = arr at h0
    have h1 : arr.toList[0]? = some a := by simpa using h0
    cases hL : arr.toList with
    | nil => rw [hL] at h1; cases h1
    | cons b t =>
      rw [hL] at h1
      have : b = a := Option.some.inj h1
      rw [this]
/-! ### tokens -/
abbrev Tok := Str × Nat × Nat
def tokC (l : List Nat) (i c : Nat) : Tok :=
  if isL c = true then (if inV (.str (strL ((l.drop i).take (run isW l i - i)))) (wds.map V.str) = true then "word" else "name", i, run isW l i)
  else if isD c = true then ("number", i, run isD l i)
  else if (l.drop i).take 2 = [61, 61] then ("sign", i, i + 2)
  else (if c ∈ tl sgs then "sign" else "wrong", i, i + 1)
theorem tok_end {l : List Nat} {i c : Nat} (h : l[i]? = some c) : i < (tokC l i c).2.2 ∧ (tokC l i c).2.2 ≤ l.length := by
  have hi := (List.getElem?_eq_some_iff.mp h).1
  unfold tokC
  by_cases h1 : isL c = true
  · rw [if_pos h1]
    have hw : isW c = true := by unfold isW; rw [h1]; rfl
    have := run_ge isW l (i + 1)
    have h4 := run_le (p := isW) (l := l) (i := i) (by omega)
    have := run_step h hw
    exact ⟨by show i < run isW l i; omega, h4⟩
  · rw [if_neg h1]
    by_cases h2 : isD c = true
    · rw [if_pos h2]
      have := run_ge isD l (i + 1)
      have h3 := run_le (p := isD) (l := l) (i := i) (by omega)
      have := run_step h h2
      exact ⟨by show i < run isD l i; omega, h3⟩
    · rw [if_neg h2]
      by_cases h3 : (l.drop i).take 2 = [61, 61]
      · rw [if_pos h3]
        have := congrArg List.length h3
        rw [List.length_take, List.length_drop] at this
        have e : ([61, 61] : List Nat).length = 2 := rfl
        exact ⟨by show i < i + 2; omega, by show i + 2 ≤ l.length; omega⟩
      · rw [if_neg h3]
        exact ⟨by show i < i + 1; omega, by show i + 1 ≤ l.length; omega⟩
/-- the tokens at the places of s, the first of which is a; none begins ahead of b; cm: in a comment -/
def scan (l : List Nat) : List Nat → Nat → Nat → Bool → List Tok
  | [], _, _, _ => []
  | c :: r, a, b, cm =>
    if a < b ∨ (cm = true ∧ c ≠ 10) ∨ c = 32 ∨ c = 10 then scan l r (a + 1) b (cm && c != 10)
    else if c = 35 then scan l r (a + 1) b true
    else tokC l a c :: scan l r (a + 1) (tokC l a c).2.2 false
theorem scan_behind (l : List Nat) : ∀ (s : List Nat) (a b : Nat) (cm : Bool), b ≤ a → scan l s a b cm = scan l s a 0 cm
  | [], _, _, _, _ => rfl
  | c :: r, a, b, cm, h => by
    show (if a < b ∨ _ then _ else _) = (if a < 0 ∨ _ then _ else _)
    have e : (a < b ∨ (cm = true ∧ c ≠ 10) ∨ c = 32 ∨ c = 10) ↔ (a < 0 ∨ (cm = true ∧ c ≠ 10) ∨ c = 32 ∨ c = 10) :=
      ⟨fun z => z.elim (fun k => absurd k (by omega)) .inr, fun z => z.elim (fun k => absurd k (by omega)) .inr⟩
    by_cases k : a < 0 ∨ (cm = true ∧ c ≠ 10) ∨ c = 32 ∨ c = 10
    · rw [if_pos (e.mpr k), if_pos k, scan_behind l r (a + 1) b _ (by omega)]
    · rw [if_neg fun z => k (e.mp z), if_neg k, scan_behind l r (a + 1) b _ (by omega)]
theorem scan_skip (l : List Nat) : ∀ (s : List Nat) (a b : Nat), a ≤ b → scan l s a b false = scan l (s.drop (b - a)) b 0 false
  | [], a, b, _ => by rw [List.drop_nil]; rfl
  | c :: r, a, b, h => by
    by_cases e : a = b
    · subst e
      rw [Nat.sub_self, List.drop_zero, scan_behind l (c :: r) a a false (Nat.le_refl _)]
    · show (if a < b ∨ _ then _ else _) = _
      rw [if_pos (.inl (by omega))]
      have e2 : b - a = (b - (a + 1)) + 1 := by omega
      rw [e2, List.drop_succ_cons]
      exact scan_skip l r (a + 1) b (by omega)
theorem scan_comment (l : List Nat) : ∀ (k : Nat) (s : List Nat) (a : Nat), (∀ j, j < k → s[j]? ≠ some 10) → (s[k]? = none ∨ s[k]? = some 10) → scan l s a 0 true = scan l (s.drop k) (a + k) 0 false
  | 0, s, a, _, h => by
    rw [List.drop_zero, Nat.add_zero]
    cases s with
    | nil => rfl
    | cons c r =>
      have hc : c = 10 := by
        rcases h with h | h
        · cases h
        · exact Option.some.inj h
      subst hc
      show (if _ then _ else _) = (if _ then _ else _)
      rw [if_pos (.inr (.inr (.inr rfl))), if_pos (.inr (.inr (.inr rfl)))]
      rfl
  | k + 1, [], a, _, _ => by rw [List.drop_nil]; rfl
  | k + 1, c :: r, a, hn, h => by
    have hc : c ≠ 10 := fun z => hn 0 (by omega) (by rw [z]; rfl)
    show (if _ then _ else _) = _
    rw [if_pos (.inr (.inl ⟨rfl, hc⟩)), List.drop_succ_cons]
    have e : (true && c != 10) = true := by simpa using hc
    rw [e, scan_comment l k r (a + 1) (fun j hj => hn (j + 1) (by omega)) h]
    congr 1
    omega
/-- the tokens that begin from a on, ahead of e -/
def toks (l : List Nat) (a e : Nat) : List Tok := scan l ((l.take e).drop a) a 0 false
theorem toks_end {l : List Nat} {a e : Nat} (h : e ≤ a) : toks l a e = [] := by
  unfold toks
  rw [drop_take_nil h]
  rfl
section
variable {l : List Nat} {a e c : Nat}
theorem toks_cons (he : e ≤ l.length) (ha : a < e) (hc : l[a]? = some c) : toks l a e = if c = 32 ∨ c = 10 then toks l (a + 1) e else if c = 35 then scan l ((l.take e).drop (a + 1)) (a + 1) 0 true else tokC l a c :: scan l ((l.take e).drop (a + 1)) (a + 1) (tokC l a c).2.2 false := by
  obtain ⟨h2, e2⟩ := drop_take_cons ha he
  have ec : l[a] = c := Option.some.inj ((List.getElem?_eq_getElem h2).symm.trans hc)
  unfold toks
  rw [e2, ec]
  show (if _ then _ else _) = _
  by_cases h : c = 32 ∨ c = 10
  · rw [if_pos (.inr (.inr h)), if_pos h]
    rfl
  · rw [if_neg (by rintro (z | ⟨z, _⟩ | z); · omega
                   · cases z
                   · exact h z), if_neg h]
theorem toks_blank (he : e ≤ l.length) (ha : a < e) (hc : l[a]? = some c) (h : c = 32 ∨ c = 10) : toks l a e = toks l (a + 1) e := by
  rw [toks_cons he ha hc, if_pos h]
theorem toks_note (he : e ≤ l.length) (ha : a < e) (hc : l[a]? = some 35) : toks l a e = toks l (run (fun d => d != 10) l a) e := by
  have r1 : run (fun d => d != 10) l a = run (fun d => d != 10) l (a + 1) := run_step hc rfl
  have r2 := run_ge (fun d => d != 10) l (a + 1)
  have r3 := run_le (p := fun d => d != 10) (l := l) (i := a) (by omega)
  rw [toks_cons he ha hc, if_neg (by decide), if_pos rfl]
  unfold toks
  generalize hJ : run (fun d => d != 10) l a = J at r1 r3 ⊢
  have hin : ∀ (k d : Nat), a ≤ k → k < J → l[k]? = some d → (d != 10) = true := fun k d h1 h2 h3 => run_in (p := fun d => d != 10) (l := l) (l.length - a) a (by omega) k d h1 (by rw [hJ]; exact h2) h3
  have gs : ∀ j, ((l.take e).drop (a + 1))[j]? = if a + 1 + j < e then l[a + 1 + j]? else none := fun j => by
    rw [List.getElem?_drop, List.getElem?_take]
  by_cases hJe : J < e
  · rw [scan_comment l (J - (a + 1)) ((l.take e).drop (a + 1)) (a + 1) ?_ ?_, List.drop_drop, show a + 1 + (J - (a + 1)) = J by omega]
    · intro j hj
      rw [gs, if_pos (by omega)]
      intro z
      have := hin (a + 1 + j) 10 (by omega) (by omega) z
      simp at this
    · rw [gs, if_pos (by omega), show a + 1 + (J - (a + 1)) = J by omega]
      cases h : l[J]? with
      | none => exact .inl rfl
      | some d =>
        refine .inr (congrArg some ?_)
        by_cases hd : d = 10
        · exact hd
        · have k1 := run_step (p := fun d => d != 10) h (by simpa using hd)
          have k2 := run_ge (fun d => d != 10) l (J + 1)
          have k3 : run (fun d => d != 10) l J = J := by
            have hJ2 : run (fun d => d != 10) l a = J := hJ
            unfold run at hJ2 ⊢
            have e1 : (l.drop a).dropWhile (fun d => d != 10) = l.drop J := by
              rw [← hJ2, ← List.drop_drop]
              conv => rhs; rw [← List.takeWhile_append_dropWhile (p := fun d => d != 10) (l := l.drop a)]
              rw [List.drop_left' (by rw [List.takeWhile_append_dropWhile])]
            have e2 : (l.drop J).takeWhile (fun d => d != 10) = [] := by
              rw [← e1]
              cases hw : (l.drop a).dropWhile (fun d => d != 10) with
              | nil => rfl
              | cons x t =>
                have := List.head?_dropWhile_not (fun d => d != 10) (l.drop a)
                rw [hw] at this
                simp at this
                rw [List.takeWhile_cons, if_neg]
                simpa using this
            rw [e2]
            rfl
          omega
  · have hJe2 : e ≤ J := by omega
    rw [drop_take_nil hJe2, scan_comment l ((l.take e).drop (a + 1)).length ((l.take e).drop (a + 1)) (a + 1) ?_ (.inl (List.getElem?_eq_none (Nat.le_refl _))), List.drop_length]
    · rfl
    · intro j hj
      rw [List.length_drop, List.length_take] at hj
      rw [gs, if_pos (by omega)]
      intro z
      have := hin (a + 1 + j) 10 (by omega) (by omega) z
      simp at this
theorem toks_tok (he : e ≤ l.length) (ha : a < e) (hc : l[a]? = some c) (h1 : ¬ (c = 32 ∨ c = 10)) (h2 : c ≠ 35) : toks l a e = tokC l a c :: toks l (tokC l a c).2.2 e := by
  rw [toks_cons he ha hc, if_neg h1, if_neg h2]
  have k := tok_end hc
  rw [scan_skip l _ (a + 1) (tokC l a c).2.2 (by omega), List.drop_drop]
  unfold toks
  rw [show a + 1 + ((tokC l a c).2.2 - (a + 1)) = (tokC l a c).2.2 by omega]
end
/-! ### a list of tuples -/
def LT (H : Hp) (p : Addr) (xss : List (List V)) : Prop := ∃ rs : List Addr, H p = some (.lst (rs.map V.ref)) ∧ rs.length = xss.length ∧ ∀ (i : Nat) (r : Addr) (xs : List V), rs[i]? = some r → xss[i]? = some xs → H r = some (.tup xs)
theorem LT.same {H H' : Hp} {p : Addr} {xss : List (List V)} (s : Same H H') : LT H p xss → LT H' p xss := fun ⟨rs, h1, h2, h3⟩ => ⟨rs, s _ _ h1, h2, fun i r xs a b => s _ _ (h3 i r xs a b)⟩
theorem LT.push {H : Hp} {p r : Addr} {xss : List (List V)} {xs : List V} (h : LT H p xss) (hr : H r = some (.tup xs)) : ∃ ys, H p = some (.lst ys) ∧ ys.length = xss.length ∧ LT (upd H p (.lst (ys ++ [.ref r]))) p (xss ++ [xs]) := by
  obtain ⟨rs, h1, h2, h3⟩ := h
  refine ⟨rs.map V.ref, h1, by rw [List.length_map]; exact h2, rs ++ [r], by rw [upd_same, List.map_append]; rfl, by simp [h2], fun i x ys a b => ?_⟩
  by_cases hi : i < rs.length
  · rw [List.getElem?_append_left hi] at a
    rw [List.getElem?_append_left (by omega)] at b
    have k := h3 i x ys a b
    rw [upd_ne (ne_of k h1 (by intro z; cases z))]
    exact k
  · have hi2 : i = rs.length := by
      have := (List.getElem?_eq_some_iff.mp a).1
      rw [List.length_append, List.length_singleton] at this
      omega
    subst hi2
    rw [List.getElem?_append_right (Nat.le_refl _), Nat.sub_self] at a
    rw [List.getElem?_append_right (by omega), h2, Nat.sub_self] at b
    cases a
    cases b
    rw [upd_ne (ne_of hr h1 (by intro z; cases z))]
    exact hr
theorem LT.al {H : Hp} {p q : Addr} {xss : List (List V)} (h : LT H p xss) (g : LT H q xss) (hl : xss.length ≤ 1000000) (hx : ∀ xs ∈ xss, xs.all sca = true ∧ xs.length ≤ 1000000) : Al H 4 (.ref p) (.ref q) := by
  obtain ⟨rs, h1, h2, h3⟩ := h
  obtain ⟨ts, g1, g2, g3⟩ := g
  refine Al.lst h1 g1 (by rw [List.length_map, List.length_map, h2, g2]) (by rw [List.length_map, h2]; exact hl) fun i u v a b => ?_
  rw [List.getElem?_map] at a b
  cases ea : rs[i]? with
  | none => rw [ea] at a; cases a
  | some r =>
    cases eb : ts[i]? with
    | none => rw [eb] at b; cases b
    | some t =>
      rw [ea] at a
      rw [eb] at b
      have e1 : u = V.ref r := (Option.some.inj a).symm
      have e2 : v = V.ref t := (Option.some.inj b).symm
      subst e1 e2
      have hi : i < xss.length := by
        rw [← h2]
        exact (List.getElem?_eq_some_iff.mp ea).1
      have k1 := h3 i r xss[i] ea (List.getElem?_eq_getElem hi)
      have k2 := g3 i t xss[i] eb (List.getElem?_eq_getElem hi)
      obtain ⟨s1, s2⟩ := hx _ (List.getElem_mem hi)
      exact Al.tup k1 k2 rfl s2 (al_eq (n := 1) s1)
def tkV (x : Tok) : List V := [.str x.1, .int (x.2.1 : Int), .int (x.2.2 : Int)]
theorem tkV_sca (ts : List Tok) : ∀ xs ∈ ts.map tkV, xs.all sca = true ∧ xs.length ≤ 1000000 := fun xs h => by
  obtain ⟨x, _, rfl⟩ := List.mem_map.mp h
  exact ⟨rfl, by show 3 ≤ 1000000; decide⟩
end Sn

/-! The mirror of the parser: data, trees, reading. -/
namespace Sn
open PySem PySem.Spec PyProof.Rows L2 TL
/-! ### data -/
inductive D where
  | non
  | bl (b : Bool)
  | int (i : Int)
  | str (x : Str)
  | tup (l : D)
  | nil
  | cons (h t : D)
def ofL : List D → D
  | [] => .nil
  | d :: r => .cons d (ofL r)
mutual
/-- v stands for the data -/
def DT (H : Hp) : D → V → Prop
  | .non, v => v = .non
  | .bl b, v => v = .bl b
  | .int i, v => v = .int i
  | .str s, v => v = .str s
  | .tup l, v => ∃ a vs, v = .ref a ∧ H a = some (.tup vs) ∧ vs.length ≤ 1000000 ∧ DTs H l vs
  | .nil, _ => False
  | .cons _ _, _ => False
def DTs (H : Hp) : D → List V → Prop
  | .nil, vs => vs = []
  | .cons h t, vs => ∃ v r, vs = v :: r ∧ DT H h v ∧ DTs H t r
  | .non, _ => False
  | .bl _, _ => False
  | .int _, _ => False
  | .str _, _ => False
  | .tup _, _ => False
end
/-- tuples stay -/
def Tups (H H' : Hp) : Prop := ∀ a vs, H a = some (.tup vs) → H' a = some (.tup vs)
mutual
theorem DT.keep {H H' : Hp} (s : Tups H H') : ∀ (d : D) (v : V), DT H d v → DT H' d v
  | .non, _, h => h
  | .bl _, _, h => h
  | .int _, _, h => h
  | .str _, _, h => h
  | .tup l, v, h => by
    unfold DT at h ⊢
    obtain ⟨a, vs, e, h1, h2, h3⟩ := h
    exact ⟨a, vs, e, s _ _ h1, h2, DTs.keep s l vs h3⟩
  | .nil, _, h => by unfold DT at h; exact h.elim
  | .cons _ _, _, h => by unfold DT at h; exact h.elim
theorem DTs.keep {H H' : Hp} (s : Tups H H') : ∀ (d : D) (vs : List V), DTs H d vs → DTs H' d vs
  | .nil, _, h => h
  | .cons a t, vs, h => by
    unfold DTs at h ⊢
    obtain ⟨v, r, e, h1, h2⟩ := h
    exact ⟨v, r, e, DT.keep s a v h1, DTs.keep s t r h2⟩
  | .non, _, h => by unfold DTs at h; exact h.elim
  | .bl _, _, h => by unfold DTs at h; exact h.elim
  | .int _, _, h => by unfold DTs at h; exact h.elim
  | .str _, _, h => by unfold DTs at h; exact h.elim
  | .tup _, _, h => by unfold DTs at h; exact h.elim
end
/-- how deep data are -/
def dep : D → Nat
  | .tup l => dep l + 1
  | .cons h t => max (dep h) (dep t)
  | _ => 0
mutual
theorem DT.al {H : Hp} : ∀ (d : D) (x y : V) (n : Nat), dep d < n → DT H d x → DT H d y → Al H n x y
  | .non, x, y, n, hn, h1, h2 => by
    obtain ⟨m, rfl⟩ : ∃ m, n = m + 1 := ⟨n - 1, by omega⟩
    unfold DT at h1 h2
    subst h1 h2
    exact Al.sc rfl
  | .bl b, x, y, n, hn, h1, h2 => by
    obtain ⟨m, rfl⟩ : ∃ m, n = m + 1 := ⟨n - 1, by omega⟩
    unfold DT at h1 h2
    subst h1 h2
    exact Al.sc rfl
  | .int i, x, y, n, hn, h1, h2 => by
    obtain ⟨m, rfl⟩ : ∃ m, n = m + 1 := ⟨n - 1, by omega⟩
    unfold DT at h1 h2
    subst h1 h2
    exact Al.sc rfl
  | .str s, x, y, n, hn, h1, h2 => by
    obtain ⟨m, rfl⟩ : ∃ m, n = m + 1 := ⟨n - 1, by omega⟩
    unfold DT at h1 h2
    subst h1 h2
    exact Al.sc rfl
  | .tup l, x, y, n, hn, h1, h2 => by
    obtain ⟨m, rfl⟩ : ∃ m, n = m + 1 := ⟨n - 1, by omega⟩
    unfold DT at h1 h2
    obtain ⟨a, xs, rfl, ha, hl, k1⟩ := h1
    obtain ⟨b, ys, rfl, hb, _, k2⟩ := h2
    have hd : dep l < m := by
      have : dep (.tup l) = dep l + 1 := rfl
      omega
    have q := DTs.al l xs ys m hd k1 k2
    exact Al.tup ha hb q.1 hl q.2
  | .nil, _, _, _, _, h, _ => by unfold DT at h; exact h.elim
  | .cons _ _, _, _, _, _, h, _ => by unfold DT at h; exact h.elim
theorem DTs.al {H : Hp} : ∀ (d : D) (xs ys : List V) (n : Nat), dep d < n → DTs H d xs → DTs H d ys → xs.length = ys.length ∧ ∀ (i : Nat) (u v : V), xs[i]? = some u → ys[i]? = some v → Al H n u v
  | .nil, xs, ys, n, hn, h1, h2 => by
    unfold DTs at h1 h2
    subst h1 h2
    exact ⟨rfl, fun i u v h => by simp at h⟩
  | .cons a t, xs, ys, n, hn, h1, h2 => by
    unfold DTs at h1 h2
    obtain ⟨x, r, rfl, p1, p2⟩ := h1
    obtain ⟨y, q, rfl, p3, p4⟩ := h2
    have e : dep (.cons a t) = max (dep a) (dep t) := rfl
    have k := DTs.al t r q n (by omega) p2 p4
    refine ⟨by rw [List.length_cons, List.length_cons, k.1], fun i u v g1 g2 => ?_⟩
    cases i with
    | zero =>
      have e1 : x = u := by simpa using g1
      have e2 : y = v := by simpa using g2
      subst e1 e2
      exact DT.al a x y n (by omega) p1 p3
    | succ i => exact k.2 i u v (by simpa using g1) (by simpa using g2)
  | .non, _, _, _, _, h, _ => by unfold DTs at h; exact h.elim
  | .bl _, _, _, _, _, h, _ => by unfold DTs at h; exact h.elim
  | .int _, _, _, _, _, h, _ => by unfold DTs at h; exact h.elim
  | .str _, _, _, _, _, h, _ => by unfold DTs at h; exact h.elim
  | .tup _, _, _, _, _, h, _ => by unfold DTs at h; exact h.elim
end
theorem DT.str {H : Hp} {s : Str} : DT H (.str s) (.str s) := by unfold DT; rfl
theorem DT.int {H : Hp} {i : Int} : DT H (.int i) (.int i) := by unfold DT; rfl
theorem DT.bl {H : Hp} {b : Bool} : DT H (.bl b) (.bl b) := by unfold DT; rfl
theorem DT.non {H : Hp} : DT H .non .non := by unfold DT; rfl
theorem DTs.nil {H : Hp} : DTs H .nil [] := by unfold DTs; rfl
theorem DTs.cons {H : Hp} {h t : D} {v : V} {r : List V} (a : DT H h v) (b : DTs H t r) : DTs H (.cons h t) (v :: r) := by unfold DTs; exact ⟨v, r, rfl, a, b⟩
theorem DT.tup {H : Hp} {l : D} {a : Addr} {vs : List V} (h : H a = some (.tup vs)) (hl : vs.length ≤ 1000000) (k : DTs H l vs) : DT H (.tup l) (.ref a) := by unfold DT; exact ⟨a, vs, rfl, h, hl, k⟩
theorem DTs.snoc {H : Hp} {d : D} {v : V} (hd : DT H d v) : ∀ (ds : List D) (vs : List V), DTs H (ofL ds) vs → DTs H (ofL (ds ++ [d])) (vs ++ [v])
  | [], vs, h => by
    unfold ofL DTs at h
    subst h
    exact DTs.cons hd DTs.nil
  | a :: r, vs, h => by
    have h : DTs H (.cons a (ofL r)) vs := h
    unfold DTs at h
    obtain ⟨x, q, rfl, h1, h2⟩ := h
    exact DTs.cons h1 (DTs.snoc hd r q h2)
theorem DTs.len {H : Hp} : ∀ (ds : List D) (vs : List V), DTs H (ofL ds) vs → vs.length = ds.length
  | [], vs, h => by
    unfold ofL DTs at h
    subst h
    rfl
  | a :: r, vs, h => by
    have h : DTs H (.cons a (ofL r)) vs := h
    unfold DTs at h
    obtain ⟨x, q, rfl, _, h2⟩ := h
    rw [List.length_cons, List.length_cons, DTs.len r q h2]
/-! ### trees -/
structure Tn where
  tag : Str
  s : Nat
  e : Nat
  rest : List D
def Tn.d (t : Tn) : D := .tup (.cons (.str t.tag) (.cons (.int (t.s : Int)) (.cons (.int (t.e : Int)) (ofL t.rest))))
/-- a tree's tuple -/
theorem Tn.at_ {H : Hp} {t : Tn} {v : V} (h : DT H t.d v) : ∃ a r, v = .ref a ∧ H a = some (.tup (.str t.tag :: .int (t.s : Int) :: .int (t.e : Int) :: r)) ∧ DTs H (ofL t.rest) r ∧ r.length + 3 ≤ 1000000 := by
  unfold Tn.d DT at h
  obtain ⟨a, vs, rfl, h1, h2, h3⟩ := h
  unfold DTs DTs DTs at h3
  obtain ⟨v1, r1, rfl, k1, v2, r2, rfl, k2, v3, r3, rfl, k3, k4⟩ := h3
  unfold DT at k1 k2 k3
  subst k1 k2 k3
  exact ⟨a, r3, rfl, h1, k4, h2⟩
theorem Tn.mk_ {H : Hp} {t : Tn} {a : Addr} {r : List V} (h : H a = some (.tup (.str t.tag :: .int (t.s : Int) :: .int (t.e : Int) :: r))) (k : DTs H (ofL t.rest) r) (hl : r.length + 3 ≤ 1000000) : DT H t.d (.ref a) :=
  DT.tup h hl (.cons DT.str (.cons DT.int (.cons DT.int k)))
/-! ### reading -/
structure Src where
  r : Addr
  l : List Nat
  ts : List Tok
inductive Rs (α : Type) where
  | ok (x : α) (a : Nat)
  | no (s e : Nat)
  | un
def Rs.bind {α β : Type} : Rs α → (α → Nat → Rs β) → Rs β
  | .ok x a, f => f x a
  | .no s e, _ => .no s e
  | .un, _ => .un
namespace Src
variable (S : Src)
def n : Nat := S.ts.length
def wd (a : Nat) : List Nat := match S.ts[a]? with
  | some t => (S.l.drop t.2.1).take (t.2.2 - t.2.1)
  | none => []
def so (a : Nat) : Str := match S.ts[a]? with
  | some t => t.1
  | none => ""
def st (a : Nat) : Nat := match S.ts[a]? with
  | some t => t.2.1
  | none => 0
def en (a : Nat) : Nat := match S.ts[a]? with
  | some t => t.2.2
  | none => 0
def fp (a : Nat) : Nat × Nat := match S.ts[a]? with
  | some t => (t.2.1, t.2.2)
  | none => match S.ts.getLast? with
    | some t => (t.2.2, t.2.2)
    | none => (0, 0)
def fail {α : Type} (a : Nat) : Rs α := .no (S.fp a).1 (S.fp a).2
/-- the words, as they are compared -/
def name : Str := "name"
def number : Str := "number"
def isN (a : Nat) : Bool := decide (S.so a = name)
def eqW (a : Nat) (w : Str) : Bool := decide (S.wd a = tl w)
def numv (l : List Nat) : Int := l.foldl (fun (v : Int) (c : Nat) => (v * 10 + ((c : Int) - 48)) % 4294967296) 0
def strW (a : Nat) : D := .str (strL (S.wd a))
/-- what is read behind a word -/
def part (V : Nat → Rs Tn) (w : Str) (a : Nat) : Rs Tn := if S.eqW a w = true then V (a + 1) else S.fail a
def letM (V : Nat → Rs Tn) (s a : Nat) : Rs Tn :=
  if S.isN a = true then (S.part V "=" (a + 1)).bind fun v a1 => (S.part V "in" a1).bind fun b a2 => .ok ⟨"let", s, b.e, [S.strW a, .int (S.st a : Int), v.d, b.d]⟩ a2 else S.fail a
def ifM (V : Nat → Rs Tn) (s a : Nat) : Rs Tn :=
  (V a).bind fun t a1 => (S.part V "then" a1).bind fun y a2 => (S.part V "else" a2).bind fun z a3 => .ok ⟨"if", s, z.e, [t.d, y.d, z.d]⟩ a3
def loopM (V : Nat → Rs Tn) (s a : Nat) : Rs Tn :=
  if S.isN a = true then (S.part V "=" (a + 1)).bind fun f a1 => (S.part V "times" a1).bind fun c a2 => (S.part V "do" a2).bind fun p a3 =>
    .ok ⟨"loop", s, p.e, [S.strW a, .int (S.st a : Int), f.d, c.d, p.d]⟩ a3 else S.fail a
/-- arguments behind the first -/
def argsM (V : Nat → Rs Tn) (s0 : Nat) (nm : D) (acc : List D) (a : Nat) : Rs Tn :=
  if S.eqW a "," = true then
    match V (a + 1) with
    | .ok t a' => if h : a < a' ∧ a < S.n then argsM V s0 nm (acc ++ [t.d]) a' else .un
    | .no s e => .no s e
    | .un => .un
  else if S.eqW a ")" = true then .ok ⟨"call", s0, S.en a, [nm, .tup (ofL acc)]⟩ (a + 1) else S.fail a
termination_by S.n + 1 - a
def namedM (V : Nat → Rs Tn) (a : Nat) : Rs Tn :=
  if S.isN a = true then
    if S.eqW (a + 1) "(" = true then
      if S.eqW (a + 2) ")" = true then .ok ⟨"call", S.st a, S.en (a + 2), [S.strW a, .tup .nil]⟩ (a + 3)
      else (V (a + 2)).bind fun t a' => S.argsM V (S.st a) (S.strW a) [t.d] a'
    else .ok ⟨"name", S.st a, S.en a, [S.strW a]⟩ (a + 1)
  else S.fail a
def simpM (V : Nat → Rs Tn) (a : Nat) : Rs Tn :=
  if S.isN a = true then S.namedM V a
  else if decide (S.so a = number) = true then .ok ⟨"number", S.st a, S.en a, [.int (numv (S.wd a))]⟩ (a + 1)
  else if S.eqW a "(" = true then (V (a + 1)).bind fun t a' => if S.eqW a' ")" = true then .ok ⟨"group", S.st a, S.en a', [t.d]⟩ (a' + 1) else S.fail a'
  else if (S.eqW a "True" || S.eqW a "False") = true then .ok ⟨"truth", S.st a, S.en a, [.bl (S.eqW a "True")]⟩ (a + 1)
  else S.fail a
def dotsM (t : Tn) (a : Nat) : Rs Tn :=
  if S.eqW a "." = true then
    if S.isN (a + 1) = true then
      if h : a < S.n then dotsM ⟨"field", t.s, S.st (a + 1) + (S.wd (a + 1)).length, [t.d, S.strW (a + 1)]⟩ (a + 2) else .un
    else S.fail (a + 1)
  else .ok t a
termination_by S.n + 1 - a
def reachM (V : Nat → Rs Tn) (a : Nat) : Rs Tn := (S.simpM V a).bind S.dotsM
/-- with what is read one "-" deeper -/
def signM (G : Nat → Rs Tn) (V : Nat → Rs Tn) (d a : Nat) : Rs Tn :=
  if S.eqW a "-" = true then
    if d = 30 then S.fail a else (G (a + 1)).bind fun t a' => .ok ⟨"minus", S.st a, t.e, [t.d]⟩ a'
  else S.reachM V a
def rank (w : List Nat) : Nat :=
  if w = tl "or" then 1 else if w = tl "and" then 2 else if w = tl "==" then 4 else if w = tl "<" then 4 else if w = tl "+" then 5 else if w = tl "-" then 5 else if w = tl "*" then 6 else if w = tl "/" then 6 else 0
def binT (l r : Tn) (w : List Nat) : Tn := ⟨"binary", l.s, r.e, [.str (strL w), l.d, r.d]⟩
def topR (r : Nat) : Nat := if r = 4 then 3 else r
def goM (R : Nat → Nat → Rs Tn) (least most : Nat) (left : Tn) (a : Nat) : Rs Tn :=
  if least ≤ rank (S.wd a) ∧ rank (S.wd a) ≤ most then
    match R (rank (S.wd a) + 1) (a + 1) with
    | .ok r a' => if h : a < a' ∧ a < S.n then goM R least (topR (rank (S.wd a))) (binT left r (S.wd a)) a' else .un
    | .no s e => .no s e
    | .un => .un
  else .ok left a
termination_by S.n + 1 - a
/-- N: chain(3) one deeper; G: the signed ones; R: chains of more -/
def chainM (N G : Nat → Rs Tn) (R : Nat → Nat → Rs Tn) (least d a : Nat) : Rs Tn :=
  if S.eqW a "not" = true ∧ least ≤ 3 then
    if d = 30 then S.fail a else (N (a + 1)).bind fun t a' => S.goM R least 3 ⟨"not", S.st a, t.e, [t.d]⟩ a'
  else (G a).bind fun t a' => S.goM R least 6 t a'
def chG (N G : Nat → Rs Tn) (d : Nat) : Nat → Nat → Nat → Rs Tn
  | 0, _, _ => .un
  | g + 1, least, a => S.chainM N G (chG N G d g) least d a
/-- a value, with what is read one deeper -/
def valM (V : Nat → Rs Tn) (Ch : Nat → Rs Tn) (d a : Nat) : Rs Tn :=
  if d = 30 ∨ S.n ≤ a then S.fail a
  else if S.eqW a "let" = true then S.letM V (S.st a) (a + 1)
  else if S.eqW a "if" = true then S.ifM V (S.st a) (a + 1)
  else if S.eqW a "loop" = true then S.loopM V (S.st a) (a + 1)
  else Ch a
/-- by how deep a reading goes -/
def rd : Nat → (Nat → Nat → Rs Tn) × (Nat → Nat → Rs Tn) × (Nat → Nat → Nat → Rs Tn)
  | 0 => (fun _ _ => .un, fun _ _ => .un, fun _ _ _ => .un)
  | k + 1 =>
    let B := rd k
    let val := fun d a => S.valM (B.1 (d + 1)) (B.2.2 1 (d + 1)) d a
    let sg := fun d a => S.signM (B.2.1 (d + 1)) (val d) d a
    (val, sg, fun least d a => S.chG (B.2.2 3 (d + 1)) (sg d) d 8 least a)
def val (k d a : Nat) : Rs Tn := (S.rd k).1 d a
def sg (k d a : Nat) : Rs Tn := (S.rd k).2.1 d a
def ch (k least d a : Nat) : Rs Tn := (S.rd k).2.2 least d a
theorem val_s (k d a : Nat) : S.val (k + 1) d a = S.valM (S.val k (d + 1)) (S.ch k 1 (d + 1)) d a := rfl
theorem sg_s (k d a : Nat) : S.sg (k + 1) d a = S.signM (S.sg k (d + 1)) (S.val (k + 1) d) d a := rfl
theorem ch_s (k least d a : Nat) : S.ch (k + 1) least d a = S.chG (S.ch k 3 (d + 1)) (S.sg (k + 1) d) d 8 least a := rfl
end Src
end Sn

/-! My own rules: three comparisons in a row, a text times a number, calls that may raise, isinstance in an except suite. -/
namespace Sn
open PySem PySem.Spec PyProof.Rows L2 TL
section
variable {X : Cx} {a b c d : Expr} {ta tb tc td : TE} {pos : Pos}
/-- a op1 b op2 c op3 d -/
def tChain3 (r r' r'' : R2) (ta tb tc td : TE) : TE := fun σ H Q => ta σ H fun x H1 => tb σ H1 fun y H2 => r x y H2 fun z H3 => ∃ k, z = .bl k ∧
  (if k = true then tc σ H3 fun w H4 => r' y w H4 fun z' H5 => ∃ k', z' = .bl k' ∧ (if k' = true then td σ H5 fun v H6 => r'' w v H6 Q else Q (.bl false) H5) else Q (.bl false) H3)
theorem pt_chain3 {op op' op'' : CmpOp} {r r' r'' : R2} (ho : OpR X (compareOp op) r) (ho' : OpR X (compareOp op') r') (ho'' : OpR X (compareOp op'') r'') (ha : PE X a ta) (hb : PE X b tb) (hc : PE X c tc) (hd : PE X d td)
    (hm : lastMarks [op, op', op''] [b, c, d] = false := by with_unfolding_all rfl) : PT X (.Compare a [op, op', op''] [b, c, d] pos) (tTest (tChain3 r r' r'' ta tb tc td)) := by
  refine ⟨fun pins s σ H Q I h => ?_⟩
  refine isTrue_chain (thn (ha.run pins s σ H _ I h) fun v s1 ⟨x, H1, I1, r1, q1⟩ => test_link (thn (hb.run pins s1 σ H1 _ I1 q1) fun u s2 ⟨y, H2, I2, r2, q2⟩ =>
    thn (ho pins s2 σ H2 x y v u _ I2 r1 r2 q2) fun e s3 ⟨z, H3, I3, r3, k, ez, q3⟩ => ?_)) hm
  subst ez
  cases r3
  refine wpAny_truthy_bool ?_
  cases k with
  | false =>
    obtain ⟨k', e', q'⟩ := q3
    cases e'
    exact ite_ff ⟨H3, I3, q'⟩
  | true =>
    refine ite_tt (test_link (thn (hc.run pins s3 σ H3 _ I3 q3) fun w' s4 ⟨z', H4, I4, r4, q4⟩ => thn (ho' pins s4 σ H4 y z' u w' _ I4 r2 r4 q4) fun d' s5 ⟨z2, H5, I5, r5, k2, e2, q5⟩ => ?_))
    subst e2
    cases r5
    refine wpAny_truthy_bool ?_
    cases k2 with
    | false =>
      obtain ⟨k', e', q'⟩ := q5
      cases e'
      exact ite_ff ⟨H5, I5, q'⟩
    | true =>
      refine ite_tt (test_last (thn (hd.run pins s5 σ H5 _ I5 q5) fun w2 s6 ⟨z6, H6, I6, r6, q6⟩ => thn (ho'' pins s6 σ H6 z' z6 w' w2 _ I6 r4 r6 q6) fun d' s7 ⟨z7, H7, I7, r7, k7, e7, q7⟩ => ?_))
      subst e7
      cases r7
      exact wpAny_truthy_bool ⟨H7, I7, q7⟩
/-- a text times a number -/
theorem op_mul_str : OpR X (binaryOp .Mult) (fun x y H Q => ∃ (z : Str) (n : Int), x = .str z ∧ y = .int n ∧ MulOk z n ∧ Q (.str (Txt.mul z n)) H) := by
  intro pins s σ H x y v u Q I rx ry h
  obtain ⟨z, n, rfl, rfl, hm, q⟩ := h
  obtain ⟨t, rfl⟩ := rx
  obtain ⟨t', rfl⟩ := ry
  exact SB.mul hm fun t' k => ⟨.str (Txt.mul z n), H, I.tok _, ⟨_, rfl⟩, q⟩
end
section
variable {X : Cx} {k j : Nat} {x : Str} {sp : Sp} {p pos : Pos} {e : Expr} {es : List Expr} {t : TA} {W : WX}
/-- a call within a try, what it lets out is the clause's -/
theorem pe_cS (c : Cal X.prog X.w X.K X.mg X.base (L2.CX X.prog X.w) k x sp) (hr : Room j X.A) (hk : k ≤ j) (tk : Takes X W) (ha : PA X (e :: es) t) (hg : Gl X x := by rfl)
    (hdb : (x == ("__debug__" : Str)) = false := by decide) (he : starEach (e :: es) X.env = (false, eval e X.env) :: starEach es X.env := by rfl) (hpl : (backTo pos (starEach es X.env)).any (·.1) = false := by rfl) :
    PE X (.Call (.Name x p) (e :: es) [] pos) (tCallS sp (WE W) t) := by
  obtain ⟨f, fd, ps, F, hm, kp, b⟩ := c.ex
  exact pe_callS F (hr.mono hk) hg hm kp b (fun σ => passAt tk σ) ha hdb he hpl
/-- isinstance(e, c), e what the suite holds; that it is of the class D is the reading's to say -/
theorem call_isX {D a : Addr} {oe : Obj} {cls : Value} {d : Option Addr} {pn : List (Addr × Obj)} (C : ExcC X.K D) (hz : Zc cls d oe) (hf : ∃ vs, oe.data = .fields vs) :
    CallR (X.suite a ((a, oe) :: pn)) (.builtin "isinstance") (fun xs H Q => cls = .ref D ∧ d = none ∧ rIsE X.K D a xs H Q) := by
  intro pins s σ H xs us Q I r h
  obtain ⟨rfl, rfl, h⟩ := h
  exact call_isE C hz hf pins s σ H xs us Q I r h
end

/-! ### edits -/
/-- the mirror of a joint edit: what stands from done on -/
def jgo (z : List Nat) : Nat → List (Int × Int × List Nat) → Option (List Nat)
  | done, [] => some (z.drop done)
  | done, (s, e, n) :: r => if (done : Int) ≤ s ∧ s ≤ e ∧ e ≤ (z.length : Int) ∧ n.all okc = true then (jgo z e.toNat r).map fun t => (z.drop done).take (s.toNat - done) ++ (n ++ t) else none
def joint (z : List Nat) (eds : List (Int × Int × List Nat)) : Option (List Nat) := match jgo z 0 eds with
  | some r => if r.length ≤ 4000 then some r else none
  | none => none
/-- a list of edits stands at le -/
def EdAt (H : Hp) (le : Addr) (eds : List (Int × Int × Str)) : Prop := ∃ rs : List Addr, H le = some (.lst (rs.map V.ref)) ∧ rs.length = eds.length ∧ ∀ (i : Nat) (r : Addr) (s e : Int) (n : Str), rs[i]? = some r → eds[i]? = some (s, e, n) → H r = some (.tup [.int s, .int e, .str n])
def edl (eds : List (Int × Int × Str)) : List (Int × Int × List Nat) := eds.map fun x => (x.1, x.2.1, tl x.2.2)
/-- the lengths of all new texts -/
def news (eds : List (Int × Int × Str)) : Nat := (eds.map fun x => x.2.2.length).sum
theorem EdAt.same {H H' : Hp} {le : Addr} {eds : List (Int × Int × Str)} (s : Same H H') : EdAt H le eds → EdAt H' le eds := fun ⟨rs, h1, h2, h3⟩ => ⟨rs, s _ _ h1, h2, fun i r a b n p q => s _ _ (h3 i r a b n p q)⟩
def spMay : Sp := fun vs H Q _ => ∃ z : Str, vs = [.str z] ∧ Q (.bl ((tl z).all okc)) H
def spIsText : Sp := fun vs H Q _ => ∃ z : Str, vs = [.str z] ∧ z.length ≤ 1000000 ∧ Q (.bl (decide (z.length ≤ 4000) && (tl z).all okc)) H
def spJoint (C : Addr) : Sp := fun vs H Q E => ∃ (z : Str) (le : Addr) (eds : List (Int × Int × Str)), vs = [.str z, .ref le] ∧ EdAt H le eds ∧ z.length ≤ 1000000 ∧ eds.length ≤ 1000 ∧ news eds ≤ 1000000 ∧
  (∀ r H', joint (tl z) (edl eds) = some r → Same H H' → Q (.str (strL r)) H') ∧ (∀ H', joint (tl z) (edl eds) = none → Same H H' → E (.ref C) none H')
def spEdit (C : Addr) : Sp := fun vs H Q E => ∃ (z : Str) (ed : Addr) (s e : Int) (n : Str), vs = [.str z, .ref ed] ∧ H ed = some (.tup [.int s, .int e, .str n]) ∧ z.length ≤ 1000000 ∧ n.length ≤ 1000000 ∧
  (∀ r H', joint (tl z) [(s, e, tl n)] = some r → Same H H' → Q (.str (strL r)) H') ∧ (∀ H', joint (tl z) [(s, e, tl n)] = none → Same H H' → E (.ref C) none H')
/-! ### signs in order -/
theorem le_one (a b : Nat) : (!decide ([b] < [a])) = decide (a ≤ b) := by
  have : ([b] < [a]) ↔ b < a := by
    constructor
    · intro h
      cases h with
      | rel h => exact h
      | cons h => cases h
    · exact fun h => .rel h
  by_cases h : b < a
  · rw [decide_eq_true (this.mpr h), decide_eq_false (by omega)]
    rfl
  · rw [decide_eq_false (fun k => h (this.mp k)), decide_eq_true (by omega)]
    rfl
/-! ### classes of errors, as the top has written them -/
theorem own_cls {K : PySem.W.Frag} {C S : Addr} (i : PySem.W.isClsIn K S = true) (t : PySem.W.typeIn K (.ref S) = some (.type "type")) (s : PySem.W.subIn K (.ref C) (.ref S) = some true) : PySem.W.kitCls K (.ref C) (.ref S) = some true := by
  have e2 : ((PySem.W.clsIn K S).isSome && PySem.W.typeIn K (.ref S) == some (.type "type")) = true := by
    have h2 : (PySem.W.clsIn K S).isSome = true := i
    rw [h2, t] <;> rfl
  show (if _ then _ else _) = _
  rw [if_pos e2]
  exact s
theorem exm_of {K : PySem.W.Frag} {S : Addr} (b : PySem.W.subIn K (.ref S) (.type "BaseException") = some true) (i : PySem.W.isClsIn K S = true) (t : PySem.W.typeIn K (.ref S) = some (.type "type")) (s : PySem.W.subIn K (.ref S) (.ref S) = some true) :
    PySem.W.exmOne K (.ref S) (.ref S) = some true := by
  have e1 : (PySem.W.subIn K (.ref S) (.type "BaseException") == some true) = true := by rw [b] <;> rfl
  show (if _ then _ else _) = _
  rw [if_pos e1]
  exact own_cls i t s
theorem kit_own {K : PySem.W.Frag} {C S : Addr} (i : PySem.W.isClsIn K S = true) (t : PySem.W.typeIn K (.ref S) = some (.type "type")) (s : PySem.W.subIn K (.ref C) (.ref S) = some true) : PySem.W.kitOne K (.ref C) (.ref S) = some true := by
  show (if _ then _ else _) = _
  split
  · rfl
  · exact own_cls i t s
theorem kit_blt {K : PySem.W.Frag} {C : Addr} {n : String} (m : PySem.W.kitMeta n = true) (s : PySem.W.subIn K (.ref C) (.type n) = some true) : PySem.W.kitOne K (.ref C) (.type n) = some true := by
  show (if _ then _ else (if _ then _ else _)) = _
  split
  · rfl
  · first
      | exact s
      | (rw [if_pos m]; exact s)
end Sn

/-! My own rules where an exception is handled: walks of lists, pairs taken apart, calls by name. -/
namespace Sn
open PySem PySem.Spec PyProof.Rows L2 TL HotX L2H
section
variable {prog : Program} {w : World} {A : Around} {E : Value → Shared → Prop} {s : Shared}
theorem list_end_hot {it l x1 : Addr} {i : Nat} {items : Array Value} {Q : Option Value → Shared → Prop} (hot : HotAt A x1 s.heap) (hit : s.heap.IsListIter it l i) (hl : s.heap.IsList l items) (hx : items[i]? = none)
    (hxi : x1 ≠ it) (hQ : ∀ h', (∀ b o, b ≠ it → s.heap.get? b = some o → h'.get? b = some o) → Q none { s with heap := h' }) : wpAny (model prog w) A (pyNext (.ref it)) Q E s := by
  obtain ⟨hh, o1, vs1, h1, d1, c1⟩ := hot
  obtain ⟨o, ho, hc, hd⟩ := id hit
  obtain ⟨ol, hol, _, nl, hdl⟩ := hl
  unfold pyNext
  refine wpAny_bind (wpAny_attempt (wpAny_callSpecial?_slot (name := Str.ofString "__next__") hit.typeIs slot_listiter_next
    (wpAny_call_entry slot_listiter_next hit.typeIs entry_listiter_next ?_ (args_listiter_next _))))
  show wpAny _ _ (field (.ref it) 0 >>= _) _ _ s
  refine wpAny_bind (wpAny_field ho hd (x := .ref l) rfl ?_)
  show wpAny _ _ (if (Value.ref l == Value.none) = true then _ else _) _ _ s
  rw [if_neg (show ¬ ((Value.ref l == Value.none) = true) from Bool.false_ne_true)]
  show wpAny _ _ (field (.ref it) 1 >>= _) _ _ s
  refine wpAny_bind (wpAny_field ho hd (x := .int i 0) rfl ?_)
  show wpAny _ _ (seqItems? (.ref l) >>= _) _ _ s
  refine wpAny_bind (wpAny_seqItems hol hdl ?_)
  simp only [Int.toNat_natCast, hx]
  refine wpAny_bind (wpAny_rule (wpAny_bind (wpAny_setField ho hd (by simp) ?_)))
  show wpAny _ _ (newExc (.type "StopIteration") [] >>= _) _ _ _
  refine wpAny_bind ?_
  simp only [newExc, newTuple]
  refine wpAny_bind (wpAny_newObj_type ?_ (by size_fits))
  refine wpAny_bind (m := firstArgMember _ _) (wpAny_of_eq (a := Value.none) (by first | rfl | (simp only [firstArgMember]; rfl)) ?_)
  refine wpAny_newObj_type ?_ (by size_fits)
  have hup : (s.heap.update it (Obj.mapFields (·.setIfInBounds 0 .none))).get? x1 = some o1 := by
    rw [Heap.get?_update_other _ _ (Ne.symm hxi)]
    exact h1
  refine raiseNew_hot ⟨hh, o1, vs1, Heap.get?_push_of_some _ (Heap.get?_push_of_some _ hup), d1, c1⟩ (Nat.ne_of_lt (Heap.lt_size (Heap.get?_push_of_some _ hup))) (Heap.get?_push_size _ rfl) rfl (by first | (simp; done) | (simp; omega) | (simp only [Array.size_append]; simp; omega)) ?_
  refine wpAny_bind (wpAny_isInstance (T := "StopIteration") (b := true) ⟨_, Heap.get?_update_self _ (Heap.get?_push_size _ rfl) rfl, rfl⟩ isSubtype_stop ?_)
  refine wpAny_pure (hQ _ fun b o hb e => ?_)
  have e2 : (s.heap.update it (Obj.mapFields (·.setIfInBounds 0 .none))).get? b = some o := by
    rw [Heap.get?_update_other _ _ (Ne.symm hb)]
    exact e
  rw [Heap.get?_update_other _ _ (Nat.ne_of_gt (Heap.lt_size (Heap.get?_push_of_some _ e2)))]
  exact Heap.get?_push_of_some _ (Heap.get?_push_of_some _ e2)
theorem tuple_end_hot {it l x1 : Addr} {i : Nat} {items : Array Value} {Q : Option Value → Shared → Prop} (hot : HotAt A x1 s.heap) (hit : s.heap.IsTupleIter it l i) (hl : s.heap.IsTuple l items) (hx : items[i]? = none)
    (hxi : x1 ≠ it) (hQ : ∀ h', (∀ b o, b ≠ it → s.heap.get? b = some o → h'.get? b = some o) → Q none { s with heap := h' }) : wpAny (model prog w) A (pyNext (.ref it)) Q E s := by
  obtain ⟨hh, o1, vs1, h1, d1, c1⟩ := hot
  obtain ⟨o, ho, hc, hd⟩ := id hit
  obtain ⟨ol, hol, _, nl, hdl⟩ := hl
  unfold pyNext
  refine wpAny_bind (wpAny_attempt (wpAny_callSpecial?_slot (name := Str.ofString "__next__") hit.typeIs F.slot_tuple_iterator_next
    (wpAny_call_entry F.slot_tuple_iterator_next hit.typeIs F.entry_tuple_iterator_next ?_ (F.args_tuple_iterator_next_1 _))))
  show wpAny _ _ (field (.ref it) 0 >>= _) _ _ s
  refine wpAny_bind (wpAny_field ho hd (x := .ref l) rfl ?_)
  show wpAny _ _ (if (Value.ref l == Value.none) = true then _ else _) _ _ s
  rw [if_neg (show ¬ ((Value.ref l == Value.none) = true) from Bool.false_ne_true)]
  show wpAny _ _ (field (.ref it) 1 >>= _) _ _ s
  refine wpAny_bind (wpAny_field ho hd (x := .int i 0) rfl ?_)
  show wpAny _ _ (seqItems? (.ref l) >>= _) _ _ s
  refine wpAny_bind (wpAny_seqItems hol hdl ?_)
  simp only [Int.toNat_natCast, hx]
  refine wpAny_bind (wpAny_rule (wpAny_bind (wpAny_setField ho hd (by simp) ?_)))
  show wpAny _ _ (newExc (.type "StopIteration") [] >>= _) _ _ _
  refine wpAny_bind ?_
  simp only [newExc, newTuple]
  refine wpAny_bind (wpAny_newObj_type ?_ (by size_fits))
  refine wpAny_bind (m := firstArgMember _ _) (wpAny_of_eq (a := Value.none) (by first | rfl | (simp only [firstArgMember]; rfl)) ?_)
  refine wpAny_newObj_type ?_ (by size_fits)
  have hup : (s.heap.update it (Obj.mapFields (·.setIfInBounds 0 .none))).get? x1 = some o1 := by
    rw [Heap.get?_update_other _ _ (Ne.symm hxi)]
    exact h1
  refine raiseNew_hot ⟨hh, o1, vs1, Heap.get?_push_of_some _ (Heap.get?_push_of_some _ hup), d1, c1⟩ (Nat.ne_of_lt (Heap.lt_size (Heap.get?_push_of_some _ hup))) (Heap.get?_push_size _ rfl) rfl (by first | (simp; done) | (simp; omega) | (simp only [Array.size_append]; simp; omega)) ?_
  refine wpAny_bind (wpAny_isInstance (T := "StopIteration") (b := true) ⟨_, Heap.get?_update_self _ (Heap.get?_push_size _ rfl) rfl, rfl⟩ isSubtype_stop ?_)
  refine wpAny_pure (hQ _ fun b o hb e => ?_)
  have e2 : (s.heap.update it (Obj.mapFields (·.setIfInBounds 0 .none))).get? b = some o := by
    rw [Heap.get?_update_other _ _ (Ne.symm hb)]
    exact e
  rw [Heap.get?_update_other _ _ (Nat.ne_of_gt (Heap.lt_size (Heap.get?_push_of_some _ e2)))]
  exact Heap.get?_push_of_some _ (Heap.get?_push_of_some _ e2)
theorem unpackItems_hot {t x1 : Addr} {items : Array Value} {Q : List Value → Shared → Prop} (hot : HotAt A x1 s.heap) (ht : s.heap.IsTuple t items)
    (hQ : ∀ h', Heap.ExtBut s.heap.objs.size s.heap h' → Q items.toList { s with heap := h' }) : wpAny (model prog w) A (unpackItems (.ref t) items.size none) Q E s := by
  obtain ⟨hh, o1, vs1, g1, d1, c1⟩ := hot
  have hlt : t ≠ s.heap.objs.size := by obtain ⟨o, ho, _⟩ := ht; exact Nat.ne_of_lt (Heap.lt_size ho)
  have hlx : x1 ≠ s.heap.objs.size := Nat.ne_of_lt (Heap.lt_size g1)
  unfold unpackItems
  refine wpAny_bind ?_
  · unfold notIterableAtAll
    refine wpAny_bind (wpAny_specialOf ht.typeIs F.slot_tuple_iter.lookup ?_)
    refine wpAny_pure ?_
    simp only [Bool.false_eq_true, if_false]
    refine wpAny_bind (wpAny_holding (wpAny_pyIter_tuple ht ?_))
    refine wpAny_bind (wpAny_holding (wpAny_draw_tuple hlt items.size 0 _ _ ⟨_, Heap.get?_push_size _ rfl, rfl, rfl⟩ (ht.push _) (by omega) fun h₁ hit₁ hs₁ => ?_))
    have hall : List.take items.size (List.drop 0 items.toList) = items.toList := by
      rw [List.drop_zero]; exact List.take_of_length_le (by simp)
    rw [hall]
    rw [if_neg (by simp)]
    have ht₁ : h₁.IsTuple t items := (ht.push _).extBut hs₁.extBut hlt
    have gx : h₁.get? x1 = some o1 := hs₁.extBut _ _ hlx (Heap.get?_push_of_some _ g1)
    refine wpAny_bind (wpAny_holding (tuple_end_hot ⟨hh, o1, vs1, gx, d1, c1⟩ hit₁ ht₁ (by simp) hlx fun h₂ he₂ => ?_))
    simp only [Option.isSome_none, Bool.false_eq_true, if_false]
    refine wpAny_pure (hQ h₂ fun b o hb e => he₂ b o hb (hs₁.extBut b o hb (Heap.get?_push_of_some _ e)))
theorem assign_Tuple_hot {env : Env} {elts : List Expr} {k : Nat} {pos : Pos} {t x1 : Addr} {items : Array Value} {Q : Unit → Shared → Prop} (hot : HotAt A x1 s.heap) (ht : s.heap.IsTuple t items)
    (hn : (assignEach elts env).length = items.size) (hstar : (assignEach elts env).findIdx? (·.1) = none)
    (h : ∀ h', Heap.ExtBut s.heap.objs.size s.heap h' → wpAny (model prog w) A (assignInOrder ((assignEach elts env).map (·.2)) items.toList) Q E { s with heap := h' }) :
    wpAny (model prog w) A (assign (.Tuple elts k pos) env (.ref t)) Q E s := by
  rw [arm_assign_Tuple]
  refine wpAny_bind (wpAny_standAt ?_)
  unfold unpack
  rw [hn, hstar]
  exact wpAny_bind (wpAny_holding (unpackItems_hot hot ht h))
end
section
variable {X : Cx} {pos : Pos}
theorem pg_tupH {es : List Expr} {k : Nat} {t : TGs} {n : Nat} (hc : HotC X) (h : PGs X es t)
    (hn : (assignEach es X.env).length = n := by rfl) (hst : (assignEach es X.env).findIdx? (·.1) = none := by rfl) : PG X (.Tuple es k pos) (gTup X.K n t) := by
  refine ⟨fun pins s σ H v u Q I r hw => ?_⟩
  obtain ⟨a, xs, e1, hq, hl, hw⟩ := hw
  subst e1
  cases r
  obtain ⟨its, rv, ht, hz⟩ := I.tuple hq
  obtain ⟨x1, hot⟩ := hc.at I
  refine assign_Tuple_hot hot ht (by simp [hn, ← hl, rv.length]) hst fun h' hx => ?_
  have I1 : Inv X pins σ H { s with heap := h' } := I.kept (t' := s.toks) fun b o e => hx b o (Nat.ne_of_lt (Heap.lt_size e)) e
  exact h.run pins _ σ H xs _ Q I1 (by simpa using rv) hw
end
theorem turn_listH {P : Program} {w : World} {K : PySem.W.Frag} {tg : Expr} (a it : Addr) : TurnH P w K tg (Itl K a) [it] it (fun i h => h.IsListIter it a i) where
  mem := by simp
  obj := fun i h st b hb => by
    have e : b = it := by simpa using hb
    subst e
    obtain ⟨o, e, c, d⟩ := st
    exact ⟨o, e, fun v z => by rw [d] at z; cases z⟩
  keep := fun i h h' st k => st.at fun o e => k it (by simp) o e
  item := by
    intro X hP hw hK hc i pins s σ H E I hf st hg
    subst hP hw hK
    obtain ⟨xs, x, hq, hx⟩ := hg
    obtain ⟨its, rv, p, hz⟩ := I.list hq
    obtain ⟨u, hu, ru⟩ := rv.get hx
    obtain ⟨f0, f1, f2, f3, f4, f5⟩ := hf it (by simp)
    refine wpAny_pyNext_list_item st p.isList (x := u) (by simpa using hu) fun h' st' sb => ?_
    have I1 : Inv X pins σ H { s with heap := h' } := I.turned (t' := s.toks) (fun b o hb e => (sb.2 b hb).trans e) f0 f1 f3 f4 f5
    obtain ⟨o, e, c, d⟩ := id st'
    exact ⟨u, rfl, go_of (s := { s with heap := h' }) e c d (by decide) ⟨x, H, I1, ru, ⟨rfl, fun ys hy => by rw [I.list_inj hy hq]; exact hx⟩, st', fun b hb => (hf b hb).1⟩⟩
  done := by
    intro X hP hw hK hc i pins s σ H E I hf st hg
    subst hP hw hK
    obtain ⟨xs, hq, hx⟩ := hg
    obtain ⟨its, rv, p, hz⟩ := I.list hq
    obtain ⟨f0, f1, f2, f3, f4, f5⟩ := hf it (by simp)
    have hl := rv.length
    obtain ⟨q, ⟨hh, v1, e1, c1⟩, hp⟩ := hc
    have P1 := I.pin q (List.mem_append_left _ hp)
    exact list_end_hot ⟨hh, q.2, v1, P1.1, e1, c1⟩ st p.isList (by simp; omega) (f5 q (List.mem_append_left _ hp)) fun h' eb => ⟨rfl, I.turned (t' := s.toks) (fun b o hb e => eb b o hb e) f0 f1 f3 f4 f5⟩
  self := fun _ _ _ _ _ st h => wpAny_pyIter_listiter st h
theorem pi_listH {X : Cx} {tg l : Expr} {tl : TE} (hl : PE X l tl) : PIH X tg l (iList X.K tl) := by
  refine ⟨fun pins s σ H R I h => ?_⟩
  refine thn (hl.run pins s σ H _ I h) fun v s1 ⟨x, H1, I1, r1, q1⟩ => ?_
  obtain ⟨a, e, ⟨xs, hq⟩, q⟩ := q1
  subst e
  cases r1
  obtain ⟨its, rv, p, hz⟩ := I1.list hq
  refine wpAny_pyIter_list p.isList ?_
  refine ⟨s1.heap.objs.size, [s1.heap.objs.size], _, _, H1, rfl, I1.kept (t' := s1.toks) fun b o e => Heap.get?_push_of_some _ e, turn_listH a _, ⟨_, Heap.get?_push_size _ rfl, rfl, rfl⟩, fun b hb => ?_, q⟩
  have e : b = s1.heap.objs.size := by simpa using hb
  subst e
  exact I1.fpOk (Nat.le_refl _) (I1.hok.fresh (Nat.le_refl _))
/-- a def that may be called by its name where an exception is handled -/
structure CalH (P : Program) (w : World) (K : PySem.W.Frag) (mg : Str → Option Value) (base : Heap) (k : Nat) (x : Str) (sp : Sp) : Prop where
  ex : ∃ (f : Addr) (fd : FuncData) (ps : List Str), FnH P w K mg base CX0 k f fd ps sp ∧ mg x = some (.ref f) ∧ PySem.W.keepIn K (.ref f) = true ∧ Binds K fd ps []
section
variable {X : Cx} {k j : Nat} {x : Str} {sp : Sp} {p pos : Pos} {e : Expr} {es : List Expr} {t : TA}
theorem pe_cH (c : CalH X.prog X.w X.K X.mg X.base k x sp) (hr : RoomH j X.A) (hk : k ≤ j) (hot : HotC X) (ha : PA X (e :: es) t) (hg : Gl X x := by rfl)
    (hdb : (x == ("__debug__" : Str)) = false := by decide) (he : starEach (e :: es) X.env = (false, eval e X.env) :: starEach es X.env := by rfl) (hpl : (backTo pos (starEach es X.env)).any (·.1) = false := by rfl) :
    PE X (.Call (.Name x p) (e :: es) [] pos) (tCallS sp (fun _ => E0) t) := by
  obtain ⟨f, fd, ps, F, hm, kp, b⟩ := c.ex
  exact pe_callH F (hr.mono hk) hot hg hm kp b (fun σ _ _ _ _ _ _ h => h.elim) ha hdb he hpl
end
section
variable {P : Program} {w : World} {K : PySem.W.Frag} {mg : Str → Option Value} {base : Heap}
/-- as Fun.ok, for a def that is called where an exception is handled -/
theorem okH {x qual : Str} {st : Stmt} {f : Addr} {fd : FuncData} {N ps : List Str} {k : Nat} {sp : Sp} (F : Fun K x qual st f fd) (S : FnScope N ps (defScope st)) (len : ∀ vs H Q E, sp vs H Q E → vs.length = ps.length)
    (hbody : ∀ (cdv : Value) (A : Around) (outer : List Env) (s : Shared) (H : Hp) (vs : List V) (Q : VK) (E : XK) (p : Addr × Obj), HotC (cxH CX0 P w K mg base N qual (defScope st) f cdv A outer s H E p).nox → RoomH k (A.deeper (envOfC qual (defScope st) s.heap.objs.size f cdv)) → sp vs H Q E →
      ∃ t, PSs (cxH CX0 P w K mg base N qual (defScope st) f cdv A outer s H E p).nox (defBody st) t ∧ t { nx := fun _ H' => Q .non H', rt := Q } (L2.start N vs) H) : FnH P w K mg base CX0 (k + 1) f fd ps sp := by
  obtain ⟨oc, od, kV, doc, pm, an, cdv, ct, osl, rfl, lk, hcd⟩ := F.ex
  refine fn_ofH lk hcd S len fun A outer s H vs Q E p hot hr hsp => ?_
  obtain ⟨t, h, q⟩ := hbody cdv A outer s H vs Q E p ⟨p, hot, List.mem_singleton.mpr rfl⟩ hr hsp
  exact ⟨t, h.nox, q⟩
/-- as Fun.okX, with the context of what is raised -/
theorem okXN {x qual : Str} {st : Stmt} {f : Addr} {fd : FuncData} {N ps : List Str} {k : Nat} {sp : Sp} (F : Fun K x qual st f fd) (S : FnScope N ps (defScope st)) (len : ∀ vs H Q E, sp vs H Q E → vs.length = ps.length)
    (hbody : ∀ (cdv : Value) (A : Around) (outer : List Env) (s : Shared) (H : Hp) (vs : List V) (Q : VK) (E : XK), Room k (A.deeper (envOfC qual (defScope st) s.heap.objs.size f cdv)) → sp vs H Q E →
      ∃ t, PSs (cxOf (L2N.CX P w) P w K mg base N qual (defScope st) f cdv A outer s H E) (defBody st) t ∧ t { nx := fun _ H' => Q .non H', rt := Q } (L2.start N vs) H) : FnOk P w K mg base (L2N.CX P w) (k + 1) f fd ps sp := by
  obtain ⟨oc, od, kV, doc, pm, an, cdv, ct, osl, rfl, lk, hcd⟩ := F.ex
  exact fn_of lk hcd S len fun A outer s H vs Q E hr hsp => hbody cdv A outer s H vs Q E hr hsp
theorem passLN {X : Cx} : Passes (L2N.CX X.prog X.w) X E0 := fun _ _ _ _ _ _ _ h => by
  obtain ⟨_, _, _, _, _, _, _, _, _, _, _, _, z⟩ := h
  exact z.elim
theorem takes0N {X : Cx} : L2N.Takes X (fun _ _ _ _ => False) := fun _ _ x => by
  obtain ⟨_, _, _, _, _, _, _, _, _, _, _, _, _, _, _, _, z⟩ := x
  exact z.elim
end
section
variable {X : Cx} {k j : Nat} {x : Str} {sp : Sp} {p pos : Pos} {e : Expr} {es : List Expr} {t : TA} {W : WX}
/-- a call within a try, what it lets out is the clause's -/
theorem pe_cSN (c : Cal X.prog X.w X.K X.mg X.base (L2N.CX X.prog X.w) k x sp) (hr : Room j X.A) (hk : k ≤ j) (tk : L2N.Takes X W) (ha : PA X (e :: es) t) (hg : Gl X x := by rfl)
    (hdb : (x == ("__debug__" : Str)) = false := by decide) (he : starEach (e :: es) X.env = (false, eval e X.env) :: starEach es X.env := by rfl) (hpl : (backTo pos (starEach es X.env)).any (·.1) = false := by rfl) :
    PE X (.Call (.Name x p) (e :: es) [] pos) (tCallS sp (WE W) t) := by
  obtain ⟨f, fd, ps, F, hm, kp, b⟩ := c.ex
  exact pe_callS F (hr.mono hk) hg hm kp b (fun σ => L2N.passAt tk σ) ha hdb he hpl
/-- the suite of an except clause bears what it handles -/
theorem hot_suite {a : Addr} {oe : Obj} {cls : Value} {d : Option Addr} {pn : List (Addr × Obj)} (hz : L2N.Zn cls d oe) (hf : ∃ vs, oe.data = .fields vs) : HotC (X.suite a ((a, oe) :: pn)) := by
  obtain ⟨vs, hd⟩ := hf
  exact ⟨(a, oe), ⟨rfl, vs, hd, hz.2.2 vs hd⟩, List.mem_cons_self⟩
theorem room_suite {a : Addr} {pn : List (Addr × Obj)} (hr : Room k X.A) : RoomH k (X.suite a pn).A := ⟨hr.dp, hr.un⟩
end
end Sn

/-! My own rules: replace of written texts behind a test against a written number. Mathematics of chunks. -/
namespace Sn
open PySem PySem.Spec PyProof.Rows L2 TL
section
variable {X : Cx} {a e : Expr} {ta te : TE} {pos cpos cp : Pos}
theorem pst_set {i : Nat} {x : Str} {pos' : Pos} (hN : X.N.Nodup) (hi : X.N[i]? = some x) (hx : Loc X.env.scope x) (he : PET X e te) (hs : swapsWith e (some (.Name x pos')) pos.line X.env = pure false := by rfl)
    (hf : X.fn x = true ∨ X.env.scope.names.lookup x = some .local := by first | exact .inl rfl | exact .inr rfl | assumption) : PST X (.Assign [.Name x pos'] e pos) (tAsg te (gName i)) := by
  intro pins s σ H D h0 I h
  refine wpAny_Assign_Name (thn (he pins s σ H _ h0 I h) fun v s1 ⟨y, H1, I1, r1, q1⟩ => store_ok I1 hN hi hx r1 (fun s2 I2 => ⟨_, H1, I2, q1⟩) hf) hs
theorem psst_one1 {st : Stmt} {t : TS} (h : PST X st t) : PSsT X [st] t := psst_cons h (PSsT.of pss_nil)
/-- a test against a written number: behind it a token is out -/
theorem ps_ifK {op : CmpOp} {r : R2} {n : Int} {j : Nat} {body orelse : List Stmt} {t u : TS} (ho : OpR X (compareOp op) r) (ha : PE X a ta) (hm : behindInMarks op (.Constant (.int n) j cp) = false) (hb : PSsT X body t) (hc : PSs X orelse u) :
    PS X (.If (.Compare a [op] [.Constant (.int n) j cp] cpos) body orelse pos) (tIfS (tTest (tOp r ta (tC (.int n)))) t u) := by
  refine ⟨fun pins s σ H D I h => ?_⟩
  refine wpAny_If (wpAny_isTrue_Compare1 (thn (ha.run pins s σ H _ I h) fun v s1 ⟨x, H1, I1, r1, q1⟩ => wpAny_Constant_int ?_) hm)
  refine wpAny_mono (PySem.wpAny_toks (ho pins { s1 with toks := s1.toks + 1 } σ H1 x (.int n) v _ _ (I1.tok _) r1 ⟨_, rfl⟩ q1)) (fun c s3 q => ?_) fun _ _ z => z.2
  obtain ⟨hk, z, H3, I3, r3, k, ez, q3⟩ := q
  subst ez
  cases r3
  have hk : s1.toks + 1 ≤ s3.toks := hk
  refine wpAny_truthy_bool ?_
  cases k with
  | true => exact hb pins s3 σ H3 D (by omega) I3 q3
  | false => exact hc.run pins s3 σ H3 D I3 q3
end
/-! ### lines of a text -/
abbrev NL : Str := ("\n" : Str)
theorem nl_eq : NL = ⟨#[10]⟩ := by decide +kernel
/-- the lines of a text -/
def rws (z : Str) : List (List Nat) := rows 10 [] (tl z)
theorem split_len (z : Str) : (Txt.split z NL).length = (rws z).length := by
  have k := congrArg List.length (split_rows z 10 (by decide))
  rw [List.length_map] at k
  rw [nl_eq]
  exact k
theorem split_at {z x : Str} {i : Nat} (h : (Txt.split z NL)[i]? = some x) : (rws z)[i]? = some (tl x) := by
  have k := split_rows z 10 (by decide)
  rw [nl_eq] at h
  unfold rws
  rw [← k, List.getElem?_map, h] <;> rfl
theorem rws_pos (z : Str) : 0 < (rws z).length := by
  unfold rws
  rw [rows_len]
  omega
theorem rws_le (z : Str) : (rws z).length ≤ (tl z).length + 1 := by
  unfold rws
  rw [rows_len]
  have := List.count_le_length (a := 10) (l := tl z)
  omega
theorem cutV_to (xs : List V) (o : Nat) : cutV xs none (some (o : Int)) = xs.take o := by
  unfold cutV
  rw [HT.sIx_none, HT.sIx_nat, List.drop_zero, Nat.sub_zero, List.take_eq_take_iff]
  omega
theorem cutV_from (xs : List V) (o : Nat) : cutV xs (some (o : Int)) none = xs.drop o := by
  unfold cutV
  rw [HT.sIx_none, HT.sIx_nat]
  rcases Nat.le_total o xs.length with h | h
  · rw [Nat.min_eq_left h, List.take_of_length_le (by rw [List.length_drop]; exact Nat.le_refl _)]
  · rw [Nat.min_eq_right h, Nat.sub_self, List.take_zero, List.drop_eq_nil_of_le h]
theorem row_le {z x : Str} {i : Nat} (h : (Txt.split z NL)[i]? = some x) : x.length ≤ (tl z).length := by
  have k := split_at h
  have : ∀ (l acc : List Nat) (i : Nat) (r : List Nat), (rows 10 acc l)[i]? = some r → r.length ≤ acc.length + l.length := by
    intro l
    induction l with
    | nil =>
      intro acc i r h
      cases i with
      | zero => rw [← Option.some.inj (show some acc = some r from h)]; exact Nat.le_add_right ..
      | succ i => cases h
    | cons d l ih =>
      intro acc i r h
      have h : (if d = 10 then acc :: rows 10 [] l else rows 10 (acc ++ [d]) l)[i]? = some r := h
      rw [List.length_cons]
      split at h
      · cases i with
        | zero => rw [← Option.some.inj (show some acc = some r from h)]; omega
        | succ i =>
          have z := ih [] i r h
          simp only [List.length_nil] at z
          omega
      · have z := ih _ i r h
        rw [List.length_append, List.length_singleton] at z
        omega
  have k2 := this _ _ _ _ k
  rw [len_tl x]
  simpa using k2
theorem s_sp7 : (" " : Str) = ⟨#[32]⟩ := by decide +kernel
theorem s_nl7 : ("\n" : Str) = ⟨#[10]⟩ := by decide +kernel
/-! ### where chunks begin -/
def beg (c : Nat) : Bool := c != 32 && c != 10
def stL : List Nat → Bool → Nat → List Nat
  | [], _, _ => []
  | c :: r, f, at_ => (if (f && beg c) = true then [at_] else []) ++ stL r (c == 10) (at_ + 1)
def lastf : List Nat → Bool → Bool
  | [], f => f
  | d :: r, _ => lastf r (d == 10)
theorem stL_snoc (c : Nat) : ∀ (l : List Nat) (f : Bool) (a : Nat), stL (l ++ [c]) f a = stL l f a ++ (if (lastf l f && beg c) = true then [a + l.length] else [])
  | [], f, a => by
    show (if (f && beg c) = true then [a] else []) ++ [] = [] ++ (if (f && beg c) = true then [a + 0] else [])
    simp
  | d :: r, f, a => by
    have ih := stL_snoc c r (d == 10) (a + 1)
    show (if (f && beg d) = true then [a] else []) ++ stL (r ++ [c]) (d == 10) (a + 1) = ((if (f && beg d) = true then [a] else []) ++ stL r (d == 10) (a + 1)) ++ (if (lastf r (d == 10) && beg c) = true then [a + (r.length + 1)] else [])
    rw [ih, List.append_assoc, show a + (r.length + 1) = a + 1 + r.length by omega]
theorem lastf_take : ∀ (l : List Nat) (i d : Nat) (f : Bool), l[i]? = some d → lastf (l.take (i + 1)) f = (d == 10)
  | [], i, d, f, h => by simp at h
  | e :: r, 0, d, f, h => by
    have : e = d := by simpa using h
    subst this
    rfl
  | e :: r, i + 1, d, f, h => by
    rw [List.take_succ_cons]
    exact lastf_take r i d (e == 10) (by simpa using h)
theorem stL_le : ∀ (l : List Nat) (f : Bool) (a : Nat), (stL l f a).length ≤ l.length
  | [], _, _ => Nat.le_refl _
  | c :: r, f, a => by
    have := stL_le r (c == 10) (a + 1)
    show ((if (f && beg c) = true then [a] else []) ++ stL r (c == 10) (a + 1)).length ≤ r.length + 1
    rw [List.length_append]
    split <;> simp <;> omega
/-- .. by lines -/
def rowSt : List (List Nat) → Nat → List Nat
  | [], _ => []
  | r :: rs, a => (if (r.head?.any fun c => c != 32) = true then [a] else []) ++ rowSt rs (a + r.length + 1)
theorem rowSt_rows : ∀ (l acc : List Nat) (a : Nat), (∀ c ∈ acc, c ≠ 10) → rowSt (rows 10 acc l) a = (match acc with
    | [] => stL l true a
    | c :: _ => (if (c != 32) = true then [a] else []) ++ stL l false (a + acc.length))
  | [], acc, a, h => by
    cases acc with
    | nil => rfl
    | cons c r => rfl
  | d :: r, acc, a, h => by
    show rowSt (if d = 10 then acc :: rows 10 [] r else rows 10 (acc ++ [d]) r) a = _
    by_cases hd : d = 10
    · subst hd
      rw [if_pos rfl]
      have ih := rowSt_rows r [] (a + acc.length + 1) (fun _ hc => nomatch hc)
      show (if (acc.head?.any fun c => c != 32) = true then [a] else []) ++ rowSt (rows 10 [] r) (a + acc.length + 1) = _
      rw [ih]
      cases acc with
      | nil =>
        show [] ++ stL r true (a + 0 + 1) = (if (true && beg 10) = true then [a] else []) ++ stL r (10 == 10) (a + 1)
        rfl
      | cons c q =>
        show (if (c != 32) = true then [a] else []) ++ stL r true (a + (c :: q).length + 1) = (if (c != 32) = true then [a] else []) ++ ((if (false && beg 10) = true then [a + (c :: q).length] else []) ++ stL r (10 == 10) (a + (c :: q).length + 1))
        rfl
    · rw [if_neg hd]
      have hd2 : (d == 10) = false := beq_eq_false_iff_ne.mpr hd
      have ih := rowSt_rows r (acc ++ [d]) a (fun c hc => by
        rcases List.mem_append.mp hc with hc | hc
        · exact h c hc
        · rw [List.mem_singleton.mp hc]; exact hd)
      rw [ih]
      cases acc with
      | nil =>
        show (if (d != 32) = true then [a] else []) ++ stL r false (a + 1) = (if (true && beg d) = true then [a] else []) ++ stL r (d == 10) (a + 1)
        have : (d != 10) = true := by simpa using hd
        rw [hd2]
        unfold beg
        rw [this, Bool.true_and, Bool.and_true]
      | cons c q =>
        show (if (c != 32) = true then [a] else []) ++ stL r false (a + (c :: (q ++ [d])).length) = (if (c != 32) = true then [a] else []) ++ ((if (false && beg d) = true then [a + (c :: q).length] else []) ++ stL r (d == 10) (a + (c :: q).length + 1))
        rw [hd2, show a + (c :: (q ++ [d])).length = a + (c :: q).length + 1 by simp; omega]
        rfl
theorem rowSt_snoc (r : List Nat) : ∀ (rs : List (List Nat)) (a : Nat), rowSt (rs ++ [r]) a = rowSt rs a ++ (if (r.head?.any fun c => c != 32) = true then [a + lens rs] else [])
  | [], a => by
    show (if (r.head?.any fun c => c != 32) = true then [a] else []) ++ [] = [] ++ (if (r.head?.any fun c => c != 32) = true then [a + 0] else [])
    simp
  | q :: rs, a => by
    have ih := rowSt_snoc r rs (a + q.length + 1)
    show (if (q.head?.any fun c => c != 32) = true then [a] else []) ++ rowSt (rs ++ [r]) (a + q.length + 1) = ((if (q.head?.any fun c => c != 32) = true then [a] else []) ++ rowSt rs (a + q.length + 1)) ++ _
    rw [ih, List.append_assoc, show a + lens (q :: rs) = a + q.length + 1 + lens rs by unfold lens; simp; omega]
theorem lens_snoc (rs : List (List Nat)) (r : List Nat) : lens (rs ++ [r]) = lens rs + (r.length + 1) := by
  unfold lens
  rw [List.map_append, List.sum_append]
  simp
theorem rowSt_len (l : List (List Nat)) (a : Nat) : (rowSt l a).length ≤ l.length := by
  induction l generalizing a with
  | nil => exact Nat.le_refl _
  | cons r rs ih =>
    have := ih (a + r.length + 1)
    show ((if (r.head?.any fun c => c != 32) = true then [a] else []) ++ rowSt rs (a + r.length + 1)).length ≤ rs.length + 1
    rw [List.length_append]
    split <;> simp <;> omega
/-- the chunks of a text, as pairs -/
def chV (l : List Nat) : List (List V) := List.zipWith (fun x y => [x, y]) ((stL l true 0).map fun n : Nat => V.int (n : Int)) ((((stL l true 0).map fun n : Nat => V.int (n : Int)).drop 1) ++ [V.int (l.length : Int)])
end Sn

/-! My own words: methods called by name, attributes, dicts of the module with get. -/
namespace Sn
open PySem PySem.Spec PyProof.Rows L2
section
variable {X : Cx} {e : Expr} {t t' : TE}
theorem PE.imp (h : PE X e t) (i : ∀ σ H Q, t' σ H Q → t σ H Q) : PE X e t' := ⟨fun pins s σ H Q I q => h.run pins s σ H Q I (i _ _ _ q)⟩
theorem PS.imp {st : Stmt} {u u' : TS} (h : PS X st u) (i : ∀ D σ H, u' D σ H → u D σ H) : PS X st u' := ⟨fun pins s σ H D I q => h.run pins s σ H D I (i _ _ _ q)⟩
def tUp (t : TE) : TE := fun σ H Q => ∃ Q' : VK, t σ H Q' ∧ ∀ v H1, Q' v H1 → Q v H1
theorem PE.up (h : PE X e t) : PE X e (tUp t) := ⟨fun pins s σ H Q I ⟨Q', a, b⟩ => thn (h.run pins s σ H Q' I a) fun v s1 ⟨x, H1, I1, r1, q1⟩ => ⟨x, H1, I1, r1, b _ _ q1⟩⟩
end
/-- a method that may be called by its name -/
structure CalM (P : Program) (w : World) (K : PySem.W.Frag) (mg : Str → Option Value) (base : Heap) (CX : CXT) (k : Nat) (C : Addr) (m : Str) (sp : Sp) : Prop where
  ex : ∃ (f : Addr) (fd : FuncData) (ps : List Str), FnOk P w K mg base CX k f fd ps sp ∧ Meth K C m f ∧ Binds K fd ps []
/-- an instance of the class at C with attributes of these names -/
def IsI (H : Hp) (C p : Addr) (ns : List Str) : Prop := ∃ dx fs, H p = some (.ins C dx fs) ∧ fs.map (·.1) = ns
theorem lookup_no : ∀ {fs : List (Str × V)} {ns : List Str} {m : Str}, fs.map (·.1) = ns → ns.contains m = false → fs.lookup m = none
  | [], _, _, _, _ => rfl
  | (n, v) :: r, _, m, h, hm => by
    subst h
    rw [List.map_cons, List.contains_cons, Bool.or_eq_false_iff] at hm
    rw [List.lookup_cons, hm.1]
    exact lookup_no rfl hm.2
def tMe (C : Addr) (ns : List Str) (sp : Sp) (E : XK) (ta : TE) (t : TA) : TE := fun σ H Q => ta σ H fun x H1 => ∃ p, x = .ref p ∧ IsI H1 C p ns ∧ t σ H1 fun vs H2 => sp (x :: vs) H2 Q E
section
variable {X : Cx} {k j : Nat} {C : Addr} {m : Str} {sp : Sp} {apos pos : Pos} {o e : Expr} {es : List Expr} {ta : TE} {t : TA} {CX : CXT} {E : XK} {pl : Sem Bool}
theorem pe_m (ns : List Str) (c : CalM X.prog X.w X.K X.mg X.base CX k C m sp) (cl : Cls X.K C) (hno : ns.contains m = false) (hr : Room j X.A) (hk : k ≤ j) (hx : Passes CX X E) (he : PE X o ta) (ha : PA X (e :: es) t)
    (hst : starEach (e :: es) X.env = (false, eval e X.env) :: starEach es X.env := by rfl) (hpl : (backTo pos (starEach es X.env)).any (·.1) = false := by rfl)
    (ht : eval (.Call (.Attribute o m apos) (e :: es) [] pos) X.env = (do
      let ov ← eval o X.env
      standAt apos.atName
      let (f, first) ← holding [ov] (getMethod ov m pl)
      callWith pos f first (backTo pos (starEach (e :: es) X.env)) (backToKw pos (keywordEach [] X.env))) := by rfl) :
    PE X (.Call (.Attribute o m apos) (e :: es) [] pos) (tMe C ns sp E ta t) := by
  obtain ⟨f, fd, ps, F, hm, b⟩ := c.ex
  refine PE.imp (pe_meth (PE.up he) cl hm F (hr.mono hk) b .nil hx ha hst hpl ht) fun σ H Q h => ⟨_, h, ?_⟩
  rintro v H1 ⟨p, rfl, ⟨dx, fs, hp, hn⟩, q⟩
  refine ⟨p, dx, fs, rfl, hp, lookup_no hn hno, ?_⟩
  simp only [List.append_nil]
  exact q
theorem pe_m0 (ns : List Str) (c : CalM X.prog X.w X.K X.mg X.base CX k C m sp) (cl : Cls X.K C) (hno : ns.contains m = false) (hr : Room j X.A) (hk : k ≤ j) (hx : Passes CX X E) (he : PE X o ta)
    (ht : eval (.Call (.Attribute o m apos) [] [] pos) X.env = (do
      let ov ← eval o X.env
      standAt apos.atName
      let (f, first) ← holding [ov] (getMethod ov m pl)
      callWith pos f first (backTo pos (starEach [] X.env)) (backToKw pos (keywordEach [] X.env))) := by rfl) :
    PE X (.Call (.Attribute o m apos) [] [] pos) (tMe C ns sp E ta tNil) := by
  obtain ⟨f, fd, ps, F, hm, b⟩ := c.ex
  refine PE.imp (pe_meth0 (PE.up he) cl hm F (hr.mono hk) b .nil hx ht) fun σ H Q h => ⟨_, h, ?_⟩
  rintro v H1 ⟨p, rfl, ⟨dx, fs, hp, hn⟩, q⟩
  refine ⟨p, dx, fs, rfl, hp, lookup_no hn hno, ?_⟩
  exact q
end
/-! ### a dict of the module: get with another value -/
section
variable {X : Cx}
/-- a written dict with text keys; what it has at a key -/
structure KdAt (K : PySem.W.Frag) (w : World) (a : Addr) : Prop where
  ex : ∃ es n, K.lookup a = some ⟨.type "dict", none, .dict es n, #[]⟩ ∧ PySem.W.KeysLit w.params es.toList
  low : (a == sysModules) = false
def KdGet (K : PySem.W.Frag) (a : Addr) (x : Str) (r : Option V) : Prop := ∃ u, PySem.W.nsIn K a x = some u ∧ RelO r u
theorem relO_getD {r : Option V} {u : Option Value} {v : V} {d : Value} (h : RelO r u) (k : RelV v d) : RelV (r.getD v) (u.getD d) := by
  cases r with
  | none =>
    cases u with
    | none => exact k
    | some u => exact h.elim
  | some r =>
    cases u with
    | none => exact h.elim
    | some u => exact h
def tKGet2 (K : PySem.W.Frag) (w : World) (td ty tx : TE) : TE := fun σ H Q => td σ H fun x H1 => ∃ a, x = .ref a ∧ KdAt K w a ∧ ty σ H1 fun y H2 => tx σ H2 fun z H3 => ∃ (s : Str) (r : Option V), y = .str s ∧ KdGet K a s r ∧ Q (r.getD z) H3
theorem pe_kget2 {o e f : Expr} {apos cpos : Pos} {td ty tx : TE} (ho : PE X o td) (he : PE X e ty) (hf : PE X f tx) (m : M2 X o "get" apos e f cpos) : PE X (.Call (.Attribute o "get" apos) [e, f] [] cpos) (tKGet2 X.K X.w td ty tx) := by
  refine ⟨fun pins s σ H Q I h => ?_⟩
  refine wpAny_Call_method m.base m.few m.line PySem.F.plainAttrs_dict PySem.F.slot_dict_get PySem.F.type_dict_get (thn (ho.run pins s σ H _ I h) fun u s1 ⟨x, H1, I1, rx, a, ex, ⟨⟨es, n, hl, hk⟩, low⟩, q1⟩ => ?_)
  subst ex
  obtain rfl : u = Value.ref a := rx
  have M0 := PySem.W.mapOf_K (prog := X.prog) (w := X.w) I1.kIn hl hk
  refine ⟨M0.typeIs, fun b q => ?_, ?_⟩
  · cases q
    exact ⟨_, I1.kIn _ _ hl, rfl⟩
  rw [m.trees]
  refine Calls.callWith_builtin rfl (Calls.evalArgs_plain (Calls.spliced_cons (thn (he.run pins s1 σ H1 _ I1 q1) fun iv s2 ⟨y, H2, I2, ry, q2⟩ =>
    Calls.spliced_cons (thn (hf.run pins s2 σ H2 _ I2 q2) fun fv s3 ⟨z, H3, I3, rz, x, r, ey, ⟨u0, e, ro⟩, q3⟩ => Calls.spliced_nil ?_))))
  subst ey
  obtain ⟨t, rfl⟩ := (show ∃ t, iv = Value.str x t from ry)
  have M3 := PySem.W.mapOf_K (prog := X.prog) (w := X.w) I3.kIn hl hk
  refine call_meetsIn PySem.F.slot_dict_get M3.typeIs PySem.F.entry_dict_get (PySem.F.args_dict_get_3 _ _ _) (meets_dict_get_default (strKind X.prog X.w) a (strKind_is X.prog X.w x t) low fv) ⟨_, M3, ?_⟩
  rw [PySem.W.find_K hl e]
  exact ⟨_, H3, I3.tok _, relO_getD ro rz, q3⟩
end
end Sn

/-! My own words: an own exception with its dict is raised, with the context that a suite wants; isinstance of it. -/
namespace Sn
open PySem PySem.Spec PyProof.Rows L2
section
variable {X : Cx} {e : Expr} {es : List Expr} {ta : TA} {p pos : Pos}
/-- the error is whole -/
theorem made_N {pins : List (Addr × Obj)} {σ : L2.St} {G1 G2 : Hp} {Q : XK} {u1 u2 u3 : Heap} {g1 g2 : Array GenState} {d1 d2 : Drawn} {t1 t2 : Nat} {w1 w2 : OsState} {a C dd : Addr} {fs : List (Str × V)} (R : Raises X (.ref C)) (I1 : Inv X pins σ G1 ⟨u1, g1, d1, t1, w1⟩)
    (fa : u1.objs.size ≤ a) (kp : ∀ b o, u1.get? b = some o → u2.get? b = some o) (un : Un (frs X.stack) [] (upd G1 a (exo a C none)) G2 u2 u3) (hk : HOk X.prog X.w G2 u3) (hw : w2 = w1) (bare : AllBare g2)
    (ea : G2 a = some (exo a C (some dd))) (ed : G2 dd = some (exd dd fs)) (nd : G1 dd = none) (q : Q (.ref C) (some dd) (upd (del G2 a) dd (.xd fs))) : L2N.MkP X pins σ Q (.ref a) ⟨u3, g2, d2, t2, w2⟩ := by
  obtain ⟨t0, G, J, kG, ge, he, na⟩ := mk_end0 (d2 := d2) (t2 := t2) I1 fa kp un hk hw bare ea ed nd
  refine ⟨a, _, _, ⟨G, g2, d2, t2, w2⟩, _, .ref C, some dd, rfl, J, kG, ge, he, ⟨rfl, rfl, ?_⟩, rfl, rfl, na, rfl, bare, R, q⟩
  intro vs hv
  cases hv
  rfl
theorem pmk_oexN {CX : CXT} {x : Str} {C fI : Addr} {k : Nat} {fd : FuncData} {ps : List Str} {sp : Sp} (T : OexC X.K C) (iC : PySem.W.findIn X.K (.ref C) "__init__" = some (some (.ref fI)))
    (tI : PySem.W.typeIn X.K (.ref fI) = some (.type "function")) (F1 : FnOk X.prog X.w X.K X.mg X.base CX k fI fd ps sp) (hr : Room (k + 1) X.A)
    (hb : Binds X.K fd ps []) (hx : Passes CX X (fun _ _ _ => False)) (hg : Gl X x) (hm : X.mg x = some (.ref C))
    (ha : PA X (e :: es) ta) (hdb : (x == ("__debug__" : Str)) = false := by decide)
    (he : starEach (e :: es) X.env = (false, eval e X.env) :: starEach es X.env := by rfl)
    (hpl : (backTo pos (starEach es X.env)).any (·.1) = false := by rfl) : L2N.PMk X (.Call (.Name x p) (e :: es) [] pos) (tMkO C sp [] ta) := by
  intro pins s σ H Q I0 wish
  obtain ⟨n1, n2, n3, n4, bm, n5, n6, n7, n8, n9, m0, m1, m2, m3, m4, atC, vb⟩ := T.cls
  refine wpAny_Call_Name_kw (ld_glob I0 hg hm ?_ hdb)
  refine PySem.W.callWith_K (h₀ := X.base) I0.ok.mod.kin T.kC (thn (ha.run pos pins s σ H _ I0 wish) ?_) he hpl
  rintro us v1 ⟨vs, G1, I1, r1, hz, q1⟩
  refine ⟨I1.kIn, ?_⟩
  show wpAny _ _ (call (.ref C) us) _ _ _
  obtain ⟨u0, g0, dw, tc, ow⟩ := v1
  have step1 : u0.objs.size ≤ u0.objs.size + 1 := Nat.le_succ _
  have free : G1 (u0.objs.size + 1) = none := I1.hok.fresh step1
  have goal1 := q1 (u0.objs.size + 1) free
  have grow : ∀ b o, u0.get? b = some o → ((u0.push (PySem.W.kdv_tup us)).push (PySem.HandSPX.excO C u0.objs.size)).get? b = some o := by
    intro b o q
    exact Heap.get?_push_of_some _ (Heap.get?_push_of_some _ q)
  have there : ((u0.push (PySem.W.kdv_tup us)).push (PySem.HandSPX.excO C u0.objs.size)).get? (u0.objs.size + 1) = some (PySem.HandSPX.excO C u0.objs.size) := by heap_get
  have I2 : Inv X pins σ (upd G1 (u0.objs.size + 1) (exo (u0.objs.size + 1) C none)) ⟨(u0.push (PySem.W.kdv_tup us)).push (PySem.HandSPX.excO C u0.objs.size), g0, dw, tc, ow⟩ :=
    I1.laid (t' := tc) (a := u0.objs.size + 1) (o := exo (u0.objs.size + 1) C none) (h' := (u0.push (PySem.W.kdv_tup us)).push (PySem.HandSPX.excO C u0.objs.size)) grow step1 (exo_ok there)
  rw [List.append_nil] at goal1
  have r2 : Vals (V.ref (u0.objs.size + 1) :: vs) (Value.ref (u0.objs.size + 1) :: us) := .cons rfl r1
  have hl : (Value.ref (u0.objs.size + 1) :: us ++ ([] : List Value)).length = ps.length := by
    have q := r2.length
    rw [F1.len _ _ _ _ goal1] at q
    rw [List.append_nil]
    exact q.symm
  have few : us.length ≤ sizeLine := by
    rw [← Paired.length r1, sizeLine_eq]
    omega
  have bd := hb _ (Value.ref (u0.objs.size + 1) :: us) I2.kIn hl
  rw [List.append_nil] at bd
  have run := F1.run _ X.stack _ _ ⟨Value.ref (u0.objs.size + 1) :: us, []⟩ (Value.ref (u0.objs.size + 1) :: us) _ _ (fun _ _ _ => False) (hr.make C us []) (I2.env0.make C us []) bd r2 goal1
  refine wpAny_call (PySem.HandSPX.call_own F.excBase_ValueError (fun Y => PySem.HandSPX.refsVE_contains Y bm vb) (I1.kIn _ _ atC) (PySem.W.looks_findIn I1.kIn iC) (fun self => PySem.W.bind_fn I1.kIn self tI) few (codeAny_mono run ?_))
  rintro (er | fl) s' after
  · exact hx pins σ _ _ er s' I2 after
  · cases fl with
    | next => exact False.elim after
    | brk => exact False.elim after
    | cont => exact False.elim after
    | ret u =>
      obtain ⟨v, G2, ow2, bare2, un2, hok2, rv, ev, d, fs, ea, ed, nd, q2⟩ := after
      subst ev
      obtain ⟨u2, g2, dw2, tc2, ow'⟩ := s'
      exact ⟨rv, made_N (raises_own T.exC T.tyC) I1 step1 grow un2 hok2 ow2 bare2 ea ed nd q2⟩
/-- isinstance(e, c), e what the suite holds, with its dict -/
theorem call_isXd {a : Addr} {oe : Obj} {cls : Value} {d : Option Addr} {pn : List (Addr × Obj)} (hz : L2N.Zn cls d oe) (hf : ∃ vs, oe.data = .fields vs) :
    CallR (X.suite a ((a, oe) :: pn)) (.builtin "isinstance") (fun xs H Q => ∃ (D dd : Addr) (fs : List (Str × V)), cls = .ref D ∧ d = some dd ∧ H dd = some (.xd fs) ∧ ExcC X.K D ∧ rIsE X.K D a xs H Q) := by
  intro pins s σ H xs us Q I r h
  obtain ⟨D, dd, fs, rfl, rfl, hdd, C, c, cv, b, rfl, hcv, e, q⟩ := h
  cases r with
  | cons rx rr =>
    cases rr with
    | cons rt rr =>
      cases rr
      cases rx
      obtain rfl := hcv _ rt
      obtain ⟨hget, _⟩ := I.pin (a, oe) (List.mem_append.mpr (.inl List.mem_cons_self))
      obtain ⟨vs, hv⟩ := hf
      obtain ⟨mA, hns, _⟩ := I.hok dd _ hdd
      obtain ⟨od, hod, _⟩ := lookIn_ns hns
      have J : PySem.W.InstAt s.heap a oe D (some od) := ⟨hget, hz.1, by unfold PySem.W.notCls; rw [hv] <;> rfl, by rw [hz.2.1]; exact hod⟩
      have hcl : (PySem.W.clsIn X.K D).isSome = true := by
        have := C.hd
        unfold PySem.W.hasDictIn at this
        cases k : PySem.W.clsIn X.K D with
        | none => rw [k] at this; cases this
        | some _ => rfl
      exact PySem.W.kia_one (PySem.W.kitx_exc hcl C.hg C.hk C.hs C.ha C.hn C.ht C.hm) I.kIn J e (fun z => nomatch z) fun tk => ⟨.bl b, H, I.kept (t' := tk) fun _ _ z => z, rfl, q⟩
end
end Sn

/-! Printed words and what is read of them. -/
namespace Sn
open PySem PySem.Spec PyProof.Rows L2 TL
/-- a printed word and its place -/
abbrev Wd := List Nat × Nat
def sortW (s : List Nat) : Str := match s with
  | [] => ""
  | c :: _ => if isL c = true then (if inV (.str (strL s)) (wds.map V.str) = true then "word" else "name") else if isD c = true then "number" else if s = [61, 61] then "sign" else if c ∈ tl sgs then "sign" else "wrong"
def tkW (w : Wd) : Tok := (sortW w.1, w.2, w.2 + w.1.length)
structure HasW (S : Src) (ws : List Wd) : Prop where
  ts : S.ts = ws.map tkW
  sl : ∀ w ∈ ws, (S.l.drop w.2).take w.1.length = w.1
/-- the words from a on -/
def At (S : Src) (a : Nat) (r : List Wd) : Prop := ∃ pre, HasW S (pre ++ r) ∧ pre.length = a
section
variable {S : Src} {a : Nat} {w : Wd} {r x y : List Wd}
theorem At.tok (h : At S a (w :: r)) : S.ts[a]? = some (tkW w) ∧ (S.l.drop w.2).take w.1.length = w.1 := by
  obtain ⟨pre, ⟨h1, h2⟩, rfl⟩ := h
  exact ⟨by rw [h1, List.getElem?_map, List.getElem?_append_right (Nat.le_refl _), Nat.sub_self]; rfl, h2 w (by simp)⟩
theorem At.wd (h : At S a (w :: r)) : S.wd a = w.1 := by
  obtain ⟨h1, h2⟩ := h.tok
  unfold Src.wd
  rw [h1]
  show (S.l.drop w.2).take (w.2 + w.1.length - w.2) = w.1
  rw [Nat.add_sub_cancel_left]
  exact h2
theorem At.so (h : At S a (w :: r)) : S.so a = sortW w.1 := by unfold Src.so; rw [h.tok.1]; rfl
theorem At.st (h : At S a (w :: r)) : S.st a = w.2 := by unfold Src.st; rw [h.tok.1]; rfl
theorem At.en (h : At S a (w :: r)) : S.en a = w.2 + w.1.length := by unfold Src.en; rw [h.tok.1]; rfl
theorem At.fp (h : At S a (w :: r)) : S.fp a = (w.2, w.2 + w.1.length) := by unfold Src.fp; rw [h.tok.1]; rfl
theorem At.lt (h : At S a (w :: r)) : a < S.n := (List.getElem?_eq_some_iff.mp h.tok.1).1
theorem At.next (h : At S a (w :: r)) : At S (a + 1) r := by
  obtain ⟨pre, h1, rfl⟩ := h
  exact ⟨pre ++ [w], by rw [List.append_assoc]; exact h1, by simp⟩
theorem At.app (h : At S a (x ++ y)) : At S (a + x.length) y := by
  obtain ⟨pre, h1, rfl⟩ := h
  exact ⟨pre ++ x, by rw [List.append_assoc]; exact h1, by simp⟩
theorem At.nil (h : At S a []) : S.n = a ∧ S.wd a = [] := by
  obtain ⟨pre, ⟨h1, _⟩, rfl⟩ := h
  have e : S.n = pre.length := by unfold Src.n; rw [h1]; simp
  exact ⟨e, by unfold Src.wd; rw [List.getElem?_eq_none (show S.ts.length ≤ _ from Nat.le_of_eq e)]⟩
theorem At.eqW (h : At S a (w :: r)) {s : Str} : S.eqW a s = decide (w.1 = tl s) := by unfold Src.eqW; rw [h.wd]
theorem At.yes (h : At S a (w :: r)) {s : Str} (e : w.1 = tl s) : S.eqW a s = true := by rw [h.eqW]; exact decide_eq_true e
theorem At.not (h : At S a (w :: r)) {s : Str} (e : w.1 ≠ tl s) : S.eqW a s = false := by rw [h.eqW]; exact decide_eq_false e
end
def lvM : Nat → Nat
  | 0 => 1 | 1 => 2 | 2 => 3 | 3 => 5 | 4 => 6 | _ => 7
/-- what may stand behind a tree that was printed at this level -/
def Stop (M : Nat) : List Wd → Prop
  | [] => True
  | w :: _ => Src.rank w.1 < lvM M ∧ w.1 ≠ tl "(" ∧ w.1 ≠ tl "."
theorem rank_le6 (l : List Nat) : Src.rank l ≤ 6 := by
  unfold Src.rank
  repeat (first | (split <;> first | omega | skip))
theorem lvM_mono : ∀ {L M : Nat}, L ≤ M → lvM L ≤ lvM M := by
  intro L M h
  have k : ∀ L M : Fin 6, L ≤ M → lvM L ≤ lvM M := by decide
  by_cases h1 : M < 6
  · exact k ⟨L, by omega⟩ ⟨M, h1⟩ h
  · have e : lvM M = 7 := by
      unfold lvM
      split <;> first | omega | rfl
    rw [e]
    unfold lvM
    split <;> omega
theorem Stop.mono {L M : Nat} {p : List Wd} (h : L ≤ M) : Stop L p → Stop M p := by
  cases p with
  | nil => exact id
  | cons w r => exact fun ⟨a, b⟩ => ⟨Nat.lt_of_lt_of_le a (lvM_mono h), b⟩
theorem Stop.word {M : Nat} {w : Wd} {r : List Wd} (h : Src.rank w.1 = 0 ∧ w.1 ≠ tl "(" ∧ w.1 ≠ tl ".") : Stop M (w :: r) := ⟨by rw [h.1]; unfold lvM; split <;> omega, h.2⟩
/-- what Stop tells of the reader -/
theorem Stop.rank {S : Src} {a M : Nat} {p : List Wd} (h : At S a p) (s : Stop M p) : Src.rank (S.wd a) < lvM M := by
  cases p with
  | nil => rw [h.nil.2]; unfold lvM; split <;> decide
  | cons w r => rw [h.wd]; exact s.1
theorem Stop.noP {S : Src} {a M : Nat} {p : List Wd} (h : At S a p) (s : Stop M p) : S.eqW a "(" = false := by
  cases p with
  | nil => unfold Src.eqW; rw [h.nil.2]; decide +kernel
  | cons w r => exact h.not s.2.1
theorem Stop.noD {S : Src} {a M : Nat} {p : List Wd} (h : At S a p) (s : Stop M p) : S.eqW a "." = false := by
  cases p with
  | nil => unfold Src.eqW; rw [h.nil.2]; decide +kernel
  | cons w r => exact h.not s.2.2
/-- chains -/
def CH (S : Src) (f d g least a : Nat) : Rs Tn := S.chG (S.ch f 3 (d + 1)) (S.sg (f + 1) d) d g least a
theorem ch_CH (S : Src) (f least d a : Nat) : S.ch (f + 1) least d a = CH S f d 8 least a := rfl
theorem CH_s (S : Src) (f d g least a : Nat) : CH S f d (g + 1) least a = S.chainM (S.ch f 3 (d + 1)) (S.sg (f + 1) d) (CH S f d g) least d a := rfl
/-- begins with none of these -/
def Hd (nw : List Wd) : Prop := ∃ w r, nw = w :: r ∧ w.1 ≠ tl "let" ∧ w.1 ≠ tl "if" ∧ w.1 ≠ tl "loop" ∧ w.1 ≠ tl ")"
def HdP (nw : List Wd) : Prop := ∃ w r, nw = w :: r ∧ w.1 ≠ tl ")"
theorem HdP.app {x y : List Wd} : HdP x → HdP (x ++ y) := fun ⟨w, r, e, h⟩ => ⟨w, r ++ y, by rw [e]; rfl, h⟩
theorem Hd.app {x y : List Wd} : Hd x → Hd (x ++ y) := fun ⟨w, r, e, h⟩ => ⟨w, r ++ y, by rw [e]; rfl, h⟩
/-- a value is read -/
def RdV0 (k : Nat) (nw : List Wd) (t : Tn) : Prop := HdP nw ∧ ∀ (S : Src) (a : Nat) (post : List Wd), At S a (nw ++ post) → Stop 0 post → ∀ f d, k + 2 ≤ f → d + 2 * k + 2 ≤ 30 → S.val f d a = .ok t (a + nw.length)
/-- a chain begins so -/
def RdG0 (k M lm : Nat) (nw : List Wd) (t : Tn) (tp : Nat) : Prop := Hd nw ∧ ∀ (S : Src) (a : Nat) (post : List Wd), At S a (nw ++ post) → Stop M post → ∀ f d g least, k ≤ f → d + 2 * k + 1 ≤ 30 → 1 ≤ least → least ≤ lm → 7 ≤ g + least →
  CH S f d (g + 1) least a = S.goM (CH S f d g) least tp t (a + nw.length)
/-- signed -/
def RdS0 (k : Nat) (nw : List Wd) (t : Tn) : Prop := (∃ w r, nw = w :: r ∧ w.1 ≠ tl "let" ∧ w.1 ≠ tl "if" ∧ w.1 ≠ tl "loop" ∧ w.1 ≠ tl ")" ∧ w.1 ≠ tl "not") ∧ ∀ (S : Src) (a : Nat) (post : List Wd), At S a (nw ++ post) → Stop 5 post → ∀ f d, k ≤ f → d + 2 * k + 1 ≤ 30 →
  S.sg (f + 1) d a = .ok t (a + nw.length)
/-- up to the dots -/
def RdD0 (nw : List Wd) (t : Tn) : Prop := (∃ w r, nw = w :: r ∧ w.1 ≠ tl "let" ∧ w.1 ≠ tl "if" ∧ w.1 ≠ tl "loop" ∧ w.1 ≠ tl ")" ∧ w.1 ≠ tl "not" ∧ w.1 ≠ tl "-") ∧ ∀ (S : Src) (V : Nat → Rs Tn) (a : Nat) (post : List Wd), At S a (nw ++ post) → S.eqW (a + nw.length) "(" = false →
  S.reachM V a = S.dotsM t (a + nw.length)
/-- a printed tree of this level -/
def Pr0 (k L : Nat) (nw : List Wd) (t : Tn) : Prop :=
  match L with
  | 0 => RdV0 k nw t
  | 5 => RdS0 k nw t
  | 6 => RdD0 nw t
  | M + 1 => ∃ tp, min 6 (lvM (M + 1)) ≤ tp ∧ RdG0 k (M + 1) (lvM (M + 1)) nw t tp
section
variable {k j M lm c L tp tp' : Nat} {nw nr : List Wd} {t t' : Tn} {w : Wd}
theorem RdV0.mono (h : k ≤ j) (q : RdV0 k nw t) : RdV0 j nw t := ⟨q.1, fun S a p h1 h2 f d h3 h4 => q.2 S a p h1 h2 f d (by omega) (by omega)⟩
theorem RdG0.mono (h : k ≤ j) (hl : L ≤ M) (hm : lm ≤ c) (q : RdG0 k M c nw t tp) : RdG0 j L lm nw t tp := ⟨q.1, fun S a p h1 h2 f d g least h3 h4 h5 h6 h7 => q.2 S a p h1 (h2.mono hl) f d g least (by omega) (by omega) h5 (by omega) h7⟩
theorem RdS0.mono (h : k ≤ j) (q : RdS0 k nw t) : RdS0 j nw t := ⟨q.1, fun S a p h1 h2 f d h3 h4 => q.2 S a p h1 h2 f d (by omega) (by omega)⟩
theorem go_stop {S : Src} {R : Nat → Nat → Rs Tn} {least mo a : Nat} (h : Src.rank (S.wd a) < least) : S.goM R least mo t a = .ok t a := by
  rw [Src.goM, if_neg (by omega)]
theorem RdS0.g (q : RdS0 k nw t) (hM : M ≤ 5) (hl : lm ≤ 7) : RdG0 k M lm nw t 6 := by
  obtain ⟨⟨w, r, rfl, n1, n2, n3, n5, n4⟩, q⟩ := q
  refine ⟨⟨w, r, rfl, n1, n2, n3, n5⟩, fun S a p h1 h2 f d g least h3 h4 h5 h6 h7 => ?_⟩
  rw [CH_s]
  unfold Src.chainM
  rw [if_neg (fun e => by rw [At.not (show At S a (w :: (r ++ p)) from h1) n4] at e; exact absurd e.1 (by decide)), q S a p h1 (h2.mono hM) f d h3 h4]
  rfl
theorem RdG0.v (q : RdG0 k 0 1 nw t tp) : RdV0 k nw t := by
  obtain ⟨⟨w, r, rfl, n1, n2, n3, n5⟩, q⟩ := q
  refine ⟨⟨w, r, rfl, n5⟩, ?_⟩
  intro S a p h1 h2 f d h3 h4
  obtain ⟨f, rfl⟩ : ∃ f', f = f' + 2 := ⟨f - 2, by omega⟩
  have h1' : At S a (w :: (r ++ p)) := h1
  have ha := h1'.lt
  rw [Src.val_s]
  unfold Src.valM
  rw [if_neg (by omega), if_neg (by rw [h1'.not n1]; decide), if_neg (by rw [h1'.not n2]; decide), if_neg (by rw [h1'.not n3]; decide), ch_CH]
  rw [q S a p h1 h2 f (d + 1) 7 1 (by omega) (by omega) (Nat.le_refl _) (Nat.le_refl _) (by omega)]
  exact go_stop (h2.rank h1.app)
theorem RdG0.bin (q : RdG0 k (c + 1) (lm) nw t tp) (q' : RdG0 k (c + 1) (lvM (c + 1)) nr t' tp') (hr : Src.rank w.1 + 1 = lvM (c + 1)) (hlm : lm ≤ Src.rank w.1) (ht : Src.rank w.1 ≤ tp) (n1 : w.1 ≠ tl "(") (n2 : w.1 ≠ tl ".") :
    RdG0 k (c + 1) lm (nw ++ w :: nr) (Src.binT t t' w.1) (Src.topR (Src.rank w.1)) := by
  refine ⟨q.1.app, fun S a p h1 h2 f d g least h3 h4 h5 h6 h7 => ?_⟩
  rw [List.append_assoc] at h1
  have h1 : At S a (nw ++ w :: (nr ++ p)) := h1
  rw [q.2 S a _ h1 ⟨by omega, n1, n2⟩ f d g least h3 h4 h5 h6 h7]
  have hw := h1.app
  have r6 := rank_le6 w.1
  obtain ⟨g, rfl⟩ : ∃ g', g = g' + 1 := ⟨g - 1, by omega⟩
  rw [Src.goM, hw.wd, if_pos (by omega), q'.2 S _ p hw.next h2 f d g _ h3 h4 (by omega) (by omega) (by omega)]
  have hn := hw.next.app
  rw [go_stop (by have := h2.rank hn; omega)]
  have hlt := hw.lt
  show (if h : a + nw.length < a + nw.length + 1 + nr.length ∧ a + nw.length < S.n then _ else _) = _
  rw [dif_pos ⟨by omega, hlt⟩]
  congr 1
  rw [List.length_append, List.length_cons]
  omega
/-! ### the forms -/
theorem ne_sort {u : List Nat} {s : Str} (h : sortW w.1 = s) (g : sortW u ≠ s) : w.1 ≠ u := fun e => g (by rw [← e]; exact h)
theorem sw_let : sortW (tl "let") = "word" := by decide +kernel
theorem sw_if : sortW (tl "if") = "word" := by decide +kernel
theorem sw_loop : sortW (tl "loop") = "word" := by decide +kernel
theorem sw_not : sortW (tl "not") = "word" := by decide +kernel
theorem sw_cl : sortW (tl ")") = "sign" := by decide +kernel
theorem sw_op : sortW (tl "(") = "sign" := by decide +kernel
theorem sw_mi : sortW (tl "-") = "sign" := by decide +kernel
theorem wn : ("word" : Str) ≠ "name" := by decide +kernel
theorem sn : ("sign" : Str) ≠ "name" := by decide +kernel
theorem wm : ("word" : Str) ≠ "number" := by decide +kernel
theorem sm : ("sign" : Str) ≠ "number" := by decide +kernel
theorem mn : ("number" : Str) ≠ "name" := by decide +kernel
theorem hd_of {s : Str} (h : sortW w.1 = s) (h1 : ("word" : Str) ≠ s) (h2 : ("sign" : Str) ≠ s) : ∃ w' r, w :: nw = w' :: r ∧ w'.1 ≠ tl "let" ∧ w'.1 ≠ tl "if" ∧ w'.1 ≠ tl "loop" ∧ w'.1 ≠ tl ")" ∧ w'.1 ≠ tl "not" ∧ w'.1 ≠ tl "-" :=
  ⟨w, nw, rfl, ne_sort h (by rw [sw_let]; exact h1), ne_sort h (by rw [sw_if]; exact h1), ne_sort h (by rw [sw_loop]; exact h1), ne_sort h (by rw [sw_cl]; exact h2), ne_sort h (by rw [sw_not]; exact h1), ne_sort h (by rw [sw_mi]; exact h2)⟩
theorem At.isN {S : Src} {a : Nat} {r : List Wd} (h : At S a (w :: r)) : S.isN a = decide (sortW w.1 = "name") := by unfold Src.isN; rw [h.so]; rfl
theorem At.nam {S : Src} {a : Nat} {r : List Wd} (h : At S a (w :: r)) (e : sortW w.1 = "name") : S.isN a = true := by rw [h.isN]; exact decide_eq_true e
theorem At.noN {S : Src} {a : Nat} {r : List Wd} {s : Str} (h : At S a (w :: r)) (e : sortW w.1 = s) (g : s ≠ "name") : S.isN a = false := by rw [h.isN]; exact decide_eq_false (by rw [e]; exact g)
theorem rdd0_name (h : sortW w.1 = "name") : RdD0 [w] ⟨"name", w.2, w.2 + w.1.length, [.str (strL w.1)]⟩ := by
  refine ⟨hd_of h wn sn, fun S V a p h1 h2 => ?_⟩
  have h1 : At S a (w :: p) := h1
  have h2 : S.eqW (a + 1) "(" = false := h2
  unfold Src.reachM Src.simpM Src.namedM
  rw [if_pos (h1.nam h), if_pos (h1.nam h), h2, if_neg (by decide), h1.st, h1.en]
  unfold Src.strW
  rw [h1.wd]
  rfl
theorem rdd0_num (h : sortW w.1 = "number") : RdD0 [w] ⟨"number", w.2, w.2 + w.1.length, [.int (Src.numv w.1)]⟩ := by
  refine ⟨hd_of h wm sm, fun S V a p h1 h2 => ?_⟩
  have h1 : At S a (w :: p) := h1
  unfold Src.reachM Src.simpM
  rw [if_neg (by rw [h1.noN h mn]; decide), if_pos (decide_eq_true (by rw [h1.so]; exact h)), h1.st, h1.en, h1.wd]
  rfl
theorem rdd0_truth (b : Bool) (h : w.1 = if b = true then tl "True" else tl "False") : RdD0 [w] ⟨"truth", w.2, w.2 + w.1.length, [.bl b]⟩ := by
  have hs : sortW w.1 = "word" := by rw [h]; cases b <;> decide +kernel
  refine ⟨⟨w, [], rfl, by rw [h]; cases b <;> decide +kernel, by rw [h]; cases b <;> decide +kernel, by rw [h]; cases b <;> decide +kernel, by rw [h]; cases b <;> decide +kernel, by rw [h]; cases b <;> decide +kernel, by rw [h]; cases b <;> decide +kernel⟩, fun S V a p h1 h2 => ?_⟩
  have h1 : At S a (w :: p) := h1
  unfold Src.reachM Src.simpM
  rw [if_neg (by rw [h1.noN hs wn]; decide), if_neg (by rw [h1.so, hs]; decide +kernel), if_neg (by rw [h1.not (by rw [h]; cases b <;> decide +kernel)]; decide), h1.st, h1.en]
  cases b with
  | true => rw [h1.yes (s := "True") h, h1.not (s := "False") (by rw [h]; decide +kernel)]; rfl
  | false => rw [h1.yes (s := "False") h, h1.not (s := "True") (by rw [h]; decide +kernel)]; rfl
theorem rdd0_field {wn : Wd} (q : RdD0 nw t) (h1 : w.1 = tl ".") (h2 : sortW wn.1 = "name") : RdD0 (nw ++ [w, wn]) ⟨"field", t.s, wn.2 + wn.1.length, [t.d, .str (strL wn.1)]⟩ := by
  obtain ⟨⟨u, r, rfl, hu⟩, q⟩ := q
  refine ⟨⟨u, r ++ [w, wn], rfl, hu⟩, fun S V a p k1 k2 => ?_⟩
  have k1 : At S a ((u :: r) ++ w :: wn :: p) := by rw [List.append_assoc] at k1; exact k1
  have kw := k1.app
  rw [q S V a _ k1 (kw.not (by rw [h1]; decide +kernel)), Src.dotsM, if_pos (kw.yes h1), if_pos (kw.next.nam h2), dif_pos kw.lt]
  unfold Src.strW
  rw [kw.next.st, kw.next.wd, List.length_append]
  rfl
theorem RdD0.s (q : RdD0 nw t) : RdS0 0 nw t := by
  obtain ⟨⟨u, r, rfl, n1, n2, n3, n4, n5, n6⟩, q⟩ := q
  refine ⟨⟨u, r, rfl, n1, n2, n3, n4, n5⟩, fun S a p h1 h2 f d h3 h4 => ?_⟩
  rw [Src.sg_s]
  unfold Src.signM
  rw [if_neg (by rw [At.not (show At S a (u :: (r ++ p)) from h1) n6]; decide), q S _ a p h1 (h2.noP h1.app), Src.dotsM, if_neg (by rw [h2.noD h1.app]; decide)]
theorem dots_stop {S : Src} {a M : Nat} {p : List Wd} (h : At S a p) (s : Stop M p) : S.dotsM t a = .ok t a := by rw [Src.dotsM, if_neg (by rw [s.noD h]; decide)]
theorem rds0_group {w2 : Wd} (q : RdV0 k nw t) (h1 : w.1 = tl "(") (h2 : w2.1 = tl ")") : RdS0 (k + 1) (w :: (nw ++ [w2])) ⟨"group", w.2, w2.2 + w2.1.length, [t.d]⟩ := by
  refine ⟨⟨w, _, rfl, by rw [h1]; decide +kernel, by rw [h1]; decide +kernel, by rw [h1]; decide +kernel, by rw [h1]; decide +kernel, by rw [h1]; decide +kernel⟩, fun S a p k1 k2 f d k3 k4 => ?_⟩
  have k1 : At S a (w :: (nw ++ w2 :: p)) := by
    have e : w :: (nw ++ [w2]) ++ p = w :: (nw ++ w2 :: p) := by simp
    rw [e] at k1
    exact k1
  have hs : sortW w.1 = "sign" := by rw [h1]; exact sw_op
  have kn := k1.next
  have kp := kn.app
  rw [Src.sg_s]
  unfold Src.signM
  rw [if_neg (by rw [k1.not (by rw [h1]; decide +kernel)]; decide)]
  unfold Src.reachM Src.simpM
  rw [if_neg (by rw [k1.noN hs sn]; decide), if_neg (by rw [k1.so, hs]; decide +kernel), if_pos (k1.yes h1), q.2 S _ _ kn (Stop.word (by rw [h2]; decide +kernel)) (f + 1) d (by omega) (by omega)]
  show Rs.bind (if S.eqW (a + 1 + nw.length) ")" = true then _ else _) _ = _
  rw [if_pos (kp.yes h2), k1.st, kp.en]
  show S.dotsM _ _ = _
  have el : a + (w :: (nw ++ [w2])).length = a + 1 + nw.length + 1 := by rw [List.length_cons, List.length_append, List.length_singleton]; omega
  rw [el]
  exact dots_stop kp.next k2
theorem rds0_minus (q : RdS0 k nw t) (h1 : w.1 = tl "-") : RdS0 (k + 1) (w :: nw) ⟨"minus", w.2, t.e, [t.d]⟩ := by
  refine ⟨⟨w, _, rfl, by rw [h1]; decide +kernel, by rw [h1]; decide +kernel, by rw [h1]; decide +kernel, by rw [h1]; decide +kernel, by rw [h1]; decide +kernel⟩, fun S a p k1 k2 f d k3 k4 => ?_⟩
  have k1 : At S a (w :: (nw ++ p)) := k1
  obtain ⟨f, rfl⟩ : ∃ f', f = f' + 1 := ⟨f - 1, by omega⟩
  rw [Src.sg_s]
  unfold Src.signM
  rw [if_pos (k1.yes h1), if_neg (by omega), q.2 S _ _ k1.next k2 f (d + 1) (by omega) (by omega), k1.st, List.length_cons]
  show Rs.ok _ _ = _
  congr 1
  omega
theorem rdg0_not (q : RdG0 k 2 3 nw t tp) (h1 : w.1 = tl "not") : RdG0 (k + 1) 2 3 (w :: nw) ⟨"not", w.2, t.e, [t.d]⟩ 3 := by
  refine ⟨⟨w, _, rfl, by rw [h1]; decide +kernel, by rw [h1]; decide +kernel, by rw [h1]; decide +kernel, by rw [h1]; decide +kernel⟩, fun S a p k1 k2 f d g least k3 k4 k5 k6 k7 => ?_⟩
  have k1 : At S a (w :: (nw ++ p)) := k1
  obtain ⟨f, rfl⟩ : ∃ f', f = f' + 1 := ⟨f - 1, by omega⟩
  rw [CH_s]
  unfold Src.chainM
  rw [if_pos ⟨k1.yes h1, k6⟩, if_neg (by omega), ch_CH, q.2 S _ _ k1.next k2 f (d + 1) 7 3 (by omega) (by omega) (by decide) (by decide) (by decide), go_stop (least := 3) (k2.rank k1.next.app), k1.st, List.length_cons]
  show S.goM _ _ _ _ _ = _
  congr 1
  omega
/-! ### calls -/
def RdA0 (k : Nat) (nw : List Wd) (ts : List Tn) : Prop := HdP nw ∧ ∀ (S : Src) (a : Nat) (post : List Wd), At S a (nw ++ post) → Stop 0 post → ∀ f d, k + 2 ≤ f → d + 2 * k + 2 ≤ 30 → ∀ s0 nm,
  (S.val f d a).bind (fun t a' => S.argsM (S.val f d) s0 nm [t.d] a') = S.argsM (S.val f d) s0 nm (ts.map Tn.d) (a + nw.length)
theorem RdV0.a (q : RdV0 k nw t) : RdA0 k nw [t] := ⟨q.1, fun S a p h1 h2 f d h3 h4 s0 nm => by rw [q.2 S a p h1 h2 f d h3 h4]; rfl⟩
theorem RdA0.more {ts : List Tn} (q : RdA0 k nw ts) (q' : RdV0 k nr t) (h1 : w.1 = tl ",") : RdA0 k (nw ++ w :: nr) (ts ++ [t]) := by
  refine ⟨q.1.app, fun S a p k1 k2 f d k3 k4 s0 nm => ?_⟩
  rw [List.append_assoc] at k1
  have k1 : At S a (nw ++ w :: (nr ++ p)) := k1
  have kw := k1.app
  have hlt := kw.lt
  rw [q.2 S a _ k1 (Stop.word (by rw [h1]; decide +kernel)) f d k3 k4, Src.argsM, if_pos (kw.yes h1), q'.2 S _ p kw.next k2 f d k3 k4]
  show (if h : a + nw.length < a + nw.length + 1 + nr.length ∧ a + nw.length < S.n then _ else _) = _
  rw [dif_pos ⟨by omega, hlt⟩, List.map_append, List.length_append, List.length_cons]
  congr 1
  omega
theorem rds0_call {ts : List Tn} {p1 p2 : Wd} (q : RdA0 k nw ts) (h : sortW w.1 = "name") (h1 : p1.1 = tl "(") (h2 : p2.1 = tl ")") : RdS0 (k + 1) (w :: p1 :: (nw ++ [p2])) ⟨"call", w.2, p2.2 + p2.1.length, [.str (strL w.1), .tup (ofL (ts.map Tn.d))]⟩ := by
  obtain ⟨⟨u, r, rfl, hu⟩, q⟩ := q
  obtain ⟨w', r', e', n1, n2, n3, n4, n5, n6⟩ := hd_of (nw := p1 :: (u :: r ++ [p2])) h wn sn
  cases e'
  refine ⟨⟨w, _, rfl, n1, n2, n3, n4, n5⟩, fun S a p k1 k2 f d k3 k4 => ?_⟩
  have k1 : At S a (w :: p1 :: (u :: r ++ p2 :: p)) := by
    have e : w :: p1 :: (u :: r ++ [p2]) ++ p = w :: p1 :: (u :: r ++ p2 :: p) := by simp
    rw [e] at k1
    exact k1
  have k2' := k1.next
  have k3' := k2'.next
  have kp := k3'.app
  rw [Src.sg_s]
  unfold Src.signM
  rw [if_neg (by rw [k1.not n6]; decide)]
  unfold Src.reachM Src.simpM Src.namedM
  rw [if_pos (k1.nam h), if_pos (k1.nam h), if_pos (k2'.yes h1), if_neg (by rw [At.not (show At S (a + 2) (u :: (r ++ p2 :: p)) from k3') hu]; decide)]
  have e := q S (a + 2) (p2 :: p) k3' (Stop.word (by rw [h2]; decide +kernel)) (f + 1) d (by omega) (by omega) (S.st a) (S.strW a)
  rw [e, Src.argsM, if_neg (by rw [At.not (show At S (a + 2 + (u :: r).length) (p2 :: p) from kp) (by rw [h2]; decide +kernel)]; decide), if_pos (At.yes (show At S (a + 2 + (u :: r).length) (p2 :: p) from kp) h2), k1.st, At.en (show At S (a + 2 + (u :: r).length) (p2 :: p) from kp)]
  unfold Src.strW
  rw [k1.wd]
  show S.dotsM _ _ = _
  have el : a + (w :: p1 :: (u :: r ++ [p2])).length = a + 2 + (u :: r).length + 1 := by rw [List.length_cons, List.length_cons, List.length_append, List.length_singleton]; omega
  rw [el]
  exact dots_stop kp.next k2
theorem rds0_call0 {p1 p2 : Wd} (h : sortW w.1 = "name") (h1 : p1.1 = tl "(") (h2 : p2.1 = tl ")") : RdS0 0 [w, p1, p2] ⟨"call", w.2, p2.2 + p2.1.length, [.str (strL w.1), .tup .nil]⟩ := by
  obtain ⟨w', r', e', n1, n2, n3, n4, n5, n6⟩ := hd_of (nw := [p1, p2]) h wn sn
  cases e'
  refine ⟨⟨w, _, rfl, n1, n2, n3, n4, n5⟩, fun S a p k1 k2 f d k3 k4 => ?_⟩
  have k1 : At S a (w :: p1 :: p2 :: p) := k1
  have k2' := k1.next
  have k3' := k2'.next
  rw [Src.sg_s]
  unfold Src.signM
  rw [if_neg (by rw [k1.not n6]; decide)]
  unfold Src.reachM Src.simpM Src.namedM
  rw [if_pos (k1.nam h), if_pos (k1.nam h), if_pos (k2'.yes h1), if_pos (At.yes (show At S (a + 2) (p2 :: p) from k3') h2), k1.st, At.en (show At S (a + 2) (p2 :: p) from k3')]
  unfold Src.strW
  rw [k1.wd]
  show S.dotsM _ _ = _
  exact dots_stop k3'.next k2
/-! ### wide forms -/
theorem part0_ok {S : Src} {a f d : Nat} {p : List Wd} {s : Str} (q : RdV0 k nw t) (h1 : At S a (w :: (nw ++ p))) (e : w.1 = tl s) (h2 : Stop 0 p) (h3 : k + 2 ≤ f) (h4 : d + 2 * k + 2 ≤ 30) : S.part (S.val f d) s a = .ok t (a + 1 + nw.length) := by
  unfold Src.part
  rw [if_pos (h1.yes e)]
  exact q.2 S _ p h1.next h2 f d h3 h4
theorem rdv0_if {t1 t2 t3 : Tn} {n1 n2 n3 : List Wd} {w1 w2 w3 : Wd} (q1 : RdV0 k n1 t1) (q2 : RdV0 k n2 t2) (q3 : RdV0 k n3 t3) (h1 : w1.1 = tl "if") (h2 : w2.1 = tl "then") (h3 : w3.1 = tl "else") :
    RdV0 (k + 1) (w1 :: (n1 ++ w2 :: (n2 ++ w3 :: n3))) ⟨"if", w1.2, t3.e, [t1.d, t2.d, t3.d]⟩ := by
  refine ⟨⟨w1, _, rfl, by rw [h1]; decide +kernel⟩, fun S a p k1 k2 f d k3 k4 => ?_⟩
  have k1 : At S a (w1 :: (n1 ++ w2 :: (n2 ++ w3 :: (n3 ++ p)))) := by
    have e : w1 :: (n1 ++ w2 :: (n2 ++ w3 :: n3)) ++ p = w1 :: (n1 ++ w2 :: (n2 ++ w3 :: (n3 ++ p))) := by simp
    rw [e] at k1
    exact k1
  obtain ⟨f, rfl⟩ : ∃ f', f = f' + 1 := ⟨f - 1, by omega⟩
  have ka := k1.lt
  rw [Src.val_s]
  unfold Src.valM
  rw [if_neg (by omega), if_neg (by rw [k1.not (by rw [h1]; decide +kernel)]; decide), if_pos (k1.yes h1)]
  unfold Src.ifM
  rw [q1.2 S _ _ k1.next (Stop.word (by rw [h2]; decide +kernel)) f (d + 1) (by omega) (by omega)]
  show Rs.bind (S.part (S.val f (d + 1)) "then" (a + 1 + n1.length)) _ = _
  have kb := k1.next.app
  rw [part0_ok q2 kb h2 (Stop.word (by rw [h3]; decide +kernel)) (by omega) (by omega)]
  show Rs.bind (S.part (S.val f (d + 1)) "else" (a + 1 + n1.length + 1 + n2.length)) _ = _
  have kc := kb.next.app
  rw [part0_ok q3 kc h3 k2 (by omega) (by omega), k1.st]
  show Rs.ok _ _ = _
  congr 1
  simp only [List.length_cons, List.length_append]
  omega
theorem rdv0_let {t1 t2 : Tn} {n1 n2 : List Wd} {w1 wn w2 w3 : Wd} (q1 : RdV0 k n1 t1) (q2 : RdV0 k n2 t2) (h1 : w1.1 = tl "let") (hn : sortW wn.1 = "name") (h2 : w2.1 = tl "=") (h3 : w3.1 = tl "in") :
    RdV0 (k + 1) (w1 :: wn :: w2 :: (n1 ++ w3 :: n2)) ⟨"let", w1.2, t2.e, [.str (strL wn.1), .int (wn.2 : Int), t1.d, t2.d]⟩ := by
  refine ⟨⟨w1, _, rfl, by rw [h1]; decide +kernel⟩, fun S a p k1 k2 f d k3 k4 => ?_⟩
  have k1 : At S a (w1 :: wn :: w2 :: (n1 ++ w3 :: (n2 ++ p))) := by
    have e : w1 :: wn :: w2 :: (n1 ++ w3 :: n2) ++ p = w1 :: wn :: w2 :: (n1 ++ w3 :: (n2 ++ p)) := by simp
    rw [e] at k1
    exact k1
  obtain ⟨f, rfl⟩ : ∃ f', f = f' + 1 := ⟨f - 1, by omega⟩
  have ka := k1.lt
  have kn := k1.next
  have kb := kn.next
  have kc := kb.next.app
  rw [Src.val_s]
  unfold Src.valM
  rw [if_neg (by omega), if_pos (k1.yes h1)]
  unfold Src.letM
  rw [if_pos (kn.nam hn), part0_ok q1 kb h2 (Stop.word (by rw [h3]; decide +kernel)) (by omega) (by omega)]
  show Rs.bind (S.part (S.val f (d + 1)) "in" (a + 1 + 1 + 1 + n1.length)) _ = _
  rw [part0_ok q2 kc h3 k2 (by omega) (by omega), k1.st, kn.st]
  unfold Src.strW
  rw [kn.wd]
  show Rs.ok _ _ = _
  congr 1
  simp only [List.length_cons, List.length_append]
  omega
theorem rdv0_loop {t1 t2 t3 : Tn} {n1 n2 n3 : List Wd} {w1 wn w2 w3 w4 : Wd} (q1 : RdV0 k n1 t1) (q2 : RdV0 k n2 t2) (q3 : RdV0 k n3 t3) (h1 : w1.1 = tl "loop") (hn : sortW wn.1 = "name") (h2 : w2.1 = tl "=") (h3 : w3.1 = tl "times") (h4 : w4.1 = tl "do") :
    RdV0 (k + 1) (w1 :: wn :: w2 :: (n1 ++ w3 :: (n2 ++ w4 :: n3))) ⟨"loop", w1.2, t3.e, [.str (strL wn.1), .int (wn.2 : Int), t1.d, t2.d, t3.d]⟩ := by
  refine ⟨⟨w1, _, rfl, by rw [h1]; decide +kernel⟩, fun S a p k1 k2 f d k3 k4 => ?_⟩
  have k1 : At S a (w1 :: wn :: w2 :: (n1 ++ w3 :: (n2 ++ w4 :: (n3 ++ p)))) := by
    have e : w1 :: wn :: w2 :: (n1 ++ w3 :: (n2 ++ w4 :: n3)) ++ p = w1 :: wn :: w2 :: (n1 ++ w3 :: (n2 ++ w4 :: (n3 ++ p))) := by simp
    rw [e] at k1
    exact k1
  obtain ⟨f, rfl⟩ : ∃ f', f = f' + 1 := ⟨f - 1, by omega⟩
  have ka := k1.lt
  have kn := k1.next
  have kb := kn.next
  have kc := kb.next.app
  have kd := kc.next.app
  rw [Src.val_s]
  unfold Src.valM
  rw [if_neg (by omega), if_neg (by rw [k1.not (by rw [h1]; decide +kernel)]; decide), if_neg (by rw [k1.not (by rw [h1]; decide +kernel)]; decide), if_pos (k1.yes h1)]
  unfold Src.loopM
  rw [if_pos (kn.nam hn), part0_ok q1 kb h2 (Stop.word (by rw [h3]; decide +kernel)) (by omega) (by omega)]
  show Rs.bind (S.part (S.val f (d + 1)) "times" (a + 1 + 1 + 1 + n1.length)) _ = _
  rw [part0_ok q2 kc h3 (Stop.word (by rw [h4]; decide +kernel)) (by omega) (by omega)]
  show Rs.bind (S.part (S.val f (d + 1)) "do" (a + 1 + 1 + 1 + n1.length + 1 + n2.length)) _ = _
  rw [part0_ok q3 kd h4 k2 (by omega) (by omega), k1.st, kn.st]
  unfold Src.strW
  rw [kn.wd]
  show Rs.ok _ _ = _
  congr 1
  simp only [List.length_cons, List.length_append]
  omega
end
end Sn

/-! Texts that are printed word by word. -/
namespace Sn
open PySem PySem.Spec PyProof.Rows L2 TL
/-- one token by itself -/
def tkOk0 : List Nat → Bool
  | [] => false
  | c :: r => if isL c = true then r.all isW else if isD c = true then r.all isD else decide (c :: r = [61, 61]) || (r.isEmpty && (!isW c && (c != 32 && (c != 10 && c != 35))))
theorem tkOk_cons0 (c : Nat) (r : List Nat) : tkOk0 (c :: r) = if isL c = true then r.all isW else if isD c = true then r.all isD else decide (c :: r = [61, 61]) || (r.isEmpty && (!isW c && (c != 32 && (c != 10 && c != 35)))) := rfl
def melt (c d : Nat) : Bool := (isW c && isW d) || (c == 61 && d == 61)
/-- they do not melt -/
def Jn (l m : List Nat) : Prop := ∀ c d, l.getLast? = some c → m.head? = some d → melt c d = false
theorem jn_blank (l m : List Nat) {d : Nat} (h : d = 32 ∨ d = 10) : Jn l (d :: m) := by
  intro c e _ h2
  cases h2
  unfold melt
  rcases h with h | h <;> subst h <;> simp [show isW 32 = false from rfl, show isW 10 = false from rfl]
theorem jn_app {a b m : List Nat} (hb : b ≠ []) : Jn (a ++ b) m → Jn b m := fun h c d h1 h2 => h c d (by rw [List.getLast?_append, h1]; rfl) h2
theorem jn_app' {a b m : List Nat} (hb : b ≠ []) : Jn b m → Jn (a ++ b) m := fun h c d h1 h2 => h c d (by
  obtain ⟨z, hz⟩ := List.getLast?_isSome.mpr hb |> Option.isSome_iff_exists.mp
  rw [List.getLast?_append, hz] at h1
  rw [hz]
  exact h1) h2
theorem jn_head {l x m : List Nat} (hx : x ≠ []) : Jn l x → Jn l (x ++ m) := fun h c d h1 h2 => h c d h1 (by
  cases x with
  | nil => exact absurd rfl hx
  | cons y r => exact h2)
/-- a run that is exactly the word -/
theorem run_word {p : Nat → Bool} {L s m : List Nat} {i : Nat} (h : L.drop i = s ++ m) (hs : s.all p = true) (hm : ∀ d, m.head? = some d → p d = false) (hi : i ≤ L.length) : run p L i = i + s.length := by
  have e : L.length = i + (s ++ m).length := by rw [← h, List.length_drop]; omega
  rw [List.length_append] at e
  have g : ∀ k, L[i + k]? = (s ++ m)[k]? := fun k => by rw [← h, List.getElem?_drop]
  refine run_at s.length i _ rfl (fun k c h1 h2 h3 => ?_) (by omega) (fun c h1 => ?_)
  · obtain ⟨j, rfl⟩ : ∃ j, k = i + j := ⟨k - i, by omega⟩
    rw [g, List.getElem?_append_left (by omega)] at h3
    exact List.all_eq_true.mp hs c (List.mem_of_getElem? h3)
  · rw [g, List.getElem?_append_right (Nat.le_refl _), Nat.sub_self] at h1
    exact hm c (by rw [List.head?_eq_getElem?]; exact h1)
theorem isW_L {c : Nat} (h : isL c = true) : isW c = true := by unfold isW; rw [h]; rfl
theorem isW_D {c : Nat} (h : isD c = true) : isW c = true := by unfold isW; rw [h]; simp
theorem slice_word {L s m : List Nat} {i : Nat} (h : L.drop i = s ++ m) : (L.drop i).take s.length = s := by rw [h, List.take_left']; rfl
theorem all_getLast {p : Nat → Bool} {l : List Nat} {c : Nat} (h : l.all p = true) (hc : l.getLast? = some c) : p c = true := List.all_eq_true.mp h c (List.mem_of_getLast? hc)
theorem tok_word0 {L s m : List Nat} {i c : Nat} (h : L.drop i = s ++ m) (hs : tkOk0 s = true) (hj : Jn s m) (hi : i ≤ L.length) (hc : s.head? = some c) : tokC L i c = (sortW s, i, i + s.length) := by
  obtain ⟨r, rfl⟩ : ∃ r, s = c :: r := by
    cases s with
    | nil => cases hc
    | cons a r => cases hc; exact ⟨r, rfl⟩
  obtain ⟨z, hz⟩ : ∃ z, (c :: r).getLast? = some z := Option.isSome_iff_exists.mp (List.getLast?_isSome.mpr (by simp))
  have sl := slice_word h
  rw [tkOk_cons0] at hs
  unfold tokC sortW
  by_cases h1 : isL c = true
  · rw [if_pos h1] at hs
    have hall : (c :: r).all isW = true := by rw [List.all_cons, isW_L h1]; exact hs
    have rw1 := run_word h hall (fun d hd => by
      have := hj z d hz hd
      unfold melt at this
      rw [all_getLast hall hz] at this
      simp at this
      exact this.1) hi
    simp only [h1, if_true]
    rw [rw1, Nat.add_sub_cancel_left, sl]
  · rw [if_neg h1] at hs
    by_cases h2 : isD c = true
    · rw [if_pos h2] at hs
      have hall : (c :: r).all isD = true := by rw [List.all_cons, h2]; exact hs
      have rw1 := run_word h hall (fun d hd => by
        have := hj z d hz hd
        unfold melt at this
        rw [isW_D (all_getLast hall hz)] at this
        simp at this
        have k := this.1
        unfold isW at k
        simp at k
        exact k.2.1) hi
      simp only [h1, h2, if_true]
      rw [rw1]
      rfl
    · rw [if_neg h2] at hs
      simp only [h1, h2, if_true, if_false]
      rw [Bool.or_eq_true] at hs
      by_cases h3 : c :: r = [61, 61]
      · have e : (L.drop i).take 2 = [61, 61] := by
          have e2 : (c :: r).length = 2 := by rw [h3]; rfl
          rw [← e2, sl, h3]
        rw [if_pos e, if_pos h3]
        rw [h3]
        rfl
      · have hr : r = [] ∧ isW c = false := by
          rcases hs with hs | hs
          · exact absurd (of_decide_eq_true hs) h3
          · simp at hs
            exact ⟨hs.1, hs.2.1⟩
        obtain ⟨rfl, hw⟩ := hr
        have e : ¬ (L.drop i).take 2 = [61, 61] := by
          rw [h]
          intro k
          cases m with
          | nil => cases k
          | cons d m =>
            have k : [c, d] = [61, 61] := k
            cases k
            have := hj 61 61 rfl rfl
            exact absurd this (by decide)
        rw [if_neg e, if_neg h3]
        rfl
theorem tk_head0 {s : List Nat} (hs : tkOk0 s = true) : ∃ c r, s = c :: r ∧ ¬ (c = 32 ∨ c = 10) ∧ c ≠ 35 := by
  cases s with
  | nil => cases hs
  | cons c r =>
    refine ⟨c, r, rfl, ?_, ?_⟩
    · rintro (rfl | rfl)
      · unfold tkOk0 at hs
        simp [show isL 32 = false from rfl, show isD 32 = false from rfl] at hs
      · unfold tkOk0 at hs
        simp [show isL 10 = false from rfl, show isD 10 = false from rfl] at hs
    · rintro rfl
      unfold tkOk0 at hs
      simp [show isL 35 = false from rfl, show isD 35 = false from rfl] at hs
/-- no token -/
def Gp0 (g : List Nat) : Prop := (g ≠ [] → ∃ d r, g = d :: r ∧ (d = 32 ∨ d = 10)) ∧ ∀ (L : List Nat) (i : Nat) (rest : List Nat), L.drop i = g ++ rest → i ≤ L.length → toks L i L.length = toks L (i + g.length) L.length
theorem gp0_nil : Gp0 [] := ⟨fun h => absurd rfl h, fun L i rest h _ => rfl⟩
theorem drop_at {L : List Nat} {i c : Nat} {r : List Nat} (h : L.drop i = c :: r) : L[i]? = some c ∧ i < L.length ∧ L.drop (i + 1) = r := by
  have e : L[i]? = some c := by
    have : (L.drop i)[0]? = some c := by rw [h]; rfl
    rw [List.getElem?_drop, Nat.add_zero] at this
    exact this
  refine ⟨e, (List.getElem?_eq_some_iff.mp e).1, ?_⟩
  rw [← List.drop_drop, h]
  rfl
theorem gp0_blank {d : Nat} {g : List Nat} (hd : d = 32 ∨ d = 10) (hg : Gp0 g) : Gp0 (d :: g) := by
  refine ⟨fun _ => ⟨d, g, rfl, hd⟩, fun L i rest h hi => ?_⟩
  obtain ⟨h1, h2, h3⟩ := drop_at (show L.drop i = d :: (g ++ rest) from h)
  rw [toks_blank (Nat.le_refl _) h2 h1 hd, hg.2 L (i + 1) rest h3 h2, List.length_cons]
  congr 1
  omega
/-- a comment up to the end of its line -/
theorem toks_comment {L rest : List Nat} {i : Nat} (x : List Nat) (hx : x.all (fun d => d != 10) = true) (h : L.drop i = 35 :: x ++ 10 :: rest) (hi : i ≤ L.length) : toks L i L.length = toks L (i + x.length + 1) L.length := by
  obtain ⟨h1, h2, h3⟩ := drop_at (show L.drop i = 35 :: (x ++ 10 :: rest) from h)
  rw [toks_note (Nat.le_refl _) h2 h1]
  have e := run_word (p := fun d => d != 10) (L := L) (s := 35 :: x) (m := 10 :: rest) h (by rw [List.all_cons, hx]; rfl) (fun d hd => by cases hd; rfl) hi
  rw [e, List.length_cons]
  congr 1
/-- the text and its words -/
structure TX0 (l : List Nat) (ws : List Wd) : Prop where
  tk : ∀ m, Jn l m → toks (l ++ m) 0 (l ++ m).length = ws.map tkW ++ toks (l ++ m) l.length (l ++ m).length
  sl : ∀ w ∈ ws, w.2 + w.1.length ≤ l.length ∧ (l.drop w.2).take w.1.length = w.1
  len : l.length ≤ 40 * ws.length
theorem tx0_nil : TX0 [] [] := ⟨fun m _ => rfl, fun w h => absurd h (by simp), Nat.le_refl _⟩
theorem TX0.put {l : List Nat} {ws : List Wd} {g s : List Nat} (X : TX0 l ws) (hg : Gp0 g) (hs : tkOk0 s = true) (hj : g = [] → Jn l s) (h1 : g.length ≤ 15) (h2 : s.length ≤ 25) : TX0 (l ++ g ++ s) (ws ++ [(s, l.length + g.length)]) := by
  obtain ⟨c, r, hs', n1, n2⟩ := tk_head0 hs
  have sne : s ≠ [] := by rw [hs']; simp
  refine ⟨fun m hm => ?_, fun w hw => ?_, ?_⟩
  · have hm' : Jn s m := jn_app sne hm
    have e1 : l ++ g ++ s ++ m = l ++ (g ++ (s ++ m)) := by simp
    have hL : Jn l (g ++ (s ++ m)) := by
      by_cases k : g = []
      · subst k
        show Jn l (s ++ m)
        exact jn_head sne (hj rfl)
      · obtain ⟨d, q, rfl, hd⟩ := hg.1 k
        exact jn_blank _ _ hd
    have d1 : (l ++ (g ++ (s ++ m))).drop l.length = g ++ (s ++ m) := by simp
    have d2 : (l ++ (g ++ (s ++ m))).drop (l.length + g.length) = s ++ m := by rw [← List.drop_drop, d1]; simp
    have hle : l.length ≤ (l ++ (g ++ (s ++ m))).length := by rw [List.length_append]; omega
    have hle2 : l.length + g.length ≤ (l ++ (g ++ (s ++ m))).length := by simp
    have hle3 : l.length + g.length < (l ++ (g ++ (s ++ m))).length := by rw [hs']; simp
    have hc : (l ++ (g ++ (s ++ m)))[l.length + g.length]? = some c := (drop_at (r := r ++ m) (by rw [d2, hs']; rfl)).1
    rw [e1, X.tk _ hL, hg.2 _ _ _ d1 hle, toks_tok (Nat.le_refl _) hle3 hc n1 n2, tok_word0 d2 hs hm' hle2 (by rw [hs']; rfl)]
    rw [List.map_append, List.append_assoc]
    congr 1
    show _ :: toks _ (l.length + g.length + s.length) _ = _ :: _
    congr 1
    simp [Nat.add_assoc]
  · rcases List.mem_append.mp hw with hw | hw
    · obtain ⟨k1, k2⟩ := X.sl w hw
      refine ⟨by rw [List.append_assoc, List.length_append]; omega, ?_⟩
      rw [List.append_assoc, List.drop_append_of_le_length (by omega), List.take_append_of_le_length (by rw [List.length_drop]; omega)]
      exact k2
    · rw [List.mem_singleton] at hw
      subst hw
      refine ⟨by simp [Nat.add_assoc], ?_⟩
      have : (l ++ g ++ s).drop (l.length + g.length) = s := by
        have e : l.length + g.length = (l ++ g).length := by simp
        rw [e, List.drop_left']
        rfl
      show (List.drop (l.length + g.length) (l ++ g ++ s)).take s.length = s
      rw [this, List.take_length]
  · have := X.len
    simp only [List.length_append, List.length_singleton]
    omega
theorem TX0.all {l : List Nat} {ws : List Wd} (X : TX0 l ws) : toks l 0 l.length = ws.map tkW := by
  have := X.tk [] (fun c d _ h => by cases h)
  rw [List.append_nil, toks_end (Nat.le_refl _), List.append_nil] at this
  exact this
theorem TX0.has {l : List Nat} {ws : List Wd} (X : TX0 l ws) (r : Addr) : HasW ⟨r, l, toks l 0 l.length⟩ ws := ⟨X.all, fun w h => (X.sl w h).2⟩
/-- the whole text is this value -/
theorem TX0.val {l : List Nat} {ws more : List Wd} {k : Nat} {t : Tn} (X : TX0 l (ws ++ more)) (q : RdV0 k ws t) (hk : 2 * k + 2 ≤ 30) (hs : Stop 0 more) (r : Addr) : (⟨r, l, toks l 0 l.length⟩ : Src).val (k + 2) 0 0 = .ok t ws.length := by
  have := q.2 ⟨r, l, toks l 0 l.length⟩ 0 more ⟨[], X.has r, rfl⟩ hs (k + 2) 0 (Nat.le_refl _) (by omega)
  rw [Nat.zero_add] at this
  exact this
end Sn

/-! Numbers as words. -/
namespace Sn
open PySem PySem.Spec PyProof.Rows L2 TL
def numW (v : Int) : List Nat := tl (((toString v : String) : Str))
theorem numW_nat (m : Nat) : numW (m : Int) = (Nat.toDigits 10 m).map Char.toNat := by
  unfold numW tl
  rw [Str.ofString_eq_toList]
  have h : (toString ((m : Nat) : Int)).toList = Nat.toDigits 10 m := Nat.toList_repr
  rw [h]
theorem isD_ch {c : Char} (h : c.isDigit = true) : isD c.toNat = true := by
  unfold Char.isDigit at h
  unfold isD
  rw [Bool.and_eq_true] at h ⊢
  have h1 : 48 ≤ c.val.toNat := UInt32.le_iff_toNat_le.mp (of_decide_eq_true h.1)
  have h2 : c.val.toNat ≤ 57 := UInt32.le_iff_toNat_le.mp (of_decide_eq_true h.2)
  exact ⟨decide_eq_true h1, decide_eq_true h2⟩
theorem numW_D (m : Nat) : (numW (m : Int)).all isD = true := by
  rw [numW_nat, List.all_eq_true]
  intro x hx
  obtain ⟨c, hc, rfl⟩ := List.mem_map.mp hx
  exact isD_ch (Nat.isDigit_of_mem_toDigits (by decide) (by decide) hc)
theorem numW_ne (m : Nat) : numW (m : Int) ≠ [] := by
  rw [numW_nat]
  intro e
  exact Nat.toDigits_ne_nil (List.map_eq_nil_iff.mp e)
theorem notL_D {c : Nat} (h : isD c = true) : isL c = false := by
  unfold isD at h
  unfold isL
  rw [Bool.and_eq_true] at h
  have h1 := of_decide_eq_true h.1
  have h2 := of_decide_eq_true h.2
  simp
  omega
theorem num_D {s : List Nat} (h : s.all isD = true) (n : s ≠ []) : sortW s = "number" ∧ tkOk0 s = true := by
  cases s with
  | nil => exact absurd rfl n
  | cons c r =>
    rw [List.all_cons, Bool.and_eq_true] at h
    have k := notL_D h.1
    unfold sortW
    rw [tkOk_cons0]
    simp only [k, h.1, Bool.false_eq_true, if_true, if_false]
    exact ⟨trivial, h.2⟩
theorem numv_fold : ∀ (l : List Char), (∀ c ∈ l, c.isDigit = true) → ∀ a : Nat, (l.map Char.toNat).foldl (fun (v : Int) (c : Nat) => (v * 10 + ((c : Int) - 48)) % 4294967296) (a : Int) = ((Nat.ofDigitChars 10 l a : Nat) : Int) % 4294967296 ∨ l = []
  | [], _, _ => .inr rfl
  | c :: r, h, a => by
    refine .inl ?_
    have hd := isD_ch (h c (by simp))
    unfold isD at hd
    rw [Bool.and_eq_true] at hd
    have h1 := of_decide_eq_true hd.1
    have e1 : ((a : Int) * 10 + ((c.toNat : Int) - 48)) % 4294967296 = (((10 * a + (c.toNat - 48)) % 4294967296 : Nat) : Int) := by omega
    rw [List.map_cons, List.foldl_cons, e1]
    rcases numv_fold r (fun x hx => h x (by simp [hx])) ((10 * a + (c.toNat - 48)) % 4294967296) with e | e
    · rw [e, Nat.ofDigitChars_cons]
      have k1 := Nat.ofDigitChars_eq_ofDigitChars_zero (l := r) (init := (10 * a + (c.toNat - 48)) % 4294967296)
      have k2 := Nat.ofDigitChars_eq_ofDigitChars_zero (l := r) (init := 10 * a + (c.toNat - '0'.toNat))
      rw [k1, k2]
      show ((_ : Nat) : Int) % 4294967296 = ((10 ^ r.length * (10 * a + (c.toNat - 48)) + Nat.ofDigitChars 10 r 0 : Nat) : Int) % 4294967296
      have q : (10 ^ r.length * ((10 * a + (c.toNat - 48)) % 4294967296) + Nat.ofDigitChars 10 r 0) % 4294967296 = (10 ^ r.length * (10 * a + (c.toNat - 48)) + Nat.ofDigitChars 10 r 0) % 4294967296 := by
        rw [Nat.add_mod, Nat.mul_mod, Nat.mod_mod, ← Nat.mul_mod, ← Nat.add_mod]
      omega
    · subst e
      rw [List.map_nil, List.foldl_nil, Nat.ofDigitChars_cons, Nat.ofDigitChars_nil]
      show _ = ((10 * a + (c.toNat - 48) : Nat) : Int) % 4294967296
      omega
theorem numv_numW {m : Nat} (h : m < 4294967296) : Src.numv (numW (m : Int)) = (m : Int) := by
  unfold Src.numv
  rw [numW_nat]
  rcases numv_fold (Nat.toDigits 10 m) (fun c hc => Nat.isDigit_of_mem_toDigits (by decide) (by decide) hc) 0 with e | e
  · have e' := e
    rw [Nat.ofDigitChars_ten_toDigits] at e'
    rw [show (0 : Int) = ((0 : Nat) : Int) from rfl, e']
    omega
  · exact absurd e Nat.toDigits_ne_nil
theorem numW_len {m : Nat} (h : m < 4294967296) : (numW (m : Int)).length ≤ 25 := by
  rw [numW_nat, List.length_map]
  exact Nat.le_trans ((Nat.length_toDigits_le_iff (k := 10) (by decide) (by decide)).mpr (by omega)) (by decide)
/-- a number that the reader gives -/
def NumOk (v : Int) : Prop := 0 ≤ v ∧ v < 4294967296
theorem NumOk.all {v : Int} (h : NumOk v) : sortW (numW v) = "number" ∧ tkOk0 (numW v) = true ∧ (numW v).length ≤ 25 ∧ Src.numv (numW v) = v ∧ numW v ≠ [] ∧ (numW v).all isD = true := by
  obtain ⟨m, rfl⟩ : ∃ m : Nat, v = (m : Int) := ⟨v.toNat, by have := h.1; omega⟩
  have hm : m < 4294967296 := by have := h.2; omega
  obtain ⟨h1, h2⟩ := num_D (numW_D m) (numW_ne m)
  exact ⟨h1, h2, numW_len hm, numv_numW hm, numW_ne m, numW_D m⟩
/-- what the reader makes of digits is such a number -/
theorem numv_ok : ∀ (l : List Nat) (a : Int), NumOk a → NumOk (l.foldl (fun (v : Int) (c : Nat) => (v * 10 + ((c : Int) - 48)) % 4294967296) a)
  | [], _, h => h
  | c :: r, a, _ => numv_ok r _ ⟨Int.emod_nonneg _ (by decide), Int.emod_lt_of_pos _ (by decide)⟩
theorem numv_NumOk (l : List Nat) : NumOk (Src.numv l) := numv_ok l 0 ⟨by decide, by decide⟩
end Sn

/-! Trees as a type (the first part of Nd.lean). -/
namespace Sn
open PySem PySem.Spec PyProof.Rows L2 TL
mutual
inductive Nd where
  | nd (tag : Str) (call : Bool) (s e : Nat) (pre post : List D) (kids : Ns)
inductive Ns where
  | nil
  | cons (h : Nd) (t : Ns)
end
mutual
def Nd.t : Nd → Tn
  | .nd tag call s e pre post kids => ⟨tag, s, e, pre ++ ((if call = true then [.tup (ofL kids.ds)] else kids.ds) ++ post)⟩
def Ns.ds : Ns → List D
  | .nil => []
  | .cons h t => h.t.d :: t.ds
end
def Ns.len : Ns → Nat
  | .nil => 0
  | .cons _ t => t.len + 1
def Ns.ts : Ns → List Tn
  | .nil => []
  | .cons h t => h.t :: t.ts
def Ns.l : Ns → List Nd
  | .nil => []
  | .cons h t => h :: t.l
def Ns.snoc : Ns → Nd → Ns
  | .nil, n => .cons n .nil
  | .cons h t, n => .cons h (t.snoc n)
/-- what a tree of a form has -/
def Fm (tag : Str) (call : Bool) (pre post : List D) (n : Nat) : Prop :=
  (tag = "number" ∧ call = false ∧ (∃ v, pre = [.int v]) ∧ post = [] ∧ n = 0) ∨ (tag = "truth" ∧ call = false ∧ (∃ v, pre = [.bl v]) ∧ post = [] ∧ n = 0) ∨ (tag = "name" ∧ call = false ∧ (∃ v, pre = [.str v]) ∧ post = [] ∧ n = 0) ∨
  (tag = "call" ∧ call = true ∧ (∃ v, pre = [.str v]) ∧ post = []) ∨ (tag = "field" ∧ call = false ∧ pre = [] ∧ (∃ v, post = [.str v]) ∧ n = 1) ∨ (tag = "group" ∧ call = false ∧ pre = [] ∧ post = [] ∧ n = 1) ∨
  (tag = "not" ∧ call = false ∧ pre = [] ∧ post = [] ∧ n = 1) ∨ (tag = "minus" ∧ call = false ∧ pre = [] ∧ post = [] ∧ n = 1) ∨ (tag = "binary" ∧ call = false ∧ (∃ v, pre = [.str v] ∧ PyData.strOk v = true) ∧ post = [] ∧ n = 2) ∨
  (tag = "if" ∧ call = false ∧ pre = [] ∧ post = [] ∧ n = 3) ∨ (tag = "let" ∧ call = false ∧ (∃ v i, pre = [.str v, .int i]) ∧ post = [] ∧ n = 2) ∨ (tag = "loop" ∧ call = false ∧ (∃ v i, pre = [.str v, .int i]) ∧ post = [] ∧ n = 3)
mutual
def Nd.ok : Nd → Prop
  | .nd tag call s e pre post kids => Fm tag call pre post kids.len ∧ kids.ok
def Ns.ok : Ns → Prop
  | .nil => True
  | .cons h t => h.ok ∧ t.ok
end
mutual
def Nd.cnt : Nd → Nat
  | .nd _ _ _ _ _ _ kids => kids.cnt + 1
def Ns.cnt : Ns → Nat
  | .nil => 0
  | .cons h t => h.cnt + t.cnt
end
mutual
def Nd.ht : Nd → Nat
  | .nd _ _ _ _ _ _ kids => kids.ht + 1
def Ns.ht : Ns → Nat
  | .nil => 0
  | .cons h t => max h.ht t.ht
end
section
theorem Ns.ds_ts : ∀ ns : Ns, ns.ds = ns.ts.map Tn.d
  | .nil => by unfold Ns.ds; rfl
  | .cons h t => by
    unfold Ns.ds
    rw [Ns.ds_ts t]
    rfl
theorem Ns.snoc_ts (n : Nd) : ∀ ns : Ns, (ns.snoc n).ts = ns.ts ++ [n.t]
  | .nil => rfl
  | .cons h t => by
    show h.t :: (t.snoc n).ts = _
    rw [Ns.snoc_ts n t]
    rfl
theorem Ns.snoc_len (n : Nd) : ∀ ns : Ns, (ns.snoc n).len = ns.len + 1
  | .nil => rfl
  | .cons h t => by
    show (t.snoc n).len + 1 = _
    rw [Ns.snoc_len n t]
    rfl
theorem Ns.cnt_nil : Ns.nil.cnt = 0 := by unfold Ns.cnt; rfl
theorem Ns.cnt_cons (h : Nd) (t : Ns) : (Ns.cons h t).cnt = h.cnt + t.cnt := by rw [Ns.cnt]
theorem Ns.ht_nil : Ns.nil.ht = 0 := by unfold Ns.ht; rfl
theorem Ns.ht_cons (h : Nd) (t : Ns) : (Ns.cons h t).ht = max h.ht t.ht := by rw [Ns.ht]
theorem Ns.ok_nil : Ns.nil.ok := by unfold Ns.ok; trivial
theorem Ns.ok_cons {h : Nd} {t : Ns} : (Ns.cons h t).ok ↔ h.ok ∧ t.ok := by rw [Ns.ok]
theorem Nd.cnt_nd {tag : Str} {call : Bool} {s e : Nat} {pre post : List D} {kids : Ns} : (Nd.nd tag call s e pre post kids).cnt = kids.cnt + 1 := by rw [Nd.cnt]
theorem Nd.ht_nd {tag : Str} {call : Bool} {s e : Nat} {pre post : List D} {kids : Ns} : (Nd.nd tag call s e pre post kids).ht = kids.ht + 1 := by rw [Nd.ht]
theorem Nd.ok_nd {tag : Str} {call : Bool} {s e : Nat} {pre post : List D} {kids : Ns} : (Nd.nd tag call s e pre post kids).ok ↔ Fm tag call pre post kids.len ∧ kids.ok := by rw [Nd.ok]
theorem Nd.t_nd {tag : Str} {call : Bool} {s e : Nat} {pre post : List D} {kids : Ns} : (Nd.nd tag call s e pre post kids).t = ⟨tag, s, e, pre ++ ((if call = true then [.tup (ofL kids.ds)] else kids.ds) ++ post)⟩ := by rw [Nd.t]
theorem Ns.ds_nil : Ns.nil.ds = [] := by rw [Ns.ds]
theorem Ns.ds_cons (h : Nd) (t : Ns) : (Ns.cons h t).ds = h.t.d :: t.ds := by rw [Ns.ds]
theorem Ns.snoc_cnt (n : Nd) : ∀ ns : Ns, (ns.snoc n).cnt = ns.cnt + n.cnt
  | .nil => by
    show (Ns.cons n .nil).cnt = _
    rw [Ns.cnt_cons, Ns.cnt_nil]
    omega
  | .cons h t => by
    show (Ns.cons h (t.snoc n)).cnt = _
    rw [Ns.cnt_cons, Ns.snoc_cnt n t, Ns.cnt_cons]
    omega
theorem Ns.snoc_ht (n : Nd) : ∀ ns : Ns, (ns.snoc n).ht = max ns.ht n.ht
  | .nil => by
    show (Ns.cons n .nil).ht = _
    rw [Ns.ht_cons, Ns.ht_nil]
    omega
  | .cons h t => by
    show (Ns.cons h (t.snoc n)).ht = _
    rw [Ns.ht_cons, Ns.snoc_ht n t, Ns.ht_cons]
    omega
theorem Ns.snoc_ok {n : Nd} (hn : n.ok) : ∀ {ns : Ns}, ns.ok → (ns.snoc n).ok
  | .nil, _ => Ns.ok_cons.mpr ⟨hn, Ns.ok_nil⟩
  | .cons h t, k => Ns.ok_cons.mpr ⟨(Ns.ok_cons.mp k).1, Ns.snoc_ok hn (Ns.ok_cons.mp k).2⟩
theorem Ns.len_cnt : ∀ ns : Ns, ns.len ≤ ns.cnt
  | .nil => Nat.zero_le _
  | .cons h t => by
    rw [Ns.cnt_cons]
    show t.len + 1 ≤ _
    have := Ns.len_cnt t
    have : 1 ≤ h.cnt := by
      cases h
      rw [Nd.cnt_nd]
      omega
    omega
end
end Sn

/-! A reading looks at no token behind its end: two sources, one of which has the first tokens of the other. -/
namespace Sn
open PySem PySem.Spec PyProof.Rows L2 TL
structure Pre (S S' : Src) (m : Nat) : Prop where
  le : m ≤ S.n
  n : S'.n = m
  ts : ∀ a, a < m → S'.ts[a]? = S.ts[a]?
  wd : ∀ a, a < m → S'.wd a = S.wd a
section
variable {S S' : Src} {m : Nat}
theorem Pre.so (P : Pre S S' m) {a : Nat} (h : a < m) : S'.so a = S.so a := by unfold Src.so; rw [P.ts a h]
theorem Pre.st (P : Pre S S' m) {a : Nat} (h : a < m) : S'.st a = S.st a := by unfold Src.st; rw [P.ts a h]
theorem Pre.en (P : Pre S S' m) {a : Nat} (h : a < m) : S'.en a = S.en a := by unfold Src.en; rw [P.ts a h]
theorem Pre.strW (P : Pre S S' m) {a : Nat} (h : a < m) : S'.strW a = S.strW a := by unfold Src.strW; rw [P.wd a h]
theorem Pre.isN (P : Pre S S' m) {a : Nat} (h : a < m) : S'.isN a = S.isN a := by unfold Src.isN; rw [P.so h]
theorem Pre.eqW (P : Pre S S' m) {a : Nat} (h : a < m) (w : Str) : S'.eqW a w = S.eqW a w := by unfold Src.eqW; rw [P.wd a h]
theorem Pre.fp (P : Pre S S' m) {a : Nat} (h : a < m) : S'.fp a = S.fp a := by
  have e : ∃ t, S.ts[a]? = some t := ⟨_, List.getElem?_eq_getElem (show a < S.ts.length from Nat.lt_of_lt_of_le h P.le)⟩
  obtain ⟨t, e⟩ := e
  have e' := P.ts a h
  unfold Src.fp
  rw [e', e]
theorem none_end {S : Src} {a : Nat} (h : S.n ≤ a) : S.ts[a]? = none := List.getElem?_eq_none h
theorem wd_none {S : Src} {a : Nat} (h : S.n ≤ a) : S.wd a = [] := by unfold Src.wd; rw [none_end h]
theorem eqW_none {S : Src} {a : Nat} (h : S.n ≤ a) {w : Str} (hw : tl w ≠ []) : S.eqW a w = false := by
  unfold Src.eqW
  rw [wd_none h]
  exact decide_eq_false (fun e => hw e.symm)
theorem isN_none {S : Src} {a : Nat} (h : S.n ≤ a) : S.isN a = false := by
  unfold Src.isN Src.so
  rw [none_end h]
  decide +kernel
end
def Ps {α : Type} (S : Src) (r : Rs α) (k : Nat) : Prop := (∃ x, r = .ok x k) ∨ r = S.fail k
def Mo {α : Type} (S : Src) (a : Nat) (r : Rs α) : Prop := ∃ k, a ≤ k ∧ Ps S r k
def Cz {α : Type} (S S' : Src) (m a : Nat) (r r' : Rs α) : Prop :=
  (∃ k, a ≤ k ∧ k < m ∧ ((∃ x, r = .ok x k ∧ r' = .ok x k) ∨ (r = S.fail k ∧ r' = S'.fail k))) ∨ (∃ k, m ≤ k ∧ a ≤ k ∧ Ps S r k ∧ Ps S' r' m)
/-- two readings; N: how many tokens may be left -/
structure Rg (S S' : Src) (m N : Nat) {α : Type} (R R' : Nat → Rs α) : Prop where
  lt : ∀ a, a < m → S.n ≤ a + N → Cz S S' m a (R a) (R' a)
  ge : ∀ a, m ≤ a → S.n ≤ a + N → Mo S a (R a)
  at_ : S.n ≤ m + N → Ps S' (R' m) m
section
variable {S S' : Src} {m N : Nat} {α β γ δ : Type}
theorem Mo.le {a b : Nat} {r : Rs α} (h : b ≤ a) : Mo S a r → Mo S b r := fun ⟨k, h1, h2⟩ => ⟨k, by omega, h2⟩
theorem Cz.le {a b : Nat} {r r' : Rs α} (h : b ≤ a) : Cz S S' m a r r' → Cz S S' m b r r' := fun c => c.elim (fun ⟨k, h1, h2, h3⟩ => .inl ⟨k, by omega, h2, h3⟩) fun ⟨k, h1, h2, h3⟩ => .inr ⟨k, h1, by omega, h3⟩
theorem Rg.mono {R R' : Nat → Rs α} {M : Nat} (h : M ≤ N) (r : Rg S S' m N R R') : Rg S S' m M R R' := ⟨fun a h1 h2 => r.lt a h1 (by omega), fun a h1 h2 => r.ge a h1 (by omega), fun h1 => r.at_ (by omega)⟩
/-- at any place up to m -/
theorem Rg.cz {R R' : Nat → Rs α} (r : Rg S S' m N R R') {a : Nat} (h : a ≤ m) (hn : S.n ≤ a + N) : Cz S S' m a (R a) (R' a) := by
  by_cases k : a < m
  · exact r.lt a k hn
  · obtain rfl : a = m := by omega
    obtain ⟨j, h1, h2⟩ := r.ge a (Nat.le_refl _) hn
    exact .inr ⟨j, h1, h1, h2, r.at_ hn⟩
theorem Rg.mo {R R' : Nat → Rs α} (r : Rg S S' m N R R') {a : Nat} (hn : S.n ≤ a + N) : Mo S a (R a) := by
  by_cases k : a < m
  · rcases r.lt a k hn with ⟨j, h1, h2, ⟨x, h3, _⟩ | ⟨h3, _⟩⟩ | ⟨j, h1, h2, h3, _⟩
    · exact ⟨j, h1, .inl ⟨x, h3⟩⟩
    · exact ⟨j, h1, .inr h3⟩
    · exact ⟨j, h2, h3⟩
  · exact r.ge a (by omega) hn
theorem rg_fail : Rg S S' m N (fun a => (S.fail a : Rs α)) (fun a => S'.fail a) :=
  ⟨fun a h _ => .inl ⟨a, Nat.le_refl _, h, .inr ⟨rfl, rfl⟩⟩, fun a _ _ => ⟨a, Nat.le_refl _, .inr rfl⟩, fun _ => .inr rfl⟩
theorem rg_ok (x : α) : Rg S S' m N (fun a => .ok x a) (fun a => .ok x a) :=
  ⟨fun a h _ => .inl ⟨a, Nat.le_refl _, h, .inl ⟨x, rfl, rfl⟩⟩, fun a _ _ => ⟨a, Nat.le_refl _, .inl ⟨x, rfl⟩⟩, fun _ => .inl ⟨x, rfl⟩⟩
theorem fail_bind {f : α → Nat → Rs β} {a : Nat} : (S.fail a : Rs α).bind f = S.fail a := rfl
theorem ps_bind {r : Rs α} {k : Nat} {f : α → Nat → Rs β} (h : Ps S r k) (g : ∀ x, Mo S k (f x k)) : Mo S k (r.bind f) := by
  rcases h with ⟨x, rfl⟩ | rfl
  · exact g x
  · exact ⟨k, Nat.le_refl _, .inr rfl⟩
theorem Rg.bind {R R' : Nat → Rs α} {f f' : α → Nat → Rs β} (r : Rg S S' m N R R') (h : ∀ x, Rg S S' m N (f x) (f' x)) : Rg S S' m N (fun a => (R a).bind (f)) (fun a => (R' a).bind (f')) := by
  have third : ∀ {a : Nat} {q : Rs α}, Ps S' q m → S.n ≤ m + N → Ps S' (q.bind f') m := fun {a q} hq hn => by
    rcases hq with ⟨x, rfl⟩ | rfl
    · exact (h x).at_ hn
    · exact .inr rfl
  refine ⟨fun a ha hn => ?_, fun a ha hn => ?_, fun hn => third (a := m) (r.at_ hn) hn⟩
  · rcases r.lt a ha hn with ⟨k, h1, h2, ⟨x, e1, e2⟩ | ⟨e1, e2⟩⟩ | ⟨k, h1, h2, h3, h4⟩
    · show Cz S S' m a ((R a).bind f) ((R' a).bind f')
      rw [e1, e2]
      exact ((h x).lt k h2 (by omega)).le h1
    · show Cz S S' m a ((R a).bind f) ((R' a).bind f')
      rw [e1, e2]
      exact .inl ⟨k, h1, h2, .inr ⟨rfl, rfl⟩⟩
    · obtain ⟨j, g1, g2⟩ := ps_bind h3 (f := f) fun x => (h x).ge k h1 (by omega)
      exact .inr ⟨j, by omega, by omega, g2, third (a := a) h4 (by omega)⟩
  · obtain ⟨k, h1, h2⟩ := r.ge a ha hn
    exact Mo.le h1 (ps_bind h2 fun x => (h x).mo (by omega))
/-- a test of the next token -/
structure Tt (S S' : Src) (m : Nat) (c c' : Nat → Bool) : Prop where
  same : ∀ a, a < m → c' a = c a
  no : c' m = false
  lt : ∀ a, c a = true → a < S.n
theorem Pre.tW (P : Pre S S' m) {w : Str} (hw : tl w ≠ []) : Tt S S' m (fun a => S.eqW a w) (fun a => S'.eqW a w) :=
  ⟨fun a h => P.eqW h w, eqW_none (Nat.le_of_eq P.n) hw, fun a h => by
    by_cases k : a < S.n
    · exact k
    · have h : S.eqW a w = true := h
      rw [eqW_none (by omega) hw] at h
      cases h⟩
theorem Pre.tN (P : Pre S S' m) : Tt S S' m S.isN S'.isN :=
  ⟨fun a h => P.isN h, isN_none (Nat.le_of_eq P.n), fun a h => by
    by_cases k : a < S.n
    · exact k
    · rw [isN_none (by omega)] at h
      cases h⟩
def ap2 {γ α : Type} (R : γ → Nat → Rs α) (x : γ) (b : Nat) : Rs α := R x b
theorem rg_if {c c' : Nat → Bool} (t : Tt S S' m c c') {p p' : Nat → γ} (hp : ∀ a, a < m → p' a = p a) {R1 R1' : γ → Nat → Rs α} {R2 R2' : Nat → Rs α} (h1 : 0 < N → ∀ x, Rg S S' m (N - 1) (R1 x) (R1' x)) (h2 : Rg S S' m N R2 R2') :
    Rg S S' m N (fun a => if c a = true then ap2 R1 (p a) (a + 1) else R2 a) (fun a => if c' a = true then ap2 R1' (p' a) (a + 1) else R2' a) := by
  refine ⟨fun a ha hn => ?_, fun a ha hn => ?_, fun hn => ?_⟩
  · show Cz S S' m a (if c a = true then R1 (p a) (a + 1) else R2 a) (if c' a = true then R1' (p' a) (a + 1) else R2' a)
    rw [t.same a ha, hp a ha]
    by_cases hc : c a = true
    · have := t.lt a hc
      rw [if_pos hc, if_pos hc]
      exact ((h1 (by omega) (p a)).cz (a := a + 1) (by omega) (by omega)).le (by omega)
    · rw [if_neg hc, if_neg hc]
      exact h2.lt a ha hn
  · show Mo S a (if c a = true then R1 (p a) (a + 1) else R2 a)
    by_cases hc : c a = true
    · have := t.lt a hc
      rw [if_pos hc]
      exact ((h1 (by omega) (p a)).mo (a := a + 1) (by omega)).le (by omega)
    · rw [if_neg hc]
      exact h2.ge a ha hn
  · show Ps S' (if c' m = true then R1' (p' m) (m + 1) else R2' m) m
    rw [t.no, if_neg (by decide)]
    exact h2.at_ hn
/-- the same, the token not taken -/
theorem rg_ifS {c c' : Nat → Bool} (t : Tt S S' m c c') {R1 R1' R2 R2' : Nat → Rs α} (h1 : Rg S S' m N R1 R1') (h2 : Rg S S' m N R2 R2') :
    Rg S S' m N (fun a => if c a = true then R1 a else R2 a) (fun a => if c' a = true then R1' a else R2' a) := by
  refine ⟨fun a ha hn => ?_, fun a ha hn => ?_, fun hn => ?_⟩
  · show Cz S S' m a (if c a = true then R1 a else R2 a) (if c' a = true then R1' a else R2' a)
    rw [t.same a ha]
    by_cases hc : c a = true
    · rw [if_pos hc, if_pos hc]
      exact h1.lt a ha hn
    · rw [if_neg hc, if_neg hc]
      exact h2.lt a ha hn
  · show Mo S a (if c a = true then R1 a else R2 a)
    by_cases hc : c a = true
    · rw [if_pos hc]
      exact h1.ge a ha hn
    · rw [if_neg hc]
      exact h2.ge a ha hn
  · show Ps S' (if c' m = true then R1' m else R2' m) m
    rw [t.no, if_neg (by decide)]
    exact h2.at_ hn
/-- a loop: as long as the test holds, the token is taken and B read -/
theorem rg_loop {c c' : γ → Nat → Bool} (t : ∀ x, Tt S S' m (c x) (c' x)) {p p' : Nat → β} (hp : ∀ a, a < m → p' a = p a) {B B' : γ → β → Nat → Rs δ} {Z Z' : γ → Nat → Rs α} {L L' : γ → Nat → Rs α} {nx : γ → β → δ → γ}
    (hB : ∀ x a, c x a = true → S.n ≤ a + N → Rg S S' m (N - 1) (B x (p a)) (B' x (p a))) (hZ : ∀ x, Rg S S' m N (Z x) (Z' x))
    (e : ∀ x a, S.n ≤ a + N → L x a = if c x a = true then (B x (p a) (a + 1)).bind (fun y a' => L (nx x (p a) y) a') else Z x a)
    (e' : ∀ x a, a ≤ m → S.n ≤ a + N → L' x a = if c' x a = true then (B' x (p' a) (a + 1)).bind (fun y a' => L' (nx x (p' a) y) a') else Z' x a) : ∀ x, Rg S S' m N (L x) (L' x) := by
  have at_ : ∀ x, S.n ≤ m + N → Ps S' (L' x m) m := fun x hn => by
    rw [e' x m (Nat.le_refl _) hn, (t x).no, if_neg (by decide)]
    exact (hZ x).at_ hn
  have ge : ∀ (j : Nat) (x : γ) (a : Nat), S.n - a ≤ j → S.n ≤ a + N → Mo S a (L x a) := by
    intro j
    induction j with
    | zero =>
      intro x a hj hn
      rw [e x a hn]
      by_cases hc : c x a = true
      · have := (t x).lt a hc
        omega
      · rw [if_neg hc]
        exact (hZ x).mo hn
    | succ j ih =>
      intro x a hj hn
      rw [e x a hn]
      by_cases hc : c x a = true
      · have := (t x).lt a hc
        rw [if_pos hc]
        obtain ⟨k, h1, h2⟩ := (hB x a hc hn).mo (a := a + 1) (by omega)
        exact Mo.le (show a ≤ k by omega) (ps_bind h2 fun y => ih _ k (by omega) (by omega))
      · rw [if_neg hc]
        exact (hZ x).mo hn
  have lt : ∀ (j : Nat) (x : γ) (a : Nat), S.n - a ≤ j → a < m → S.n ≤ a + N → Cz S S' m a (L x a) (L' x a) := by
    intro j
    induction j with
    | zero =>
      intro x a hj ha hn
      rw [e x a hn, e' x a (by omega) hn, (t x).same a ha]
      by_cases hc : c x a = true
      · have := (t x).lt a hc
        omega
      · rw [if_neg hc, if_neg hc]
        exact (hZ x).lt a ha hn
    | succ j ih =>
      intro x a hj ha hn
      rw [e x a hn, e' x a (by omega) hn, (t x).same a ha, hp a ha]
      by_cases hc : c x a = true
      · have := (t x).lt a hc
        rw [if_pos hc, if_pos hc]
        have third : ∀ {q : Rs δ}, Ps S' q m → Ps S' (q.bind fun y a' => L' (nx x (p a) y) a') m := fun {q} hq => by
          rcases hq with ⟨y, rfl⟩ | rfl
          · exact at_ _ (by omega)
          · exact .inr rfl
        rcases (hB x a hc hn).cz (a := a + 1) (by omega) (by omega) with ⟨k, h1, h2, ⟨y, e1, e2⟩ | ⟨e1, e2⟩⟩ | ⟨k, h1, h2, h3, h4⟩
        · rw [e1, e2]
          exact (ih (nx x (p a) y) k (by omega) h2 (by omega)).le (by omega)
        · rw [e1, e2]
          exact .inl ⟨k, by omega, h2, .inr ⟨rfl, rfl⟩⟩
        · obtain ⟨i, g1, g2⟩ := ps_bind h3 (f := fun y a' => L (nx x (p a) y) a') fun y => ge _ _ k (Nat.le_refl _) (by omega)
          exact .inr ⟨i, by omega, by omega, g2, third h4⟩
      · rw [if_neg hc, if_neg hc]
        exact (hZ x).lt a ha hn
  exact fun x => ⟨fun a ha hn => lt _ x a (Nat.le_refl _) ha hn, fun a _ hn => ge _ x a (Nat.le_refl _) hn, at_ x⟩
end
end Sn

/-! The parser's mirror by how many calls there are, and that it looks at no token behind its end. -/
namespace Sn
open PySem PySem.Spec PyProof.Rows L2 TL
mutual
def valB (S : Src) (b d a : Nat) : Rs Tn := if h : 10 ≤ b then S.valM (valB S (b - 3) (d + 1)) (chB S (b - 1) 1 (d + 1)) d a else .un
termination_by b
decreasing_by all_goals omega
def sgB (S : Src) (b d a : Nat) : Rs Tn := if h : 10 ≤ b then S.signM (sgB S (b - 1) (d + 1)) (valB S (b - 4) d) d a else .un
termination_by b
decreasing_by all_goals omega
def chB (S : Src) (b s d a : Nat) : Rs Tn := if h : 10 ≤ b then S.chainM (chB S (b - 2) 3 (d + 1)) (sgB S (b - 1) d) (fun l c => chB S (b - 1) l d c) s d a else .un
termination_by b
decreasing_by all_goals omega
end
theorem valB_s (S : Src) {b d a : Nat} (h : 10 ≤ b) : valB S b d a = S.valM (valB S (b - 3) (d + 1)) (chB S (b - 1) 1 (d + 1)) d a := by rw [valB, dif_pos h]
theorem sgB_s (S : Src) {b d a : Nat} (h : 10 ≤ b) : sgB S b d a = S.signM (sgB S (b - 1) (d + 1)) (valB S (b - 4) d) d a := by rw [sgB, dif_pos h]
theorem chB_s (S : Src) {b s d a : Nat} (h : 10 ≤ b) : chB S b s d a = S.chainM (chB S (b - 2) 3 (d + 1)) (sgB S (b - 1) d) (fun l c => chB S (b - 1) l d c) s d a := by rw [chB, dif_pos h]
theorem valB_n (S : Src) {b d a : Nat} (h : ¬ 10 ≤ b) : valB S b d a = .un := by rw [valB, dif_neg h]
theorem sgB_n (S : Src) {b d a : Nat} (h : ¬ 10 ≤ b) : sgB S b d a = .un := by rw [sgB, dif_neg h]
theorem chB_n (S : Src) {b s d a : Nat} (h : ¬ 10 ≤ b) : chB S b s d a = .un := by rw [chB, dif_neg h]
section
variable {S S' : Src} {m N : Nat}
theorem Cz.mo' {α : Type} {a : Nat} {r r' : Rs α} (h : a ≤ m) (c : Cz S S' m a r r') : Mo S' a r' := by
  rcases c with ⟨j, h1, h2, ⟨x, _, h3⟩ | ⟨_, h3⟩⟩ | ⟨j, h1, h2, _, h3⟩
  · exact ⟨j, h1, .inl ⟨x, h3⟩⟩
  · exact ⟨j, h1, .inr h3⟩
  · exact ⟨m, h, h3⟩
theorem Rg.mo' {α : Type} {R R' : Nat → Rs α} (r : Rg S S' m N R R') {a : Nat} (h : a ≤ m) (hn : S.n ≤ a + N) : Mo S' a (R' a) := (r.cz h hn).mo' h
theorem Pre.lt' (P : Pre S S' m) {a : Nat} {w : Str} (hw : tl w ≠ []) (h : S'.eqW a w = true) : a < m := by
  by_cases k : a < S'.n
  · rw [P.n] at k; exact k
  · rw [eqW_none (by omega) hw] at h
    cases h
theorem tW0 {w : Str} (h : (tl w).isEmpty = false) : tl w ≠ [] := fun e => by rw [e] at h; cases h
theorem rg_args (P : Pre S S' m) {V V' : Nat → Rs Tn} (hV : Rg S S' m N V V') (s0 : Nat) (nm : D) (acc : List D) : Rg S S' m N (S.argsM V s0 nm acc) (S'.argsM V' s0 nm acc) := by
  have hw : tl ("," : Str) ≠ [] := tW0 (by decide +kernel)
  refine rg_loop (γ := List D) (β := Unit) (δ := Tn) (c := fun _ a => S.eqW a ",") (c' := fun _ a => S'.eqW a ",") (fun _ => P.tW hw) (p := fun _ => ()) (p' := fun _ => ()) (fun _ _ => rfl) (B := fun _ _ => V) (B' := fun _ _ => V') (nx := fun acc _ t => acc ++ [t.d])
    (Z := fun acc a => if S.eqW a ")" = true then ap2 (fun (q : Nat) c => (.ok ⟨"call", s0, q, [nm, .tup (ofL acc)]⟩ c : Rs Tn)) (S.en a) (a + 1) else S.fail a) (Z' := fun acc a => if S'.eqW a ")" = true then ap2 (fun (q : Nat) c => (.ok ⟨"call", s0, q, [nm, .tup (ofL acc)]⟩ c : Rs Tn)) (S'.en a) (a + 1) else S'.fail a)
    (L := S.argsM V s0 nm) (L' := S'.argsM V' s0 nm) (fun x a _ _ => hV.mono (by omega)) (fun acc => ?_) (fun acc a hn => ?_) (fun acc a ha hn => ?_) acc
  · exact rg_if (P.tW (tW0 (by decide +kernel))) (p := S.en) (p' := S'.en) (fun a h => P.en h) (fun _ e => rg_ok _) rg_fail
  · rw [Src.argsM]
    by_cases h : S.eqW a "," = true
    · rw [if_pos h, if_pos h]
      have hlt := (P.tW hw).lt a h
      obtain ⟨k, g1, g2⟩ := (hV.mo (a := a + 1) (by omega))
      rcases g2 with ⟨y, ey⟩ | ey
      · rw [ey]
        exact dif_pos ⟨by omega, hlt⟩
      · rw [ey]
        rfl
    · rw [if_neg h, if_neg h] <;> rfl
  · rw [Src.argsM]
    by_cases h : S'.eqW a "," = true
    · rw [if_pos h, if_pos h]
      have hlt := P.lt' hw h
      obtain ⟨k, g1, g2⟩ := (hV.mo' (a := a + 1) (by omega) (by omega))
      rcases g2 with ⟨y, ey⟩ | ey
      · rw [ey]
        exact dif_pos ⟨by omega, by rw [P.n]; exact hlt⟩
      · rw [ey]
        rfl
    · rw [if_neg h, if_neg h] <;> rfl
theorem rg_dots (P : Pre S S' m) (t : Tn) : Rg S S' m N (S.dotsM t) (S'.dotsM t) := by
  have hw : tl ("." : Str) ≠ [] := tW0 (by decide +kernel)
  refine rg_loop (γ := Tn) (β := Unit) (δ := Nat × D) (c := fun _ a => S.eqW a ".") (c' := fun _ a => S'.eqW a ".") (fun _ => P.tW hw) (p := fun _ => ()) (p' := fun _ => ()) (fun _ _ => rfl)
    (B := fun _ _ b => if S.isN b = true then ap2 (fun (y : Nat × D) c => (.ok y c : Rs (Nat × D))) (S.st b + (S.wd b).length, S.strW b) (b + 1) else S.fail b) (B' := fun _ _ b => if S'.isN b = true then ap2 (fun (y : Nat × D) c => (.ok y c : Rs (Nat × D))) (S'.st b + (S'.wd b).length, S'.strW b) (b + 1) else S'.fail b)
    (nx := fun t _ y => ⟨"field", t.s, y.1, [t.d, y.2]⟩) (Z := fun t a => .ok t a) (Z' := fun t a => .ok t a) (L := S.dotsM) (L' := S'.dotsM) (fun x a _ _ => ?_) (fun t => rg_ok _) (fun t a hn => ?_) (fun t a ha hn => ?_) t
  · exact rg_if P.tN (p := fun b => (S.st b + (S.wd b).length, S.strW b)) (p' := fun b => (S'.st b + (S'.wd b).length, S'.strW b)) (fun a h => by show (_, _) = (_, _); rw [P.st h, P.wd a h, P.strW h]) (fun _ y => rg_ok _) rg_fail
  · rw [Src.dotsM]
    by_cases h : S.eqW a "." = true
    · rw [if_pos h, if_pos h]
      have hlt := (P.tW hw).lt a h
      by_cases k : S.isN (a + 1) = true
      · rw [if_pos k, if_pos k, dif_pos hlt]
        rfl
      · rw [if_neg k, if_neg k]
        rfl
    · rw [if_neg h, if_neg h] <;> rfl
  · rw [Src.dotsM]
    by_cases h : S'.eqW a "." = true
    · rw [if_pos h, if_pos h]
      have hlt := P.lt' hw h
      by_cases k : S'.isN (a + 1) = true
      · rw [if_pos k, if_pos k, dif_pos (by rw [P.n]; exact hlt)]
        rfl
      · rw [if_neg k, if_neg k]
        rfl
    · rw [if_neg h, if_neg h] <;> rfl
theorem rg_go (P : Pre S S' m) {R R' : Nat → Nat → Rs Tn} {least : Nat} (hl : 1 ≤ least) (hR : 0 < N → ∀ l, 1 ≤ l → Rg S S' m (N - 1) (R l) (R' l)) (most : Nat) (left : Tn) : Rg S S' m N (S.goM R least most left) (S'.goM R' least most left) := by
  have tt : ∀ x : Nat × Tn, Tt S S' m (fun a => decide (least ≤ Src.rank (S.wd a) ∧ Src.rank (S.wd a) ≤ x.1)) (fun a => decide (least ≤ Src.rank (S'.wd a) ∧ Src.rank (S'.wd a) ≤ x.1)) := fun x =>
    ⟨fun a h => by show decide _ = decide _; rw [P.wd a h], by
      show decide (least ≤ Src.rank (S'.wd m) ∧ Src.rank (S'.wd m) ≤ x.1) = false
      rw [wd_none (Nat.le_of_eq P.n)]
      refine decide_eq_false fun h => ?_
      have : Src.rank [] = 0 := by decide +kernel
      omega, fun a h => by
      have h := of_decide_eq_true h
      by_cases k : a < S.n
      · exact k
      · rw [wd_none (by omega)] at h
        have : Src.rank [] = 0 := by decide +kernel
        omega⟩
  have := rg_loop (γ := Nat × Tn) (β := List Nat) (δ := Tn) (c := fun x a => decide (least ≤ Src.rank (S.wd a) ∧ Src.rank (S.wd a) ≤ x.1)) (c' := fun x a => decide (least ≤ Src.rank (S'.wd a) ∧ Src.rank (S'.wd a) ≤ x.1)) tt (p := S.wd) (p' := S'.wd) (fun a h => P.wd a h)
    (B := fun _ w => R (Src.rank w + 1)) (B' := fun _ w => R' (Src.rank w + 1)) (nx := fun x w r => (Src.topR (Src.rank w), Src.binT x.2 r w)) (Z := fun x a => .ok x.2 a) (Z' := fun x a => .ok x.2 a) (L := fun x => S.goM R least x.1 x.2) (L' := fun x => S'.goM R' least x.1 x.2)
    (N := N) (fun x a hc hn => hR (by have := (tt x).lt a hc; omega) _ (by omega)) (fun x => rg_ok _) (fun x a hn => ?_) (fun x a ha hn => ?_) (most, left)
  · exact this
  · show S.goM R least x.1 x.2 a = _
    rw [Src.goM]
    by_cases h : least ≤ Src.rank (S.wd a) ∧ Src.rank (S.wd a) ≤ x.1
    · rw [if_pos h, if_pos (decide_eq_true h)]
      have hlt := (tt x).lt a (decide_eq_true h)
      obtain ⟨k, g1, g2⟩ := ((hR (by omega) (Src.rank (S.wd a) + 1) (by omega)).mo (a := a + 1) (by omega))
      rcases g2 with ⟨y, ey⟩ | ey
      · rw [ey]
        exact dif_pos ⟨by omega, hlt⟩
      · rw [ey]
        rfl
    · rw [if_neg h, if_neg (fun e => h (of_decide_eq_true e))]
  · show S'.goM R' least x.1 x.2 a = _
    rw [Src.goM]
    by_cases h : least ≤ Src.rank (S'.wd a) ∧ Src.rank (S'.wd a) ≤ x.1
    · rw [if_pos h, if_pos (decide_eq_true h)]
      have hlt : a < m := by
        by_cases k : a < S'.n
        · rw [P.n] at k; exact k
        · rw [wd_none (by omega)] at h
          have : Src.rank [] = 0 := by decide +kernel
          omega
      have := P.le
      obtain ⟨k, g1, g2⟩ := ((hR (by omega) (Src.rank (S'.wd a) + 1) (by omega)).mo' (a := a + 1) (by omega) (by omega))
      rcases g2 with ⟨y, ey⟩ | ey
      · rw [ey]
        exact dif_pos ⟨by omega, by rw [P.n]; exact hlt⟩
      · rw [ey]
        rfl
    · rw [if_neg h, if_neg (fun e => h (of_decide_eq_true e))]
theorem rg_named (P : Pre S S' m) {V V' : Nat → Rs Tn} (hV : 0 < N → Rg S S' m (N - 1) V V') : Rg S S' m N (S.namedM V) (S'.namedM V') := by
  have e : ∀ (S : Src) (V : Nat → Rs Tn), S.namedM V = fun a => if S.isN a = true then ap2 (fun (p : Nat × Nat × D) b => if S.eqW b "(" = true then ap2 (fun (_ : Unit) c => if S.eqW c ")" = true then ap2 (fun (q : Nat) c2 => .ok ⟨"call", p.1, q, [p.2.2, .tup .nil]⟩ c2) (S.en c) (c + 1) else (V c).bind fun t a' => S.argsM V p.1 p.2.2 [t.d] a') () (b + 1)
      else .ok ⟨"name", p.1, p.2.1, [p.2.2]⟩ b) (S.st a, S.en a, S.strW a) (a + 1) else S.fail a := fun S V => by funext a; unfold Src.namedM; rfl
  rw [e, e]
  refine rg_if P.tN (p := fun a => (S.st a, S.en a, S.strW a)) (p' := fun a => (S'.st a, S'.en a, S'.strW a)) (fun a h => by show (_, _, _) = (_, _, _); rw [P.st h, P.en h, P.strW h]) (fun h0 p => ?_) rg_fail
  refine rg_if (P.tW (tW0 (by decide +kernel))) (p := fun _ => ()) (p' := fun _ => ()) (fun _ _ => rfl) (fun h1 _ => ?_) (rg_ok _)
  refine rg_if (P.tW (tW0 (by decide +kernel))) (p := S.en) (p' := S'.en) (fun a h => P.en h) (fun _ q => rg_ok _) ?_
  exact Rg.bind ((hV h0).mono (by omega)) fun t => rg_args P ((hV h0).mono (by omega)) _ _ _
theorem rg_simp (P : Pre S S' m) {V V' : Nat → Rs Tn} (hV : 0 < N → Rg S S' m (N - 1) V V') : Rg S S' m N (S.simpM V) (S'.simpM V') := by
  have e : ∀ (S : Src) (V : Nat → Rs Tn), S.simpM V = fun a => if S.isN a = true then S.namedM V a else (fun a => if decide (S.so a = Src.number) = true then ap2 (fun (p : Nat × Nat × Int) b => .ok ⟨"number", p.1, p.2.1, [.int p.2.2]⟩ b) (S.st a, S.en a, Src.numv (S.wd a)) (a + 1)
      else (fun a => if S.eqW a "(" = true then ap2 (fun (s : Nat) b => (V b).bind fun t a' => (fun c => if S.eqW c ")" = true then ap2 (fun (q : Nat) c2 => .ok ⟨"group", s, q, [t.d]⟩ c2) (S.en c) (c + 1) else S.fail c) a') (S.st a) (a + 1)
      else (fun a => if (S.eqW a "True" || S.eqW a "False") = true then ap2 (fun (p : Nat × Nat × Bool) b => .ok ⟨"truth", p.1, p.2.1, [.bl p.2.2]⟩ b) (S.st a, S.en a, S.eqW a "True") (a + 1) else S.fail a) a) a) a := fun S V => by funext a; unfold Src.simpM; rfl
  rw [e, e]
  have tnum : Tt S S' m (fun a => decide (S.so a = Src.number)) (fun a => decide (S'.so a = Src.number)) := ⟨fun a h => by show decide _ = decide _; rw [P.so h], by
    show decide (S'.so m = Src.number) = false
    unfold Src.so
    rw [none_end (Nat.le_of_eq P.n)]
    decide +kernel, fun a h => by
    have h := of_decide_eq_true h
    by_cases k : a < S.n
    · exact k
    · unfold Src.so at h
      rw [none_end (by omega)] at h
      exact absurd h (by decide +kernel)⟩
  have ttr : Tt S S' m (fun a => S.eqW a "True" || S.eqW a "False") (fun a => S'.eqW a "True" || S'.eqW a "False") := ⟨fun a h => by show (_ || _) = (_ || _); rw [P.eqW h, P.eqW h], by
    show (S'.eqW m "True" || S'.eqW m "False") = false
    rw [eqW_none (Nat.le_of_eq P.n) (tW0 (by decide +kernel)), eqW_none (Nat.le_of_eq P.n) (tW0 (by decide +kernel))]
    rfl, fun a h => by
    have h : (S.eqW a "True" || S.eqW a "False") = true := h
    rw [Bool.or_eq_true] at h
    exact h.elim ((P.tW (tW0 (by decide +kernel))).lt a) ((P.tW (tW0 (by decide +kernel))).lt a)⟩
  refine rg_ifS P.tN (rg_named P hV) ?_
  refine rg_if tnum (p := fun a => (S.st a, S.en a, Src.numv (S.wd a))) (p' := fun a => (S'.st a, S'.en a, Src.numv (S'.wd a))) (fun a h => by show (_, _, _) = (_, _, _); rw [P.st h, P.en h, P.wd a h]) (fun _ p => rg_ok _) ?_
  refine rg_if (P.tW (tW0 (by decide +kernel))) (p := S.st) (p' := S'.st) (fun a h => P.st h) (fun h0 s => ?_) ?_
  · exact Rg.bind (hV h0) fun t => rg_if (P.tW (tW0 (by decide +kernel))) (p := S.en) (p' := S'.en) (fun a h => P.en h) (fun _ q => rg_ok _) rg_fail
  · exact rg_if ttr (p := fun a => (S.st a, S.en a, S.eqW a "True")) (p' := fun a => (S'.st a, S'.en a, S'.eqW a "True")) (fun a h => by show (_, _, _) = (_, _, _); rw [P.st h, P.en h, P.eqW h]) (fun _ p => rg_ok _) rg_fail
theorem rg_reach (P : Pre S S' m) {V V' : Nat → Rs Tn} (hV : 0 < N → Rg S S' m (N - 1) V V') : Rg S S' m N (S.reachM V) (S'.reachM V') := Rg.bind (rg_simp P hV) fun t => rg_dots P t
theorem rg_sign (P : Pre S S' m) {V V' G G' : Nat → Rs Tn} {d : Nat} (hV : 0 < N → Rg S S' m (N - 1) V V') (hG : d ≠ 30 → 0 < N → Rg S S' m (N - 1) G G') : Rg S S' m N (S.signM G V d) (S'.signM G' V' d) := by
  by_cases hd : d = 30
  · have e : ∀ (S : Src) (G V : Nat → Rs Tn), S.signM G V d = fun a => if S.eqW a "-" = true then S.fail a else S.reachM V a := fun S G V => by funext a; unfold Src.signM; rw [if_pos hd] <;> rfl
    rw [e, e]
    exact rg_ifS (P.tW (tW0 (by decide +kernel))) rg_fail (rg_reach P hV)
  · have e : ∀ (S : Src) (G V : Nat → Rs Tn), S.signM G V d = fun a => if S.eqW a "-" = true then ap2 (fun (s : Nat) b => (G b).bind fun t a' => .ok ⟨"minus", s, t.e, [t.d]⟩ a') (S.st a) (a + 1) else S.reachM V a := fun S G V => by funext a; unfold Src.signM; rw [if_neg hd] <;> rfl
    rw [e, e]
    exact rg_if (P.tW (tW0 (by decide +kernel))) (p := S.st) (p' := S'.st) (fun a h => P.st h) (fun h0 s => Rg.bind (hG hd h0) fun t => rg_ok _) (rg_reach P hV)
theorem rg_chain (P : Pre S S' m) {N3 N3' G G' : Nat → Rs Tn} {R R' : Nat → Nat → Rs Tn} {least d : Nat} (hl : 1 ≤ least) (h3 : d ≠ 30 → 0 < N → Rg S S' m (N - 1) N3 N3') (hG : Rg S S' m N G G') (hR : 0 < N → ∀ l, 1 ≤ l → Rg S S' m (N - 1) (R l) (R' l)) :
    Rg S S' m N (S.chainM N3 G R least d) (S'.chainM N3' G' R' least d) := by
  have hgo : ∀ t, Rg S S' m N (S.goM R least 6 t) (S'.goM R' least 6 t) := fun t => rg_go P hl hR 6 t
  by_cases h : least ≤ 3
  · by_cases hd : d = 30
    · have e : ∀ (S : Src) (N3 G : Nat → Rs Tn) (R : Nat → Nat → Rs Tn), S.chainM N3 G R least d = fun a => if S.eqW a "not" = true then S.fail a else (G a).bind fun t a' => S.goM R least 6 t a' := fun S N3 G R => by
        funext a
        unfold Src.chainM
        by_cases k : S.eqW a "not" = true
        · rw [if_pos ⟨k, h⟩, if_pos hd, if_pos k] <;> rfl
        · rw [if_neg (fun e => k e.1), if_neg k] <;> rfl
      rw [e, e]
      exact rg_ifS (P.tW (tW0 (by decide +kernel))) rg_fail (Rg.bind hG hgo)
    · have e : ∀ (S : Src) (N3 G : Nat → Rs Tn) (R : Nat → Nat → Rs Tn), S.chainM N3 G R least d = fun a => if S.eqW a "not" = true then ap2 (fun (s : Nat) b => (N3 b).bind fun t a' => S.goM R least 3 ⟨"not", s, t.e, [t.d]⟩ a') (S.st a) (a + 1) else (G a).bind fun t a' => S.goM R least 6 t a' := fun S N3 G R => by
        funext a
        unfold Src.chainM
        by_cases k : S.eqW a "not" = true
        · rw [if_pos ⟨k, h⟩, if_neg hd, if_pos k] <;> rfl
        · rw [if_neg (fun e => k e.1), if_neg k] <;> rfl
      rw [e, e]
      exact rg_if (P.tW (tW0 (by decide +kernel))) (p := S.st) (p' := S'.st) (fun a h => P.st h) (fun h0 s => Rg.bind (h3 hd h0) fun t => rg_go P hl (fun h1 l hl => (hR h0 l hl).mono (by omega)) 3 _) (Rg.bind hG hgo)
  · have e : ∀ (S : Src) (N3 G : Nat → Rs Tn) (R : Nat → Nat → Rs Tn), S.chainM N3 G R least d = fun a => (G a).bind fun t a' => S.goM R least 6 t a' := fun S N3 G R => by
      funext a
      unfold Src.chainM
      rw [if_neg (fun e => h e.2)]
    rw [e, e]
    exact Rg.bind hG hgo
theorem rg_part (P : Pre S S' m) {V V' : Nat → Rs Tn} {w : Str} (hw : tl w ≠ []) (hV : 0 < N → Rg S S' m (N - 1) V V') : Rg S S' m N (S.part V w) (S'.part V' w) := by
  have e : ∀ (S : Src) (V : Nat → Rs Tn), S.part V w = fun a => if S.eqW a w = true then ap2 (fun (_ : Unit) b => V b) () (a + 1) else S.fail a := fun S V => by funext a; rfl
  rw [e, e]
  exact rg_if (P.tW hw) (p := fun _ => ()) (p' := fun _ => ()) (fun _ _ => rfl) (fun h0 _ => hV h0) rg_fail
theorem rg_val (P : Pre S S' m) {V V' C C' : Nat → Rs Tn} {d : Nat} (hV : d ≠ 30 → Rg S S' m N V V') (hC : d ≠ 30 → Rg S S' m N C C') : Rg S S' m N (S.valM V C d) (S'.valM V' C' d) := by
  by_cases hd : d = 30
  · have e : ∀ (S : Src) (V C : Nat → Rs Tn), S.valM V C d = fun a => S.fail a := fun S V C => by funext a; unfold Src.valM; rw [if_pos (.inl hd)]
    rw [e, e]
    exact rg_fail
  have hV := hV hd
  have hC := hC hd
  have hV1 : 0 < N → Rg S S' m (N - 1) V V' := fun _ => hV.mono (by omega)
  have letE : ∀ (S : Src) (V : Nat → Rs Tn) (s : Nat), S.letM V s = fun a => if S.isN a = true then ap2 (fun (p : D × Nat) b => (S.part V "=" b).bind fun v a1 => (S.part V "in" a1).bind fun y a2 => .ok ⟨"let", s, y.e, [p.1, .int (p.2 : Int), v.d, y.d]⟩ a2) (S.strW a, S.st a) (a + 1) else S.fail a := fun S V s => by funext a; rfl
  have loopE : ∀ (S : Src) (V : Nat → Rs Tn) (s : Nat), S.loopM V s = fun a => if S.isN a = true then ap2 (fun (p : D × Nat) b => (S.part V "=" b).bind fun f a1 => (S.part V "times" a1).bind fun c a2 => (S.part V "do" a2).bind fun q a3 => .ok ⟨"loop", s, q.e, [p.1, .int (p.2 : Int), f.d, c.d, q.d]⟩ a3) (S.strW a, S.st a) (a + 1) else S.fail a := fun S V s => by funext a; rfl
  have hlet : ∀ {M : Nat} (s : Nat), M ≤ N → Rg S S' m M (S.letM V s) (S'.letM V' s) := fun {M} s hM => by
    rw [letE, letE]
    refine rg_if P.tN (p := fun a => (S.strW a, S.st a)) (p' := fun a => (S'.strW a, S'.st a)) (fun a h => by show (_, _) = (_, _); rw [P.strW h, P.st h]) (fun h0 p => ?_) rg_fail
    exact Rg.bind (rg_part P (tW0 (by decide +kernel)) fun _ => hV.mono (by omega)) fun v => Rg.bind (rg_part P (tW0 (by decide +kernel)) fun _ => hV.mono (by omega)) fun y => rg_ok _
  have hif : ∀ {M : Nat} (s : Nat), M ≤ N → Rg S S' m M (S.ifM V s) (S'.ifM V' s) := fun {M} s hM =>
    Rg.bind (hV.mono hM) fun t => Rg.bind (rg_part P (tW0 (by decide +kernel)) fun _ => hV.mono (by omega)) fun y => Rg.bind (rg_part P (tW0 (by decide +kernel)) fun _ => hV.mono (by omega)) fun z => rg_ok _
  have hloop : ∀ {M : Nat} (s : Nat), M ≤ N → Rg S S' m M (S.loopM V s) (S'.loopM V' s) := fun {M} s hM => by
    rw [loopE, loopE]
    refine rg_if P.tN (p := fun a => (S.strW a, S.st a)) (p' := fun a => (S'.strW a, S'.st a)) (fun a h => by show (_, _) = (_, _); rw [P.strW h, P.st h]) (fun h0 p => ?_) rg_fail
    exact Rg.bind (rg_part P (tW0 (by decide +kernel)) fun _ => hV.mono (by omega)) fun v => Rg.bind (rg_part P (tW0 (by decide +kernel)) fun _ => hV.mono (by omega)) fun y => Rg.bind (rg_part P (tW0 (by decide +kernel)) fun _ => hV.mono (by omega)) fun z => rg_ok _
  have base : Rg S S' m N (fun a => if S.eqW a "let" = true then ap2 (fun (s : Nat) b => S.letM V s b) (S.st a) (a + 1) else (fun a => if S.eqW a "if" = true then ap2 (fun (s : Nat) b => S.ifM V s b) (S.st a) (a + 1) else (fun a => if S.eqW a "loop" = true then ap2 (fun (s : Nat) b => S.loopM V s b) (S.st a) (a + 1) else C a) a) a)
      (fun a => if S'.eqW a "let" = true then ap2 (fun (s : Nat) b => S'.letM V' s b) (S'.st a) (a + 1) else (fun a => if S'.eqW a "if" = true then ap2 (fun (s : Nat) b => S'.ifM V' s b) (S'.st a) (a + 1) else (fun a => if S'.eqW a "loop" = true then ap2 (fun (s : Nat) b => S'.loopM V' s b) (S'.st a) (a + 1) else C' a) a) a) := by
    refine rg_if (P.tW (tW0 (by decide +kernel))) (p := S.st) (p' := S'.st) (fun a h => P.st h) (fun _ s => hlet s (by omega)) ?_
    refine rg_if (P.tW (tW0 (by decide +kernel))) (p := S.st) (p' := S'.st) (fun a h => P.st h) (fun _ s => hif s (by omega)) ?_
    exact rg_if (P.tW (tW0 (by decide +kernel))) (p := S.st) (p' := S'.st) (fun a h => P.st h) (fun _ s => hloop s (by omega)) hC
  have eS : ∀ (S : Src) (V C : Nat → Rs Tn) (a : Nat), ¬ S.n ≤ a → S.valM V C d a = if S.eqW a "let" = true then ap2 (fun (s : Nat) b => S.letM V s b) (S.st a) (a + 1) else (fun a => if S.eqW a "if" = true then ap2 (fun (s : Nat) b => S.ifM V s b) (S.st a) (a + 1) else (fun a => if S.eqW a "loop" = true then ap2 (fun (s : Nat) b => S.loopM V s b) (S.st a) (a + 1) else C a) a) a := fun S V C a h => by
    unfold Src.valM
    rw [if_neg (fun e => e.elim hd h)] <;> rfl
  refine ⟨fun a ha hn => ?_, fun a ha hn => ?_, fun hn => ?_⟩
  · have := P.le
    rw [eS S V C a (by omega), eS S' V' C' a (by rw [P.n]; omega)]
    exact base.lt a ha hn
  · by_cases k : S.n ≤ a
    · unfold Src.valM
      rw [if_pos (.inr k)]
      exact ⟨a, Nat.le_refl _, .inr rfl⟩
    · rw [eS S V C a k]
      exact base.ge a ha hn
  · unfold Src.valM
    rw [if_pos (.inr (Nat.le_of_eq P.n))]
    exact .inr rfl
/-- all of the mirror -/
theorem rg_all (P : Pre S S' m) : ∀ b : Nat, (∀ d N, d ≤ 30 → 5 * (30 - d) + N + 10 ≤ b → Rg S S' m N (valB S b d) (valB S' b d)) ∧ (∀ d N, d ≤ 30 → 5 * (30 - d) + N + 13 ≤ b → Rg S S' m N (sgB S b d) (sgB S' b d)) ∧
    (∀ s d N, 1 ≤ s → d ≤ 30 → 5 * (30 - d) + N + 14 ≤ b → Rg S S' m N (chB S b s d) (chB S' b s d)) := by
  intro b
  induction b using Nat.strongRecOn with
  | ind b ih =>
    refine ⟨fun d N hd hb => ?_, fun d N hd hb => ?_, fun s d N hs hd hb => ?_⟩
    · have e : ∀ S, valB S b d = S.valM (valB S (b - 3) (d + 1)) (chB S (b - 1) 1 (d + 1)) d := fun S => by funext a; exact valB_s S (by omega)
      rw [e, e]
      exact rg_val P (fun h => (ih (b - 3) (by omega)).1 (d + 1) N (by omega) (by omega)) fun h => (ih (b - 1) (by omega)).2.2 1 (d + 1) N (Nat.le_refl _) (by omega) (by omega)
    · have e : ∀ S, sgB S b d = S.signM (sgB S (b - 1) (d + 1)) (valB S (b - 4) d) d := fun S => by funext a; exact sgB_s S (by omega)
      rw [e, e]
      exact rg_sign P (fun h => (ih (b - 4) (by omega)).1 d (N - 1) hd (by omega)) fun h h0 => (ih (b - 1) (by omega)).2.1 (d + 1) (N - 1) (by omega) (by omega)
    · have e : ∀ S, chB S b s d = S.chainM (chB S (b - 2) 3 (d + 1)) (sgB S (b - 1) d) (fun l c => chB S (b - 1) l d c) s d := fun S => by funext a; exact chB_s S (by omega)
      rw [e, e]
      exact rg_chain P hs (fun h h0 => (ih (b - 2) (by omega)).2.2 3 (d + 1) (N - 1) (by decide) (by omega) (by omega)) ((ih (b - 1) (by omega)).2.1 d N hd (by omega)) fun h0 l hl => (ih (b - 1) (by omega)).2.2 l d (N - 1) hl hd (by omega)
/-! ### items -/
end
end Sn

/-! Whatever the parser reads has groups where they are needed, and no more inner nodes than words that make them. -/
namespace Sn
open PySem PySem.Spec PyProof.Rows L2 TL
/-- words that make an inner node -/
def ops : List (List Nat) := [tl "or", tl "and", tl "==", tl "<", tl "+", tl "-", tl "*", tl "/", tl "not", tl "if", tl "let", tl "loop", tl ".", tl "("]
def opW (w : List Nat) : Bool := decide (w ∈ ops)
def lpR (r : Nat) : Nat := if r = 1 then 1 else if r = 2 then 2 else if r = 4 then 5 else if r = 5 then 5 else if r = 6 then 6 else 0
def rpR (r : Nat) : Nat := if r = 1 then 2 else if r = 2 then 3 else if r = 4 then 5 else if r = 5 then 6 else if r = 6 then 7 else 0
def opOf : List D → List Nat
  | .str x :: _ => tl x
  | _ => []
def Nd.grp : Nd → Bool
  | .nd tag _ _ _ _ _ _ => decide (tag = "group")
def Nd.rk : Nd → Nat
  | .nd tag _ _ _ pre _ _ => if tag = "binary" then Src.rank (opOf pre) else if tag = "let" ∨ tag = "if" ∨ tag = "loop" then 0 else if tag = "not" then 3 else if tag = "minus" then 7 else 8
theorem Nd.rk_nd {tag : Str} {call : Bool} {s e : Nat} {pre post : List D} {kids : Ns} : (Nd.nd tag call s e pre post kids).rk = if tag = "binary" then Src.rank (opOf pre) else if tag = "let" ∨ tag = "if" ∨ tag = "loop" then 0 else if tag = "not" then 3 else if tag = "minus" then 7 else 8 := rfl
/-- fit for a place of this rank -/
def Nd.hi (r : Nat) (n : Nd) : Prop := n.grp = true ∨ r ≤ n.rk
/-- the ranks of the places of the kids -/
def plc (tag : Str) (pre : List D) : List Nat :=
  if tag = "field" then [8] else if tag = "not" then [3] else if tag = "minus" then [7] else if tag = "binary" then [lpR (Src.rank (opOf pre)), rpR (Src.rank (opOf pre))] else []
def Ns.fit : List Nat → Ns → Prop
  | _, .nil => True
  | [], .cons _ _ => True
  | r :: rs, .cons h t => h.hi r ∧ t.fit rs
mutual
def Nd.wf : Nd → Prop
  | .nd tag _ _ _ pre _ kids => kids.fit (plc tag pre) ∧ kids.wf
def Ns.wf : Ns → Prop
  | .nil => True
  | .cons h t => h.wf ∧ t.wf
end
/-- inner nodes -/
def inn (tag : Str) : Nat := if tag = "number" ∨ tag = "truth" ∨ tag = "name" then 0 else 1
mutual
def Nd.int : Nd → Nat
  | .nd tag _ _ _ _ _ kids => inn tag + kids.int
def Ns.int : Ns → Nat
  | .nil => 0
  | .cons h t => h.int + t.int
end
theorem Nd.wf_nd {tag : Str} {call : Bool} {s e : Nat} {pre post : List D} {kids : Ns} : (Nd.nd tag call s e pre post kids).wf ↔ kids.fit (plc tag pre) ∧ kids.wf := by rw [Nd.wf]
theorem Nd.int_nd {tag : Str} {call : Bool} {s e : Nat} {pre post : List D} {kids : Ns} : (Nd.nd tag call s e pre post kids).int = inn tag + kids.int := by rw [Nd.int]
theorem Ns.wf_nil : Ns.nil.wf := by unfold Ns.wf; trivial
theorem Ns.wf_cons {h : Nd} {t : Ns} : (Ns.cons h t).wf ↔ h.wf ∧ t.wf := by rw [Ns.wf]
theorem Ns.int_nil : Ns.nil.int = 0 := by rw [Ns.int]
theorem Ns.int_cons {h : Nd} {t : Ns} : (Ns.cons h t).int = h.int + t.int := by rw [Ns.int]
theorem Ns.wf_snoc {n : Nd} (hn : n.wf) : ∀ {ns : Ns}, ns.wf → (ns.snoc n).wf
  | .nil, _ => Ns.wf_cons.mpr ⟨hn, Ns.wf_nil⟩
  | .cons h t, k => Ns.wf_cons.mpr ⟨(Ns.wf_cons.mp k).1, Ns.wf_snoc hn (Ns.wf_cons.mp k).2⟩
theorem Ns.int_snoc (n : Nd) : ∀ ns : Ns, (ns.snoc n).int = ns.int + n.int
  | .nil => by
    show (Ns.cons n .nil).int = _
    rw [Ns.int_cons, Ns.int_nil]
    omega
  | .cons h t => by
    show (Ns.cons h (t.snoc n)).int = _
    rw [Ns.int_cons, Ns.int_snoc n t, Ns.int_cons]
    omega
namespace Src
variable (S : Src)
/-- how many of the first a words make inner nodes -/
def pc : Nat → Nat
  | 0 => 0
  | a + 1 => pc a + if opW (S.wd a) = true then 1 else 0
end Src
section
variable {S : Src}
theorem pc_le (a : Nat) : S.pc a ≤ S.pc (a + 1) := Nat.le_add_right _ _
theorem pc_mono {a b : Nat} (h : a ≤ b) : S.pc a ≤ S.pc b := by
  induction h with
  | refl => exact Nat.le_refl _
  | step _ ih => exact Nat.le_trans ih (pc_le _)
theorem pc_op {a : Nat} {w : Str} (h : S.eqW a w = true) (hw : opW (tl w) = true) : S.pc (a + 1) = S.pc a + 1 := by
  have e : S.wd a = tl w := of_decide_eq_true h
  show S.pc a + (if opW (S.wd a) = true then 1 else 0) = _
  rw [e, if_pos hw]
/-- a reading from a to b that gives such a tree -/
def Gd (S : Src) (r a : Nat) (t : Tn) (b : Nat) : Prop := a < b ∧ ∃ n : Nd, n.t = t ∧ n.ok ∧ n.wf ∧ n.int + S.pc a ≤ S.pc b ∧ n.hi r
def Good (S : Src) (r : Nat) (R : Nat → Rs Tn) : Prop := ∀ a t b, R a = .ok t b → Gd S r a t b
theorem bind_ok {α β : Type} {r : Rs α} {f : α → Nat → Rs β} {x : β} {b : Nat} (h : r.bind f = .ok x b) : ∃ y c, r = .ok y c ∧ f y c = .ok x b := by
  cases r with
  | ok y c => exact ⟨y, c, rfl, h⟩
  | no s e => cases h
  | un => cases h
theorem fail_no {α : Type} {a b : Nat} {x : α} (h : (S.fail a : Rs α) = .ok x b) : False := by cases h
theorem Good.un {r : Nat} : Good S r fun _ => .un := fun _ _ _ h => by cases h
theorem Gd.le {r q a b : Nat} {t : Tn} (h : q ≤ r) : Gd S r a t b → Gd S q a t b := fun ⟨l, n, h1, h2, h3, h4, h5⟩ => ⟨l, n, h1, h2, h3, h4, h5.imp id (Nat.le_trans h)⟩
theorem Good.le {r q : Nat} {R : Nat → Rs Tn} (h : q ≤ r) (g : Good S r R) : Good S q R := fun a t b e => (g a t b e).le h
theorem part_ok {r : Nat} {V : Nat → Rs Tn} (g : Good S r V) {w : Str} {a b : Nat} {t : Tn} (h : S.part V w a = .ok t b) : S.eqW a w = true ∧ Gd S r (a + 1) t b := by
  unfold Src.part at h
  by_cases c : S.eqW a w = true
  · rw [if_pos c] at h
    exact ⟨c, g _ _ _ h⟩
  · rw [if_neg c] at h
    exact (fail_no h).elim
def nk1 (a : Nd) : Ns := .cons a .nil
def nk2 (a b : Nd) : Ns := .cons a (.cons b .nil)
def nk3 (a b c : Nd) : Ns := .cons a (.cons b (.cons c .nil))
theorem nk1_all (a : Nd) : (nk1 a).ds = [a.t.d] ∧ (nk1 a).int = a.int ∧ (a.ok → (nk1 a).ok) ∧ (a.wf → (nk1 a).wf) := by
  unfold nk1
  refine ⟨by rw [Ns.ds_cons, Ns.ds_nil], by rw [Ns.int_cons, Ns.int_nil]; omega, fun h => Ns.ok_cons.mpr ⟨h, Ns.ok_nil⟩, fun h => Ns.wf_cons.mpr ⟨h, Ns.wf_nil⟩⟩
theorem nk2_all (a b : Nd) : (nk2 a b).ds = [a.t.d, b.t.d] ∧ (nk2 a b).int = a.int + b.int ∧ (a.ok → b.ok → (nk2 a b).ok) ∧ (a.wf → b.wf → (nk2 a b).wf) := by
  unfold nk2
  obtain ⟨h1, h2, h3, h4⟩ := nk1_all b
  unfold nk1 at h1 h2 h3 h4
  exact ⟨by rw [Ns.ds_cons, h1], by rw [Ns.int_cons, h2], fun h g => Ns.ok_cons.mpr ⟨h, h3 g⟩, fun h g => Ns.wf_cons.mpr ⟨h, h4 g⟩⟩
theorem nk3_all (a b c : Nd) : (nk3 a b c).ds = [a.t.d, b.t.d, c.t.d] ∧ (nk3 a b c).int = a.int + b.int + c.int ∧ (a.ok → b.ok → c.ok → (nk3 a b c).ok) ∧ (a.wf → b.wf → c.wf → (nk3 a b c).wf) := by
  unfold nk3
  obtain ⟨h1, h2, h3, h4⟩ := nk2_all b c
  unfold nk2 at h1 h2 h3 h4
  exact ⟨by rw [Ns.ds_cons, h1], by rw [Ns.int_cons, h2]; omega, fun h g k => Ns.ok_cons.mpr ⟨h, h3 g k⟩, fun h g k => Ns.wf_cons.mpr ⟨h, h4 g k⟩⟩
theorem nd_t {tag : Str} {s e : Nat} {pre post : List D} {kids : Ns} : (Nd.nd tag false s e pre post kids).t = ⟨tag, s, e, pre ++ (kids.ds ++ post)⟩ := by
  rw [Nd.t_nd]
  rfl
theorem i_let {V : Nat → Rs Tn} (g : Good S 0 V) {a b : Nat} {t : Tn} (hw : S.eqW a "let" = true) (h : S.letM V (S.st a) (a + 1) = .ok t b) : Gd S 0 a t b := by
  unfold Src.letM at h
  by_cases c : S.isN (a + 1) = true
  rotate_left
  · rw [if_neg c] at h
    exact (fail_no h).elim
  rw [if_pos c] at h
  obtain ⟨v, a1, h1, h⟩ := bind_ok h
  obtain ⟨y, a2, h2, h⟩ := bind_ok h
  obtain ⟨_, l1, n1, t1, o1, w1, i1, _⟩ := part_ok g h1
  obtain ⟨_, l2, n2, t2, o2, w2, i2, _⟩ := part_ok g h2
  cases h
  obtain ⟨k1, k2, k3, k4⟩ := nk2_all n1 n2
  have e1 := pc_op hw (by decide +kernel)
  have e2 := pc_le (S := S) (a + 1)
  have e3 := pc_le (S := S) (a + 1 + 1)
  have e4 := pc_le (S := S) a1
  refine ⟨by omega, .nd "let" false (S.st a) y.e [S.strW (a + 1), .int (S.st (a + 1) : Int)] [] (nk2 n1 n2), by rw [nd_t, k1, t1, t2]; rfl, Nd.ok_nd.mpr ⟨.inr (.inr (.inr (.inr (.inr (.inr (.inr (.inr (.inr (.inr (.inl ⟨rfl, rfl, ⟨_, _, rfl⟩, rfl, rfl⟩)))))))))), k3 o1 o2⟩, Nd.wf_nd.mpr ⟨trivial, k4 w1 w2⟩, ?_, .inr (Nat.zero_le _)⟩
  rw [Nd.int_nd, k2]
  show 1 + (n1.int + n2.int) + _ ≤ _
  omega
theorem i_if {V : Nat → Rs Tn} (g : Good S 0 V) {a b : Nat} {t : Tn} (hw : S.eqW a "if" = true) (h : S.ifM V (S.st a) (a + 1) = .ok t b) : Gd S 0 a t b := by
  unfold Src.ifM at h
  obtain ⟨v, a1, h1, h⟩ := bind_ok h
  obtain ⟨y, a2, h2, h⟩ := bind_ok h
  obtain ⟨z, a3, h3, h⟩ := bind_ok h
  obtain ⟨l1, n1, t1, o1, w1, i1, _⟩ := g _ _ _ h1
  obtain ⟨_, l2, n2, t2, o2, w2, i2, _⟩ := part_ok g h2
  obtain ⟨_, l3, n3, t3, o3, w3, i3, _⟩ := part_ok g h3
  cases h
  obtain ⟨k1, k2, k3, k4⟩ := nk3_all n1 n2 n3
  have e1 := pc_op hw (by decide +kernel)
  have e4 := pc_le (S := S) a1
  have e5 := pc_le (S := S) a2
  refine ⟨by omega, .nd "if" false (S.st a) z.e [] [] (nk3 n1 n2 n3), by rw [nd_t, k1, t1, t2, t3]; rfl, Nd.ok_nd.mpr ⟨.inr (.inr (.inr (.inr (.inr (.inr (.inr (.inr (.inr (.inl ⟨rfl, rfl, rfl, rfl, rfl⟩))))))))), k3 o1 o2 o3⟩, Nd.wf_nd.mpr ⟨trivial, k4 w1 w2 w3⟩, ?_, .inr (Nat.zero_le _)⟩
  rw [Nd.int_nd, k2]
  show 1 + (n1.int + n2.int + n3.int) + _ ≤ _
  omega
theorem i_loop {V : Nat → Rs Tn} (g : Good S 0 V) {a b : Nat} {t : Tn} (hw : S.eqW a "loop" = true) (h : S.loopM V (S.st a) (a + 1) = .ok t b) : Gd S 0 a t b := by
  unfold Src.loopM at h
  by_cases c : S.isN (a + 1) = true
  rotate_left
  · rw [if_neg c] at h
    exact (fail_no h).elim
  rw [if_pos c] at h
  obtain ⟨v, a1, h1, h⟩ := bind_ok h
  obtain ⟨y, a2, h2, h⟩ := bind_ok h
  obtain ⟨z, a3, h3, h⟩ := bind_ok h
  obtain ⟨_, l1, n1, t1, o1, w1, i1, _⟩ := part_ok g h1
  obtain ⟨_, l2, n2, t2, o2, w2, i2, _⟩ := part_ok g h2
  obtain ⟨_, l3, n3, t3, o3, w3, i3, _⟩ := part_ok g h3
  cases h
  obtain ⟨k1, k2, k3, k4⟩ := nk3_all n1 n2 n3
  have e1 := pc_op hw (by decide +kernel)
  have e2 := pc_le (S := S) (a + 1)
  have e3 := pc_le (S := S) (a + 1 + 1)
  have e4 := pc_le (S := S) a1
  have e5 := pc_le (S := S) a2
  refine ⟨by omega, .nd "loop" false (S.st a) z.e [S.strW (a + 1), .int (S.st (a + 1) : Int)] [] (nk3 n1 n2 n3), by rw [nd_t, k1, t1, t2, t3]; rfl, Nd.ok_nd.mpr ⟨.inr (.inr (.inr (.inr (.inr (.inr (.inr (.inr (.inr (.inr (.inr ⟨rfl, rfl, ⟨_, _, rfl⟩, rfl, rfl⟩)))))))))), k3 o1 o2 o3⟩, Nd.wf_nd.mpr ⟨trivial, k4 w1 w2 w3⟩, ?_, .inr (Nat.zero_le _)⟩
  rw [Nd.int_nd, k2]
  show 1 + (n1.int + n2.int + n3.int) + _ ≤ _
  omega
/-- what a place of rank 8 takes -/
theorem i_args {V : Nat → Rs Tn} (g : Good S 0 V) (s0 : Nat) (nm : Str) : ∀ (m a : Nat) (acc : Ns) (t : Tn) (b : Nat), S.n + 1 - a ≤ m → acc.ok → acc.wf → S.argsM V s0 (.str nm) acc.ds a = .ok t b →
    a < b ∧ ∃ ns : Ns, t = ⟨"call", s0, t.e, [.str nm, .tup (ofL ns.ds)]⟩ ∧ ns.ok ∧ ns.wf ∧ ns.int + S.pc a ≤ acc.int + S.pc b
  | 0, a, acc, t, b, hm, ho, hw, h => by
    have ha : S.n ≤ a := by omega
    rw [Src.argsM] at h
    rw [if_neg (by rw [eqW_none ha (by decide +kernel)]; decide), if_neg (by rw [eqW_none ha (by decide +kernel)]; decide)] at h
    exact (fail_no h).elim
  | m + 1, a, acc, t, b, hm, ho, hw, h => by
    rw [Src.argsM] at h
    by_cases c : S.eqW a "," = true
    · rw [if_pos c] at h
      cases hv : V (a + 1) with
      | ok x a' =>
        rw [hv] at h
        by_cases k : a < a' ∧ a < S.n
        · have h : (if h : a < a' ∧ a < S.n then S.argsM V s0 (.str nm) (acc.ds ++ [x.d]) a' else .un) = .ok t b := h
          rw [dif_pos k] at h
          obtain ⟨l1, n1, t1, o1, w1, i1, _⟩ := g _ _ _ hv
          have e : acc.ds ++ [x.d] = (acc.snoc n1).ds := by
            rw [Ns.ds_ts, Ns.ds_ts, Ns.snoc_ts, List.map_append, t1]
            rfl
          rw [e] at h
          obtain ⟨l2, ns, e1, e2, e3, e4⟩ := i_args g s0 nm m a' _ t b (by omega) (Ns.snoc_ok o1 ho) (Ns.wf_snoc w1 hw) h
          rw [Ns.int_snoc] at e4
          have e5 := pc_le (S := S) a
          exact ⟨by omega, ns, e1, e2, e3, by omega⟩
        · have h : (if h : a < a' ∧ a < S.n then S.argsM V s0 (.str nm) (acc.ds ++ [x.d]) a' else .un) = .ok t b := h
          rw [dif_neg k] at h
          cases h
      | no s e =>
        rw [hv] at h
        cases h
      | un =>
        rw [hv] at h
        cases h
    · rw [if_neg c] at h
      by_cases c2 : S.eqW a ")" = true
      · rw [if_pos c2] at h
        cases h
        exact ⟨Nat.lt_succ_self a, acc, rfl, ho, hw, by have := pc_le (S := S) a; omega⟩
      · rw [if_neg c2] at h
        exact (fail_no h).elim
theorem call_nd {s e : Nat} {x : Str} {ns : Ns} : (Nd.nd "call" true s e [.str x] [] ns).t = ⟨"call", s, e, [.str x, .tup (ofL ns.ds)]⟩ := by rw [Nd.t_nd]; rfl
theorem call_ok {s e : Nat} {x : Str} {ns : Ns} (h : ns.ok) : (Nd.nd "call" true s e [.str x] [] ns).ok := Nd.ok_nd.mpr ⟨.inr (.inr (.inr (.inl ⟨rfl, rfl, ⟨_, rfl⟩, rfl⟩))), h⟩
theorem call_wf {s e : Nat} {x : Str} {ns : Ns} (h : ns.wf) : (Nd.nd "call" true s e [.str x] [] ns).wf := by
  refine Nd.wf_nd.mpr ⟨?_, h⟩
  cases ns with
  | nil => trivial
  | cons _ _ => trivial
theorem i_named {V : Nat → Rs Tn} (g : Good S 0 V) {a b : Nat} {t : Tn} (h : S.namedM V a = .ok t b) : Gd S 8 a t b := by
  unfold Src.namedM at h
  by_cases c : S.isN a = true
  rotate_left
  · rw [if_neg c] at h
    exact (fail_no h).elim
  rw [if_pos c] at h
  have e0 := pc_le (S := S) a
  have e1 := pc_le (S := S) (a + 1)
  have e2 := pc_le (S := S) (a + 1 + 1)
  by_cases c1 : S.eqW (a + 1) "(" = true
  · rw [if_pos c1] at h
    have p1 := pc_op c1 (by decide +kernel)
    by_cases c2 : S.eqW (a + 2) ")" = true
    · rw [if_pos c2] at h
      cases h
      refine ⟨by omega, .nd "call" true (S.st a) (S.en (a + 2)) [.str (strL (S.wd a))] [] .nil, by rw [call_nd, Ns.ds_nil]; rfl, call_ok Ns.ok_nil, call_wf Ns.wf_nil, ?_, .inr (Nat.le_refl _)⟩
      rw [Nd.int_nd, Ns.int_nil]
      show 1 + 0 + _ ≤ S.pc (a + 1 + 1 + 1)
      omega
    · rw [if_neg c2] at h
      obtain ⟨v, a1, h1, h⟩ := bind_ok h
      obtain ⟨l1, n1, t1, o1, w1, i1, _⟩ := g _ _ _ h1
      obtain ⟨k1, k2, k3, k4⟩ := nk1_all n1
      have ed : [v.d] = (nk1 n1).ds := by rw [k1, t1]
      have h : S.argsM V (S.st a) (.str (strL (S.wd a))) [v.d] a1 = .ok t b := h
      rw [ed] at h
      obtain ⟨l2, ns, f1, f2, f3, f4⟩ := i_args g (S.st a) (strL (S.wd a)) (S.n + 1 - a1) a1 _ t b (Nat.le_refl _) (k3 o1) (k4 w1) h
      rw [k2] at f4
      refine ⟨by omega, .nd "call" true (S.st a) t.e [.str (strL (S.wd a))] [] ns, by rw [call_nd]; exact f1.symm, call_ok f2, call_wf f3, ?_, .inr (Nat.le_refl _)⟩
      rw [Nd.int_nd]
      show 1 + _ + _ ≤ _
      have i1 : n1.int + S.pc (a + 1 + 1) ≤ S.pc a1 := i1
      omega
  · rw [if_neg c1] at h
    cases h
    refine ⟨by omega, .nd "name" false (S.st a) (S.en a) [.str (strL (S.wd a))] [] .nil, by rw [nd_t, Ns.ds_nil]; rfl, Nd.ok_nd.mpr ⟨.inr (.inr (.inl ⟨rfl, rfl, ⟨_, rfl⟩, rfl, rfl⟩)), Ns.ok_nil⟩, Nd.wf_nd.mpr ⟨trivial, Ns.wf_nil⟩, ?_, .inr (Nat.le_refl _)⟩
    rw [Nd.int_nd, Ns.int_nil]
    show 0 + 0 + _ ≤ _
    omega
theorem i_simp {V : Nat → Rs Tn} (g : Good S 0 V) {a b : Nat} {t : Tn} (h : S.simpM V a = .ok t b) : Gd S 8 a t b := by
  unfold Src.simpM at h
  have e0 := pc_le (S := S) a
  by_cases c : S.isN a = true
  · rw [if_pos c] at h
    exact i_named g h
  rw [if_neg c] at h
  by_cases c1 : decide (S.so a = Src.number) = true
  · rw [if_pos c1] at h
    cases h
    refine ⟨by omega, .nd "number" false (S.st a) (S.en a) [.int (Src.numv (S.wd a))] [] .nil, by rw [nd_t, Ns.ds_nil]; rfl, Nd.ok_nd.mpr ⟨.inl ⟨rfl, rfl, ⟨_, rfl⟩, rfl, rfl⟩, Ns.ok_nil⟩, Nd.wf_nd.mpr ⟨trivial, Ns.wf_nil⟩, ?_, .inr (Nat.le_refl _)⟩
    rw [Nd.int_nd, Ns.int_nil]
    show 0 + 0 + _ ≤ _
    omega
  rw [if_neg c1] at h
  by_cases c2 : S.eqW a "(" = true
  · rw [if_pos c2] at h
    obtain ⟨v, a1, h1, h⟩ := bind_ok h
    obtain ⟨l1, n1, t1, o1, w1, i1, _⟩ := g _ _ _ h1
    by_cases c3 : S.eqW a1 ")" = true
    rotate_left
    · rw [if_neg c3] at h
      exact (fail_no h).elim
    rw [if_pos c3] at h
    cases h
    obtain ⟨k1, k2, k3, k4⟩ := nk1_all n1
    have p1 := pc_op c2 (by decide +kernel)
    have e1 := pc_le (S := S) a1
    refine ⟨by omega, .nd "group" false (S.st a) (S.en a1) [] [] (nk1 n1), by rw [nd_t, k1, t1]; rfl, Nd.ok_nd.mpr ⟨.inr (.inr (.inr (.inr (.inr (.inl ⟨rfl, rfl, rfl, rfl, rfl⟩))))), k3 o1⟩, Nd.wf_nd.mpr ⟨trivial, k4 w1⟩, ?_, .inl rfl⟩
    rw [Nd.int_nd, k2]
    show 1 + _ + _ ≤ _
    omega
  rw [if_neg c2] at h
  by_cases c3 : (S.eqW a "True" || S.eqW a "False") = true
  · rw [if_pos c3] at h
    cases h
    refine ⟨by omega, .nd "truth" false (S.st a) (S.en a) [.bl (S.eqW a "True")] [] .nil, by rw [nd_t, Ns.ds_nil]; rfl, Nd.ok_nd.mpr ⟨.inr (.inl ⟨rfl, rfl, ⟨_, rfl⟩, rfl, rfl⟩), Ns.ok_nil⟩, Nd.wf_nd.mpr ⟨trivial, Ns.wf_nil⟩, ?_, .inr (Nat.le_refl _)⟩
    rw [Nd.int_nd, Ns.int_nil]
    show 0 + 0 + _ ≤ _
    omega
  · rw [if_neg c3] at h
    exact (fail_no h).elim
theorem i_dots : ∀ (m a : Nat) (n : Nd) (t : Tn) (b : Nat), S.n + 1 - a ≤ m → n.ok → n.wf → n.hi 8 → S.dotsM n.t a = .ok t b → a ≤ b ∧ ∃ n' : Nd, n'.t = t ∧ n'.ok ∧ n'.wf ∧ n'.int + S.pc a ≤ n.int + S.pc b ∧ n'.hi 8
  | 0, a, n, t, b, hm, ho, hw, hh, h => by
    rw [Src.dotsM, if_neg (by rw [eqW_none (by omega) (by decide +kernel)]; decide)] at h
    cases h
    exact ⟨Nat.le_refl _, n, rfl, ho, hw, Nat.le_refl _, hh⟩
  | m + 1, a, n, t, b, hm, ho, hw, hh, h => by
    rw [Src.dotsM] at h
    by_cases c : S.eqW a "." = true
    rotate_left
    · rw [if_neg c] at h
      cases h
      exact ⟨Nat.le_refl _, n, rfl, ho, hw, Nat.le_refl _, hh⟩
    rw [if_pos c] at h
    by_cases c1 : S.isN (a + 1) = true
    rotate_left
    · rw [if_neg c1] at h
      exact (fail_no h).elim
    rw [if_pos c1] at h
    by_cases k : a < S.n
    rotate_left
    · rw [dif_neg k] at h
      cases h
    rw [dif_pos k] at h
    obtain ⟨k1, k2, k3, k4⟩ := nk1_all n
    have et : (⟨"field", n.t.s, S.st (a + 1) + (S.wd (a + 1)).length, [n.t.d, S.strW (a + 1)]⟩ : Tn) = (Nd.nd "field" false n.t.s (S.st (a + 1) + (S.wd (a + 1)).length) [] [S.strW (a + 1)] (nk1 n)).t := by rw [nd_t, k1]; rfl
    rw [et] at h
    have p1 := pc_op c (by decide +kernel)
    have e1 := pc_le (S := S) (a + 1)
    obtain ⟨l2, n', f1, f2, f3, f4, f5⟩ := i_dots m (a + 2) _ t b (by omega) (Nd.ok_nd.mpr ⟨.inr (.inr (.inr (.inr (.inl ⟨rfl, rfl, rfl, ⟨_, rfl⟩, rfl⟩)))), k3 ho⟩) (Nd.wf_nd.mpr ⟨⟨hh, trivial⟩, k4 hw⟩) (.inr (Nat.le_refl _)) h
    rw [Nd.int_nd, k2] at f4
    have f4 : n'.int + S.pc (a + 1 + 1) ≤ 1 + n.int + S.pc b := f4
    exact ⟨by omega, n', f1, f2, f3, by omega, f5⟩
theorem i_reach {V : Nat → Rs Tn} (g : Good S 0 V) {a b : Nat} {t : Tn} (h : S.reachM V a = .ok t b) : Gd S 8 a t b := by
  unfold Src.reachM at h
  obtain ⟨v, a1, h1, h⟩ := bind_ok h
  obtain ⟨l1, n1, t1, o1, w1, i1, h8⟩ := i_simp g h1
  rw [← t1] at h
  obtain ⟨l2, n', f1, f2, f3, f4, f5⟩ := i_dots (S.n + 1 - a1) a1 n1 t b (Nat.le_refl _) o1 w1 h8 h
  exact ⟨by omega, n', f1, f2, f3, by omega, f5⟩
theorem i_sign {V G : Nat → Rs Tn} {d : Nat} (g : Good S 0 V) (gg : Good S 7 G) : Good S 7 (S.signM G V d) := fun a t b h => by
  unfold Src.signM at h
  by_cases c : S.eqW a "-" = true
  rotate_left
  · rw [if_neg c] at h
    exact (i_reach g h).le (by decide)
  rw [if_pos c] at h
  by_cases c1 : d = 30
  · rw [if_pos c1] at h
    exact (fail_no h).elim
  rw [if_neg c1] at h
  obtain ⟨v, a1, h1, h⟩ := bind_ok h
  obtain ⟨l1, n1, t1, o1, w1, i1, h7⟩ := gg _ _ _ h1
  cases h
  obtain ⟨k1, k2, k3, k4⟩ := nk1_all n1
  have p1 := pc_op c (by decide +kernel)
  refine ⟨by omega, .nd "minus" false (S.st a) v.e [] [] (nk1 n1), by rw [nd_t, k1, t1]; rfl, Nd.ok_nd.mpr ⟨.inr (.inr (.inr (.inr (.inr (.inr (.inr (.inl ⟨rfl, rfl, rfl, rfl, rfl⟩))))))), k3 o1⟩, Nd.wf_nd.mpr ⟨⟨h7, trivial⟩, k4 w1⟩, ?_, .inr (Nat.le_refl _)⟩
  rw [Nd.int_nd, k2]
  show 1 + _ + _ ≤ _
  omega
/-- what may be the left part of a sign of at most this rank -/
def LOk (most : Nat) (n : Nd) : Prop := ∀ r, 1 ≤ r → r ≤ most → r ≤ 6 → r ≠ 3 → n.hi (lpR r)
theorem lpR_le {r : Nat} : lpR r ≤ 6 := by
  unfold lpR
  repeat (first | (split <;> first | omega | skip))
theorem rank_ne3 (l : List Nat) : Src.rank l ≠ 3 := by
  unfold Src.rank
  repeat (first | (split <;> first | omega | skip))
theorem LOk.of7 {most : Nat} {n : Nd} (h : n.hi 7) : LOk most n := fun r _ _ _ _ => h.imp id (Nat.le_trans (Nat.le_trans lpR_le (by decide)))
theorem rank_op {w : List Nat} (h : 1 ≤ Src.rank w) : opW w = true := by
  unfold Src.rank at h
  unfold opW ops
  refine decide_eq_true ?_
  repeat (first | (split at h <;> first | (rename_i e; subst e; simp; done) | skip))
  omega
theorem tl_strL' (l : List Nat) : tl (strL l) = l := rfl
theorem i_go {R : Nat → Nat → Rs Tn} (g : ∀ l, 1 ≤ l → l ≤ 7 → Good S l (R l)) {least : Nat} (hl : 1 ≤ least) : ∀ (m : Nat) (most a : Nat) (n : Nd) (t : Tn) (b : Nat), S.n + 1 - a ≤ m → n.ok → n.wf → LOk most n → n.hi least → S.goM R least most n.t a = .ok t b →
    a ≤ b ∧ ∃ n' : Nd, n'.t = t ∧ n'.ok ∧ n'.wf ∧ n'.int + S.pc a ≤ n.int + S.pc b ∧ n'.hi least
  | 0, most, a, n, t, b, hm, ho, hw, hL, hh, h => by
    have h0 : Src.rank (S.wd a) = 0 := by rw [wd_none (by omega)]; decide +kernel
    rw [Src.goM, if_neg (by rw [h0]; omega)] at h
    cases h
    exact ⟨Nat.le_refl _, n, rfl, ho, hw, Nat.le_refl _, hh⟩
  | m + 1, most, a, n, t, b, hm, ho, hw, hL, hh, h => by
    rw [Src.goM] at h
    by_cases c : least ≤ Src.rank (S.wd a) ∧ Src.rank (S.wd a) ≤ most
    rotate_left
    · rw [if_neg c] at h
      cases h
      exact ⟨Nat.le_refl _, n, rfl, ho, hw, Nat.le_refl _, hh⟩
    rw [if_pos c] at h
    have r6 := rank_le6 (S.wd a)
    have r3 := rank_ne3 (S.wd a)
    cases hr : R (Src.rank (S.wd a) + 1) (a + 1) with
    | no s e =>
      rw [hr] at h
      cases h
    | un =>
      rw [hr] at h
      cases h
    | ok x a' =>
      rw [hr] at h
      have h : (if h : a < a' ∧ a < S.n then S.goM R least (Src.topR (Src.rank (S.wd a))) (Src.binT n.t x (S.wd a)) a' else .un) = .ok t b := h
      by_cases k : a < a' ∧ a < S.n
      rotate_left
      · rw [dif_neg k] at h
        cases h
      rw [dif_pos k] at h
      obtain ⟨l1, n1, t1, o1, w1, i1, h1⟩ := g _ (by omega) (by omega) _ _ _ hr
      obtain ⟨k1, k2, k3, k4⟩ := nk2_all n n1
      have et : Src.binT n.t x (S.wd a) = (Nd.nd "binary" false n.t.s x.e [.str (strL (S.wd a))] [] (nk2 n n1)).t := by
        rw [nd_t, k1, t1]
        rfl
      rw [et] at h
      have ro := rank_op (show 1 ≤ Src.rank (S.wd a) by omega)
      have p1 : S.pc (a + 1) = S.pc a + 1 := by
        show S.pc a + (if opW (S.wd a) = true then 1 else 0) = _
        rw [ro, if_pos rfl]
      have hro : Src.rank (opOf [D.str (strL (S.wd a))]) = Src.rank (S.wd a) := rfl
      have rk : (Nd.nd "binary" false n.t.s x.e [.str (strL (S.wd a))] [] (nk2 n n1)).rk = Src.rank (S.wd a) := by
        rw [Nd.rk_nd, if_pos rfl]
        rfl
      have rp : rpR (Src.rank (S.wd a)) ≤ Src.rank (S.wd a) + 1 := by
        unfold rpR
        repeat (first | (split <;> first | omega | skip))
      have pl : plc "binary" [.str (strL (S.wd a))] = [lpR (Src.rank (S.wd a)), rpR (Src.rank (S.wd a))] := by
        unfold plc
        rw [if_neg (by decide +kernel), if_neg (by decide +kernel), if_neg (by decide +kernel), if_pos rfl]
        rfl
      have oks : PyData.strOk (strL (S.wd a)) = true := by
        have hm : S.wd a ∈ ops := of_decide_eq_true ro
        have hall : ops.all (fun w => PyData.strOk (strL w)) = true := by decide +kernel
        exact List.all_eq_true.mp hall _ hm
      obtain ⟨l2, n', f1, f2, f3, f4, f5⟩ := i_go g hl m (Src.topR (Src.rank (S.wd a))) a' _ t b (by omega)
        (Nd.ok_nd.mpr ⟨.inr (.inr (.inr (.inr (.inr (.inr (.inr (.inr (.inl ⟨rfl, rfl, ⟨_, rfl, oks⟩, rfl, rfl⟩)))))))), k3 ho o1⟩)
        (Nd.wf_nd.mpr ⟨by rw [pl]; exact ⟨hL _ (by omega) c.2 r6 r3, h1.imp id (Nat.le_trans rp), trivial⟩, k4 hw w1⟩)
        (fun r q1 q2 q3 q4 => .inr (by
          rw [rk]
          unfold Src.topR at q2
          split at q2
          · rename_i e4
            rw [e4]
            unfold lpR
            repeat (first | (split <;> first | omega | skip))
          · unfold lpR
            repeat (first | (split <;> first | omega | skip))))
        (.inr (by rw [rk]; exact c.1)) h
      rw [Nd.int_nd, k2] at f4
      have f4 : n'.int + S.pc a' ≤ 1 + (n.int + n1.int) + S.pc b := f4
      exact ⟨by omega, n', f1, f2, f3, by omega, f5⟩
theorem i_chain {N G : Nat → Rs Tn} {R : Nat → Nat → Rs Tn} {d least : Nat} (hN : Good S 3 N) (hG : Good S 7 G) (hR : ∀ l, 1 ≤ l → l ≤ 7 → Good S l (R l)) (h1 : 1 ≤ least) (h7 : least ≤ 7) : Good S least (S.chainM N G R least d) := fun a t b h => by
  unfold Src.chainM at h
  by_cases c : S.eqW a "not" = true ∧ least ≤ 3
  · rw [if_pos c] at h
    by_cases c1 : d = 30
    · rw [if_pos c1] at h
      exact (fail_no h).elim
    rw [if_neg c1] at h
    obtain ⟨v, a1, h2, h⟩ := bind_ok h
    obtain ⟨l1, n1, t1, o1, w1, i1, h3⟩ := hN _ _ _ h2
    obtain ⟨k1, k2, k3, k4⟩ := nk1_all n1
    have et : (⟨"not", S.st a, v.e, [v.d]⟩ : Tn) = (Nd.nd "not" false (S.st a) v.e [] [] (nk1 n1)).t := by rw [nd_t, k1, t1]; rfl
    rw [et] at h
    have p1 := pc_op c.1 (by decide +kernel)
    have rk : (Nd.nd "not" false (S.st a) v.e [] [] (nk1 n1)).rk = 3 := rfl
    obtain ⟨l2, n', f1, f2, f3, f4, f5⟩ := i_go hR h1 (S.n + 1 - a1) 3 a1 _ t b (Nat.le_refl _) (Nd.ok_nd.mpr ⟨.inr (.inr (.inr (.inr (.inr (.inr (.inl ⟨rfl, rfl, rfl, rfl, rfl⟩)))))), k3 o1⟩) (Nd.wf_nd.mpr ⟨⟨h3, trivial⟩, k4 w1⟩)
      (fun r q1 q2 q3 q4 => .inr (by
        rw [rk]
        unfold lpR
        repeat (first | (split <;> first | omega | skip)))) (.inr (by rw [rk]; exact c.2)) h
    rw [Nd.int_nd, k2] at f4
    have f4 : n'.int + S.pc a1 ≤ 1 + n1.int + S.pc b := f4
    exact ⟨by omega, n', f1, f2, f3, by omega, f5⟩
  · rw [if_neg c] at h
    obtain ⟨v, a1, h2, h⟩ := bind_ok h
    obtain ⟨l1, n1, t1, o1, w1, i1, h3⟩ := hG _ _ _ h2
    rw [← t1] at h
    obtain ⟨l2, n', f1, f2, f3, f4, f5⟩ := i_go hR h1 (S.n + 1 - a1) 6 a1 n1 t b (Nat.le_refl _) o1 w1 (LOk.of7 h3) (h3.imp id (Nat.le_trans h7)) h
    exact ⟨by omega, n', f1, f2, f3, by omega, f5⟩
theorem i_val {V C : Nat → Rs Tn} {d : Nat} (hV : Good S 0 V) (hC : Good S 1 C) : Good S 0 (S.valM V C d) := fun a t b h => by
  unfold Src.valM at h
  by_cases c0 : d = 30 ∨ S.n ≤ a
  · rw [if_pos c0] at h
    exact (fail_no h).elim
  rw [if_neg c0] at h
  by_cases c1 : S.eqW a "let" = true
  · rw [if_pos c1] at h
    exact i_let hV c1 h
  rw [if_neg c1] at h
  by_cases c2 : S.eqW a "if" = true
  · rw [if_pos c2] at h
    exact i_if hV c2 h
  rw [if_neg c2] at h
  by_cases c3 : S.eqW a "loop" = true
  · rw [if_pos c3] at h
    exact i_loop hV c3 h
  rw [if_neg c3] at h
  exact (hC _ _ _ h).le (Nat.zero_le _)
theorem good_all (S : Src) : ∀ b : Nat, (∀ d, Good S 0 (valB S b d)) ∧ (∀ d, Good S 7 (sgB S b d)) ∧ ∀ s d, 1 ≤ s → s ≤ 7 → Good S s (chB S b s d) := by
  intro b
  induction b using Nat.strongRecOn with
  | _ b ih =>
    by_cases h : 10 ≤ b
    · refine ⟨fun d a t e hh => ?_, fun d a t e hh => ?_, fun s d s1 s7 a t e hh => ?_⟩
      · rw [valB_s S h] at hh
        exact i_val ((ih (b - 3) (by omega)).1 _) ((ih (b - 1) (by omega)).2.2 1 _ (by decide) (by decide)) _ _ _ hh
      · rw [sgB_s S h] at hh
        exact i_sign ((ih (b - 4) (by omega)).1 _) ((ih (b - 1) (by omega)).2.1 _) _ _ _ hh
      · rw [chB_s S h] at hh
        exact i_chain ((ih (b - 2) (by omega)).2.2 3 _ (by decide) (by decide)) ((ih (b - 1) (by omega)).2.1 _) (fun l l1 l7 => (ih (b - 1) (by omega)).2.2 l _ l1 l7) s1 s7 _ _ _ hh
    · refine ⟨fun d a t e hh => ?_, fun d a t e hh => ?_, fun s d s1 s7 a t e hh => ?_⟩
      · rw [valB_n S h] at hh
        cases hh
      · rw [sgB_n S h] at hh
        cases hh
      · rw [chB_n S h] at hh
        cases hh
end
end Sn

/-! Shapes of trees; how many groups a shape needs; a tree that was read has no fewer. -/
namespace Sn
open PySem PySem.Spec PyProof.Rows L2 TL
mutual
inductive Sh where
  | num (v : Int)
  | tru (b : Bool)
  | nam (x : Str)
  | cal (x : Str) (as : Shs)
  | fld (t : Sh) (x : Str)
  | bin (w : Str) (l r : Sh)
  | nt (t : Sh)
  | mn (t : Sh)
  | ite (a b c : Sh)
  | lt (x : Str) (v b : Sh)
  | lp (x : Str) (f c p : Sh)
inductive Shs where
  | nil
  | cons (h : Sh) (t : Shs)
end
def Shs.at_ : Shs → Nat → Sh
  | .nil, _ => .num 0
  | .cons h _, 0 => h
  | .cons _ t, i + 1 => t.at_ i
def int0 : List D → Int
  | .int v :: _ => v
  | _ => 0
def bl0 : List D → Bool
  | .bl v :: _ => v
  | _ => false
def str0 : List D → Str
  | .str v :: _ => v
  | _ => ""
def mkSh (tag : Str) (pre post : List D) (ks : Shs) : Sh :=
  if tag = "number" then .num (int0 pre) else if tag = "truth" then .tru (bl0 pre) else if tag = "name" then .nam (str0 pre) else if tag = "call" then .cal (str0 pre) ks else if tag = "field" then .fld (ks.at_ 0) (str0 post) else if tag = "group" then ks.at_ 0
  else if tag = "not" then .nt (ks.at_ 0) else if tag = "minus" then .mn (ks.at_ 0) else if tag = "binary" then .bin (str0 pre) (ks.at_ 0) (ks.at_ 1) else if tag = "if" then .ite (ks.at_ 0) (ks.at_ 1) (ks.at_ 2) else if tag = "let" then .lt (str0 pre) (ks.at_ 0) (ks.at_ 1) else .lp (str0 pre) (ks.at_ 0) (ks.at_ 1) (ks.at_ 2)
mutual
def Nd.sh : Nd → Sh
  | .nd tag _ _ _ pre post kids => mkSh tag pre post kids.shs
def Ns.shs : Ns → Shs
  | .nil => .nil
  | .cons h t => .cons h.sh t.shs
end
theorem Nd.sh_nd {tag : Str} {call : Bool} {s e : Nat} {pre post : List D} {kids : Ns} : (Nd.nd tag call s e pre post kids).sh = mkSh tag pre post kids.shs := by rw [Nd.sh]
theorem Ns.shs_nil : Ns.nil.shs = .nil := by rw [Ns.shs]
theorem Ns.shs_cons {h : Nd} {t : Ns} : (Ns.cons h t).shs = .cons h.sh t.shs := by rw [Ns.shs]
def Sh.rk : Sh → Nat
  | .bin w _ _ => Src.rank (tl w)
  | .ite _ _ _ => 0
  | .lt _ _ _ => 0
  | .lp _ _ _ _ => 0
  | .nt _ => 3
  | .mn _ => 7
  | _ => 8
/-- a group is needed in a place of this rank -/
def wr (r : Nat) (s : Sh) : Nat := if s.rk < r then 1 else 0
theorem wr0 (s : Sh) : wr 0 s = 0 := if_neg (Nat.not_lt_zero _)
mutual
/-- the groups that are needed inside -/
def Sh.need : Sh → Nat
  | .cal _ as => as.need
  | .fld t _ => wr 8 t + t.need
  | .bin w l r => wr (lpR (Src.rank (tl w))) l + l.need + (wr (rpR (Src.rank (tl w))) r + r.need)
  | .nt t => wr 3 t + t.need
  | .mn t => wr 7 t + t.need
  | .ite a b c => a.need + b.need + c.need
  | .lt _ v b => v.need + b.need
  | .lp _ f c p => f.need + c.need + p.need
  | .num _ => 0
  | .tru _ => 0
  | .nam _ => 0
def Shs.need : Shs → Nat
  | .nil => 0
  | .cons h t => h.need + t.need
end
mutual
/-- the inner nodes but for groups -/
def Sh.inr : Sh → Nat
  | .cal _ as => 1 + as.inr
  | .fld t _ => 1 + t.inr
  | .bin _ l r => 1 + l.inr + r.inr
  | .nt t => 1 + t.inr
  | .mn t => 1 + t.inr
  | .ite a b c => 1 + a.inr + b.inr + c.inr
  | .lt _ v b => 1 + v.inr + b.inr
  | .lp _ f c p => 1 + f.inr + c.inr + p.inr
  | .num _ => 0
  | .tru _ => 0
  | .nam _ => 0
def Shs.inr : Shs → Nat
  | .nil => 0
  | .cons h t => h.inr + t.inr
end
def Shs.sum : List Nat → Shs → Nat
  | _, .nil => 0
  | rs, .cons h t => wr (rs.headD 0) h + h.need + h.inr + t.sum rs.tail
theorem Shs.sum0 : ∀ ks : Shs, ks.sum [] = ks.need + ks.inr
  | .nil => by unfold Shs.sum Shs.need Shs.inr; rfl
  | .cons h t => by
    unfold Shs.sum Shs.need Shs.inr
    show wr 0 h + h.need + h.inr + t.sum [] = _
    rw [wr0, Shs.sum0 t]
    omega
/-- the forms, one by one -/
theorem Nd.cases_ {P : Nd → Prop} (n : Nd) (ok : n.ok)
    (num : ∀ s e v, P (.nd "number" false s e [.int v] [] .nil)) (tru : ∀ s e v, P (.nd "truth" false s e [.bl v] [] .nil)) (nam : ∀ s e v, P (.nd "name" false s e [.str v] [] .nil))
    (cal : ∀ s e v (ks : Ns), ks.ok → P (.nd "call" true s e [.str v] [] ks)) (fld : ∀ s e v (a : Nd), a.ok → P (.nd "field" false s e [] [.str v] (nk1 a))) (grp : ∀ s e (a : Nd), a.ok → P (.nd "group" false s e [] [] (nk1 a)))
    (nt : ∀ s e (a : Nd), a.ok → P (.nd "not" false s e [] [] (nk1 a))) (mn : ∀ s e (a : Nd), a.ok → P (.nd "minus" false s e [] [] (nk1 a))) (bin : ∀ s e v (a b : Nd), PyData.strOk v = true → a.ok → b.ok → P (.nd "binary" false s e [.str v] [] (nk2 a b)))
    (ite : ∀ s e (a b c : Nd), a.ok → b.ok → c.ok → P (.nd "if" false s e [] [] (nk3 a b c))) (lt : ∀ s e v i (a b : Nd), a.ok → b.ok → P (.nd "let" false s e [.str v, .int i] [] (nk2 a b))) (lp : ∀ s e v i (a b c : Nd), a.ok → b.ok → c.ok → P (.nd "loop" false s e [.str v, .int i] [] (nk3 a b c))) : P n := by
  have k0 : ∀ ks : Ns, ks.len = 0 → ks = .nil := fun ks h => by
    cases ks with
    | nil => rfl
    | cons _ _ => cases h
  have k1 : ∀ ks : Ns, ks.ok → ks.len = 1 → ∃ a : Nd, a.ok ∧ ks = nk1 a := fun ks o h => by
    cases ks with
    | nil => cases h
    | cons a t =>
      have e := k0 t (Nat.succ.inj h)
      subst e
      exact ⟨a, (Ns.ok_cons.mp o).1, rfl⟩
  have k2 : ∀ ks : Ns, ks.ok → ks.len = 2 → ∃ a b : Nd, a.ok ∧ b.ok ∧ ks = nk2 a b := fun ks o h => by
    cases ks with
    | nil => cases h
    | cons a t =>
      obtain ⟨b, ob, e⟩ := k1 t (Ns.ok_cons.mp o).2 (Nat.succ.inj h)
      subst e
      exact ⟨a, b, (Ns.ok_cons.mp o).1, ob, rfl⟩
  have k3 : ∀ ks : Ns, ks.ok → ks.len = 3 → ∃ a b c : Nd, a.ok ∧ b.ok ∧ c.ok ∧ ks = nk3 a b c := fun ks o h => by
    cases ks with
    | nil => cases h
    | cons a t =>
      obtain ⟨b, c, ob, oc, e⟩ := k2 t (Ns.ok_cons.mp o).2 (Nat.succ.inj h)
      subst e
      exact ⟨a, b, c, (Ns.ok_cons.mp o).1, ob, oc, rfl⟩
  obtain ⟨tag, call, s, e, pre, post, kids⟩ := n
  obtain ⟨fm, ko⟩ := Nd.ok_nd.mp ok
  rcases fm with ⟨rfl, rfl, ⟨v, rfl⟩, rfl, h⟩ | ⟨rfl, rfl, ⟨v, rfl⟩, rfl, h⟩ | ⟨rfl, rfl, ⟨v, rfl⟩, rfl, h⟩ | ⟨rfl, rfl, ⟨v, rfl⟩, rfl⟩ | ⟨rfl, rfl, rfl, ⟨v, rfl⟩, h⟩ | ⟨rfl, rfl, rfl, rfl, h⟩ | ⟨rfl, rfl, rfl, rfl, h⟩ | ⟨rfl, rfl, rfl, rfl, h⟩ | ⟨rfl, rfl, ⟨v, rfl, sv⟩, rfl, h⟩ | ⟨rfl, rfl, rfl, rfl, h⟩ | ⟨rfl, rfl, ⟨v, i, rfl⟩, rfl, h⟩ | ⟨rfl, rfl, ⟨v, i, rfl⟩, rfl, h⟩
  · rw [k0 _ h]; exact num s e v
  · rw [k0 _ h]; exact tru s e v
  · rw [k0 _ h]; exact nam s e v
  · exact cal s e v kids ko
  · obtain ⟨a, oa, rfl⟩ := k1 _ ko h; exact fld s e v a oa
  · obtain ⟨a, oa, rfl⟩ := k1 _ ko h; exact grp s e a oa
  · obtain ⟨a, oa, rfl⟩ := k1 _ ko h; exact nt s e a oa
  · obtain ⟨a, oa, rfl⟩ := k1 _ ko h; exact mn s e a oa
  · obtain ⟨a, b, oa, ob, rfl⟩ := k2 _ ko h; exact bin s e v a b sv oa ob
  · obtain ⟨a, b, c, oa, ob, oc, rfl⟩ := k3 _ ko h; exact ite s e a b c oa ob oc
  · obtain ⟨a, b, oa, ob, rfl⟩ := k2 _ ko h; exact lt s e v i a b oa ob
  · obtain ⟨a, b, c, oa, ob, oc, rfl⟩ := k3 _ ko h; exact lp s e v i a b c oa ob oc
theorem shs_k1 (a : Nd) : (nk1 a).shs = .cons a.sh .nil := by unfold nk1; rw [Ns.shs_cons, Ns.shs_nil]
theorem shs_k2 (a b : Nd) : (nk2 a b).shs = .cons a.sh (.cons b.sh .nil) := by unfold nk2; rw [Ns.shs_cons, Ns.shs_cons, Ns.shs_nil]
theorem shs_k3 (a b c : Nd) : (nk3 a b c).shs = .cons a.sh (.cons b.sh (.cons c.sh .nil)) := by unfold nk3; rw [Ns.shs_cons, Ns.shs_cons, Ns.shs_cons, Ns.shs_nil]
section
variable {s e : Nat} {v : Str} {i : Int} {a b c : Nd} {ks : Ns}
theorem sh_num {x : Int} : (Nd.nd "number" false s e [.int x] [] .nil).sh = .num x := by rw [Nd.sh_nd]; rfl
theorem sh_tru {x : Bool} : (Nd.nd "truth" false s e [.bl x] [] .nil).sh = .tru x := by rw [Nd.sh_nd]; rfl
theorem sh_nam : (Nd.nd "name" false s e [.str v] [] .nil).sh = .nam v := by rw [Nd.sh_nd]; rfl
theorem sh_cal : (Nd.nd "call" true s e [.str v] [] ks).sh = .cal v ks.shs := by rw [Nd.sh_nd]; rfl
theorem sh_fld : (Nd.nd "field" false s e [] [.str v] (nk1 a)).sh = .fld a.sh v := by rw [Nd.sh_nd, shs_k1]; rfl
theorem sh_grp : (Nd.nd "group" false s e [] [] (nk1 a)).sh = a.sh := by rw [Nd.sh_nd, shs_k1]; rfl
theorem sh_nt : (Nd.nd "not" false s e [] [] (nk1 a)).sh = .nt a.sh := by rw [Nd.sh_nd, shs_k1]; rfl
theorem sh_mn : (Nd.nd "minus" false s e [] [] (nk1 a)).sh = .mn a.sh := by rw [Nd.sh_nd, shs_k1]; rfl
theorem sh_bin : (Nd.nd "binary" false s e [.str v] [] (nk2 a b)).sh = .bin v a.sh b.sh := by rw [Nd.sh_nd, shs_k2]; rfl
theorem sh_ite : (Nd.nd "if" false s e [] [] (nk3 a b c)).sh = .ite a.sh b.sh c.sh := by rw [Nd.sh_nd, shs_k3]; rfl
theorem sh_lt : (Nd.nd "let" false s e [.str v, .int i] [] (nk2 a b)).sh = .lt v a.sh b.sh := by rw [Nd.sh_nd, shs_k2]; rfl
theorem sh_lp : (Nd.nd "loop" false s e [.str v, .int i] [] (nk3 a b c)).sh = .lp v a.sh b.sh c.sh := by rw [Nd.sh_nd, shs_k3]; rfl
end
theorem wr_le {r q : Nat} {s : Sh} (h : r ≤ q) (k : q ≤ s.rk) : wr r s = 0 := if_neg (by omega)
theorem wr1 (r : Nat) (s : Sh) : wr r s ≤ 1 := by unfold wr; split <;> omega
/-- no group, and fit for the place: none is needed -/
theorem hi_wr {r : Nat} {n : Nd} (h : n.hi r) (g : n.grp = false) (e : n.rk = n.sh.rk) : wr r n.sh = 0 := by
  rcases h with h | h
  · rw [g] at h
    cases h
  · exact if_neg (by omega)
theorem fit1 {r : Nat} {a : Nd} (h : (nk1 a).fit [r]) : a.hi r := h.1
theorem fit2 {r q : Nat} {a b : Nd} (h : (nk2 a b).fit [r, q]) : a.hi r ∧ b.hi q := ⟨h.1, h.2.1⟩
theorem need_int : ∀ (m : Nat) (n : Nd), n.ht ≤ m → n.ok → n.wf → ∀ r, n.hi r → wr r n.sh + n.sh.need + n.sh.inr ≤ n.int := by
  intro m
  induction m with
  | zero =>
    intro n hm
    obtain ⟨tag, call, s, e, pre, post, kids⟩ := n
    rw [Nd.ht_nd] at hm
    omega
  | succ m ih =>
    intro n hm ok wf r hi
    -- each kid in a place
    have kid : ∀ a : Nd, a.ok → a.wf → a.ht ≤ m → ∀ q, a.hi q → wr q a.sh + a.sh.need + a.sh.inr ≤ a.int := fun a o w h q k => ih a h o w q k
    have h0 : ∀ a : Nd, a.hi 0 := fun a => .inr (Nat.zero_le _)
    have kids : ∀ ks : Ns, ks.ok → ks.wf → ks.ht ≤ m → ks.shs.need + ks.shs.inr ≤ ks.int := by
      intro ks
      refine Ns.rec (motive_1 := fun _ => True) (motive_2 := fun ks => ks.ok → ks.wf → ks.ht ≤ m → ks.shs.need + ks.shs.inr ≤ ks.int) (fun _ _ _ _ _ _ _ _ => trivial) ?_ ?_ ks
      · intro _ _ _
        rw [Ns.shs_nil, Ns.int_nil]
        unfold Shs.need Shs.inr
        exact Nat.le_refl _
      · intro a t _ iht o w h
        rw [Ns.ht_cons] at h
        have k1 := kid a (Ns.ok_cons.mp o).1 (Ns.wf_cons.mp w).1 (by omega) 0 (h0 a)
        have k2 := iht (Ns.ok_cons.mp o).2 (Ns.wf_cons.mp w).2 (by omega)
        rw [Ns.shs_cons, Ns.int_cons]
        unfold Shs.need Shs.inr
        omega
    revert hm wf hi
    have hk1 : ∀ a : Nd, (nk1 a).ht = a.ht := fun a => by unfold nk1; rw [Ns.ht_cons, Ns.ht_nil]; omega
    have hk2 : ∀ a b : Nd, (nk2 a b).ht = max a.ht b.ht := fun a b => by unfold nk2; rw [Ns.ht_cons, Ns.ht_cons, Ns.ht_nil]; omega
    have hk3 : ∀ a b c : Nd, (nk3 a b c).ht = max a.ht (max b.ht c.ht) := fun a b c => by unfold nk3; rw [Ns.ht_cons, Ns.ht_cons, Ns.ht_cons, Ns.ht_nil]; omega
    have wk1 : ∀ {a : Nd}, (nk1 a).wf → a.wf := fun h => (Ns.wf_cons.mp h).1
    have wk2 : ∀ {a b : Nd}, (nk2 a b).wf → a.wf ∧ b.wf := fun h => ⟨(Ns.wf_cons.mp h).1, (Ns.wf_cons.mp (Ns.wf_cons.mp h).2).1⟩
    have wk3 : ∀ {a b c : Nd}, (nk3 a b c).wf → a.wf ∧ b.wf ∧ c.wf := fun h => ⟨(Ns.wf_cons.mp h).1, (Ns.wf_cons.mp (Ns.wf_cons.mp h).2).1, (Ns.wf_cons.mp (Ns.wf_cons.mp (Ns.wf_cons.mp h).2).2).1⟩
    refine Nd.cases_ (P := fun n => n.ht ≤ m + 1 → n.wf → n.hi r → wr r n.sh + n.sh.need + n.sh.inr ≤ n.int) n ok ?_ ?_ ?_ ?_ ?_ ?_ ?_ ?_ ?_ ?_ ?_ ?_
    · intro s e v hm wf hi
      rw [hi_wr hi rfl (by rw [sh_num]; rfl), sh_num]
      exact Nat.zero_le _
    · intro s e v hm wf hi
      rw [hi_wr hi rfl (by rw [sh_tru]; rfl), sh_tru]
      exact Nat.zero_le _
    · intro s e v hm wf hi
      rw [hi_wr hi rfl (by rw [sh_nam]; rfl), sh_nam]
      exact Nat.zero_le _
    · intro s e v ks o hm wf hi
      rw [Nd.ht_nd] at hm
      have k := kids ks o (Nd.wf_nd.mp wf).2 (by omega)
      rw [hi_wr hi rfl (by rw [sh_cal]; rfl), sh_cal, Nd.int_nd]
      unfold Sh.need Sh.inr
      show 0 + _ + _ ≤ 1 + _
      omega
    · intro s e v a oa hm wf hi
      obtain ⟨f, w⟩ := Nd.wf_nd.mp wf
      obtain ⟨k1, k2, k3, k4⟩ := nk1_all a
      rw [Nd.ht_nd, hk1] at hm
      have k := kid a oa (wk1 w) (by omega) 8 (fit1 f)
      rw [hi_wr hi rfl (by rw [sh_fld]; rfl), sh_fld, Nd.int_nd, k2]
      unfold Sh.need Sh.inr
      show 0 + _ + _ ≤ 1 + _
      omega
    · intro s e a oa hm wf hi
      obtain ⟨f, w⟩ := Nd.wf_nd.mp wf
      obtain ⟨k1, k2, k3, k4⟩ := nk1_all a
      rw [Nd.ht_nd, hk1] at hm
      have k := kid a oa (wk1 w) (by omega) 0 (h0 a)
      have := wr1 r a.sh
      rw [sh_grp, Nd.int_nd, k2]
      show _ ≤ 1 + _
      omega
    · intro s e a oa hm wf hi
      obtain ⟨f, w⟩ := Nd.wf_nd.mp wf
      obtain ⟨k1, k2, k3, k4⟩ := nk1_all a
      rw [Nd.ht_nd, hk1] at hm
      have k := kid a oa (wk1 w) (by omega) 3 (fit1 f)
      rw [hi_wr hi rfl (by rw [sh_nt]; rfl), sh_nt, Nd.int_nd, k2]
      unfold Sh.need Sh.inr
      show 0 + _ + _ ≤ 1 + _
      omega
    · intro s e a oa hm wf hi
      obtain ⟨f, w⟩ := Nd.wf_nd.mp wf
      obtain ⟨k1, k2, k3, k4⟩ := nk1_all a
      rw [Nd.ht_nd, hk1] at hm
      have k := kid a oa (wk1 w) (by omega) 7 (fit1 f)
      rw [hi_wr hi rfl (by rw [sh_mn]; rfl), sh_mn, Nd.int_nd, k2]
      unfold Sh.need Sh.inr
      show 0 + _ + _ ≤ 1 + _
      omega
    · intro s e v a b sv oa ob hm wf hi
      obtain ⟨f, w⟩ := Nd.wf_nd.mp wf
      obtain ⟨k1, k2, k3, k4⟩ := nk2_all a b
      rw [Nd.ht_nd, hk2] at hm
      have pl : plc "binary" [.str v] = [lpR (Src.rank (tl v)), rpR (Src.rank (tl v))] := by
        unfold plc
        rw [if_neg (by decide +kernel), if_neg (by decide +kernel), if_neg (by decide +kernel), if_pos rfl]
        rfl
      rw [pl] at f
      have ka := kid a oa (wk2 w).1 (by omega) _ (fit2 f).1
      have kb := kid b ob (wk2 w).2 (by omega) _ (fit2 f).2
      have er : (Nd.nd "binary" false s e [.str v] [] (nk2 a b)).rk = (Sh.bin v a.sh b.sh).rk := by
        rw [Nd.rk_nd, if_pos rfl]
        rfl
      rw [hi_wr hi rfl (by rw [sh_bin]; exact er), sh_bin, Nd.int_nd, k2]
      unfold Sh.need Sh.inr
      show 0 + _ + _ ≤ 1 + _
      omega
    · intro s e a b c oa ob oc hm wf hi
      obtain ⟨f, w⟩ := Nd.wf_nd.mp wf
      obtain ⟨k1, k2, k3, k4⟩ := nk3_all a b c
      rw [Nd.ht_nd, hk3] at hm
      have ka := kid a oa (wk3 w).1 (by omega) 0 (h0 a)
      have kb := kid b ob (wk3 w).2.1 (by omega) 0 (h0 b)
      have kc := kid c oc (wk3 w).2.2 (by omega) 0 (h0 c)
      rw [hi_wr hi rfl (by rw [sh_ite]; rfl), sh_ite, Nd.int_nd, k2]
      unfold Sh.need Sh.inr
      show 0 + _ + _ ≤ 1 + _
      omega
    · intro s e v i a b oa ob hm wf hi
      obtain ⟨f, w⟩ := Nd.wf_nd.mp wf
      obtain ⟨k1, k2, k3, k4⟩ := nk2_all a b
      rw [Nd.ht_nd, hk2] at hm
      have ka := kid a oa (wk2 w).1 (by omega) 0 (h0 a)
      have kb := kid b ob (wk2 w).2 (by omega) 0 (h0 b)
      rw [hi_wr hi rfl (by rw [sh_lt]; rfl), sh_lt, Nd.int_nd, k2]
      unfold Sh.need Sh.inr
      show 0 + _ + _ ≤ 1 + _
      omega
    · intro s e v i a b c oa ob oc hm wf hi
      obtain ⟨f, w⟩ := Nd.wf_nd.mp wf
      obtain ⟨k1, k2, k3, k4⟩ := nk3_all a b c
      rw [Nd.ht_nd, hk3] at hm
      have ka := kid a oa (wk3 w).1 (by omega) 0 (h0 a)
      have kb := kid b ob (wk3 w).2.1 (by omega) 0 (h0 b)
      have kc := kid c oc (wk3 w).2.2 (by omega) 0 (h0 c)
      rw [hi_wr hi rfl (by rw [sh_lp]; rfl), sh_lp, Nd.int_nd, k2]
      unfold Sh.need Sh.inr
      show 0 + _ + _ ≤ 1 + _
      omega
end Sn

/-! The words of a shape with the groups that it needs; they are read back. -/
namespace Sn
open PySem PySem.Spec PyProof.Rows L2 TL
/-- blanks, then a word -/
abbrev PW := Nat × List Nat
def gp (b : Nat) : List Nat := List.replicate b 32
def txt : List PW → List Nat
  | [] => []
  | p :: r => gp p.1 ++ (p.2 ++ txt r)
def pos : Nat → List PW → List Wd
  | _, [] => []
  | i, p :: r => (p.2, i + p.1) :: pos (i + p.1 + p.2.length) r
theorem txt_app : ∀ x y : List PW, txt (x ++ y) = txt x ++ txt y
  | [], _ => rfl
  | p :: r, y => by
    show gp p.1 ++ (p.2 ++ txt (r ++ y)) = gp p.1 ++ (p.2 ++ txt r) ++ txt y
    rw [txt_app r y]
    simp
theorem pos_app : ∀ (x y : List PW) (i : Nat), pos i (x ++ y) = pos i x ++ pos (i + (txt x).length) y
  | [], _, _ => rfl
  | p :: r, y, i => by
    show _ :: pos _ (r ++ y) = _ :: (pos _ r ++ pos _ y)
    rw [pos_app r y]
    have e : i + (txt (p :: r)).length = i + p.1 + p.2.length + (txt r).length := by
      show i + (gp p.1 ++ (p.2 ++ txt r)).length = _
      unfold gp
      simp only [List.length_append, List.length_replicate]
      omega
    rw [e]
theorem pos_len : ∀ (x : List PW) (i : Nat), (pos i x).length = x.length
  | [], _ => rfl
  | p :: r, i => by
    show (pos _ r).length + 1 = r.length + 1
    rw [pos_len r]
theorem pos_wd : ∀ (x : List PW) (i : Nat), (pos i x).map (·.1) = x.map (·.2)
  | [], _ => rfl
  | p :: r, i => by
    show _ :: (pos _ r).map (·.1) = _ :: r.map (·.2)
    rw [pos_wd r]
/-- in a place of rank r, what has rank k -/
def wrp (r k : Nat) (f : Nat → List PW) (b : Nat) : List PW := if k < r then (b, tl "(") :: (f 0 ++ [(0, tl ")")]) else f b
mutual
def Sh.cw : Sh → Nat → List PW
  | .num v, b => [(b, numW v)]
  | .tru x, b => [(b, if x = true then tl "True" else tl "False")]
  | .nam x, b => [(b, tl x)]
  | .cal x as, b => (b, tl x) :: (0, tl "(") :: (as.cw true ++ [(0, tl ")")])
  | .fld t x, b => wrp 8 t.rk t.cw b ++ [(0, tl "."), (0, tl x)]
  | .bin w l r, b => wrp (lpR (Src.rank (tl w))) l.rk l.cw b ++ (1, tl w) :: wrp (rpR (Src.rank (tl w))) r.rk r.cw 1
  | .nt t, b => (b, tl "not") :: wrp 3 t.rk t.cw 1
  | .mn t, b => (b, tl "-") :: wrp 7 t.rk t.cw 0
  | .ite a c d, b => (b, tl "if") :: (a.cw 1 ++ (1, tl "then") :: (c.cw 1 ++ (1, tl "else") :: d.cw 1))
  | .lt x v c, b => (b, tl "let") :: (1, tl x) :: (1, tl "=") :: (v.cw 1 ++ (1, tl "in") :: c.cw 1)
  | .lp x f c d, b => (b, tl "loop") :: (1, tl x) :: (1, tl "=") :: (f.cw 1 ++ (1, tl "times") :: (c.cw 1 ++ (1, tl "do") :: d.cw 1))
def Shs.cw : Shs → Bool → List PW
  | .nil, _ => []
  | .cons h t, k => (if k = true then h.cw 0 else (0, tl ",") :: h.cw 1) ++ t.cw false
end
def NamOk (x : Str) : Prop := sortW (tl x) = "name" ∧ tkOk0 (tl x) = true ∧ (tl x).length ≤ 25
def opsB : List (List Nat) := [tl "or", tl "and", tl "==", tl "<", tl "+", tl "-", tl "*", tl "/"]
/-- what a field may be of here -/
def Sh.dot : Sh → Bool
  | .num _ => true
  | .tru _ => true
  | .nam _ => true
  | .fld _ _ => true
  | _ => false
mutual
def Sh.fine : Sh → Prop
  | .num v => NumOk v
  | .tru _ => True
  | .nam x => NamOk x
  | .cal x as => NamOk x ∧ as.fine
  | .fld t x => NamOk x ∧ t.dot = true ∧ t.fine
  | .bin w l r => (tl w ∈ opsB ∧ PyData.strOk w = true) ∧ l.fine ∧ r.fine
  | .nt t => t.fine
  | .mn t => t.fine
  | .ite a c d => a.fine ∧ c.fine ∧ d.fine
  | .lt x v c => NamOk x ∧ v.fine ∧ c.fine
  | .lp x f c d => NamOk x ∧ f.fine ∧ c.fine ∧ d.fine
def Shs.fine : Shs → Prop
  | .nil => True
  | .cons h t => h.fine ∧ t.fine
end
mutual
def Sh.hgt : Sh → Nat
  | .num _ => 0
  | .tru _ => 0
  | .nam _ => 0
  | .cal _ as => as.hgt + 1
  | .fld t _ => t.hgt + 1
  | .bin _ l r => max l.hgt r.hgt + 1
  | .nt t => t.hgt + 1
  | .mn t => t.hgt + 1
  | .ite a c d => max a.hgt (max c.hgt d.hgt) + 1
  | .lt _ v c => max v.hgt c.hgt + 1
  | .lp _ f c d => max f.hgt (max c.hgt d.hgt) + 1
def Shs.hgt : Shs → Nat
  | .nil => 0
  | .cons h t => max h.hgt t.hgt
end
/-! ### groups of a node -/
mutual
def Nd.gs : Nd → List (Nat × Nat)
  | .nd tag _ s e _ _ kids => (if tag = "group" then [(s, e)] else []) ++ kids.gs
def Ns.gs : Ns → List (Nat × Nat)
  | .nil => []
  | .cons h t => h.gs ++ t.gs
end
theorem Nd.gs_nd {tag : Str} {call : Bool} {s e : Nat} {pre post : List D} {kids : Ns} : (Nd.nd tag call s e pre post kids).gs = (if tag = "group" then [(s, e)] else []) ++ kids.gs := by rw [Nd.gs]
theorem Ns.gs_nil : Ns.nil.gs = [] := by rw [Ns.gs]
theorem Ns.gs_cons {h : Nd} {t : Ns} : (Ns.cons h t).gs = h.gs ++ t.gs := by rw [Ns.gs]
theorem gs_k1 (a : Nd) : (nk1 a).gs = a.gs := by unfold nk1; rw [Ns.gs_cons, Ns.gs_nil, List.append_nil]
theorem gs_k2 (a b : Nd) : (nk2 a b).gs = a.gs ++ b.gs := by unfold nk2; rw [Ns.gs_cons, Ns.gs_cons, Ns.gs_nil, List.append_nil]
theorem gs_k3 (a b c : Nd) : (nk3 a b c).gs = a.gs ++ (b.gs ++ c.gs) := by unfold nk3; rw [Ns.gs_cons, Ns.gs_cons, Ns.gs_cons, Ns.gs_nil, List.append_nil]
/-- the brackets of a group are words -/
def InG (ws : List Wd) (p : Nat × Nat) : Prop := ∃ q, (p.2 = q + 1 ∧ p.1 < q) ∧ (tl "(", p.1) ∈ ws ∧ (tl ")", q) ∈ ws
theorem InG.sub {ws vs : List Wd} {p : Nat × Nat} (h : ∀ w ∈ ws, w ∈ vs) : InG ws p → InG vs p := fun ⟨q, h1, h2, h3⟩ => ⟨q, h1, h _ h2, h _ h3⟩
/-- a node that has this shape, so many inner nodes, and whose groups are there -/
structure Got (s : Sh) (c : Nat) (ws : List Wd) (n : Nd) : Prop where
  sh : n.sh = s
  ok : n.ok
  int : n.int = c
  gs : ∀ p ∈ n.gs, InG ws p
theorem Got.sub {s : Sh} {c : Nat} {ws vs : List Wd} {n : Nd} (g : Got s c ws n) (h : ∀ w ∈ ws, w ∈ vs) : Got s c vs n := ⟨g.sh, g.ok, g.int, fun p hp => (g.gs p hp).sub h⟩
/-- the level of a rank -/
def Mrk (r : Nat) : Nat := if r = 1 then 1 else if r = 2 then 2 else if r = 3 then 2 else if r = 4 then 3 else if r = 5 then 4 else 5
/-- how words of a shape of this rank are read -/
structure Rd0 (k rk : Nat) (ws : List Wd) (t : Tn) : Prop where
  v : RdV0 k ws t
  g : 1 ≤ rk → rk ≤ 6 → RdG0 k (Mrk rk) rk ws t (Src.topR rk)
  s : 7 ≤ rk → RdS0 k ws t
theorem mk_mono {r q : Nat} (h : r ≤ q) (h1 : 1 ≤ r) : Mrk r ≤ Mrk q := by
  have k : ∀ q : Fin 8, ∀ r : Fin 8, r ≤ q → 1 ≤ r.val → Mrk r ≤ Mrk q := by decide
  by_cases h7 : q < 8
  · exact k ⟨q, h7⟩ ⟨r, by omega⟩ h h1
  · have e : Mrk q = 5 := by unfold Mrk; repeat (first | rw [if_neg (by omega)] | rfl)
    rw [e]
    unfold Mrk
    repeat (first | (split <;> first | omega | skip))
theorem mk_le5 (q : Nat) : Mrk q ≤ 5 := by
  unfold Mrk
  repeat (first | (split <;> first | omega | skip))
theorem topR_ge {r q : Nat} (h : r ≤ q) (h4 : r ≠ 4) : r ≤ Src.topR q := by
  unfold Src.topR
  split <;> omega
theorem RdS0.v {k : Nat} {ws : List Wd} {t : Tn} (q : RdS0 k ws t) : RdV0 k ws t := (q.g (M := 0) (lm := 1) (by decide) (by decide)).v
theorem Rd0.ofS {k rk : Nat} {ws : List Wd} {t : Tn} (h : 7 ≤ rk) (q : RdS0 k ws t) : Rd0 k rk ws t := ⟨q.v, fun _ h2 => by omega, fun _ => q⟩
theorem Rd0.ofG {k rk : Nat} {ws : List Wd} {t : Tn} (h1 : 1 ≤ rk) (h2 : rk ≤ 6) (q : RdG0 k (Mrk rk) rk ws t (Src.topR rk)) : Rd0 k rk ws t := ⟨(q.mono (Nat.le_refl _) (Nat.zero_le _) h1).v, fun _ _ => q, fun h => by omega⟩
theorem Rd0.ofV {k : Nat} {ws : List Wd} {t : Tn} (q : RdV0 k ws t) : Rd0 k 0 ws t := ⟨q, fun h => by omega, fun h => by omega⟩
theorem Rd0.mono {k j rk : Nat} {ws : List Wd} {t : Tn} (h : k ≤ j) (q : Rd0 k rk ws t) : Rd0 j rk ws t := ⟨q.v.mono h, fun h1 h2 => (q.g h1 h2).mono h (Nat.le_refl _) (Nat.le_refl _), fun h1 => (q.s h1).mono h⟩
/-- a place of rank r -/
structure Pl0 (k r : Nat) (ws : List Wd) (t : Tn) : Prop where
  g : ∀ q, 1 ≤ q → q ≤ r → r ≤ 6 → r ≠ 4 → ∃ tp, r ≤ tp ∧ RdG0 k (Mrk r) r ws t tp
  s : 7 ≤ r → RdS0 k ws t
  g7 : r = 7 → ∃ tp, RdG0 k 5 7 ws t tp
theorem Pl0.ofS {k r : Nat} {ws : List Wd} {t : Tn} (q : RdS0 k ws t) : Pl0 k r ws t :=
  ⟨fun _ h1 h2 h3 _ => ⟨6, h3, q.g (mk_le5 _) (by omega)⟩, fun _ => q, fun _ => ⟨6, q.g (by decide) (by decide)⟩⟩
theorem Pl0.ofR {k r rk : Nat} {ws : List Wd} {t : Tn} (h : r ≤ rk) (q : Rd0 k rk ws t) : Pl0 k r ws t := by
  by_cases h7 : 7 ≤ rk
  · exact .ofS (q.s h7)
  · refine ⟨fun p h1 h2 h3 h4 => ⟨Src.topR rk, topR_ge h h4, (q.g (by omega) (by omega)).mono (Nat.le_refl _) (mk_mono h (by omega)) h⟩, fun h8 => by omega, fun h8 => by omega⟩
/-- words of a shape: read as a node of it -/
def Bk (k : Nat) (s : Sh) (b i : Nat) : Prop := ∃ n : Nd, Got s (s.need + s.inr) (pos i (s.cw b)) n ∧ Rd0 k s.rk (pos i (s.cw b)) n.t ∧ (s.dot = true → RdD0 (pos i (s.cw b)) n.t)
/-- words in a place -/
theorem place {k r : Nat} {s : Sh} (h : ∀ b i, Bk k s b i) (b i : Nat) : ∃ n : Nd, Got s (wr r s + s.need + s.inr) (pos i (wrp r s.rk s.cw b)) n ∧ Pl0 (k + 1) r (pos i (wrp r s.rk s.cw b)) n.t := by
  unfold wrp wr
  by_cases c : s.rk < r
  · rw [if_pos c, if_pos c]
    obtain ⟨n, g, q, _⟩ := h 0 (i + b + 1)
    have e : pos i ((b, tl "(") :: (s.cw 0 ++ [(0, tl ")")])) = (tl "(", i + b) :: (pos (i + b + 1) (s.cw 0) ++ [(tl ")", i + b + 1 + (txt (s.cw 0)).length)]) := by
      show _ :: pos (i + b + 1) _ = _
      rw [pos_app]
      rfl
    rw [e]
    obtain ⟨k1, k2, k3, k4⟩ := nk1_all n
    have et : (Nd.nd "group" false (i + b) (i + b + 1 + (txt (s.cw 0)).length + 1) [] [] (nk1 n)).t = ⟨"group", i + b, i + b + 1 + (txt (s.cw 0)).length + 1, [n.t.d]⟩ := by rw [nd_t, k1]; rfl
    refine ⟨.nd "group" false (i + b) (i + b + 1 + (txt (s.cw 0)).length + 1) [] [] (nk1 n), ⟨by rw [sh_grp, g.sh], Nd.ok_nd.mpr ⟨.inr (.inr (.inr (.inr (.inr (.inl ⟨rfl, rfl, rfl, rfl, rfl⟩))))), k3 g.ok⟩, ?_, fun p hp => ?_⟩, ?_⟩
    · rw [Nd.int_nd, k2, g.int]
      show 1 + _ = _
      omega
    · rw [Nd.gs_nd, gs_k1, if_pos rfl] at hp
      rcases List.mem_append.mp hp with hp | hp
      · rw [List.mem_singleton] at hp
        subst hp
        exact ⟨_, ⟨rfl, by show i + b < _; omega⟩, by simp, by simp⟩
      · exact (g.gs p hp).sub (fun w hw => by simp [hw])
    · rw [et]
      exact .ofS (rds0_group q.v rfl rfl)
  · rw [if_neg c, if_neg c]
    obtain ⟨n, g, q, _⟩ := h b i
    rw [Nat.zero_add]
    exact ⟨n, g, .ofR (by omega) (q.mono (Nat.le_succ _))⟩
end Sn

/-! The words of a shape are read back, form by form. -/
namespace Sn
open PySem PySem.Spec PyProof.Rows L2 TL
theorem strL_tlS (x : Str) : strL (tl x) = x := by
  show (⟨x.cps.toList.toArray⟩ : Str) = x
  rw [Array.toArray_toList]
section
variable {k b i : Nat}
/-- a shape that dots may follow -/
theorem Bk.ofD {s : Sh} {n : Nd} (h8 : s.rk = 8) (g : Got s (s.need + s.inr) (pos i (s.cw b)) n) (q : RdD0 (pos i (s.cw b)) n.t) : Bk k s b i :=
  ⟨n, g, by rw [h8]; exact .ofS (by decide) (q.s.mono (Nat.zero_le _)), fun _ => q⟩
theorem Bk.ofR {s : Sh} {n : Nd} (hd : s.dot = false) (g : Got s (s.need + s.inr) (pos i (s.cw b)) n) (q : Rd0 k s.rk (pos i (s.cw b)) n.t) : Bk k s b i :=
  ⟨n, g, q, fun h => by rw [hd] at h; cases h⟩
theorem got0 {s : Sh} {c : Nat} {ws : List Wd} {n : Nd} (h1 : n.sh = s) (h2 : n.ok) (h3 : n.int = c) (h4 : n.gs = []) : Got s c ws n := ⟨h1, h2, h3, fun p hp => by rw [h4] at hp; cases hp⟩
theorem bk_num {v : Int} (h : NumOk v) : Bk k (.num v) b i := by
  obtain ⟨h1, h2, h3, h4, _⟩ := h.all
  have e : pos i ((Sh.num v).cw b) = [(numW v, i + b)] := by unfold Sh.cw; rfl
  refine Bk.ofD (n := .nd "number" false (i + b) (i + b + (numW v).length) [.int v] [] .nil) rfl (got0 sh_num (Nd.ok_nd.mpr ⟨.inl ⟨rfl, rfl, ⟨_, rfl⟩, rfl, rfl⟩, Ns.ok_nil⟩) (by rw [Nd.int_nd, Ns.int_nil]; unfold Sh.need Sh.inr; rfl) (by rw [Nd.gs_nd, Ns.gs_nil]; rfl)) ?_
  have q := rdd0_num (w := (numW v, i + b)) h1
  rw [e, nd_t, Ns.ds_nil]
  rw [h4] at q
  exact q
theorem bk_tru {x : Bool} : Bk k (.tru x) b i := by
  have e : pos i ((Sh.tru x).cw b) = [(if x = true then tl "True" else tl "False", i + b)] := by unfold Sh.cw; rfl
  refine Bk.ofD (n := .nd "truth" false (i + b) (i + b + (if x = true then tl "True" else tl "False").length) [.bl x] [] .nil) rfl (got0 sh_tru (Nd.ok_nd.mpr ⟨.inr (.inl ⟨rfl, rfl, ⟨_, rfl⟩, rfl, rfl⟩), Ns.ok_nil⟩) (by rw [Nd.int_nd, Ns.int_nil]; unfold Sh.need Sh.inr; rfl) (by rw [Nd.gs_nd, Ns.gs_nil]; rfl)) ?_
  have q := rdd0_truth (w := (if x = true then tl "True" else tl "False", i + b)) x rfl
  rw [e, nd_t, Ns.ds_nil]
  exact q
theorem bk_nam {x : Str} (h : NamOk x) : Bk k (.nam x) b i := by
  have e : pos i ((Sh.nam x).cw b) = [(tl x, i + b)] := by unfold Sh.cw; rfl
  refine Bk.ofD (n := .nd "name" false (i + b) (i + b + (tl x).length) [.str x] [] .nil) rfl (got0 sh_nam (Nd.ok_nd.mpr ⟨.inr (.inr (.inl ⟨rfl, rfl, ⟨_, rfl⟩, rfl, rfl⟩)), Ns.ok_nil⟩) (by rw [Nd.int_nd, Ns.int_nil]; unfold Sh.need Sh.inr; rfl) (by rw [Nd.gs_nd, Ns.gs_nil]; rfl)) ?_
  have q := rdd0_name (w := (tl x, i + b)) h.1
  rw [e, nd_t, Ns.ds_nil]
  rw [strL_tlS] at q
  exact q
theorem dot_rk {s : Sh} (h : s.dot = true) : s.rk = 8 := by
  cases s <;> first | rfl | cases h
theorem bk_fld {t : Sh} {x : Str} (hx : NamOk x) (hd : t.dot = true) (h : ∀ b i, Bk k t b i) : Bk k (.fld t x) b i := by
  have h8 := dot_rk hd
  have e : pos i ((Sh.fld t x).cw b) = pos i (t.cw b) ++ [(tl ".", i + (txt (t.cw b)).length), (tl x, i + (txt (t.cw b)).length + 1)] := by
    rw [Sh.cw]
    unfold wrp
    rw [h8, if_neg (by decide), pos_app]
    rfl
  obtain ⟨n, g, _, q⟩ := h b i
  have q := rdd0_field (w := (tl ".", i + (txt (t.cw b)).length)) (wn := (tl x, i + (txt (t.cw b)).length + 1)) (q hd) rfl hx.1
  obtain ⟨k1, k2, k3, k4⟩ := nk1_all n
  refine Bk.ofD (n := .nd "field" false n.t.s (i + (txt (t.cw b)).length + 1 + (tl x).length) [] [.str x] (nk1 n)) rfl ⟨by rw [sh_fld, g.sh], Nd.ok_nd.mpr ⟨.inr (.inr (.inr (.inr (.inl ⟨rfl, rfl, rfl, ⟨_, rfl⟩, rfl⟩)))), k3 g.ok⟩, ?_, ?_⟩ ?_
  · rw [Nd.int_nd, k2, g.int]
    rw [Sh.need, Sh.inr]
    unfold wr
    rw [h8, if_neg (by decide)]
    show 1 + _ = _
    omega
  · intro p hp
    rw [Nd.gs_nd, gs_k1] at hp
    rw [e]
    exact (g.gs p hp).sub (fun w hw => by simp [hw])
  · rw [e, nd_t, k1]
    rw [strL_tlS] at q
    exact q
theorem bk_nt {t : Sh} (h : ∀ b i, Bk k t b i) : Bk (k + 2) (.nt t) b i := by
  have e : pos i ((Sh.nt t).cw b) = (tl "not", i + b) :: pos (i + b + 3) (wrp 3 t.rk t.cw 1) := by rw [Sh.cw]; rfl
  obtain ⟨n, g, q⟩ := place (r := 3) h 1 (i + b + 3)
  obtain ⟨k1, k2, k3, k4⟩ := nk1_all n
  obtain ⟨tp, _, q⟩ := q.g 3 (by decide) (by decide) (by decide) (by decide)
  have q := rdg0_not (w := (tl "not", i + b)) (show RdG0 (k + 1) 2 3 _ _ _ from q) rfl
  refine Bk.ofR (n := .nd "not" false (i + b) n.t.e [] [] (nk1 n)) rfl ⟨by rw [sh_nt, g.sh], Nd.ok_nd.mpr ⟨.inr (.inr (.inr (.inr (.inr (.inr (.inl ⟨rfl, rfl, rfl, rfl, rfl⟩)))))), k3 g.ok⟩, ?_, ?_⟩ ?_
  · rw [Nd.int_nd, k2, g.int]
    rw [Sh.need, Sh.inr]
    show 1 + _ = _
    omega
  · intro p hp
    rw [Nd.gs_nd, gs_k1] at hp
    rw [e]
    exact (g.gs p hp).sub (fun w hw => by simp [hw])
  · rw [e, nd_t, k1]
    exact .ofG (rk := 3) (by decide) (by decide) q
theorem bk_mn {t : Sh} (h : ∀ b i, Bk k t b i) : Bk (k + 2) (.mn t) b i := by
  have e : pos i ((Sh.mn t).cw b) = (tl "-", i + b) :: pos (i + b + 1) (wrp 7 t.rk t.cw 0) := by rw [Sh.cw]; rfl
  obtain ⟨n, g, q⟩ := place (r := 7) h 0 (i + b + 1)
  obtain ⟨k1, k2, k3, k4⟩ := nk1_all n
  have q := rds0_minus (w := (tl "-", i + b)) (q.s (by decide)) rfl
  refine Bk.ofR (n := .nd "minus" false (i + b) n.t.e [] [] (nk1 n)) rfl ⟨by rw [sh_mn, g.sh], Nd.ok_nd.mpr ⟨.inr (.inr (.inr (.inr (.inr (.inr (.inr (.inl ⟨rfl, rfl, rfl, rfl, rfl⟩))))))), k3 g.ok⟩, ?_, ?_⟩ ?_
  · rw [Nd.int_nd, k2, g.int]
    rw [Sh.need, Sh.inr]
    show 1 + _ = _
    omega
  · intro p hp
    rw [Nd.gs_nd, gs_k1] at hp
    rw [e]
    exact (g.gs p hp).sub (fun w hw => by simp [hw])
  · rw [e, nd_t, k1]
    exact .ofS (rk := 7) (by decide) q
theorem ops_rk : ∀ w ∈ opsB, (1 ≤ Src.rank w ∧ Src.rank w ≤ 6 ∧ Src.rank w ≠ 3) ∧ lvM (Mrk (Src.rank w)) = Src.rank w + 1 ∧ Mrk (Src.rank w) ≠ 0 ∧ (Src.rank w ≤ lpR (Src.rank w) ∧ lpR (Src.rank w) ≤ 6 ∧ lpR (Src.rank w) ≠ 4) ∧ (Src.rank w + 1 ≤ rpR (Src.rank w) ∧ rpR (Src.rank w) ≤ 7 ∧ rpR (Src.rank w) ≠ 4) ∧ w ≠ tl "(" ∧ w ≠ tl "." ∧ tkOk0 w = true ∧ w.length ≤ 25 ∧ opW w = true := by decide +kernel
theorem mk7 : Mrk 7 = 5 := rfl
/-- on the right of a sign -/
theorem Pl0.right {r : Nat} {ws : List Wd} {t : Tn} (q : Pl0 k r ws t) (h1 : 1 ≤ r) (h2 : r ≤ 7) (h4 : r ≠ 4) : ∃ tp, RdG0 k (Mrk r) r ws t tp := by
  by_cases h : r = 7
  · subst h
    exact q.g7 rfl
  · obtain ⟨tp, _, g⟩ := q.g r h1 (Nat.le_refl _) (by omega) h4
    exact ⟨tp, g⟩
theorem bk_bin {w : Str} {l r : Sh} (hw : tl w ∈ opsB) (hs : PyData.strOk w = true) (hl : ∀ b i, Bk k l b i) (hr : ∀ b i, Bk k r b i) : Bk (k + 1) (.bin w l r) b i := by
  obtain ⟨⟨r1, r2, r3⟩, lv, m0, ⟨a1, a2, a3⟩, ⟨b1, b2, b3⟩, n1, n2, _, _, _⟩ := ops_rk _ hw
  generalize hj : i + (txt (wrp (lpR (Src.rank (tl w))) l.rk l.cw b)).length = j
  have e : pos i ((Sh.bin w l r).cw b) = pos i (wrp (lpR (Src.rank (tl w))) l.rk l.cw b) ++ (tl w, j + 1) :: pos (j + 1 + (tl w).length) (wrp (rpR (Src.rank (tl w))) r.rk r.cw 1) := by
    rw [Sh.cw]
    rw [pos_app, hj]
    rfl
  obtain ⟨nl, gl, ql⟩ := place (r := lpR (Src.rank (tl w))) hl b i
  obtain ⟨nr, gr, qr⟩ := place (r := rpR (Src.rank (tl w))) hr 1 (j + 1 + (tl w).length)
  obtain ⟨k1, k2, k3, k4⟩ := nk2_all nl nr
  obtain ⟨tp, ht, ql⟩ := ql.g 1 (by decide) (by omega) a2 a3
  obtain ⟨tq, qr⟩ := qr.right (by omega) b2 b3
  obtain ⟨c, hc⟩ : ∃ c, Mrk (Src.rank (tl w)) = c + 1 := ⟨Mrk (Src.rank (tl w)) - 1, by omega⟩
  have ql := ql.mono (Nat.le_refl _) (mk_mono a1 r1) a1
  have qr := qr.mono (Nat.le_refl _) (mk_mono (r := Src.rank (tl w)) (by omega) r1) b1
  rw [hc] at ql qr lv
  have q := RdG0.bin (w := (tl w, j + 1)) ql (by rw [lv]; exact qr) lv.symm (Nat.le_refl _) (Nat.le_trans a1 ht) n1 n2
  refine Bk.ofR (n := .nd "binary" false nl.t.s nr.t.e [.str w] [] (nk2 nl nr)) rfl ⟨by rw [sh_bin, gl.sh, gr.sh], Nd.ok_nd.mpr ⟨.inr (.inr (.inr (.inr (.inr (.inr (.inr (.inr (.inl ⟨rfl, rfl, ⟨_, rfl, hs⟩, rfl, rfl⟩)))))))), k3 gl.ok gr.ok⟩, ?_, ?_⟩ ?_
  · rw [Nd.int_nd, k2, gl.int, gr.int]
    rw [Sh.need, Sh.inr]
    show 1 + _ = _
    omega
  · intro p hp
    rw [Nd.gs_nd, gs_k2, if_neg (by decide +kernel), List.nil_append] at hp
    rw [e]
    rcases List.mem_append.mp hp with hp | hp
    · exact (gl.gs p hp).sub (fun u hu => List.mem_append_left _ hu)
    · exact (gr.gs p hp).sub (fun u hu => List.mem_append_right _ (List.mem_cons_of_mem _ hu))
  · rw [e, nd_t, k1]
    refine .ofG r1 r2 ?_
    show RdG0 (k + 1) (Mrk (Src.rank (tl w))) _ _ _ _
    rw [hc]
    have et : Src.binT nl.t nr.t (tl w) = ⟨"binary", nl.t.s, nr.t.e, [.str w] ++ ([nl.t.d, nr.t.d] ++ [])⟩ := by
      unfold Src.binT
      rw [strL_tlS]
      rfl
    rw [← et]
    exact q
theorem bk_v {s : Sh} (h : ∀ b i, Bk k s b i) (b i : Nat) : ∃ n : Nd, Got s (s.need + s.inr) (pos i (s.cw b)) n ∧ RdV0 k (pos i (s.cw b)) n.t := by
  obtain ⟨n, g, q, _⟩ := h b i
  exact ⟨n, g, q.v⟩
theorem bk_ite {x y z : Sh} (hx : ∀ b i, Bk k x b i) (hy : ∀ b i, Bk k y b i) (hz : ∀ b i, Bk k z b i) : Bk (k + 1) (.ite x y z) b i := by
  generalize h1 : i + b + 2 = j1
  generalize h2 : j1 + (txt (x.cw 1)).length = j2
  generalize h3 : j2 + 1 + 4 = j3
  generalize h4 : j3 + (txt (y.cw 1)).length = j4
  have e : pos i ((Sh.ite x y z).cw b) = (tl "if", i + b) :: (pos j1 (x.cw 1) ++ (tl "then", j2 + 1) :: (pos j3 (y.cw 1) ++ (tl "else", j4 + 1) :: pos (j4 + 1 + 4) (z.cw 1))) := by
    rw [Sh.cw]
    rw [pos, pos_app, pos, pos_app, pos]
    show (tl "if", i + b) :: (pos (i + b + 2) (x.cw 1) ++ (tl "then", i + b + 2 + (txt (x.cw 1)).length + 1) :: (pos (i + b + 2 + (txt (x.cw 1)).length + 1 + 4) (y.cw 1) ++ (tl "else", i + b + 2 + (txt (x.cw 1)).length + 1 + 4 + (txt (y.cw 1)).length + 1) :: pos (i + b + 2 + (txt (x.cw 1)).length + 1 + 4 + (txt (y.cw 1)).length + 1 + 4) (z.cw 1))) = _
    rw [h1, h2, h3, h4]
  obtain ⟨n1, g1, q1⟩ := bk_v hx 1 j1
  obtain ⟨n2, g2, q2⟩ := bk_v hy 1 j3
  obtain ⟨n3, g3, q3⟩ := bk_v hz 1 (j4 + 1 + 4)
  obtain ⟨k1, k2, k3, k4⟩ := nk3_all n1 n2 n3
  have q := rdv0_if (w1 := (tl "if", i + b)) (w2 := (tl "then", j2 + 1)) (w3 := (tl "else", j4 + 1)) q1 q2 q3 rfl rfl rfl
  refine Bk.ofR (n := .nd "if" false (i + b) n3.t.e [] [] (nk3 n1 n2 n3)) rfl ⟨by rw [sh_ite, g1.sh, g2.sh, g3.sh], Nd.ok_nd.mpr ⟨.inr (.inr (.inr (.inr (.inr (.inr (.inr (.inr (.inr (.inl ⟨rfl, rfl, rfl, rfl, rfl⟩))))))))), k3 g1.ok g2.ok g3.ok⟩, ?_, ?_⟩ ?_
  · rw [Nd.int_nd, k2, g1.int, g2.int, g3.int]
    rw [Sh.need, Sh.inr]
    show 1 + _ = _
    omega
  · intro p hp
    rw [Nd.gs_nd, gs_k3, if_neg (by decide +kernel), List.nil_append] at hp
    rw [e]
    rcases List.mem_append.mp hp with hp | hp
    · exact (g1.gs p hp).sub (fun w hw => by simp [hw])
    · rcases List.mem_append.mp hp with hp | hp
      · exact (g2.gs p hp).sub (fun w hw => by simp [hw])
      · exact (g3.gs p hp).sub (fun w hw => by simp [hw])
  · rw [e, nd_t, k1]
    exact .ofV q
theorem bk_lt {nm : Str} {x y : Sh} (hn : NamOk nm) (hx : ∀ b i, Bk k x b i) (hy : ∀ b i, Bk k y b i) : Bk (k + 1) (.lt nm x y) b i := by
  generalize h0 : i + b + 3 + 1 = j0
  generalize h1 : j0 + (tl nm).length + 1 = j1
  generalize h2 : j1 + 1 + (txt (x.cw 1)).length = j2
  have e : pos i ((Sh.lt nm x y).cw b) = (tl "let", i + b) :: (tl nm, j0) :: (tl "=", j1) :: (pos (j1 + 1) (x.cw 1) ++ (tl "in", j2 + 1) :: pos (j2 + 1 + 2) (y.cw 1)) := by
    rw [Sh.cw]
    rw [pos, pos, pos, pos_app, pos]
    show (tl "let", i + b) :: (tl nm, i + b + 3 + 1) :: (tl "=", i + b + 3 + 1 + (tl nm).length + 1) :: (pos (i + b + 3 + 1 + (tl nm).length + 1 + 1) (x.cw 1) ++ (tl "in", i + b + 3 + 1 + (tl nm).length + 1 + 1 + (txt (x.cw 1)).length + 1) :: pos (i + b + 3 + 1 + (tl nm).length + 1 + 1 + (txt (x.cw 1)).length + 1 + 2) (y.cw 1)) = _
    rw [h0, h1, h2]
  obtain ⟨n1, g1, q1⟩ := bk_v hx 1 (j1 + 1)
  obtain ⟨n2, g2, q2⟩ := bk_v hy 1 (j2 + 1 + 2)
  obtain ⟨k1, k2, k3, k4⟩ := nk2_all n1 n2
  have q := rdv0_let (w1 := (tl "let", i + b)) (wn := (tl nm, j0)) (w2 := (tl "=", j1)) (w3 := (tl "in", j2 + 1)) q1 q2 rfl hn.1 rfl rfl
  refine Bk.ofR (n := .nd "let" false (i + b) n2.t.e [.str nm, .int (j0 : Int)] [] (nk2 n1 n2)) rfl ⟨by rw [sh_lt, g1.sh, g2.sh], Nd.ok_nd.mpr ⟨.inr (.inr (.inr (.inr (.inr (.inr (.inr (.inr (.inr (.inr (.inl ⟨rfl, rfl, ⟨_, _, rfl⟩, rfl, rfl⟩)))))))))), k3 g1.ok g2.ok⟩, ?_, ?_⟩ ?_
  · rw [Nd.int_nd, k2, g1.int, g2.int]
    rw [Sh.need, Sh.inr]
    show 1 + _ = _
    omega
  · intro p hp
    rw [Nd.gs_nd, gs_k2, if_neg (by decide +kernel), List.nil_append] at hp
    rw [e]
    rcases List.mem_append.mp hp with hp | hp
    · exact (g1.gs p hp).sub (fun w hw => by simp [hw])
    · exact (g2.gs p hp).sub (fun w hw => by simp [hw])
  · rw [e, nd_t, k1]
    rw [strL_tlS] at q
    exact .ofV q
theorem bk_lp {nm : Str} {x y z : Sh} (hn : NamOk nm) (hx : ∀ b i, Bk k x b i) (hy : ∀ b i, Bk k y b i) (hz : ∀ b i, Bk k z b i) : Bk (k + 1) (.lp nm x y z) b i := by
  generalize h0 : i + b + 4 + 1 = j0
  generalize h1 : j0 + (tl nm).length + 1 = j1
  generalize h2 : j1 + 1 + (txt (x.cw 1)).length = j2
  generalize h3 : j2 + 1 + 5 = j3
  generalize h4 : j3 + (txt (y.cw 1)).length = j4
  have e : pos i ((Sh.lp nm x y z).cw b) = (tl "loop", i + b) :: (tl nm, j0) :: (tl "=", j1) :: (pos (j1 + 1) (x.cw 1) ++ (tl "times", j2 + 1) :: (pos j3 (y.cw 1) ++ (tl "do", j4 + 1) :: pos (j4 + 1 + 2) (z.cw 1))) := by
    rw [Sh.cw]
    rw [pos, pos, pos, pos_app, pos, pos_app, pos]
    show (tl "loop", i + b) :: (tl nm, i + b + 4 + 1) :: (tl "=", i + b + 4 + 1 + (tl nm).length + 1) :: (pos (i + b + 4 + 1 + (tl nm).length + 1 + 1) (x.cw 1) ++ (tl "times", i + b + 4 + 1 + (tl nm).length + 1 + 1 + (txt (x.cw 1)).length + 1) :: (pos (i + b + 4 + 1 + (tl nm).length + 1 + 1 + (txt (x.cw 1)).length + 1 + 5) (y.cw 1) ++ (tl "do", i + b + 4 + 1 + (tl nm).length + 1 + 1 + (txt (x.cw 1)).length + 1 + 5 + (txt (y.cw 1)).length + 1) :: pos (i + b + 4 + 1 + (tl nm).length + 1 + 1 + (txt (x.cw 1)).length + 1 + 5 + (txt (y.cw 1)).length + 1 + 2) (z.cw 1))) = _
    rw [h0, h1, h2, h3, h4]
  obtain ⟨n1, g1, q1⟩ := bk_v hx 1 (j1 + 1)
  obtain ⟨n2, g2, q2⟩ := bk_v hy 1 j3
  obtain ⟨n3, g3, q3⟩ := bk_v hz 1 (j4 + 1 + 2)
  obtain ⟨k1, k2, k3, k4⟩ := nk3_all n1 n2 n3
  have q := rdv0_loop (w1 := (tl "loop", i + b)) (wn := (tl nm, j0)) (w2 := (tl "=", j1)) (w3 := (tl "times", j2 + 1)) (w4 := (tl "do", j4 + 1)) q1 q2 q3 rfl hn.1 rfl rfl rfl
  refine Bk.ofR (n := .nd "loop" false (i + b) n3.t.e [.str nm, .int (j0 : Int)] [] (nk3 n1 n2 n3)) rfl ⟨by rw [sh_lp, g1.sh, g2.sh, g3.sh], Nd.ok_nd.mpr ⟨.inr (.inr (.inr (.inr (.inr (.inr (.inr (.inr (.inr (.inr (.inr ⟨rfl, rfl, ⟨_, _, rfl⟩, rfl, rfl⟩)))))))))), k3 g1.ok g2.ok g3.ok⟩, ?_, ?_⟩ ?_
  · rw [Nd.int_nd, k2, g1.int, g2.int, g3.int]
    rw [Sh.need, Sh.inr]
    show 1 + _ = _
    omega
  · intro p hp
    rw [Nd.gs_nd, gs_k3, if_neg (by decide +kernel), List.nil_append] at hp
    rw [e]
    rcases List.mem_append.mp hp with hp | hp
    · exact (g1.gs p hp).sub (fun w hw => by simp [hw])
    · rcases List.mem_append.mp hp with hp | hp
      · exact (g2.gs p hp).sub (fun w hw => by simp [hw])
      · exact (g3.gs p hp).sub (fun w hw => by simp [hw])
  · rw [e, nd_t, k1]
    rw [strL_tlS] at q
    exact .ofV q
/-! calls -/
/-- further arguments -/
def Bks (k : Nat) (as : Shs) : Prop := ∀ (nw : List Wd) (ts : List Tn), RdA0 k nw ts → ∀ i, ∃ ns : Ns, ns.shs = as ∧ ns.ok ∧ ns.int = as.need + as.inr ∧ (∀ p ∈ ns.gs, InG (pos i (as.cw false)) p) ∧ RdA0 k (nw ++ pos i (as.cw false)) (ts ++ ns.ts)
theorem bks_nil : Bks k .nil := by
  intro nw ts q i
  refine ⟨.nil, Ns.shs_nil, Ns.ok_nil, by unfold Ns.int Shs.need Shs.inr; rfl, ?_, ?_⟩
  · intro p hp
    rw [Ns.gs_nil] at hp
    cases hp
  unfold Shs.cw
  show RdA0 k (nw ++ []) (ts ++ [])
  rw [List.append_nil, List.append_nil]
  exact q
theorem bks_cons {h : Sh} {t : Shs} (hh : ∀ b i, Bk k h b i) (ht : Bks k t) : Bks k (.cons h t) := by
  intro nw ts q i
  obtain ⟨n, g, qn⟩ := bk_v hh 1 (i + 0 + 1)
  generalize hj : i + 0 + 1 + (txt (h.cw 1)).length = j
  have e : pos i ((Shs.cons h t).cw false) = (tl ",", i + 0) :: (pos (i + 0 + 1) (h.cw 1) ++ pos j (t.cw false)) := by
    rw [Shs.cw, if_neg (by decide)]
    show _ :: pos _ (h.cw 1 ++ t.cw false) = _
    rw [pos_app]
    show _ :: (pos (i + 0 + 1) _ ++ pos (i + 0 + 1 + _) _) = _
    rw [hj]
  have q := q.more (w := (tl ",", i + 0)) qn rfl
  obtain ⟨ns, s1, s2, s3, s4, s5⟩ := ht _ _ q j
  refine ⟨.cons n ns, by rw [Ns.shs_cons, g.sh, s1], Ns.ok_cons.mpr ⟨g.ok, s2⟩, ?_, ?_, ?_⟩
  · rw [Ns.int_cons, g.int, s3]
    rw [Shs.need, Shs.inr]
    omega
  · intro p hp
    rw [Ns.gs_cons] at hp
    rw [e]
    rcases List.mem_append.mp hp with hp | hp
    · exact (g.gs p hp).sub (fun w hw => by simp [hw])
    · exact (s4 p hp).sub (fun w hw => by simp [hw])
  · rw [e]
    have e2 : nw ++ (tl ",", i + 0) :: (pos (i + 0 + 1) (h.cw 1) ++ pos j (t.cw false)) = nw ++ (tl ",", i + 0) :: pos (i + 0 + 1) (h.cw 1) ++ pos j (t.cw false) := by simp
    have e3 : ts ++ (Ns.cons n ns).ts = ts ++ [n.t] ++ ns.ts := by
      show ts ++ (n.t :: ns.ts) = _
      simp
    rw [e2, e3]
    exact s5
theorem bk_cal0 {x : Str} (hx : NamOk x) : Bk k (.cal x .nil) b i := by
  generalize hj : i + b + (tl x).length = j
  have e : pos i ((Sh.cal x .nil).cw b) = [(tl x, i + b), (tl "(", j + 0), (tl ")", j + 0 + 1 + 0)] := by
    unfold Sh.cw Shs.cw
    rw [← hj]
    rfl
  have q := rds0_call0 (w := (tl x, i + b)) (p1 := (tl "(", j + 0)) (p2 := (tl ")", j + 0 + 1 + 0)) hx.1 rfl rfl
  refine Bk.ofR (n := .nd "call" true (i + b) (j + 0 + 1 + 0 + 1) [.str x] [] .nil) rfl (got0 (by rw [sh_cal, Ns.shs_nil]) (call_ok Ns.ok_nil) (by rw [Nd.int_nd, Ns.int_nil]; unfold Sh.need Sh.inr Shs.need Shs.inr; rfl) (by rw [Nd.gs_nd, Ns.gs_nil]; rfl)) ?_
  rw [e, call_nd, Ns.ds_nil]
  rw [strL_tlS] at q
  exact .ofS (rk := 8) (by decide) (q.mono (Nat.zero_le _))
theorem bk_cal1 {x : Str} {h : Sh} {t : Shs} (hx : NamOk x) (hh : ∀ b i, Bk k h b i) (ht : Bks k t) : Bk (k + 1) (.cal x (.cons h t)) b i := by
  generalize hj : i + b + (tl x).length = j
  generalize hj2 : j + 0 + 1 + (txt (h.cw 0)).length = j2
  generalize hj3 : j2 + (txt (t.cw false)).length = j3
  have e : pos i ((Sh.cal x (.cons h t)).cw b) = (tl x, i + b) :: (tl "(", j + 0) :: (pos (j + 0 + 1) (h.cw 0) ++ pos j2 (t.cw false) ++ [(tl ")", j3 + 0)]) := by
    rw [Sh.cw]
    rw [Shs.cw, if_pos rfl]
    show (tl x, i + b) :: (tl "(", i + b + (tl x).length + 0) :: pos (i + b + (tl x).length + 0 + 1) _ = _
    rw [pos_app, pos_app, hj, hj2, txt_app, List.length_append, ← Nat.add_assoc, hj2, hj3]
    rfl
  obtain ⟨n, g, q⟩ := bk_v hh 0 (j + 0 + 1)
  obtain ⟨ns, s1, s2, s3, s4, s5⟩ := ht _ _ q.a j2
  have q := rds0_call (w := (tl x, i + b)) (p1 := (tl "(", j + 0)) (p2 := (tl ")", j3 + 0)) s5 hx.1 rfl rfl
  refine Bk.ofR (n := .nd "call" true (i + b) (j3 + 0 + 1) [.str x] [] (.cons n ns)) rfl ⟨by rw [sh_cal, Ns.shs_cons, g.sh, s1], call_ok (Ns.ok_cons.mpr ⟨g.ok, s2⟩), ?_, ?_⟩ ?_
  · rw [Nd.int_nd, Ns.int_cons, g.int, s3, Sh.need, Sh.inr, Shs.need, Shs.inr]
    show 1 + _ = _
    omega
  · intro p hp
    rw [Nd.gs_nd, if_neg (by decide +kernel), List.nil_append, Ns.gs_cons] at hp
    rw [e]
    rcases List.mem_append.mp hp with hp | hp
    · exact (g.gs p hp).sub (fun w hw => by simp [hw])
    · exact (s4 p hp).sub (fun w hw => by simp [hw])
  · rw [e, call_nd, Ns.ds_ts]
    rw [strL_tlS] at q
    exact .ofS (rk := 8) (by decide) q
end
mutual
theorem Sh.bk : ∀ (s : Sh), s.fine → ∀ k, 2 * s.hgt ≤ k → ∀ b i, Bk k s b i
  | .num v, h, k, _, b, i => bk_num (by unfold Sh.fine at h; exact h)
  | .tru x, h, k, _, b, i => bk_tru
  | .nam x, h, k, _, b, i => bk_nam (by unfold Sh.fine at h; exact h)
  | .cal x .nil, h, k, _, b, i => bk_cal0 (by unfold Sh.fine at h; exact h.1)
  | .cal x (.cons a t), h, k, hk, b, i => by
    unfold Sh.fine Shs.fine at h
    unfold Sh.hgt Shs.hgt at hk
    obtain ⟨k, rfl⟩ : ∃ k', k = k' + 1 := ⟨k - 1, by omega⟩
    exact bk_cal1 h.1 (Sh.bk a h.2.1 k (by omega)) (Shs.bk t h.2.2 k (by omega))
  | .fld t x, h, k, hk, b, i => by
    unfold Sh.fine at h
    unfold Sh.hgt at hk
    exact bk_fld h.1 h.2.1 (Sh.bk t h.2.2 k (by omega))
  | .bin w l r, h, k, hk, b, i => by
    unfold Sh.fine at h
    unfold Sh.hgt at hk
    obtain ⟨k, rfl⟩ : ∃ k', k = k' + 1 := ⟨k - 1, by omega⟩
    exact bk_bin h.1.1 h.1.2 (Sh.bk l h.2.1 k (by omega)) (Sh.bk r h.2.2 k (by omega))
  | .nt t, h, k, hk, b, i => by
    unfold Sh.fine at h
    unfold Sh.hgt at hk
    obtain ⟨k, rfl⟩ : ∃ k', k = k' + 2 := ⟨k - 2, by omega⟩
    exact bk_nt (Sh.bk t h k (by omega))
  | .mn t, h, k, hk, b, i => by
    unfold Sh.fine at h
    unfold Sh.hgt at hk
    obtain ⟨k, rfl⟩ : ∃ k', k = k' + 2 := ⟨k - 2, by omega⟩
    exact bk_mn (Sh.bk t h k (by omega))
  | .ite x y z, h, k, hk, b, i => by
    unfold Sh.fine at h
    unfold Sh.hgt at hk
    obtain ⟨k, rfl⟩ : ∃ k', k = k' + 1 := ⟨k - 1, by omega⟩
    exact bk_ite (Sh.bk x h.1 k (by omega)) (Sh.bk y h.2.1 k (by omega)) (Sh.bk z h.2.2 k (by omega))
  | .lt nm x y, h, k, hk, b, i => by
    unfold Sh.fine at h
    unfold Sh.hgt at hk
    obtain ⟨k, rfl⟩ : ∃ k', k = k' + 1 := ⟨k - 1, by omega⟩
    exact bk_lt h.1 (Sh.bk x h.2.1 k (by omega)) (Sh.bk y h.2.2 k (by omega))
  | .lp nm x y z, h, k, hk, b, i => by
    unfold Sh.fine at h
    unfold Sh.hgt at hk
    obtain ⟨k, rfl⟩ : ∃ k', k = k' + 1 := ⟨k - 1, by omega⟩
    exact bk_lp h.1 (Sh.bk x h.2.1 k (by omega)) (Sh.bk y h.2.2.1 k (by omega)) (Sh.bk z h.2.2.2 k (by omega))
theorem Shs.bk : ∀ (as : Shs), as.fine → ∀ k, 2 * as.hgt ≤ k → Bks k as
  | .nil, _, k, _ => bks_nil
  | .cons a t, h, k, hk => by
    unfold Shs.fine at h
    unfold Shs.hgt at hk
    exact bks_cons (Sh.bk a h.1 k (by omega)) (Shs.bk t h.2 k (by omega))
end
end Sn

/-! The text of these words: its tokens, no two blanks, how many words make inner nodes; a text with a group taken out. -/
namespace Sn
open PySem PySem.Spec PyProof.Rows L2 TL
/-- a sign that does not melt -/
def sfc (c : Nat) : Bool := !isW c && c != 61
def sfl (w : List Nat) : Bool := match w.getLast? with
  | some c => sfc c
  | none => true
def sfh (w : List Nat) : Bool := match w.head? with
  | some c => sfc c
  | none => true
theorem jn_soft {l m : List Nat} (h : (∀ c, l.getLast? = some c → sfc c = true) ∨ sfh m = true) : Jn l m := by
  intro c d h1 h2
  unfold melt
  rcases h with h | h
  · have := h c h1
    unfold sfc at this
    rw [Bool.and_eq_true] at this
    have k1 : isW c = false := by simpa using this.1
    have k2 : (c == 61) = false := by simpa using this.2
    rw [k1, k2]
    rfl
  · unfold sfh at h
    rw [h2] at h
    have h : sfc d = true := h
    unfold sfc at h
    rw [Bool.and_eq_true] at h
    have k1 : isW d = false := by simpa using h.1
    have k2 : (d == 61) = false := by simpa using h.2
    rw [k1, k2]
    simp
/-- words that may stand side by side; e: what stands in front doesn't melt -/
def Wl : Bool → List PW → Prop
  | _, [] => True
  | e, p :: r => (p.1 ≠ 0 ∨ e = true ∨ sfh p.2 = true) ∧ (p.1 ≤ 1 ∧ tkOk0 p.2 = true ∧ p.2.length ≤ 25) ∧ Wl (sfl p.2) r
theorem Wl.weak : ∀ {x : List PW} {e e' : Bool}, (e = true → e' = true) → Wl e x → Wl e' x
  | [], _, _, _, _ => trivial
  | p :: r, e, e', h, ⟨a, b, c⟩ => ⟨a.imp id (Or.imp h id), b, c⟩
theorem Wl.any {x : List PW} {e : Bool} (h : Wl false x) : Wl e x := h.weak (fun k => by cases k)
theorem Wl.app : ∀ {x y : List PW} {e : Bool}, Wl e x → (∀ e, Wl e y) → Wl e (x ++ y)
  | [], _, _, _, h => h _
  | p :: r, y, e, ⟨a, b, c⟩, h => ⟨a, b, Wl.app c h⟩
theorem Wl.left : ∀ {x y : List PW} {e : Bool}, Wl e (x ++ y) → Wl e x
  | [], _, _, _ => trivial
  | p :: r, y, e, ⟨a, b, c⟩ => ⟨a, b, Wl.left c⟩
theorem Wl.right : ∀ {x y : List PW} {e : Bool}, Wl e (x ++ y) → ∃ e', Wl e' y
  | [], _, e, h => ⟨e, h⟩
  | p :: r, y, e, ⟨a, b, c⟩ => Wl.right c
theorem wl_cons {b : Nat} {w : List Nat} {r : List PW} {e : Bool} (h0 : b ≤ 1) (hb : b ≠ 0 ∨ e = true ∨ sfh w = true) (h1 : tkOk0 w = true) (h2 : w.length ≤ 25) (h : Wl (sfl w) r) : Wl e ((b, w) :: r) := ⟨hb, ⟨h0, h1, h2⟩, h⟩
/-- words by which a shape is written -/
def Ww (s : Sh) : Prop := ∀ b e, b ≤ 1 → (b ≠ 0 ∨ e = true) → Wl e (s.cw b)
theorem ww_wrp {s : Sh} {r : Nat} (h : Ww s) {b : Nat} {e : Bool} (h0 : b ≤ 1) (hb : b ≠ 0 ∨ e = true) : Wl e (wrp r s.rk s.cw b) := by
  unfold wrp
  split
  · refine wl_cons h0 (hb.imp id .inl) (by decide +kernel) (by decide +kernel) ?_
    exact (h 0 _ (by decide) (.inr (by decide +kernel))).app fun e => wl_cons (by decide) (.inr (.inr (by decide +kernel))) (by decide +kernel) (by decide +kernel) trivial
  · exact h b e h0 hb
mutual
theorem Sh.ww : ∀ s : Sh, s.fine → Ww s
  | .num v, h, b, e, h0, hb => by
    rw [Sh.fine] at h
    rw [Sh.cw]
    exact wl_cons h0 (hb.imp id .inl) h.all.2.1 h.all.2.2.1 trivial
  | .tru x, h, b, e, h0, hb => by
    rw [Sh.cw]
    exact wl_cons h0 (hb.imp id .inl) (by cases x <;> decide +kernel) (by cases x <;> decide +kernel) trivial
  | .nam x, h, b, e, h0, hb => by
    rw [Sh.fine] at h
    rw [Sh.cw]
    exact wl_cons h0 (hb.imp id .inl) h.2.1 h.2.2 trivial
  | .cal x as, h, b, e, h0, hb => by
    rw [Sh.fine] at h
    rw [Sh.cw]
    refine wl_cons h0 (hb.imp id .inl) h.1.2.1 h.1.2.2 (wl_cons (by decide) (.inr (.inr (by decide +kernel))) (by decide +kernel) (by decide +kernel) ?_)
    exact (Shs.ww as h.2 true _ (.inr (by decide +kernel))).app fun e => wl_cons (by decide) (.inr (.inr (by decide +kernel))) (by decide +kernel) (by decide +kernel) trivial
  | .fld t x, h, b, e, h0, hb => by
    rw [Sh.fine] at h
    rw [Sh.cw]
    exact (ww_wrp (Sh.ww t h.2.2) h0 hb).app fun e => wl_cons (by decide) (.inr (.inr (by decide +kernel))) (by decide +kernel) (by decide +kernel) (wl_cons (by decide) (.inr (.inl (by decide +kernel))) h.1.2.1 h.1.2.2 trivial)
  | .bin w l r, h, b, e, h0, hb => by
    rw [Sh.fine] at h
    rw [Sh.cw]
    obtain ⟨_, _, _, _, _, _, _, o1, o2, _⟩ := ops_rk _ h.1.1
    exact (ww_wrp (Sh.ww l h.2.1) h0 hb).app fun e => wl_cons (by decide) (.inl (by decide)) o1 o2 (ww_wrp (Sh.ww r h.2.2) (by decide) (.inl (by decide)))
  | .nt t, h, b, e, h0, hb => by
    rw [Sh.fine] at h
    rw [Sh.cw]
    exact wl_cons h0 (hb.imp id .inl) (by decide +kernel) (by decide +kernel) (ww_wrp (Sh.ww t h) (by decide) (.inl (by decide)))
  | .mn t, h, b, e, h0, hb => by
    rw [Sh.fine] at h
    rw [Sh.cw]
    exact wl_cons h0 (hb.imp id .inl) (by decide +kernel) (by decide +kernel) (ww_wrp (Sh.ww t h) (by decide) (.inr (by decide +kernel)))
  | .ite x y z, h, b, e, h0, hb => by
    rw [Sh.fine] at h
    rw [Sh.cw]
    refine wl_cons h0 (hb.imp id .inl) (by decide +kernel) (by decide +kernel) ?_
    refine (Sh.ww x h.1 1 _ (by decide) (.inl (by decide))).app fun e => wl_cons (by decide) (.inl (by decide)) (by decide +kernel) (by decide +kernel) ?_
    refine (Sh.ww y h.2.1 1 _ (by decide) (.inl (by decide))).app fun e => wl_cons (by decide) (.inl (by decide)) (by decide +kernel) (by decide +kernel) ?_
    exact Sh.ww z h.2.2 1 _ (by decide) (.inl (by decide))
  | .lt nm x y, h, b, e, h0, hb => by
    rw [Sh.fine] at h
    rw [Sh.cw]
    refine wl_cons h0 (hb.imp id .inl) (by decide +kernel) (by decide +kernel) (wl_cons (by decide) (.inl (by decide)) h.1.2.1 h.1.2.2 (wl_cons (by decide) (.inl (by decide)) (by decide +kernel) (by decide +kernel) ?_))
    refine (Sh.ww x h.2.1 1 _ (by decide) (.inl (by decide))).app fun e => wl_cons (by decide) (.inl (by decide)) (by decide +kernel) (by decide +kernel) ?_
    exact Sh.ww y h.2.2 1 _ (by decide) (.inl (by decide))
  | .lp nm x y z, h, b, e, h0, hb => by
    rw [Sh.fine] at h
    rw [Sh.cw]
    refine wl_cons h0 (hb.imp id .inl) (by decide +kernel) (by decide +kernel) (wl_cons (by decide) (.inl (by decide)) h.1.2.1 h.1.2.2 (wl_cons (by decide) (.inl (by decide)) (by decide +kernel) (by decide +kernel) ?_))
    refine (Sh.ww x h.2.1 1 _ (by decide) (.inl (by decide))).app fun e => wl_cons (by decide) (.inl (by decide)) (by decide +kernel) (by decide +kernel) ?_
    refine (Sh.ww y h.2.2.1 1 _ (by decide) (.inl (by decide))).app fun e => wl_cons (by decide) (.inl (by decide)) (by decide +kernel) (by decide +kernel) ?_
    exact Sh.ww z h.2.2.2 1 _ (by decide) (.inl (by decide))
theorem Shs.ww : ∀ as : Shs, as.fine → ∀ (k : Bool) (e : Bool), (k = false ∨ e = true) → Wl e (as.cw k)
  | .nil, _, k, e, _ => by
    rw [Shs.cw]
    trivial
  | .cons a t, h, true, e, hk => by
    rw [Shs.fine] at h
    rw [Shs.cw, if_pos rfl]
    exact (Sh.ww a h.1 0 e (by decide) (.inr (hk.resolve_left (by decide)))).app fun e => Shs.ww t h.2 false e (.inl rfl)
  | .cons a t, h, false, e, hk => by
    rw [Shs.fine] at h
    rw [Shs.cw, if_neg (by decide)]
    exact wl_cons (by decide) (.inr (.inr (by decide +kernel))) (by decide +kernel) (by decide +kernel) ((Sh.ww a h.1 1 _ (by decide) (.inl (by decide))).app fun e => Shs.ww t h.2 false e (.inl rfl))
end
/-! ### laid out -/
/-- a text, its words, the blanks at its end, whether what stands in front of these melts -/
structure Lay (l : List Nat) (ws : List Wd) (g : Nat) (e : Bool) : Prop where
  ex : ∃ l0, TX0 l0 ws ∧ l = l0 ++ gp g ∧ (e = true → ∀ c, l0.getLast? = some c → sfc c = true)
theorem gp_add (a b : Nat) : gp a ++ gp b = gp (a + b) := List.replicate_append_replicate
theorem gp_len (b : Nat) : (gp b).length = b := List.length_replicate
theorem gp0_gp : ∀ b : Nat, Gp0 (gp b)
  | 0 => gp0_nil
  | b + 1 => gp0_blank (.inl rfl) (gp0_gp b)
theorem Lay.nil : Lay [] [] 0 true := ⟨[], tx0_nil, rfl, fun _ c h => by cases h⟩
theorem Lay.blank {l : List Nat} {ws : List Wd} {g : Nat} {e : Bool} (L : Lay l ws g e) (m : Nat) : Lay (l ++ gp m) ws (g + m) e := by
  obtain ⟨l0, X, rfl, h⟩ := L.ex
  exact ⟨l0, X, by rw [List.append_assoc, gp_add], h⟩
theorem Lay.word {l : List Nat} {ws : List Wd} {g b : Nat} {e : Bool} {w : List Nat} (L : Lay l ws g e) (hg : g + b ≤ 15) (h1 : tkOk0 w = true) (h2 : w.length ≤ 25) (hj : g + b ≠ 0 ∨ e = true ∨ sfh w = true) : Lay (l ++ gp b ++ w) (ws ++ [(w, l.length + b)]) 0 (sfl w) := by
  obtain ⟨l0, X, rfl, h⟩ := L.ex
  have el : (l0 ++ gp g).length + b = l0.length + (gp (g + b)).length := by rw [List.length_append, gp_len, gp_len]; omega
  have ex : l0 ++ gp g ++ gp b ++ w = l0 ++ gp (g + b) ++ w := by rw [List.append_assoc l0, gp_add]
  rw [el, ex]
  refine ⟨_, X.put (gp0_gp _) h1 (fun e0 => ?_) (by rw [gp_len]; exact hg) h2, by rw [show gp 0 = [] from rfl, List.append_nil], fun hs c hc => ?_⟩
  · rcases hj with hj | hj | hj
    · have : (gp (g + b)).length = 0 := by rw [e0]; rfl
      rw [gp_len] at this
      omega
    · exact jn_soft (.inl (h hj))
    · exact jn_soft (.inr hj)
  · obtain ⟨z, hz⟩ : ∃ z, w.getLast? = some z := Option.isSome_iff_exists.mp (List.getLast?_isSome.mpr (fun e0 => by rw [e0] at h1; cases h1))
    rw [List.getLast?_append, hz] at hc
    cases hc
    unfold sfl at hs
    rw [hz] at hs
    exact hs
theorem Lay.list : ∀ {x : List PW} {l : List Nat} {ws : List Wd} {g : Nat} {e e' : Bool}, Lay l ws g e → g + 1 ≤ 15 → Wl e' x → (e' = true → g ≠ 0 ∨ e = true) → ∃ g' e', g' ≤ g ∧ Lay (l ++ txt x) (ws ++ pos l.length x) g' e'
  | [], l, ws, g, e, e', L, _, _, _ => ⟨g, e, Nat.le_refl _, by
    rw [show txt [] = [] from rfl, show pos l.length [] = [] from rfl, List.append_nil, List.append_nil]
    exact L⟩
  | (b, w) :: r, l, ws, g, e, e', L, hg, ⟨a, ⟨b1, b2, b3⟩, c⟩, he => by
    have b1 : b ≤ 1 := b1
    have L1 := L.word (b := b) (w := w) (by omega) b2 b3 (by
      rcases a with a | a | a
      · exact .inl (by have a : b ≠ 0 := a; omega)
      · rcases he a with h | h
        · exact .inl (by omega)
        · exact .inr (.inl h)
      · exact .inr (.inr a))
    obtain ⟨g', e'', h1, h2⟩ := L1.list (by decide) c (fun h => .inr h)
    refine ⟨g', e'', by omega, ?_⟩
    have e1 : l ++ gp b ++ w ++ txt r = l ++ txt ((b, w) :: r) := by
      show _ = l ++ (gp b ++ (w ++ txt r))
      simp
    have e2 : ws ++ [(w, l.length + b)] ++ pos (l ++ gp b ++ w).length r = ws ++ pos l.length ((b, w) :: r) := by
      show _ = ws ++ (w, l.length + b) :: pos (l.length + b + w.length) r
      rw [List.append_assoc, List.length_append, List.length_append, gp_len]
      rfl
    rw [← e1, ← e2]
    exact h2
theorem Lay.has {l : List Nat} {ws : List Wd} {g : Nat} {e : Bool} (L : Lay l ws g e) (r : Addr) : HasW ⟨r, l, toks l 0 l.length⟩ ws := by
  obtain ⟨l0, X, rfl, _⟩ := L.ex
  refine ⟨?_, fun w h => ?_⟩
  · have hj : Jn l0 (gp g) := by
      cases g with
      | zero => exact fun c d _ h => by cases h
      | succ g => exact jn_blank _ _ (.inl rfl)
    have d1 : (l0 ++ gp g).drop l0.length = gp g ++ [] := by simp
    show toks (l0 ++ gp g) 0 (l0 ++ gp g).length = _
    rw [X.tk _ hj, (gp0_gp g).2 _ _ [] d1 (by simp), toks_end (by simp), List.append_nil]
  · obtain ⟨k1, k2⟩ := X.sl w h
    show ((l0 ++ gp g).drop w.2).take w.1.length = w.1
    rw [List.drop_append_of_le_length (by omega), List.take_append_of_le_length (by rw [List.length_drop]; omega)]
    exact k2
/-! ### counts -/
def cn (ws : List (List Nat)) : Nat := match ws with
  | [] => 0
  | w :: r => (if opW w = true then 1 else 0) + cn r
theorem cn_app : ∀ x y : List (List Nat), cn (x ++ y) = cn x + cn y
  | [], y => by
    show cn y = 0 + cn y
    omega
  | w :: r, y => by
    show _ + cn (r ++ y) = _ + cn r + cn y
    rw [cn_app r y]
    omega
def cp (x : List PW) : Nat := cn (x.map (·.2))
theorem cp_app (x y : List PW) : cp (x ++ y) = cp x + cp y := by unfold cp; rw [List.map_append, cn_app]
theorem cp_cons (b : Nat) (w : List Nat) (r : List PW) : cp ((b, w) :: r) = (if opW w = true then 1 else 0) + cp r := rfl
theorem cp_1 (b : Nat) {w : List Nat} (r : List PW) (h : opW w = true) : cp ((b, w) :: r) = 1 + cp r := by rw [cp_cons, if_pos h]
theorem cp_0 (b : Nat) {w : List Nat} (r : List PW) (h : opW w = false) : cp ((b, w) :: r) = cp r := by rw [cp_cons, if_neg (by rw [h]; decide)]; omega
theorem cp_nil : cp [] = 0 := rfl
theorem ops_sort : ∀ w ∈ ops, sortW w ≠ "name" ∧ sortW w ≠ "number" := by decide +kernel
theorem opW_nam {x : Str} (h : NamOk x) : opW (tl x) = false := decide_eq_false fun k => (ops_sort _ k).1 h.1
theorem opW_num {v : Int} (h : NumOk v) : opW (numW v) = false := decide_eq_false fun k => (ops_sort _ k).2 h.all.1
theorem cp_wrp {s : Sh} {r : Nat} (h : ∀ b, cp (s.cw b) = s.need + s.inr) (b : Nat) : cp (wrp r s.rk s.cw b) = wr r s + s.need + s.inr := by
  unfold wrp wr
  split
  · rw [cp_1 _ _ (by decide +kernel), cp_app, h, cp_0 _ _ (by decide +kernel), cp_nil]
    omega
  · rw [h]
    omega
mutual
theorem Sh.cp : ∀ s : Sh, s.fine → ∀ b, cp (s.cw b) = s.need + s.inr
  | .num v, h, b => by
    rw [Sh.fine] at h
    rw [Sh.cw, cp_0 _ _ (opW_num h), Sh.need, Sh.inr]
    rfl
  | .tru x, h, b => by
    rw [Sh.cw, cp_0 _ _ (by cases x <;> decide +kernel), Sh.need, Sh.inr]
    rfl
  | .nam x, h, b => by
    rw [Sh.fine] at h
    rw [Sh.cw, cp_0 _ _ (opW_nam h), Sh.need, Sh.inr]
    rfl
  | .cal x as, h, b => by
    rw [Sh.fine] at h
    rw [Sh.cw, cp_0 _ _ (opW_nam h.1), cp_1 _ _ (by decide +kernel), cp_app, Shs.cp as h.2, cp_0 _ _ (by decide +kernel), cp_nil, Sh.need, Sh.inr]
    omega
  | .fld t x, h, b => by
    rw [Sh.fine] at h
    rw [Sh.cw, cp_app, cp_wrp (Sh.cp t h.2.2), cp_1 _ _ (by decide +kernel), cp_0 _ _ (opW_nam h.1), cp_nil, Sh.need, Sh.inr]
    omega
  | .bin w l r, h, b => by
    rw [Sh.fine] at h
    obtain ⟨_, _, _, _, _, _, _, _, _, o3⟩ := ops_rk _ h.1.1
    rw [Sh.cw, cp_app, cp_wrp (Sh.cp l h.2.1), cp_1 _ _ o3, cp_wrp (Sh.cp r h.2.2), Sh.need, Sh.inr]
    omega
  | .nt t, h, b => by
    rw [Sh.fine] at h
    rw [Sh.cw, cp_1 _ _ (by decide +kernel), cp_wrp (Sh.cp t h), Sh.need, Sh.inr]
    omega
  | .mn t, h, b => by
    rw [Sh.fine] at h
    rw [Sh.cw, cp_1 _ _ (by decide +kernel), cp_wrp (Sh.cp t h), Sh.need, Sh.inr]
    omega
  | .ite x y z, h, b => by
    rw [Sh.fine] at h
    rw [Sh.cw, cp_1 _ _ (by decide +kernel), cp_app, Sh.cp x h.1, cp_0 _ _ (by decide +kernel), cp_app, Sh.cp y h.2.1, cp_0 _ _ (by decide +kernel), Sh.cp z h.2.2, Sh.need, Sh.inr]
    omega
  | .lt nm x y, h, b => by
    rw [Sh.fine] at h
    rw [Sh.cw, cp_1 _ _ (by decide +kernel), cp_0 _ _ (opW_nam h.1), cp_0 _ _ (by decide +kernel), cp_app, Sh.cp x h.2.1, cp_0 _ _ (by decide +kernel), Sh.cp y h.2.2, Sh.need, Sh.inr]
    omega
  | .lp nm x y z, h, b => by
    rw [Sh.fine] at h
    rw [Sh.cw, cp_1 _ _ (by decide +kernel), cp_0 _ _ (opW_nam h.1), cp_0 _ _ (by decide +kernel), cp_app, Sh.cp x h.2.1, cp_0 _ _ (by decide +kernel), cp_app, Sh.cp y h.2.2.1, cp_0 _ _ (by decide +kernel), Sh.cp z h.2.2.2, Sh.need, Sh.inr]
    omega
theorem Shs.cp : ∀ as : Shs, as.fine → ∀ k, cp (as.cw k) = as.need + as.inr
  | .nil, _, k => by
    rw [Shs.cw, Shs.need, Shs.inr]
    rfl
  | .cons a t, h, true => by
    rw [Shs.fine] at h
    rw [Shs.cw, if_pos rfl, cp_app, Sh.cp a h.1, Shs.cp t h.2, Shs.need, Shs.inr]
    omega
  | .cons a t, h, false => by
    rw [Shs.fine] at h
    rw [Shs.cw, if_neg (by decide), List.cons_append, cp_0 _ _ (by decide +kernel), cp_app, Sh.cp a h.1, Shs.cp t h.2, Shs.need, Shs.inr]
    omega
end
theorem pc_at {S : Src} : ∀ {r : List Wd} {a : Nat}, At S a r → S.pc (a + r.length) = S.pc a + cn (r.map (·.1))
  | [], a, _ => rfl
  | w :: r, a, h => by
    have k := pc_at h.next
    have e : a + (w :: r).length = a + 1 + r.length := by rw [List.length_cons]; omega
    rw [e, k]
    show S.pc a + (if opW (S.wd a) = true then 1 else 0) + _ = S.pc a + ((if opW w.1 = true then 1 else 0) + cn (r.map (·.1)))
    rw [h.wd]
    omega
theorem pc_has {S : Src} {ws : List Wd} (h : HasW S ws) {b : Nat} (hb : b ≤ S.n) : S.pc b ≤ cn (ws.map (·.1)) := by
  have k := pc_at (S := S) (a := 0) (r := ws) ⟨[], h, rfl⟩
  have e : S.n = ws.length := by unfold Src.n; rw [h.ts, List.length_map]
  refine Nat.le_trans (pc_mono hb) ?_
  rw [e]
  rw [Nat.zero_add] at k
  rw [k]
  exact Nat.le_of_eq (Nat.zero_add _)
end Sn

/-! The printed text as a whole; with a group taken out it is no tree of the same shape. -/
namespace Sn
open PySem PySem.Spec PyProof.Rows L2 TL
/-- no two blanks side by side -/
def Sg : Bool → List Nat → Prop
  | _, [] => True
  | p, c :: r => ¬ (p = true ∧ c = 32) ∧ Sg (c == 32) r
theorem Sg.weak : ∀ {l : List Nat} {p : Bool}, Sg p l → Sg false l
  | [], _, _ => trivial
  | c :: r, p, ⟨a, b⟩ => ⟨fun h => (by cases h.1), b⟩
theorem sg_two : ∀ (a : List Nat) {c : List Nat} {p : Bool}, ¬ Sg p (a ++ 32 :: 32 :: c)
  | [], c, p, ⟨_, h⟩ => h.1 ⟨rfl, rfl⟩
  | x :: r, c, p, ⟨_, h⟩ => sg_two r h
theorem sg_word : ∀ {w r : List Nat} {p : Bool}, w ≠ [] → 32 ∉ w → Sg false r → Sg p (w ++ r)
  | [c], r, p, _, h, k => by
    have hc : c ≠ 32 := fun e => h (by simp [e])
    refine ⟨fun q => hc q.2, ?_⟩
    have e : (c == 32) = false := by simpa using hc
    rw [e]
    exact k
  | c :: d :: w, r, p, _, h, k => by
    have hc : c ≠ 32 := fun e => h (by simp [e])
    exact ⟨fun q => hc q.2, sg_word (w := d :: w) (by simp) (fun q => h (List.mem_cons_of_mem _ q)) k⟩
  | [], _, _, n, _, _ => absurd rfl n
theorem tk_no32 {w : List Nat} (h : tkOk0 w = true) : 32 ∉ w := by
  cases w with
  | nil => simp
  | cons c r =>
    rw [tkOk_cons0] at h
    intro k
    by_cases h1 : isL c = true
    · rw [if_pos h1] at h
      rcases List.mem_cons.mp k with k | k
      · rw [← k] at h1
        cases h1
      · have := List.all_eq_true.mp h _ k
        cases this
    · rw [if_neg h1] at h
      by_cases h2 : isD c = true
      · rw [if_pos h2] at h
        rcases List.mem_cons.mp k with k | k
        · rw [← k] at h2
          cases h2
        · have := List.all_eq_true.mp h _ k
          cases this
      · rw [if_neg h2, Bool.or_eq_true] at h
        rcases h with h | h
        · rw [of_decide_eq_true h] at k
          simp at k
        · rw [Bool.and_eq_true] at h
          have e : r = [] := by simpa using h.1
          subst e
          rw [List.mem_singleton] at k
          subst k
          simp at h
theorem tk_ne {w : List Nat} (h : tkOk0 w = true) : w ≠ [] := fun e => by rw [e] at h; cases h
theorem sg_wl : ∀ {x : List PW} {e : Bool}, Wl e x → Sg false (txt x)
  | [], _, _ => trivial
  | (b, w) :: r, e, ⟨_, ⟨b1, b2, _⟩, c⟩ => by
    show Sg false (gp b ++ (w ++ txt r))
    have k : ∀ p, Sg p (w ++ txt r) := fun p => sg_word (tk_ne b2) (tk_no32 b2) (sg_wl c)
    have b1 : b ≤ 1 := b1
    rcases Nat.le_one_iff_eq_zero_or_eq_one.mp b1 with rfl | rfl
    · exact k _
    · exact ⟨fun h => (by cases h.1), k _⟩
/-! ### where the words are -/
theorem pos_mem : ∀ {x : List PW} {i q : Nat} {w : List Nat}, (w, q) ∈ pos i x → ∃ x1 b x2, x = x1 ++ (b, w) :: x2 ∧ q = i + (txt x1).length + b
  | [], _, _, _, h => by cases h
  | (b, v) :: r, i, q, w, h => by
    rcases List.mem_cons.mp h with h | h
    · cases h
      exact ⟨[], b, r, rfl, rfl⟩
    · obtain ⟨x1, c, x2, e, h2⟩ := pos_mem h
      refine ⟨(b, v) :: x1, c, x2, by rw [e]; rfl, ?_⟩
      show _ = i + (gp b ++ (v ++ txt x1)).length + c
      rw [List.length_append, List.length_append, gp_len, h2]
      show i + b + v.length + _ + c = _
      omega
theorem wl_mem {x y : List PW} {b : Nat} {w : List Nat} {e : Bool} (h : Wl e (x ++ (b, w) :: y)) : b ≤ 1 ∧ tkOk0 w = true ∧ ∃ e', Wl e' y := by
  obtain ⟨e', _, ⟨h1, h2, _⟩, h3⟩ := h.right
  exact ⟨h1, h2, _, h3⟩
theorem txt_w (b : Nat) (w : List Nat) (x : List PW) : txt ((b, w) :: x) = gp b ++ (w ++ txt x) := rfl
/-- the words with a pair of brackets taken out -/
theorem gone {x : List PW} (hx : Wl true x) {p : Nat × Nat} (hp : InG (pos 0 x) p) (r : Addr) {l' : List Nat}
    (hl : l' = (txt x).take p.1 ++ 32 :: (((txt x).drop (p.1 + 1)).take (p.2 - 1 - (p.1 + 1)) ++ 32 :: (txt x).drop p.2)) :
    ∃ (ws : List Wd) (u v w : List (List Nat)), HasW ⟨r, l', toks l' 0 l'.length⟩ ws ∧ x.map (·.2) = u ++ tl "(" :: (v ++ tl ")" :: w) ∧ ws.map (·.1) = u ++ v ++ w := by
  obtain ⟨s, e⟩ := p
  obtain ⟨q, ⟨h1, h2⟩, h3, h4⟩ := hp
  have h1 : e = q + 1 := h1
  have h2 : s < q := h2
  subst h1
  obtain ⟨x1, b, x2, rfl, hs⟩ := pos_mem h3
  have hs : s = 0 + (txt x1).length + b := hs
  have hx2 : ∃ y b2 z, x2 = y ++ (b2, tl ")") :: z ∧ q = s + 1 + (txt y).length + b2 := by
    rw [pos_app] at h4
    rcases List.mem_append.mp h4 with h4 | h4
    · obtain ⟨y1, c, y2, rfl, hq⟩ := pos_mem h4
      rw [txt_app, List.length_append, txt_w, List.length_append, gp_len] at hs
      omega
    · rcases List.mem_cons.mp h4 with h4 | h4
      · cases h4
      · obtain ⟨y, c, z, rfl, hq⟩ := pos_mem h4
        refine ⟨y, c, z, rfl, ?_⟩
        rw [hq, hs]
        rfl
  obtain ⟨y, b2, z, rfl, hq⟩ := hx2
  obtain ⟨b1, _, e1, w2⟩ := wl_mem hx
  obtain ⟨b3, _, e2, w3⟩ := wl_mem w2
  have et : txt (x1 ++ (b, tl "(") :: (y ++ (b2, tl ")") :: z)) = txt x1 ++ gp b ++ (40 :: (txt y ++ gp b2 ++ (41 :: txt z))) := by
    rw [txt_app, txt_w, txt_app, txt_w]
    show txt x1 ++ (gp b ++ (40 :: (txt y ++ (gp b2 ++ (41 :: txt z))))) = _
    simp
  have ls : (txt x1 ++ gp b).length = s := by rw [List.length_append, gp_len, hs]; omega
  have lq : (txt y ++ gp b2).length = q + 1 - 1 - (s + 1) := by rw [List.length_append, gp_len, hq]; omega
  have e40 : txt x1 ++ gp b ++ (40 :: (txt y ++ gp b2 ++ (41 :: txt z))) = (txt x1 ++ gp b ++ [40]) ++ (txt y ++ gp b2 ++ (41 :: txt z)) := by simp
  have e41 : txt x1 ++ gp b ++ (40 :: (txt y ++ gp b2 ++ (41 :: txt z))) = (txt x1 ++ gp b ++ [40] ++ (txt y ++ gp b2) ++ [41]) ++ txt z := by simp
  have hl' : l' = txt x1 ++ gp (b + 1) ++ txt y ++ gp (b2 + 1) ++ txt z := by
    have p1 : (txt x1 ++ gp b ++ (40 :: (txt y ++ gp b2 ++ (41 :: txt z)))).take s = txt x1 ++ gp b := by rw [← ls, List.take_left']; rfl
    have p2 : (txt x1 ++ gp b ++ (40 :: (txt y ++ gp b2 ++ (41 :: txt z)))).drop (s + 1) = txt y ++ gp b2 ++ (41 :: txt z) := by
      rw [e40, List.drop_left' (by rw [List.length_append, ls]; rfl)]
    have p3 : (txt x1 ++ gp b ++ (40 :: (txt y ++ gp b2 ++ (41 :: txt z)))).drop (q + 1) = txt z := by
      rw [e41, List.drop_left' (by rw [List.length_append, List.length_append, List.length_append, ls, lq]; show s + 1 + (q + 1 - 1 - (s + 1)) + 1 = q + 1; omega)]
    rw [hl, et]
    show (_ : List Nat).take s ++ 32 :: ((_ : List Nat).take (q + 1 - 1 - (s + 1)) ++ 32 :: (_ : List Nat).drop (q + 1)) = _
    rw [p1, p2, p3, ← lq, List.take_left' rfl, ← gp_add, ← gp_add]
    show _ = txt x1 ++ (gp b ++ [32]) ++ txt y ++ (gp b2 ++ [32]) ++ txt z
    simp
  obtain ⟨g1, f1, k1, L⟩ := Lay.nil.list (by decide) hx.left (fun _ => .inr rfl)
  have L := L.blank (b + 1)
  obtain ⟨g2, f2, k2, L⟩ := L.list (by omega) w2.left (fun _ => .inl (by omega))
  have L := L.blank (b2 + 1)
  obtain ⟨g3, f3, k3, L⟩ := L.list (by omega) w3 (fun _ => .inl (by omega))
  have el : [] ++ txt x1 ++ gp (b + 1) ++ txt y ++ gp (b2 + 1) ++ txt z = l' := by rw [hl']; simp
  rw [el] at L
  refine ⟨_, x1.map (·.2), y.map (·.2), z.map (·.2), L.has r, ?_, ?_⟩
  · simp only [List.map_append, List.map_cons]
  · simp only [List.map_append, pos_wd, List.map_nil, List.nil_append]
/-- the text of a shape -/
def Sh.tx (s : Sh) : List Nat := txt (s.cw 0)
def Sh.ws (s : Sh) : List Wd := pos 0 (s.cw 0)
theorem Sh.has {s : Sh} (h : s.fine) (r : Addr) : HasW ⟨r, s.tx, toks s.tx 0 s.tx.length⟩ s.ws := by
  obtain ⟨g, e, _, L⟩ := Lay.nil.list (by decide) (Sh.ww s h 0 true (by decide) (.inr rfl)) (fun _ => .inr rfl)
  exact L.has r
theorem Sh.no2 {s : Sh} (h : s.fine) (a c : List Nat) : s.tx ≠ a ++ 32 :: 32 :: c := fun e => sg_two a (by
  rw [← e]
  exact sg_wl (Sh.ww s h 0 true (by decide) (.inr rfl)))
/-- read back -/
theorem Sh.back {s : Sh} (h : s.fine) (hh : s.hgt ≤ 7) (r : Addr) : ∃ n : Nd, Got s (s.need + s.inr) s.ws n ∧ (⟨r, s.tx, toks s.tx 0 s.tx.length⟩ : Src).val 16 0 0 = .ok n.t s.ws.length := by
  obtain ⟨n, g, q, _⟩ := Sh.bk s h 14 (by omega) 0 0
  refine ⟨n, g, ?_⟩
  have := q.v.2 ⟨r, s.tx, toks s.tx 0 s.tx.length⟩ 0 [] ⟨[], by
    rw [List.nil_append, List.append_nil]
    exact Sh.has h r, rfl⟩ trivial 16 0 (by decide) (by decide)
  rw [Nat.zero_add] at this
  exact this
/-- without the brackets of a group it is no tree of this shape -/
theorem Sh.needed {s : Sh} (h : s.fine) {p : Nat × Nat} (hp : InG s.ws p) (r : Addr) {l' : List Nat} (hl : l' = s.tx.take p.1 ++ 32 :: ((s.tx.drop (p.1 + 1)).take (p.2 - 1 - (p.1 + 1)) ++ 32 :: s.tx.drop p.2)) {B d : Nat} {t : Tn} {b : Nat}
    (hv : valB ⟨r, l', toks l' 0 l'.length⟩ B d 0 = .ok t b) (hb : b ≤ (⟨r, l', toks l' 0 l'.length⟩ : Src).n) : ∃ n : Nd, n.t = t ∧ n.ok ∧ n.sh ≠ s := by
  obtain ⟨ws, u, v, w, hw, e1, e2⟩ := gone (Sh.ww s h 0 true (by decide) (.inr rfl)) hp r hl
  have hc : cn (ws.map (·.1)) + 1 = Sn.cp (s.cw 0) := by
    unfold Sn.cp
    rw [e1, e2, cn_app, cn_app, cn_app]
    show _ = cn u + ((if opW (tl "(") = true then 1 else 0) + cn (v ++ tl ")" :: w))
    rw [cn_app, if_pos (by decide +kernel)]
    show _ = cn u + (1 + (cn v + ((if opW (tl ")") = true then 1 else 0) + cn w)))
    rw [if_neg (by decide +kernel)]
    omega
  obtain ⟨_, n, h1, h2, h3, h4, h5⟩ := (good_all _ B).1 d 0 t b hv
  refine ⟨n, h1, h2, fun e => ?_⟩
  have k := need_int n.ht n (Nat.le_refl _) h2 h3 0 h5
  have k2 := pc_has hw hb
  have k3 : (⟨r, l', toks l' 0 l'.length⟩ : Src).pc 0 = 0 := rfl
  rw [Sh.cp s h] at hc
  rw [e] at k
  omega
end Sn

/-! What is known of a tree that is made beside its words (k50: its text is never read): it is a node with fine names, numbers and signs. -/
namespace Sn
open PySem PySem.Spec PyProof.Rows L2 TL
abbrev tkOk := tkOk0
abbrev Gp := Gp0
theorem tk_head {s : List Nat} (hs : tkOk s = true) : ∃ c r, s = c :: r ∧ ¬ (c = 32 ∨ c = 10) ∧ c ≠ 35 := tk_head0 hs
theorem gp_nil : Gp [] := gp0_nil
theorem gp_blank {d : Nat} {g : List Nat} (hd : d = 32 ∨ d = 10) (hg : Gp g) : Gp (d :: g) := gp0_blank hd hg
def Okw (ws : List Wd) : Prop := ∀ w ∈ ws, tkOk0 w.1 = true ∧ w.1.length ≤ 25
theorem Okw.l {x y : List Wd} (h : Okw (x ++ y)) : Okw x := fun w k => h w (List.mem_append_left _ k)
theorem Okw.r {x y : List Wd} (h : Okw (x ++ y)) : Okw y := fun w k => h w (List.mem_append_right _ k)
theorem Okw.t {a : Wd} {y : List Wd} (h : Okw (a :: y)) : Okw y := fun w k => h w (List.mem_cons_of_mem _ k)
theorem Okw.h {a : Wd} {y : List Wd} (h : Okw (a :: y)) : tkOk0 a.1 = true ∧ a.1.length ≤ 25 := h a (List.mem_cons_self ..)
/-- a text printed word by word -/
structure TX (l : List Nat) (ws : List Wd) : Prop where
  to0 : TX0 l ws
  ok : Okw ws
theorem tx_nil : TX [] [] := ⟨tx0_nil, fun w h => absurd h (by simp)⟩
theorem TX.put {l : List Nat} {ws : List Wd} {g s : List Nat} (X : TX l ws) (hg : Gp g) (hs : tkOk s = true) (hj : g = [] → Jn l s) (h1 : g.length ≤ 15) (h2 : s.length ≤ 25) : TX (l ++ g ++ s) (ws ++ [(s, l.length + g.length)]) :=
  ⟨X.to0.put hg hs hj h1 h2, fun w hw => by
    rcases List.mem_append.mp hw with hw | hw
    · exact X.ok w hw
    · rw [List.mem_singleton] at hw
      subst hw
      exact ⟨hs, h2⟩⟩
theorem TX.len {l : List Nat} {ws : List Wd} (X : TX l ws) : l.length ≤ 40 * ws.length := X.to0.len
theorem TX.sl {l : List Nat} {ws : List Wd} (X : TX l ws) : ∀ w ∈ ws, w.2 + w.1.length ≤ l.length ∧ (l.drop w.2).take w.1.length = w.1 := X.to0.sl
theorem TX.all {l : List Nat} {ws : List Wd} (X : TX l ws) : toks l 0 l.length = ws.map tkW := X.to0.all
theorem TX.has {l : List Nat} {ws : List Wd} (X : TX l ws) (r : Addr) : HasW ⟨r, l, toks l 0 l.length⟩ ws := X.to0.has r
/-- words at least -/
def ownW (tag : Str) : Nat := if tag = "call" then 3 else if tag = "field" then 2 else if tag = "group" then 2 else if tag = "if" then 3 else if tag = "let" then 4 else if tag = "loop" then 5 else 1
mutual
def Nd.nw : Nd → Nat
  | .nd tag _ _ _ _ _ kids => ownW tag + kids.nw
def Ns.nw : Ns → Nat
  | .nil => 0
  | .cons h t => h.nw + t.nw
end
theorem Nd.nw_nd {tag : Str} {call : Bool} {s e : Nat} {pre post : List D} {kids : Ns} : (Nd.nd tag call s e pre post kids).nw = ownW tag + kids.nw := by rw [Nd.nw]
theorem Ns.nw_nil : Ns.nil.nw = 0 := by rw [Ns.nw]
theorem Ns.nw_cons {h : Nd} {t : Ns} : (Ns.cons h t).nw = h.nw + t.nw := by rw [Ns.nw]
theorem nw_k1 (a : Nd) : (nk1 a).nw = a.nw := by unfold nk1; rw [Ns.nw_cons, Ns.nw_nil]; omega
theorem nw_k2 (a b : Nd) : (nk2 a b).nw = a.nw + b.nw := by unfold nk2; rw [Ns.nw_cons, Ns.nw_cons, Ns.nw_nil]; omega
theorem nw_k3 (a b c : Nd) : (nk3 a b c).nw = a.nw + b.nw + c.nw := by unfold nk3; rw [Ns.nw_cons, Ns.nw_cons, Ns.nw_cons, Ns.nw_nil]; omega
theorem Ns.nw_snoc (n : Nd) : ∀ ns : Ns, (ns.snoc n).nw = ns.nw + n.nw
  | .nil => by
    show (Ns.cons n .nil).nw = _
    rw [Ns.nw_cons, Ns.nw_nil]
    omega
  | .cons h t => by
    show (Ns.cons h (t.snoc n)).nw = _
    rw [Ns.nw_cons, Ns.nw_snoc n t, Ns.nw_cons]
    omega
/-- a node of the made tree -/
structure Fd (nw : List Wd) (t : Tn) (n : Nd) : Prop where
  t : n.t = t
  ok : n.ok
  fine : n.sh.fine
  wf : n.wf
  nw : n.nw ≤ nw.length
/-- how far it goes as a part of a sign -/
def Lv (lm tp : Nat) (n : Nd) : Prop := n.hi 7 ∨ (lm ≤ n.rk ∧ n.rk ≤ 6 ∧ tp = Src.topR n.rk)
def RdV (k : Nat) (nw : List Wd) (t : Tn) : Prop := Okw nw → ∃ n : Nd, Fd nw t n
def RdG (k M lm : Nat) (nw : List Wd) (t : Tn) (tp : Nat) : Prop := Okw nw → ∃ n : Nd, Fd nw t n ∧ Lv lm tp n
def RdS (k : Nat) (nw : List Wd) (t : Tn) : Prop := Okw nw → ∃ n : Nd, Fd nw t n ∧ n.hi 7
def RdD (nw : List Wd) (t : Tn) : Prop := Okw nw → ∃ n : Nd, Fd nw t n ∧ n.sh.dot = true ∧ n.hi 8
def Pr (k L : Nat) (nw : List Wd) (t : Tn) : Prop :=
  match L with
  | 0 => RdV k nw t
  | 5 => RdS k nw t
  | 6 => RdD nw t
  | M + 1 => ∃ tp, min 6 (lvM (M + 1)) ≤ tp ∧ RdG k (M + 1) (lvM (M + 1)) nw t tp
section
variable {k j M lm c L tp tp' : Nat} {nw nr : List Wd} {t t' : Tn} {w : Wd}
theorem RdV.mono (h : k ≤ j) (q : RdV k nw t) : RdV j nw t := q
theorem RdG.mono (h : k ≤ j) (hl : L ≤ M) (hm : lm ≤ c) (q : RdG k M c nw t tp) : RdG j L lm nw t tp := fun o => (q o).elim fun n ⟨f, l⟩ => ⟨n, f, l.imp id fun ⟨a, b⟩ => ⟨Nat.le_trans hm a, b⟩⟩
theorem RdS.mono (h : k ≤ j) (q : RdS k nw t) : RdS j nw t := q
theorem RdS.g (q : RdS k nw t) (hM : M ≤ 5) (hl : lm ≤ 7) : RdG k M lm nw t 6 := fun o => (q o).elim fun n ⟨f, h⟩ => ⟨n, f, .inl h⟩
theorem RdG.v (q : RdG k 0 1 nw t tp) : RdV k nw t := fun o => (q o).elim fun n h => ⟨n, h.1⟩
theorem RdG.v' (q : RdG k M lm nw t tp) : RdV k nw t := fun o => (q o).elim fun n h => ⟨n, h.1⟩
theorem RdS.v' (q : RdS k nw t) : RdV k nw t := fun o => (q o).elim fun n h => ⟨n, h.1⟩
theorem RdD.s (q : RdD nw t) : RdS 0 nw t := fun o => (q o).elim fun n ⟨f, _, h⟩ => ⟨n, f, h.imp id fun h => by omega⟩
theorem nam_ok (o : tkOk0 w.1 = true ∧ w.1.length ≤ 25) (h : sortW w.1 = "name") : NamOk (strL w.1) := ⟨h, o⟩
theorem Pr.v (q : Pr k L nw t) : RdV k nw t := by
  match L, q with
  | 0, q => exact q
  | 5, q => exact RdS.v' q
  | 6, q => exact q.s.v'
  | 1, q => exact q.elim fun _ h => h.2.v'
  | 2, q => exact q.elim fun _ h => h.2.v'
  | 3, q => exact q.elim fun _ h => h.2.v'
  | 4, q => exact q.elim fun _ h => h.2.v'
  | n + 7, q => exact q.elim fun _ h => h.2.v'
theorem hi8 {tag : Str} {call : Bool} {s e : Nat} {pre post : List D} {kids : Ns} {r : Nat} (hr : r ≤ 8) (h1 : tag ≠ "binary") (h2 : tag ≠ "let") (h3 : tag ≠ "if") (h4 : tag ≠ "loop") (h5 : tag ≠ "not") (h6 : tag ≠ "minus") : (Nd.nd tag call s e pre post kids).hi r := .inr (by
  rw [Nd.rk_nd, if_neg h1, if_neg (by rintro (h | h | h) <;> contradiction), if_neg h5, if_neg h6]
  exact hr)
theorem rdd_name (h : sortW w.1 = "name") : RdD [w] ⟨"name", w.2, w.2 + w.1.length, [.str (strL w.1)]⟩ := fun o =>
  ⟨.nd "name" false w.2 (w.2 + w.1.length) [.str (strL w.1)] [] .nil, ⟨by rw [nd_t, Ns.ds_nil]; rfl, Nd.ok_nd.mpr ⟨.inr (.inr (.inl ⟨rfl, rfl, ⟨_, rfl⟩, rfl, rfl⟩)), Ns.ok_nil⟩, by rw [sh_nam, Sh.fine]; exact nam_ok o.h h, Nd.wf_nd.mpr ⟨trivial, Ns.wf_nil⟩, by rw [Nd.nw_nd, Ns.nw_nil]; exact Nat.le_refl 1⟩, by rw [sh_nam]; rfl,
    hi8 (by decide) (by decide +kernel) (by decide +kernel) (by decide +kernel) (by decide +kernel) (by decide +kernel) (by decide +kernel)⟩
theorem rdd_num (h : sortW w.1 = "number") : RdD [w] ⟨"number", w.2, w.2 + w.1.length, [.int (Src.numv w.1)]⟩ := fun o =>
  ⟨.nd "number" false w.2 (w.2 + w.1.length) [.int (Src.numv w.1)] [] .nil, ⟨by rw [nd_t, Ns.ds_nil]; rfl, Nd.ok_nd.mpr ⟨.inl ⟨rfl, rfl, ⟨_, rfl⟩, rfl, rfl⟩, Ns.ok_nil⟩, by rw [sh_num, Sh.fine]; exact numv_NumOk _, Nd.wf_nd.mpr ⟨trivial, Ns.wf_nil⟩, by rw [Nd.nw_nd, Ns.nw_nil]; exact Nat.le_refl 1⟩, by rw [sh_num]; rfl,
    hi8 (by decide) (by decide +kernel) (by decide +kernel) (by decide +kernel) (by decide +kernel) (by decide +kernel) (by decide +kernel)⟩
theorem rdd_truth (b : Bool) (h : w.1 = if b = true then tl "True" else tl "False") : RdD [w] ⟨"truth", w.2, w.2 + w.1.length, [.bl b]⟩ := fun o =>
  ⟨.nd "truth" false w.2 (w.2 + w.1.length) [.bl b] [] .nil, ⟨by rw [nd_t, Ns.ds_nil]; rfl, Nd.ok_nd.mpr ⟨.inr (.inl ⟨rfl, rfl, ⟨_, rfl⟩, rfl, rfl⟩), Ns.ok_nil⟩, by rw [sh_tru, Sh.fine]; trivial, Nd.wf_nd.mpr ⟨trivial, Ns.wf_nil⟩, by rw [Nd.nw_nd, Ns.nw_nil]; exact Nat.le_refl 1⟩, by rw [sh_tru]; rfl,
    hi8 (by decide) (by decide +kernel) (by decide +kernel) (by decide +kernel) (by decide +kernel) (by decide +kernel) (by decide +kernel)⟩
theorem rdd_field {wn : Wd} (q : RdD nw t) (h1 : w.1 = tl ".") (h2 : sortW wn.1 = "name") : RdD (nw ++ [w, wn]) ⟨"field", t.s, wn.2 + wn.1.length, [t.d, .str (strL wn.1)]⟩ := fun o => by
  obtain ⟨n, ⟨rfl, q2, q3, q5, q6⟩, q4, q7⟩ := q o.l
  obtain ⟨d1, d2, d3, d4⟩ := nk1_all n
  refine ⟨.nd "field" false n.t.s (wn.2 + wn.1.length) [] [.str (strL wn.1)] (nk1 n), ⟨by rw [nd_t, d1]; rfl, Nd.ok_nd.mpr ⟨.inr (.inr (.inr (.inr (.inl ⟨rfl, rfl, rfl, ⟨_, rfl⟩, rfl⟩)))), d3 q2⟩, by rw [sh_fld, Sh.fine]; exact ⟨nam_ok o.r.t.h h2, q4, q3⟩, Nd.wf_nd.mpr ⟨⟨q7, trivial⟩, d4 q5⟩, ?_⟩, by rw [sh_fld]; rfl,
    hi8 (by decide) (by decide +kernel) (by decide +kernel) (by decide +kernel) (by decide +kernel) (by decide +kernel) (by decide +kernel)⟩
  rw [Nd.nw_nd, nw_k1, List.length_append]
  show 2 + _ ≤ _ + 2
  omega
theorem rds_group {w2 : Wd} (q : RdV k nw t) (h1 : w.1 = tl "(") (h2 : w2.1 = tl ")") : RdS (k + 1) (w :: (nw ++ [w2])) ⟨"group", w.2, w2.2 + w2.1.length, [t.d]⟩ := fun o => by
  obtain ⟨n, rfl, q2, q3, q5, q6⟩ := q o.t.l
  obtain ⟨d1, d2, d3, d4⟩ := nk1_all n
  refine ⟨.nd "group" false w.2 (w2.2 + w2.1.length) [] [] (nk1 n), ⟨by rw [nd_t, d1]; rfl, Nd.ok_nd.mpr ⟨.inr (.inr (.inr (.inr (.inr (.inl ⟨rfl, rfl, rfl, rfl, rfl⟩))))), d3 q2⟩, by rw [sh_grp]; exact q3, Nd.wf_nd.mpr ⟨trivial, d4 q5⟩, ?_⟩, .inl rfl⟩
  rw [Nd.nw_nd, nw_k1, List.length_cons, List.length_append]
  show 2 + _ ≤ _ + 1 + 1
  omega
theorem rds_minus (q : RdS k nw t) (h1 : w.1 = tl "-") : RdS (k + 1) (w :: nw) ⟨"minus", w.2, t.e, [t.d]⟩ := fun o => by
  obtain ⟨n, ⟨rfl, q2, q3, q5, q6⟩, q7⟩ := q o.t
  obtain ⟨d1, d2, d3, d4⟩ := nk1_all n
  refine ⟨.nd "minus" false w.2 n.t.e [] [] (nk1 n), ⟨by rw [nd_t, d1]; rfl, Nd.ok_nd.mpr ⟨.inr (.inr (.inr (.inr (.inr (.inr (.inr (.inl ⟨rfl, rfl, rfl, rfl, rfl⟩))))))), d3 q2⟩, by rw [sh_mn, Sh.fine]; exact q3, Nd.wf_nd.mpr ⟨⟨q7, trivial⟩, d4 q5⟩, ?_⟩, .inr (Nat.le_refl _)⟩
  rw [Nd.nw_nd, nw_k1, List.length_cons]
  show 1 + _ ≤ _ + 1
  omega
theorem Lv.hi {lm tp r : Nat} {n : Nd} (h : Lv lm tp n) (h7 : r ≤ 7) (hr : r ≤ lm) : n.hi r := by
  rcases h with h | h
  · exact h.imp id fun h => by omega
  · exact .inr (by omega)
theorem rdg_not (q : RdG k 2 3 nw t tp) (h1 : w.1 = tl "not") : RdG (k + 1) 2 3 (w :: nw) ⟨"not", w.2, t.e, [t.d]⟩ 3 := fun o => by
  obtain ⟨n, ⟨rfl, q2, q3, q5, q6⟩, q7⟩ := q o.t
  obtain ⟨d1, d2, d3, d4⟩ := nk1_all n
  refine ⟨.nd "not" false w.2 n.t.e [] [] (nk1 n), ⟨by rw [nd_t, d1]; rfl, Nd.ok_nd.mpr ⟨.inr (.inr (.inr (.inr (.inr (.inr (.inl ⟨rfl, rfl, rfl, rfl, rfl⟩)))))), d3 q2⟩, by rw [sh_nt, Sh.fine]; exact q3, Nd.wf_nd.mpr ⟨⟨q7.hi (by decide) (Nat.le_refl _), trivial⟩, d4 q5⟩, ?_⟩, .inr ⟨Nat.le_refl _, (by show 3 ≤ 6; decide), rfl⟩⟩
  rw [Nd.nw_nd, nw_k1, List.length_cons]
  show 1 + _ ≤ _ + 1
  omega
theorem rank_mem {s : List Nat} (h : 1 ≤ Src.rank s) : s ∈ opsB := by
  unfold Src.rank at h
  unfold opsB
  by_cases e : s = tl "or"; · rw [e]; simp
  rw [if_neg e] at h
  by_cases e : s = tl "and"; · rw [e]; simp
  rw [if_neg e] at h
  by_cases e : s = tl "=="; · rw [e]; simp
  rw [if_neg e] at h
  by_cases e : s = tl "<"; · rw [e]; simp
  rw [if_neg e] at h
  by_cases e : s = tl "+"; · rw [e]; simp
  rw [if_neg e] at h
  by_cases e : s = tl "-"; · rw [e]; simp
  rw [if_neg e] at h
  by_cases e : s = tl "*"; · rw [e]; simp
  rw [if_neg e] at h
  by_cases e : s = tl "/"; · rw [e]; simp
  rw [if_neg e] at h
  omega
theorem ops_str : ∀ s ∈ opsB, PyData.strOk (strL s) = true := by decide +kernel
theorem lvM_2 (c : Nat) : 2 ≤ lvM (c + 1) := by
  have : lvM 1 ≤ lvM (c + 1) := lvM_mono (by omega)
  exact this
theorem left_hi {lm tp : Nat} {n : Nd} {ρ : Nat} (h : Lv lm tp n) (ht : ρ ≤ tp) (h1 : 1 ≤ ρ) (h6 : ρ ≤ 6) (h3 : ρ ≠ 3) : n.hi (lpR ρ) := by
  rcases h with h | ⟨_, h2, rfl⟩
  · exact h.imp id (Nat.le_trans (Nat.le_trans lpR_le (by decide)))
  · refine .inr ?_
    have k : ∀ ρ r : Fin 7, 1 ≤ ρ.val → ρ.val ≠ 3 → ρ.val ≤ Src.topR r → lpR ρ ≤ r := by decide
    exact k ⟨ρ, by omega⟩ ⟨n.rk, by omega⟩ h1 h3 ht
theorem right_hi {lm tp : Nat} {n : Nd} {ρ : Nat} (h : Lv (ρ + 1) tp n) (h1 : 1 ≤ ρ) (h6 : ρ ≤ 6) (h3 : ρ ≠ 3) : n.hi (rpR ρ) := by
  have k : ∀ ρ : Fin 7, 1 ≤ ρ.val → ρ.val ≠ 3 → rpR ρ ≤ ρ.val + 1 ∧ rpR ρ ≤ 7 := by decide
  obtain ⟨a, b⟩ := k ⟨ρ, by omega⟩ h1 h3
  exact h.hi b a
theorem RdG.bin (q : RdG k (c + 1) (lm) nw t tp) (q' : RdG k (c + 1) (lvM (c + 1)) nr t' tp') (hr : Src.rank w.1 + 1 = lvM (c + 1)) (hlm : lm ≤ Src.rank w.1) (ht : Src.rank w.1 ≤ tp) (n1 : w.1 ≠ tl "(") (n2 : w.1 ≠ tl ".") :
    RdG k (c + 1) lm (nw ++ w :: nr) (Src.binT t t' w.1) (Src.topR (Src.rank w.1)) := fun o => by
  obtain ⟨n, ⟨rfl, q2, q3, q5, q6⟩, q7⟩ := q o.l
  obtain ⟨m, ⟨rfl, u2, u3, u5, u6⟩, u7⟩ := q' o.r.t
  have h1 : 1 ≤ Src.rank w.1 := by have := lvM_2 c; omega
  have hw : w.1 ∈ opsB := rank_mem h1
  obtain ⟨⟨_, r2, r3⟩, _⟩ := ops_rk _ hw
  rw [← hr] at u7
  obtain ⟨d1, d2, d3, d4⟩ := nk2_all n m
  have pl : plc "binary" [.str (strL w.1)] = [lpR (Src.rank w.1), rpR (Src.rank w.1)] := by
    unfold plc
    rw [if_neg (by decide +kernel), if_neg (by decide +kernel), if_neg (by decide +kernel), if_pos rfl]
    rfl
  have er : (Nd.nd "binary" false n.t.s m.t.e [.str (strL w.1)] [] (nk2 n m)).rk = Src.rank w.1 := by rw [Nd.rk_nd, if_pos rfl]; rfl
  refine ⟨.nd "binary" false n.t.s m.t.e [.str (strL w.1)] [] (nk2 n m), ⟨by rw [nd_t, d1]; rfl, Nd.ok_nd.mpr ⟨.inr (.inr (.inr (.inr (.inr (.inr (.inr (.inr (.inl ⟨rfl, rfl, ⟨_, rfl, ops_str _ hw⟩, rfl, rfl⟩)))))))), d3 q2 u2⟩, by rw [sh_bin, Sh.fine]; exact ⟨⟨hw, ops_str _ hw⟩, q3, u3⟩, Nd.wf_nd.mpr ⟨by rw [pl]; exact ⟨left_hi q7 ht h1 r2 r3, right_hi (lm := 0) u7 h1 r2 r3, trivial⟩, d4 q5 u5⟩, ?_⟩, .inr ⟨by rw [er]; exact hlm, by rw [er]; exact r2, by rw [er]⟩⟩
  rw [Nd.nw_nd, nw_k2, List.length_append, List.length_cons]
  show 1 + _ ≤ _
  omega
structure Fa (nw : List Wd) (ts : List Tn) (ns : Ns) : Prop where
  t : ns.ts = ts
  ok : ns.ok
  fine : ns.shs.fine
  wf : ns.wf
  nw : ns.nw ≤ nw.length
def RdA (k : Nat) (nw : List Wd) (ts : List Tn) : Prop := Okw nw → ∃ ns : Ns, Fa nw ts ns
theorem RdV.a (q : RdV k nw t) : RdA k nw [t] := fun o => by
  obtain ⟨n, rfl, q2, q3, q5, q6⟩ := q o
  exact ⟨.cons n .nil, rfl, Ns.ok_cons.mpr ⟨q2, Ns.ok_nil⟩, by rw [Ns.shs_cons, Ns.shs_nil, Shs.fine, Shs.fine]; exact ⟨q3, trivial⟩, Ns.wf_cons.mpr ⟨q5, Ns.wf_nil⟩, by rw [Ns.nw_cons, Ns.nw_nil]; exact q6⟩
theorem fine_snoc {n : Nd} (h : n.sh.fine) : ∀ {ns : Ns}, ns.shs.fine → (ns.snoc n).shs.fine
  | .nil, _ => by
    show (Ns.cons n .nil).shs.fine
    rw [Ns.shs_cons, Ns.shs_nil, Shs.fine, Shs.fine]
    exact ⟨h, trivial⟩
  | .cons a t, k => by
    rw [Ns.shs_cons, Shs.fine] at k
    show (Ns.cons a (t.snoc n)).shs.fine
    rw [Ns.shs_cons, Shs.fine]
    exact ⟨k.1, fine_snoc h k.2⟩
theorem RdA.more {ts : List Tn} (q : RdA k nw ts) (q' : RdV k nr t) (h1 : w.1 = tl ",") : RdA k (nw ++ w :: nr) (ts ++ [t]) := fun o => by
  obtain ⟨ns, rfl, q2, q3, q5, q6⟩ := q o.l
  obtain ⟨m, rfl, u2, u3, u5, u6⟩ := q' o.r.t
  exact ⟨ns.snoc m, Ns.snoc_ts _ _, Ns.snoc_ok u2 q2, fine_snoc u3 q3, Ns.wf_snoc u5 q5, by rw [Ns.nw_snoc, List.length_append, List.length_cons]; omega⟩
theorem rds_call {ts : List Tn} {p1 p2 : Wd} (q : RdA k nw ts) (h : sortW w.1 = "name") (h1 : p1.1 = tl "(") (h2 : p2.1 = tl ")") : RdS (k + 1) (w :: p1 :: (nw ++ [p2])) ⟨"call", w.2, p2.2 + p2.1.length, [.str (strL w.1), .tup (ofL (ts.map Tn.d))]⟩ := fun o => by
  obtain ⟨ns, rfl, q2, q3, q5, q6⟩ := q o.t.t.l
  refine ⟨.nd "call" true w.2 (p2.2 + p2.1.length) [.str (strL w.1)] [] ns, ⟨by rw [call_nd, Ns.ds_ts], call_ok q2, by rw [sh_cal, Sh.fine]; exact ⟨nam_ok o.h h, q3⟩, call_wf q5, ?_⟩, hi8 (by decide) (by decide +kernel) (by decide +kernel) (by decide +kernel) (by decide +kernel) (by decide +kernel) (by decide +kernel)⟩
  rw [Nd.nw_nd, List.length_cons, List.length_cons, List.length_append]
  show 3 + _ ≤ _ + 1 + 1 + 1
  omega
theorem rds_call0 {p1 p2 : Wd} (h : sortW w.1 = "name") (h1 : p1.1 = tl "(") (h2 : p2.1 = tl ")") : RdS 0 [w, p1, p2] ⟨"call", w.2, p2.2 + p2.1.length, [.str (strL w.1), .tup .nil]⟩ := fun o =>
  ⟨.nd "call" true w.2 (p2.2 + p2.1.length) [.str (strL w.1)] [] .nil, ⟨by rw [call_nd, Ns.ds_nil]; rfl, call_ok Ns.ok_nil, by rw [sh_cal, Ns.shs_nil, Sh.fine, Shs.fine]; exact ⟨nam_ok o.h h, trivial⟩, call_wf Ns.wf_nil, by rw [Nd.nw_nd, Ns.nw_nil]; exact Nat.le_refl 3⟩, hi8 (by decide) (by decide +kernel) (by decide +kernel) (by decide +kernel) (by decide +kernel) (by decide +kernel) (by decide +kernel)⟩
theorem rdv_if {t1 t2 t3 : Tn} {n1 n2 n3 : List Wd} {w1 w2 w3 : Wd} (q1 : RdV k n1 t1) (q2 : RdV k n2 t2) (q3 : RdV k n3 t3) (h1 : w1.1 = tl "if") (h2 : w2.1 = tl "then") (h3 : w3.1 = tl "else") :
    RdV (k + 1) (w1 :: (n1 ++ w2 :: (n2 ++ w3 :: n3))) ⟨"if", w1.2, t3.e, [t1.d, t2.d, t3.d]⟩ := fun o => by
  obtain ⟨a, rfl, a2, a3, a5, a6⟩ := q1 o.t.l
  obtain ⟨b, rfl, b2, b3, b5, b6⟩ := q2 o.t.r.t.l
  obtain ⟨c, rfl, c2, c3, c5, c6⟩ := q3 o.t.r.t.r.t
  obtain ⟨d1, d2, d3, d4⟩ := nk3_all a b c
  refine ⟨.nd "if" false w1.2 c.t.e [] [] (nk3 a b c), by rw [nd_t, d1]; rfl, Nd.ok_nd.mpr ⟨.inr (.inr (.inr (.inr (.inr (.inr (.inr (.inr (.inr (.inl ⟨rfl, rfl, rfl, rfl, rfl⟩))))))))), d3 a2 b2 c2⟩, by rw [sh_ite, Sh.fine]; exact ⟨a3, b3, c3⟩, Nd.wf_nd.mpr ⟨trivial, d4 a5 b5 c5⟩, ?_⟩
  rw [Nd.nw_nd, nw_k3]
  simp only [List.length_cons, List.length_append]
  show 3 + _ ≤ _
  omega
theorem rdv_let {t1 t2 : Tn} {n1 n2 : List Wd} {w1 wn w2 w3 : Wd} (q1 : RdV k n1 t1) (q2 : RdV k n2 t2) (h1 : w1.1 = tl "let") (hn : sortW wn.1 = "name") (h2 : w2.1 = tl "=") (h3 : w3.1 = tl "in") :
    RdV (k + 1) (w1 :: wn :: w2 :: (n1 ++ w3 :: n2)) ⟨"let", w1.2, t2.e, [.str (strL wn.1), .int (wn.2 : Int), t1.d, t2.d]⟩ := fun o => by
  obtain ⟨a, rfl, a2, a3, a5, a6⟩ := q1 o.t.t.t.l
  obtain ⟨b, rfl, b2, b3, b5, b6⟩ := q2 o.t.t.t.r.t
  obtain ⟨d1, d2, d3, d4⟩ := nk2_all a b
  refine ⟨.nd "let" false w1.2 b.t.e [.str (strL wn.1), .int (wn.2 : Int)] [] (nk2 a b), by rw [nd_t, d1]; rfl, Nd.ok_nd.mpr ⟨.inr (.inr (.inr (.inr (.inr (.inr (.inr (.inr (.inr (.inr (.inl ⟨rfl, rfl, ⟨_, _, rfl⟩, rfl, rfl⟩)))))))))), d3 a2 b2⟩, by rw [sh_lt, Sh.fine]; exact ⟨nam_ok o.t.h hn, a3, b3⟩, Nd.wf_nd.mpr ⟨trivial, d4 a5 b5⟩, ?_⟩
  rw [Nd.nw_nd, nw_k2]
  simp only [List.length_cons, List.length_append]
  show 4 + _ ≤ _
  omega
theorem rdv_loop {t1 t2 t3 : Tn} {n1 n2 n3 : List Wd} {w1 wn w2 w3 w4 : Wd} (q1 : RdV k n1 t1) (q2 : RdV k n2 t2) (q3 : RdV k n3 t3) (h1 : w1.1 = tl "loop") (hn : sortW wn.1 = "name") (h2 : w2.1 = tl "=") (h3 : w3.1 = tl "times") (h4 : w4.1 = tl "do") :
    RdV (k + 1) (w1 :: wn :: w2 :: (n1 ++ w3 :: (n2 ++ w4 :: n3))) ⟨"loop", w1.2, t3.e, [.str (strL wn.1), .int (wn.2 : Int), t1.d, t2.d, t3.d]⟩ := fun o => by
  obtain ⟨a, rfl, a2, a3, a5, a6⟩ := q1 o.t.t.t.l
  obtain ⟨b, rfl, b2, b3, b5, b6⟩ := q2 o.t.t.t.r.t.l
  obtain ⟨c, rfl, c2, c3, c5, c6⟩ := q3 o.t.t.t.r.t.r.t
  obtain ⟨d1, d2, d3, d4⟩ := nk3_all a b c
  refine ⟨.nd "loop" false w1.2 c.t.e [.str (strL wn.1), .int (wn.2 : Int)] [] (nk3 a b c), by rw [nd_t, d1]; rfl, Nd.ok_nd.mpr ⟨.inr (.inr (.inr (.inr (.inr (.inr (.inr (.inr (.inr (.inr (.inr ⟨rfl, rfl, ⟨_, _, rfl⟩, rfl, rfl⟩)))))))))), d3 a2 b2 c2⟩, by rw [sh_lp, Sh.fine]; exact ⟨nam_ok o.t.h hn, a3, b3, c3⟩, Nd.wf_nd.mpr ⟨trivial, d4 a5 b5 c5⟩, ?_⟩
  rw [Nd.nw_nd, nw_k3]
  simp only [List.length_cons, List.length_append]
  show 5 + _ ≤ _
  omega
end
end Sn

/-! A reading with a bigger budget gives no other answer; one with fuel gives that of a big budget. -/
namespace Sn
open PySem PySem.Spec PyProof.Rows L2 TL
def LeR {α : Type} (r r' : Rs α) : Prop := r = .un ∨ r = r'
theorem LeR.rf {α : Type} {r : Rs α} : LeR r r := .inr rfl
theorem LeR.bind {α β : Type} {r r' : Rs α} {f f' : α → Nat → Rs β} (h : LeR r r') (g : ∀ x c, LeR (f x c) (f' x c)) : LeR (r.bind f) (r'.bind f') := by
  rcases h with rfl | rfl
  · exact .inl rfl
  · cases r with
    | ok x c => exact g x c
    | no s e => exact .inr rfl
    | un => exact .inl rfl
theorem LeR.ok {α : Type} {r r' : Rs α} {x : α} {c : Nat} (h : LeR r r') (e : r = .ok x c) : r' = .ok x c := by
  rcases h with h | h
  · rw [e] at h
    cases h
  · rw [← h, e]
theorem LeR.eq {α : Type} {r r' : Rs α} (h : LeR r r') (e : r ≠ .un) : r = r' := h.resolve_left e
theorem LeR.trans {α : Type} {r r' r'' : Rs α} (h : LeR r r') (g : LeR r' r'') : LeR r r'' := by
  rcases h with h | h
  · exact .inl h
  · rw [h]
    exact g
/-- readers -/
def LeF (V V' : Nat → Rs Tn) : Prop := ∀ a, LeR (V a) (V' a)
section
variable {S : Src} {V V' G G' N N' C C' : Nat → Rs Tn} {R R' : Nat → Nat → Rs Tn}
theorem le_if {α : Type} {p : Prop} [Decidable p] {x x' y y' : Rs α} (h1 : LeR x x') (h2 : LeR y y') : LeR (if p then x else y) (if p then x' else y') := by
  split
  · exact h1
  · exact h2
theorem le_part (h : LeF V V') (w : Str) (a : Nat) : LeR (S.part V w a) (S.part V' w a) := le_if (h _) .rf
theorem le_let (h : LeF V V') (s a : Nat) : LeR (S.letM V s a) (S.letM V' s a) := le_if ((le_part h _ _).bind fun _ _ => (le_part h _ _).bind fun _ _ => .rf) .rf
theorem le_ifM (h : LeF V V') (s a : Nat) : LeR (S.ifM V s a) (S.ifM V' s a) := (h a).bind fun _ _ => (le_part h _ _).bind fun _ _ => (le_part h _ _).bind fun _ _ => .rf
theorem le_loop (h : LeF V V') (s a : Nat) : LeR (S.loopM V s a) (S.loopM V' s a) := le_if ((le_part h _ _).bind fun _ _ => (le_part h _ _).bind fun _ _ => (le_part h _ _).bind fun _ _ => .rf) .rf
theorem le_args (h : LeF V V') (s0 : Nat) (nm : D) : ∀ (m a : Nat) (acc : List D), S.n + 1 - a ≤ m → LeR (S.argsM V s0 nm acc a) (S.argsM V' s0 nm acc a)
  | m, a, acc, hm => by
    rw [Src.argsM, Src.argsM.eq_1 (V := V')]
    refine le_if ?_ .rf
    rcases h (a + 1) with e | e
    · rw [e]
      exact .inl rfl
    · rw [← e]
      cases hv : V (a + 1) with
      | ok t c =>
        show LeR (if h : a < c ∧ a < S.n then S.argsM V s0 nm (acc ++ [t.d]) c else .un) (if h : a < c ∧ a < S.n then S.argsM V' s0 nm (acc ++ [t.d]) c else .un)
        by_cases k : a < c ∧ a < S.n
        · rw [dif_pos k, dif_pos k]
          cases m with
          | zero => omega
          | succ m => exact le_args h s0 nm m c _ (by omega)
        · rw [dif_neg k]
          exact .inl rfl
      | no s e => exact .rf
      | un => exact .inl rfl
theorem le_named (h : LeF V V') (a : Nat) : LeR (S.namedM V a) (S.namedM V' a) := le_if (le_if (le_if .rf ((h _).bind fun _ c => le_args h _ _ _ c _ (Nat.le_refl _))) .rf) .rf
theorem le_simp (h : LeF V V') (a : Nat) : LeR (S.simpM V a) (S.simpM V' a) := le_if (le_named h a) (le_if .rf (le_if ((h _).bind fun _ _ => .rf) .rf))
theorem le_reach (h : LeF V V') (a : Nat) : LeR (S.reachM V a) (S.reachM V' a) := (le_simp h a).bind fun _ _ => .rf
theorem le_sign (h : LeF V V') (g : LeF G G') (d a : Nat) : LeR (S.signM G V d a) (S.signM G' V' d a) := le_if (le_if .rf ((g _).bind fun _ _ => .rf)) (le_reach h a)
theorem le_go {l : Nat} (hl : 1 ≤ l) (h : ∀ q, 1 ≤ q → q ≤ 7 → LeF (R q) (R' q)) : ∀ (m mo : Nat) (t : Tn) (a : Nat), S.n + 1 - a ≤ m → LeR (S.goM R l mo t a) (S.goM R' l mo t a)
  | m, mo, t, a, hm => by
    rw [Src.goM, Src.goM.eq_1 (R := R')]
    by_cases c : l ≤ Src.rank (S.wd a) ∧ Src.rank (S.wd a) ≤ mo
    rotate_left
    · rw [if_neg c, if_neg c]
      exact .rf
    rw [if_pos c, if_pos c]
    have r6 := rank_le6 (S.wd a)
    rcases h (Src.rank (S.wd a) + 1) (by omega) (by omega) (a + 1) with e | e
    · rw [e]
      exact .inl rfl
    · rw [← e]
      cases hv : R (Src.rank (S.wd a) + 1) (a + 1) with
      | ok u c =>
        show LeR (if h : a < c ∧ a < S.n then S.goM R l _ _ c else .un) (if h : a < c ∧ a < S.n then S.goM R' l _ _ c else .un)
        by_cases k : a < c ∧ a < S.n
        · rw [dif_pos k, dif_pos k]
          cases m with
          | zero => omega
          | succ m => exact le_go hl h m _ _ c (by omega)
        · rw [dif_neg k]
          exact .inl rfl
      | no s e => exact .rf
      | un => exact .inl rfl
theorem le_chain {l : Nat} (hl : 1 ≤ l) (hn : LeF N N') (hg : LeF G G') (h : ∀ q, 1 ≤ q → q ≤ 7 → LeF (R q) (R' q)) (d a : Nat) : LeR (S.chainM N G R l d a) (S.chainM N' G' R' l d a) :=
  le_if (le_if .rf ((hn _).bind fun _ _ => le_go hl h _ _ _ _ (Nat.le_refl _))) ((hg _).bind fun _ _ => le_go hl h _ _ _ _ (Nat.le_refl _))
theorem le_valM (h : LeF V V') (g : LeF C C') (d a : Nat) : LeR (S.valM V C d a) (S.valM V' C' d a) := le_if .rf (le_if (le_let h _ _) (le_if (le_ifM h _ _) (le_if (le_loop h _ _) (g a))))
/-- bigger budgets -/
theorem le_bud (S : Src) : ∀ b : Nat, ∀ b', b ≤ b' → (∀ d, LeF (valB S b d) (valB S b' d)) ∧ (∀ d, LeF (sgB S b d) (sgB S b' d)) ∧ ∀ s d, 1 ≤ s → s ≤ 7 → LeF (chB S b s d) (chB S b' s d) := by
  intro b
  induction b using Nat.strongRecOn with
  | _ b ih =>
    intro b' hb
    by_cases h : 10 ≤ b
    · have h' : 10 ≤ b' := by omega
      refine ⟨fun d a => ?_, fun d a => ?_, fun s d s1 s7 a => ?_⟩
      · rw [valB_s S h, valB_s S h']
        exact le_valM ((ih (b - 3) (by omega) (b' - 3) (by omega)).1 _) ((ih (b - 1) (by omega) (b' - 1) (by omega)).2.2 1 _ (by decide) (by decide)) _ _
      · rw [sgB_s S h, sgB_s S h']
        exact le_sign ((ih (b - 4) (by omega) (b' - 4) (by omega)).1 _) ((ih (b - 1) (by omega) (b' - 1) (by omega)).2.1 _) _ _
      · rw [chB_s S h, chB_s S h']
        exact le_chain s1 ((ih (b - 2) (by omega) (b' - 2) (by omega)).2.2 3 _ (by decide) (by decide)) ((ih (b - 1) (by omega) (b' - 1) (by omega)).2.1 _) (fun l l1 l7 => (ih (b - 1) (by omega) (b' - 1) (by omega)).2.2 l _ l1 l7) _ _
    · refine ⟨fun d a => .inl (valB_n S h), fun d a => .inl (sgB_n S h), fun s d _ _ a => .inl (chB_n S h)⟩
/-- fuel -/
theorem le_fuel (S : Src) : ∀ k : Nat, (∀ b d, 20 * k + 10 ≤ b → LeF (S.val k d) (valB S b d)) ∧ (∀ b d, 20 * k + 14 ≤ b → LeF (S.sg k d) (sgB S b d)) ∧ ∀ b s d, 20 * k + 24 ≤ b → 1 ≤ s → s ≤ 7 → LeF (S.ch k s d) (chB S b s d)
  | 0 => ⟨fun b d _ a => .inl rfl, fun b d _ a => .inl rfl, fun b s d _ _ _ a => .inl rfl⟩
  | k + 1 => by
    obtain ⟨i1, i2, i3⟩ := le_fuel S k
    have v : ∀ b d, 20 * (k + 1) + 10 ≤ b → LeF (S.val (k + 1) d) (valB S b d) := fun b d h a => by
      rw [Src.val_s, valB_s S (by omega)]
      exact le_valM (i1 _ _ (by omega)) (i3 _ 1 _ (by omega) (by decide) (by decide)) _ _
    have g : ∀ b d, 20 * (k + 1) + 14 ≤ b → LeF (S.sg (k + 1) d) (sgB S b d) := fun b d h a => by
      rw [Src.sg_s, sgB_s S (by omega)]
      exact le_sign (v _ _ (by omega)) (i2 _ _ (by omega)) _ _
    refine ⟨v, g, fun b s d h s1 s7 a => ?_⟩
    rw [Src.ch_s]
    have c : ∀ (j b s : Nat) (a : Nat), 20 * (k + 1) + 15 + j ≤ b → 1 ≤ s → s ≤ 7 → LeR (S.chG (S.ch k 3 (d + 1)) (S.sg (k + 1) d) d j s a) (chB S b s d a) := by
      intro j
      induction j with
      | zero => exact fun b s a _ _ _ => .inl rfl
      | succ j ihj =>
        intro b s a hb s1 s7
        show LeR (S.chainM (S.ch k 3 (d + 1)) (S.sg (k + 1) d) (S.chG (S.ch k 3 (d + 1)) (S.sg (k + 1) d) d j) s d a) _
        rw [chB_s S (by omega)]
        exact le_chain s1 (i3 _ 3 _ (by omega) (by decide) (by decide)) (g _ _ (by omega)) (fun l l1 l7 c => ihj _ l c (by omega) l1 l7) _ _
    exact c 8 b s a (by omega) s1 s7
end
end Sn

/-! A reading ends with a budget that the words from there on tell. -/
namespace Sn
open PySem PySem.Spec PyProof.Rows L2 TL
/-- how many calls deeper a word can lead -/
def wtW (w : List Nat) : Nat := if w = tl "(" then 6 else if w = tl "let" then 3 else if w = tl "if" then 3 else if w = tl "loop" then 3 else if w = tl "not" then 2 else if 1 ≤ Src.rank w then 1 else 0
namespace Src
variable (S : Src)
def pw : Nat → Nat
  | 0 => 0
  | a + 1 => pw a + wtW (S.wd a)
end Src
section
variable {S : Src}
theorem pw_s (a : Nat) : S.pw (a + 1) = S.pw a + wtW (S.wd a) := rfl
theorem pw_mono {a b : Nat} (h : a ≤ b) : S.pw a ≤ S.pw b := by
  induction h with
  | refl => exact Nat.le_refl _
  | step _ ih => exact Nat.le_trans ih (Nat.le_add_right _ _)
theorem pw_end {a : Nat} (h : S.n ≤ a) : S.pw a = S.pw S.n := by
  induction h with
  | refl => rfl
  | step h ih =>
    rw [pw_s, ih, wd_none h]
    rfl
theorem pw_le (a : Nat) : S.pw a ≤ S.pw S.n := by
  by_cases h : a ≤ S.n
  · exact pw_mono h
  · exact Nat.le_of_eq (pw_end (by omega))
theorem eqW_lt {a : Nat} {w : Str} (h : S.eqW a w = true) (hw : tl w ≠ []) : a < S.n := by
  by_cases k : a < S.n
  · exact k
  · rw [eqW_none (by omega) hw] at h
    cases h
theorem pw_w {a : Nat} {w : Str} (h : S.eqW a w = true) : S.pw (a + 1) = S.pw a + wtW (tl w) := by
  have e : S.wd a = tl w := of_decide_eq_true h
  rw [pw_s, e]
theorem nu_bind {α β : Type} {r : Rs α} {f : α → Nat → Rs β} (h : r ≠ .un) (g : ∀ x c, r = .ok x c → f x c ≠ .un) : r.bind f ≠ .un := by
  cases r with
  | ok x c => exact g x c rfl
  | no s e => exact fun k => by cases k
  | un => exact absurd rfl h
theorem nu_if {α : Type} {p : Prop} [Decidable p] {x y : Rs α} (h1 : p → x ≠ .un) (h2 : ¬ p → y ≠ .un) : (if p then x else y) ≠ .un := by
  split
  · exact h1 ‹_›
  · exact h2 ‹_›
theorem nu_ok {α : Type} {x : α} {c : Nat} : (Rs.ok x c) ≠ .un := fun k => by cases k
theorem nu_fail {α : Type} {a : Nat} : (S.fail a : Rs α) ≠ .un := fun k => by cases k
/-- readings go on -/
def Fw (V : Nat → Rs Tn) : Prop := ∀ a t c, V a = .ok t c → a < c
/-- they end from here on -/
def Nu (V : Nat → Rs Tn) (a : Nat) : Prop := ∀ c, a ≤ c → V c ≠ .un
variable {V G N C : Nat → Rs Tn} {R : Nat → Nat → Rs Tn}
theorem Nu.mono {a b : Nat} (h : a ≤ b) (n : Nu V a) : Nu V b := fun c k => n c (by omega)
theorem nu_part {a0 : Nat} (h : Nu V a0) (w : Str) {a : Nat} (ha : a0 ≤ a + 1) : S.part V w a ≠ .un := nu_if (fun _ => h _ ha) fun _ => nu_fail
theorem fw_part (f : Fw V) {w : Str} {a c : Nat} {t : Tn} (h : S.part V w a = .ok t c) : a + 1 < c := by
  unfold Src.part at h
  split at h
  · exact f _ _ _ h
  · cases h
theorem nu_let (f : Fw V) {a0 s a : Nat} (h : Nu V a0) (ha : a0 ≤ a) : S.letM V s a ≠ .un :=
  nu_if (fun _ => nu_bind (nu_part h _ (by omega)) fun x c e => nu_bind (nu_part h _ (by have := fw_part f e; omega)) fun _ _ _ => nu_ok) fun _ => nu_fail
theorem nu_ifM (f : Fw V) {a0 s a : Nat} (h : Nu V a0) (ha : a0 ≤ a) : S.ifM V s a ≠ .un :=
  nu_bind (h _ ha) fun x c e => nu_bind (nu_part h _ (by have := f _ _ _ e; omega)) fun y d e2 => nu_bind (nu_part h _ (by have := f _ _ _ e; have := fw_part f e2; omega)) fun _ _ _ => nu_ok
theorem nu_loop (f : Fw V) {a0 s a : Nat} (h : Nu V a0) (ha : a0 ≤ a) : S.loopM V s a ≠ .un :=
  nu_if (fun _ => nu_bind (nu_part h _ (by omega)) fun x c e => nu_bind (nu_part h _ (by have := fw_part f e; omega)) fun y d e2 => nu_bind (nu_part h _ (by have := fw_part f e; have := fw_part f e2; omega)) fun _ _ _ => nu_ok) fun _ => nu_fail
theorem nu_args (f : Fw V) {a0 : Nat} (h : Nu V a0) (s0 : Nat) (nm : D) : ∀ (m a : Nat) (acc : List D), S.n + 1 - a ≤ m → a0 ≤ a → S.argsM V s0 nm acc a ≠ .un
  | m, a, acc, hm, ha => by
    rw [Src.argsM]
    refine nu_if (fun k => ?_) fun _ => nu_if (fun _ => nu_ok) fun _ => nu_fail
    have hn := h (a + 1) (by omega)
    cases hv : V (a + 1) with
    | ok t c =>
      show (if h : a < c ∧ a < S.n then S.argsM V s0 nm (acc ++ [t.d]) c else .un) ≠ .un
      have k1 := f _ _ _ hv
      have k2 := eqW_lt k (by decide +kernel)
      rw [dif_pos ⟨by omega, k2⟩]
      cases m with
      | zero => omega
      | succ m => exact nu_args f h s0 nm m c _ (by omega) (by omega)
    | no s e => exact fun k => by cases k
    | un => exact absurd hv hn
theorem nu_dots : ∀ (m a : Nat) (t : Tn), S.n + 1 - a ≤ m → S.dotsM t a ≠ .un
  | m, a, t, hm => by
    rw [Src.dotsM]
    refine nu_if (fun k => nu_if (fun _ => ?_) fun _ => nu_fail) fun _ => nu_ok
    have k2 := eqW_lt k (by decide +kernel)
    rw [dif_pos k2]
    cases m with
    | zero => omega
    | succ m => exact nu_dots m (a + 2) _ (by omega)
/-- what stands in brackets -/
theorem nu_reach (f : Fw V) {a : Nat} (h : ∀ c, a ≤ c → S.eqW c "(" = true → Nu V (c + 1)) : S.reachM V a ≠ .un := by
  refine nu_bind ?_ fun t c _ => nu_dots _ c t (Nat.le_refl _)
  refine nu_if (fun _ => ?_) fun _ => nu_if (fun _ => nu_ok) fun _ => nu_if (fun k => ?_) fun _ => nu_if (fun _ => nu_ok) fun _ => nu_fail
  · refine nu_if (fun _ => nu_if (fun k => nu_if (fun _ => nu_ok) fun _ => ?_) fun _ => nu_ok) fun _ => nu_fail
    exact nu_bind (h _ (by omega) k _ (Nat.le_refl _)) fun t c e => nu_args f (h _ (by omega) k) _ _ _ c _ (Nat.le_refl _) (by have := f _ _ _ e; omega)
  · exact nu_bind (h _ (Nat.le_refl _) k _ (Nat.le_refl _)) fun t c _ => nu_if (fun _ => nu_ok) fun _ => nu_fail
theorem nu_sign (f : Fw V) {d a : Nat} (g : S.eqW a "-" = true → G (a + 1) ≠ .un) (h : ∀ c, a ≤ c → S.eqW c "(" = true → Nu V (c + 1)) : S.signM G V d a ≠ .un :=
  nu_if (fun k => nu_if (fun _ => nu_fail) fun _ => nu_bind (g k) fun _ _ _ => nu_ok) fun _ => nu_reach f h
theorem nu_go {l : Nat} (hl : 1 ≤ l) (f : ∀ q, 1 ≤ q → q ≤ 7 → Fw (R q)) {a0 : Nat} (h : ∀ c, a0 ≤ c → 1 ≤ Src.rank (S.wd c) → R (Src.rank (S.wd c) + 1) (c + 1) ≠ .un) : ∀ (m mo : Nat) (t : Tn) (a : Nat), S.n + 1 - a ≤ m → a0 ≤ a → S.goM R l mo t a ≠ .un
  | m, mo, t, a, hm, ha => by
    rw [Src.goM]
    refine nu_if (fun k => ?_) fun _ => nu_ok
    have hn := h a ha (by omega)
    have r6 := rank_le6 (S.wd a)
    cases hv : R (Src.rank (S.wd a) + 1) (a + 1) with
    | ok u c =>
      show (if h : a < c ∧ a < S.n then S.goM R l _ _ c else .un) ≠ .un
      have k1 := f _ (by omega) (by omega) _ _ _ hv
      have k2 : a < S.n := by
        by_cases q : a < S.n
        · exact q
        · have e := wd_none (S := S) (a := a) (by omega)
          have : Src.rank (S.wd a) = 0 := by rw [e]; decide +kernel
          omega
      rw [dif_pos ⟨by omega, k2⟩]
      cases m with
      | zero => omega
      | succ m => exact nu_go hl f h m _ _ c (by omega) (by omega)
    | no s e => exact fun k => by cases k
    | un => exact absurd hv hn
theorem nu_chain {l d a : Nat} (hl : 1 ≤ l) (fg : Fw G) (fn : Fw N) (f : ∀ q, 1 ≤ q → q ≤ 7 → Fw (R q)) (hn : S.eqW a "not" = true → N (a + 1) ≠ .un) (hg : G a ≠ .un) (h : ∀ c, a ≤ c → 1 ≤ Src.rank (S.wd c) → R (Src.rank (S.wd c) + 1) (c + 1) ≠ .un) : S.chainM N G R l d a ≠ .un :=
  nu_if (fun k => nu_if (fun _ => nu_fail) fun _ => nu_bind (hn k.1) fun t c e => nu_go hl f h _ _ _ c (Nat.le_refl _) (by have := fn _ _ _ e; omega)) fun _ => nu_bind hg fun t c e => nu_go hl f h _ _ _ c (Nat.le_refl _) (by have := fg _ _ _ e; omega)
theorem wt_rank {w : List Nat} (h : 1 ≤ Src.rank w) : 1 ≤ wtW w := by
  have k : ∀ w ∈ opsB, 1 ≤ wtW w := by decide +kernel
  exact k w (rank_mem h)
theorem good_fw {r : Nat} (g : Good S r V) : Fw V := fun a t c e => (g a t c e).1
theorem nu_all (S : Src) : ∀ b : Nat, (∀ d a, S.pw S.n + 12 ≤ b + S.pw a → valB S b d a ≠ .un) ∧ (∀ d a, S.pw S.n + 10 ≤ b + S.pw a → sgB S b d a ≠ .un) ∧ ∀ s d a, 1 ≤ s → s ≤ 7 → S.pw S.n + 11 ≤ b + S.pw a → chB S b s d a ≠ .un := by
  intro b
  induction b using Nat.strongRecOn with
  | _ b ih =>
    have nv : ∀ j d a, j < b → S.pw S.n + 12 ≤ j + S.pw a → Nu (valB S j d) a := fun j d a hj h c hc => (ih j hj).1 d c (by have := pw_mono (S := S) hc; omega)
    refine ⟨fun d a h => ?_, fun d a h => ?_, fun s d a s1 s7 h => ?_⟩
    · have hb : 10 ≤ b := by have := pw_le (S := S) a; omega
      rw [valB_s S hb]
      have f : Fw (valB S (b - 3) (d + 1)) := good_fw ((good_all S (b - 3)).1 _)
      have hw : ∀ w : Str, S.eqW a w = true → wtW (tl w) = 3 → Nu (valB S (b - 3) (d + 1)) (a + 1) := fun w k e => nv _ _ _ (by omega) (by rw [pw_w k, e]; omega)
      unfold Src.valM
      refine nu_if (fun _ => nu_fail) fun _ => nu_if (fun k => nu_let f (hw _ k (by decide +kernel)) (Nat.le_refl _)) fun _ => nu_if (fun k => nu_ifM f (hw _ k (by decide +kernel)) (Nat.le_refl _)) fun _ => nu_if (fun k => nu_loop f (hw _ k (by decide +kernel)) (Nat.le_refl _)) fun _ => ?_
      exact (ih (b - 1) (by omega)).2.2 1 _ _ (by decide) (by decide) (by omega)
    · have hb : 10 ≤ b := by have := pw_le (S := S) a; omega
      rw [sgB_s S hb]
      refine nu_sign (good_fw ((good_all S (b - 4)).1 _)) (fun k => (ih (b - 1) (by omega)).2.1 _ _ ?_) (fun c hc k => nv _ _ _ (by omega) ?_)
      · have e : wtW (tl "-") = 1 := by decide +kernel
        rw [pw_w k, e]
        omega
      · have e : wtW (tl "(") = 6 := by decide +kernel
        have := pw_mono (S := S) hc
        rw [pw_w k, e]
        omega
    · have hb : 10 ≤ b := by have := pw_le (S := S) a; omega
      rw [chB_s S hb]
      refine nu_chain s1 (good_fw ((good_all S (b - 1)).2.1 _)) (good_fw ((good_all S (b - 2)).2.2 3 _ (by decide) (by decide))) (fun q q1 q7 => good_fw ((good_all S (b - 1)).2.2 q _ q1 q7)) (fun k => (ih (b - 2) (by omega)).2.2 3 _ _ (by decide) (by decide) ?_) ((ih (b - 1) (by omega)).2.1 _ _ (by omega)) (fun c hc hr => (ih (b - 1) (by omega)).2.2 _ _ _ (by omega) (by have := rank_le6 (S.wd c); omega) ?_)
      · have e : wtW (tl "not") = 2 := by decide +kernel
        rw [pw_w k, e]
        omega
      · have := pw_mono (S := S) hc
        have := wt_rank hr
        rw [pw_s]
        omega
end
end Sn

/-! How deep the reading of a printed text goes, by the words of the tree that was printed. -/
namespace Sn
open PySem PySem.Spec PyProof.Rows L2 TL
mutual
def Sh.ph : Sh → Nat
  | .num _ => 0
  | .tru _ => 0
  | .nam _ => 0
  | .cal _ as => 6 + as.ph
  | .fld t _ => 6 * wr 8 t + t.ph
  | .bin w l r => 1 + (6 * wr (lpR (Src.rank (tl w))) l + l.ph) + (6 * wr (rpR (Src.rank (tl w))) r + r.ph)
  | .nt t => 2 + (6 * wr 3 t + t.ph)
  | .mn t => 1 + (6 * wr 7 t + t.ph)
  | .ite a c d => 3 + a.ph + c.ph + d.ph
  | .lt _ v c => 3 + v.ph + c.ph
  | .lp _ f c d => 3 + f.ph + c.ph + d.ph
def Shs.ph : Shs → Nat
  | .nil => 0
  | .cons h t => h.ph + t.ph
end
def wsum : List (List Nat) → Nat
  | [] => 0
  | w :: r => wtW w + wsum r
theorem wsum_app : ∀ x y : List (List Nat), wsum (x ++ y) = wsum x + wsum y
  | [], y => by
    show wsum y = 0 + wsum y
    omega
  | w :: r, y => by
    show _ + wsum (r ++ y) = _ + wsum r + wsum y
    rw [wsum_app r y]
    omega
def wp (x : List PW) : Nat := wsum (x.map (·.2))
theorem wp_app (x y : List PW) : wp (x ++ y) = wp x + wp y := by unfold wp; rw [List.map_append, wsum_app]
theorem wp_c (b k : Nat) {w : List Nat} (r : List PW) (h : wtW w = k) : wp ((b, w) :: r) = k + wp r := by rw [← h]; rfl
theorem wp_nil : wp [] = 0 := rfl
theorem wt_ops : ∀ w ∈ opsB, wtW w = 1 := by decide +kernel
theorem wt_sort {w : List Nat} (h : sortW w = "name" ∨ sortW w = "number") : wtW w = 0 := by
  have k : ∀ u : Str, sortW (tl u) ≠ "name" → sortW (tl u) ≠ "number" → w ≠ tl u := fun u h1 h2 e => by
    rw [e] at h
    rcases h with h | h
    · exact h1 h
    · exact h2 h
  have k2 : ¬ 1 ≤ Src.rank w := fun e => by
    have q : ∀ u ∈ opsB, sortW u ≠ "name" ∧ sortW u ≠ "number" := by decide +kernel
    obtain ⟨q1, q2⟩ := q w (rank_mem e)
    rcases h with h | h
    · exact q1 h
    · exact q2 h
  unfold wtW
  rw [if_neg (k "(" (by decide +kernel) (by decide +kernel)), if_neg (k "let" (by decide +kernel) (by decide +kernel)), if_neg (k "if" (by decide +kernel) (by decide +kernel)), if_neg (k "loop" (by decide +kernel) (by decide +kernel)), if_neg (k "not" (by decide +kernel) (by decide +kernel)), if_neg k2]
theorem wp_wrp {s : Sh} {r : Nat} (h : ∀ b, wp (s.cw b) = s.ph) (b : Nat) : wp (wrp r s.rk s.cw b) = 6 * wr r s + s.ph := by
  unfold wrp wr
  split
  · rw [wp_c _ 6 _ (by decide +kernel), wp_app, h, wp_c _ 0 _ (by decide +kernel), wp_nil]
    omega
  · rw [h]
    omega
mutual
theorem Sh.wp : ∀ s : Sh, s.fine → ∀ b, wp (s.cw b) = s.ph
  | .num v, h, b => by
    rw [Sh.fine] at h
    rw [Sh.cw, wp_c _ 0 _ (wt_sort (.inr h.all.1)), Sh.ph]
    rfl
  | .tru x, h, b => by
    rw [Sh.cw, wp_c _ 0 _ (by cases x <;> decide +kernel), Sh.ph]
    rfl
  | .nam x, h, b => by
    rw [Sh.fine] at h
    rw [Sh.cw, wp_c _ 0 _ (wt_sort (.inl h.1)), Sh.ph]
    rfl
  | .cal x as, h, b => by
    rw [Sh.fine] at h
    rw [Sh.cw, wp_c _ 0 _ (wt_sort (.inl h.1.1)), wp_c _ 6 _ (by decide +kernel), wp_app, Shs.wp as h.2, wp_c _ 0 _ (by decide +kernel), wp_nil, Sh.ph]
    omega
  | .fld t x, h, b => by
    rw [Sh.fine] at h
    rw [Sh.cw, wp_app, wp_wrp (Sh.wp t h.2.2), wp_c _ 0 _ (by decide +kernel), wp_c _ 0 _ (wt_sort (.inl h.1.1)), wp_nil, Sh.ph]
    omega
  | .bin w l r, h, b => by
    rw [Sh.fine] at h
    rw [Sh.cw, wp_app, wp_wrp (Sh.wp l h.2.1), wp_c _ 1 _ (wt_ops _ h.1.1), wp_wrp (Sh.wp r h.2.2), Sh.ph]
    omega
  | .nt t, h, b => by
    rw [Sh.fine] at h
    rw [Sh.cw, wp_c _ 2 _ (by decide +kernel), wp_wrp (Sh.wp t h), Sh.ph]
  | .mn t, h, b => by
    rw [Sh.fine] at h
    rw [Sh.cw, wp_c _ 1 _ (by decide +kernel), wp_wrp (Sh.wp t h), Sh.ph]
  | .ite x y z, h, b => by
    rw [Sh.fine] at h
    rw [Sh.cw, wp_c _ 3 _ (by decide +kernel), wp_app, Sh.wp x h.1, wp_c _ 0 _ (by decide +kernel), wp_app, Sh.wp y h.2.1, wp_c _ 0 _ (by decide +kernel), Sh.wp z h.2.2, Sh.ph]
    omega
  | .lt nm x y, h, b => by
    rw [Sh.fine] at h
    rw [Sh.cw, wp_c _ 3 _ (by decide +kernel), wp_c _ 0 _ (wt_sort (.inl h.1.1)), wp_c _ 0 _ (by decide +kernel), wp_app, Sh.wp x h.2.1, wp_c _ 0 _ (by decide +kernel), Sh.wp y h.2.2, Sh.ph]
    omega
  | .lp nm x y z, h, b => by
    rw [Sh.fine] at h
    rw [Sh.cw, wp_c _ 3 _ (by decide +kernel), wp_c _ 0 _ (wt_sort (.inl h.1.1)), wp_c _ 0 _ (by decide +kernel), wp_app, Sh.wp x h.2.1, wp_c _ 0 _ (by decide +kernel), wp_app, Sh.wp y h.2.2.1, wp_c _ 0 _ (by decide +kernel), Sh.wp z h.2.2.2, Sh.ph]
    omega
theorem Shs.wp : ∀ as : Shs, as.fine → ∀ k, wp (as.cw k) = as.ph
  | .nil, _, k => by
    rw [Shs.cw, Shs.ph]
    rfl
  | .cons a t, h, true => by
    rw [Shs.fine] at h
    rw [Shs.cw, if_pos rfl, wp_app, Sh.wp a h.1, Shs.wp t h.2, Shs.ph]
  | .cons a t, h, false => by
    rw [Shs.fine] at h
    rw [Shs.cw, if_neg (by decide), List.cons_append, wp_c _ 0 _ (by decide +kernel), wp_app, Sh.wp a h.1, Shs.wp t h.2, Shs.ph]
    omega
end
theorem pw_at {S : Src} : ∀ {r : List Wd} {a : Nat}, At S a r → S.pw (a + r.length) = S.pw a + wsum (r.map (·.1))
  | [], a, _ => rfl
  | w :: r, a, h => by
    have k := pw_at h.next
    have e : a + (w :: r).length = a + 1 + r.length := by rw [List.length_cons]; omega
    rw [e, k]
    show S.pw a + wtW (S.wd a) + _ = S.pw a + (wtW w.1 + wsum (r.map (·.1)))
    rw [h.wd]
    omega
theorem pw_has {S : Src} {ws : List Wd} (h : HasW S ws) : S.pw S.n = wsum (ws.map (·.1)) := by
  have k := pw_at (S := S) (a := 0) (r := ws) ⟨[], h, rfl⟩
  have e : S.n = ws.length := by unfold Src.n; rw [h.ts, List.length_map]
  rw [e]
  rw [Nat.zero_add] at k
  rw [k]
  exact Nat.zero_add _
/-! ### by the words of the tree -/
def sig (rk : Nat) : Nat := if rk ≤ 2 then 16 else if rk ≤ 7 then 4 else 0
def dlt (r : Nat) : Nat := if r ≤ 3 then 0 else 12
theorem sig_dlt {rk r : Nat} (h : rk < r) (h8 : r ≤ 8) : 16 ≤ sig rk + dlt r := by
  unfold sig dlt
  repeat (first | (split <;> first | omega | skip))
theorem rpR_le (r : Nat) : rpR r ≤ 7 := by
  unfold rpR
  repeat (first | (split <;> first | omega | skip))
theorem bin_dlt : ∀ w ∈ opsB, dlt (lpR (Src.rank w)) + dlt (rpR (Src.rank w)) + sig (Src.rank w) ≤ 28 := by decide +kernel
def Ph (n : Nd) : Prop := 12 * n.sh.ph + 12 + sig n.sh.rk ≤ 28 * n.nw
theorem ph_all : ∀ (m : Nat) (n : Nd), n.ht ≤ m → n.ok → n.wf → n.sh.fine → Ph n ∧ ∀ r, r ≤ 8 → n.hi r → 12 * (6 * wr r n.sh + n.sh.ph) + 12 ≤ 28 * n.nw + dlt r := by
  intro m
  induction m with
  | zero =>
    intro n hm
    obtain ⟨tag, call, s, e, pre, post, kids⟩ := n
    rw [Nd.ht_nd] at hm
    omega
  | succ m ih =>
    intro n hm ok wf fine
    have kid : ∀ a : Nd, a.ok → a.wf → a.sh.fine → a.ht ≤ m → ∀ q, q ≤ 8 → a.hi q → 12 * (6 * wr q a.sh + a.sh.ph) + 12 ≤ 28 * a.nw + dlt q := fun a o w f h q k0 k => (ih a h o w f).2 q k0 k
    have kid0 : ∀ a : Nd, a.ok → a.wf → a.sh.fine → a.ht ≤ m → 12 * a.sh.ph + 12 ≤ 28 * a.nw := fun a o w f h => by
      have := (ih a h o w f).1
      unfold Ph at this
      omega
    have kids : ∀ ks : Ns, ks.ok → ks.wf → ks.shs.fine → ks.ht ≤ m → 12 * ks.shs.ph ≤ 28 * ks.nw := by
      intro ks
      refine Ns.rec (motive_1 := fun _ => True) (motive_2 := fun ks => ks.ok → ks.wf → ks.shs.fine → ks.ht ≤ m → 12 * ks.shs.ph ≤ 28 * ks.nw) (fun _ _ _ _ _ _ _ _ => trivial) ?_ ?_ ks
      · intro _ _ _ _
        rw [Ns.shs_nil, Ns.nw_nil, Shs.ph]
        exact Nat.le_refl _
      · intro a t _ iht o w f h
        rw [Ns.ht_cons] at h
        rw [Ns.shs_cons, Shs.fine] at f
        have k1 := kid0 a (Ns.ok_cons.mp o).1 (Ns.wf_cons.mp w).1 f.1 (by omega)
        have k2 := iht (Ns.ok_cons.mp o).2 (Ns.wf_cons.mp w).2 f.2 (by omega)
        rw [Ns.shs_cons, Ns.nw_cons, Shs.ph]
        omega
    -- from Ph alone, where it is no group
    have fin : ∀ n : Nd, Ph n → n.grp = false → n.rk = n.sh.rk → Ph n ∧ ∀ r, r ≤ 8 → n.hi r → 12 * (6 * wr r n.sh + n.sh.ph) + 12 ≤ 28 * n.nw + dlt r := fun n h g e => ⟨h, fun r _ k => by
      unfold Ph at h
      rw [hi_wr k g e]
      omega⟩
    revert hm wf fine
    have hk1 : ∀ a : Nd, (nk1 a).ht = a.ht := fun a => by unfold nk1; rw [Ns.ht_cons, Ns.ht_nil]; omega
    have hk2 : ∀ a b : Nd, (nk2 a b).ht = max a.ht b.ht := fun a b => by unfold nk2; rw [Ns.ht_cons, Ns.ht_cons, Ns.ht_nil]; omega
    have hk3 : ∀ a b c : Nd, (nk3 a b c).ht = max a.ht (max b.ht c.ht) := fun a b c => by unfold nk3; rw [Ns.ht_cons, Ns.ht_cons, Ns.ht_cons, Ns.ht_nil]; omega
    have wk1 : ∀ {a : Nd}, (nk1 a).wf → a.wf := fun h => (Ns.wf_cons.mp h).1
    have wk2 : ∀ {a b : Nd}, (nk2 a b).wf → a.wf ∧ b.wf := fun h => ⟨(Ns.wf_cons.mp h).1, (Ns.wf_cons.mp (Ns.wf_cons.mp h).2).1⟩
    have wk3 : ∀ {a b c : Nd}, (nk3 a b c).wf → a.wf ∧ b.wf ∧ c.wf := fun h => ⟨(Ns.wf_cons.mp h).1, (Ns.wf_cons.mp (Ns.wf_cons.mp h).2).1, (Ns.wf_cons.mp (Ns.wf_cons.mp (Ns.wf_cons.mp h).2).2).1⟩
    refine Nd.cases_ (P := fun n => n.ht ≤ m + 1 → n.wf → n.sh.fine → Ph n ∧ ∀ r, r ≤ 8 → n.hi r → 12 * (6 * wr r n.sh + n.sh.ph) + 12 ≤ 28 * n.nw + dlt r) n ok ?_ ?_ ?_ ?_ ?_ ?_ ?_ ?_ ?_ ?_ ?_ ?_
    · intro s e v hm wf fine
      refine fin _ ?_ rfl (by rw [sh_num]; rfl)
      unfold Ph
      rw [sh_num, Nd.nw_nd, Ns.nw_nil, Sh.ph]
      show _ + 0 ≤ 28 * (1 + 0)
      omega
    · intro s e v hm wf fine
      refine fin _ ?_ rfl (by rw [sh_tru]; rfl)
      unfold Ph
      rw [sh_tru, Nd.nw_nd, Ns.nw_nil, Sh.ph]
      show _ + 0 ≤ 28 * (1 + 0)
      omega
    · intro s e v hm wf fine
      refine fin _ ?_ rfl (by rw [sh_nam]; rfl)
      unfold Ph
      rw [sh_nam, Nd.nw_nd, Ns.nw_nil, Sh.ph]
      show _ + 0 ≤ 28 * (1 + 0)
      omega
    · intro s e v ks o hm wf fine
      refine fin _ ?_ rfl (by rw [sh_cal]; rfl)
      rw [Nd.ht_nd] at hm
      rw [sh_cal, Sh.fine] at fine
      have k := kids ks o (Nd.wf_nd.mp wf).2 fine.2 (by omega)
      unfold Ph
      rw [sh_cal, Nd.nw_nd, Sh.ph]
      show _ + 0 ≤ 28 * (3 + ks.nw)
      omega
    · intro s e v a oa hm wf fine
      refine fin _ ?_ rfl (by rw [sh_fld]; rfl)
      obtain ⟨f, w⟩ := Nd.wf_nd.mp wf
      rw [Nd.ht_nd, hk1] at hm
      rw [sh_fld, Sh.fine] at fine
      have k := kid a oa (wk1 w) fine.2.2 (by omega) 8 (by decide) (fit1 f)
      unfold Ph
      rw [sh_fld, Nd.nw_nd, nw_k1, Sh.ph]
      show _ + 0 ≤ 28 * (2 + a.nw)
      have : dlt 8 = 12 := rfl
      omega
    · intro s e a oa hm wf fine
      obtain ⟨f, w⟩ := Nd.wf_nd.mp wf
      rw [Nd.ht_nd, hk1] at hm
      rw [sh_grp] at fine
      have k := (ih a (by omega) oa (wk1 w) fine).1
      unfold Ph at k ⊢
      rw [sh_grp, Nd.nw_nd, nw_k1]
      refine ⟨?_, fun r h8 hr => ?_⟩
      · show _ ≤ 28 * (2 + a.nw)
        omega
      · show _ ≤ 28 * (2 + a.nw) + _
        by_cases c : a.sh.rk < r
        · have := sig_dlt c h8
          have := wr1 r a.sh
          omega
        · rw [show wr r a.sh = 0 from if_neg c]
          omega
    · intro s e a oa hm wf fine
      refine fin _ ?_ rfl (by rw [sh_nt]; rfl)
      obtain ⟨f, w⟩ := Nd.wf_nd.mp wf
      rw [Nd.ht_nd, hk1] at hm
      rw [sh_nt, Sh.fine] at fine
      have k := kid a oa (wk1 w) fine (by omega) 3 (by decide) (fit1 f)
      unfold Ph
      rw [sh_nt, Nd.nw_nd, nw_k1, Sh.ph]
      show _ + 4 ≤ 28 * (1 + a.nw)
      have : dlt 3 = 0 := rfl
      omega
    · intro s e a oa hm wf fine
      refine fin _ ?_ rfl (by rw [sh_mn]; rfl)
      obtain ⟨f, w⟩ := Nd.wf_nd.mp wf
      rw [Nd.ht_nd, hk1] at hm
      rw [sh_mn, Sh.fine] at fine
      have k := kid a oa (wk1 w) fine (by omega) 7 (by decide) (fit1 f)
      unfold Ph
      rw [sh_mn, Nd.nw_nd, nw_k1, Sh.ph]
      show _ + 4 ≤ 28 * (1 + a.nw)
      have : dlt 7 = 12 := rfl
      omega
    · intro s e v a b sv oa ob hm wf fine
      obtain ⟨f, w⟩ := Nd.wf_nd.mp wf
      rw [Nd.ht_nd, hk2] at hm
      rw [sh_bin, Sh.fine] at fine
      have pl : plc "binary" [.str v] = [lpR (Src.rank (tl v)), rpR (Src.rank (tl v))] := by
        unfold plc
        rw [if_neg (by decide +kernel), if_neg (by decide +kernel), if_neg (by decide +kernel), if_pos rfl]
        rfl
      rw [pl] at f
      have ka := kid a oa (wk2 w).1 fine.2.1 (by omega) _ (Nat.le_trans lpR_le (by decide)) (fit2 f).1
      have kb := kid b ob (wk2 w).2 fine.2.2 (by omega) _ (Nat.le_trans (rpR_le _) (by decide)) (fit2 f).2
      have er : (Nd.nd "binary" false s e [.str v] [] (nk2 a b)).rk = (Sh.bin v a.sh b.sh).rk := by
        rw [Nd.rk_nd, if_pos rfl]
        rfl
      refine fin _ ?_ rfl (by rw [sh_bin]; exact er)
      have d := bin_dlt _ fine.1.1
      unfold Ph
      rw [sh_bin, Nd.nw_nd, nw_k2, Sh.ph]
      show _ + sig (Src.rank (tl v)) ≤ 28 * (1 + (a.nw + b.nw))
      omega
    · intro s e a b c oa ob oc hm wf fine
      refine fin _ ?_ rfl (by rw [sh_ite]; rfl)
      obtain ⟨f, w⟩ := Nd.wf_nd.mp wf
      rw [Nd.ht_nd, hk3] at hm
      rw [sh_ite, Sh.fine] at fine
      have ka := kid0 a oa (wk3 w).1 fine.1 (by omega)
      have kb := kid0 b ob (wk3 w).2.1 fine.2.1 (by omega)
      have kc := kid0 c oc (wk3 w).2.2 fine.2.2 (by omega)
      unfold Ph
      rw [sh_ite, Nd.nw_nd, nw_k3, Sh.ph]
      show _ + 16 ≤ 28 * (3 + (a.nw + b.nw + c.nw))
      omega
    · intro s e v i a b oa ob hm wf fine
      refine fin _ ?_ rfl (by rw [sh_lt]; rfl)
      obtain ⟨f, w⟩ := Nd.wf_nd.mp wf
      rw [Nd.ht_nd, hk2] at hm
      rw [sh_lt, Sh.fine] at fine
      have ka := kid0 a oa (wk2 w).1 fine.2.1 (by omega)
      have kb := kid0 b ob (wk2 w).2 fine.2.2 (by omega)
      unfold Ph
      rw [sh_lt, Nd.nw_nd, nw_k2, Sh.ph]
      show _ + 16 ≤ 28 * (4 + (a.nw + b.nw))
      omega
    · intro s e v i a b c oa ob oc hm wf fine
      refine fin _ ?_ rfl (by rw [sh_lp]; rfl)
      obtain ⟨f, w⟩ := Nd.wf_nd.mp wf
      rw [Nd.ht_nd, hk3] at hm
      rw [sh_lp, Sh.fine] at fine
      have ka := kid0 a oa (wk3 w).1 fine.2.1 (by omega)
      have kb := kid0 b ob (wk3 w).2.1 fine.2.2.1 (by omega)
      have kc := kid0 c oc (wk3 w).2.2 fine.2.2.2 (by omega)
      unfold Ph
      rw [sh_lp, Nd.nw_nd, nw_k3, Sh.ph]
      show _ + 16 ≤ 28 * (5 + (a.nw + b.nw + c.nw))
      omega
theorem Fd.ph {nw : List Wd} {t : Tn} {n : Nd} (h : Fd nw t n) (hn : nw.length ≤ 92) : n.sh.ph ≤ 213 := by
  have k := (ph_all n.ht n (Nat.le_refl _) h.ok h.wf h.fine).1
  unfold Ph at k
  have := h.nw
  omega
end Sn

/-! What the law wants of a made tree's shape. -/
namespace Sn
open PySem PySem.Spec PyProof.Rows L2 TL
theorem dep_mem {d : D} : ∀ {ds : List D}, d ∈ ds → dep d ≤ dep (ofL ds)
  | [], h => by cases h
  | x :: r, h => by
    show _ ≤ max (dep x) (dep (ofL r))
    rcases List.mem_cons.mp h with rfl | h
    · omega
    · have := dep_mem h
      omega
theorem dep_t (t : Tn) : dep t.d = dep (ofL t.rest) + 1 := by
  show max 0 (max 0 (max 0 (dep (ofL t.rest)))) + 1 = _
  omega
theorem dep_app (x y : List D) : dep (ofL x) ≤ dep (ofL (x ++ y)) ∧ dep (ofL y) ≤ dep (ofL (x ++ y)) := by
  induction x with
  | nil => exact ⟨Nat.zero_le _, Nat.le_refl _⟩
  | cons a r ih =>
    obtain ⟨h1, h2⟩ := ih
    constructor
    · show max (dep a) (dep (ofL r)) ≤ max (dep a) (dep (ofL (r ++ y)))
      omega
    · show _ ≤ max (dep a) (dep (ofL (r ++ y)))
      omega
mutual
theorem Nd.ht_dep : ∀ n : Nd, n.ht ≤ dep n.t.d
  | .nd tag call s e pre post kids => by
    have k := Ns.ht_dep kids
    rw [Nd.ht_nd, Nd.t_nd, dep_t]
    show kids.ht + 1 ≤ dep (ofL (pre ++ ((if call = true then [.tup (ofL kids.ds)] else kids.ds) ++ post))) + 1
    have h1 := (dep_app pre ((if call = true then [.tup (ofL kids.ds)] else kids.ds) ++ post)).2
    have h2 := (dep_app (if call = true then [.tup (ofL kids.ds)] else kids.ds) post).1
    have h3 : dep (ofL kids.ds) ≤ dep (ofL (if call = true then [.tup (ofL kids.ds)] else kids.ds)) := by
      cases call with
      | true =>
        show _ ≤ max (dep (ofL kids.ds) + 1) 0
        omega
      | false => exact Nat.le_refl _
    omega
theorem Ns.ht_dep : ∀ ns : Ns, ns.ht ≤ dep (ofL ns.ds)
  | .nil => by
    rw [Ns.ht_nil]
    exact Nat.zero_le _
  | .cons h t => by
    have k1 := Nd.ht_dep h
    have k2 := Ns.ht_dep t
    rw [Ns.ht_cons, Ns.ds_cons]
    show _ ≤ max (dep h.t.d) (dep (ofL t.ds))
    omega
end
theorem inn_le (tag : Str) : inn tag ≤ 1 := by
  unfold inn
  split <;> omega
mutual
theorem Nd.int_nw : ∀ n : Nd, n.int ≤ n.nw
  | .nd tag call s e pre post kids => by
    have k := Ns.int_nw kids
    have := inn_le tag
    have h : 1 ≤ ownW tag := by
      unfold ownW
      repeat (first | (split <;> first | omega | skip))
    rw [Nd.int_nd, Nd.nw_nd]
    omega
theorem Ns.int_nw : ∀ ns : Ns, ns.int ≤ ns.nw
  | .nil => by
    rw [Ns.int_nil, Ns.nw_nil]
    exact Nat.le_refl _
  | .cons h t => by
    have k1 := Nd.int_nw h
    have k2 := Ns.int_nw t
    rw [Ns.int_cons, Ns.nw_cons]
    omega
end
theorem kids_of {ks : Ns} {m : Nat} (hm : ks.ht ≤ m) {P : Ns → Prop} (h0 : P .nil) (h1 : ∀ a t, a.ht ≤ m → t.ht ≤ m → P t → P (.cons a t)) : P ks := by
  revert hm
  refine Ns.rec (motive_1 := fun _ => True) (motive_2 := fun ks => ks.ht ≤ m → P ks) (fun _ _ _ _ _ _ _ _ => trivial) (fun _ => h0) (fun a t _ ih h => ?_) ks
  rw [Ns.ht_cons] at h
  exact h1 a t (by omega) (by omega) (ih (by omega))
theorem ht1 (a : Nd) : (nk1 a).ht = a.ht := by unfold nk1; rw [Ns.ht_cons, Ns.ht_nil]; omega
theorem ht2 (a b : Nd) : (nk2 a b).ht = max a.ht b.ht := by unfold nk2; rw [Ns.ht_cons, Ns.ht_cons, Ns.ht_nil]; omega
theorem ht3 (a b c : Nd) : (nk3 a b c).ht = max a.ht (max b.ht c.ht) := by unfold nk3; rw [Ns.ht_cons, Ns.ht_cons, Ns.ht_cons, Ns.ht_nil]; omega
theorem int1 (a : Nd) : (nk1 a).int = a.int := (nk1_all a).2.1
theorem int2 (a b : Nd) : (nk2 a b).int = a.int + b.int := (nk2_all a b).2.1
theorem int3 (a b c : Nd) : (nk3 a b c).int = a.int + b.int + c.int := (nk3_all a b c).2.1
/-- no deeper than it has inner nodes; its shape is less deep -/
theorem ht_all : ∀ (m : Nat) (n : Nd), n.ht ≤ m → n.ok → n.ht ≤ n.int + 1 ∧ n.sh.hgt ≤ n.ht := by
  intro m
  induction m with
  | zero =>
    intro n hm
    obtain ⟨tag, call, s, e, pre, post, kids⟩ := n
    rw [Nd.ht_nd] at hm
    omega
  | succ m ih =>
    intro n hm ok
    have kids : ∀ ks : Ns, ks.ok → ks.ht ≤ m → ks.ht ≤ ks.int + 1 ∧ ks.shs.hgt ≤ ks.ht := by
      intro ks o h
      refine kids_of (P := fun ks => ks.ok → ks.ht ≤ ks.int + 1 ∧ ks.shs.hgt ≤ ks.ht) h (fun _ => ?_) (fun a t ha ht iht o => ?_) o
      · rw [Ns.ht_nil, Ns.shs_nil, Shs.hgt]
        exact ⟨Nat.zero_le _, Nat.le_refl _⟩
      · obtain ⟨k1, k2⟩ := ih a ha (Ns.ok_cons.mp o).1
        obtain ⟨k3, k4⟩ := iht (Ns.ok_cons.mp o).2
        rw [Ns.ht_cons, Ns.int_cons, Ns.shs_cons, Shs.hgt]
        omega
    revert hm
    refine Nd.cases_ (P := fun n => n.ht ≤ m + 1 → n.ht ≤ n.int + 1 ∧ n.sh.hgt ≤ n.ht) n ok ?_ ?_ ?_ ?_ ?_ ?_ ?_ ?_ ?_ ?_ ?_ ?_
    · intro s e v hm
      rw [Nd.ht_nd, Ns.ht_nil, Nd.int_nd, sh_num, Sh.hgt]
      omega
    · intro s e v hm
      rw [Nd.ht_nd, Ns.ht_nil, Nd.int_nd, sh_tru, Sh.hgt]
      omega
    · intro s e v hm
      rw [Nd.ht_nd, Ns.ht_nil, Nd.int_nd, sh_nam, Sh.hgt]
      omega
    · intro s e v ks o hm
      rw [Nd.ht_nd] at hm
      have k := kids ks o (by omega)
      rw [Nd.ht_nd, Nd.int_nd, sh_cal, Sh.hgt, show inn "call" = 1 from rfl]
      omega
    · intro s e v a oa hm
      rw [Nd.ht_nd, ht1] at hm
      have k := ih a (by omega) oa
      rw [Nd.ht_nd, Nd.int_nd, sh_fld, Sh.hgt, ht1, int1, show inn "field" = 1 from rfl]
      omega
    · intro s e a oa hm
      rw [Nd.ht_nd, ht1] at hm
      have k := ih a (by omega) oa
      rw [Nd.ht_nd, Nd.int_nd, sh_grp, ht1, int1, show inn "group" = 1 from rfl]
      omega
    · intro s e a oa hm
      rw [Nd.ht_nd, ht1] at hm
      have k := ih a (by omega) oa
      rw [Nd.ht_nd, Nd.int_nd, sh_nt, Sh.hgt, ht1, int1, show inn "not" = 1 from rfl]
      omega
    · intro s e a oa hm
      rw [Nd.ht_nd, ht1] at hm
      have k := ih a (by omega) oa
      rw [Nd.ht_nd, Nd.int_nd, sh_mn, Sh.hgt, ht1, int1, show inn "minus" = 1 from rfl]
      omega
    · intro s e v a b sv oa ob hm
      rw [Nd.ht_nd, ht2] at hm
      have ka := ih a (by omega) oa
      have kb := ih b (by omega) ob
      rw [Nd.ht_nd, Nd.int_nd, sh_bin, Sh.hgt, ht2, int2, show inn "binary" = 1 from rfl]
      omega
    · intro s e a b c oa ob oc hm
      rw [Nd.ht_nd, ht3] at hm
      have ka := ih a (by omega) oa
      have kb := ih b (by omega) ob
      have kc := ih c (by omega) oc
      rw [Nd.ht_nd, Nd.int_nd, sh_ite, Sh.hgt, ht3, int3, show inn "if" = 1 from rfl]
      omega
    · intro s e v i a b oa ob hm
      rw [Nd.ht_nd, ht2] at hm
      have ka := ih a (by omega) oa
      have kb := ih b (by omega) ob
      rw [Nd.ht_nd, Nd.int_nd, sh_lt, Sh.hgt, ht2, int2, show inn "let" = 1 from rfl]
      omega
    · intro s e v i a b c oa ob oc hm
      rw [Nd.ht_nd, ht3] at hm
      have ka := ih a (by omega) oa
      have kb := ih b (by omega) ob
      have kc := ih c (by omega) oc
      rw [Nd.ht_nd, Nd.int_nd, sh_lp, Sh.hgt, ht3, int3, show inn "loop" = 1 from rfl]
      omega
/-- a shape that the law prints -/
structure Okay (s : Sh) : Prop where
  fine : s.fine
  hgt : s.hgt ≤ 7
  ph : s.ph ≤ 213
  cnt : s.need + s.inr ≤ 92
theorem Fd.okay {nw : List Wd} {t : Tn} {n : Nd} (h : Fd nw t n) (hn : nw.length ≤ 92) (hd : dep t.d ≤ 7) : Okay n.sh := by
  have k1 := n.ht_dep
  rw [h.t] at k1
  have k2 := (ht_all n.ht n (Nat.le_refl _) h.ok).2
  have k3 := need_int n.ht n (Nat.le_refl _) h.ok h.wf 0 (.inr (Nat.zero_le _))
  have k4 := n.int_nw
  have k5 := h.nw
  exact ⟨h.fine, by omega, h.ph hn, by omega⟩
/-- the printed text is read as a node of the same shape -/
theorem Okay.read {s : Sh} (h : Okay s) (r : Addr) : ∃ n : Nd, Got s (s.need + s.inr) s.ws n ∧ valB ⟨r, s.tx, toks s.tx 0 s.tx.length⟩ 225 0 0 = .ok n.t (⟨r, s.tx, toks s.tx 0 s.tx.length⟩ : Src).n := by
  obtain ⟨n, g, e⟩ := Sh.back h.fine h.hgt r
  have hw := Sh.has h.fine r
  generalize (⟨r, s.tx, toks s.tx 0 s.tx.length⟩ : Src) = S at e hw
  have en : S.n = s.ws.length := by unfold Src.n; rw [hw.ts, List.length_map]
  have k1 := ((le_fuel S 16).1 330 0 (by decide) 0).ok e
  have k2 : valB S 225 0 0 ≠ .un := (nu_all S 225).1 0 0 (by
    rw [pw_has hw]
    unfold Sh.ws
    rw [pos_wd]
    have := Sh.wp s h.fine 0
    unfold Sn.wp at this
    rw [this]
    have := h.ph
    omega)
  refine ⟨n, g, ?_⟩
  rw [((le_bud S 225 330 (by decide)).1 0 0).eq k2, k1, en]
/-- with a pair of brackets taken out it ends, and gives no node of this shape -/
theorem Okay.less {s : Sh} (h : Okay s) {p : Nat × Nat} (hp : InG s.ws p) (r : Addr) {l' : List Nat} (hl : l' = s.tx.take p.1 ++ 32 :: ((s.tx.drop (p.1 + 1)).take (p.2 - 1 - (p.1 + 1)) ++ 32 :: s.tx.drop p.2)) :
    valB ⟨r, l', toks l' 0 l'.length⟩ 225 0 0 ≠ .un ∧ ∀ t b, valB ⟨r, l', toks l' 0 l'.length⟩ 225 0 0 = .ok t b → b ≤ (⟨r, l', toks l' 0 l'.length⟩ : Src).n → ∃ n : Nd, n.t = t ∧ n.ok ∧ n.sh ≠ s ∧ n.ht ≤ 93 := by
  obtain ⟨ws, u, v, w, hw, e1, e2⟩ := gone (Sh.ww s h.fine 0 true (by decide) (.inr rfl)) hp r hl
  have c1 : cn (ws.map (·.1)) + 1 = s.need + s.inr := by
    rw [← Sh.cp s h.fine 0]
    unfold Sn.cp
    rw [e1, e2, cn_app, cn_app, cn_app]
    show _ = cn u + ((if opW (tl "(") = true then 1 else 0) + cn (v ++ tl ")" :: w))
    rw [cn_app, if_pos (by decide +kernel)]
    show _ = cn u + (1 + (cn v + ((if opW (tl ")") = true then 1 else 0) + cn w)))
    rw [if_neg (by decide +kernel)]
    omega
  have c2 : wsum (ws.map (·.1)) ≤ s.ph := by
    rw [← Sh.wp s h.fine 0]
    unfold Sn.wp
    rw [e1, e2, wsum_app, wsum_app, wsum_app]
    show _ ≤ wsum u + (wtW (tl "(") + wsum (v ++ tl ")" :: w))
    rw [wsum_app]
    show _ ≤ wsum u + (wtW (tl "(") + (wsum v + (wtW (tl ")") + wsum w)))
    omega
  refine ⟨(nu_all _ 225).1 0 0 (by
    rw [pw_has hw]
    have := h.ph
    omega), fun t b hv hb => ?_⟩
  obtain ⟨_, n, h1, h2, h3, h4, h5⟩ := (good_all _ 225).1 0 0 t b hv
  have k2 := pc_has hw hb
  have k3 : (⟨r, l', toks l' 0 l'.length⟩ : Src).pc 0 = 0 := rfl
  have k4 := (ht_all n.ht n (Nat.le_refl _) h2).1
  have k5 := h.cnt
  refine ⟨n, h1, h2, fun e => ?_, by omega⟩
  have k := need_int n.ht n (Nat.le_refl _) h2 h3 0 h5
  rw [e] at k
  omega
end Sn

/-! The text of a shape, form by form: as the printer's pieces make it. -/
namespace Sn
open PySem PySem.Spec PyProof.Rows L2 TL
/-- the text in a place of rank r -/
def ptx (r : Nat) (s : Sh) : List Nat := if s.rk < r then tl "(" ++ (s.tx ++ tl ")") else s.tx
theorem ptx0 (s : Sh) : ptx 0 s = s.tx := if_neg (Nat.not_lt_zero _)
theorem gp0 : gp 0 = [] := rfl
theorem wrp_shift {s : Sh} (h : ∀ b, txt (s.cw b) = gp b ++ s.tx) (r b : Nat) : txt (wrp r s.rk s.cw b) = gp b ++ ptx r s := by
  unfold wrp ptx
  split
  · rw [txt_w, txt_app, txt_w, h 0]
    show _ ++ (_ ++ (gp 0 ++ s.tx ++ (gp 0 ++ (_ ++ [])))) = _
    rw [gp0, List.nil_append, List.nil_append, List.append_nil]
  · exact h b
theorem Sh.shift : ∀ (s : Sh) (b : Nat), txt (s.cw b) = gp b ++ s.tx
  | .num v, b => by unfold Sh.tx; rw [Sh.cw, Sh.cw]; rfl
  | .tru v, b => by unfold Sh.tx; rw [Sh.cw, Sh.cw]; rfl
  | .nam v, b => by unfold Sh.tx; rw [Sh.cw, Sh.cw]; rfl
  | .cal x as, b => by unfold Sh.tx; rw [Sh.cw, Sh.cw]; rfl
  | .fld t x, b => by
    unfold Sh.tx
    rw [Sh.cw, Sh.cw, txt_app, txt_app, wrp_shift (Sh.shift t), wrp_shift (Sh.shift t), List.append_assoc]
    rfl
  | .bin w l r, b => by
    unfold Sh.tx
    rw [Sh.cw, Sh.cw, txt_app, txt_app, wrp_shift (Sh.shift l), wrp_shift (Sh.shift l), List.append_assoc]
    rfl
  | .nt t, b => by unfold Sh.tx; rw [Sh.cw, Sh.cw]; rfl
  | .mn t, b => by unfold Sh.tx; rw [Sh.cw, Sh.cw]; rfl
  | .ite a c d, b => by unfold Sh.tx; rw [Sh.cw, Sh.cw]; rfl
  | .lt x v c, b => by unfold Sh.tx; rw [Sh.cw, Sh.cw]; rfl
  | .lp x f c d, b => by unfold Sh.tx; rw [Sh.cw, Sh.cw]; rfl
theorem wrp_tx (s : Sh) (r b : Nat) : txt (wrp r s.rk s.cw b) = gp b ++ ptx r s := wrp_shift s.shift r b
theorem tx_num (v : Int) : (Sh.num v).tx = numW v := by unfold Sh.tx; rw [Sh.cw, txt_w]; show [] ++ (_ ++ []) = _; simp
theorem tx_tru (x : Bool) : (Sh.tru x).tx = if x = true then tl "True" else tl "False" := by unfold Sh.tx; rw [Sh.cw, txt_w]; show [] ++ (_ ++ []) = _; simp
theorem tx_nam (x : Str) : (Sh.nam x).tx = tl x := by unfold Sh.tx; rw [Sh.cw, txt_w]; show [] ++ (_ ++ []) = _; simp
theorem tx_fld (t : Sh) (x : Str) : (Sh.fld t x).tx = ptx 8 t ++ (tl "." ++ tl x) := by
  unfold Sh.tx
  rw [Sh.cw, txt_app, wrp_tx]
  show gp 0 ++ ptx 8 t ++ (gp 0 ++ (tl "." ++ (gp 0 ++ (tl x ++ [])))) = _
  rw [gp0]
  simp
theorem tx_bin (w : Str) (l r : Sh) : (Sh.bin w l r).tx = ptx (lpR (Src.rank (tl w))) l ++ ([32] ++ tl w ++ [32] ++ ptx (rpR (Src.rank (tl w))) r) := by
  unfold Sh.tx
  rw [Sh.cw, txt_app, txt_w, wrp_tx, wrp_tx, gp0]
  show [] ++ _ ++ ([32] ++ (_ ++ ([32] ++ _))) = _
  simp
theorem tx_nt (t : Sh) : (Sh.nt t).tx = tl "not" ++ [32] ++ ptx 3 t := by
  unfold Sh.tx
  rw [Sh.cw, txt_w, wrp_tx, gp0]
  show [] ++ (_ ++ ([32] ++ _)) = _
  simp
theorem tx_mn (t : Sh) : (Sh.mn t).tx = tl "-" ++ ptx 7 t := by
  unfold Sh.tx
  rw [Sh.cw, txt_w, wrp_tx, gp0]
  simp
theorem tx_ite (a c d : Sh) : (Sh.ite a c d).tx = tl "if" ++ [32] ++ a.tx ++ ([32] ++ tl "then" ++ [32]) ++ c.tx ++ ([32] ++ tl "else" ++ [32]) ++ d.tx := by
  have e : (Sh.ite a c d).tx = gp 0 ++ (tl "if" ++ (txt (a.cw 1) ++ (gp 1 ++ (tl "then" ++ (txt (c.cw 1) ++ (gp 1 ++ (tl "else" ++ txt (d.cw 1)))))))) := by
    conv => lhs; unfold Sh.tx
    rw [Sh.cw, txt_w, txt_app, txt_w, txt_app, txt_w]
  rw [e, a.shift, c.shift, d.shift, gp0, show gp 1 = [32] from rfl]
  simp
theorem tx_lt (x : Str) (v c : Sh) : (Sh.lt x v c).tx = tl "let" ++ [32] ++ tl x ++ ([32] ++ tl "=" ++ [32]) ++ v.tx ++ ([32] ++ tl "in" ++ [32]) ++ c.tx := by
  have e : (Sh.lt x v c).tx = gp 0 ++ (tl "let" ++ (gp 1 ++ (tl x ++ (gp 1 ++ (tl "=" ++ (txt (v.cw 1) ++ (gp 1 ++ (tl "in" ++ txt (c.cw 1))))))))) := by
    conv => lhs; unfold Sh.tx
    rw [Sh.cw, txt_w, txt_w, txt_w, txt_app, txt_w]
  rw [e, v.shift, c.shift, gp0, show gp 1 = [32] from rfl]
  simp
theorem tx_lp (x : Str) (f c d : Sh) : (Sh.lp x f c d).tx = tl "loop" ++ [32] ++ tl x ++ ([32] ++ tl "=" ++ [32]) ++ f.tx ++ ([32] ++ tl "times" ++ [32]) ++ c.tx ++ ([32] ++ tl "do" ++ [32]) ++ d.tx := by
  have e : (Sh.lp x f c d).tx = gp 0 ++ (tl "loop" ++ (gp 1 ++ (tl x ++ (gp 1 ++ (tl "=" ++ (txt (f.cw 1) ++ (gp 1 ++ (tl "times" ++ (txt (c.cw 1) ++ (gp 1 ++ (tl "do" ++ txt (d.cw 1)))))))))))) := by
    conv => lhs; unfold Sh.tx
    rw [Sh.cw, txt_w, txt_w, txt_w, txt_app, txt_w, txt_app, txt_w]
  rw [e, f.shift, c.shift, d.shift, gp0, show gp 1 = [32] from rfl]
  simp
/-- arguments: the first, then those behind a comma -/
def Shs.tx : Shs → Bool → List Nat
  | .nil, _ => []
  | .cons h t, k => (if k = true then [] else tl "," ++ [32]) ++ h.tx ++ t.tx false
theorem Shs.txt_ : ∀ (as : Shs) (k : Bool), txt (as.cw k) = as.tx k
  | .nil, _ => by rw [Shs.cw, Shs.tx]; rfl
  | .cons h t, true => by
    rw [Shs.cw, Shs.tx, if_pos rfl, if_pos rfl, txt_app, h.shift, Shs.txt_ t, gp0]
  | .cons h t, false => by
    rw [Shs.cw, Shs.tx, if_neg (by decide), if_neg (by decide), List.cons_append, txt_w, txt_app, h.shift, Shs.txt_ t, gp0, show gp 1 = [32] from rfl]
    simp
theorem tx_cal (x : Str) (as : Shs) : (Sh.cal x as).tx = tl x ++ tl "(" ++ as.tx true ++ tl ")" := by
  unfold Sh.tx
  rw [Sh.cw, txt_w, txt_w, txt_app, Shs.txt_, txt_w, gp0]
  show [] ++ (_ ++ ([] ++ (_ ++ (_ ++ ([] ++ (_ ++ [])))))) = _
  simp
end Sn

/-! The printer's pieces: texts, and trees in places of a rank. -/
namespace Sn
open PySem PySem.Spec PyProof.Rows L2 TL
inductive Pie where
  | tx (x : Str)
  | nd (n : Nd) (r : Nat)
/-- what it prints -/
def Pie.l : Pie → List Nat
  | .tx x => tl x
  | .nd n r => ptx r n.sh
/-- what is left to do of it -/
def Pie.m : Pie → Nat
  | .tx _ => 1
  | .nd n r => 3 * (ptx r n.sh).length
def Pie.fit : Pie → Prop
  | .tx x => tl x ≠ []
  | .nd n r => n.ok
/-- a piece in the heap -/
def Pie.at_ (H : Hp) : Pie → V → Prop
  | .tx x, v => v = .str x
  | .nd n r, v => ∃ (p : Addr) (a : V), v = .ref p ∧ H p = some (.tup [a, .int (r : Int)]) ∧ DT H n.t.d a
def pl : List Pie → List Nat
  | [] => []
  | p :: r => p.l ++ pl r
def pm : List Pie → Nat
  | [] => 0
  | p :: r => p.m + pm r
theorem pl_app : ∀ x y : List Pie, pl (x ++ y) = pl x ++ pl y
  | [], _ => rfl
  | p :: r, y => by
    show p.l ++ pl (r ++ y) = p.l ++ pl r ++ pl y
    rw [pl_app r y, List.append_assoc]
theorem pm_app : ∀ x y : List Pie, pm (x ++ y) = pm x + pm y
  | [], y => by
    show pm y = 0 + pm y
    omega
  | p :: r, y => by
    show p.m + pm (r ++ y) = p.m + pm r + pm y
    rw [pm_app r y]
    omega
theorem pm_le : ∀ {x : List Pie}, (∀ p ∈ x, p.fit) → pm x ≤ 3 * (pl x).length
  | [], _ => Nat.le_refl _
  | p :: r, h => by
    have k := pm_le (x := r) fun q hq => h q (List.mem_cons_of_mem _ hq)
    have h1 := h p (List.mem_cons_self ..)
    show p.m + pm r ≤ 3 * (p.l ++ pl r).length
    rw [List.length_append]
    cases p with
    | tx x =>
      have : 0 < (tl x).length := List.length_pos_iff.mpr h1
      show 1 + pm r ≤ 3 * ((tl x).length + _)
      omega
    | nd n q =>
      show 3 * (ptx q n.sh).length + pm r ≤ 3 * ((ptx q n.sh).length + _)
      omega
/-- pieces with a text among them are less to do than the tree -/
theorem pm_lt {x : List Pie} (h : ∀ p ∈ x, p.fit) {t : Str} (ht : Pie.tx t ∈ x) : pm x < 3 * (pl x).length := by
  obtain ⟨u, v, rfl⟩ := List.append_of_mem ht
  have k1 := pm_le (x := u) fun q hq => h q (by simp [hq])
  have k2 := pm_le (x := v) fun q hq => h q (by simp [hq])
  have h1 : 0 < (tl t).length := List.length_pos_iff.mpr (h _ ht)
  rw [pm_app, pl_app, List.length_append]
  show pm u + (1 + pm v) < 3 * ((pl u).length + (tl t ++ pl v).length)
  rw [List.length_append]
  omega
/-- the pieces of an argument list, the first or not -/
def argP : Ns → Bool → List Pie
  | .nil, _ => []
  | .cons h t, k => (if k = true then [] else [.tx ", "]) ++ .nd h 0 :: argP t false
theorem argP_l : ∀ (ks : Ns) (k : Bool), pl (argP ks k) = ks.shs.tx k
  | .nil, k => by rw [argP, Ns.shs_nil, Shs.tx]; rfl
  | .cons h t, true => by
    rw [argP, Ns.shs_cons, Shs.tx, if_pos rfl, if_pos rfl]
    show ptx 0 h.sh ++ pl (argP t false) = _
    rw [argP_l t, ptx0]
    rfl
  | .cons h t, false => by
    rw [argP, Ns.shs_cons, Shs.tx, if_neg (by decide), if_neg (by decide)]
    show tl ", " ++ (ptx 0 h.sh ++ pl (argP t false)) = _
    rw [argP_l t, ptx0, show tl ", " = tl "," ++ [32] by decide +kernel, List.append_assoc]
    simp
end Sn

/-! The texts of a tree that is read are made of signs. -/
namespace Sn
open PySem PySem.Spec PyProof.Rows L2 TL
def sD : D → Bool
  | .str x => PyData.strOk x
  | .tup l => sD l
  | .cons a l => sD a && sD l
  | _ => true
theorem sD_ofL : ∀ l : List D, sD (ofL l) = l.all sD
  | [] => rfl
  | a :: r => by
    show (sD a && sD (ofL r)) = _
    rw [sD_ofL r]
    rfl
theorem sD_tn (t : Tn) : sD t.d = (PyData.strOk t.tag && t.rest.all sD) := by
  rw [← sD_ofL]
  rfl
def Okc (l : List Nat) : Prop := ∀ c ∈ l, c < 1114112
theorem Okc.str {l : List Nat} (h : Okc l) : PyData.strOk (strL l) = true := by
  show (strL l).cps.all (· < 0x110000) = true
  rw [Array.all_eq_true']
  intro c hc
  have hc : c ∈ l := by
    have : c ∈ (strL l).cps.toList := Array.mem_toList_iff.mpr hc
    exact this
  exact decide_eq_true (h c hc)
theorem Okc.wd {S : Src} (h : Okc S.l) (a : Nat) : PyData.strOk (strL (S.wd a)) = true := by
  refine Okc.str fun c hc => ?_
  unfold Src.wd at hc
  split at hc
  · exact h c (List.mem_of_mem_drop (List.mem_of_mem_take hc))
  · cases hc
section
variable {S : Src}
def Gs (R : Nat → Rs Tn) : Prop := ∀ a t b, R a = .ok t b → sD t.d = true
theorem part_s {V : Nat → Rs Tn} (g : Gs V) {w : Str} {a b : Nat} {t : Tn} (h : S.part V w a = .ok t b) : sD t.d = true := by
  unfold Src.part at h
  by_cases c : S.eqW a w = true
  · rw [if_pos c] at h
    exact g _ _ _ h
  · rw [if_neg c] at h
    exact (fail_no h).elim
theorem sd_str (sw : Okc S.l) (a : Nat) : sD (S.strW a) = true := sw.wd a
theorem s_let (sw : Okc S.l) {V : Nat → Rs Tn} (g : Gs V) {s a b : Nat} {t : Tn} (h : S.letM V s a = .ok t b) : sD t.d = true := by
  unfold Src.letM at h
  by_cases c : S.isN a = true
  rotate_left
  · rw [if_neg c] at h
    exact (fail_no h).elim
  rw [if_pos c] at h
  obtain ⟨v, a1, h1, h⟩ := bind_ok h
  obtain ⟨y, a2, h2, h⟩ := bind_ok h
  have k1 := part_s g h1
  have k2 := part_s g h2
  cases h
  rw [sD_tn]
  show (PyData.strOk "let" && (sD (S.strW a) && (true && (sD v.d && (sD y.d && true))))) = true
  rw [sd_str sw, k1, k2]
  decide +kernel
theorem s_if {V : Nat → Rs Tn} (g : Gs V) {s a b : Nat} {t : Tn} (h : S.ifM V s a = .ok t b) : sD t.d = true := by
  unfold Src.ifM at h
  obtain ⟨v, a1, h1, h⟩ := bind_ok h
  obtain ⟨y, a2, h2, h⟩ := bind_ok h
  obtain ⟨z, a3, h3, h⟩ := bind_ok h
  have k1 := g _ _ _ h1
  have k2 := part_s g h2
  have k3 := part_s g h3
  cases h
  rw [sD_tn]
  show (PyData.strOk "if" && (sD v.d && (sD y.d && (sD z.d && true)))) = true
  rw [k1, k2, k3]
  decide +kernel
theorem s_loop (sw : Okc S.l) {V : Nat → Rs Tn} (g : Gs V) {s a b : Nat} {t : Tn} (h : S.loopM V s a = .ok t b) : sD t.d = true := by
  unfold Src.loopM at h
  by_cases c : S.isN a = true
  rotate_left
  · rw [if_neg c] at h
    exact (fail_no h).elim
  rw [if_pos c] at h
  obtain ⟨v, a1, h1, h⟩ := bind_ok h
  obtain ⟨y, a2, h2, h⟩ := bind_ok h
  obtain ⟨z, a3, h3, h⟩ := bind_ok h
  have k1 := part_s g h1
  have k2 := part_s g h2
  have k3 := part_s g h3
  cases h
  rw [sD_tn]
  show (PyData.strOk "loop" && (sD (S.strW a) && (true && (sD v.d && (sD y.d && (sD z.d && true)))))) = true
  rw [sd_str sw, k1, k2, k3]
  decide +kernel
theorem s_args {V : Nat → Rs Tn} (g : Gs V) (s0 : Nat) (nm : D) (hn : sD nm = true) : ∀ (m a : Nat) (acc : List D) (t : Tn) (b : Nat), S.n + 1 - a ≤ m → acc.all sD = true → S.argsM V s0 nm acc a = .ok t b → sD t.d = true
  | 0, a, acc, t, b, hm, ho, h => by
    have ha : S.n ≤ a := by omega
    rw [Src.argsM] at h
    rw [if_neg (by rw [eqW_none ha (by decide +kernel)]; decide), if_neg (by rw [eqW_none ha (by decide +kernel)]; decide)] at h
    exact (fail_no h).elim
  | m + 1, a, acc, t, b, hm, ho, h => by
    rw [Src.argsM] at h
    by_cases c : S.eqW a "," = true
    · rw [if_pos c] at h
      cases hv : V (a + 1) with
      | ok x a' =>
        rw [hv] at h
        have h : (if h : a < a' ∧ a < S.n then S.argsM V s0 nm (acc ++ [x.d]) a' else .un) = .ok t b := h
        by_cases k : a < a' ∧ a < S.n
        · rw [dif_pos k] at h
          refine s_args g s0 nm hn m a' _ t b (by omega) ?_ h
          rw [List.all_append, ho, List.all_cons, g _ _ _ hv]
          rfl
        · rw [dif_neg k] at h
          cases h
      | no s e =>
        rw [hv] at h
        cases h
      | un =>
        rw [hv] at h
        cases h
    · rw [if_neg c] at h
      by_cases c2 : S.eqW a ")" = true
      · rw [if_pos c2] at h
        cases h
        rw [sD_tn]
        show (PyData.strOk "call" && (sD nm && (sD (ofL acc) && true))) = true
        rw [hn, sD_ofL, ho]
        decide +kernel
      · rw [if_neg c2] at h
        exact (fail_no h).elim
theorem s_named (sw : Okc S.l) {V : Nat → Rs Tn} (g : Gs V) {a b : Nat} {t : Tn} (h : S.namedM V a = .ok t b) : sD t.d = true := by
  unfold Src.namedM at h
  by_cases c : S.isN a = true
  rotate_left
  · rw [if_neg c] at h
    exact (fail_no h).elim
  rw [if_pos c] at h
  by_cases c1 : S.eqW (a + 1) "(" = true
  · rw [if_pos c1] at h
    by_cases c2 : S.eqW (a + 2) ")" = true
    · rw [if_pos c2] at h
      cases h
      rw [sD_tn]
      show (PyData.strOk "call" && (sD (S.strW a) && (true && true))) = true
      rw [sd_str sw]
      decide +kernel
    · rw [if_neg c2] at h
      obtain ⟨v, a1, h1, h⟩ := bind_ok h
      refine s_args g _ _ (sd_str sw a) (S.n + 1 - a1) a1 _ t b (Nat.le_refl _) ?_ h
      rw [List.all_cons, g _ _ _ h1]
      rfl
  · rw [if_neg c1] at h
    cases h
    rw [sD_tn]
    show (PyData.strOk "name" && (sD (S.strW a) && true)) = true
    rw [sd_str sw]
    decide +kernel
theorem s_simp (sw : Okc S.l) {V : Nat → Rs Tn} (g : Gs V) {a b : Nat} {t : Tn} (h : S.simpM V a = .ok t b) : sD t.d = true := by
  unfold Src.simpM at h
  by_cases c : S.isN a = true
  · rw [if_pos c] at h
    exact s_named sw g h
  rw [if_neg c] at h
  by_cases c1 : decide (S.so a = Src.number) = true
  · rw [if_pos c1] at h
    cases h
    rw [sD_tn]
    show (PyData.strOk "number" && true) = true
    decide +kernel
  rw [if_neg c1] at h
  by_cases c2 : S.eqW a "(" = true
  · rw [if_pos c2] at h
    obtain ⟨v, a1, h1, h⟩ := bind_ok h
    have k1 := g _ _ _ h1
    by_cases c3 : S.eqW a1 ")" = true
    rotate_left
    · rw [if_neg c3] at h
      exact (fail_no h).elim
    rw [if_pos c3] at h
    cases h
    rw [sD_tn]
    show (PyData.strOk "group" && (sD v.d && true)) = true
    rw [k1]
    decide +kernel
  rw [if_neg c2] at h
  by_cases c3 : (S.eqW a "True" || S.eqW a "False") = true
  · rw [if_pos c3] at h
    cases h
    rw [sD_tn]
    show (PyData.strOk "truth" && true) = true
    decide +kernel
  · rw [if_neg c3] at h
    exact (fail_no h).elim
theorem s_dots (sw : Okc S.l) : ∀ (m a : Nat) (n t : Tn) (b : Nat), S.n + 1 - a ≤ m → sD n.d = true → S.dotsM n a = .ok t b → sD t.d = true
  | 0, a, n, t, b, hm, ho, h => by
    rw [Src.dotsM, if_neg (by rw [eqW_none (by omega) (by decide +kernel)]; decide)] at h
    cases h
    exact ho
  | m + 1, a, n, t, b, hm, ho, h => by
    rw [Src.dotsM] at h
    by_cases c : S.eqW a "." = true
    rotate_left
    · rw [if_neg c] at h
      cases h
      exact ho
    rw [if_pos c] at h
    by_cases c1 : S.isN (a + 1) = true
    rotate_left
    · rw [if_neg c1] at h
      exact (fail_no h).elim
    rw [if_pos c1] at h
    by_cases k : a < S.n
    rotate_left
    · rw [dif_neg k] at h
      cases h
    rw [dif_pos k] at h
    refine s_dots sw m (a + 2) _ t b (by omega) ?_ h
    rw [sD_tn]
    show (PyData.strOk "field" && (sD n.d && (sD (S.strW (a + 1)) && true))) = true
    rw [ho, sd_str sw]
    decide +kernel
theorem s_reach (sw : Okc S.l) {V : Nat → Rs Tn} (g : Gs V) {a b : Nat} {t : Tn} (h : S.reachM V a = .ok t b) : sD t.d = true := by
  unfold Src.reachM at h
  obtain ⟨v, a1, h1, h⟩ := bind_ok h
  exact s_dots sw (S.n + 1 - a1) a1 v t b (Nat.le_refl _) (s_simp sw g h1) h
theorem s_sign (sw : Okc S.l) {V G : Nat → Rs Tn} {d : Nat} (g : Gs V) (gg : Gs G) : Gs (S.signM G V d) := fun a t b h => by
  unfold Src.signM at h
  by_cases c : S.eqW a "-" = true
  rotate_left
  · rw [if_neg c] at h
    exact s_reach sw g h
  rw [if_pos c] at h
  by_cases c1 : d = 30
  · rw [if_pos c1] at h
    exact (fail_no h).elim
  rw [if_neg c1] at h
  obtain ⟨v, a1, h1, h⟩ := bind_ok h
  have k1 := gg _ _ _ h1
  cases h
  rw [sD_tn]
  show (PyData.strOk "minus" && (sD v.d && true)) = true
  rw [k1]
  decide +kernel
theorem s_go (sw : Okc S.l) {R : Nat → Nat → Rs Tn} (g : ∀ l, 1 ≤ l → l ≤ 7 → Gs (R l)) {least : Nat} (hl : 1 ≤ least) : ∀ (m : Nat) (most a : Nat) (n t : Tn) (b : Nat), S.n + 1 - a ≤ m → sD n.d = true → S.goM R least most n a = .ok t b → sD t.d = true
  | 0, most, a, n, t, b, hm, ho, h => by
    have h0 : Src.rank (S.wd a) = 0 := by rw [wd_none (by omega)]; decide +kernel
    rw [Src.goM, if_neg (by rw [h0]; omega)] at h
    cases h
    exact ho
  | m + 1, most, a, n, t, b, hm, ho, h => by
    rw [Src.goM] at h
    by_cases c : least ≤ Src.rank (S.wd a) ∧ Src.rank (S.wd a) ≤ most
    rotate_left
    · rw [if_neg c] at h
      cases h
      exact ho
    rw [if_pos c] at h
    have r6 := rank_le6 (S.wd a)
    cases hr : R (Src.rank (S.wd a) + 1) (a + 1) with
    | no s e =>
      rw [hr] at h
      cases h
    | un =>
      rw [hr] at h
      cases h
    | ok x a' =>
      rw [hr] at h
      have h : (if h : a < a' ∧ a < S.n then S.goM R least (Src.topR (Src.rank (S.wd a))) (Src.binT n x (S.wd a)) a' else .un) = .ok t b := h
      by_cases k : a < a' ∧ a < S.n
      rotate_left
      · rw [dif_neg k] at h
        cases h
      rw [dif_pos k] at h
      refine s_go sw g hl m _ a' _ t b (by omega) ?_ h
      rw [sD_tn]
      show (PyData.strOk "binary" && (PyData.strOk (strL (S.wd a)) && (sD n.d && (sD x.d && true)))) = true
      rw [sw.wd, ho, g _ (by omega) (by omega) _ _ _ hr]
      decide +kernel
theorem s_chain (sw : Okc S.l) {N G : Nat → Rs Tn} {R : Nat → Nat → Rs Tn} {d least : Nat} (hN : Gs N) (hG : Gs G) (hR : ∀ l, 1 ≤ l → l ≤ 7 → Gs (R l)) (h1 : 1 ≤ least) : Gs (S.chainM N G R least d) := fun a t b h => by
  unfold Src.chainM at h
  by_cases c : S.eqW a "not" = true ∧ least ≤ 3
  · rw [if_pos c] at h
    by_cases c1 : d = 30
    · rw [if_pos c1] at h
      exact (fail_no h).elim
    rw [if_neg c1] at h
    obtain ⟨v, a1, h2, h⟩ := bind_ok h
    refine s_go sw hR h1 (S.n + 1 - a1) 3 a1 _ t b (Nat.le_refl _) ?_ h
    rw [sD_tn]
    show (PyData.strOk "not" && (sD v.d && true)) = true
    rw [hN _ _ _ h2]
    decide +kernel
  · rw [if_neg c] at h
    obtain ⟨v, a1, h2, h⟩ := bind_ok h
    exact s_go sw hR h1 (S.n + 1 - a1) 6 a1 _ t b (Nat.le_refl _) (hG _ _ _ h2) h
theorem s_val (sw : Okc S.l) {V C : Nat → Rs Tn} {d : Nat} (hV : Gs V) (hC : Gs C) : Gs (S.valM V C d) := fun a t b h => by
  unfold Src.valM at h
  by_cases c0 : d = 30 ∨ S.n ≤ a
  · rw [if_pos c0] at h
    exact (fail_no h).elim
  rw [if_neg c0] at h
  by_cases c1 : S.eqW a "let" = true
  · rw [if_pos c1] at h
    exact s_let sw hV h
  rw [if_neg c1] at h
  by_cases c2 : S.eqW a "if" = true
  · rw [if_pos c2] at h
    exact s_if hV h
  rw [if_neg c2] at h
  by_cases c3 : S.eqW a "loop" = true
  · rw [if_pos c3] at h
    exact s_loop sw hV h
  rw [if_neg c3] at h
  exact hC _ _ _ h
theorem s_all (S : Src) (sw : Okc S.l) : ∀ b : Nat, (∀ d, Gs (valB S b d)) ∧ (∀ d, Gs (sgB S b d)) ∧ ∀ s d, 1 ≤ s → s ≤ 7 → Gs (chB S b s d) := by
  intro b
  induction b using Nat.strongRecOn with
  | _ b ih =>
    by_cases h : 10 ≤ b
    · refine ⟨fun d a t e hh => ?_, fun d a t e hh => ?_, fun s d s1 s7 a t e hh => ?_⟩
      · rw [valB_s S h] at hh
        exact s_val sw ((ih (b - 3) (by omega)).1 _) ((ih (b - 1) (by omega)).2.2 1 _ (by decide) (by decide)) _ _ _ hh
      · rw [sgB_s S h] at hh
        exact s_sign sw ((ih (b - 4) (by omega)).1 _) ((ih (b - 1) (by omega)).2.1 _) _ _ _ hh
      · rw [chB_s S h] at hh
        exact s_chain sw ((ih (b - 2) (by omega)).2.2 3 _ (by decide) (by decide)) ((ih (b - 1) (by omega)).2.1 _) (fun l l1 l7 => (ih (b - 1) (by omega)).2.2 l _ l1 l7) s1 _ _ _ hh
    · refine ⟨fun d a t e hh => ?_, fun d a t e hh => ?_, fun s d s1 s7 a t e hh => ?_⟩
      · rw [valB_n S h] at hh
        cases hh
      · rw [sgB_n S h] at hh
        cases hh
      · rw [chB_n S h] at hh
        cases hh
end
end Sn

/-! Shapes as data: what the law's stripped trees are; data in the heap. -/
namespace Sn
open PySem PySem.Spec PyProof.Rows L2 TL
mutual
/-- the data of a shape -/
def Sh.da : Sh → PyData
  | .num v => .list [.str "number", .int v]
  | .tru b => .list [.str "truth", .bool b]
  | .nam x => .list [.str "name", .str x]
  | .cal x as => .list [.str "call", .str x, .list as.da]
  | .fld t x => .list [.str "field", t.da, .str x]
  | .bin w l r => .list [.str "binary", .str w, l.da, r.da]
  | .nt t => .list [.str "not", t.da]
  | .mn t => .list [.str "minus", t.da]
  | .ite a b c => .list [.str "if", a.da, b.da, c.da]
  | .lt x v b => .list [.str "let", .str x, v.da, b.da]
  | .lp x f c p => .list [.str "loop", .str x, f.da, c.da, p.da]
def Shs.da : Shs → List PyData
  | .nil => []
  | .cons h t => h.da :: t.da
end
theorem eqv_list (xs ys : List PyData) : PyData.eqv (.list xs) (.list ys) = PyData.eqvAll xs ys := by rw [PyData.eqv]
theorem eqvAll_cons (x y : PyData) (xs ys : List PyData) : PyData.eqvAll (x :: xs) (y :: ys) = (PyData.eqv x y && PyData.eqvAll xs ys) := by rw [PyData.eqvAll]
theorem eqvAll_nil : PyData.eqvAll [] [] = true := by rw [PyData.eqvAll]
theorem eqvAll_cn (x : PyData) (xs : List PyData) : PyData.eqvAll (x :: xs) [] = false := by rw [PyData.eqvAll]
theorem eqvAll_nc (x : PyData) (xs : List PyData) : PyData.eqvAll [] (x :: xs) = false := by rw [PyData.eqvAll]
theorem eqv_str (x y : Str) : PyData.eqv (.str x) (.str y) = (x == y) := by rw [PyData.eqv]
theorem eqv_int (i j : Int) : PyData.eqv (.int i) (.int j) = (i == j) := by rw [PyData.eqv]
theorem eqv_bool (i j : Bool) : PyData.eqv (.bool i) (.bool j) = (i == j) := by rw [PyData.eqv]
mutual
/-- equal data, equal shapes -/
theorem Sh.inj : ∀ a b : Sh, PyData.eqv a.da b.da = true → a = b
  | .num v, b, h => by
    cases b <;> rw [Sh.da, Sh.da, eqv_list] at h <;> simp only [eqvAll_cons, eqv_str, eqv_int, Bool.and_eq_true, beq_iff_eq] at h
    all_goals first | exact absurd h.1 (by decide +kernel) | rw [h.2.1]
  | .tru v, b, h => by
    cases b <;> rw [Sh.da, Sh.da, eqv_list] at h <;> simp only [eqvAll_cons, eqv_str, eqv_bool, Bool.and_eq_true, beq_iff_eq] at h
    all_goals first | exact absurd h.1 (by decide +kernel) | rw [h.2.1]
  | .nam v, b, h => by
    cases b <;> rw [Sh.da, Sh.da, eqv_list] at h <;> simp only [eqvAll_cons, eqv_str, Bool.and_eq_true, beq_iff_eq] at h
    all_goals first | exact absurd h.1 (by decide +kernel) | rw [h.2.1]
  | .cal x as, b, h => by
    cases b <;> rw [Sh.da, Sh.da, eqv_list] at h <;> simp only [eqvAll_cons, eqv_str, eqv_list, Bool.and_eq_true, beq_iff_eq] at h
    all_goals first | exact absurd h.1 (by decide +kernel) | rw [h.2.1, Shs.inj as _ h.2.2.1]
  | .fld t x, b, h => by
    cases b <;> rw [Sh.da, Sh.da, eqv_list] at h <;> simp only [eqvAll_cons, eqv_str, Bool.and_eq_true, beq_iff_eq] at h
    all_goals first | exact absurd h.1 (by decide +kernel) | rw [Sh.inj t _ h.2.1, h.2.2.1]
  | .bin w l r, b, h => by
    cases b <;> rw [Sh.da, Sh.da, eqv_list] at h <;> simp only [eqvAll_cons, eqv_str, Bool.and_eq_true, beq_iff_eq] at h
    all_goals first | exact absurd h.1 (by decide +kernel) | rw [h.2.1, Sh.inj l _ h.2.2.1, Sh.inj r _ h.2.2.2.1]
  | .nt t, b, h => by
    cases b <;> rw [Sh.da, Sh.da, eqv_list] at h <;> simp only [eqvAll_cons, eqv_str, Bool.and_eq_true, beq_iff_eq] at h
    all_goals first | exact absurd h.1 (by decide +kernel) | rw [Sh.inj t _ h.2.1]
  | .mn t, b, h => by
    cases b <;> rw [Sh.da, Sh.da, eqv_list] at h <;> simp only [eqvAll_cons, eqv_str, Bool.and_eq_true, beq_iff_eq] at h
    all_goals first | exact absurd h.1 (by decide +kernel) | rw [Sh.inj t _ h.2.1]
  | .ite a c d, b, h => by
    cases b <;> rw [Sh.da, Sh.da, eqv_list] at h <;> simp only [eqvAll_cons, eqv_str, Bool.and_eq_true, beq_iff_eq] at h
    all_goals first | exact absurd h.1 (by decide +kernel) | rw [Sh.inj a _ h.2.1, Sh.inj c _ h.2.2.1, Sh.inj d _ h.2.2.2.1]
  | .lt x v c, b, h => by
    cases b <;> rw [Sh.da, Sh.da, eqv_list] at h <;> simp only [eqvAll_cons, eqv_str, Bool.and_eq_true, beq_iff_eq] at h
    all_goals first | exact absurd h.1 (by decide +kernel) | rw [h.2.1, Sh.inj v _ h.2.2.1, Sh.inj c _ h.2.2.2.1]
  | .lp x f c d, b, h => by
    cases b <;> rw [Sh.da, Sh.da, eqv_list] at h <;> simp only [eqvAll_cons, eqv_str, Bool.and_eq_true, beq_iff_eq] at h
    all_goals first | exact absurd h.1 (by decide +kernel) | rw [h.2.1, Sh.inj f _ h.2.2.1, Sh.inj c _ h.2.2.2.1, Sh.inj d _ h.2.2.2.2.1]
theorem Shs.inj : ∀ a b : Shs, PyData.eqvAll a.da b.da = true → a = b
  | .nil, .nil, _ => rfl
  | .nil, .cons h t, k => by
    rw [Shs.da, Shs.da, eqvAll_nc] at k
    cases k
  | .cons h t, .nil, k => by
    rw [Shs.da, Shs.da, eqvAll_cn] at k
    cases k
  | .cons h t, .cons h' t', k => by
    rw [Shs.da, Shs.da, eqvAll_cons, Bool.and_eq_true] at k
    rw [Sh.inj h _ k.1, Shs.inj t _ k.2]
end
/-! ### signs of the printed text -/
theorem Okc.nil : Okc [] := fun c h => by cases h
theorem Okc.app {x y : List Nat} (h : Okc x) (g : Okc y) : Okc (x ++ y) := fun c hc => (List.mem_append.mp hc).elim (h c) (g c)
theorem isL_c {c : Nat} (h : isL c = true) : c < 1114112 := by
  unfold isL at h
  simp only [Bool.or_eq_true, Bool.and_eq_true, decide_eq_true_eq] at h
  omega
theorem isD_c {c : Nat} (h : isD c = true) : c < 1114112 := by
  unfold isD at h
  simp only [Bool.and_eq_true, decide_eq_true_eq] at h
  omega
theorem isW_c {c : Nat} (h : isW c = true) : c < 1114112 := by
  unfold isW at h
  rw [Bool.or_eq_true, Bool.or_eq_true] at h
  rcases h with h | h | h
  · exact isL_c h
  · exact isD_c h
  · have : c = 95 := by simpa using h
    omega
theorem nam_c {x : Str} (h : NamOk x) : Okc (tl x) := by
  obtain ⟨h1, h2, _⟩ := h
  revert h1 h2
  generalize tl x = w
  intro h1 h2
  cases w with
  | nil => exact Okc.nil
  | cons c r =>
    by_cases hl : isL c = true
    · rw [tkOk_cons0, if_pos hl] at h2
      intro d hd
      rcases List.mem_cons.mp hd with rfl | hd
      · exact isL_c hl
      · exact isW_c (List.all_eq_true.mp h2 d hd)
    · have h1 : (if isL c = true then (if inV (.str (strL (c :: r))) (wds.map V.str) = true then ("word" : Str) else "name") else if isD c = true then "number" else if c :: r = [61, 61] then "sign" else if c ∈ tl sgs then "sign" else "wrong") = "name" := h1
      rw [if_neg hl] at h1
      split at h1
      · exact absurd h1 (by decide +kernel)
      · split at h1
        · exact absurd h1 (by decide +kernel)
        · split at h1 <;> exact absurd h1 (by decide +kernel)
theorem num_c {v : Int} (h : NumOk v) : Okc (numW v) := fun c hc => isD_c (List.all_eq_true.mp h.all.2.2.2.2.2 c hc)
theorem gp_c (b : Nat) : Okc (gp b) := fun c hc => by
  have := List.eq_of_mem_replicate hc
  omega
def lits : List (List Nat) := [tl "(", tl ")", tl ".", tl ",", tl "not", tl "-", tl "if", tl "then", tl "else", tl "let", tl "=", tl "in", tl "loop", tl "times", tl "do", tl "True", tl "False"]
theorem lits_c : ∀ w ∈ lits ++ opsB, ∀ c ∈ w, c < 1114112 := by decide +kernel
theorem lit_c {w : List Nat} (h : w ∈ lits) : Okc w := lits_c w (List.mem_append_left _ h)
theorem w_c {b : Nat} {w : List Nat} {r : List PW} (h : Okc w) (g : Okc (txt r)) : Okc (txt ((b, w) :: r)) := (gp_c b).app (h.app g)
theorem a_c {x y : List PW} (h : Okc (txt x)) (g : Okc (txt y)) : Okc (txt (x ++ y)) := by
  rw [txt_app]
  exact h.app g
theorem wrp_c {f : Nat → List PW} (h : ∀ b, Okc (txt (f b))) (r k b : Nat) : Okc (txt (wrp r k f b)) := by
  unfold wrp
  split
  · exact w_c (lit_c (by decide +kernel)) (a_c (h 0) (w_c (lit_c (by decide +kernel)) Okc.nil))
  · exact h b
mutual
theorem Sh.cc : ∀ s : Sh, s.fine → ∀ b, Okc (txt (s.cw b))
  | .num v, h, b => by
    rw [Sh.fine] at h
    rw [Sh.cw]
    exact w_c (num_c h) Okc.nil
  | .tru x, h, b => by
    rw [Sh.cw]
    cases x
    · exact w_c (lit_c (by decide +kernel)) Okc.nil
    · exact w_c (lit_c (by decide +kernel)) Okc.nil
  | .nam x, h, b => by
    rw [Sh.fine] at h
    rw [Sh.cw]
    exact w_c (nam_c h) Okc.nil
  | .cal x as, h, b => by
    rw [Sh.fine] at h
    rw [Sh.cw]
    exact w_c (nam_c h.1) (w_c (lit_c (by decide +kernel)) (a_c (Shs.cc as h.2 true) (w_c (lit_c (by decide +kernel)) Okc.nil)))
  | .fld t x, h, b => by
    rw [Sh.fine] at h
    rw [Sh.cw]
    exact a_c (wrp_c (Sh.cc t h.2.2) _ _ _) (w_c (lit_c (by decide +kernel)) (w_c (nam_c h.1) Okc.nil))
  | .bin w l r, h, b => by
    rw [Sh.fine] at h
    rw [Sh.cw]
    exact a_c (wrp_c (Sh.cc l h.2.1) _ _ _) (w_c (lits_c _ (List.mem_append_right _ h.1.1)) (wrp_c (Sh.cc r h.2.2) _ _ _))
  | .nt t, h, b => by
    rw [Sh.fine] at h
    rw [Sh.cw]
    exact w_c (lit_c (by decide +kernel)) (wrp_c (Sh.cc t h) _ _ _)
  | .mn t, h, b => by
    rw [Sh.fine] at h
    rw [Sh.cw]
    exact w_c (lit_c (by decide +kernel)) (wrp_c (Sh.cc t h) _ _ _)
  | .ite x y z, h, b => by
    rw [Sh.fine] at h
    rw [Sh.cw]
    exact w_c (lit_c (by decide +kernel)) (a_c (Sh.cc x h.1 1) (w_c (lit_c (by decide +kernel)) (a_c (Sh.cc y h.2.1 1) (w_c (lit_c (by decide +kernel)) (Sh.cc z h.2.2 1)))))
  | .lt nm x y, h, b => by
    rw [Sh.fine] at h
    rw [Sh.cw]
    exact w_c (lit_c (by decide +kernel)) (w_c (nam_c h.1) (w_c (lit_c (by decide +kernel)) (a_c (Sh.cc x h.2.1 1) (w_c (lit_c (by decide +kernel)) (Sh.cc y h.2.2 1)))))
  | .lp nm x y z, h, b => by
    rw [Sh.fine] at h
    rw [Sh.cw]
    exact w_c (lit_c (by decide +kernel)) (w_c (nam_c h.1) (w_c (lit_c (by decide +kernel)) (a_c (Sh.cc x h.2.1 1) (w_c (lit_c (by decide +kernel)) (a_c (Sh.cc y h.2.2.1 1) (w_c (lit_c (by decide +kernel)) (Sh.cc z h.2.2.2 1)))))))
theorem Shs.cc : ∀ s : Shs, s.fine → ∀ b, Okc (txt (s.cw b))
  | .nil, h, b => by
    rw [Shs.cw]
    exact Okc.nil
  | .cons x t, h, b => by
    rw [Shs.fine] at h
    rw [Shs.cw]
    refine a_c ?_ (Shs.cc t h.2 false)
    cases b
    · rw [if_neg (by decide)]
      exact w_c (lit_c (by decide +kernel)) (Sh.cc x h.1 1)
    · rw [if_pos rfl]
      exact Sh.cc x h.1 0
end
/-! ### data of shapes can be laid out -/
mutual
theorem Sh.da_dep : ∀ a : Sh, a.da.depth ≤ 2 * a.hgt + 1
  | .num v => by rw [Sh.da]; exact Nat.le_add_left _ _
  | .tru v => by rw [Sh.da]; exact Nat.le_add_left _ _
  | .nam v => by rw [Sh.da]; exact Nat.le_add_left _ _
  | .cal x as => by
    have k := Shs.da_dep as
    rw [Sh.da, Sh.hgt]
    show max 0 (max 0 (max (PyData.depthAll as.da + 1) 0)) + 1 ≤ _
    omega
  | .fld t x => by
    have k := Sh.da_dep t
    rw [Sh.da, Sh.hgt]
    show max 0 (max t.da.depth (max 0 0)) + 1 ≤ _
    omega
  | .bin w l r => by
    have k1 := Sh.da_dep l
    have k2 := Sh.da_dep r
    rw [Sh.da, Sh.hgt]
    show max 0 (max 0 (max l.da.depth (max r.da.depth 0))) + 1 ≤ _
    omega
  | .nt t => by
    have k := Sh.da_dep t
    rw [Sh.da, Sh.hgt]
    show max 0 (max t.da.depth 0) + 1 ≤ _
    omega
  | .mn t => by
    have k := Sh.da_dep t
    rw [Sh.da, Sh.hgt]
    show max 0 (max t.da.depth 0) + 1 ≤ _
    omega
  | .ite a c d => by
    have k1 := Sh.da_dep a
    have k2 := Sh.da_dep c
    have k3 := Sh.da_dep d
    rw [Sh.da, Sh.hgt]
    show max 0 (max a.da.depth (max c.da.depth (max d.da.depth 0))) + 1 ≤ _
    omega
  | .lt x v c => by
    have k1 := Sh.da_dep v
    have k2 := Sh.da_dep c
    rw [Sh.da, Sh.hgt]
    show max 0 (max 0 (max v.da.depth (max c.da.depth 0))) + 1 ≤ _
    omega
  | .lp x f c d => by
    have k1 := Sh.da_dep f
    have k2 := Sh.da_dep c
    have k3 := Sh.da_dep d
    rw [Sh.da, Sh.hgt]
    show max 0 (max 0 (max f.da.depth (max c.da.depth (max d.da.depth 0)))) + 1 ≤ _
    omega
theorem Shs.da_dep : ∀ a : Shs, PyData.depthAll a.da ≤ 2 * a.hgt + 1
  | .nil => by rw [Shs.da]; exact Nat.zero_le _
  | .cons h t => by
    have k1 := Sh.da_dep h
    have k2 := Shs.da_dep t
    rw [Shs.da, Shs.hgt]
    show max h.da.depth (PyData.depthAll t.da) ≤ _
    omega
end
mutual
/-- all texts of a shape are made of signs -/
def Sh.sg : Sh → Prop
  | .num _ => True
  | .tru _ => True
  | .nam x => PyData.strOk x = true
  | .cal x as => PyData.strOk x = true ∧ as.sg
  | .fld t x => t.sg ∧ PyData.strOk x = true
  | .bin w l r => PyData.strOk w = true ∧ l.sg ∧ r.sg
  | .nt t => t.sg
  | .mn t => t.sg
  | .ite a b c => a.sg ∧ b.sg ∧ c.sg
  | .lt x v b => PyData.strOk x = true ∧ v.sg ∧ b.sg
  | .lp x f c p => PyData.strOk x = true ∧ f.sg ∧ c.sg ∧ p.sg
def Shs.sg : Shs → Prop
  | .nil => True
  | .cons h t => h.sg ∧ t.sg
end
mutual
theorem Sh.da_can : ∀ a : Sh, a.sg → a.da.canLay0 = true
  | .num v, _ => by
    rw [Sh.da]
    show (PyData.strOk "number" && (true && true)) = true
    decide +kernel
  | .tru v, _ => by
    rw [Sh.da]
    show (PyData.strOk "truth" && (true && true)) = true
    decide +kernel
  | .nam x, h => by
    rw [Sh.sg] at h
    rw [Sh.da]
    show (PyData.strOk "name" && (PyData.strOk x && true)) = true
    rw [h]
    decide +kernel
  | .cal x as, h => by
    rw [Sh.sg] at h
    rw [Sh.da]
    show (PyData.strOk "call" && (PyData.strOk x && (PyData.canLayAll0 as.da && true))) = true
    rw [h.1, Shs.da_can as h.2]
    decide +kernel
  | .fld t x, h => by
    rw [Sh.sg] at h
    rw [Sh.da]
    show (PyData.strOk "field" && (t.da.canLay0 && (PyData.strOk x && true))) = true
    rw [Sh.da_can t h.1, h.2]
    decide +kernel
  | .bin w l r, h => by
    rw [Sh.sg] at h
    rw [Sh.da]
    show (PyData.strOk "binary" && (PyData.strOk w && (l.da.canLay0 && (r.da.canLay0 && true)))) = true
    rw [h.1, Sh.da_can l h.2.1, Sh.da_can r h.2.2]
    decide +kernel
  | .nt t, h => by
    rw [Sh.sg] at h
    rw [Sh.da]
    show (PyData.strOk "not" && (t.da.canLay0 && true)) = true
    rw [Sh.da_can t h]
    decide +kernel
  | .mn t, h => by
    rw [Sh.sg] at h
    rw [Sh.da]
    show (PyData.strOk "minus" && (t.da.canLay0 && true)) = true
    rw [Sh.da_can t h]
    decide +kernel
  | .ite a c d, h => by
    rw [Sh.sg] at h
    rw [Sh.da]
    show (PyData.strOk "if" && (a.da.canLay0 && (c.da.canLay0 && (d.da.canLay0 && true)))) = true
    rw [Sh.da_can a h.1, Sh.da_can c h.2.1, Sh.da_can d h.2.2]
    decide +kernel
  | .lt x v c, h => by
    rw [Sh.sg] at h
    rw [Sh.da]
    show (PyData.strOk "let" && (PyData.strOk x && (v.da.canLay0 && (c.da.canLay0 && true)))) = true
    rw [h.1, Sh.da_can v h.2.1, Sh.da_can c h.2.2]
    decide +kernel
  | .lp x f c d, h => by
    rw [Sh.sg] at h
    rw [Sh.da]
    show (PyData.strOk "loop" && (PyData.strOk x && (f.da.canLay0 && (c.da.canLay0 && (d.da.canLay0 && true))))) = true
    rw [h.1, Sh.da_can f h.2.1, Sh.da_can c h.2.2.1, Sh.da_can d h.2.2.2]
    decide +kernel
theorem Shs.da_can : ∀ a : Shs, a.sg → PyData.canLayAll0 a.da = true
  | .nil, _ => by rw [Shs.da]; rfl
  | .cons x t, h => by
    rw [Shs.sg] at h
    rw [Shs.da]
    show (x.da.canLay0 && PyData.canLayAll0 t.da) = true
    rw [Sh.da_can x h.1, Shs.da_can t h.2]
    rfl
end
theorem nam_s {x : Str} (h : NamOk x) : PyData.strOk x = true := by
  have := (nam_c h).str
  exact this
mutual
theorem Sh.fine_sg : ∀ a : Sh, a.fine → a.sg
  | .num v, h => by rw [Sh.sg]; trivial
  | .tru v, h => by rw [Sh.sg]; trivial
  | .nam x, h => by rw [Sh.fine] at h; rw [Sh.sg]; exact nam_s h
  | .cal x as, h => by rw [Sh.fine] at h; rw [Sh.sg]; exact ⟨nam_s h.1, Shs.fine_sg as h.2⟩
  | .fld t x, h => by rw [Sh.fine] at h; rw [Sh.sg]; exact ⟨Sh.fine_sg t h.2.2, nam_s h.1⟩
  | .bin w l r, h => by rw [Sh.fine] at h; rw [Sh.sg]; exact ⟨h.1.2, Sh.fine_sg l h.2.1, Sh.fine_sg r h.2.2⟩
  | .nt t, h => by rw [Sh.fine] at h; rw [Sh.sg]; exact Sh.fine_sg t h
  | .mn t, h => by rw [Sh.fine] at h; rw [Sh.sg]; exact Sh.fine_sg t h
  | .ite a c d, h => by rw [Sh.fine] at h; rw [Sh.sg]; exact ⟨Sh.fine_sg a h.1, Sh.fine_sg c h.2.1, Sh.fine_sg d h.2.2⟩
  | .lt x v c, h => by rw [Sh.fine] at h; rw [Sh.sg]; exact ⟨nam_s h.1, Sh.fine_sg v h.2.1, Sh.fine_sg c h.2.2⟩
  | .lp x f c d, h => by rw [Sh.fine] at h; rw [Sh.sg]; exact ⟨nam_s h.1, Sh.fine_sg f h.2.1, Sh.fine_sg c h.2.2.1, Sh.fine_sg d h.2.2.2⟩
theorem Shs.fine_sg : ∀ a : Shs, a.fine → a.sg
  | .nil, h => by rw [Shs.sg]; trivial
  | .cons x t, h => by rw [Shs.fine] at h; rw [Shs.sg]; exact ⟨Sh.fine_sg x h.1, Shs.fine_sg t h.2⟩
end
/-- so are those of a tree that was read -/
theorem sg_all : ∀ (m : Nat) (n : Nd), n.ht ≤ m → n.ok → sD n.t.d = true → n.sh.sg := by
  intro m
  induction m with
  | zero =>
    intro n hm
    obtain ⟨tag, call, s, e, pre, post, kids⟩ := n
    rw [Nd.ht_nd] at hm
    omega
  | succ m ih =>
    intro n hm ok
    revert hm
    refine Nd.cases_ (P := fun n => n.ht ≤ m + 1 → sD n.t.d = true → n.sh.sg) n ok ?_ ?_ ?_ ?_ ?_ ?_ ?_ ?_ ?_ ?_ ?_ ?_
    · intro s e v _ _; rw [sh_num, Sh.sg]; trivial
    · intro s e v _ _; rw [sh_tru, Sh.sg]; trivial
    · intro s e v _ h
      rw [sh_nam, Sh.sg]
      rw [nd_t, Ns.ds_nil, sD_tn] at h
      have h : (_ && (PyData.strOk v && true)) = true := h
      simp only [Bool.and_eq_true] at h
      exact h.2.1
    · intro s e v ks ok hm h
      rw [call_nd, sD_tn] at h
      have h : (_ && (PyData.strOk v && (sD (ofL ks.ds) && true))) = true := h
      simp only [Bool.and_eq_true, sD_ofL] at h
      rw [sh_cal, Sh.sg]
      refine ⟨h.2.1, ?_⟩
      rw [Nd.ht_nd] at hm
      have hs := h.2.2.1
      revert ok hs
      refine kids_of (ks := ks) (m := m) (by omega) (P := fun ks => ks.ok → ks.ds.all sD = true → ks.shs.sg) ?_ ?_
      · intro _ _; rw [Ns.shs_nil, Shs.sg]; trivial
      · intro a t ha ht k ok hs
        rw [Ns.ds_cons, List.all_cons, Bool.and_eq_true] at hs
        have ok := Ns.ok_cons.mp ok
        rw [Ns.shs_cons, Shs.sg]
        exact ⟨ih a ha ok.1 hs.1, k ok.2 hs.2⟩
    · intro s e v a oa hm h
      rw [Nd.ht_nd, ht1] at hm
      rw [nd_t, (nk1_all a).1, sD_tn] at h
      have h : (_ && (sD a.t.d && (PyData.strOk v && true))) = true := h
      simp only [Bool.and_eq_true] at h
      rw [sh_fld, Sh.sg]
      exact ⟨ih a (by omega) oa h.2.1, h.2.2.1⟩
    · intro s e a oa hm h
      rw [Nd.ht_nd, ht1] at hm
      rw [nd_t, (nk1_all a).1, sD_tn] at h
      have h : (_ && (sD a.t.d && true)) = true := h
      simp only [Bool.and_eq_true] at h
      rw [sh_grp]
      exact ih a (by omega) oa h.2.1
    · intro s e a oa hm h
      rw [Nd.ht_nd, ht1] at hm
      rw [nd_t, (nk1_all a).1, sD_tn] at h
      have h : (_ && (sD a.t.d && true)) = true := h
      simp only [Bool.and_eq_true] at h
      rw [sh_nt, Sh.sg]
      exact ih a (by omega) oa h.2.1
    · intro s e a oa hm h
      rw [Nd.ht_nd, ht1] at hm
      rw [nd_t, (nk1_all a).1, sD_tn] at h
      have h : (_ && (sD a.t.d && true)) = true := h
      simp only [Bool.and_eq_true] at h
      rw [sh_mn, Sh.sg]
      exact ih a (by omega) oa h.2.1
    · intro s e v a b sv oa ob hm h
      rw [Nd.ht_nd, ht2] at hm
      rw [nd_t, (nk2_all a b).1, sD_tn] at h
      have h : (_ && (PyData.strOk v && (sD a.t.d && (sD b.t.d && true)))) = true := h
      simp only [Bool.and_eq_true] at h
      rw [sh_bin, Sh.sg]
      exact ⟨sv, ih a (by omega) oa h.2.2.1, ih b (by omega) ob h.2.2.2.1⟩
    · intro s e a b c oa ob oc hm h
      rw [Nd.ht_nd, ht3] at hm
      rw [nd_t, (nk3_all a b c).1, sD_tn] at h
      have h : (_ && (sD a.t.d && (sD b.t.d && (sD c.t.d && true)))) = true := h
      simp only [Bool.and_eq_true] at h
      rw [sh_ite, Sh.sg]
      exact ⟨ih a (by omega) oa h.2.1, ih b (by omega) ob h.2.2.1, ih c (by omega) oc h.2.2.2.1⟩
    · intro s e v i a b oa ob hm h
      rw [Nd.ht_nd, ht2] at hm
      rw [nd_t, (nk2_all a b).1, sD_tn] at h
      have h : (_ && (PyData.strOk v && (true && (sD a.t.d && (sD b.t.d && true))))) = true := h
      simp only [Bool.and_eq_true] at h
      rw [sh_lt, Sh.sg]
      exact ⟨h.2.1, ih a (by omega) oa h.2.2.2.1, ih b (by omega) ob h.2.2.2.2.1⟩
    · intro s e v i a b c oa ob oc hm h
      rw [Nd.ht_nd, ht3] at hm
      rw [nd_t, (nk3_all a b c).1, sD_tn] at h
      have h : (_ && (PyData.strOk v && (true && (sD a.t.d && (sD b.t.d && (sD c.t.d && true)))))) = true := h
      simp only [Bool.and_eq_true] at h
      rw [sh_lp, Sh.sg]
      exact ⟨h.2.1, ih a (by omega) oa h.2.2.2.1, ih b (by omega) ob h.2.2.2.2.1, ih c (by omega) oc h.2.2.2.2.2.1⟩
end Sn

/-! How big shapes, their texts and their trees are. -/
namespace Sn
open PySem PySem.Spec PyProof.Rows L2 TL
mutual
/-- the nodes but for groups -/
def Sh.nc : Sh → Nat
  | .num _ => 1
  | .tru _ => 1
  | .nam _ => 1
  | .cal _ as => 1 + as.nc
  | .fld t _ => 1 + t.nc
  | .bin _ l r => 1 + l.nc + r.nc
  | .nt t => 1 + t.nc
  | .mn t => 1 + t.nc
  | .ite a b c => 1 + a.nc + b.nc + c.nc
  | .lt _ v b => 1 + v.nc + b.nc
  | .lp _ f c p => 1 + f.nc + c.nc + p.nc
def Shs.nc : Shs → Nat
  | .nil => 0
  | .cons h t => h.nc + t.nc
end
theorem wrp_len {r k : Nat} {f : Nat → List PW} {b m : Nat} (h : ∀ b, (f b).length + 2 ≤ m) : (wrp r k f b).length ≤ m := by
  unfold wrp
  split
  · have := h 0
    rw [List.length_cons, List.length_append, List.length_singleton]
    omega
  · have := h b
    omega
theorem cnt1 (a : Nd) : (nk1 a).cnt = a.cnt := by unfold nk1; rw [Ns.cnt_cons, Ns.cnt_nil]; omega
theorem cnt2 (a b : Nd) : (nk2 a b).cnt = a.cnt + b.cnt := by unfold nk2; rw [Ns.cnt_cons, Ns.cnt_cons, Ns.cnt_nil]; omega
theorem cnt3 (a b c : Nd) : (nk3 a b c).cnt = a.cnt + b.cnt + c.cnt := by unfold nk3; rw [Ns.cnt_cons, Ns.cnt_cons, Ns.cnt_cons, Ns.cnt_nil]; omega
theorem siz_all : ∀ (m : Nat) (n : Nd), n.ht ≤ m → n.ok → (∀ b, (n.sh.cw b).length + 2 ≤ 3 * n.nw) ∧ n.sh.nc ≤ n.nw ∧ n.cnt ≤ n.sh.nc + n.int := by
  intro m
  induction m with
  | zero =>
    intro n hm
    obtain ⟨tag, call, s, e, pre, post, kids⟩ := n
    rw [Nd.ht_nd] at hm
    omega
  | succ m ih =>
    intro n hm ok
    revert hm
    refine Nd.cases_ (P := fun n => n.ht ≤ m + 1 → (∀ b, (n.sh.cw b).length + 2 ≤ 3 * n.nw) ∧ n.sh.nc ≤ n.nw ∧ n.cnt ≤ n.sh.nc + n.int) n ok ?_ ?_ ?_ ?_ ?_ ?_ ?_ ?_ ?_ ?_ ?_ ?_
    · intro s e v _
      rw [sh_num, Sh.nc, Nd.nw_nd, Ns.nw_nil, Nd.cnt_nd, Ns.cnt_nil, Nd.int_nd, Ns.int_nil, show ownW "number" = 1 by decide +kernel]
      refine ⟨fun b => ?_, by omega, by omega⟩
      rw [Sh.cw]
      exact Nat.le_refl 3
    · intro s e v _
      rw [sh_tru, Sh.nc, Nd.nw_nd, Ns.nw_nil, Nd.cnt_nd, Ns.cnt_nil, Nd.int_nd, Ns.int_nil, show ownW "truth" = 1 by decide +kernel]
      refine ⟨fun b => ?_, by omega, by omega⟩
      rw [Sh.cw]
      exact Nat.le_refl 3
    · intro s e v _
      rw [sh_nam, Sh.nc, Nd.nw_nd, Ns.nw_nil, Nd.cnt_nd, Ns.cnt_nil, Nd.int_nd, Ns.int_nil, show ownW "name" = 1 by decide +kernel]
      refine ⟨fun b => ?_, by omega, by omega⟩
      rw [Sh.cw]
      exact Nat.le_refl 3
    · intro s e v ks ok hm
      rw [Nd.ht_nd] at hm
      have k : ks.ok → (∀ b, (ks.shs.cw b).length ≤ 3 * ks.nw) ∧ ks.shs.nc ≤ ks.nw ∧ ks.cnt ≤ ks.shs.nc + ks.int := by
        refine kids_of (ks := ks) (m := m) (by omega) (P := fun ks => ks.ok → (∀ b, (ks.shs.cw b).length ≤ 3 * ks.nw) ∧ ks.shs.nc ≤ ks.nw ∧ ks.cnt ≤ ks.shs.nc + ks.int) ?_ ?_
        · intro _
          rw [Ns.shs_nil, Shs.nc, Ns.nw_nil, Ns.cnt_nil, Ns.int_nil]
          refine ⟨fun b => ?_, by omega, by omega⟩
          rw [Shs.cw]
          exact Nat.le_refl 0
        · intro a t ha ht k ok
          have ok := Ns.ok_cons.mp ok
          obtain ⟨k1, k2, k3⟩ := ih a ha ok.1
          obtain ⟨j1, j2, j3⟩ := k ok.2
          rw [Ns.shs_cons, Shs.nc, Ns.nw_cons, Ns.cnt_cons, Ns.int_cons]
          refine ⟨fun b => ?_, by omega, by omega⟩
          rw [Shs.cw, List.length_append]
          have i1 := j1 false
          cases b
          · have i2 := k1 1
            rw [if_neg (by decide), List.length_cons]
            omega
          · have i2 := k1 0
            rw [if_pos rfl]
            omega
      obtain ⟨k1, k2, k3⟩ := k ok
      rw [sh_cal, Sh.nc, Nd.nw_nd, Nd.cnt_nd, Nd.int_nd, show ownW "call" = 3 by decide +kernel]
      refine ⟨fun b => ?_, by omega, by omega⟩
      have i1 := k1 true
      rw [Sh.cw, List.length_cons, List.length_cons, List.length_append, List.length_singleton]
      omega
    · intro s e v a oa hm
      rw [Nd.ht_nd, ht1] at hm
      obtain ⟨k1, k2, k3⟩ := ih a (by omega) oa
      rw [sh_fld, Sh.nc, Nd.nw_nd, nw_k1, Nd.cnt_nd, cnt1, Nd.int_nd, int1, show ownW "field" = 2 by decide +kernel, show inn "field" = 1 by decide +kernel]
      refine ⟨fun b => ?_, by omega, by omega⟩
      have i1 := wrp_len (r := 8) (k := a.sh.rk) (b := b) k1
      rw [Sh.cw, List.length_append]
      show _ + 2 + 2 ≤ _
      omega
    · intro s e a oa hm
      rw [Nd.ht_nd, ht1] at hm
      obtain ⟨k1, k2, k3⟩ := ih a (by omega) oa
      rw [sh_grp, Nd.nw_nd, nw_k1, Nd.cnt_nd, cnt1, Nd.int_nd, int1, show ownW "group" = 2 by decide +kernel, show inn "group" = 1 by decide +kernel]
      exact ⟨fun b => by have := k1 b; omega, by omega, by omega⟩
    · intro s e a oa hm
      rw [Nd.ht_nd, ht1] at hm
      obtain ⟨k1, k2, k3⟩ := ih a (by omega) oa
      rw [sh_nt, Sh.nc, Nd.nw_nd, nw_k1, Nd.cnt_nd, cnt1, Nd.int_nd, int1, show ownW "not" = 1 by decide +kernel, show inn "not" = 1 by decide +kernel]
      refine ⟨fun b => ?_, by omega, by omega⟩
      have i1 := wrp_len (r := 3) (k := a.sh.rk) (b := 1) k1
      rw [Sh.cw, List.length_cons]
      omega
    · intro s e a oa hm
      rw [Nd.ht_nd, ht1] at hm
      obtain ⟨k1, k2, k3⟩ := ih a (by omega) oa
      rw [sh_mn, Sh.nc, Nd.nw_nd, nw_k1, Nd.cnt_nd, cnt1, Nd.int_nd, int1, show ownW "minus" = 1 by decide +kernel, show inn "minus" = 1 by decide +kernel]
      refine ⟨fun b => ?_, by omega, by omega⟩
      have i1 := wrp_len (r := 7) (k := a.sh.rk) (b := 0) k1
      rw [Sh.cw, List.length_cons]
      omega
    · intro s e v a c _ oa oc hm
      rw [Nd.ht_nd, ht2] at hm
      obtain ⟨k1, k2, k3⟩ := ih a (by omega) oa
      obtain ⟨j1, j2, j3⟩ := ih c (by omega) oc
      rw [sh_bin, Sh.nc, Nd.nw_nd, nw_k2, Nd.cnt_nd, cnt2, Nd.int_nd, int2, show ownW "binary" = 1 by decide +kernel, show inn "binary" = 1 by decide +kernel]
      refine ⟨fun b => ?_, by omega, by omega⟩
      have i1 := wrp_len (r := lpR (Src.rank (tl v))) (k := a.sh.rk) (b := b) k1
      have i2 := wrp_len (r := rpR (Src.rank (tl v))) (k := c.sh.rk) (b := 1) j1
      rw [Sh.cw, List.length_append, List.length_cons]
      omega
    · intro s e a c d oa oc od hm
      rw [Nd.ht_nd, ht3] at hm
      obtain ⟨k1, k2, k3⟩ := ih a (by omega) oa
      obtain ⟨j1, j2, j3⟩ := ih c (by omega) oc
      obtain ⟨l1, l2, l3⟩ := ih d (by omega) od
      rw [sh_ite, Sh.nc, Nd.nw_nd, nw_k3, Nd.cnt_nd, cnt3, Nd.int_nd, int3, show ownW "if" = 3 by decide +kernel, show inn "if" = 1 by decide +kernel]
      refine ⟨fun b => ?_, by omega, by omega⟩
      have i1 := k1 1
      have i2 := j1 1
      have i3 := l1 1
      rw [Sh.cw, List.length_cons, List.length_append, List.length_cons, List.length_append, List.length_cons]
      omega
    · intro s e v i a c oa oc hm
      rw [Nd.ht_nd, ht2] at hm
      obtain ⟨k1, k2, k3⟩ := ih a (by omega) oa
      obtain ⟨j1, j2, j3⟩ := ih c (by omega) oc
      rw [sh_lt, Sh.nc, Nd.nw_nd, nw_k2, Nd.cnt_nd, cnt2, Nd.int_nd, int2, show ownW "let" = 4 by decide +kernel, show inn "let" = 1 by decide +kernel]
      refine ⟨fun b => ?_, by omega, by omega⟩
      have i1 := k1 1
      have i2 := j1 1
      rw [Sh.cw, List.length_cons, List.length_cons, List.length_cons, List.length_append, List.length_cons]
      omega
    · intro s e v i a c d oa oc od hm
      rw [Nd.ht_nd, ht3] at hm
      obtain ⟨k1, k2, k3⟩ := ih a (by omega) oa
      obtain ⟨j1, j2, j3⟩ := ih c (by omega) oc
      obtain ⟨l1, l2, l3⟩ := ih d (by omega) od
      rw [sh_lp, Sh.nc, Nd.nw_nd, nw_k3, Nd.cnt_nd, cnt3, Nd.int_nd, int3, show ownW "loop" = 5 by decide +kernel, show inn "loop" = 1 by decide +kernel]
      refine ⟨fun b => ?_, by omega, by omega⟩
      have i1 := k1 1
      have i2 := j1 1
      have i3 := l1 1
      rw [Sh.cw, List.length_cons, List.length_cons, List.length_cons, List.length_append, List.length_cons, List.length_append, List.length_cons]
      omega
theorem wl_txt : ∀ {x : List PW} {e : Bool}, Wl e x → (txt x).length ≤ 26 * x.length
  | [], _, _ => Nat.zero_le _
  | p :: r, e, ⟨_, b, c⟩ => by
    have := wl_txt c
    show (gp p.1 ++ (p.2 ++ txt r)).length ≤ 26 * (r.length + 1)
    unfold gp
    simp only [List.length_append, List.length_replicate]
    omega
/-- a shape that the law prints, and how big it is -/
structure Okb (s : Sh) : Prop extends Okay s where
  wn : (s.cw 0).length ≤ 274
  nc : s.nc ≤ 92
theorem Fd.okb {nw : List Wd} {t : Tn} {n : Nd} (h : Fd nw t n) (hn : nw.length ≤ 92) (hd : dep t.d ≤ 7) : Okb n.sh := by
  obtain ⟨k1, k2, _⟩ := siz_all n.ht n (Nat.le_refl _) h.ok
  have k3 := h.nw
  have k4 := k1 0
  exact ⟨h.okay hn hd, by omega, by omega⟩
theorem Okb.txl {s : Sh} (h : Okb s) : s.tx.length ≤ 7124 := by
  have k := wl_txt (Sh.ww s h.fine 0 true (by decide) (.inr rfl))
  have := h.wn
  show (txt (s.cw 0)).length ≤ _
  omega
theorem Okb.tks {s : Sh} (h : Okb s) : (toks s.tx 0 s.tx.length).length ≤ 274 := by
  have k := (Sh.has h.fine 0).ts
  have k : toks s.tx 0 s.tx.length = s.ws.map tkW := k
  rw [k, List.length_map]
  unfold Sh.ws
  rw [pos_len]
  exact h.wn
/-- a tree of this shape that was read of its text -/
theorem Okb.got {s : Sh} (h : Okb s) {ws : List Wd} {n : Nd} (g : Got s (s.need + s.inr) ws n) : n.cnt ≤ 184 ∧ n.ht ≤ 93 := by
  obtain ⟨_, _, k3⟩ := siz_all n.ht n (Nat.le_refl _) g.ok
  have k4 := (ht_all n.ht n (Nat.le_refl _) g.ok).1
  have k5 := g.int
  have k6 := h.cnt
  have k7 := h.nc
  rw [g.sh] at k3
  exact ⟨by omega, by omega⟩
theorem Okb.da {s : Sh} (h : Okb s) : SeqAt.shaped s.da = true := by
  have k1 := Sh.da_can s (Sh.fine_sg s h.fine)
  have k2 := Sh.da_dep s
  have k3 := h.hgt
  unfold SeqAt.shaped
  rw [Bool.and_eq_true]
  exact ⟨k1, decide_eq_true (by omega)⟩
/-- with a pair of brackets taken out -/
theorem Okb.less {s : Sh} (h : Okb s) {p : Nat × Nat} (hp : InG s.ws p) (r : Addr) {l' : List Nat} (hl : l' = s.tx.take p.1 ++ 32 :: ((s.tx.drop (p.1 + 1)).take (p.2 - 1 - (p.1 + 1)) ++ 32 :: s.tx.drop p.2)) :
    (toks l' 0 l'.length).length ≤ 300 ∧ valB ⟨r, l', toks l' 0 l'.length⟩ 225 0 0 ≠ .un ∧ ∀ t b, valB ⟨r, l', toks l' 0 l'.length⟩ 225 0 0 = .ok t b → b ≤ (⟨r, l', toks l' 0 l'.length⟩ : Src).n → ∃ n : Nd, n.t = t ∧ n.ok ∧ n.sh ≠ s ∧ n.ht ≤ 93 ∧ n.sh.da.canLay0 = true := by
  obtain ⟨k1, k2⟩ := h.toOkay.less hp r hl
  obtain ⟨ws, u, v, w, hw, e1, e2⟩ := gone (Sh.ww s h.fine 0 true (by decide) (.inr rfl)) hp r hl
  have hc : Okc l' := by
    have q : Okc s.tx := Sh.cc s h.fine 0
    subst hl
    refine Okc.app (fun c hc => q c (List.mem_of_mem_take hc)) (Okc.app (x := [32]) (fun c hc => by rw [List.mem_singleton.mp hc]; decide) (Okc.app (fun c hc => q c (List.mem_of_mem_drop (List.mem_of_mem_take hc))) (Okc.app (x := [32]) (fun c hc => by rw [List.mem_singleton.mp hc]; decide) fun c hc => q c (List.mem_of_mem_drop hc))))
  refine ⟨?_, k1, fun t b hv hb => ?_⟩
  · have k : toks l' 0 l'.length = ws.map tkW := hw.ts
    have c1 := congrArg List.length e1
    have c2 := congrArg List.length e2
    have := h.wn
    rw [k, List.length_map]
    simp only [List.length_map, List.length_append, List.length_cons] at c1 c2
    omega
  · obtain ⟨n, h1, h2, h3, h4⟩ := k2 t b hv hb
    have sd := (s_all ⟨r, l', toks l' 0 l'.length⟩ hc 225).1 0 0 t b hv
    rw [← h1] at sd
    exact ⟨n, h1, h2, h3, h4, Sh.da_can _ (sg_all n.ht n (Nat.le_refl _) h2 sd)⟩
end Sn

/-! My own rule: enumerate of a tuple; str of a number or a truth. -/
namespace Sn
open PySem PySem.Spec PyProof.Rows L2 TL
open Sem (wp)
/-- an enumerate object, just made -/
abbrev enE (n : Addr) : Obj := { cls := .type "enumerate", data := .fields #[.none, .bool false, .ref n, rawInt 0, .none, .none] }
theorem en_new {v : Value} {o : Obj} {G : Heap → Prop} (B : Begins v o G) : Meets (Builtin.«enumerate.__new__» ⟨[.type "enumerate", v], []⟩) (fun _ R s => G s.heap ∧ R (.ok (.ret (.ref (s.heap.push o).objs.size))) { s with heap := (s.heap.push o).push (enE s.heap.objs.size) }) :=
  .of_wp fun prog w A R s h => by
    obtain ⟨hp, g, d, tk, os⟩ := s
    obtain ⟨h1, h⟩ := h
    have hsub := sub_enumerate
    have q2 : ∀ {A1 : Around} {E1 Q1 : Value → Shared → Prop}, Q1 (.ref hp.objs.size) ⟨hp.push o, g, d, tk, os⟩ → wpAny (model prog w) A1 (pyIter v) Q1 E1 ⟨hp, g, d, tk, os⟩ := fun q => B.iter prog w _ _ ⟨hp, g, d, tk, os⟩ _ h1 q
    wp_walk using q2
    refine wpAny_stack_any fun st => wpAny_pure ?_
    split
    · rename_i c _ _ _ _ _
      cases hc : (c == Value.type "enumerate") <;> (wp_walk using q2; exact ⟨_, rfl, h⟩)
    · wp_walk using q2
      exact ⟨_, rfl, h⟩
theorem en_call {prog : Program} {w : World} {A : Around} {E : Value → Shared → Prop} {s : Shared} {v : Value} {o : Obj} {G : Heap → Prop} {Q : Value → Shared → Prop} (B : Begins v o G) (h1 : G s.heap)
    (h : ∀ h', IsEnum h' (s.heap.objs.size + 1) s.heap.objs.size 0 .none → h'.get? s.heap.objs.size = some o → (∀ b o', s.heap.get? b = some o' → h'.get? b = some o') → Q (.ref (s.heap.objs.size + 1)) { s with heap := h' }) :
    wpAny (model prog w) A (call (.type "enumerate") [v]) Q E s := by
  refine callType_new F.called_enumerate (by decide) (F.typeCall_enumerate_1 _) (F.newCall_enumerate_1 _) (fun obj => F.args_object_init_2 obj _) F.entry_enumerate_new (en_new B) ⟨h1, ?_⟩
  have hz : (s.heap.push o).objs.size = s.heap.objs.size + 1 := Heap.size_push ..
  have he : IsEnum ((s.heap.push o).push (enE s.heap.objs.size)) (s.heap.objs.size + 1) s.heap.objs.size 0 .none := by
    have k := Heap.get?_push_size (s.heap.push o) (o := enE s.heap.objs.size) rfl
    rw [hz] at k
    exact k
  show _ ∧ _
  rw [hz]
  exact ⟨⟨_, he, rfl⟩, h _ he (Heap.get?_push_of_some _ (Heap.get?_push_size _ B.free)) fun b o' x => Heap.get?_push_of_some _ (Heap.get?_push_of_some _ x)⟩
/-- the tuple at a, its items in new pairs with their numbers -/
def Itn (K : PySem.W.Frag) (a : Addr) : It :=
  ⟨fun i H => ∃ (xs : List V) (x : V), SqT K H a xs ∧ xs[i]? = some x, fun i H v H' => ∃ T x, v = .ref T ∧ H T = none ∧ H' = upd H T (.tup [.int (i : Nat), x]) ∧ ∀ xs, SqT K H a xs → xs[i]? = some x, fun i H => ∃ xs : List V, SqT K H a xs ∧ xs.length = i⟩
theorem turn_enT {P : Program} {w : World} {K : PySem.W.Frag} {elts : List Expr} {kk : Nat} {tpos : Pos} (a e it : Addr) (hne : e ≠ it) :
    Turn P w K (.Tuple elts kk tpos) (Itn K a) [e, it] e (fun i h => (∃ old, IsEnum h e it (0 + ((i : Nat) : Int)) old) ∧ h.IsTupleIter it a i) := by
  have ob : ∀ i h, ((∃ old, IsEnum h e it (0 + ((i : Nat) : Int)) old) ∧ h.IsTupleIter it a i) → ∀ b ∈ [e, it], ∃ o, h.get? b = some o ∧ ∀ v, o.data ≠ .cell v := fun i h st c hc => by
    obtain ⟨⟨old, he⟩, ⟨o1, e1, _, d1⟩⟩ := st
    have e' : c = e ∨ c = it := by simpa using hc
    rcases e' with q | q
    · rw [q]; exact ⟨_, he, fun v q => nomatch q⟩
    · rw [q]; exact ⟨o1, e1, fun v q => by rw [d1] at q; cases q⟩
  have ap : ∀ i (h : Heap) items, ((∃ old, IsEnum h e it (0 + ((i : Nat) : Int)) old) ∧ h.IsTupleIter it a i) → h.IsTuple a items → a ≠ it ∧ e ∉ [it, a] := fun i h items st ht => by
    obtain ⟨⟨old, he⟩, ⟨o1, e1, c1, _⟩⟩ := st
    obtain ⟨o2, e2, c2, _⟩ := ht
    have n1 : a ≠ it := fun z => by
      rw [z, e1] at e2
      cases e2
      rw [c1] at c2
      exact absurd c2 (by simp)
    have n2 : e ≠ a := fun z => by
      have he : h.get? e = some _ := he
      rw [z, e2] at he
      cases he
      exact absurd c2 (by simp)
    exact ⟨n1, by simp [hne, n2]⟩
  refine { mem := by simp, obj := ob, keep := fun i h h' st k => ?_, item := ?_, done := ?_, self := fun A i s Q E st h => let ⟨⟨_, he⟩, _⟩ := st; wpAny_pyIter_enum he h }
  · obtain ⟨⟨old, he⟩, h1⟩ := st
    exact ⟨⟨old, k e (by simp) _ he⟩, h1.at fun o q => k it (by simp) o q⟩
  · intro X hP hw hK hc i pins s σ H E I hf st hg
    subst hP hw hK
    obtain ⟨xs, x, hq, hx⟩ := hg
    obtain ⟨its, rv, p, hz⟩ := I.tuple hq
    obtain ⟨u, hu, ru⟩ := rv.get hx
    have p : s.heap.IsTuple a its.toArray := p
    obtain ⟨n1, n2⟩ := ap _ _ _ st p
    have W := GoesN.enumFrom (elts := elts) (x1 := kk) (pos := tpos) 0 (Draws.tuple (prog := X.prog) (w := X.w) (A := X.A.in1) (I.ok.hd hc) it a n1 its.toArray) e hne n2 (by simp)
    have hil : i < its.toArray.size := by
      have := (List.getElem?_eq_some_iff.mp hu).1
      simpa using this
    refine W.goes i s (fun u s2 => ∃ x' H', Inv X pins σ H' s2 ∧ RelV x' u ∧ (Itn X.K a).yld i H x' H' ∧ _ ∧ ∀ b ∈ [e, it], H' b = none) E hil ⟨st.1, st.2, p⟩ fun v h' tk hY st' hk htk => ?_
    obtain ⟨T, t, u', rfl, hT, hu', ht⟩ := hY
    have eu : u' = u := by
      have hu' : its[i]? = some u' := by simpa using hu'
      exact Option.some.inj (hu'.symm.trans hu)
    subst eu
    rw [Int.zero_add] at ht
    have new : ObjOk X.prog X.w (upd H T (.tup [.int (i : Nat), x])) h' T (.tup [.int (i : Nat), x]) :=
      ⟨by show 2 ≤ sizeLine; decide, [.int i t, u'], .cons ⟨_, rfl⟩ (.cons ru .nil), ht⟩
    have I1 := I.turnedNew (t' := tk) (ch := [e, it]) (fun b o hb q => hk b o hb q) hf hT new
    refine ⟨.ref T, _, I1, rfl, ⟨T, x, rfl, I.hok.fresh hT, rfl, fun ys hy => by rw [I.tuple_inj hy hq]; exact hx⟩, ⟨st'.1, st'.2.1⟩, fun b hb => ?_⟩
    obtain ⟨o, eo, _⟩ := ob _ _ st b hb
    rw [upd_ne (Nat.ne_of_lt (Nat.lt_of_lt_of_le (Heap.lt_size eo) hT))]
    exact (hf b hb).1
  · intro X hP hw hK hc i pins s σ H E I hf st hg
    subst hP hw hK
    obtain ⟨xs, hq, hx⟩ := hg
    obtain ⟨its, rv, p, hz⟩ := I.tuple hq
    have p : s.heap.IsTuple a its.toArray := p
    obtain ⟨n1, n2⟩ := ap _ _ _ st p
    have W := GoesN.enumFrom (elts := elts) (x1 := kk) (pos := tpos) 0 (Draws.tuple (prog := X.prog) (w := X.w) (A := X.A.in1) (I.ok.hd hc) it a n1 its.toArray) e hne n2 (by simp)
    have hl := rv.length
    have ei : i = its.toArray.size := by
      rw [List.size_toArray]
      omega
    subst ei
    exact W.stops s (fun s1 => Inv X pins σ H s1) E ⟨st.1, st.2, p⟩ fun h' tk hk htk => I.turnedL (t' := tk) (ch := [e, it]) (fun b o hb q => hk b o hb q) hf
def iEnT (K : PySem.W.Frag) (ta : TA) : TI := fun σ H R => ta σ H fun vs H1 => ∃ a xs, vs = [.ref a] ∧ SqT K H1 a xs ∧ R (Itn K a) H1
theorem pi_enT {X : Cx} {e : Expr} {ta : TA} {p pos tpos : Pos} {elts : List Expr} {kk : Nat} (hg : Gl X "enumerate") (hm : X.mg "enumerate" = none) (ha : PA X [e] ta) (hs : starEach [e] X.env = [(false, eval e X.env)] := by rfl) :
    PI X (.Tuple elts kk tpos) (.Call (.Name "enumerate" p) [e] [] pos) (iEnT X.K ta) := by
  refine ⟨fun pins s σ H R I h => ?_⟩
  refine Call_ (ld_blt I hg hm boot_enumerate (PyProof.Rows.callWith_type1 (thn (ha.run pos pins s σ H _ I h) fun us s1 ⟨vs, H1, I1, r1, q1⟩ => ?_) hs rfl))
  obtain ⟨a, xs, ex, hq, q⟩ := q1
  subst ex
  cases r1 with
  | cons r rr =>
    cases rr
    cases r
    obtain ⟨its, rv, p', hz⟩ := I1.tuple hq
    have p' : s1.heap.IsTuple a its.toArray := p'
    refine en_call (begins_tuple a its.toArray) p' fun h' he hit hk => wpAny_pyIter_enum he ?_
    have I2 : Inv X pins σ H1 { s1 with heap := h' } := I1.kept (t' := s1.toks) hk
    refine ⟨s1.heap.objs.size + 1, _, _, _, H1, rfl, I2, turn_enT a (s1.heap.objs.size + 1) s1.heap.objs.size (Nat.succ_ne_self _), ⟨⟨.none, he⟩, _, hit, rfl, rfl⟩, fun b hb => ?_, q⟩
    have hle : s1.heap.objs.size ≤ b := by
      have e' : b = s1.heap.objs.size + 1 ∨ b = s1.heap.objs.size := by simpa using hb
      rcases e' with q1 | q1
      · exact q1 ▸ Nat.le_add_right _ _
      · exact q1 ▸ Nat.le_refl _
    exact I1.fpOk hle (I1.hok.fresh hle)
/-- a tuple walked, its items with their numbers -/
theorem for_enT {K : PySem.W.Frag} {a : Addr} {xs : List V} {g : TG} {tb : TS} {D : Ends} {σ : L2.St} {H : Hp} (Pv : Nat → L2.St → Hp → Prop) (h0 : Pv 0 σ H) (hx : ∀ i σ H, Pv i σ H → SqT K H a xs)
    (hs : ∀ i x T σ H, xs[i]? = some x → H T = none → Pv i σ H → g (.ref T) σ (upd H T (.tup [.int (i : Nat), x])) fun σ2 H2 => tb { D with nx := Pv (i + 1), ct := Pv (i + 1), bk := D.nx } σ2 H2)
    (hd : ∀ σ H, Pv xs.length σ H → D.nx σ H) :
    ∃ W : Nat → Nat → L2.St → Hp → Prop, (∃ m, W 0 m σ H) ∧ ∀ i m σ H, W i m σ H →
      ((Itn K a).stop i H ∧ D.nx σ H) ∨ ((Itn K a).go i H ∧ ∃ Nx : L2.St → Hp → Prop, (∀ σ' H', Nx σ' H' → ∃ m', m' < m ∧ W (i + 1) m' σ' H') ∧ ∀ v H', (Itn K a).yld i H v H' → g v σ H' fun σ2 H2 => tb { D with nx := Nx, ct := Nx, bk := D.nx } σ2 H2) := by
  refine ⟨fun i m σ H => m = xs.length - i ∧ i ≤ xs.length ∧ Pv i σ H, ⟨_, rfl, Nat.zero_le _, h0⟩, ?_⟩
  rintro i m σ H ⟨rfl, hi, p⟩
  have hq := hx _ _ _ p
  by_cases hlt : i < xs.length
  · have gx := List.getElem?_eq_getElem hlt
    refine .inr ⟨⟨xs, _, hq, gx⟩, Pv (i + 1), fun σ' H' p' => ⟨xs.length - (i + 1), by omega, rfl, hlt, p'⟩, fun v H' z => ?_⟩
    obtain ⟨T, x, rfl, hT, rfl, hxx⟩ := z
    exact hs i x T σ _ (hxx xs hq) hT p
  · have e : i = xs.length := by omega
    exact .inl ⟨⟨xs, hq, e.symm⟩, hd σ H (e ▸ p)⟩
section
variable {X : Cx}
/-- str of a number or of a truth -/
theorem call_strI : CallR X (.type "str") (fun xs H Q => (∃ i, xs = [.int i] ∧ i.natAbs.log2 < 1920 ∧ Q (.str (toString i)) H) ∨ ∃ b, xs = [.bl b] ∧ Q (.str (if b then "True" else "False")) H) := by
  intro pins s σ H xs us Q I r h
  rcases h with ⟨i, rfl, hz, q⟩ | ⟨b, rfl, q⟩
  · obtain ⟨u, rfl, t, rfl⟩ := vals1 r
    exact PySem.P.str_of_int hz ⟨.str _, H, I.tok _, ⟨_, rfl⟩, q⟩
  · obtain ⟨u, rfl, r0⟩ := vals1 r
    obtain rfl : u = Value.bool b := r0
    refine PySem.P.str_of_bool (b := b) ?_
    exact ⟨.str _, H, I.tok _, ⟨_, rfl⟩, q⟩
/-- two pieces of data are not the same, the second one not deep -/
def rNeM (K : PySem.W.Frag) : R2 := fun x y H Q => ∃ d e, Dp K H x d ∧ Dp K H y e ∧ d.canLay0 = true ∧ SeqAt.shaped e = true ∧ Q (.bl (!PyData.eqv d e)) H
theorem op_neM (hu : X.A.units + 64 < cLine) : OpR X (compareOp .NotEq) (rNeM X.K) := by
  intro pins s σ H x y v u Q I rx ry h
  obtain ⟨d, e, hd, he, sd, se, q⟩ := h
  obtain ⟨as, r1⟩ := Dp.reads I d x v hd rx
  obtain ⟨bs, r2⟩ := Dp.reads I e y u he ry
  have k := SeqAt.depth_of_shaped se
  refine SeqAt.compareNe_reads r1 r2 sd (SeqAt.canLay_of_shaped se) (Nat.lt_of_le_of_lt (Nat.add_le_add_left (Nat.le_trans (Nat.min_le_right _ _) k) _) hu) ?_
  exact ⟨.bl _, H, I, rfl, q⟩
end
end Sn

/-! match over texts: patterns that are texts, one of several, or anything. -/
namespace Sn
open PySem PySem.Spec PyProof.Rows L2
section
variable {X : Cx}
/-- a pattern that tells texts -/
structure PPt (X : Cx) (p : Pattern) (m : Str → Bool) : Prop where
  run : ∀ (pins : List (Addr × Obj)) (s : Shared) (σ : L2.St) (H : Hp) (x : Str) (u : Value), Inv X pins σ H s → RelV (.str x) u → wpAny (model X.prog X.w) X.A (matchPattern p X.env u) (fun r s' => Inv X pins σ H s' ∧ r = if m x = true then some [] else none) X.xe s
structure PPf (X : Cx) (ps : List Pattern) (m : Str → Bool) : Prop where
  run : ∀ (pins : List (Addr × Obj)) (s : Shared) (σ : L2.St) (H : Hp) (x : Str) (u : Value), Inv X pins σ H s → RelV (.str x) u → wpAny (model X.prog X.w) X.A (matchFirst ps X.env u) (fun r s' => Inv X pins σ H s' ∧ r = if m x = true then some [] else none) X.xe s
theorem pp_str {y : Str} {j : Nat} {pos pos' : Pos} : PPt X (.MatchValue (.Constant (.str y) j pos) pos') (fun x => decide (x = y)) := ⟨fun pins s σ H x u I r => by
  refine wpAny_matchPattern_Value ?_
  refine thn (pe_str.run pins s σ H (fun v H' => v = .str y ∧ H' = H) I ⟨rfl, rfl⟩) fun v s1 ⟨w, H1, I1, r1, e1, e2⟩ => ?_
  subst e1 e2
  refine thn (op_eq pins s1 σ _ (.str x) (.str y) u v (fun v H' => v = .bl (decide (x = y)) ∧ H' = H1) I1 r r1 ⟨rfl, by rw [dec_str]; rfl, rfl⟩) fun c s2 ⟨w2, H2, I2, r2, e3, e4⟩ => ?_
  subst e3 e4
  cases r2
  refine wpAny_truthy_bool ?_
  cases hd : decide (x = y) with
  | true => exact ⟨I2, rfl⟩
  | false => exact ⟨I2, rfl⟩⟩
theorem pp_any {pos : Pos} : PPt X (.MatchAs none none pos) (fun _ => true) := ⟨fun pins s σ H x u I r => wpAny_matchPattern_Capture ⟨I, rfl⟩⟩
theorem ppf_nil : PPf X [] (fun _ => false) := ⟨fun pins s σ H x u I r => wpAny_matchFirst_nil ⟨I, rfl⟩⟩
theorem ppf_cons {p : Pattern} {ps : List Pattern} {m n : Str → Bool} (h : PPt X p m) (g : PPf X ps n) : PPf X (p :: ps) (fun x => m x || n x) := ⟨fun pins s σ H x u I r => by
  refine wpAny_matchFirst_cons (thn (h.run pins s σ H x u I r) fun a s1 ⟨I1, e⟩ => ?_)
  subst e
  cases hm : m x with
  | true => exact ⟨I1, rfl⟩
  | false =>
    show wpAny _ _ _ _ _ _
    refine thn (g.run pins s1 σ H x u I1 r) fun b s2 ⟨I2, e⟩ => ⟨I2, ?_⟩
    rw [e]
    rfl⟩
theorem pp_or {ps : List Pattern} {pos : Pos} {m : Str → Bool} (h : PPf X ps m) (hn : namesOfAll (ps.take 1) = []) : PPt X (.MatchOr ps pos) m := ⟨fun pins s σ H x u I r => by
  refine wpAny_matchPattern_Or (thn (h.run pins s σ H x u I r) fun a s1 ⟨I1, e⟩ => ?_)
  subst e
  cases hm : m x with
  | true =>
    refine ⟨I1, ?_⟩
    rw [hn]
    rfl
  | false => exact ⟨I1, rfl⟩⟩
/-- the cases -/
structure PCs (X : Cx) (cs : List MatchCase) (t : Str → TS) : Prop where
  run : ∀ (first : Bool) (pins : List (Addr × Obj)) (s : Shared) (σ : L2.St) (H : Hp) (D : Ends) (x : Str) (u : Value), Inv X pins σ H s → RelV (.str x) u → t x D σ H → wpAny (model X.prog X.w) X.A (matchCases cs X.env u first) (SP X pins D) X.xe s
theorem pcs_nil : PCs X [] (fun _ D σ H => D.nx σ H) := ⟨fun first pins s σ H D x u I r h => wpAny_matchCases_nil ⟨σ, H, I, h⟩⟩
theorem pcs_cons {p : Pattern} {body : List Stmt} {rest : List MatchCase} {m : Str → Bool} {tb : TS} {tr : Str → TS} (hp : PPt X p m) (hb : PSs X body tb) (hr : PCs X rest tr) : PCs X (⟨p, none, body⟩ :: rest) (fun x D σ H => if m x = true then tb D σ H else tr x D σ H) := ⟨fun first pins s σ H D x u I r h => by
  refine wpAny_matchCases_cons (thn (hp.run pins s σ H x u I r) fun a s1 ⟨I1, e⟩ => ?_)
  subst e
  cases hm : m x with
  | true =>
    have h : tb D σ H := by
      have h : (if m x = true then tb D σ H else tr x D σ H) := h
      rw [if_pos hm] at h
      exact h
    exact wpAny_assignInOrder_none (hb.run pins s1 σ H D I1 h)
  | false =>
    have h : tr x D σ H := by
      have h : (if m x = true then tb D σ H else tr x D σ H) := h
      rw [if_neg (by rw [hm]; decide)] at h
      exact h
    exact hr.run false pins s1 σ H D x u I1 r h⟩
theorem ps_match {e : Expr} {cs : List MatchCase} {pos : Pos} {te : TE} {t : Str → TS} (he : PE X e te) (hc : PCs X cs t) : PS X (.Match e cs pos) (fun D σ H => te σ H fun v H1 => ∃ x, v = .str x ∧ t x D σ H1) := ⟨fun pins s σ H D I h => by
  refine wpAny_Match (thn (he.run pins s σ H _ I h) fun u s1 ⟨v, H1, I1, r1, x, e1, h1⟩ => ?_)
  subst e1
  exact hc.run true pins s1 σ H1 D x u I1 r1 h1⟩
end
end Sn

/-! The dict of ranks. -/
namespace Sn
open PySem PySem.Spec PyProof.Rows L2 TL
/-- the entries as they are written -/
abbrev rkE (P : Params) (k0 k1 k2 k3 k4 k5 k6 k7 v0 v1 v2 v3 v4 v5 v6 v7 : PySem.Tok) : Array DictEntry :=
  #[⟨PyData.keyHash P "or", .str "or" k0, .int 1 v0⟩, ⟨PyData.keyHash P "and", .str "and" k1, .int 2 v1⟩, ⟨PyData.keyHash P "==", .str "==" k2, .int 4 v2⟩, ⟨PyData.keyHash P "<", .str "<" k3, .int 4 v3⟩, ⟨PyData.keyHash P "+", .str "+" k4, .int 5 v4⟩,
    ⟨PyData.keyHash P "-", .str "-" k5, .int 5 v5⟩, ⟨PyData.keyHash P "*", .str "*" k6, .int 6 v6⟩, ⟨PyData.keyHash P "/", .str "/" k7, .int 6 v7⟩]
section
variable {K : PySem.W.Frag} {w : World} {aR : Addr} {n : Nat} {k0 k1 k2 k3 k4 k5 k6 k7 v0 v1 v2 v3 v4 v5 v6 v7 : PySem.Tok}
theorem rk_lit : PySem.W.KeysLit w.params (rkE w.params k0 k1 k2 k3 k4 k5 k6 k7 v0 v1 v2 v3 v4 v5 v6 v7).toList :=
  ⟨⟨_, _, rfl, rfl⟩, ⟨_, _, rfl, rfl⟩, ⟨_, _, rfl, rfl⟩, ⟨_, _, rfl, rfl⟩, ⟨_, _, rfl, rfl⟩, ⟨_, _, rfl, rfl⟩, ⟨_, _, rfl, rfl⟩, ⟨_, _, rfl, rfl⟩, trivial⟩
theorem rk_kd (h : K.lookup aR = some ⟨.type "dict", none, .dict (rkE w.params k0 k1 k2 k3 k4 k5 k6 k7 v0 v1 v2 v3 v4 v5 v6 v7) n, #[]⟩) (low : (aR == sysModules) = false) : KdAt K w aR := ⟨⟨_, _, h, rk_lit⟩, low⟩
theorem rk_eq {l : List Nat} {x : Str} : (x == strL l) = decide (l = tl x) := by
  by_cases k : l = tl x
  · rw [decide_eq_true k]
    have : strL l = x := ext_tl k
    rw [this]
    exact beq_self_eq_true x
  · rw [decide_eq_false k]
    refine beq_eq_false_iff_ne.mpr fun e => k ?_
    rw [e]
theorem rkd_all (h : K.lookup aR = some ⟨.type "dict", none, .dict (rkE w.params k0 k1 k2 k3 k4 k5 k6 k7 v0 v1 v2 v3 v4 v5 v6 v7) n, #[]⟩) (l : List Nat) :
    ∃ r : Option V, KdGet K aR (strL l) r ∧ r.getD (.int 0) = .int ((Src.rank l : Nat) : Int) ∧ (0 < Src.rank l → KDct K w aR (strL l) (.int ((Src.rank l : Nat) : Int))) := by
  have ns : PySem.W.nsIn K aR (strL l) = some (if l = tl "or" then some (.int 1 v0) else if l = tl "and" then some (.int 2 v1) else if l = tl "==" then some (.int 4 v2) else if l = tl "<" then some (.int 4 v3) else
      if l = tl "+" then some (.int 5 v4) else if l = tl "-" then some (.int 5 v5) else if l = tl "*" then some (.int 6 v6) else if l = tl "/" then some (.int 6 v7) else none) := by
    unfold PySem.W.nsIn
    rw [h]
    simp only [rkE, List.find?, Value.isStr, rk_eq]
    by_cases c0 : l = tl "or"
    · rw [decide_eq_true c0, if_pos c0]
    rw [decide_eq_false c0, if_neg c0]
    by_cases c1 : l = tl "and"
    · rw [decide_eq_true c1, if_pos c1]
    rw [decide_eq_false c1, if_neg c1]
    by_cases c2 : l = tl "=="
    · rw [decide_eq_true c2, if_pos c2]
    rw [decide_eq_false c2, if_neg c2]
    by_cases c3 : l = tl "<"
    · rw [decide_eq_true c3, if_pos c3]
    rw [decide_eq_false c3, if_neg c3]
    by_cases c4 : l = tl "+"
    · rw [decide_eq_true c4, if_pos c4]
    rw [decide_eq_false c4, if_neg c4]
    by_cases c5 : l = tl "-"
    · rw [decide_eq_true c5, if_pos c5]
    rw [decide_eq_false c5, if_neg c5]
    by_cases c6 : l = tl "*"
    · rw [decide_eq_true c6, if_pos c6]
    rw [decide_eq_false c6, if_neg c6]
    by_cases c7 : l = tl "/"
    · rw [decide_eq_true c7, if_pos c7]
    rw [decide_eq_false c7, if_neg c7]
    rfl
  unfold Src.rank
  by_cases c0 : l = tl "or"
  · rw [if_pos c0] at ns ⊢
    exact ⟨some (.int 1), ⟨_, ns, ⟨_, rfl⟩⟩, rfl, fun _ => ⟨_, _, _, h, rk_lit, ns, ⟨_, rfl⟩⟩⟩
  rw [if_neg c0] at ns ⊢
  by_cases c1 : l = tl "and"
  · rw [if_pos c1] at ns ⊢
    exact ⟨some (.int 2), ⟨_, ns, ⟨_, rfl⟩⟩, rfl, fun _ => ⟨_, _, _, h, rk_lit, ns, ⟨_, rfl⟩⟩⟩
  rw [if_neg c1] at ns ⊢
  by_cases c2 : l = tl "=="
  · rw [if_pos c2] at ns ⊢
    exact ⟨some (.int 4), ⟨_, ns, ⟨_, rfl⟩⟩, rfl, fun _ => ⟨_, _, _, h, rk_lit, ns, ⟨_, rfl⟩⟩⟩
  rw [if_neg c2] at ns ⊢
  by_cases c3 : l = tl "<"
  · rw [if_pos c3] at ns ⊢
    exact ⟨some (.int 4), ⟨_, ns, ⟨_, rfl⟩⟩, rfl, fun _ => ⟨_, _, _, h, rk_lit, ns, ⟨_, rfl⟩⟩⟩
  rw [if_neg c3] at ns ⊢
  by_cases c4 : l = tl "+"
  · rw [if_pos c4] at ns ⊢
    exact ⟨some (.int 5), ⟨_, ns, ⟨_, rfl⟩⟩, rfl, fun _ => ⟨_, _, _, h, rk_lit, ns, ⟨_, rfl⟩⟩⟩
  rw [if_neg c4] at ns ⊢
  by_cases c5 : l = tl "-"
  · rw [if_pos c5] at ns ⊢
    exact ⟨some (.int 5), ⟨_, ns, ⟨_, rfl⟩⟩, rfl, fun _ => ⟨_, _, _, h, rk_lit, ns, ⟨_, rfl⟩⟩⟩
  rw [if_neg c5] at ns ⊢
  by_cases c6 : l = tl "*"
  · rw [if_pos c6] at ns ⊢
    exact ⟨some (.int 6), ⟨_, ns, ⟨_, rfl⟩⟩, rfl, fun _ => ⟨_, _, _, h, rk_lit, ns, ⟨_, rfl⟩⟩⟩
  rw [if_neg c6] at ns ⊢
  by_cases c7 : l = tl "/"
  · rw [if_pos c7] at ns ⊢
    exact ⟨some (.int 6), ⟨_, ns, ⟨_, rfl⟩⟩, rfl, fun _ => ⟨_, _, _, h, rk_lit, ns, ⟨_, rfl⟩⟩⟩
  rw [if_neg c7] at ns ⊢
  exact ⟨none, ⟨_, ns, trivial⟩, rfl, fun z => absurd z (by decide)⟩
end
end Sn

namespace Sn
open PySem PySem.Spec PyProof.Rows L2 TL
/-! ### the text -/
def topS (i : Nat) : Stmt := PySem.Challenge.pw_samenames_k50_printed_values_are_read_ba.main.body.getD i (.Pass ⟨0, 0, 0, 0⟩)
/-- the built-in names that stand as they are -/
structure Nm (mg : Str → Option Value) : Prop where
  abs : mg "abs" = none
  int_ : mg "int" = none
  len : mg "len" = none
  range : mg "range" = none
  isinstance : mg "isinstance" = none
  bool_ : mg "bool" = none
  str_ : mg "str" = none
  tuple_ : mg "tuple" = none
  list_ : mg "list" = none
section
variable {P : Program} {w : World} {K : PySem.W.Frag} {mg : Str → Option Value} {base : Heap} {f : Addr} {fd : FuncData}
abbrev s_tape : Stmt := topS 43
abbrev N_tape : List Str := ["script", "cell", "cells", "seed"]
theorem sc_tape : FnScope N_tape ["script"] (defScope s_tape) := ⟨rfl, rfl, rfl, by decide +kernel, rfl, by decide +kernel, by decide +kernel⟩
theorem nonneg_abs (i : Int) : 0 ≤ (if i < 0 then -i else i) := by
  split <;> omega
theorem ok_tape (F : Fun K "_law_tape" "_law_tape" s_tape f fd) (T : Nm mg) : FnOk P w K mg base CX0 1 f fd ["script"] (spTape K) := by
  refine F.ok sc_tape (fun vs H Q E h => ?_) (fun cdv A outer s H vs Q E hr h => ?_)
  · obtain ⟨a, ns, rfl, _⟩ := h
    rfl
  obtain ⟨a, ns, rfl, hS, hl, q⟩ := h
  refine ⟨_, (pss_cons (ps_setLc (i := 2) (own := [(("cell" : Str), 1)]) (g := (gName 1)) (tt := tYes) (by rfl) sc_tape.nd rfl rfl (sw_true rfl rfl rfl (by decide +kernel)) (pi_list (pv 0)) (blkOk_by (N := N_tape) (sc := defScope s_tape) (by decide +kernel)) (fun _ _ _ _ _ => (pg_name (i := 1) sc_tape.nd rfl (Or.inl rfl))) (fun _ _ _ _ _ => pts_nil) (fun _ _ _ _ _ => (pe_callB call_abs (by rfl) T.abs (by decide +kernel) (pa_cons (pe_callTy call_int1 (by rfl) T.int_ (by decide +kernel) (pa_cons (pv 1) pa_nil)) pa_nil))))
    (pss_cons (ps_set (i := 3) sc_tape.nd rfl (Or.inl rfl) pe_int)
    (pss_cons (ps_for PassesOwn.never rfl (pi_list (pv 2)) (pg_name (i := 1) sc_tape.nd rfl (Or.inl rfl)) (pss_one (ps_set (i := 3) sc_tape.nd rfl (Or.inl rfl) (pe_op op_mod (pe_callTy call_int1 (by rfl) T.int_ (by decide +kernel) (pa_cons (pe_op op_add (pe_op op_mul (pv 3) pe_int) (pv 1)) pa_nil)) pe_int))))
    (pss_one (ps_ret (pe_disp (pps_cons pe_str (pv 2) (pps_cons pe_str pe_int (pps_cons pe_str pe_int (pps_cons pe_str (pv 3) (pps_cons pe_str pe_int pps_nil))))) (by rfl) (by rfl) (fun z => by cases z) (by decide))))))), ?_⟩
  -- cells
  refine ⟨_, rfl, a, rfl, ⟨_, hS⟩, fun D hD => ?_⟩
  have s1 : Same H (upd H D (.lst [])) := same_new hD
  refine lc_list (K := K) (a := a) (xs := ns.map V.int) (fun i H' => Same H H' ∧ ∃ cs : List Int, H' D = some (.lst (cs.map V.int)) ∧ cs.length = i ∧ ∀ x ∈ cs, 0 ≤ x)
    ⟨s1, [], upd_same, rfl, fun _ h => nomatch h⟩ (fun i H' _ h => h.1.seq hS) ?_ ?_
  · rintro i x H' hi ⟨sm, cs, hd, hc, hp⟩
    obtain ⟨u, rfl⟩ : ∃ u, x = V.int u := by
      rw [List.getElem?_map] at hi
      cases e : ns[i]? with
      | none => rw [e] at hi; cases hi
      | some u => rw [e] at hi; exact ⟨u, (Option.some.inj hi).symm⟩
    have hi2 : i < ns.length := by
      have z := (List.getElem?_eq_some_iff.mp hi).1
      rwa [List.length_map] at z
    refine ⟨rfl, ?_⟩
    refine ⟨_, rfl, .inl ⟨_, rfl, _, rfl, cs.map V.int, hd, ?_, ?_⟩⟩
    · rw [List.length_map]; exact Nat.lt_of_lt_of_le (show cs.length < 1000 by omega) (by decide)
    · refine ⟨fun b o e => ?_, cs ++ [if u < 0 then -u else u], ?_, by simp [hc], fun y hy => ?_⟩
      · rw [upd_ne (ne_of_none e hD)]; exact sm _ _ e
      · rw [upd_same, List.map_append] <;> rfl
      · rcases List.mem_append.mp hy with hy | hy
        · exact hp y hy
        · rw [List.mem_singleton.mp hy]; exact nonneg_abs u
  · rintro H1 ⟨sm, cs, hd, hc, hp⟩
    -- seed
    refine ⟨_, rfl, D, rfl, ⟨_, .inl (.inl hd)⟩, for_list (K := K) (a := D) (xs := cs.map V.int) (fun i σ H' => ∃ (v : Option V) (se : Int), σ = [some (.ref a), v, some (.ref D), some (.int se)] ∧ H' = H1 ∧ 0 ≤ se ∧ se < 2147483647)
      ⟨none, 7, rfl, rfl, by decide, by decide⟩ (fun i σ H' _ ⟨_, _, _, e, _⟩ => by rw [e]; exact .inl (.inl hd)) ?_ ?_⟩
    · rintro i x σ H' hi ⟨v, se, rfl, rfl, h0, h1⟩
      obtain ⟨u, rfl⟩ : ∃ u, x = V.int u := by
        rw [List.getElem?_map] at hi
        cases e : cs[i]? with
        | none => rw [e] at hi; cases hi
        | some u => rw [e] at hi; exact ⟨u, (Option.some.inj hi).symm⟩
      refine ⟨_, rfl, _, _, rfl, rfl, .inr ⟨by decide, by decide⟩, _, rfl, _, _, rfl, rfl, .inl ⟨_, rfl, _, _, rfl, rfl, (by show (0 : Int) < 2147483647; decide), ?_⟩⟩
      exact ⟨_, _, rfl, rfl, Int.emod_nonneg _ (by decide), Int.emod_lt_of_pos _ (by decide)⟩
    · rintro σ H' ⟨v, se, rfl, rfl, h0, h1⟩
      -- the dict
      intro t ht
      have hDt : D ≠ t := ne_of_none hd ht
      refine ⟨_, rfl, ?_⟩
      refine ⟨_, rfl, ?_⟩
      refine ⟨upd_same, tk D 0 0 se 0, rfl, (by show 5 ≤ 15; decide), ?_⟩
      rw [upd_upd]
      have e : mergeK [] (tk D 0 0 se 0) = tk D 0 0 se 0 := by kernel_rfl
      rw [e]
      exact q t D _ (fun b o z => by rw [upd_ne (ne_of_none (sm _ _ z) ht)]; exact sm _ _ z) (sm.free ht) hD
        ⟨cs, 0, 0, se, 0, upd_same, by rw [upd_ne hDt]; exact hd, hp, by decide, by decide, h0, h1⟩

abbrev s_take : Stmt := topS 44
abbrev N_take : List Str := ["tape", "many", "drawn", "mixed"]
theorem sc_take : FnScope N_take ["tape", "many"] (defScope s_take) := ⟨rfl, rfl, rfl, by decide +kernel, rfl, by decide +kernel, by decide +kernel⟩
theorem ok_take (F : Fun K "_law_take" "_law_take" s_take f fd) (T : Nm mg) : FnOk P w K mg base CX0 1 f fd ["tape", "many"] spTake := by
  refine F.ok sc_take (fun vs H Q E h => ?_) (fun cdv A outer s H vs Q E hr h => ?_)
  · obtain ⟨t, c, n, rfl, _⟩ := h
    rfl
  obtain ⟨t, c, n, rfl, ⟨cs, a, l, se, sa, z⟩, hn, hn2, q⟩ := h
  refine ⟨_, (C8.pss_cut (ps_if (PW.pt (pw_and (pt_cmpR op_eq (pe_dget (hu_of hr) (pv 0) pe_str (fun _ _ => rfl)) pe_int (nomark _)) (pw_and1 (pt_cmpR op_lt (pe_dget (hu_of hr) (pv 0) pe_str (fun _ _ => rfl)) (pe_callB call_len_seq (by rfl) T.len PySem.boot_len (pa_cons (pe_dget (hu_of hr) (pv 0) pe_str (fun _ _ => rfl)) pa_nil)) (nomark _))))) (pss_cons (ps_dput (hu_of hr) (pv 0) pe_str (pe_ix (r := rIxL K) ix_list (pe_dget (hu_of hr) (pv 0) pe_str (fun _ _ => rfl)) (pe_dget (hu_of hr) (pv 0) pe_str (fun _ _ => rfl)) (fun _ _ => rfl)) rfl)
    (pss_one (ps_dput (hu_of hr) (pv 0) pe_str (pe_op op_add (pe_dget (hu_of hr) (pv 0) pe_str (fun _ _ => rfl)) pe_int) rfl))) pss_nil)
    (pss_cons (ps_if (pt_cmpR op_gt (pe_dget (hu_of hr) (pv 0) pe_str (fun _ _ => rfl)) pe_int (nomark _)) (pss_cons (ps_set (i := 2) sc_take.nd rfl (Or.inl rfl) (pe_op op_mod (pe_callTy call_int1 (by rfl) T.int_ (by decide +kernel) (pa_cons (pe_dget (hu_of hr) (pv 0) pe_str (fun _ _ => rfl)) pa_nil)) (pv 1)))
    (pss_cons (ps_dput (hu_of hr) (pv 0) pe_str (pe_op op_fdiv (pe_dget (hu_of hr) (pv 0) pe_str (fun _ _ => rfl)) (pv 1)) rfl)
    (pss_one (ps_ret (pv 2))))) pss_nil)
    (pss_cons (ps_dput (hu_of hr) (pv 0) pe_str (pe_op op_add (pe_dget (hu_of hr) (pv 0) pe_str (fun _ _ => rfl)) pe_int) rfl)
    (pss_cons (ps_set (i := 3) sc_take.nd rfl (Or.inl rfl) (pe_op op_mod (pe_callTy call_int1 (by rfl) T.int_ (by decide +kernel) (pa_cons (pe_op op_add (pe_op op_mul (pe_dget (hu_of hr) (pv 0) pe_str (fun _ _ => rfl)) pe_int) (pe_op op_mul (pe_dget (hu_of hr) (pv 0) pe_str (fun _ _ => rfl)) pe_int)) pa_nil)) pe_int))
    (pss_cons (ps_set (i := 3) sc_take.nd rfl (Or.inl rfl) (pe_op op_mod (pe_callTy call_int1 (by rfl) T.int_ (by decide +kernel) (pa_cons (pe_op op_add (pe_op op_add (pe_op op_mul (pv 3) (pv 3)) (pe_op op_mul (pe_dget (hu_of hr) (pv 0) pe_str (fun _ _ => rfl)) pe_int)) pe_int) pa_nil)) pe_int))
    (pss_one (ps_ret (pe_op op_mod (pe_callTy call_int1 (by rfl) T.int_ (by decide +kernel) (pa_cons (pv 3) pa_nil)) (pv 1))))))))), ?_⟩
  -- if tape['left'] == 0 and tape['at'] < len(tape['cells'])
  refine ⟨fun σ H' => σ = L2.start N_take [.ref t, .int n] ∧ ∃ a l, But t H H' ∧ TkAt H' t c cs a l se sa, ?_, ?_⟩
  · refine ⟨_, rfl, t, _, rfl, z.dg g_left, rfl, _, rfl, ?_⟩
    refine ite2 (fun _ => ?_) (fun _ => iteF ⟨rfl, a, l, But.refl t H, z⟩)
    refine ⟨_, rfl, t, _, rfl, z.dg g_at, _, rfl, t, _, rfl, z.dg g_cells, c, _, rfl, .inl (.inl (.inl z.cl)), _, _, rfl, rfl, _, rfl, ?_⟩
    refine ite2 (fun ha => ?_) (fun _ => ⟨rfl, a, l, But.refl t H, z⟩)
    have ha : a < ((cs.map V.int).length : Int) := of_decide_eq_true ha
    rw [List.length_map] at ha
    have hj : a.toNat < cs.length := by have := z.a0; omega
    have ea : a = (a.toNat : Int) := by have := z.a0; omega
    have g1 : (cs.map V.int)[a.toNat]? = some (.int cs[a.toNat]) := by
      rw [List.getElem?_map, List.getElem?_eq_getElem hj] <;> rfl
    refine ⟨_, rfl, t, _, rfl, z.dg g_cells, _, rfl, t, _, rfl, z.dg g_at, c, _, _, _, rfl, rfl, .inl (.inl z.cl), at_of ea g1, _, rfl, t, _, rfl, z.pLeft, ?_⟩
    have z1 := z.sLeft (v := cs[a.toNat]) (z.cp _ (List.getElem_mem hj))
    refine ⟨_, rfl, t, _, rfl, z1.dg g_at, _, _, rfl, rfl, _, rfl, t, _, rfl, z1.pAt, ?_⟩
    exact ⟨rfl, _, _, ((But.refl t H).upd).upd, z1.sAt (by have := z.a0; omega)⟩
  rintro σ H1 ⟨rfl, a, l, bt, z⟩
  -- if tape['left'] > 0
  refine ⟨_, rfl, t, _, rfl, z.dg g_left, _, _, rfl, rfl, _, rfl, ?_⟩
  refine ite2 (fun hl => ?_) (fun _ => ?_)
  · have hl : 0 < l := of_decide_eq_true hl
    refine ⟨_, rfl, t, _, rfl, z.dg g_left, .inl ⟨_, rfl, _, rfl, _, _, rfl, rfl, hn, ?_⟩⟩
    refine ⟨_, rfl, t, _, rfl, z.dg g_left, _, rfl, _, _, rfl, rfl, ⟨hn, hn2⟩, _, rfl, t, _, rfl, z.pLeft, ?_⟩
    refine ⟨_, rfl, ?_⟩
    exact q _ _ (Int.emod_nonneg _ (by omega)) (Int.emod_lt_of_pos _ hn) bt.upd ⟨cs, a, _, se, sa, z.sLeft (Int.ediv_nonneg z.l0 (by omega))⟩
  · refine ⟨_, rfl, t, _, rfl, z.dg g_salt, _, _, rfl, rfl, _, rfl, t, _, rfl, z.pSalt, ?_⟩
    have z1 := z.sSalt (v := sa + 1)
    have b1 : But t H (upd H1 t (.dK (tk c a l se (sa + 1)))) := bt.upd
    generalize upd H1 t (.dK (tk c a l se (sa + 1))) = H2 at z1 b1 ⊢
    refine ⟨_, rfl, t, _, rfl, z1.dg g_seed, _, _, rfl, rfl, .inr ⟨by decide, by decide⟩, _, rfl, t, _, rfl, z1.dg g_salt, _, _, rfl, rfl, .inr ⟨by decide, by decide⟩, _, _, rfl, rfl, .inl ⟨_, rfl, _, _, rfl, rfl, (by show (0 : Int) < 2147483647; decide), ?_⟩⟩
    have hm := Int.emod_lt_of_pos (se * 48271 + (sa + 1) * 69621) (show (0 : Int) < 2147483647 by decide)
    have hm0 := Int.emod_nonneg (se * 48271 + (sa + 1) * 69621) (show (2147483647 : Int) ≠ 0 by decide)
    generalize (se * 48271 + (sa + 1) * 69621) % 2147483647 = mx at hm hm0 ⊢
    refine ⟨_, rfl, _, rfl, _, _, rfl, rfl, .inl ⟨by omega, by omega⟩, _, rfl, t, _, rfl, z1.dg g_salt, _, _, rfl, rfl, .inr ⟨by decide, by decide⟩, _, _, rfl, rfl, _, _, rfl, rfl, .inl ⟨_, rfl, _, _, rfl, rfl, (by show (0 : Int) < 2147483399; decide), ?_⟩⟩
    refine ⟨_, rfl, .inl ⟨_, rfl, _, rfl, _, _, rfl, rfl, hn, ?_⟩⟩
    exact q _ _ (Int.emod_nonneg _ (by omega)) (Int.emod_lt_of_pos _ hn) b1 ⟨cs, a, l, se, _, z1⟩

abbrev s_isInt : Stmt := topS 45
abbrev N_isInt : List Str := ["actual"]
theorem sc_isInt : FnScope N_isInt ["actual"] (defScope s_isInt) := ⟨rfl, rfl, rfl, by decide +kernel, rfl, by decide +kernel, by decide +kernel⟩
theorem ok_isInt (F : Fun K "_law_is_integer" "_law_is_integer" s_isInt f fd) (T : Nm mg) : FnOk P w K mg base CX0 1 f fd ["actual"] spIsInt := by
  refine F.ok sc_isInt (fun vs H Q E h => ?_) (fun cdv A outer s H vs Q E hr h => ?_)
  · obtain ⟨i, rfl, _⟩ := h
    rfl
  obtain ⟨i, rfl, q⟩ := h
  refine ⟨_, (pss_one (ps_ret (pe_and (pe_callB call_isi (by rfl) T.isinstance (by decide +kernel) (pa_cons (pv 0) (pa_cons (pe_bltn (v := .ty "int") (u := .type "int") (by rfl) T.int_ (by decide +kernel) rfl) pa_nil))) (pe_one (pe_not (pe_callB call_isi (by rfl) T.isinstance (by decide +kernel) (pa_cons (pv 0) (pa_cons (pe_bltn (v := .ty "bool") (u := .type "bool") (by rfl) T.bool_ (by decide +kernel) rfl) pa_nil)))))))), ?_⟩
  refine ⟨_, rfl, _, _, _, _, true, rfl, .ty _, .base (.int _), kit_ty (by decide +kernel), _, rfl, ?_⟩
  refine ⟨_, rfl, _, _, _, _, false, rfl, .ty _, .base (.int _), kit_ty (by decide +kernel), _, rfl, q⟩

abbrev s_sameItems : Stmt := topS 46
abbrev N_sameItems : List Str := ["actual", "expected", "k"]
theorem sc_sameItems : FnScope N_sameItems ["actual", "expected"] (defScope s_sameItems) := ⟨rfl, rfl, rfl, by decide +kernel, rfl, by decide +kernel, by decide +kernel⟩
theorem ok_items {n : Nat} (F : Fun K "_law_same_items" "_law_same_items" s_sameItems f fd) (T : Nm mg) (C_law_same : Cal P w K mg base CX0 (2 * n) "_law_same" (spSame n)) : FnOk P w K mg base CX0 (2 * n + 1) f fd ["actual", "expected"] (spItems n) := by
  refine F.ok sc_sameItems (fun vs H Q E h => ?_) (fun cdv A outer s H vs Q E hr h => ?_)
  · obtain ⟨a, b, xs, ys, rfl, _⟩ := h
    rfl
  obtain ⟨a, b, xs, ys, rfl, hs, hl, hm, al, q⟩ := h
  have sa : SqL K H a xs ∨ SqT K H a xs := hs.elim (fun h => .inr (.inl (.inl h.1))) fun h => .inl (.inl (.inl h.1))
  have sb : SqL K H b ys ∨ SqT K H b ys := hs.elim (fun h => .inr (.inl (.inl h.2))) fun h => .inl (.inl (.inl h.2))
  refine ⟨_, (pss_cons (ps_if (pt_cmpR op_ne (pe_callB call_len_seq (by rfl) T.len PySem.boot_len (pa_cons (pv 0) pa_nil)) (pe_callB call_len_seq (by rfl) T.len PySem.boot_len (pa_cons (pv 1) pa_nil)) (nomark _)) (pss_one (ps_ret pe_bl)) pss_nil)
    (pss_cons (ps_for PassesOwn.never rfl (pi_range1 (by rfl) T.range (pa_cons (pe_callB call_len_seq (by rfl) T.len PySem.boot_len (pa_cons (pv 1) pa_nil)) pa_nil)) (pg_name (i := 2) sc_sameItems.nd rfl (Or.inl rfl)) (pss_one (ps_if (pt_not (pt_val (pe_c C_law_same hr (by first | decide | omega) pass0 (pa_cons (pe_ix (r := rIx K) ix_seq (pv 0) (pv 2) (fun _ _ => rfl)) (pa_cons (pe_ix (r := rIx K) ix_seq (pv 1) (pv 2) (fun _ _ => rfl)) pa_nil))))) (pss_one (ps_ret pe_bl)) pss_nil)))
    (pss_one (ps_ret pe_bl)))), ?_⟩
  refine ⟨_, rfl, a, xs, rfl, sa, _, rfl, b, ys, rfl, sb, rfl, _, rfl, ?_⟩
  refine iteNS (by rw [hl]) ?_
  refine ⟨_, rfl, b, ys, rfl, sb, _, rfl, by omega, by omega, for_range (lo := 0) (n := ((ys.length : Nat) : Int).toNat) (fun i σ H' => H' = H ∧ ∃ v, σ = [some (.ref a), some (.ref b), v]) ⟨rfl, none, rfl⟩ ?_ ?_⟩
  · rintro i σ H' hi ⟨rfl, v, rfl⟩
    have hi1 : i < ys.length := by omega
    have hi2 : i < xs.length := by omega
    have ei : ((0 : Int) + (i : Nat)) = ((i : Nat) : Int) := Int.zero_add _
    have g1 := List.getElem?_eq_getElem hi2
    have g2 := List.getElem?_eq_getElem hi1
    refine ⟨_, rfl, _, rfl, ?_⟩
    have r1 : ∀ {Q' : VK}, Q' xs[i] H' → rIx K (.ref a) (.int (0 + (i : Nat))) H' Q' := fun {Q'} h => sa.elim (fun s => .inl ⟨a, xs, _, _, rfl, rfl, s, at_of ei g1, h⟩) fun s => .inr (.inl ⟨a, xs, _, _, rfl, rfl, s, at_of ei g1, h⟩)
    have r2 : ∀ {Q' : VK}, Q' ys[i] H' → rIx K (.ref b) (.int (0 + (i : Nat))) H' Q' := fun {Q'} h => sb.elim (fun s => .inl ⟨b, ys, _, _, rfl, rfl, s, at_of ei g2, h⟩) fun s => .inr (.inl ⟨b, ys, _, _, rfl, rfl, s, at_of ei g2, h⟩)
    refine r1 ⟨_, rfl, _, rfl, r2 ?_⟩
    refine ⟨_, _, rfl, al i _ _ g1 g2, _, rfl, ?_⟩
    exact ⟨rfl, _, rfl⟩
  · rintro σ H' ⟨rfl, v, rfl⟩
    exact q

abbrev s_same : Stmt := topS 47
abbrev N_same : List Str := ["actual", "expected", "key"]
theorem sc_same : FnScope N_same ["actual", "expected"] (defScope s_same) := ⟨rfl, rfl, rfl, by decide +kernel, rfl, by decide +kernel, by decide +kernel⟩
theorem ok_same {n : Nat} (F : Fun K "_law_same" "_law_same" s_same f fd) (T : Nm mg) (C_law_is_integer : Cal P w K mg base CX0 1 "_law_is_integer" spIsInt) (C_law_same_items : Cal P w K mg base CX0 (2 * n + 1) "_law_same_items" (spItems n)) :
    FnOk P w K mg base CX0 (2 * n + 2) f fd ["actual", "expected"] (spSame (n + 1)) := by
  refine F.ok sc_same (fun vs H Q E h => ?_) (fun cdv A outer s H vs Q E hr h => ?_)
  · obtain ⟨x, y, rfl, _⟩ := h
    rfl
  obtain ⟨x, y, rfl, al, q⟩ := h
  refine ⟨_, (pss_cons (ps_if (pt_cmpR op_isN (pv 1) pe_non (nomark _)) (pss_one (ps_ret (pe_cmpR op_isN (pv 0) pe_non (nomark _)))) pss_nil)
    (pss_cons (ps_if (pt_val (pe_callB call_isi (by rfl) T.isinstance (by decide +kernel) (pa_cons (pv 1) (pa_cons (pe_bltn (v := .ty "bool") (u := .type "bool") (by rfl) T.bool_ (by decide +kernel) rfl) pa_nil)))) (pss_one (ps_ret (pe_and (pe_callB call_isi (by rfl) T.isinstance (by decide +kernel) (pa_cons (pv 0) (pa_cons (pe_bltn (v := .ty "bool") (u := .type "bool") (by rfl) T.bool_ (by decide +kernel) rfl) pa_nil))) (pe_one (pe_cmpR op_eq (pv 0) (pv 1) (nomark _)))))) pss_nil)
    (pss_cons (ps_if (pt_val (pe_callB call_isi (by rfl) T.isinstance (by decide +kernel) (pa_cons (pv 1) (pa_cons (pe_bltn (v := .ty "int") (u := .type "int") (by rfl) T.int_ (by decide +kernel) rfl) pa_nil)))) (pss_one (ps_ret (pe_and (pe_c C_law_is_integer hr (by first | decide | omega) pass0 (pa_cons (pv 0) pa_nil)) (pe_one (pe_cmpR op_eq (pv 0) (pv 1) (nomark _)))))) pss_nil)
    (pss_cons (ps_if (pt_val (pe_callB call_isi (by rfl) T.isinstance (by decide +kernel) (pa_cons (pv 1) (pa_cons (pe_bltn (v := .ty "str") (u := .type "str") (by rfl) T.str_ (by decide +kernel) rfl) pa_nil)))) (pss_one (ps_ret (pe_and (pe_callB call_isi (by rfl) T.isinstance (by decide +kernel) (pa_cons (pv 0) (pa_cons (pe_bltn (v := .ty "str") (u := .type "str") (by rfl) T.str_ (by decide +kernel) rfl) pa_nil))) (pe_one (pe_cmpR op_eq (pv 0) (pv 1) (nomark _)))))) pss_nil)
    (pss_cons (ps_if (pt_val (pe_callB call_isi (by rfl) T.isinstance (by decide +kernel) (pa_cons (pv 1) (pa_cons (pe_bltn (v := .ty "tuple") (u := .type "tuple") (by rfl) T.tuple_ (by decide +kernel) rfl) pa_nil)))) (pss_one (ps_ret (pe_and (pe_callB call_isi (by rfl) T.isinstance (by decide +kernel) (pa_cons (pv 0) (pa_cons (pe_bltn (v := .ty "tuple") (u := .type "tuple") (by rfl) T.tuple_ (by decide +kernel) rfl) pa_nil))) (pe_one (pe_c C_law_same_items hr (by first | decide | omega) pass0 (pa_cons (pv 0) (pa_cons (pv 1) pa_nil))))))) pss_nil)
    (pss_cons (ps_if (pt_val (pe_callB call_isi (by rfl) T.isinstance (by decide +kernel) (pa_cons (pv 1) (pa_cons (pe_bltn (v := .ty "list") (u := .type "list") (by rfl) T.list_ (by decide +kernel) rfl) pa_nil)))) (pss_one (ps_ret (pe_and (pe_callB call_isi (by rfl) T.isinstance (by decide +kernel) (pa_cons (pv 0) (pa_cons (pe_bltn (v := .ty "list") (u := .type "list") (by rfl) T.list_ (by decide +kernel) rfl) pa_nil))) (pe_one (pe_c C_law_same_items hr (by first | decide | omega) pass0 (pa_cons (pv 0) (pa_cons (pv 1) pa_nil))))))) pss_nil)
    (pss_cons ps_never
    (pss_cons ps_never
    (pss_cons ps_never
    (pss_one ps_never)))))))))), ?_⟩
  rcases al with ⟨rfl, hx⟩ | ⟨a, b, xs, ys, rfl, rfl, ha, hb, hl, hm, al⟩ | ⟨a, b, xs, ys, rfl, rfl, ha, hb, hl, hm, al⟩
  · cases x with
    | non => exact ⟨_, rfl, rfl, _, rfl, iteP rfl ⟨_, rfl, rfl, qP rfl q⟩⟩
    | bl k =>
      refine ⟨_, rfl, rfl, _, rfl, iteN (fun z => nomatch z) ?_⟩
      refine ⟨_, rfl, _, _, _, _, true, rfl, .ty _, .base (.bl _), kit_ty (by decide +kernel), _, rfl, ?_⟩
      refine ⟨_, rfl, _, _, _, _, true, rfl, .ty _, .base (.bl _), kit_ty (by decide +kernel), _, rfl, ?_⟩
      exact ⟨_, rfl, _, rfl, rfl, qP rfl q⟩
    | int i =>
      refine ⟨_, rfl, rfl, _, rfl, iteN (fun z => nomatch z) ?_⟩
      refine ⟨_, rfl, _, _, _, _, false, rfl, .ty _, .base (.int _), kit_ty (by decide +kernel), _, rfl, ?_⟩
      refine ⟨_, rfl, _, _, _, _, true, rfl, .ty _, .base (.int _), kit_ty (by decide +kernel), _, rfl, ?_⟩
      refine ⟨_, rfl, i, rfl, _, rfl, ?_⟩
      exact ⟨_, rfl, _, rfl, rfl, qP rfl q⟩
    | str z =>
      refine ⟨_, rfl, rfl, _, rfl, iteN (fun z => nomatch z) ?_⟩
      refine ⟨_, rfl, _, _, _, _, false, rfl, .ty _, .base (.str _), kit_ty (by decide +kernel), _, rfl, ?_⟩
      refine ⟨_, rfl, _, _, _, _, false, rfl, .ty _, .base (.str _), kit_ty (by decide +kernel), _, rfl, ?_⟩
      refine ⟨_, rfl, _, _, _, _, true, rfl, .ty _, .base (.str _), kit_ty (by decide +kernel), _, rfl, ?_⟩
      refine ⟨_, rfl, _, _, _, _, true, rfl, .ty _, .base (.str _), kit_ty (by decide +kernel), _, rfl, ?_⟩
      exact ⟨_, rfl, _, rfl, rfl, qP rfl q⟩
    | byt z => cases hx
    | flt z => cases hx
    | ref z => cases hx
    | ty z => cases hx
  · refine ⟨_, rfl, rfl, _, rfl, iteN (fun z => nomatch z) ?_⟩
    refine ⟨_, rfl, _, _, _, _, false, rfl, .ty _, .base (.tup hb), kit_ty (by decide +kernel), _, rfl, ?_⟩
    refine ⟨_, rfl, _, _, _, _, false, rfl, .ty _, .base (.tup hb), kit_ty (by decide +kernel), _, rfl, ?_⟩
    refine ⟨_, rfl, _, _, _, _, false, rfl, .ty _, .base (.tup hb), kit_ty (by decide +kernel), _, rfl, ?_⟩
    refine ⟨_, rfl, _, _, _, _, true, rfl, .ty _, .base (.tup hb), kit_ty (by decide +kernel), _, rfl, ?_⟩
    refine ⟨_, rfl, _, _, _, _, true, rfl, .ty _, .base (.tup ha), kit_ty (by decide +kernel), _, rfl, ?_⟩
    exact ⟨_, rfl, _, rfl, a, b, xs, ys, rfl, .inl ⟨ha, hb⟩, hl, hm, al, q⟩
  · refine ⟨_, rfl, rfl, _, rfl, iteN (fun z => nomatch z) ?_⟩
    refine ⟨_, rfl, _, _, _, _, false, rfl, .ty _, .base (.lst hb), kit_ty (by decide +kernel), _, rfl, ?_⟩
    refine ⟨_, rfl, _, _, _, _, false, rfl, .ty _, .base (.lst hb), kit_ty (by decide +kernel), _, rfl, ?_⟩
    refine ⟨_, rfl, _, _, _, _, false, rfl, .ty _, .base (.lst hb), kit_ty (by decide +kernel), _, rfl, ?_⟩
    refine ⟨_, rfl, _, _, _, _, false, rfl, .ty _, .base (.lst hb), kit_ty (by decide +kernel), _, rfl, ?_⟩
    refine ⟨_, rfl, _, _, _, _, true, rfl, .ty _, .base (.lst hb), kit_ty (by decide +kernel), _, rfl, ?_⟩
    refine ⟨_, rfl, _, _, _, _, true, rfl, .ty _, .base (.lst ha), kit_ty (by decide +kernel), _, rfl, ?_⟩
    exact ⟨_, rfl, _, rfl, a, b, xs, ys, rfl, .inr ⟨ha, hb⟩, hl, hm, al, q⟩
theorem no_same0 : ∀ vs H Q E, ¬ spSame 0 vs H Q E := fun vs H Q E h => by
  obtain ⟨x, y, _, al, _⟩ := h
  exact al
/-- both, as deep as one likes -/
theorem both {f g : Addr} {fd gd : FuncData} (FS : Fun K "_law_same" "_law_same" s_same f fd) (bS : Binds K fd ["actual", "expected"] []) (mS : mg "_law_same" = some (.ref f)) (FI : Fun K "_law_same_items" "_law_same_items" s_sameItems g gd) (bI : Binds K gd ["actual", "expected"] []) (mI : mg "_law_same_items" = some (.ref g))
    (T : Nm mg) (C_law_is_integer : Cal P w K mg base CX0 1 "_law_is_integer" spIsInt) : ∀ n, Cal P w K mg base CX0 (2 * n) "_law_same" (spSame n)
  | 0 => ⟨f, fd, _, none_left no_same0, mS, FS.kp, bS⟩
  | n + 1 => ⟨f, fd, _, ok_same FS T C_law_is_integer ⟨g, gd, _, ok_items FI T (both FS bS mS FI bI mI T C_law_is_integer n), mI, FI.kp, bI⟩, mS, FS.kp, bS⟩

end

end Sn

namespace Sn
open PySem PySem.Spec PyProof.Rows L2 TL
/-! ### the program's tokens -/
structure Nm5 (K : PySem.W.Frag) (mg : Str → Option Value) (aW : Addr) (tS : PySem.Tok) : Prop extends Nm mg where
  g_WORDS : mg "WORDS" = some (.ref aW)
  wt : ∃ (o : Obj) (its : Array Value) (n : Nat), K.lookup aW = some o ∧ o.cls = .type "tuple" ∧ o.data = .seq its n ∧ its.size ≤ sizeLine ∧ Vals (wds.map V.str) its.toList
  g_SIGNS : mg "SIGNS" = some (.str "()[],:.=<+-*/" tS)
def spLet (p : Nat → Bool) : Sp := fun vs H Q _ => ∃ c : Nat, vs = [.str ⟨#[c]⟩] ∧ Q (.bl (p c)) H
def spRun (p : Nat → Bool) : Sp := fun vs H Q _ => ∃ (z : Str) (i : Nat), vs = [.str z, .int (i : Int)] ∧ i ≤ (tl z).length ∧ z.length ≤ 1000000 ∧ Q (.int ((run p (tl z) i : Nat) : Int)) H
def spTokAt : Sp := fun vs H Q _ => ∃ (z : Str) (i c : Nat), vs = [.str z, .int (i : Int)] ∧ (tl z)[i]? = some c ∧ z.length ≤ 1000000 ∧ ∀ p H', Same H H' → H p = none → H' p = some (.tup (tkV (tokC (tl z) i c))) → Q (.ref p) H'
def spBetween : Sp := fun vs H Q _ => ∃ (z : Str) (s e : Nat), vs = [.str z, .int (s : Int), .int (e : Int)] ∧ e ≤ (tl z).length ∧ z.length ≤ 1000000 ∧ ∀ p H', Same H H' → H p = none → LT H' p ((toks (tl z) s e).map tkV) → Q (.ref p) H'
def spTokens : Sp := fun vs H Q _ => ∃ z : Str, vs = [.str z] ∧ z.length ≤ 1000000 ∧ ∀ p H', Same H H' → H p = none → LT H' p ((toks (tl z) 0 (tl z).length).map tkV) → Q (.ref p) H'
theorem le_sg5 (a c : Nat) : (!decide ((⟨#[c]⟩ : Str).cps.toList < (⟨#[a]⟩ : Str).cps.toList)) = decide (a ≤ c) := by
  have : (!decide ([c] < [a])) = decide (a ≤ c) := by
    have k : ([c] < [a]) ↔ c < a := by
      constructor
      · intro h
        cases h with
        | rel h => exact h
        | cons h => cases h
      · exact fun h => .rel h
    by_cases h : c < a
    · rw [decide_eq_true (k.mpr h), decide_eq_false (by omega)]
      rfl
    · rw [decide_eq_false (fun z => h (k.mp z)), decide_eq_true (by omega)]
      rfl
  exact this
theorem ge_sg5 (a c : Nat) : (!decide ((⟨#[a]⟩ : Str).cps.toList < (⟨#[c]⟩ : Str).cps.toList)) = decide (c ≤ a) := le_sg5 c a
theorem one5 {c d : Nat} : (V.str ⟨#[c]⟩ = V.str ⟨#[d]⟩) ↔ c = d := by
  constructor
  · intro h
    injection h with h
    injection h with h
    simpa using h
  · intro h
    rw [h]
theorem s_a : ("a" : Str) = ⟨#[97]⟩ := by decide +kernel
theorem s_z : ("z" : Str) = ⟨#[122]⟩ := by decide +kernel
theorem s_A : ("A" : Str) = ⟨#[65]⟩ := by decide +kernel
theorem s_Z : ("Z" : Str) = ⟨#[90]⟩ := by decide +kernel
theorem s_0 : ("0" : Str) = ⟨#[48]⟩ := by decide +kernel
theorem s_9 : ("9" : Str) = ⟨#[57]⟩ := by decide +kernel
theorem s_us : ("_" : Str) = ⟨#[95]⟩ := by decide +kernel
theorem s_sp : (" " : Str) = ⟨#[32]⟩ := by decide +kernel
theorem s_nl : ("\n" : Str) = ⟨#[10]⟩ := by decide +kernel
theorem s_ha : ("#" : Str) = ⟨#[35]⟩ := by decide +kernel
theorem s_eq2 : ("==" : Str) = ⟨#[61, 61]⟩ := by decide +kernel
theorem str_L {z : Str} {l : List Nat} : (V.str z = V.str ⟨l.toArray⟩) ↔ tl z = l := by
  constructor
  · intro h
    injection h with h
    rw [h]
  · intro h
    rw [← h]
theorem toNat_lt {l : List Nat} {i c : Nat} (h : l[i]? = some c) : i < l.length := (List.getElem?_eq_some_iff.mp h).1
/-- the sign at a place of a text, as the rules ask for it -/
theorem item_of {z : Str} {i c : Nat} (h : (tl z)[i]? = some c) (hz : z.length ≤ 1000000) : (0 : Int) ≤ (i : Int) ∧ (i : Int) < 2 ^ 63 ∧ (i : Int) < (z.length : Int) ∧ z.cps[((i : Int)).toNat]? = some c := by
  have := toNat_lt h
  have e := len_tl z
  refine ⟨by omega, by omega, by omega, ?_⟩
  rw [Int.toNat_natCast, ← Array.getElem?_toList]
  exact h
section
variable {P : Program} {w : World} {K : PySem.W.Frag} {mg : Str → Option Value} {base : Heap} {f : Addr} {fd : FuncData} {aW : Addr} {tS : PySem.Tok}
abbrev s_is_letter : Stmt := topS 9
abbrev N_is_letter : List Str := ["sign"]
theorem sc_is_letter : FnScope N_is_letter ["sign"] (defScope s_is_letter) := ⟨rfl, rfl, rfl, by decide +kernel, rfl, by decide +kernel, by decide +kernel⟩
theorem letter_read {c : Nat} {H : Hp} {Q : VK} {σ : L2.St} (hs : σ[0]? = some (some (.str ⟨#[c]⟩))) (q : Q (.bl (isL c)) H) :
    (tOrV (tChain (fun x y H Q => ∃ i j, x = .str i ∧ y = .str j ∧ Q (.bl (!decide (j.cps.toList < i.cps.toList))) H) (fun x y H Q => ∃ i j, x = .str i ∧ y = .str j ∧ Q (.bl (!decide (j.cps.toList < i.cps.toList))) H) (tC (.str "a")) (tVar 0) (tC (.str "z")))
      (tChain (fun x y H Q => ∃ i j, x = .str i ∧ y = .str j ∧ Q (.bl (!decide (j.cps.toList < i.cps.toList))) H) (fun x y H Q => ∃ i j, x = .str i ∧ y = .str j ∧ Q (.bl (!decide (j.cps.toList < i.cps.toList))) H) (tC (.str "A")) (tVar 0) (tC (.str "Z")))) σ H Q := by
  rw [s_a, s_z, s_A, s_Z]
  unfold isL at q
  have second : Q (.bl (decide (65 ≤ c) && decide (c ≤ 90))) H → (tChain (fun x y H Q => ∃ i j, x = .str i ∧ y = .str j ∧ Q (.bl (!decide (j.cps.toList < i.cps.toList))) H) (fun x y H Q => ∃ i j, x = .str i ∧ y = .str j ∧ Q (.bl (!decide (j.cps.toList < i.cps.toList))) H) (tC (.str ⟨#[65]⟩)) (tVar 0) (tC (.str ⟨#[90]⟩))) σ H Q := fun q => by
    refine ⟨_, hs, _, _, rfl, rfl, _, rfl, ?_⟩
    rw [le_sg5]
    by_cases h : 65 ≤ c
    · refine iteP h ⟨_, _, rfl, rfl, ?_⟩
      rw [ge_sg5]
      rw [decide_eq_true h, Bool.true_and] at q
      exact q
    · rw [decide_eq_false h, Bool.false_and] at q
      exact iteN h q
  refine ⟨_, hs, _, _, rfl, rfl, _, rfl, ?_⟩
  rw [le_sg5]
  by_cases h : 97 ≤ c
  · refine iteP h ⟨_, _, rfl, rfl, _, rfl, ?_⟩
    rw [ge_sg5]
    rw [decide_eq_true h, Bool.true_and] at q
    by_cases h2 : c ≤ 122
    · rw [decide_eq_true h2, Bool.true_or] at q
      exact iteP h2 q
    · rw [decide_eq_false h2, Bool.false_or] at q
      exact iteN h2 (second q)
  · rw [decide_eq_false h, Bool.false_and, Bool.false_or] at q
    exact iteN h ⟨_, rfl, second q⟩
theorem digit_read {c : Nat} {H : Hp} {Q : VK} {σ : L2.St} (hs : σ[0]? = some (some (.str ⟨#[c]⟩))) (q : Q (.bl (isD c)) H) :
    (tChain (fun x y H Q => ∃ i j, x = .str i ∧ y = .str j ∧ Q (.bl (!decide (j.cps.toList < i.cps.toList))) H) (fun x y H Q => ∃ i j, x = .str i ∧ y = .str j ∧ Q (.bl (!decide (j.cps.toList < i.cps.toList))) H) (tC (.str "0")) (tVar 0) (tC (.str "9"))) σ H Q := by
  rw [s_0, s_9]
  unfold isD at q
  refine ⟨_, hs, _, _, rfl, rfl, _, rfl, ?_⟩
  rw [le_sg5]
  by_cases h : 48 ≤ c
  · refine iteP h ⟨_, _, rfl, rfl, ?_⟩
    rw [ge_sg5]
    rw [decide_eq_true h, Bool.true_and] at q
    exact q
  · rw [decide_eq_false h, Bool.false_and] at q
    exact iteN h q
theorem ok_is_letter (F : Fun K "is_letter" "is_letter" s_is_letter f fd) : FnOk P w K mg base CX0 1 f fd ["sign"] (spLet isL) := by
  refine F.ok sc_is_letter (fun vs H Q E h => ?_) (fun cdv A outer s H vs Q E hr h => ?_)
  · obtain ⟨c, rfl, _⟩ := h
    rfl
  obtain ⟨c, rfl, q⟩ := h
  refine ⟨_, (pss_one (ps_ret (pe_or (pe_chain op_le_str op_le_str pe_str (pv 0) pe_str) (pe_one (pe_chain op_le_str op_le_str pe_str (pv 0) pe_str))))), ?_⟩
  exact letter_read rfl q
abbrev s_is_digit : Stmt := topS 10
abbrev N_is_digit : List Str := ["sign"]
theorem sc_is_digit : FnScope N_is_digit ["sign"] (defScope s_is_digit) := ⟨rfl, rfl, rfl, by decide +kernel, rfl, by decide +kernel, by decide +kernel⟩
theorem ok_is_digit (F : Fun K "is_digit" "is_digit" s_is_digit f fd) : FnOk P w K mg base CX0 1 f fd ["sign"] (spLet isD) := by
  refine F.ok sc_is_digit (fun vs H Q E h => ?_) (fun cdv A outer s H vs Q E hr h => ?_)
  · obtain ⟨c, rfl, _⟩ := h
    rfl
  obtain ⟨c, rfl, q⟩ := h
  refine ⟨_, (pss_one (ps_ret (pe_chain op_le_str op_le_str pe_str (pv 0) pe_str))), ?_⟩
  exact digit_read rfl q
abbrev s_line_end : Stmt := topS 4
abbrev N_line_end : List Str := ["text", "offset", "found"]
theorem sc_line_end : FnScope N_line_end ["text", "offset"] (defScope s_line_end) := ⟨rfl, rfl, rfl, by decide +kernel, rfl, by decide +kernel, by decide +kernel⟩
theorem ok_line_end (F : Fun K "line_end" "line_end" s_line_end f fd) (T : Nm5 K mg aW tS) : FnOk P w K mg base CX0 1 f fd ["text", "offset"] (spRun fun d => d != 10) := by
  refine F.ok sc_line_end (fun vs H Q E h => ?_) (fun cdv A outer s H vs Q E hr h => ?_)
  · obtain ⟨z, i, rfl, _⟩ := h
    rfl
  obtain ⟨z, i, rfl, hi, hz, q⟩ := h
  refine ⟨_, (pss_cons (ps_set (i := 2) sc_line_end.nd rfl (Or.inl rfl) (pe_bm PySem.F.plainAttrs_str PySem.F.slot_str_find PySem.F.type_str_find mt_find3 (pv 0) (pa_cons pe_str (pa_cons (pv 1) pa_nil))))
    (pss_one (ps_ret (pe_ifExp (pt_cmpR op_lt (pv 2) pe_int (nomark _)) (pe_callB call_len_str (by rfl) T.len PySem.boot_len (pa_cons (pv 0) pa_nil)) (pv 2))))), ?_⟩
  have e := len_tl z
  have k := run_le (p := fun d => d != 10) (l := tl z) hi
  refine ⟨_, rfl, rfl, _, rfl, z, ("\n" : Str), (i : Int), rfl, rfl, ?_⟩
  dsimp only
  rw [s_nl, find_run z 10 i hi]
  by_cases h : run (fun d => d != 10) (tl z) i < (tl z).length
  · rw [if_pos h]
    refine ⟨_, rfl, _, _, rfl, rfl, _, rfl, iteN (by omega) ⟨_, rfl, q⟩⟩
  · rw [if_neg h]
    refine ⟨_, rfl, _, _, rfl, rfl, _, rfl, iteP (by decide) ⟨_, rfl, z, rfl, small hz, ?_⟩⟩
    rw [e, show (tl z).length = run (fun d => d != 10) (tl z) i by omega]
    exact q
abbrev s_word_end : Stmt := topS 11
abbrev N_word_end : List Str := ["text", "start", "end"]
theorem sc_word_end : FnScope N_word_end ["text", "start"] (defScope s_word_end) := ⟨rfl, rfl, rfl, by decide +kernel, rfl, by decide +kernel, by decide +kernel⟩
theorem ok_word_end (F : Fun K "word_end" "word_end" s_word_end f fd) (T : Nm5 K mg aW tS) (C_is_letter : Cal P w K mg base CX0 1 "is_letter" (spLet isL)) (C_is_digit : Cal P w K mg base CX0 1 "is_digit" (spLet isD)) : FnOk P w K mg base CX0 2 f fd ["text", "start"] (spRun isW) := by
  refine F.ok sc_word_end (fun vs H Q E h => ?_) (fun cdv A outer s H vs Q E hr h => ?_)
  · obtain ⟨z, i, rfl, _⟩ := h
    rfl
  obtain ⟨z, i, rfl, hi, hz, q⟩ := h
  refine ⟨_, (pss_cons (ps_set (i := 2) sc_word_end.nd rfl (Or.inl rfl) (pv 1))
    (pss_cons (ps_while PassesOwn.never (PW.pt (pw_and (pt_cmpR op_lt (pv 2) (pe_callB call_len_str (by rfl) T.len PySem.boot_len (pa_cons (pv 0) pa_nil)) (nomark _)) (pw_and1 (PW.pt (pw_or (pt_val (pe_c C_is_letter hr (by first | decide | omega) pass0 (pa_cons (pe_item_str (pv 0) (pv 2) (fun _ _ => rfl)) pa_nil))) (pw_or (pt_val (pe_c C_is_digit hr (by first | decide | omega) pass0 (pa_cons (pe_item_str (pv 0) (pv 2) (fun _ _ => rfl)) pa_nil))) (pw_or1 (pt_cmpR op_eq (pe_item_str (pv 0) (pv 2) (fun _ _ => rfl)) pe_str (nomark _))))))))) (pss_one (ps_aug (i := 2) sc_word_end.nd rfl (Or.inl rfl) pe_int ip_add)))
    (pss_one (ps_ret (pv 2))))), ?_⟩
  have e := len_tl z
  refine ⟨_, rfl, while_m (fun σ H' => H' = H ∧ ∃ j : Nat, σ = [some (.str z), some (.int (i : Int)), some (.int (j : Int))] ∧ j ≤ (tl z).length ∧ run isW (tl z) i = run isW (tl z) j)
    (fun σ _ => match σ with | [_, _, some (.int j)] => (tl z).length - j.toNat | _ => 0) ⟨rfl, i, rfl, hi, rfl⟩ ?_⟩
  rintro σ H' ⟨rfl, j, rfl, hj, hr⟩
  have stop : run isW (tl z) j = j → Q (.int (j : Int)) H' := fun k => by
    rw [hr, k] at q
    exact q
  refine ⟨_, rfl, _, rfl, z, rfl, small hz, _, _, rfl, rfl, _, rfl, ?_⟩
  by_cases h : j < (tl z).length
  · refine iteP (show (j : Int) < (z.length : Int) by omega) ?_
    have hg := List.getElem?_eq_getElem h
    generalize (tl z)[j] = c at hg
    obtain ⟨i1, i2, i3, i4⟩ := item_of hg hz
    have again : isW c = true → H' = H' ∧ (∃ j' : Nat, [some (V.str z), some (.int (i : Int)), some (.int ((j : Int) + 1))] = [some (V.str z), some (.int (i : Int)), some (.int (j' : Int))] ∧ j' ≤ (tl z).length ∧ run isW (tl z) i = run isW (tl z) j') := fun hw =>
      ⟨rfl, j + 1, rfl, h, by rw [hr, run_step hg hw]⟩
    have less : (tl z).length - ((j : Int) + 1).toNat < (tl z).length - ((j : Int)).toNat := by omega
    refine ⟨_, rfl, _, rfl, z, (j : Int), c, rfl, rfl, i1, i2, i3, i4, c, rfl, _, rfl, ?_⟩
    by_cases w1 : isL c = true
    · rw [w1]
      refine wN ⟨_, rfl, _, _, rfl, rfl, ?_⟩
      exact ⟨again (by unfold isW; rw [w1]; rfl), less⟩
    rw [Bool.eq_false_iff.mpr w1]
    refine ⟨_, rfl, _, rfl, z, (j : Int), c, rfl, rfl, i1, i2, i3, i4, c, rfl, _, rfl, ?_⟩
    by_cases w2 : isD c = true
    · rw [w2]
      refine wN ⟨_, rfl, _, _, rfl, rfl, ?_⟩
      exact ⟨again (by unfold isW; rw [w2, Bool.true_or, Bool.or_true]), less⟩
    rw [Bool.eq_false_iff.mpr w2]
    refine ⟨_, rfl, _, rfl, z, (j : Int), c, rfl, rfl, i1, i2, i3, i4, rfl, _, rfl, ?_⟩
    rw [s_us]
    by_cases w3 : c = 95
    · refine iteP (one5.mpr w3) ?_
      refine wN ⟨_, rfl, _, _, rfl, rfl, ?_⟩
      exact ⟨again (by rw [w3]; rfl), less⟩
    · refine iteN (fun k => w3 (one5.mp k)) ?_
      refine ⟨_, rfl, stop (run_stop hg ?_)⟩
      unfold isW
      rw [Bool.eq_false_iff.mpr w1, Bool.eq_false_iff.mpr w2]
      simpa using w3
  · refine iteN (show ¬ (j : Int) < (z.length : Int) by omega) ?_
    exact ⟨_, rfl, stop (run_end (by omega))⟩
abbrev s_digits_end : Stmt := topS 12
abbrev N_digits_end : List Str := ["text", "start", "end"]
theorem sc_digits_end : FnScope N_digits_end ["text", "start"] (defScope s_digits_end) := ⟨rfl, rfl, rfl, by decide +kernel, rfl, by decide +kernel, by decide +kernel⟩
theorem ok_digits_end (F : Fun K "digits_end" "digits_end" s_digits_end f fd) (T : Nm5 K mg aW tS) (C_is_digit : Cal P w K mg base CX0 1 "is_digit" (spLet isD)) : FnOk P w K mg base CX0 2 f fd ["text", "start"] (spRun isD) := by
  refine F.ok sc_digits_end (fun vs H Q E h => ?_) (fun cdv A outer s H vs Q E hr h => ?_)
  · obtain ⟨z, i, rfl, _⟩ := h
    rfl
  obtain ⟨z, i, rfl, hi, hz, q⟩ := h
  refine ⟨_, (pss_cons (ps_set (i := 2) sc_digits_end.nd rfl (Or.inl rfl) (pv 1))
    (pss_cons (ps_while PassesOwn.never (PW.pt (pw_and (pt_cmpR op_lt (pv 2) (pe_callB call_len_str (by rfl) T.len PySem.boot_len (pa_cons (pv 0) pa_nil)) (nomark _)) (pw_and1 (pt_val (pe_c C_is_digit hr (by first | decide | omega) pass0 (pa_cons (pe_item_str (pv 0) (pv 2) (fun _ _ => rfl)) pa_nil)))))) (pss_one (ps_aug (i := 2) sc_digits_end.nd rfl (Or.inl rfl) pe_int ip_add)))
    (pss_one (ps_ret (pv 2))))), ?_⟩
  have e := len_tl z
  refine ⟨_, rfl, while_m (fun σ H' => H' = H ∧ ∃ j : Nat, σ = [some (.str z), some (.int (i : Int)), some (.int (j : Int))] ∧ j ≤ (tl z).length ∧ run isD (tl z) i = run isD (tl z) j)
    (fun σ _ => match σ with | [_, _, some (.int j)] => (tl z).length - j.toNat | _ => 0) ⟨rfl, i, rfl, hi, rfl⟩ ?_⟩
  rintro σ H' ⟨rfl, j, rfl, hj, hr⟩
  have stop : run isD (tl z) j = j → Q (.int (j : Int)) H' := fun k => by
    rw [hr, k] at q
    exact q
  refine ⟨_, rfl, _, rfl, z, rfl, small hz, _, _, rfl, rfl, _, rfl, ?_⟩
  by_cases h : j < (tl z).length
  · refine iteP (show (j : Int) < (z.length : Int) by omega) ?_
    have hg := List.getElem?_eq_getElem h
    generalize (tl z)[j] = c at hg
    obtain ⟨i1, i2, i3, i4⟩ := item_of hg hz
    refine ⟨_, rfl, _, rfl, z, (j : Int), c, rfl, rfl, i1, i2, i3, i4, c, rfl, _, rfl, ?_⟩
    by_cases w1 : isD c = true
    · rw [w1]
      refine wN ⟨_, rfl, _, _, rfl, rfl, ?_⟩
      exact ⟨⟨rfl, j + 1, rfl, h, by rw [hr, run_step hg w1]⟩, (by show (tl z).length - ((j : Int) + 1).toNat < (tl z).length - ((j : Int)).toNat; omega)⟩
    rw [Bool.eq_false_iff.mpr w1]
    exact ⟨_, rfl, stop (run_stop hg (Bool.eq_false_iff.mpr w1))⟩
  · refine iteN (show ¬ (j : Int) < (z.length : Int) by omega) ?_
    exact ⟨_, rfl, stop (run_end (by omega))⟩
end

end Sn

namespace Sn
open PySem PySem.Spec PyProof.Rows L2 TL
section
variable {P : Program} {w : World} {K : PySem.W.Frag} {mg : Str → Option Value} {base : Heap} {f : Addr} {fd : FuncData} {aW : Addr} {tS : PySem.Tok}
theorem tok_L {l : List Nat} {i c : Nat} (h : isL c = true) : tokC l i c = (if inV (.str (strL ((l.drop i).take (run isW l i - i)))) (wds.map V.str) = true then ("word" : Str) else ("name" : Str), i, run isW l i) := by
  unfold tokC
  rw [if_pos h]
theorem tok_D {l : List Nat} {i c : Nat} (h : isL c = false) (h2 : isD c = true) : tokC l i c = (("number" : Str), i, run isD l i) := by
  unfold tokC
  rw [h, if_neg Bool.false_ne_true, if_pos h2]
theorem tok_E {l : List Nat} {i c : Nat} (h : isL c = false) (h2 : isD c = false) (h3 : (l.drop i).take 2 = [61, 61]) : tokC l i c = (("sign" : Str), i, i + 2) := by
  unfold tokC
  rw [h, if_neg Bool.false_ne_true, h2, if_neg Bool.false_ne_true, if_pos h3]
theorem tok_S {l : List Nat} {i c : Nat} (h : isL c = false) (h2 : isD c = false) (h3 : ¬ (l.drop i).take 2 = [61, 61]) : tokC l i c = (if c ∈ tl sgs then ("sign" : Str) else ("wrong" : Str), i, i + 1) := by
  unfold tokC
  rw [h, if_neg Bool.false_ne_true, h2, if_neg Bool.false_ne_true, if_neg h3]
theorem cut_eq (z : Str) (i e : Nat) (h : i ≤ (tl z).length) : cutS z (some (i : Int)) (some (e : Int)) = strL (((tl z).drop i).take (e - i)) := ext_tl (tl_cut_mid z i e h)
theorem wds_flat : (wds.map V.str).all flatV = true := by decide +kernel
abbrev s_token_at : Stmt := topS 13
abbrev N_token_at : List Str := ["text", "start", "sign", "end"]
theorem sc_token_at : FnScope N_token_at ["text", "start"] (defScope s_token_at) := ⟨rfl, rfl, rfl, by decide +kernel, rfl, by decide +kernel, by decide +kernel⟩
theorem ok_token_at (F : Fun K "token_at" "token_at" s_token_at f fd) (T : Nm5 K mg aW tS) (C_is_letter : Cal P w K mg base CX0 1 "is_letter" (spLet isL)) (C_is_digit : Cal P w K mg base CX0 1 "is_digit" (spLet isD))
    (C_word_end : Cal P w K mg base CX0 2 "word_end" (spRun isW)) (C_digits_end : Cal P w K mg base CX0 2 "digits_end" (spRun isD)) : FnOk P w K mg base CX0 3 f fd ["text", "start"] spTokAt := by
  refine F.ok sc_token_at (fun vs H Q E h => ?_) (fun cdv A outer s H vs Q E hr h => ?_)
  · obtain ⟨z, i, c, rfl, _⟩ := h
    rfl
  obtain ⟨z, i, c, rfl, hc, hz, q⟩ := h
  refine ⟨_, (pss_cons (ps_set (i := 2) sc_token_at.nd rfl (Or.inl rfl) (pe_item_str (pv 0) (pv 1) (fun _ _ => rfl)))
    (pss_cons (ps_if (pt_val (pe_c C_is_letter hr (by first | decide | omega) pass0 (pa_cons (pv 2) pa_nil))) (pss_cons (ps_set (i := 3) sc_token_at.nd rfl (Or.inl rfl) (pe_c C_word_end hr (by first | decide | omega) pass0 (pa_cons (pv 0) (pa_cons (pv 1) pa_nil))))
    (pss_one (ps_ret (pe_tup (pa_cons (pe_ifExp (pt_cmpR op_in_seq (pe_slice sl_str (pv 0) (po_some (pv 1)) (po_some (pv 3))) (pe_glob (v := .ref aW) (by rfl) T.g_WORDS rfl) (by rfl)) pe_str pe_str) (pa_cons (pv 1) (pa_cons (pv 3) pa_nil))))))) pss_nil)
    (pss_cons (ps_if (pt_val (pe_c C_is_digit hr (by first | decide | omega) pass0 (pa_cons (pv 2) pa_nil))) (pss_one (ps_ret (pe_tup (pa_cons pe_str (pa_cons (pv 1) (pa_cons (pe_c C_digits_end hr (by first | decide | omega) pass0 (pa_cons (pv 0) (pa_cons (pv 1) pa_nil))) pa_nil)))))) pss_nil)
    (pss_cons (ps_if (pt_cmpR op_eq (pe_slice sl_str (pv 0) (po_some (pv 1)) (po_some (pe_op op_add (pv 1) pe_int))) pe_str (nomark _)) (pss_one (ps_ret (pe_tup (pa_cons pe_str (pa_cons (pv 1) (pa_cons (pe_op op_add (pv 1) pe_int) pa_nil)))))) pss_nil)
    (pss_one (ps_ret (pe_tup (pa_cons (pe_ifExp (pt_cmpR op_in_sign (pv 2) (pe_glob (v := .str "()[],:.=<+-*/") (by rfl) T.g_SIGNS ⟨_, rfl⟩) (by rfl)) pe_str pe_str) (pa_cons (pv 1) (pa_cons (pe_op op_add (pv 1) pe_int) pa_nil)))))))))), ?_⟩
  have e := len_tl z
  have hi := toNat_lt hc
  obtain ⟨i1, i2, i3, i4⟩ := item_of hc hz
  have fin : ∀ (x : Tok) (p : Addr), tokC (tl z) i c = x → H p = none → Q (.ref p) (upd H p (.tup (tkV x))) := fun x p ex np => q p _ (same_new np) np (by rw [upd_same, ex])
  refine ⟨_, rfl, _, rfl, z, (i : Int), c, rfl, rfl, i1, i2, i3, i4, ?_⟩
  refine ⟨_, rfl, c, rfl, _, rfl, ?_⟩
  by_cases w1 : isL c = true
  · rw [w1]
    refine ⟨_, rfl, _, rfl, z, i, rfl, by omega, hz, ?_⟩
    have r1 := run_ge isW (tl z) i
    refine ⟨_, rfl, _, rfl, _, rfl, _, rfl, _, rfl, z, rfl, small hz, aW, _, rfl, .inr (.inr T.wt), rfl, wds_flat, _, rfl, ?_⟩
    rw [cut_eq z i _ (by omega)]
    have ex := tok_L (l := tl z) (i := i) w1
    refine ite2 (fun k => ?_) (fun k => ?_)
    · have k : inV (.str (strL (((tl z).drop i).take (run isW (tl z) i - i)))) (wds.map V.str) = true := k
      rw [if_pos k] at ex
      exact ⟨_, rfl, _, rfl, (by show 3 ≤ sizeLine; decide), fun p np => fin _ p ex np⟩
    · have k : ¬ inV (.str (strL (((tl z).drop i).take (run isW (tl z) i - i)))) (wds.map V.str) = true := k
      rw [if_neg k] at ex
      exact ⟨_, rfl, _, rfl, (by show 3 ≤ sizeLine; decide), fun p np => fin _ p ex np⟩
  have w1 := Bool.eq_false_iff.mpr w1
  rw [w1]
  refine ⟨_, rfl, c, rfl, _, rfl, ?_⟩
  by_cases w2 : isD c = true
  · rw [w2]
    refine ⟨_, rfl, _, rfl, _, rfl, z, i, rfl, by omega, hz, (by show 3 ≤ sizeLine; decide), fun p np => fin _ p (tok_D w1 w2) np⟩
  have w2 := Bool.eq_false_iff.mpr w2
  rw [w2]
  refine ⟨_, rfl, _, rfl, _, rfl, _, rfl, _, _, rfl, rfl, _, rfl, z, rfl, small hz, rfl, _, rfl, ?_⟩
  dsimp only
  rw [show (i : Int) + 2 = ((i + 2 : Nat) : Int) by omega, cut_eq z i _ (by omega), show i + 2 - i = 2 by omega, s_eq2]
  by_cases w3 : ((tl z).drop i).take 2 = [61, 61]
  · refine iteP (str_L.mpr w3) ?_
    exact ⟨_, rfl, _, rfl, _, _, rfl, rfl, (by show 3 ≤ sizeLine; decide), fun p np => fin _ p (tok_E w1 w2 w3) np⟩
  · refine iteN (fun k => w3 (str_L.mp k)) ?_
    refine ⟨_, rfl, c, sgs, rfl, rfl, _, rfl, ?_⟩
    have ex := tok_S w1 w2 w3
    by_cases w4 : c ∈ tl sgs
    · rw [if_pos w4] at ex
      refine iteP w4 ?_
      exact ⟨_, rfl, _, rfl, _, _, rfl, rfl, (by show 3 ≤ sizeLine; decide), fun p np => fin _ p ex np⟩
    · rw [if_neg w4] at ex
      refine iteN w4 ?_
      exact ⟨_, rfl, _, rfl, _, _, rfl, rfl, (by show 3 ≤ sizeLine; decide), fun p np => fin _ p ex np⟩
theorem toks_len {l : List Nat} {a e : Nat} : (toks l a e).length ≤ e := by
  have k : ∀ (s : List Nat) (a b : Nat) (cm : Bool), (scan l s a b cm).length ≤ s.length := by
    intro s
    induction s with
    | nil => exact fun _ _ _ => Nat.le_refl _
    | cons c r ih =>
      intro a b cm
      show (if _ then _ else _ : List Tok).length ≤ r.length + 1
      split
      · exact Nat.le_succ_of_le (ih _ _ _)
      · split
        · exact Nat.le_succ_of_le (ih _ _ _)
        · exact Nat.succ_le_succ (ih _ _ _)
  have := k ((l.take e).drop a) a 0 false
  rw [List.length_drop, List.length_take] at this
  unfold toks
  omega
abbrev s_tokens_between : Stmt := topS 14
abbrev N_tokens_between : List Str := ["text", "start", "end", "found", "at", "token"]
theorem sc_tokens_between : FnScope N_tokens_between ["text", "start", "end"] (defScope s_tokens_between) := ⟨rfl, rfl, rfl, by decide +kernel, rfl, by decide +kernel, by decide +kernel⟩
theorem ok_tokens_between (F : Fun K "tokens_between" "tokens_between" s_tokens_between f fd) (T : Nm5 K mg aW tS) (C_line_end : Cal P w K mg base CX0 1 "line_end" (spRun fun d => d != 10)) (C_token_at : Cal P w K mg base CX0 3 "token_at" spTokAt) :
    FnOk P w K mg base CX0 4 f fd ["text", "start", "end"] spBetween := by
  refine F.ok sc_tokens_between (fun vs H Q E h => ?_) (fun cdv A outer s H vs Q E hr h => ?_)
  · obtain ⟨z, a0, e, rfl, _⟩ := h
    rfl
  obtain ⟨z, a0, e, rfl, he, hz, q⟩ := h
  refine ⟨_, (pss_cons (ps_set (i := 3) sc_tokens_between.nd rfl (Or.inl rfl) (pe_lst pa_nil))
    (pss_cons (ps_set (i := 4) sc_tokens_between.nd rfl (Or.inl rfl) (pv 1))
    (pss_cons (ps_while PassesOwn.never (pt_cmpR op_lt (pv 4) (pv 2) (nomark _)) (pss_one (ps_if (PW.pt (pw_or (pt_cmpR op_eq (pe_item_str (pv 0) (pv 4) (fun _ _ => rfl)) pe_str (nomark _)) (pw_or1 (pt_cmpR op_eq (pe_item_str (pv 0) (pv 4) (fun _ _ => rfl)) pe_str (nomark _))))) (pss_one (ps_aug (i := 4) sc_tokens_between.nd rfl (Or.inl rfl) pe_int ip_add)) (pss_one (ps_if (pt_cmpR op_eq (pe_item_str (pv 0) (pv 4) (fun _ _ => rfl)) pe_str (nomark _)) (pss_one (ps_set (i := 4) sc_tokens_between.nd rfl (Or.inl rfl) (pe_c C_line_end hr (by first | decide | omega) pass0 (pa_cons (pv 0) (pa_cons (pv 4) pa_nil))))) (pss_cons (ps_set (i := 5) sc_tokens_between.nd rfl (Or.inl rfl) (pe_c C_token_at hr (by first | decide | omega) pass0 (pa_cons (pv 0) (pa_cons (pv 4) pa_nil))))
    (pss_cons (ps_expr (pe_bm PySem.F.plainAttrs_list PySem.F.slot_list_append PySem.F.type_list_append mt_append (pv 3) (pa_cons (pv 5) pa_nil)))
    (pss_one (ps_set (i := 4) sc_tokens_between.nd rfl (Or.inl rfl) (pe_ix (r := rIxT K) ix_tup (pv 5) pe_int (fun _ _ => rfl)))))))))))
    (pss_one (ps_ret (pv 3)))))), ?_⟩
  have el := len_tl z
  refine ⟨Nat.zero_le _, fun L nL => ?_⟩
  refine ⟨_, rfl, while_m (fun σ H' => ∃ (a : Nat) (v5 : Option V) (pre : List Tok), σ = [some (.str z), some (.int (a0 : Int)), some (.int (e : Int)), some (.ref L), some (.int (a : Int)), v5] ∧ Same H H' ∧ LT H' L (pre.map tkV) ∧ toks (tl z) a0 e = pre ++ toks (tl z) a e)
    (fun σ _ => match σ with | [_, _, _, _, some (.int j), _] => e - j.toNat | _ => 0) ⟨a0, none, [], rfl, same_new nL, ⟨[], upd_same, rfl, fun _ _ _ h _ => by simp at h⟩, rfl⟩ ?_⟩
  rintro σ H1 ⟨a, v5, pre, rfl, sm, lt, ht⟩
  refine ⟨_, rfl, _, rfl, _, _, rfl, rfl, _, rfl, ?_⟩
  by_cases h : a < e
  rotate_left
  · refine iteN (by omega) ⟨_, rfl, ?_⟩
    rw [toks_end (l := tl z) (a := a) (e := e) (by omega), List.append_nil] at ht
    rw [← ht] at lt
    exact q L H1 sm nL lt
  refine iteP (by omega) ?_
  have hal : a < (tl z).length := by omega
  have hg := List.getElem?_eq_getElem hal
  generalize (tl z)[a] = c at hg
  obtain ⟨i1, i2, i3, i4⟩ := item_of hg hz
  refine wN ?_
  -- a blank
  have blank : (c = 32 ∨ c = 10) → (∃ (a' : Nat) (v5' : Option V) (pre' : List Tok), [some (V.str z), some (.int (a0 : Int)), some (.int (e : Int)), some (.ref L), some (.int ((a : Int) + 1)), v5] = [some (V.str z), some (.int (a0 : Int)), some (.int (e : Int)), some (.ref L), some (.int (a' : Int)), v5'] ∧
      Same H H1 ∧ LT H1 L (pre'.map tkV) ∧ toks (tl z) a0 e = pre' ++ toks (tl z) a' e) ∧ e - ((a : Int) + 1).toNat < e - ((a : Int)).toNat := fun hb =>
    ⟨⟨a + 1, v5, pre, rfl, sm, lt, by rw [ht, toks_blank he h hg hb]⟩, by omega⟩
  refine ⟨_, rfl, _, rfl, z, (a : Int), c, rfl, rfl, i1, i2, i3, i4, rfl, _, rfl, ?_⟩
  rw [s_sp, s_nl, s_ha]
  by_cases b1 : c = 32
  · refine iteP (one5.mpr b1) ?_
    exact ⟨_, rfl, _, _, rfl, rfl, blank (.inl b1)⟩
  refine iteN (fun k => b1 (one5.mp k)) ?_
  refine ⟨_, rfl, _, rfl, z, (a : Int), c, rfl, rfl, i1, i2, i3, i4, rfl, _, rfl, ?_⟩
  by_cases b2 : c = 10
  · refine iteP (one5.mpr b2) ?_
    exact ⟨_, rfl, _, _, rfl, rfl, blank (.inr b2)⟩
  refine iteN (fun k => b2 (one5.mp k)) ?_
  refine ⟨_, rfl, _, rfl, z, (a : Int), c, rfl, rfl, i1, i2, i3, i4, rfl, _, rfl, ?_⟩
  by_cases b3 : c = 35
  · refine iteP (one5.mpr b3) ?_
    subst b3
    refine ⟨_, rfl, _, rfl, z, a, rfl, by omega, hz, ?_⟩
    have r1 : run (fun d => d != 10) (tl z) a = run (fun d => d != 10) (tl z) (a + 1) := run_step hg rfl
    have r2 := run_ge (fun d => d != 10) (tl z) (a + 1)
    refine ⟨⟨run (fun d => d != 10) (tl z) a, v5, pre, rfl, sm, lt, by rw [ht, toks_note he h hg]⟩, ?_⟩
    show e - ((run (fun d => d != 10) (tl z) a : Nat) : Int).toNat < e - ((a : Int)).toNat
    omega
  refine iteN (fun k => b3 (one5.mp k)) ?_
  refine ⟨_, rfl, _, rfl, z, a, c, rfl, hg, hz, fun p H2 s2 np hp => ?_⟩
  obtain ⟨t1, t2⟩ := tok_end hg
  obtain ⟨ys, h1, h2, h3⟩ := (lt.same s2).push hp
  have plen : pre.length ≤ (toks (tl z) a0 e).length := by
    rw [ht, List.length_append]
    omega
  have tlen := toks_len (l := tl z) (a := a0) (e := e)
  have Lp : p ≠ L := ne_of hp h1 (by intro z; cases z)
  refine ⟨_, rfl, .inl ⟨rfl, _, SqL.of h1⟩, _, rfl, L, ys, _, rfl, rfl, h1, Nat.lt_of_le_of_lt (show ys.length ≤ 1000000 by rw [h2, List.length_map]; omega) (by decide), ?_⟩
  refine ⟨_, rfl, p, _, 2, _, rfl, rfl, .inl (.inl (by rw [upd_ne Lp]; exact hp)), rfl, ?_⟩
  refine ⟨⟨(tokC (tl z) a c).2.2, _, pre ++ [tokC (tl z) a c], rfl, fun b o eb => ?_, ?_, ?_⟩, ?_⟩
  · rw [upd_ne (ne_of_none eb nL)]
    exact s2 _ _ (sm _ _ eb)
  · rw [List.map_append]
    exact h3
  · rw [ht, toks_tok he h hg (fun k => k.elim b1 b2) b3, List.append_assoc]
    rfl
  · show e - ((((tokC (tl z) a c).2.2 : Nat) : Int)).toNat < e - ((a : Int)).toNat
    omega
/-- tokens, as data -/
def tokD (x : Tok) : PyData := .tuple [.str x.1, .int (x.2.1 : Int), .int (x.2.2 : Int)]
theorem lt_dpAll {H : Hp} : ∀ {rs : List Addr} {ts : List Tok}, rs.length = ts.length → (∀ (i : Nat) (r : Addr) (xs : List V), rs[i]? = some r → (ts.map tkV)[i]? = some xs → H r = some (.tup xs)) → DpAll K H (rs.map V.ref) (ts.map tokD)
  | [], [], _, _ => .nil
  | r :: rs, t :: ts, h, k => .cons (.tup (.inl (.inl (k 0 r (tkV t) rfl rfl))) (.cons (.str _) (.cons (.int _) (.cons (.int _) .nil)))) (lt_dpAll (by simpa using h) fun i => k (i + 1))
theorem lt_dp {H : Hp} {p : Addr} {ts : List Tok} (h : LT H p (ts.map tkV)) : Dp K H (.ref p) (.list (ts.map tokD)) := by
  obtain ⟨rs, h1, h2, h3⟩ := h
  exact .lst (.inl (.inl h1)) (lt_dpAll (by rw [h2, List.length_map]) h3)
theorem sort_ok (l : List Nat) (i c : Nat) : PyData.strOk (tokC l i c).1 = true := by
  have k1 : PyData.strOk ("word" : Str) = true := by decide +kernel
  have k2 : PyData.strOk ("name" : Str) = true := by decide +kernel
  have k3 : PyData.strOk ("number" : Str) = true := by decide +kernel
  have k4 : PyData.strOk ("sign" : Str) = true := by decide +kernel
  have k5 : PyData.strOk ("wrong" : Str) = true := by decide +kernel
  unfold tokC
  split
  · show PyData.strOk (if _ then _ else _) = true
    split <;> assumption
  · split
    · exact k3
    · split
      · exact k4
      · show PyData.strOk (if _ then _ else _) = true
        split <;> assumption
theorem toks_ok {l : List Nat} {a e : Nat} : ∀ x ∈ toks l a e, PyData.strOk x.1 = true := by
  have k : ∀ (s : List Nat) (a b : Nat) (cm : Bool), ∀ x ∈ scan l s a b cm, PyData.strOk x.1 = true := by
    intro s
    induction s with
    | nil => exact fun _ _ _ x h => nomatch h
    | cons c r ih =>
      intro a b cm x hx
      have hx : x ∈ (if a < b ∨ (cm = true ∧ c ≠ 10) ∨ c = 32 ∨ c = 10 then scan l r (a + 1) b (cm && c != 10) else if c = 35 then scan l r (a + 1) b true else tokC l a c :: scan l r (a + 1) (tokC l a c).2.2 false) := hx
      split at hx
      · exact ih _ _ _ x hx
      · split at hx
        · exact ih _ _ _ x hx
        · rcases List.mem_cons.mp hx with hx | hx
          · rw [hx]
            exact sort_ok l a c
          · exact ih _ _ _ x hx
  exact fun x hx => k _ _ _ _ x hx
theorem toks_shaped {ts : List Tok} (h : ∀ x ∈ ts, PyData.strOk x.1 = true) : SeqAt.shaped (.list (ts.map tokD)) = true := by
  have c : ∀ {l : List Tok}, (∀ x ∈ l, PyData.strOk x.1 = true) → PyData.canLayAll0 (l.map tokD) = true := by
    intro l
    induction l with
    | nil => exact fun _ => rfl
    | cons x r ih =>
      intro h
      have h1 := h x List.mem_cons_self
      have h2 := ih fun y hy => h y (List.mem_cons_of_mem _ hy)
      show (PyData.canLay0 (tokD x) && PyData.canLayAll0 (r.map tokD)) = true
      rw [h2, Bool.and_true]
      show (PyData.strOk x.1 && (true && (true && true))) = true
      rw [h1]
      rfl
  have d : ∀ {l : List Tok}, PyData.depthAll (l.map tokD) ≤ 1 := by
    intro l
    induction l with
    | nil => exact Nat.zero_le _
    | cons x r ih =>
      show max (PyData.depth (tokD x)) (PyData.depthAll (r.map tokD)) ≤ 1
      have : PyData.depth (tokD x) = 1 := rfl
      omega
  show (PyData.canLay0 (.list (ts.map tokD)) && decide (PyData.depth (.list (ts.map tokD)) ≤ 64)) = true
  have h1 : PyData.canLay0 (.list (ts.map tokD)) = true := c h
  have h2 : PyData.depth (.list (ts.map tokD)) ≤ 64 := by
    show PyData.depthAll (ts.map tokD) + 1 ≤ 64
    have := d (l := ts)
    omega
  rw [h1, decide_eq_true h2]
  rfl
/-- is it one name, and nothing else -/
def nameB (z : Str) : Bool := PyData.eqv (.list ((toks (tl z) 0 (tl z).length).map tokD)) (.list [.tuple [.str "name", .int 0, .int (z.length : Int)]])
def spIsName : Sp := fun vs H Q _ => ∃ z : Str, vs = [.str z] ∧ z.length ≤ 1000000 ∧ ∀ H', Same H H' → Q (.bl (nameB z)) H'
theorem name_shaped (n : Int) : SeqAt.shaped (.list [.tuple [.str "name", .int 0, .int n]]) = true := by
  have k2 : PyData.strOk ("name" : Str) = true := by decide +kernel
  show (((PyData.strOk ("name" : Str) && (true && (true && true))) && true) && decide (PyData.depth (.list [.tuple [.str "name", .int 0, .int n]]) ≤ 64)) = true
  rw [k2]
  rfl
end

end Sn

namespace Sn
open PySem PySem.Spec PyProof.Rows L2 TL
/-! ### the reader -/
abbrev ns_Reader : List Str := ["source", "row", "at", "depth"]
structure NmR (K : PySem.W.Frag) (w : World) (mg : Str → Option Value) (aW : Addr) (tS : PySem.Tok) (CR CS aR : Addr) (t0 t1 t2 t3 t4 t5 t6 : PySem.Tok) : Prop extends Nm5 K mg aW tS where
  cl_Reader : Cls K CR
  n_source : NoAttr K CR "source"
  n_row : NoAttr K CR "row"
  n_at : NoAttr K CR "at"
  n_depth : NoAttr K CR "depth"
  mk_Reader : mg "Reader" = some (.ref CR)
  g_MOST_TOKENS : mg "MOST_TOKENS" = some (.int 300 t0)
  g_DEEPEST : mg "DEEPEST" = some (.int 30 t1)
  g_LOWEST : mg "LOWEST" = some (.int 1 t2)
  g_NEGATION : mg "NEGATION" = some (.int 3 t3)
  g_COMPARISON : mg "COMPARISON" = some (.int 4 t4)
  g_HIGHEST_parser : mg "HIGHEST_parser" = some (.int 6 t5)
  g_NUMBERS : mg "NUMBERS" = some (.int 4294967296 t6)
  g_RANKS : mg "RANKS" = some (.ref aR)
  kd : KdAt K w aR
  ranks : ∀ l : List Nat, ∃ r : Option V, KdGet K aR (strL l) r ∧ r.getD (.int 0) = .int ((Src.rank l : Nat) : Int) ∧ (0 < Src.rank l → KDct K w aR (strL l) (.int ((Src.rank l : Nat) : Int)))
  oex : OexC K CS
  mgS : mg "SyntaxProblem" = some (.ref CS)
  s_start : PySem.W.findIn K (.ref CS) "start" = some none
  s_end : PySem.W.findIn K (.ref CS) "end" = some none
/-- the attributes -/
def rf (z : Str) (r : Addr) (a d : Int) : List (Str × V) := [("source", .str z), ("row", .ref r), ("at", .int a), ("depth", .int d)]
theorem rf_source {z r a d} : (rf z r a d).lookup ("source" : Str) = some (V.str z) := by kernel_rfl
theorem rf_row {z r a d} : (rf z r a d).lookup ("row" : Str) = some (V.ref r) := by kernel_rfl
theorem rf_at {z r a d} : (rf z r a d).lookup ("at" : Str) = some (V.int a) := by kernel_rfl
theorem rf_depth {z r a d} : (rf z r a d).lookup ("depth" : Str) = some (V.int d) := by kernel_rfl
theorem rf_at' {z r a d x} : putF "at" (.int x) (rf z r a d) = rf z r x d := by kernel_rfl
theorem rf_depth' {z r a d x} : putF "depth" (.int x) (rf z r a d) = rf z r a x := by kernel_rfl
def Raw (C : Addr) (H : Hp) (p : Addr) (z : Str) (r : Addr) (a d : Int) : Prop := ∃ dx, H p = some (.ins C dx (rf z r a d))
theorem Raw.isI {C : Addr} {H : Hp} {p : Addr} {z : Str} {r : Addr} {a d : Int} (h : Raw C H p z r a d) : IsI H C p ns_Reader := let ⟨dx, e⟩ := h; ⟨dx, _, e, rfl⟩
/-- the words of numbers are digits -/
def Nums (S : Src) : Prop := ∀ a, S.so a = "number" → (S.wd a).all isD = true
/-- a reader of these tokens, at this one, inside of so many -/
structure Rd (C : Addr) (H : Hp) (p : Addr) (S : Src) (a d : Nat) : Prop where
  ex : ∃ z, tl z = S.l ∧ Raw C H p z S.r a d ∧ LT H S.r (S.ts.map tkV)
  hl : S.l.length ≤ 100000
  hn : S.n ≤ 100000
  ha : a ≤ S.n
  pl : ∀ t ∈ S.ts, t.2.1 ≤ t.2.2 ∧ t.2.2 ≤ S.l.length
  nu : Nums S
theorem Rd.isI {C : Addr} {H : Hp} {p : Addr} {S : Src} {a d : Nat} (R : Rd C H p S a d) : IsI H C p ns_Reader := let ⟨_, _, h, _⟩ := R.ex; h.isI
theorem LT.but {H H' : Hp} {p q : Addr} {xss : List (List V)} (b : But q H H') (hq : ∀ xs, H q ≠ some (.tup xs)) (hp : p ≠ q) : LT H p xss → LT H' p xss := fun ⟨rs, h1, h2, h3⟩ => by
  refine ⟨rs, b _ _ hp h1, h2, fun i r xs e1 e2 => ?_⟩
  have := h3 i r xs e1 e2
  exact b _ _ (fun z => hq xs (z ▸ this)) this
theorem Rd.ntup {C : Addr} {H : Hp} {p : Addr} {S : Src} {a d : Nat} (R : Rd C H p S a d) : ∀ xs, H p ≠ some (.tup xs) := fun xs e => by
  obtain ⟨z, _, ⟨dx, h⟩, _⟩ := R.ex
  rw [h] at e
  cases e
theorem Rd.tups {C : Addr} {H H' : Hp} {p : Addr} {S : Src} {a d : Nat} (R : Rd C H p S a d) (b : But p H H') : Tups H H' := fun x vs h => b _ _ (fun z => R.ntup vs (z ▸ h)) h
/-- moved -/
theorem Rd.move {C : Addr} {H H' : Hp} {p : Addr} {S : Src} {a d a' d' : Nat} (R : Rd C H p S a d) {z : Str} {r : Addr} (R0 : Raw C H p z r a d) (b : But p H H') (h : Raw C H' p z r a' d') (ha : a' ≤ S.n) : Rd C H' p S a' d' := by
  obtain ⟨z', e1, ⟨dx, e2⟩, e3⟩ := R.ex
  generalize hr' : S.r = r' at *
  obtain ⟨dy, e4⟩ := R0
  have e5 := (Option.some.inj (e2.symm.trans e4))
  have e6 := congrArg (fun o => match o with | HO.ins _ _ fs => fs | _ => []) e5
  have e7 : (rf z' r' a d).lookup ("source" : Str) = (rf z r a d).lookup ("source" : Str) := congrArg (List.lookup ("source" : Str)) e6
  have e8 : (rf z' r' a d).lookup ("row" : Str) = (rf z r a d).lookup ("row" : Str) := congrArg (List.lookup ("row" : Str)) e6
  rw [rf_source, rf_source] at e7
  rw [rf_row, rf_row] at e8
  cases e7
  cases e8
  have e9 : LT H' r (S.ts.map tkV) := by
    refine e3.but b R.ntup fun z => ?_
    obtain ⟨rs, g1, _⟩ := e3
    rw [z, e2] at g1
    cases g1
  exact ⟨⟨_, e1, by rw [hr']; exact h, by rw [hr']; exact e9⟩, R.hl, R.hn, ha, R.pl, R.nu⟩
theorem Rd.same {C : Addr} {H H' : Hp} {p : Addr} {S : Src} {a d : Nat} (R : Rd C H p S a d) (s : Same H H') : Rd C H' p S a d := by
  obtain ⟨z, e1, ⟨dx, e2⟩, e3⟩ := R.ex
  exact ⟨⟨z, e1, ⟨dx, s _ _ e2⟩, e3.same s⟩, R.hl, R.hn, R.ha, R.pl, R.nu⟩
/-- another list changes -/
theorem Rd.updL {C : Addr} {H : Hp} {p L : Addr} {S : Src} {a d : Nat} {vs ws : List V} (R : Rd C H p S a d) (h : H L = some (.lst vs)) (hr : S.r ≠ L) : Rd C (upd H L (.lst ws)) p S a d := by
  obtain ⟨z, e1, ⟨dx, e2⟩, rs, g1, g2, g3⟩ := R.ex
  have pL : p ≠ L := fun z => by rw [z, h] at e2; cases e2
  exact ⟨⟨z, e1, ⟨dx, by rw [upd_ne pL]; exact e2⟩, rs, by rw [upd_ne hr]; exact g1, g2, fun i r xs a b => by
    have := g3 i r xs a b
    rw [upd_ne (fun z => by rw [z, h] at this; cases this)]
    exact this⟩, R.hl, R.hn, R.ha, R.pl, R.nu⟩
theorem Rd.row {C : Addr} {H : Hp} {p : Addr} {S : Src} {a d : Nat} (R : Rd C H p S a d) : ∃ ys, H S.r = some (.lst ys) := let ⟨_, _, _, rs, h, _⟩ := R.ex; ⟨_, h⟩
section
variable {X : Cx} {C : Addr} {o v : Expr} {pos pos' : Pos} {ta tv : TE} {w : World} {mg : Str → Option Value} {aW CS aR : Addr} {tS t0 t1 t2 t3 t4 t5 t6 : PySem.Tok}
def tRd (C : Addr) (sel : Str → Addr → Int → Int → V) (ta : TE) : TE := fun σ H Q => ta σ H fun x H1 => ∃ p z r a d, x = .ref p ∧ Raw C H1 p z r a d ∧ Q (sel z r a d) H1
theorem pe_rd {f : Str} {sel : Str → Addr → Int → Int → V} (cl : Cls X.K C) (na : NoAttr X.K C f) (hl : ∀ z r a d, (rf z r a d).lookup f = some (sel z r a d)) (he : PE X o ta) (hb : attributeBase o f X.env (eval o X.env) = eval o X.env) : PE X (.Attribute o f pos) (tRd C sel ta) := by
  refine PE.imp (pe_fld (PE.up he) hb) fun σ H Q h => ⟨_, h, ?_⟩
  rintro x H1 ⟨p, z, r, a, d, rfl, ⟨dx, e⟩, q⟩
  exact ⟨p, C, dx, _, _, rfl, e, cl, na, hl z r a d, q⟩
theorem pe_rd_source (T : NmR X.K w mg aW tS C CS aR t0 t1 t2 t3 t4 t5 t6) (he : PE X o ta) (hb : attributeBase o "source" X.env (eval o X.env) = eval o X.env := by rfl) : PE X (.Attribute o "source" pos) (tRd C (fun z _ _ _ => .str z) ta) := pe_rd T.cl_Reader T.n_source (fun _ _ _ _ => rf_source) he hb
theorem pe_rd_row (T : NmR X.K w mg aW tS C CS aR t0 t1 t2 t3 t4 t5 t6) (he : PE X o ta) (hb : attributeBase o "row" X.env (eval o X.env) = eval o X.env := by rfl) : PE X (.Attribute o "row" pos) (tRd C (fun _ r _ _ => .ref r) ta) := pe_rd T.cl_Reader T.n_row (fun _ _ _ _ => rf_row) he hb
theorem pe_rd_at (T : NmR X.K w mg aW tS C CS aR t0 t1 t2 t3 t4 t5 t6) (he : PE X o ta) (hb : attributeBase o "at" X.env (eval o X.env) = eval o X.env := by rfl) : PE X (.Attribute o "at" pos) (tRd C (fun _ _ a _ => .int a) ta) := pe_rd T.cl_Reader T.n_at (fun _ _ _ _ => rf_at) he hb
theorem pe_rd_depth (T : NmR X.K w mg aW tS C CS aR t0 t1 t2 t3 t4 t5 t6) (he : PE X o ta) (hb : attributeBase o "depth" X.env (eval o X.env) = eval o X.env := by rfl) : PE X (.Attribute o "depth" pos) (tRd C (fun _ _ _ d => .int d) ta) := pe_rd T.cl_Reader T.n_depth (fun _ _ _ _ => rf_depth) he hb
/-- self.at += e, self.depth += e -/
def tRdA (C : Addr) (ta tv : TE) (rd : V → V → Hp → VK → Prop) : TS := fun D σ H => ta σ H fun x H1 => ∃ p z r a d, x = .ref p ∧ Raw C H1 p z r a d ∧ tv σ H1 fun y H2 => rd (.int a) y H2 fun u H3 => ∃ a' : Int, u = .int a' ∧ Raw C H3 p z r a d ∧ ∀ H', But p H3 H' → Raw C H' p z r a' d → D.nx σ H'
def tRdD (C : Addr) (ta tv : TE) (rd : V → V → Hp → VK → Prop) : TS := fun D σ H => ta σ H fun x H1 => ∃ p z r a d, x = .ref p ∧ Raw C H1 p z r a d ∧ tv σ H1 fun y H2 => rd (.int d) y H2 fun u H3 => ∃ d' : Int, u = .int d' ∧ Raw C H3 p z r a d ∧ ∀ H', But p H3 H' → Raw C H' p z r a d' → D.nx σ H'
/-- operators that answer by what follows -/
def Mon (rd : V → V → Hp → VK → Prop) : Prop := ∀ x y H (Q Q' : VK), (∀ v H', Q v H' → Q' v H') → rd x y H Q → rd x y H Q'
theorem mon_add : Mon rAdd := fun x y H Q Q' i ⟨a, b, e1, e2, q⟩ => ⟨a, b, e1, e2, i _ _ q⟩
theorem mon_sub : Mon rSub := fun x y H Q Q' i ⟨a, b, e1, e2, q⟩ => ⟨a, b, e1, e2, i _ _ q⟩
theorem aug_at {op : Operator} {rd : V → V → Hp → VK → Prop} {i : Int} {j : Nat} {cp : Pos} (cl : Cls X.K C) (na : NoAttr X.K C "at") (m : Mon rd) (he : PE X o ta) (hop : InOp X op rd) : PS X (.AugAssign (.Attribute o "at" pos') op (.Constant (.int i) j cp) pos) (tRdA C ta (tC (.int i)) rd) := by
  refine PS.imp (ps_fldaug (PE.up he) pe_int hop) fun D σ H h => ⟨_, h, ?_⟩
  rintro x H1 ⟨p, z, r, a, d, rfl, ⟨dx, e⟩, q⟩
  refine ⟨p, C, dx, _, _, rfl, e, cl, na, rf_at, m _ _ _ _ _ ?_ q⟩
  rintro u H3 ⟨a', rfl, ⟨dx', e'⟩, q'⟩
  refine ⟨dx', _, e', (by show 4 < 1000; decide), q' _ (But.refl _ _).upd ⟨dx', ?_⟩⟩
  rw [upd_same, rf_at']
theorem aug_depth {op : Operator} {rd : V → V → Hp → VK → Prop} {i : Int} {j : Nat} {cp : Pos} (cl : Cls X.K C) (na : NoAttr X.K C "depth") (m : Mon rd) (he : PE X o ta) (hop : InOp X op rd) : PS X (.AugAssign (.Attribute o "depth" pos') op (.Constant (.int i) j cp) pos) (tRdD C ta (tC (.int i)) rd) := by
  refine PS.imp (ps_fldaug (PE.up he) pe_int hop) fun D σ H h => ⟨_, h, ?_⟩
  rintro x H1 ⟨p, z, r, a, d, rfl, ⟨dx, e⟩, q⟩
  refine ⟨p, C, dx, _, _, rfl, e, cl, na, rf_depth, m _ _ _ _ _ ?_ q⟩
  rintro u H3 ⟨d', rfl, ⟨dx', e'⟩, q'⟩
  refine ⟨dx', _, e', (by show 4 < 1000; decide), q' _ (But.refl _ _).upd ⟨dx', ?_⟩⟩
  rw [upd_same, rf_depth']
theorem ps_rd_at {i : Int} {j : Nat} {cp : Pos} (T : NmR X.K w mg aW tS C CS aR t0 t1 t2 t3 t4 t5 t6) (he : PE X o ta) (_ : PE X (.Constant (.int i) j cp) (tC (.int i))) (hop : InOp X .Add rAdd) : PS X (.AugAssign (.Attribute o "at" pos') .Add (.Constant (.int i) j cp) pos) (tRdA C ta (tC (.int i)) rAdd) := aug_at T.cl_Reader T.n_at mon_add he hop
theorem ps_rd_depth {op : Operator} {rd : V → V → Hp → VK → Prop} {i : Int} {j : Nat} {cp : Pos} (T : NmR X.K w mg aW tS C CS aR t0 t1 t2 t3 t4 t5 t6) (he : PE X o ta) (_ : PE X (.Constant (.int i) j cp) (tC (.int i))) (hop : InOp X op rd) (m : Mon rd := by first | exact mon_add | exact mon_sub) : PS X (.AugAssign (.Attribute o "depth" pos') op (.Constant (.int i) j cp) pos) (tRdD C ta (tC (.int i)) rd) := aug_depth T.cl_Reader T.n_depth m he hop
end
/-! ### the error -/
/-- what SyntaxProblem's __init__ does -/
def spXI (C : Addr) : Sp := fun vs H Q _ => ∃ (a : Addr) (x y : V), vs = [.ref a, x, y] ∧ H a = some (exo a C none) ∧ ∀ dx, H dx = none → dx ≠ a → Q .non (upd (upd (upd H dx (exd dx [("start", x)])) a (exo a C (some dx))) dx (exd dx [("end", y), ("start", x)]))
structure ExI (P : Program) (w : World) (K : PySem.W.Frag) (mg : Str → Option Value) (base : Heap) (k : Nat) (C : Addr) (sp : Sp) : Prop where
  ex : ∃ (f : Addr) (fd : FuncData) (ps : List Str), FnOk P w K mg base CX0 k f fd ps sp ∧ PySem.W.findIn K (.ref C) "__init__" = some (some (.ref f)) ∧ PySem.W.typeIn K (.ref f) = some (.type "function") ∧ Binds K fd ps []
theorem pmk_x {X : Cx} {x : Str} {C : Addr} {k j : Nat} {sp : Sp} {p pos : Pos} {e : Expr} {es : List Expr} {ta : TA} (c : ExI X.prog X.w X.K X.mg X.base k C sp) (T : OexC X.K C) (hr : Room j X.A) (hk : k + 1 ≤ j) (hm : X.mg x = some (.ref C)) (ha : PA X (e :: es) ta) (hg : Gl X x := by rfl)
    (hdb : (x == ("__debug__" : Str)) = false := by decide) (he : starEach (e :: es) X.env = (false, eval e X.env) :: starEach es X.env := by rfl) (hpl : (backTo pos (starEach es X.env)).any (·.1) = false := by rfl) :
    L2N.PMk X (.Call (.Name x p) (e :: es) [] pos) (tMkO C sp [] ta) := by
  obtain ⟨f, fd, ps, F, iC, tI, b⟩ := c.ex
  exact pmk_oexN T iC tI F (hr.mono hk) b pass0 hg hm ha hdb he hpl
/-- where the error goes: its dict -/
def xdE (H : Hp) (dd : Addr) (s e : Nat) : Prop := H dd = some (.xd [("end", .int (e : Int)), ("start", .int (s : Int))])
/-- a class whose instances are made by its name -/
structure CalK (P : Program) (w : World) (K : PySem.W.Frag) (mg : Str → Option Value) (base : Heap) (CX : CXT) (k : Nat) (C : Addr) (sp : Sp) : Prop where
  ex : ∃ (f : Addr) (fd : FuncData) (ps : List Str), FnOk P w K mg base CX k f fd ps sp ∧ Mk K C f ∧ Binds K fd ps []
theorem pe_mk {X : Cx} {x : Str} {C : Addr} {k j : Nat} {sp : Sp} {p pos : Pos} {e : Expr} {es : List Expr} {t : TA} {CX : CXT} {E : XK} (c : CalK X.prog X.w X.K X.mg X.base CX k C sp) (hr : Room j X.A) (hk : k + 1 ≤ j) (hm : X.mg x = some (.ref C)) (hx : Passes CX X E) (ha : PA X (e :: es) t) (hg : Gl X x := by rfl)
    (hdb : (x == ("__debug__" : Str)) = false := by decide) (he : starEach (e :: es) X.env = (false, eval e X.env) :: starEach es X.env := by rfl) (hpl : (backTo pos (starEach es X.env)).any (·.1) = false := by rfl) :
    PE X (.Call (.Name x p) (e :: es) [] pos) (tMake C sp [] E t) := by
  obtain ⟨f, fd, ps, F, M, b⟩ := c.ex
  exact pe_make M F (hr.mono hk) hg hm b .nil hx ha hdb he hpl
section
variable {P : Program} {w : World} {K : PySem.W.Frag} {mg : Str → Option Value} {base : Heap} {f : Addr} {fd : FuncData} {aW CR CS aR : Addr} {tS t0 t1 t2 t3 t4 t5 t6 : PySem.Tok}
abbrev s_SP_init : Stmt := inClass (topS 2) 0
abbrev N_SP_init : List Str := ["self", "start", "end"]
theorem sc_SP_init : FnScope N_SP_init ["self", "start", "end"] (defScope s_SP_init) := ⟨rfl, rfl, rfl, by decide +kernel, rfl, by decide +kernel, by decide +kernel⟩
theorem ok_SP_init (F : Fun K "__init__" "SyntaxProblem.__init__" s_SP_init f fd) (T : NmR K w mg aW tS CR CS aR t0 t1 t2 t3 t4 t5 t6) : FnOk P w K mg base CX0 1 f fd ["self", "start", "end"] (spXI CS) := by
  refine F.ok sc_SP_init (fun vs H Q E h => ?_) (fun cdv A outer s H vs Q E hr h => ?_)
  · obtain ⟨a, x, y, rfl, _⟩ := h
    rfl
  obtain ⟨a, x, y, rfl, ha, q⟩ := h
  refine ⟨_, (pss_cons (ps_ost (pv 0) (pv 1))
    (pss_one (ps_ost (pv 0) (pv 2)))), ?_⟩
  refine ⟨_, rfl, _, rfl, a, CS, rfl, T.oex, T.s_start, .inl ⟨ha, fun dx nd ne => ?_⟩⟩
  refine ⟨_, rfl, _, rfl, a, CS, rfl, T.oex, T.s_end, .inr ⟨dx, _, upd_same, by rw [upd_ne ne, upd_same], by show 1 ≤ 900; decide, q dx nd ne⟩⟩
/-- the heap behind the error -/
theorem xd_end {H : Hp} {a dx : Addr} {x y : V} (na : H a = none) (nd : upd H a (exo a CS none) dx = none) (ne : dx ≠ a) :
    Same H (upd (del (upd (upd (upd (upd H a (exo a CS none)) dx (exd dx [("start", x)])) a (exo a CS (some dx))) dx (exd dx [("end", y), ("start", x)])) a) dx (.xd [("end", y), ("start", x)])) ∧
    upd (del (upd (upd (upd (upd H a (exo a CS none)) dx (exd dx [("start", x)])) a (exo a CS (some dx))) dx (exd dx [("end", y), ("start", x)])) a) dx (.xd [("end", y), ("start", x)]) dx = some (.xd [("end", y), ("start", x)]) := by
  rw [upd_ne ne] at nd
  refine ⟨fun b o h => ?_, upd_same⟩
  have h1 : b ≠ a := fun z => by rw [z, na] at h; cases h
  have h2 : b ≠ dx := fun z => by rw [z, nd] at h; cases h
  rw [upd_ne h2, del_ne h1, upd_ne h2, upd_ne h1, upd_ne h2, upd_ne h1]
  exact h
end

end Sn

namespace Sn
open PySem PySem.Spec PyProof.Rows L2 TL
/-! ### small steps of the reader -/
theorem Rd.nor {C : Addr} {H : Hp} {p : Addr} {S : Src} {a d : Nat} (R : Rd C H p S a d) : ∃ (z : Str) (r : Addr) (rs : List Addr), tl z = S.l ∧ Raw C H p z r a d ∧ H r = some (.lst (rs.map V.ref)) ∧ rs.length = S.n ∧
    ∀ (i : Nat) (t : Tok), S.ts[i]? = some t → ∃ q : Addr, (rs.map V.ref)[i]? = some (.ref q) ∧ H q = some (.tup (tkV t)) := by
  obtain ⟨z, e1, e2, rs, h1, h2, h3⟩ := R.ex
  rw [List.length_map] at h2
  refine ⟨z, S.r, rs, e1, e2, h1, h2, fun i t ht => ?_⟩
  have hi := (List.getElem?_eq_some_iff.mp ht).1
  have hi2 : i < rs.length := by omega
  have g := List.getElem?_eq_getElem hi2
  exact ⟨rs[i], by rw [List.getElem?_map, g]; rfl, h3 i _ _ g (by rw [List.getElem?_map, ht]; rfl)⟩
theorem Src.tok {S : Src} {a : Nat} (h : a < S.n) : ∃ t, S.ts[a]? = some t := ⟨_, List.getElem?_eq_getElem h⟩
theorem at_nat {xs : List V} {v : V} {i : Nat} (h : xs[i]? = some v) : atI xs (i : Int) = some v := at_of rfl h
section
variable {S : Src} {a : Nat} {t : Tok}
theorem wd_of (h : S.ts[a]? = some t) : S.wd a = (S.l.drop t.2.1).take (t.2.2 - t.2.1) := by unfold Src.wd; rw [h]
theorem so_of (h : S.ts[a]? = some t) : S.so a = t.1 := by unfold Src.so; rw [h]
theorem st_of (h : S.ts[a]? = some t) : S.st a = t.2.1 := by unfold Src.st; rw [h]
theorem en_of (h : S.ts[a]? = some t) : S.en a = t.2.2 := by unfold Src.en; rw [h]
theorem wd_end (h : ¬ a < S.n) : S.wd a = [] := by unfold Src.wd; rw [List.getElem?_eq_none (by unfold Src.n at h; omega)]
theorem so_end (h : ¬ a < S.n) : S.so a = "" := by unfold Src.so; rw [List.getElem?_eq_none (by unfold Src.n at h; omega)]
theorem fp_of (h : S.ts[a]? = some t) : S.fp a = (t.2.1, t.2.2) := by unfold Src.fp; rw [h]
theorem lt_of_wd {w : Str} (h : S.eqW a w = true) (hw : tl w ≠ []) : a < S.n := by
  unfold Src.eqW at h
  have h := of_decide_eq_true h
  by_cases k : a < S.n
  · exact k
  · rw [wd_end k] at h
    exact absurd h.symm hw
theorem lt_of_so {w : Str} (h : S.so a = w) (hw : w ≠ "") : a < S.n := by
  by_cases k : a < S.n
  · exact k
  · rw [so_end k] at h
    exact absurd h.symm hw
end
/-- what is asked of a reading that ends so -/
def TK (C CS p : Addr) (S : Src) (d : Nat) (H : Hp) (Q : VK) (E : XK) : Rs Tn → Prop
  | .un => False
  | .ok t a' => ∀ H' v, But p H H' → Rd C H' p S a' d → DT H' t.d v → Q v H'
  | .no s e => ∀ H' dd, But p H H' → xdE H' dd s e → E (.ref CS) (some dd) H'
def failK (CS p : Addr) (H : Hp) (E : XK) (s e : Nat) : Prop := ∀ H' dd, But p H H' → xdE H' dd s e → E (.ref CS) (some dd) H'
def spFail (C CS : Addr) : Sp := fun vs H _ E => ∃ p S a d, vs = [.ref p] ∧ Rd C H p S a d ∧ failK CS p H E (S.fp a).1 (S.fp a).2
def spEnded (C : Addr) : Sp := fun vs H Q _ => ∃ p S a d, vs = [.ref p] ∧ Rd C H p S a d ∧ Q (.bl (decide (¬ a < S.n))) H
def spSort (C : Addr) : Sp := fun vs H Q _ => ∃ p S a d, vs = [.ref p] ∧ Rd C H p S a d ∧ Q (.str (S.so a)) H
def spStart (C : Addr) : Sp := fun vs H Q _ => ∃ p S a d, vs = [.ref p] ∧ Rd C H p S a d ∧ a < S.n ∧ Q (.int (S.st a : Int)) H
def spLast (C : Addr) : Sp := fun vs H Q _ => ∃ p S a d, vs = [.ref p] ∧ Rd C H p S (a + 1) d ∧ Q (.int (S.en a : Int)) H
def spPeek (C : Addr) : Sp := fun vs H Q _ => ∃ p S a d, vs = [.ref p] ∧ Rd C H p S a d ∧ Q (.str (strL (S.wd a))) H
def spTaken (C : Addr) : Sp := fun vs H Q _ => ∃ p S a d w, vs = [.ref p, .str w] ∧ Rd C H p S a d ∧ tl w ≠ [] ∧ (if S.eqW a w = true then ∀ H', But p H H' → Rd C H' p S (a + 1) d → Q (.bl true) H' else Q (.bl false) H)
def spExpect (C CS : Addr) : Sp := fun vs H Q E => ∃ p S a d w, vs = [.ref p, .str w] ∧ Rd C H p S a d ∧ tl w ≠ [] ∧ (if S.eqW a w = true then ∀ H', But p H H' → Rd C H' p S (a + 1) d → Q .non H' else failK CS p H E (S.fp a).1 (S.fp a).2)
def spMark (C CS : Addr) : Sp := fun vs H Q E => ∃ p S a d, vs = [.ref p] ∧ Rd C H p S a d ∧ (if S.isN a = true then ∀ H' x, But p H H' → Rd C H' p S (a + 1) d → H' x = some (.tup [.str (strL (S.wd a)), .int (S.st a : Int)]) → Q (.ref x) H' else failK CS p H E (S.fp a).1 (S.fp a).2)
def spBegin (C CS : Addr) : Sp := fun vs H Q E => ∃ p S a d, vs = [.ref p] ∧ Rd C H p S a d ∧ (if d = 30 ∨ ¬ a < S.n then failK CS p H E (S.fp a).1 (S.fp a).2 else ∀ H', But p H H' → Rd C H' p S a (d + 1) → Q (.int (S.st a : Int)) H')
def spNum : Sp := fun vs H Q _ => ∃ z : Str, vs = [.str z] ∧ (tl z).all isD = true ∧ Q (.int (Src.numv (tl z))) H
section
variable {P : Program} {w : World} {K : PySem.W.Frag} {mg : Str → Option Value} {base : Heap} {f : Addr} {fd : FuncData} {aW CR CS aR : Addr} {tS t0 t1 t2 t3 t4 t5 t6 : PySem.Tok}
abbrev s_Reader_fail : Stmt := inClass (topS 25) 1
abbrev N_Reader_fail : List Str := ["self", "end"]
theorem sc_Reader_fail : FnScope N_Reader_fail ["self"] (defScope s_Reader_fail) := ⟨rfl, rfl, rfl, by decide +kernel, rfl, by decide +kernel, by decide +kernel⟩
theorem ok_fail (F : Fun K "fail" "Reader.fail" s_Reader_fail f fd) (T : NmR K w mg aW tS CR CS aR t0 t1 t2 t3 t4 t5 t6) (I_SyntaxProblem : ExI P w K mg base 1 CS (spXI CS)) : FnOk P w K mg base (L2N.CX P w) 3 f fd ["self"] (spFail CR CS) := by
  refine okXN F sc_Reader_fail (fun vs H Q E h => ?_) (fun cdv A outer s H vs Q E hr h => ?_)
  · obtain ⟨p, S, a, d, rfl, _⟩ := h
    rfl
  obtain ⟨p, S, a, d, rfl, R, q⟩ := h
  refine ⟨_, (pss_cons (ps_if (pt_cmpR op_lt (pe_rd_at T (pv 0)) (pe_callB call_len_seq (by rfl) T.len PySem.boot_len (pa_cons (pe_rd_row T (pv 0)) pa_nil)) (nomark _)) (pss_one (L2N.ps_raise rfl (L2N.takes_of rfl rfl rfl rfl) (pmk_x I_SyntaxProblem T.oex hr (by first | decide | omega) T.mgS (pa_cons (pe_ix (r := rIxT K) ix_tup (pe_ix (r := rIxL K) ix_list (pe_rd_row T (pv 0)) (pe_rd_at T (pv 0)) (fun _ _ => rfl)) pe_int (fun _ _ => rfl)) (pa_cons (pe_ix (r := rIxT K) ix_tup (pe_ix (r := rIxL K) ix_list (pe_rd_row T (pv 0)) (pe_rd_at T (pv 0)) (fun _ _ => rfl)) pe_int (fun _ _ => rfl)) pa_nil))))) pss_nil)
    (pss_cons (ps_set (i := 1) sc_Reader_fail.nd rfl (Or.inl rfl) (pe_ifExp (pt_truth (pe_rd_row T (pv 0)) (by intro _; rfl)) (pe_ix (r := rIxT K) ix_tup (pe_ix (r := rIxL K) ix_list (pe_rd_row T (pv 0)) (pe_un un_neg pe_int) (fun _ _ => rfl)) pe_int (fun _ _ => rfl)) pe_int))
    (pss_one (L2N.ps_raise rfl (L2N.takes_of rfl rfl rfl rfl) (pmk_x I_SyntaxProblem T.oex hr (by first | decide | omega) T.mgS (pa_cons (pv 1) (pa_cons (pv 1) pa_nil))))))), ?_⟩
  obtain ⟨z, r, rs, ez, raw, hr0, hl, tk⟩ := R.nor
  have out : ∀ (x y : Nat), ((S.fp a).1 = x) → ((S.fp a).2 = y) → ∀ a2, H a2 = none → ∀ dx, upd H a2 (exo a2 CS none) dx = none → dx ≠ a2 → (V.non = V.non ∧ ∃ d fs, upd (upd (upd (upd H a2 (exo a2 CS none)) dx (exd dx [("start", .int (x : Int))])) a2 (exo a2 CS (some dx))) dx (exd dx [("end", .int (y : Int)), ("start", .int (x : Int))]) a2 = some (exo a2 CS (some d)) ∧
      upd (upd (upd (upd H a2 (exo a2 CS none)) dx (exd dx [("start", .int (x : Int))])) a2 (exo a2 CS (some dx))) dx (exd dx [("end", .int (y : Int)), ("start", .int (x : Int))]) d = some (exd d fs) ∧ H d = none ∧ E (.ref CS) (some d) (upd (del (upd (upd (upd (upd H a2 (exo a2 CS none)) dx (exd dx [("start", .int (x : Int))])) a2 (exo a2 CS (some dx))) dx (exd dx [("end", .int (y : Int)), ("start", .int (x : Int))])) a2) d (.xd fs))) := by
    intro x y ex ey a2 na dx nd ne
    subst ex ey
    obtain ⟨k1, k2⟩ := xd_end (CS := CS) (x := .int ((S.fp a).1 : Int)) (y := .int ((S.fp a).2 : Int)) na nd ne
    refine ⟨rfl, dx, _, by rw [upd_ne ne.symm, upd_same], upd_same, by rw [upd_ne ne] at nd; exact nd, q _ dx (But.of k1) k2⟩
  refine ⟨_, rfl, p, z, r, _, _, rfl, raw, _, rfl, p, z, r, _, _, rfl, raw, r, _, rfl, .inl (.inl (.inl hr0)), _, _, rfl, rfl, _, rfl, ?_⟩
  rw [List.length_map, hl]
  refine ite2 (fun h1 => ?_) (fun h1 => ?_)
  · have h1 : (a : Int) < (S.n : Int) := of_decide_eq_true h1
    have h1 : a < S.n := by omega
    obtain ⟨t, ht⟩ := Src.tok h1
    obtain ⟨qq, g, hq⟩ := tk a t ht
    refine ⟨_, rfl, p, z, r, _, _, rfl, raw, _, rfl, p, z, r, _, _, rfl, raw, r, _, _, _, rfl, rfl, .inl (.inl hr0), at_nat g, qq, _, _, _, rfl, rfl, .inl (.inl hq), at_nat (i := 1) rfl, ?_⟩
    refine ⟨_, rfl, p, z, r, _, _, rfl, raw, _, rfl, p, z, r, _, _, rfl, raw, r, _, _, _, rfl, rfl, .inl (.inl hr0), at_nat g, qq, _, _, _, rfl, rfl, .inl (.inl hq), at_nat (i := 2) rfl, ?_⟩
    refine ⟨by show 2 ≤ 1000; decide, fun a2 na => ⟨a2, _, _, rfl, upd_same, fun dx nd ne => ?_⟩⟩
    exact out t.2.1 t.2.2 (by rw [fp_of ht]) (by rw [fp_of ht]) a2 na dx nd ne
  · have h1 : ¬ a < S.n := fun k => h1 (decide_eq_true (show (a : Int) < (S.n : Int) by omega))
    refine ⟨_, rfl, p, z, r, _, _, rfl, raw, _, .inl ⟨_, .inl (.inl hr0), rfl⟩, ?_⟩
    have hfp : S.fp a = match S.ts.getLast? with | some t => (t.2.2, t.2.2) | none => (0, 0) := by unfold Src.fp; rw [List.getElem?_eq_none (by unfold Src.n at h1; omega)] <;> rfl
    cases hts : S.ts.getLast? with
    | none =>
      have : S.ts = [] := List.getLast?_eq_none_iff.mp hts
      have hrs : rs = [] := List.length_eq_zero_iff.mp (by rw [hl]; unfold Src.n; rw [this]; rfl)
      rw [hts] at hfp
      subst hrs
      refine iteF ?_
      refine ⟨_, rfl, _, rfl, by show 2 ≤ 1000; decide, fun a2 na => ⟨a2, _, _, rfl, upd_same, fun dx nd ne => ?_⟩⟩
      exact out 0 0 (by rw [hfp]) (by rw [hfp]) a2 na dx nd ne
    | some t =>
      have hne : S.ts ≠ [] := fun e => by rw [e] at hts; cases hts
      have hpos : 0 < S.n := List.length_pos_iff.mpr hne
      have ht : S.ts[S.n - 1]? = some t := by
        rw [List.getLast?_eq_getElem?] at hts
        exact hts
      obtain ⟨qq, g, hq⟩ := tk _ t ht
      rw [hts] at hfp
      have hb : (!(rs.map V.ref).isEmpty) = true := by
        cases rs with
        | nil => simp at hl; omega
        | cons _ _ => rfl
      rw [hb]
      refine iteT ?_
      have hlast : atI (rs.map V.ref) (-1) = some (.ref qq) := by
        have e : (rs.map V.ref).length - 1 = S.n - 1 := by rw [List.length_map, hl]
        have e2 : ixN (rs.map V.ref).length (-1) = some (S.n - 1) := by
          unfold ixN
          rw [if_neg (by omega), if_pos (by rw [List.length_map, hl]; omega), List.length_map, hl]
          congr 1
          omega
        unfold atI
        rw [e2]
        exact g
      refine ⟨_, rfl, p, z, r, _, _, rfl, raw, 1, rfl, r, _, _, _, rfl, rfl, .inl (.inl hr0), hlast, qq, _, _, _, rfl, rfl, .inl (.inl hq), at_nat (i := 2) rfl, ?_⟩
      refine ⟨_, rfl, _, rfl, by show 2 ≤ 1000; decide, fun a2 na => ⟨a2, _, _, rfl, upd_same, fun dx nd ne => ?_⟩⟩
      exact out t.2.2 t.2.2 (by rw [hfp]) (by rw [hfp]) a2 na dx nd ne
abbrev s_Reader_ended : Stmt := inClass (topS 25) 2
abbrev N_Reader_ended : List Str := ["self"]
theorem sc_Reader_ended : FnScope N_Reader_ended ["self"] (defScope s_Reader_ended) := ⟨rfl, rfl, rfl, by decide +kernel, rfl, by decide +kernel, by decide +kernel⟩
theorem ok_ended (F : Fun K "ended" "Reader.ended" s_Reader_ended f fd) (T : NmR K w mg aW tS CR CS aR t0 t1 t2 t3 t4 t5 t6) : FnOk P w K mg base CX0 1 f fd ["self"] (spEnded CR) := by
  refine F.ok sc_Reader_ended (fun vs H Q E h => ?_) (fun cdv A outer s H vs Q E hr h => ?_)
  · obtain ⟨p, S, a, d, rfl, _⟩ := h
    rfl
  obtain ⟨p, S, a, d, rfl, R, q⟩ := h
  refine ⟨_, (pss_one (ps_ret (pe_cmpR op_eq (pe_rd_at T (pv 0)) (pe_callB call_len_seq (by rfl) T.len PySem.boot_len (pa_cons (pe_rd_row T (pv 0)) pa_nil)) (nomark _)))), ?_⟩
  obtain ⟨z, r, rs, ez, raw, hr0, hl, tk⟩ := R.nor
  refine ⟨_, rfl, p, z, r, _, _, rfl, raw, _, rfl, p, z, r, _, _, rfl, raw, r, _, rfl, .inl (.inl (.inl hr0)), rfl, ?_⟩
  have ha := R.ha
  have e : decide (V.int (a : Int) = V.int (((rs.map V.ref).length : Nat) : Int)) = decide (¬ a < S.n) := by
    rw [List.length_map, hl]
    by_cases k : a < S.n
    · rw [decide_eq_false (fun e => by injection e with e; omega), decide_eq_false (fun h => h k)]
    · rw [decide_eq_true (by congr 1; omega), decide_eq_true k]
  rw [e]
  exact q
abbrev s_Reader_next_sort : Stmt := inClass (topS 25) 3
abbrev N_Reader_next_sort : List Str := ["self"]
theorem sc_Reader_next_sort : FnScope N_Reader_next_sort ["self"] (defScope s_Reader_next_sort) := ⟨rfl, rfl, rfl, by decide +kernel, rfl, by decide +kernel, by decide +kernel⟩
theorem ok_next_sort (F : Fun K "next_sort" "Reader.next_sort" s_Reader_next_sort f fd) (T : NmR K w mg aW tS CR CS aR t0 t1 t2 t3 t4 t5 t6) (C_Reader_ended : CalM P w K mg base CX0 1 CR "ended" (spEnded CR)) : FnOk P w K mg base CX0 2 f fd ["self"] (spSort CR) := by
  refine F.ok sc_Reader_next_sort (fun vs H Q E h => ?_) (fun cdv A outer s H vs Q E hr h => ?_)
  · obtain ⟨p, S, a, d, rfl, _⟩ := h
    rfl
  obtain ⟨p, S, a, d, rfl, R, q⟩ := h
  refine ⟨_, (pss_one (ps_ret (pe_ifExp (pt_val (pe_m0 ns_Reader C_Reader_ended T.cl_Reader (by decide) hr (by first | decide | omega) pass0 (pv 0))) pe_str (pe_ix (r := rIxT K) ix_tup (pe_ix (r := rIxL K) ix_list (pe_rd_row T (pv 0)) (pe_rd_at T (pv 0)) (fun _ _ => rfl)) pe_int (fun _ _ => rfl))))), ?_⟩
  obtain ⟨z, r, rs, ez, raw, hr0, hl, tk⟩ := R.nor
  refine ⟨_, rfl, p, rfl, R.isI, p, S, a, d, rfl, R, _, rfl, ?_⟩
  by_cases k : a < S.n
  · obtain ⟨t, ht⟩ := Src.tok k
    obtain ⟨qq, g, hq⟩ := tk a t ht
    refine iteN (fun z : ¬ a < S.n => z k) ?_
    refine ⟨_, rfl, p, z, r, _, _, rfl, raw, _, rfl, p, z, r, _, _, rfl, raw, r, _, _, _, rfl, rfl, .inl (.inl hr0), at_nat g, qq, _, _, _, rfl, rfl, .inl (.inl hq), at_nat (i := 0) rfl, ?_⟩
    rw [so_of ht] at q
    exact q
  · refine iteP k ?_
    rw [so_end k] at q
    exact q
abbrev s_Reader_next_start : Stmt := inClass (topS 25) 4
abbrev N_Reader_next_start : List Str := ["self"]
theorem sc_Reader_next_start : FnScope N_Reader_next_start ["self"] (defScope s_Reader_next_start) := ⟨rfl, rfl, rfl, by decide +kernel, rfl, by decide +kernel, by decide +kernel⟩
theorem ok_next_start (F : Fun K "next_start" "Reader.next_start" s_Reader_next_start f fd) (T : NmR K w mg aW tS CR CS aR t0 t1 t2 t3 t4 t5 t6) : FnOk P w K mg base CX0 1 f fd ["self"] (spStart CR) := by
  refine F.ok sc_Reader_next_start (fun vs H Q E h => ?_) (fun cdv A outer s H vs Q E hr h => ?_)
  · obtain ⟨p, S, a, d, rfl, _⟩ := h
    rfl
  obtain ⟨p, S, a, d, rfl, R, k, q⟩ := h
  refine ⟨_, (pss_one (ps_ret (pe_ix (r := rIxT K) ix_tup (pe_ix (r := rIxL K) ix_list (pe_rd_row T (pv 0)) (pe_rd_at T (pv 0)) (fun _ _ => rfl)) pe_int (fun _ _ => rfl)))), ?_⟩
  obtain ⟨z, r, rs, ez, raw, hr0, hl, tk⟩ := R.nor
  obtain ⟨t, ht⟩ := Src.tok k
  obtain ⟨qq, g, hq⟩ := tk a t ht
  refine ⟨_, rfl, p, z, r, _, _, rfl, raw, _, rfl, p, z, r, _, _, rfl, raw, r, _, _, _, rfl, rfl, .inl (.inl hr0), at_nat g, qq, _, _, _, rfl, rfl, .inl (.inl hq), at_nat (i := 1) rfl, ?_⟩
  rw [st_of ht] at q
  exact q
abbrev s_Reader_last_end : Stmt := inClass (topS 25) 5
abbrev N_Reader_last_end : List Str := ["self"]
theorem sc_Reader_last_end : FnScope N_Reader_last_end ["self"] (defScope s_Reader_last_end) := ⟨rfl, rfl, rfl, by decide +kernel, rfl, by decide +kernel, by decide +kernel⟩
theorem ok_last_end (F : Fun K "last_end" "Reader.last_end" s_Reader_last_end f fd) (T : NmR K w mg aW tS CR CS aR t0 t1 t2 t3 t4 t5 t6) : FnOk P w K mg base CX0 1 f fd ["self"] (spLast CR) := by
  refine F.ok sc_Reader_last_end (fun vs H Q E h => ?_) (fun cdv A outer s H vs Q E hr h => ?_)
  · obtain ⟨p, S, a, d, rfl, _⟩ := h
    rfl
  obtain ⟨p, S, a, d, rfl, R, q⟩ := h
  refine ⟨_, (pss_one (ps_ret (pe_ix (r := rIxT K) ix_tup (pe_ix (r := rIxL K) ix_list (pe_rd_row T (pv 0)) (pe_op op_sub (pe_rd_at T (pv 0)) pe_int) (fun _ _ => rfl)) pe_int (fun _ _ => rfl)))), ?_⟩
  obtain ⟨z, r, rs, ez, raw, hr0, hl, tk⟩ := R.nor
  have k : a < S.n := R.ha
  obtain ⟨t, ht⟩ := Src.tok k
  obtain ⟨qq, g, hq⟩ := tk a t ht
  refine ⟨_, rfl, p, z, r, _, _, rfl, raw, _, rfl, p, z, r, _, _, rfl, raw, _, _, rfl, rfl, r, _, _, _, rfl, rfl, .inl (.inl hr0), at_of (by omega) g, qq, _, _, _, rfl, rfl, .inl (.inl hq), at_nat (i := 2) rfl, ?_⟩
  rw [en_of ht] at q
  exact q
theorem strL_tl (x : Str) : strL (tl x) = x := by
  show (⟨x.cps.toList.toArray⟩ : Str) = x
  rw [Array.toArray_toList]
abbrev s_Reader_peek : Stmt := inClass (topS 25) 6
abbrev N_Reader_peek : List Str := ["self"]
theorem sc_Reader_peek : FnScope N_Reader_peek ["self"] (defScope s_Reader_peek) := ⟨rfl, rfl, rfl, by decide +kernel, rfl, by decide +kernel, by decide +kernel⟩
theorem ok_peek (F : Fun K "peek" "Reader.peek" s_Reader_peek f fd) (T : NmR K w mg aW tS CR CS aR t0 t1 t2 t3 t4 t5 t6) (C_Reader_ended : CalM P w K mg base CX0 1 CR "ended" (spEnded CR)) : FnOk P w K mg base CX0 2 f fd ["self"] (spPeek CR) := by
  refine F.ok sc_Reader_peek (fun vs H Q E h => ?_) (fun cdv A outer s H vs Q E hr h => ?_)
  · obtain ⟨p, S, a, d, rfl, _⟩ := h
    rfl
  obtain ⟨p, S, a, d, rfl, R, q⟩ := h
  refine ⟨_, (pss_cons (ps_if (pt_val (pe_m0 ns_Reader C_Reader_ended T.cl_Reader (by decide) hr (by first | decide | omega) pass0 (pv 0))) (pss_one (ps_ret pe_str)) pss_nil)
    (pss_one (ps_ret (pe_slice sl_str (pe_rd_source T (pv 0)) (po_some (pe_ix (r := rIxT K) ix_tup (pe_ix (r := rIxL K) ix_list (pe_rd_row T (pv 0)) (pe_rd_at T (pv 0)) (fun _ _ => rfl)) pe_int (fun _ _ => rfl))) (po_some (pe_ix (r := rIxT K) ix_tup (pe_ix (r := rIxL K) ix_list (pe_rd_row T (pv 0)) (pe_rd_at T (pv 0)) (fun _ _ => rfl)) pe_int (fun _ _ => rfl))))))), ?_⟩
  obtain ⟨z, r, rs, ez, raw, hr0, hl, tk⟩ := R.nor
  refine ⟨_, rfl, p, rfl, R.isI, p, S, a, d, rfl, R, _, rfl, ?_⟩
  by_cases k : a < S.n
  · obtain ⟨t, ht⟩ := Src.tok k
    obtain ⟨qq, g, hq⟩ := tk a t ht
    have hpl := R.pl t (List.mem_of_getElem? ht)
    have hll := R.hl
    refine iteN (fun z : ¬ a < S.n => z k) ?_
    refine ⟨_, rfl, p, z, r, _, _, rfl, raw, _, rfl, p, z, r, _, _, rfl, raw, _, rfl, p, z, r, _, _, rfl, raw, r, _, _, _, rfl, rfl, .inl (.inl hr0), at_nat g, qq, _, _, _, rfl, rfl, .inl (.inl hq), at_nat (i := 1) rfl, _, rfl, ?_⟩
    refine ⟨_, rfl, p, z, r, _, _, rfl, raw, _, rfl, p, z, r, _, _, rfl, raw, r, _, _, _, rfl, rfl, .inl (.inl hr0), at_nat g, qq, _, _, _, rfl, rfl, .inl (.inl hq), at_nat (i := 2) rfl, _, rfl, z, rfl, small (by rw [len_tl, ez]; omega), ?_⟩
    have e : cutS z (some (t.2.1 : Int)) (some (t.2.2 : Int)) = strL (S.wd a) := by
      rw [← strL_tl (cutS z _ _), tl_cut_mid z _ _ (by rw [ez]; omega), ez, wd_of ht]
    rw [e]
    exact q
  · refine iteP k ?_
    rw [wd_end k] at q
    exact q
/-- one step on -/
theorem Rd.step {C : Addr} {H H' : Hp} {p : Addr} {S : Src} {a d : Nat} {z : Str} {r : Addr} (R : Rd C H p S a d) (R0 : Raw C H p z r a d) (b : But p H H') (h : Raw C H' p z r ((a : Int) + 1) d) (k : a < S.n) : Rd C H' p S (a + 1) d := R.move R0 b (show Raw C H' p z r ((a + 1 : Nat) : Int) d from h) k
theorem str_eqW {S : Src} {a : Nat} {w : Str} : decide (V.str (strL (S.wd a)) = V.str w) = S.eqW a w := by
  unfold Src.eqW
  by_cases h : S.wd a = tl w
  · rw [decide_eq_true h, decide_eq_true (by rw [h, strL_tl])]
  · rw [decide_eq_false h, decide_eq_false fun e => h ?_]
    injection e with e
    rw [← e]
theorem str_isN {S : Src} {a : Nat} {w : Str} : decide (V.str (S.so a) = V.str w) = decide (S.so a = w) := by
  by_cases h : S.so a = w
  · rw [decide_eq_true h, decide_eq_true (by rw [h])]
  · rw [decide_eq_false h, decide_eq_false fun e => h ?_]
    injection e
abbrev s_Reader_taken : Stmt := inClass (topS 25) 7
abbrev N_Reader_taken : List Str := ["self", "word"]
theorem sc_Reader_taken : FnScope N_Reader_taken ["self", "word"] (defScope s_Reader_taken) := ⟨rfl, rfl, rfl, by decide +kernel, rfl, by decide +kernel, by decide +kernel⟩
theorem ok_taken (F : Fun K "taken" "Reader.taken" s_Reader_taken f fd) (T : NmR K w mg aW tS CR CS aR t0 t1 t2 t3 t4 t5 t6) (C_Reader_peek : CalM P w K mg base CX0 2 CR "peek" (spPeek CR)) : FnOk P w K mg base CX0 3 f fd ["self", "word"] (spTaken CR) := by
  refine F.ok sc_Reader_taken (fun vs H Q E h => ?_) (fun cdv A outer s H vs Q E hr h => ?_)
  · obtain ⟨p, S, a, d, x, rfl, _⟩ := h
    rfl
  obtain ⟨p, S, a, d, x, rfl, R, hx, q⟩ := h
  refine ⟨_, (pss_cons (ps_if (pt_cmpR op_ne (pe_m0 ns_Reader C_Reader_peek T.cl_Reader (by decide) hr (by first | decide | omega) pass0 (pv 0)) (pv 1) (nomark _)) (pss_one (ps_ret pe_bl)) pss_nil)
    (pss_cons (ps_rd_at T (pv 0) pe_int in_add)
    (pss_one (ps_ret pe_bl)))), ?_⟩
  obtain ⟨z, r, rs, ez, raw, hr0, hl, tk⟩ := R.nor
  refine ⟨_, rfl, p, rfl, R.isI, p, S, a, d, rfl, R, _, rfl, rfl, _, rfl, ?_⟩
  rw [str_eqW]
  cases k : S.eqW a x with
  | false =>
    rw [k] at q
    exact iteT q
  | true =>
    rw [k] at q
    refine iteF ?_
    refine ⟨_, rfl, p, z, r, _, _, rfl, raw, _, _, rfl, rfl, _, rfl, raw, fun H' b h => ?_⟩
    exact q H' b (R.step raw b h (lt_of_wd k hx))
abbrev s_Reader_expect : Stmt := inClass (topS 25) 8
abbrev N_Reader_expect : List Str := ["self", "word"]
theorem sc_Reader_expect : FnScope N_Reader_expect ["self", "word"] (defScope s_Reader_expect) := ⟨rfl, rfl, rfl, by decide +kernel, rfl, by decide +kernel, by decide +kernel⟩
theorem ok_expect (F : Fun K "expect" "Reader.expect" s_Reader_expect f fd) (T : NmR K w mg aW tS CR CS aR t0 t1 t2 t3 t4 t5 t6) (C_Reader_taken : CalM P w K mg base CX0 3 CR "taken" (spTaken CR)) (C_Reader_fail : CalM P w K mg base (L2N.CX P w) 3 CR "fail" (spFail CR CS)) : FnOk P w K mg base (L2N.CX P w) 4 f fd ["self", "word"] (spExpect CR CS) := by
  refine okXN F sc_Reader_expect (fun vs H Q E h => ?_) (fun cdv A outer s H vs Q E hr h => ?_)
  · obtain ⟨p, S, a, d, x, rfl, _⟩ := h
    rfl
  obtain ⟨p, S, a, d, x, rfl, R, hx, q⟩ := h
  refine ⟨_, (pss_one (ps_if (pt_not (pt_val (pe_m ns_Reader C_Reader_taken T.cl_Reader (by decide) hr (by first | decide | omega) pass0 (pv 0) (pa_cons (pv 1) pa_nil)))) (pss_one (ps_expr (pe_m0 ns_Reader C_Reader_fail T.cl_Reader (by decide) hr (by first | decide | omega) (L2N.passes_call (L2N.takes_of rfl rfl rfl rfl) (fun _ _ _ _ h => h)) (pv 0)))) pss_nil)), ?_⟩
  refine ⟨_, rfl, p, rfl, R.isI, _, rfl, p, S, a, d, x, rfl, R, hx, ?_⟩
  cases k : S.eqW a x with
  | false =>
    rw [k] at q
    refine iteF ⟨_, rfl, ?_⟩
    exact iteT ⟨_, rfl, p, rfl, R.isI, p, S, a, d, rfl, R, q⟩
  | true =>
    rw [k] at q
    refine iteT fun H' b R' => ⟨_, rfl, ?_⟩
    exact iteF (q H' b R')
abbrev s_Reader_mark : Stmt := inClass (topS 25) 9
abbrev N_Reader_mark : List Str := ["self", "found"]
theorem sc_Reader_mark : FnScope N_Reader_mark ["self"] (defScope s_Reader_mark) := ⟨rfl, rfl, rfl, by decide +kernel, rfl, by decide +kernel, by decide +kernel⟩
theorem ok_mark (F : Fun K "mark" "Reader.mark" s_Reader_mark f fd) (T : NmR K w mg aW tS CR CS aR t0 t1 t2 t3 t4 t5 t6) (C_Reader_next_sort : CalM P w K mg base CX0 2 CR "next_sort" (spSort CR)) (C_Reader_fail : CalM P w K mg base (L2N.CX P w) 3 CR "fail" (spFail CR CS))
    (C_Reader_peek : CalM P w K mg base CX0 2 CR "peek" (spPeek CR)) (C_Reader_next_start : CalM P w K mg base CX0 1 CR "next_start" (spStart CR)) : FnOk P w K mg base (L2N.CX P w) 4 f fd ["self"] (spMark CR CS) := by
  refine okXN F sc_Reader_mark (fun vs H Q E h => ?_) (fun cdv A outer s H vs Q E hr h => ?_)
  · obtain ⟨p, S, a, d, rfl, _⟩ := h
    rfl
  obtain ⟨p, S, a, d, rfl, R, q⟩ := h
  refine ⟨_, (pss_cons (ps_if (pt_cmpR op_ne (pe_m0 ns_Reader C_Reader_next_sort T.cl_Reader (by decide) hr (by first | decide | omega) pass0 (pv 0)) pe_str (nomark _)) (pss_one (ps_expr (pe_m0 ns_Reader C_Reader_fail T.cl_Reader (by decide) hr (by first | decide | omega) (L2N.passes_call (L2N.takes_of rfl rfl rfl rfl) (fun _ _ _ _ h => h)) (pv 0)))) pss_nil)
    (pss_cons (ps_set (i := 1) sc_Reader_mark.nd rfl (Or.inl rfl) (pe_tup (pa_cons (pe_m0 ns_Reader C_Reader_peek T.cl_Reader (by decide) hr (by first | decide | omega) pass0 (pv 0)) (pa_cons (pe_m0 ns_Reader C_Reader_next_start T.cl_Reader (by decide) hr (by first | decide | omega) pass0 (pv 0)) pa_nil))))
    (pss_cons (ps_rd_at T (pv 0) pe_int in_add)
    (pss_one (ps_ret (pv 1)))))), ?_⟩
  refine ⟨_, rfl, p, rfl, R.isI, p, S, a, d, rfl, R, rfl, _, rfl, ?_⟩
  rw [str_isN]
  by_cases k : S.so a = "name"
  · have kn : S.isN a = true := decide_eq_true k
    rw [kn] at q
    refine iteNS (by rw [k]) ?_
    have ka := lt_of_so k (by decide)
    refine ⟨_, rfl, p, rfl, R.isI, p, S, a, d, rfl, R, _, rfl, p, rfl, R.isI, p, S, a, d, rfl, R, ka, (by show 2 ≤ sizeLine; decide), fun x nx => ?_⟩
    have sx := same_new (o := .tup [.str (strL (S.wd a)), .int (S.st a : Int)]) nx
    have R1 := R.same sx
    have hx : upd H x (.tup [.str (strL (S.wd a)), .int (S.st a : Int)]) x = some (.tup [.str (strL (S.wd a)), .int (S.st a : Int)]) := upd_same
    generalize upd H x (.tup [.str (strL (S.wd a)), .int (S.st a : Int)]) = H1 at sx R1 hx ⊢
    obtain ⟨z, r, rs, ez, raw, hr0, hl, tk⟩ := R1.nor
    refine ⟨_, rfl, p, z, r, _, _, rfl, raw, _, _, rfl, rfl, _, rfl, raw, fun H' b h => ⟨_, rfl, ?_⟩⟩
    exact q H' x ((But.of sx).trans b) (R1.step raw b h ka) (R1.tups b _ _ hx)
  · have kn : S.isN a = false := decide_eq_false k
    rw [kn] at q
    refine iteNN k ?_
    exact ⟨_, rfl, p, rfl, R.isI, p, S, a, d, rfl, R, q⟩
abbrev s_Reader_begin : Stmt := inClass (topS 25) 10
abbrev N_Reader_begin : List Str := ["self"]
theorem sc_Reader_begin : FnScope N_Reader_begin ["self"] (defScope s_Reader_begin) := ⟨rfl, rfl, rfl, by decide +kernel, rfl, by decide +kernel, by decide +kernel⟩
theorem ok_begin (F : Fun K "begin" "Reader.begin" s_Reader_begin f fd) (T : NmR K w mg aW tS CR CS aR t0 t1 t2 t3 t4 t5 t6) (C_Reader_ended : CalM P w K mg base CX0 1 CR "ended" (spEnded CR)) (C_Reader_fail : CalM P w K mg base (L2N.CX P w) 3 CR "fail" (spFail CR CS))
    (C_Reader_next_start : CalM P w K mg base CX0 1 CR "next_start" (spStart CR)) : FnOk P w K mg base (L2N.CX P w) 4 f fd ["self"] (spBegin CR CS) := by
  refine okXN F sc_Reader_begin (fun vs H Q E h => ?_) (fun cdv A outer s H vs Q E hr h => ?_)
  · obtain ⟨p, S, a, d, rfl, _⟩ := h
    rfl
  obtain ⟨p, S, a, d, rfl, R, q⟩ := h
  refine ⟨_, (pss_cons (ps_if (PW.pt (pw_or (pt_cmpR op_eq (pe_rd_depth T (pv 0)) (pe_glob (v := .int 30) (by rfl) T.g_DEEPEST ⟨_, rfl⟩) (nomark _)) (pw_or1 (pt_val (pe_m0 ns_Reader C_Reader_ended T.cl_Reader (by decide) hr (by first | decide | omega) pass0 (pv 0)))))) (pss_one (ps_expr (pe_m0 ns_Reader C_Reader_fail T.cl_Reader (by decide) hr (by first | decide | omega) (L2N.passes_call (L2N.takes_of rfl rfl rfl rfl) (fun _ _ _ _ h => h)) (pv 0)))) pss_nil)
    (pss_cons (ps_rd_depth T (pv 0) pe_int in_add)
    (pss_one (ps_ret (pe_m0 ns_Reader C_Reader_next_start T.cl_Reader (by decide) hr (by first | decide | omega) pass0 (pv 0)))))), ?_⟩
  obtain ⟨z, r, rs, ez, raw, hr0, hl, tk⟩ := R.nor
  refine ⟨_, rfl, p, z, r, _, _, rfl, raw, rfl, _, rfl, ?_⟩
  by_cases kd : d = 30
  · rw [if_pos (.inl kd)] at q
    refine iteP (by rw [kd]; rfl) ?_
    exact ⟨_, rfl, p, rfl, R.isI, p, S, a, d, rfl, R, q⟩
  refine iteN (fun e => kd (by injection e with e; omega)) ?_
  refine ⟨_, rfl, p, rfl, R.isI, p, S, a, d, rfl, R, _, rfl, ?_⟩
  by_cases ka : a < S.n
  · rw [if_neg (fun e => e.elim kd fun z => z ka)] at q
    refine iteN (fun e => e ka) ?_
    refine ⟨_, rfl, p, z, r, _, _, rfl, raw, _, _, rfl, rfl, _, rfl, raw, fun H' b h => ?_⟩
    have R1 : Rd CR H' p S a (d + 1) := R.move raw b (show Raw CR H' p z r a ((d + 1 : Nat) : Int) from h) R.ha
    exact ⟨_, rfl, p, rfl, R1.isI, p, S, a, d + 1, rfl, R1, ka, q H' b R1⟩
  · rw [if_pos (.inr ka)] at q
    refine iteP ka ?_
    exact ⟨_, rfl, p, rfl, R.isI, p, S, a, d, rfl, R, q⟩
end

end Sn

namespace Sn
open PySem PySem.Spec PyProof.Rows L2 TL
/-! ### reading values -/
theorem TK.sub {C CS p : Addr} {S : Src} {d d' : Nat} {H H1 : Hp} {Q Q1 : VK} {E : XK} {r : Rs Tn} {f : Tn → Nat → Rs Tn} (b : But p H H1) (h : TK C CS p S d H Q E (r.bind f))
    (k : ∀ (t : Tn) (a' : Nat) (H2 : Hp) (v : V), But p H1 H2 → But p H H2 → Rd C H2 p S a' d' → DT H2 t.d v → TK C CS p S d H Q E (f t a') → Q1 v H2) : TK C CS p S d' H1 Q1 E r := by
  cases r with
  | un => exact h
  | no s e => exact fun H' dd b' x => h H' dd (b.trans b') x
  | ok t a' => exact fun H2 v b' R D => k t a' H2 v b' (b.trans b') R D h
theorem Rs.bind_ok {α : Type} (r : Rs α) : r.bind (fun x a => .ok x a) = r := by cases r <;> rfl
theorem TK.one {C CS p : Addr} {S : Src} {d d' : Nat} {H H1 : Hp} {Q Q1 : VK} {E : XK} {r : Rs Tn} (b : But p H H1) (h : TK C CS p S d H Q E r)
    (k : ∀ (t : Tn) (a' : Nat) (H2 : Hp) (v : V), But p H1 H2 → But p H H2 → Rd C H2 p S a' d' → DT H2 t.d v → (∀ H3 v3, But p H H3 → Rd C H3 p S a' d → DT H3 t.d v3 → Q v3 H3) → Q1 v H2) : TK C CS p S d' H1 Q1 E r :=
  TK.sub (f := fun x a => .ok x a) b (by rw [Rs.bind_ok]; exact h) fun t a' H2 v bb b2 R2 D2 hq => k t a' H2 v bb b2 R2 D2 hq
def spT (C CS : Addr) (m : Src → Nat → Nat → Rs Tn) : Sp := fun vs H Q E => ∃ p S a d, vs = [.ref p] ∧ Rd C H p S a d ∧ TK C CS p S d H Q E (m S d a)
def spTs (C CS : Addr) (m : Src → Nat → Nat → Nat → Rs Tn) : Sp := fun vs H Q E => ∃ p S a d s, vs = [.ref p, .int ((s : Nat) : Int)] ∧ Rd C H p S a d ∧ TK C CS p S d H Q E (m S d s a)
def spTc (C CS : Addr) (m : Src → Nat → Nat → Nat → Rs Tn) : Sp := fun vs H Q E => ∃ p S a d s, vs = [.ref p, .int ((s : Nat) : Int)] ∧ 1 ≤ s ∧ Rd C H p S a d ∧ TK C CS p S d H Q E (m S d s a)
def spTw (C CS : Addr) (m : Src → Nat → Nat → Rs Tn) : Sp := fun vs H Q E => ∃ p S a d w, vs = [.ref p, .str w] ∧ tl w ≠ [] ∧ Rd C H p S a d ∧ TK C CS p S d H Q E (S.part (m S d) w a)
section
variable {P : Program} {w : World} {K : PySem.W.Frag} {mg : Str → Option Value} {base : Heap} {f : Addr} {fd : FuncData} {aW CR CS aR : Addr} {tS t0 t1 t2 t3 t4 t5 t6 : PySem.Tok} {j jl jc : Nat} {MV : Src → Nat → Nat → Rs Tn} {MC : Src → Nat → Nat → Nat → Rs Tn}
abbrev s_Reader_value : Stmt := inClass (topS 25) 11
abbrev N_Reader_value : List Str := ["self", "start", "tree"]
theorem sc_Reader_value : FnScope N_Reader_value ["self"] (defScope s_Reader_value) := ⟨rfl, rfl, rfl, by decide +kernel, rfl, by decide +kernel, by decide +kernel⟩
theorem ok_value (h4 : 4 ≤ j) (hl : jl ≤ j) (hc : jc ≤ j) (F : Fun K "value" "Reader.value" s_Reader_value f fd) (T : NmR K w mg aW tS CR CS aR t0 t1 t2 t3 t4 t5 t6) (C_Reader_begin : CalM P w K mg base (L2N.CX P w) 4 CR "begin" (spBegin CR CS)) (C_Reader_taken : CalM P w K mg base CX0 3 CR "taken" (spTaken CR))
    (C_Reader_let : CalM P w K mg base (L2N.CX P w) jl CR "let" (spTs CR CS fun S d s a => S.letM (MV S d) s a)) (C_Reader_choice : CalM P w K mg base (L2N.CX P w) jl CR "choice" (spTs CR CS fun S d s a => S.ifM (MV S d) s a))
    (C_Reader_loop : CalM P w K mg base (L2N.CX P w) jl CR "loop" (spTs CR CS fun S d s a => S.loopM (MV S d) s a)) (C_Reader_chain : CalM P w K mg base (L2N.CX P w) jc CR "chain" (spTc CR CS fun S d s a => MC S s d a)) :
    FnOk P w K mg base (L2N.CX P w) (j + 1) f fd ["self"] (spT CR CS fun S d a => S.valM (MV S (d + 1)) (MC S 1 (d + 1)) d a) := by
  refine okXN F sc_Reader_value (fun vs H Q E h => ?_) (fun cdv A outer s H vs Q E hr h => ?_)
  · obtain ⟨p, S, a, d, rfl, _⟩ := h
    rfl
  obtain ⟨p, S, a, d, rfl, R, q⟩ := h
  have hr : Room j _ := hr
  refine ⟨_, (pss_cons (ps_set (i := 1) sc_Reader_value.nd rfl (Or.inl rfl) (pe_m0 ns_Reader C_Reader_begin T.cl_Reader (by decide) hr (by first | decide | omega) (L2N.passes_call (L2N.takes_of rfl rfl rfl rfl) (fun _ _ _ _ h => h)) (pv 0)))
    (C8.pss_cut (ps_if (pt_val (pe_m ns_Reader C_Reader_taken T.cl_Reader (by decide) hr (by first | decide | omega) pass0 (pv 0) (pa_cons pe_str pa_nil))) (pss_one (ps_set (i := 2) sc_Reader_value.nd rfl (Or.inl rfl) (pe_m ns_Reader C_Reader_let T.cl_Reader (by decide) hr (by first | decide | omega) (L2N.passes_call (L2N.takes_of rfl rfl rfl rfl) (fun _ _ _ _ h => h)) (pv 0) (pa_cons (pv 1) pa_nil)))) (pss_one (ps_if (pt_val (pe_m ns_Reader C_Reader_taken T.cl_Reader (by decide) hr (by first | decide | omega) pass0 (pv 0) (pa_cons pe_str pa_nil))) (pss_one (ps_set (i := 2) sc_Reader_value.nd rfl (Or.inl rfl) (pe_m ns_Reader C_Reader_choice T.cl_Reader (by decide) hr (by first | decide | omega) (L2N.passes_call (L2N.takes_of rfl rfl rfl rfl) (fun _ _ _ _ h => h)) (pv 0) (pa_cons (pv 1) pa_nil)))) (pss_one (ps_if (pt_val (pe_m ns_Reader C_Reader_taken T.cl_Reader (by decide) hr (by first | decide | omega) pass0 (pv 0) (pa_cons pe_str pa_nil))) (pss_one (ps_set (i := 2) sc_Reader_value.nd rfl (Or.inl rfl) (pe_m ns_Reader C_Reader_loop T.cl_Reader (by decide) hr (by first | decide | omega) (L2N.passes_call (L2N.takes_of rfl rfl rfl rfl) (fun _ _ _ _ h => h)) (pv 0) (pa_cons (pv 1) pa_nil)))) (pss_one (ps_set (i := 2) sc_Reader_value.nd rfl (Or.inl rfl) (pe_m ns_Reader C_Reader_chain T.cl_Reader (by decide) hr (by first | decide | omega) (L2N.passes_call (L2N.takes_of rfl rfl rfl rfl) (fun _ _ _ _ h => h)) (pv 0) (pa_cons (pe_glob (v := .int 1) (by rfl) T.g_LOWEST ⟨_, rfl⟩) pa_nil)))))))))
    (pss_cons (ps_rd_depth T (pv 0) pe_int in_sub)
    (pss_one (ps_ret (pv 2)))))), ?_⟩
  have q : TK CR CS p S d H Q E (S.valM (MV S (d + 1)) (MC S 1 (d + 1)) d a) := q
  unfold Src.valM at q
  refine ⟨_, rfl, p, rfl, R.isI, p, S, a, d, rfl, R, ?_⟩
  by_cases k0 : d = 30 ∨ ¬ a < S.n
  · rw [if_pos k0]
    rw [if_pos (k0.elim .inl fun z => .inr (by omega))] at q
    exact q
  rw [if_neg k0]
  rw [if_neg (fun e => k0 (e.elim .inl fun z => .inr (by omega)))] at q
  have ka : a < S.n := by
    by_cases z : a < S.n
    · exact z
    · exact absurd (.inr z) k0
  intro H1 b1 R1
  refine ⟨fun σ H' => ∃ (v : V) (t : Tn) (a' : Nat), σ = [some (.ref p), some (.int (S.st a : Int)), some v] ∧ But p H H' ∧ Rd CR H' p S a' (d + 1) ∧ DT H' t.d v ∧ ∀ H3 v3, But p H H3 → Rd CR H3 p S a' d → DT H3 t.d v3 → Q v3 H3, ?_, ?_⟩
  · refine ⟨_, rfl, p, rfl, R1.isI, p, S, a, d + 1, _, rfl, R1, by decide, ?_⟩
    cases k1 : S.eqW a "let" with
    | true =>
      rw [k1] at q
      refine iteT fun H2 b2 R2 => ⟨_, rfl, iteT ?_⟩
      refine ⟨_, rfl, p, rfl, R2.isI, _, rfl, p, S, a + 1, d + 1, S.st a, rfl, R2, TK.one (b1.trans b2) (show TK CR CS p S d H Q E _ from q) fun t a' H3 v _ b3 R3 D3 hq => ⟨v, t, a', rfl, b3, R3, D3, hq⟩⟩
    | false =>
    rw [k1] at q
    refine iteF ⟨_, rfl, iteF ?_⟩
    refine ⟨_, rfl, p, rfl, R1.isI, p, S, a, d + 1, _, rfl, R1, by decide, ?_⟩
    cases k2 : S.eqW a "if" with
    | true =>
      rw [k2] at q
      refine iteT fun H2 b2 R2 => ⟨_, rfl, iteT ?_⟩
      refine ⟨_, rfl, p, rfl, R2.isI, _, rfl, p, S, a + 1, d + 1, S.st a, rfl, R2, TK.one (b1.trans b2) (show TK CR CS p S d H Q E _ from q) fun t a' H3 v _ b3 R3 D3 hq => ⟨v, t, a', rfl, b3, R3, D3, hq⟩⟩
    | false =>
    rw [k2] at q
    refine iteF ⟨_, rfl, iteF ?_⟩
    refine ⟨_, rfl, p, rfl, R1.isI, p, S, a, d + 1, _, rfl, R1, by decide, ?_⟩
    cases k3 : S.eqW a "loop" with
    | true =>
      rw [k3] at q
      refine iteT fun H2 b2 R2 => ⟨_, rfl, iteT ?_⟩
      refine ⟨_, rfl, p, rfl, R2.isI, _, rfl, p, S, a + 1, d + 1, S.st a, rfl, R2, TK.one (b1.trans b2) (show TK CR CS p S d H Q E _ from q) fun t a' H3 v _ b3 R3 D3 hq => ⟨v, t, a', rfl, b3, R3, D3, hq⟩⟩
    | false =>
    rw [k3] at q
    refine iteF ⟨_, rfl, iteF ?_⟩
    refine ⟨_, rfl, p, rfl, R1.isI, p, S, a, d + 1, 1, rfl, by decide, R1, TK.one b1 (show TK CR CS p S d H Q E _ from q) fun t a' H3 v _ b3 R3 D3 hq => ⟨v, t, a', rfl, b3, R3, D3, hq⟩⟩
  · rintro σ H2 ⟨v, t, a', rfl, b2, R2, D2, hq⟩
    obtain ⟨z, r, rs, ez, raw, hr0, hl, tk⟩ := R2.nor
    refine ⟨_, rfl, p, z, r, _, _, rfl, raw, _, _, rfl, rfl, _, rfl, raw, fun H3 b3 h3 => ⟨_, rfl, ?_⟩⟩
    refine hq H3 v (b2.trans b3) (R2.move raw b3 (show Raw CR H3 p z r a' (d : Int) from ?_) R2.ha) (D2.keep (R2.tups b3))
    have e : ((d + 1 : Nat) : Int) - 1 = (d : Int) := by omega
    rw [← e]
    exact h3
end

end Sn

namespace Sn
open PySem PySem.Spec PyProof.Rows L2 TL
/-! ### parts of values -/
theorem num_item {H : Hp} {t : Tn} {v : V} (D : DT H t.d v) : ∃ a vs, v = .ref a ∧ H a = some (.tup vs) ∧ vs[1]? = some (.int (t.s : Int)) ∧ vs[2]? = some (.int (t.e : Int)) := by
  obtain ⟨a, r, e, h, _⟩ := Tn.at_ D
  exact ⟨a, _, e, h, rfl, rfl⟩
section
variable {P : Program} {w : World} {K : PySem.W.Frag} {mg : Str → Option Value} {base : Heap} {f : Addr} {fd : FuncData} {aW CR CS aR : Addr} {tS t0 t1 t2 t3 t4 t5 t6 : PySem.Tok} {jv : Nat} {MV : Src → Nat → Nat → Rs Tn}
abbrev s_Reader_part : Stmt := inClass (topS 25) 12
abbrev N_Reader_part : List Str := ["self", "word"]
theorem sc_Reader_part : FnScope N_Reader_part ["self", "word"] (defScope s_Reader_part) := ⟨rfl, rfl, rfl, by decide +kernel, rfl, by decide +kernel, by decide +kernel⟩
theorem ok_part (h5 : 5 ≤ jv) (F : Fun K "part" "Reader.part" s_Reader_part f fd) (T : NmR K w mg aW tS CR CS aR t0 t1 t2 t3 t4 t5 t6) (C_Reader_expect : CalM P w K mg base (L2N.CX P w) 4 CR "expect" (spExpect CR CS))
    (C_Reader_value : CalM P w K mg base (L2N.CX P w) (jv) CR "value" (spT CR CS fun S d a => MV S d a)) : FnOk P w K mg base (L2N.CX P w) (jv + 1) f fd ["self", "word"] (spTw CR CS fun S d a => MV S d a) := by
  refine okXN F sc_Reader_part (fun vs H Q E h => ?_) (fun cdv A outer s H vs Q E hr h => ?_)
  · obtain ⟨p, S, a, d, x, rfl, _⟩ := h
    rfl
  obtain ⟨p, S, a, d, x, rfl, hx, R, q⟩ := h
  have hr : Room (jv) _ := hr
  refine ⟨_, (pss_cons (ps_expr (pe_m ns_Reader C_Reader_expect T.cl_Reader (by decide) hr (by first | decide | omega) (L2N.passes_call (L2N.takes_of rfl rfl rfl rfl) (fun _ _ _ _ h => h)) (pv 0) (pa_cons (pv 1) pa_nil)))
    (pss_one (ps_ret (pe_m0 ns_Reader C_Reader_value T.cl_Reader (by decide) hr (by first | decide | omega) (L2N.passes_call (L2N.takes_of rfl rfl rfl rfl) (fun _ _ _ _ h => h)) (pv 0))))), ?_⟩
  have q : TK CR CS p S d H Q E (S.part (fun a => MV S d a) x a) := q
  unfold Src.part at q
  refine ⟨_, rfl, p, rfl, R.isI, _, rfl, p, S, a, d, x, rfl, R, hx, ?_⟩
  cases k1 : S.eqW a x with
  | false =>
    rw [k1] at q
    exact q
  | true =>
    rw [k1] at q
    intro H1 b1 R1
    exact ⟨_, rfl, p, rfl, R1.isI, p, S, a + 1, d, rfl, R1, TK.one b1 (show TK CR CS p S d H Q E _ from q) fun t a' H2 v _ b2 R2 D2 hq => hq H2 v b2 R2 D2⟩
abbrev s_Reader_let : Stmt := inClass (topS 25) 13
abbrev N_Reader_let : List Str := ["self", "start", "name", "at", "value", "body"]
theorem sc_Reader_let : FnScope N_Reader_let ["self", "start"] (defScope s_Reader_let) := ⟨rfl, rfl, rfl, by decide +kernel, rfl, by decide +kernel, by decide +kernel⟩
theorem ok_let (h5 : 5 ≤ jv) (F : Fun K "let" "Reader.let" s_Reader_let f fd) (T : NmR K w mg aW tS CR CS aR t0 t1 t2 t3 t4 t5 t6) (C_Reader_mark : CalM P w K mg base (L2N.CX P w) 4 CR "mark" (spMark CR CS))
    (C_Reader_part : CalM P w K mg base (L2N.CX P w) (jv + 1) CR "part" (spTw CR CS fun S d a => MV S d a)) : FnOk P w K mg base (L2N.CX P w) (jv + 2) f fd ["self", "start"] (spTs CR CS fun S d s a => S.letM (MV S d) s a) := by
  refine okXN F sc_Reader_let (fun vs H Q E h => ?_) (fun cdv A outer s H vs Q E hr h => ?_)
  · obtain ⟨p, S, a, d, x, rfl, _⟩ := h
    rfl
  obtain ⟨p, S, a, d, x, rfl, R, q⟩ := h
  have hr : Room (jv + 1) _ := hr
  refine ⟨_, (pss_cons (ps_asg (pe_m0 ns_Reader C_Reader_mark T.cl_Reader (by decide) hr (by first | decide | omega) (L2N.passes_call (L2N.takes_of rfl rfl rfl rfl) (fun _ _ _ _ h => h)) (pv 0)) (pg_tup rfl (pgs_cons (pg_name (i := 2) sc_Reader_let.nd rfl (Or.inl rfl)) (pgs_cons (pg_name (i := 3) sc_Reader_let.nd rfl (Or.inl rfl)) pgs_nil))))
    (pss_cons (ps_set (i := 4) sc_Reader_let.nd rfl (Or.inl rfl) (pe_m ns_Reader C_Reader_part T.cl_Reader (by decide) hr (by first | decide | omega) (L2N.passes_call (L2N.takes_of rfl rfl rfl rfl) (fun _ _ _ _ h => h)) (pv 0) (pa_cons pe_str pa_nil)))
    (pss_cons (ps_set (i := 5) sc_Reader_let.nd rfl (Or.inl rfl) (pe_m ns_Reader C_Reader_part T.cl_Reader (by decide) hr (by first | decide | omega) (L2N.passes_call (L2N.takes_of rfl rfl rfl rfl) (fun _ _ _ _ h => h)) (pv 0) (pa_cons pe_str pa_nil)))
    (pss_one (ps_ret (pe_tup (pa_cons pe_str (pa_cons (pv 1) (pa_cons (pe_ix (r := rIxT K) ix_tup (pv 5) pe_int (fun _ _ => rfl)) (pa_cons (pv 2) (pa_cons (pv 3) (pa_cons (pv 4) (pa_cons (pv 5) pa_nil))))))))))))), ?_⟩
  have q : TK CR CS p S d H Q E (S.letM (MV S d) x a) := q
  unfold Src.letM at q
  refine ⟨_, rfl, p, rfl, R.isI, p, S, a, d, rfl, R, ?_⟩
  cases k1 : S.isN a with
  | false =>
    rw [k1] at q
    exact q
  | true =>
  rw [k1] at q
  intro H1 m b1 R1 hm
  refine ⟨m, _, rfl, .inl (.inl hm), rfl, _, _, rfl, _, _, rfl, rfl, ?_⟩
  refine ⟨_, rfl, p, rfl, R1.isI, p, S, a + 1, d, _, rfl, by decide, R1, TK.sub b1 (show TK CR CS p S d H Q E _ from q) fun t1 a1 H2 v1 _ b2 R2 D1 q1 => ?_⟩
  refine ⟨_, rfl, p, rfl, R2.isI, p, S, a1, d, _, rfl, by decide, R2, TK.sub b2 q1 fun t2 a2 H3 v2 c3 b3 R3 D2 q2 => ?_⟩
  have D1 := D1.keep (R2.tups c3)
  obtain ⟨x2, vs2, rfl, g2, i1, i2⟩ := num_item D2
  refine ⟨_, rfl, _, rfl, x2, _, _, _, rfl, rfl, .inl (.inl g2), at_nat i2, _, rfl, _, rfl, _, rfl, _, rfl, (by show 7 ≤ sizeLine; decide), fun y ny => ?_⟩
  have sy := same_new (o := .tup [.str "let", .int (x : Int), .int (t2.e : Int), .str (strL (S.wd a)), .int (S.st a : Int), v1, .ref x2]) ny
  refine q2 _ _ (b3.trans (But.of sy)) (R3.same sy) (Tn.mk_ (t := ⟨"let", x, t2.e, _⟩) upd_same (.cons DT.str (.cons DT.int (.cons (D1.keep fun _ _ h => sy _ _ h) (.cons (D2.keep fun _ _ h => sy _ _ h) .nil)))) (by show 7 ≤ 1000000; decide))
abbrev s_Reader_choice : Stmt := inClass (topS 25) 14
abbrev N_Reader_choice : List Str := ["self", "start", "test", "yes", "no"]
theorem sc_Reader_choice : FnScope N_Reader_choice ["self", "start"] (defScope s_Reader_choice) := ⟨rfl, rfl, rfl, by decide +kernel, rfl, by decide +kernel, by decide +kernel⟩
theorem ok_choice (h5 : 5 ≤ jv) (F : Fun K "choice" "Reader.choice" s_Reader_choice f fd) (T : NmR K w mg aW tS CR CS aR t0 t1 t2 t3 t4 t5 t6) (C_Reader_value : CalM P w K mg base (L2N.CX P w) (jv) CR "value" (spT CR CS fun S d a => MV S d a))
    (C_Reader_part : CalM P w K mg base (L2N.CX P w) (jv + 1) CR "part" (spTw CR CS fun S d a => MV S d a)) : FnOk P w K mg base (L2N.CX P w) (jv + 2) f fd ["self", "start"] (spTs CR CS fun S d s a => S.ifM (MV S d) s a) := by
  refine okXN F sc_Reader_choice (fun vs H Q E h => ?_) (fun cdv A outer s H vs Q E hr h => ?_)
  · obtain ⟨p, S, a, d, x, rfl, _⟩ := h
    rfl
  obtain ⟨p, S, a, d, x, rfl, R, q⟩ := h
  have hr : Room (jv + 1) _ := hr
  refine ⟨_, (pss_cons (ps_set (i := 2) sc_Reader_choice.nd rfl (Or.inl rfl) (pe_m0 ns_Reader C_Reader_value T.cl_Reader (by decide) hr (by first | decide | omega) (L2N.passes_call (L2N.takes_of rfl rfl rfl rfl) (fun _ _ _ _ h => h)) (pv 0)))
    (pss_cons (ps_set (i := 3) sc_Reader_choice.nd rfl (Or.inl rfl) (pe_m ns_Reader C_Reader_part T.cl_Reader (by decide) hr (by first | decide | omega) (L2N.passes_call (L2N.takes_of rfl rfl rfl rfl) (fun _ _ _ _ h => h)) (pv 0) (pa_cons pe_str pa_nil)))
    (pss_cons (ps_set (i := 4) sc_Reader_choice.nd rfl (Or.inl rfl) (pe_m ns_Reader C_Reader_part T.cl_Reader (by decide) hr (by first | decide | omega) (L2N.passes_call (L2N.takes_of rfl rfl rfl rfl) (fun _ _ _ _ h => h)) (pv 0) (pa_cons pe_str pa_nil)))
    (pss_one (ps_ret (pe_tup (pa_cons pe_str (pa_cons (pv 1) (pa_cons (pe_ix (r := rIxT K) ix_tup (pv 4) pe_int (fun _ _ => rfl)) (pa_cons (pv 2) (pa_cons (pv 3) (pa_cons (pv 4) pa_nil)))))))))))), ?_⟩
  have q : TK CR CS p S d H Q E (S.ifM (MV S d) x a) := q
  unfold Src.ifM at q
  refine ⟨_, rfl, p, rfl, R.isI, p, S, a, d, rfl, R, TK.sub (But.refl p H) q fun t1 a1 H1 v1 _ b1 R1 D1 q1 => ?_⟩
  refine ⟨_, rfl, p, rfl, R1.isI, p, S, a1, d, _, rfl, by decide, R1, TK.sub b1 q1 fun t2 a2 H2 v2 c2 b2 R2 D2 q2 => ?_⟩
  refine ⟨_, rfl, p, rfl, R2.isI, p, S, a2, d, _, rfl, by decide, R2, TK.sub b2 q2 fun t3 a3 H3 v3 c3 b3 R3 D3 q3 => ?_⟩
  have D1 := (D1.keep (R1.tups c2)).keep (R2.tups c3)
  have D2 := D2.keep (R2.tups c3)
  obtain ⟨x2, vs2, rfl, g2, i1, i2⟩ := num_item D3
  refine ⟨_, rfl, _, rfl, x2, _, _, _, rfl, rfl, .inl (.inl g2), at_nat i2, _, rfl, _, rfl, _, rfl, (by show 6 ≤ sizeLine; decide), fun y ny => ?_⟩
  have sy := same_new (o := .tup [.str "if", .int (x : Int), .int (t3.e : Int), v1, v2, .ref x2]) ny
  refine q3 _ _ (b3.trans (But.of sy)) (R3.same sy) (Tn.mk_ (t := ⟨"if", x, t3.e, _⟩) upd_same (.cons (D1.keep fun _ _ h => sy _ _ h) (.cons (D2.keep fun _ _ h => sy _ _ h) (.cons (D3.keep fun _ _ h => sy _ _ h) .nil))) (by show 6 ≤ 1000000; decide))
abbrev s_Reader_loop : Stmt := inClass (topS 25) 15
abbrev N_Reader_loop : List Str := ["self", "start", "name", "at", "first", "count", "step"]
theorem sc_Reader_loop : FnScope N_Reader_loop ["self", "start"] (defScope s_Reader_loop) := ⟨rfl, rfl, rfl, by decide +kernel, rfl, by decide +kernel, by decide +kernel⟩
theorem ok_loop (h5 : 5 ≤ jv) (F : Fun K "loop" "Reader.loop" s_Reader_loop f fd) (T : NmR K w mg aW tS CR CS aR t0 t1 t2 t3 t4 t5 t6) (C_Reader_mark : CalM P w K mg base (L2N.CX P w) 4 CR "mark" (spMark CR CS))
    (C_Reader_part : CalM P w K mg base (L2N.CX P w) (jv + 1) CR "part" (spTw CR CS fun S d a => MV S d a)) : FnOk P w K mg base (L2N.CX P w) (jv + 2) f fd ["self", "start"] (spTs CR CS fun S d s a => S.loopM (MV S d) s a) := by
  refine okXN F sc_Reader_loop (fun vs H Q E h => ?_) (fun cdv A outer s H vs Q E hr h => ?_)
  · obtain ⟨p, S, a, d, x, rfl, _⟩ := h
    rfl
  obtain ⟨p, S, a, d, x, rfl, R, q⟩ := h
  have hr : Room (jv + 1) _ := hr
  refine ⟨_, (pss_cons (ps_asg (pe_m0 ns_Reader C_Reader_mark T.cl_Reader (by decide) hr (by first | decide | omega) (L2N.passes_call (L2N.takes_of rfl rfl rfl rfl) (fun _ _ _ _ h => h)) (pv 0)) (pg_tup rfl (pgs_cons (pg_name (i := 2) sc_Reader_loop.nd rfl (Or.inl rfl)) (pgs_cons (pg_name (i := 3) sc_Reader_loop.nd rfl (Or.inl rfl)) pgs_nil))))
    (pss_cons (ps_set (i := 4) sc_Reader_loop.nd rfl (Or.inl rfl) (pe_m ns_Reader C_Reader_part T.cl_Reader (by decide) hr (by first | decide | omega) (L2N.passes_call (L2N.takes_of rfl rfl rfl rfl) (fun _ _ _ _ h => h)) (pv 0) (pa_cons pe_str pa_nil)))
    (pss_cons (ps_set (i := 5) sc_Reader_loop.nd rfl (Or.inl rfl) (pe_m ns_Reader C_Reader_part T.cl_Reader (by decide) hr (by first | decide | omega) (L2N.passes_call (L2N.takes_of rfl rfl rfl rfl) (fun _ _ _ _ h => h)) (pv 0) (pa_cons pe_str pa_nil)))
    (pss_cons (ps_set (i := 6) sc_Reader_loop.nd rfl (Or.inl rfl) (pe_m ns_Reader C_Reader_part T.cl_Reader (by decide) hr (by first | decide | omega) (L2N.passes_call (L2N.takes_of rfl rfl rfl rfl) (fun _ _ _ _ h => h)) (pv 0) (pa_cons pe_str pa_nil)))
    (pss_one (ps_ret (pe_tup (pa_cons pe_str (pa_cons (pv 1) (pa_cons (pe_ix (r := rIxT K) ix_tup (pv 6) pe_int (fun _ _ => rfl)) (pa_cons (pv 2) (pa_cons (pv 3) (pa_cons (pv 4) (pa_cons (pv 5) (pa_cons (pv 6) pa_nil))))))))))))))), ?_⟩
  have q : TK CR CS p S d H Q E (S.loopM (MV S d) x a) := q
  unfold Src.loopM at q
  refine ⟨_, rfl, p, rfl, R.isI, p, S, a, d, rfl, R, ?_⟩
  cases k1 : S.isN a with
  | false =>
    rw [k1] at q
    exact q
  | true =>
  rw [k1] at q
  intro H1 m b1 R1 hm
  refine ⟨m, _, rfl, .inl (.inl hm), rfl, _, _, rfl, _, _, rfl, rfl, ?_⟩
  refine ⟨_, rfl, p, rfl, R1.isI, p, S, a + 1, d, _, rfl, by decide, R1, TK.sub b1 (show TK CR CS p S d H Q E _ from q) fun t1 a1 H2 v1 _ b2 R2 D1 q1 => ?_⟩
  refine ⟨_, rfl, p, rfl, R2.isI, p, S, a1, d, _, rfl, by decide, R2, TK.sub b2 q1 fun t2 a2 H3 v2 c3 b3 R3 D2 q2 => ?_⟩
  refine ⟨_, rfl, p, rfl, R3.isI, p, S, a2, d, _, rfl, by decide, R3, TK.sub b3 q2 fun t3 a3 H4 v3 c4 b4 R4 D3 q3 => ?_⟩
  have D1 := (D1.keep (R2.tups c3)).keep (R3.tups c4)
  have D2 := D2.keep (R3.tups c4)
  obtain ⟨x2, vs2, rfl, g2, i1, i2⟩ := num_item D3
  refine ⟨_, rfl, _, rfl, x2, _, _, _, rfl, rfl, .inl (.inl g2), at_nat i2, _, rfl, _, rfl, _, rfl, _, rfl, _, rfl, (by show 8 ≤ sizeLine; decide), fun y ny => ?_⟩
  have sy := same_new (o := .tup [.str "loop", .int (x : Int), .int (t3.e : Int), .str (strL (S.wd a)), .int (S.st a : Int), v1, v2, .ref x2]) ny
  refine q3 _ _ (b4.trans (But.of sy)) (R4.same sy) (Tn.mk_ (t := ⟨"loop", x, t3.e, _⟩) upd_same (.cons DT.str (.cons DT.int (.cons (D1.keep fun _ _ h => sy _ _ h) (.cons (D2.keep fun _ _ h => sy _ _ h) (.cons (D3.keep fun _ _ h => sy _ _ h) .nil))))) (by show 8 ≤ 1000000; decide))
end

end Sn

namespace Sn
open PySem PySem.Spec PyProof.Rows L2 TL
/-! ### signs, fields, simple values -/
/-- negated, at a "not" -/
def spNot (C CS : Addr) (m : Src → Nat → Nat → Rs Tn) : Sp := fun vs H Q E => ∃ p S a d, vs = [.ref p] ∧ Rd C H p S a d ∧ a < S.n ∧ TK C CS p S d H Q E (m S d a)
def notM (S : Src) (N : Nat → Rs Tn) (d a : Nat) : Rs Tn := if d = 30 then S.fail a else (N (a + 1)).bind fun t a' => .ok ⟨"not", S.st a, t.e, [t.d]⟩ a'
theorem Rd.down {C : Addr} {H H' : Hp} {p : Addr} {S : Src} {a d : Nat} {z : Str} {r : Addr} (R : Rd C H p S a (d + 1)) (R0 : Raw C H p z r a ((d + 1 : Nat) : Int)) (b : But p H H') (h : Raw C H' p z r a (((d + 1 : Nat) : Int) - 1)) : Rd C H' p S a d := by
  have e : ((d + 1 : Nat) : Int) - 1 = (d : Int) := by omega
  rw [e] at h
  exact R.move R0 b h R.ha
section
variable {P : Program} {w : World} {K : PySem.W.Frag} {mg : Str → Option Value} {base : Heap} {f : Addr} {fd : FuncData} {aW CR CS aR : Addr} {tS t0 t1 t2 t3 t4 t5 t6 : PySem.Tok} {jv jc j jr js : Nat} {MV MG MN : Src → Nat → Nat → Rs Tn} {MC : Src → Nat → Nat → Nat → Rs Tn}
abbrev s_Reader_negated : Stmt := inClass (topS 25) 17
abbrev N_Reader_negated : List Str := ["self", "start", "inner"]
theorem sc_Reader_negated : FnScope N_Reader_negated ["self"] (defScope s_Reader_negated) := ⟨rfl, rfl, rfl, by decide +kernel, rfl, by decide +kernel, by decide +kernel⟩
theorem ok_negated (h4 : 4 ≤ jc) (F : Fun K "negated" "Reader.negated" s_Reader_negated f fd) (T : NmR K w mg aW tS CR CS aR t0 t1 t2 t3 t4 t5 t6) (C_Reader_begin : CalM P w K mg base (L2N.CX P w) 4 CR "begin" (spBegin CR CS))
    (C_Reader_chain : CalM P w K mg base (L2N.CX P w) jc CR "chain" (spTc CR CS fun S d s a => MC S s d a)) : FnOk P w K mg base (L2N.CX P w) (jc + 1) f fd ["self"] (spNot CR CS fun S d a => notM S (MC S 3 (d + 1)) d a) := by
  refine okXN F sc_Reader_negated (fun vs H Q E h => ?_) (fun cdv A outer s H vs Q E hr h => ?_)
  · obtain ⟨p, S, a, d, rfl, _⟩ := h
    rfl
  obtain ⟨p, S, a, d, rfl, R, ka, q⟩ := h
  have hr : Room jc _ := hr
  refine ⟨_, (pss_cons (ps_set (i := 1) sc_Reader_negated.nd rfl (Or.inl rfl) (pe_m0 ns_Reader C_Reader_begin T.cl_Reader (by decide) hr (by first | decide | omega) (L2N.passes_call (L2N.takes_of rfl rfl rfl rfl) (fun _ _ _ _ h => h)) (pv 0)))
    (pss_cons (ps_rd_at T (pv 0) pe_int in_add)
    (pss_cons (ps_set (i := 2) sc_Reader_negated.nd rfl (Or.inl rfl) (pe_m ns_Reader C_Reader_chain T.cl_Reader (by decide) hr (by first | decide | omega) (L2N.passes_call (L2N.takes_of rfl rfl rfl rfl) (fun _ _ _ _ h => h)) (pv 0) (pa_cons (pe_glob (v := .int 3) (by rfl) T.g_NEGATION ⟨_, rfl⟩) pa_nil)))
    (pss_cons (ps_rd_depth T (pv 0) pe_int in_sub)
    (pss_one (ps_ret (pe_tup (pa_cons pe_str (pa_cons (pv 1) (pa_cons (pe_ix (r := rIxT K) ix_tup (pv 2) pe_int (fun _ _ => rfl)) (pa_cons (pv 2) pa_nil))))))))))), ?_⟩
  have q : TK CR CS p S d H Q E (notM S (MC S 3 (d + 1)) d a) := q
  unfold notM at q
  refine ⟨_, rfl, p, rfl, R.isI, p, S, a, d, rfl, R, ?_⟩
  by_cases kd : d = 30
  · rw [if_pos (.inl kd)]
    rw [if_pos kd] at q
    exact q
  rw [if_neg (fun e => e.elim kd fun z => z ka)]
  rw [if_neg kd] at q
  intro H1 b1 R1
  obtain ⟨z, r, rs, ez, raw, hr0, hl, tk⟩ := R1.nor
  refine ⟨_, rfl, p, z, r, _, _, rfl, raw, _, _, rfl, rfl, _, rfl, raw, fun H2 b2 h2 => ?_⟩
  have R2 := R1.step raw b2 h2 ka
  refine ⟨_, rfl, p, rfl, R2.isI, p, S, a + 1, d + 1, 3, rfl, by decide, R2, TK.sub (b1.trans b2) q fun t a' H3 v c3 b3 R3 D3 q3 => ?_⟩
  obtain ⟨z, r, rs, ez, raw, hr0, hl, tk⟩ := R3.nor
  refine ⟨_, rfl, p, z, r, _, _, rfl, raw, _, _, rfl, rfl, _, rfl, raw, fun H4 b4 h4 => ?_⟩
  have R4 := R3.down raw b4 h4
  have D4 := D3.keep (R3.tups b4)
  obtain ⟨x2, vs2, rfl, g2, i1, i2⟩ := num_item D4
  refine ⟨_, rfl, _, rfl, x2, _, _, _, rfl, rfl, .inl (.inl g2), at_nat i2, _, rfl, (by show 4 ≤ sizeLine; decide), fun y ny => ?_⟩
  have sy := same_new (o := .tup [.str "not", .int (S.st a : Int), .int (t.e : Int), .ref x2]) ny
  exact q3 _ _ ((b3.trans b4).trans (But.of sy)) (R4.same sy) (Tn.mk_ (t := ⟨"not", S.st a, t.e, _⟩) upd_same (.cons (D4.keep fun _ _ h => sy _ _ h) .nil) (by show 4 ≤ 1000000; decide))
abbrev s_Reader_signed : Stmt := inClass (topS 25) 18
abbrev N_Reader_signed : List Str := ["self", "start", "inner"]
theorem sc_Reader_signed : FnScope N_Reader_signed ["self"] (defScope s_Reader_signed) := ⟨rfl, rfl, rfl, by decide +kernel, rfl, by decide +kernel, by decide +kernel⟩
theorem ok_signed (h4 : 4 ≤ j) (hr1 : jr ≤ j) (hs1 : js ≤ j) (F : Fun K "signed" "Reader.signed" s_Reader_signed f fd) (T : NmR K w mg aW tS CR CS aR t0 t1 t2 t3 t4 t5 t6) (C_Reader_peek : CalM P w K mg base CX0 2 CR "peek" (spPeek CR)) (C_Reader_begin : CalM P w K mg base (L2N.CX P w) 4 CR "begin" (spBegin CR CS))
    (C_Reader_reached : CalM P w K mg base (L2N.CX P w) jr CR "reached" (spT CR CS fun S d a => S.reachM (MV S d) a)) (C_Reader_signed : CalM P w K mg base (L2N.CX P w) js CR "signed" (spT CR CS fun S d a => MG S d a)) :
    FnOk P w K mg base (L2N.CX P w) (j + 1) f fd ["self"] (spT CR CS fun S d a => S.signM (MG S (d + 1)) (MV S d) d a) := by
  refine okXN F sc_Reader_signed (fun vs H Q E h => ?_) (fun cdv A outer s H vs Q E hr h => ?_)
  · obtain ⟨p, S, a, d, rfl, _⟩ := h
    rfl
  obtain ⟨p, S, a, d, rfl, R, q⟩ := h
  have hr : Room j _ := hr
  refine ⟨_, (pss_cons (ps_if (pt_cmpR op_ne (pe_m0 ns_Reader C_Reader_peek T.cl_Reader (by decide) hr (by first | decide | omega) pass0 (pv 0)) pe_str (nomark _)) (pss_one (ps_ret (pe_m0 ns_Reader C_Reader_reached T.cl_Reader (by decide) hr (by first | decide | omega) (L2N.passes_call (L2N.takes_of rfl rfl rfl rfl) (fun _ _ _ _ h => h)) (pv 0)))) pss_nil)
    (pss_cons (ps_set (i := 1) sc_Reader_signed.nd rfl (Or.inl rfl) (pe_m0 ns_Reader C_Reader_begin T.cl_Reader (by decide) hr (by first | decide | omega) (L2N.passes_call (L2N.takes_of rfl rfl rfl rfl) (fun _ _ _ _ h => h)) (pv 0)))
    (pss_cons (ps_rd_at T (pv 0) pe_int in_add)
    (pss_cons (ps_set (i := 2) sc_Reader_signed.nd rfl (Or.inl rfl) (pe_m0 ns_Reader C_Reader_signed T.cl_Reader (by decide) hr (by first | decide | omega) (L2N.passes_call (L2N.takes_of rfl rfl rfl rfl) (fun _ _ _ _ h => h)) (pv 0)))
    (pss_cons (ps_rd_depth T (pv 0) pe_int in_sub)
    (pss_one (ps_ret (pe_tup (pa_cons pe_str (pa_cons (pv 1) (pa_cons (pe_ix (r := rIxT K) ix_tup (pv 2) pe_int (fun _ _ => rfl)) (pa_cons (pv 2) pa_nil)))))))))))), ?_⟩
  have q : TK CR CS p S d H Q E (S.signM (MG S (d + 1)) (MV S d) d a) := q
  unfold Src.signM at q
  refine ⟨_, rfl, p, rfl, R.isI, p, S, a, d, rfl, R, rfl, _, rfl, ?_⟩
  rw [str_eqW]
  cases k1 : S.eqW a "-" with
  | false =>
    rw [k1] at q
    refine iteT ?_
    exact ⟨_, rfl, p, rfl, R.isI, p, S, a, d, rfl, R, q⟩
  | true =>
  rw [k1] at q
  refine iteF ?_
  have ka := lt_of_wd k1 (by decide)
  refine ⟨_, rfl, p, rfl, R.isI, p, S, a, d, rfl, R, ?_⟩
  by_cases kd : d = 30
  · rw [if_pos (.inl kd)]
    rw [if_pos rfl, if_pos kd] at q
    exact q
  rw [if_neg (fun e => e.elim kd fun z => z ka)]
  rw [if_pos rfl, if_neg kd] at q
  intro H1 b1 R1
  obtain ⟨z, r, rs, ez, raw, hr0, hl, tk⟩ := R1.nor
  refine ⟨_, rfl, p, z, r, _, _, rfl, raw, _, _, rfl, rfl, _, rfl, raw, fun H2 b2 h2 => ?_⟩
  have R2 := R1.step raw b2 h2 ka
  refine ⟨_, rfl, p, rfl, R2.isI, p, S, a + 1, d + 1, rfl, R2, TK.sub (b1.trans b2) q fun t a' H3 v c3 b3 R3 D3 q3 => ?_⟩
  obtain ⟨z, r, rs, ez, raw, hr0, hl, tk⟩ := R3.nor
  refine ⟨_, rfl, p, z, r, _, _, rfl, raw, _, _, rfl, rfl, _, rfl, raw, fun H4 b4 h4 => ?_⟩
  have R4 := R3.down raw b4 h4
  have D4 := D3.keep (R3.tups b4)
  obtain ⟨x2, vs2, rfl, g2, i1, i2⟩ := num_item D4
  refine ⟨_, rfl, _, rfl, x2, _, _, _, rfl, rfl, .inl (.inl g2), at_nat i2, _, rfl, (by show 4 ≤ sizeLine; decide), fun y ny => ?_⟩
  have sy := same_new (o := .tup [.str "minus", .int (S.st a : Int), .int (t.e : Int), .ref x2]) ny
  exact q3 _ _ ((b3.trans b4).trans (But.of sy)) (R4.same sy) (Tn.mk_ (t := ⟨"minus", S.st a, t.e, _⟩) upd_same (.cons (D4.keep fun _ _ h => sy _ _ h) .nil) (by show 4 ≤ 1000000; decide))
abbrev s_Reader_reached : Stmt := inClass (topS 25) 19
abbrev N_Reader_reached : List Str := ["self", "tree", "name", "at"]
theorem sc_Reader_reached : FnScope N_Reader_reached ["self"] (defScope s_Reader_reached) := ⟨rfl, rfl, rfl, by decide +kernel, rfl, by decide +kernel, by decide +kernel⟩
theorem wd_le (S : Src) (a : Nat) : (S.wd a).length ≤ S.l.length := by
  unfold Src.wd
  split
  · rw [List.length_take, List.length_drop]; omega
  · exact Nat.zero_le _
theorem ok_reached (h5 : 5 ≤ jv) (F : Fun K "reached" "Reader.reached" s_Reader_reached f fd) (T : NmR K w mg aW tS CR CS aR t0 t1 t2 t3 t4 t5 t6) (C_Reader_simple : CalM P w K mg base (L2N.CX P w) (jv + 2) CR "simple" (spT CR CS fun S d a => S.simpM (MV S d) a))
    (C_Reader_taken : CalM P w K mg base CX0 3 CR "taken" (spTaken CR)) (C_Reader_mark : CalM P w K mg base (L2N.CX P w) 4 CR "mark" (spMark CR CS)) :
    FnOk P w K mg base (L2N.CX P w) (jv + 3) f fd ["self"] (spT CR CS fun S d a => S.reachM (MV S d) a) := by
  refine okXN F sc_Reader_reached (fun vs H Q E h => ?_) (fun cdv A outer s H vs Q E hr h => ?_)
  · obtain ⟨p, S, a, d, rfl, _⟩ := h
    rfl
  obtain ⟨p, S, a, d, rfl, R, q⟩ := h
  have hr : Room (jv + 2) _ := hr
  refine ⟨_, (pss_cons (ps_set (i := 1) sc_Reader_reached.nd rfl (Or.inl rfl) (pe_m0 ns_Reader C_Reader_simple T.cl_Reader (by decide) hr (by first | decide | omega) (L2N.passes_call (L2N.takes_of rfl rfl rfl rfl) (fun _ _ _ _ h => h)) (pv 0)))
    (pss_cons (ps_while (passes_of rfl) (pt_val (pe_m ns_Reader C_Reader_taken T.cl_Reader (by decide) hr (by first | decide | omega) pass0 (pv 0) (pa_cons pe_str pa_nil))) (pss_cons (ps_asg (pe_m0 ns_Reader C_Reader_mark T.cl_Reader (by decide) hr (by first | decide | omega) (L2N.passes_call (L2N.takes_of rfl rfl rfl rfl) (fun _ _ _ _ h => h)) (pv 0)) (pg_tup rfl (pgs_cons (pg_name (i := 2) sc_Reader_reached.nd rfl (Or.inl rfl)) (pgs_cons (pg_name (i := 3) sc_Reader_reached.nd rfl (Or.inl rfl)) pgs_nil))))
    (pss_one (ps_set (i := 1) sc_Reader_reached.nd rfl (Or.inl rfl) (pe_tup (pa_cons pe_str (pa_cons (pe_ix (r := rIxT K) ix_tup (pv 1) pe_int (fun _ _ => rfl)) (pa_cons (pe_op op_add (pv 3) (pe_callB call_len_str (by rfl) T.len PySem.boot_len (pa_cons (pv 2) pa_nil))) (pa_cons (pv 1) (pa_cons (pv 2) pa_nil))))))))))
    (pss_one (ps_ret (pv 1))))), ?_⟩
  have q : TK CR CS p S d H Q E ((S.simpM (MV S d) a).bind S.dotsM) := q
  refine ⟨_, rfl, p, rfl, R.isI, p, S, a, d, rfl, R, TK.sub (But.refl p H) q fun t0' a0 H1 v1 _ b1 R1 D1 q1 => ?_⟩
  refine ⟨fun m σ H2 => ∃ (t : Tn) (a' : Nat) (v : V) (o2 o3 : Option V), σ = [some (.ref p), some v, o2, o3] ∧ But p H H2 ∧ Rd CR H2 p S a' d ∧ DT H2 t.d v ∧ TK CR CS p S d H Q E (S.dotsM t a') ∧ m = S.n + 1 - a', ⟨_, t0', a0, v1, none, none, rfl, b1, R1, D1, q1, rfl⟩, ?_⟩
  rintro m σ H2 ⟨t, a', v, o2, o3, rfl, b2, R2, D2, q2, rfl⟩
  rw [Src.dotsM] at q2
  refine ⟨_, rfl, p, rfl, R2.isI, p, S, a', d, _, rfl, R2, by decide, ?_⟩
  cases k1 : S.eqW a' "." with
  | false =>
    rw [k1] at q2
    refine iteF ⟨_, rfl, iteF ?_⟩
    exact ⟨_, rfl, q2 H2 v b2 R2 D2⟩
  | true =>
  rw [k1, if_pos rfl] at q2
  have ka := lt_of_wd k1 (by decide)
  refine iteT fun H3 b3 R3 => ⟨_, rfl, iteT ⟨fun σ' H' => ∃ m', m' < S.n + 1 - a' ∧ ∃ (t : Tn) (a' : Nat) (v : V) (o2 o3 : Option V), σ' = [some (.ref p), some v, o2, o3] ∧ But p H H' ∧ Rd CR H' p S a' d ∧ DT H' t.d v ∧ TK CR CS p S d H Q E (S.dotsM t a') ∧ m' = S.n + 1 - a', fun _ _ h => h, ?_⟩⟩
  refine ⟨_, rfl, p, rfl, R3.isI, p, S, a' + 1, d, rfl, R3, ?_⟩
  cases k2 : S.isN (a' + 1) with
  | false =>
    rw [k2] at q2
    exact fun H' dd b x => q2 H' dd ((b2.trans b3).trans b) x
  | true =>
  rw [k2, if_pos rfl, dif_pos ka] at q2
  intro H4 x b4 R4 hx
  refine ⟨x, _, rfl, .inl (.inl hx), rfl, _, _, rfl, _, _, rfl, rfl, ?_⟩
  have D4 := (D2.keep (R2.tups b3)).keep (R3.tups b4)
  obtain ⟨x2, vs2, rfl, g2, i1, i2⟩ := num_item D4
  have hwl := wd_le S (a' + 1)
  have hsl := R4.hl
  refine ⟨_, rfl, x2, _, _, _, rfl, rfl, .inl (.inl g2), at_nat i1, _, rfl, _, rfl, _, rfl, small (by show (S.wd (a' + 1)).toArray.size ≤ _; rw [List.size_toArray]; omega), _, _, rfl, rfl, _, rfl, _, rfl, (by show 5 ≤ sizeLine; decide), fun y ny => ?_⟩
  have el : (S.st (a' + 1) : Int) + (((strL (S.wd (a' + 1))).length : Nat) : Int) = ((S.st (a' + 1) + (S.wd (a' + 1)).length : Nat) : Int) := by
    show (S.st (a' + 1) : Int) + (((S.wd (a' + 1)).toArray.size : Nat) : Int) = _
    rw [List.size_toArray]
    omega
  dsimp only
  rw [el]
  have sy := same_new (o := .tup [.str "field", .int (t.s : Int), .int ((S.st (a' + 1) + (S.wd (a' + 1)).length : Nat) : Int), .ref x2, .str (strL (S.wd (a' + 1)))]) ny
  have hle := R4.ha
  exact ⟨_, by omega, ⟨"field", t.s, S.st (a' + 1) + (S.wd (a' + 1)).length, [t.d, S.strW (a' + 1)]⟩, a' + 2, _, _, _, rfl, ((b2.trans b3).trans b4).trans (But.of sy), R4.same sy, Tn.mk_ upd_same (.cons (D4.keep fun _ _ h => sy _ _ h) (.cons DT.str .nil)) (by show 5 ≤ 1000000; decide), q2, rfl⟩
end

end Sn

namespace Sn
open PySem PySem.Spec PyProof.Rows L2 TL
/-! ### simple values, calls, chains -/
theorem int_digit : ∀ c, isD c = true → PySem.intText? ⟨#[c]⟩ = some ((c : Int) - 48) := by
  intro c h
  have : c = 48 ∨ c = 49 ∨ c = 50 ∨ c = 51 ∨ c = 52 ∨ c = 53 ∨ c = 54 ∨ c = 55 ∨ c = 56 ∨ c = 57 := by
    unfold isD at h
    rw [Bool.and_eq_true, decide_eq_true_eq, decide_eq_true_eq] at h
    omega
  rcases this with h | h | h | h | h | h | h | h | h | h <;> (subst h; decide +kernel)
section
variable {P : Program} {w : World} {K : PySem.W.Frag} {mg : Str → Option Value} {base : Heap} {f : Addr} {fd : FuncData} {aW CR CS aR : Addr} {tS t0 t1 t2 t3 t4 t5 t6 : PySem.Tok} {jv : Nat} {MV : Src → Nat → Nat → Rs Tn}
abbrev s_number_value : Stmt := topS 16
abbrev N_number_value : List Str := ["digits", "value", "digit"]
theorem sc_number_value : FnScope N_number_value ["digits"] (defScope s_number_value) := ⟨rfl, rfl, rfl, by decide +kernel, rfl, by decide +kernel, by decide +kernel⟩
theorem ok_number_value (F : Fun K "number_value" "number_value" s_number_value f fd) (T : NmR K w mg aW tS CR CS aR t0 t1 t2 t3 t4 t5 t6) : FnOk P w K mg base CX0 1 f fd ["digits"] spNum := by
  refine F.ok sc_number_value (fun vs H Q E h => ?_) (fun cdv A outer s H vs Q E hr h => ?_)
  · obtain ⟨z, rfl, _⟩ := h
    rfl
  obtain ⟨z, rfl, hz, q⟩ := h
  refine ⟨_, (pss_cons (ps_set (i := 1) sc_number_value.nd rfl (Or.inl rfl) pe_int)
    (pss_cons (ps_for PassesOwn.never rfl (pi_str (pv 0)) (pg_name (i := 2) sc_number_value.nd rfl (Or.inl rfl)) (pss_one (ps_set (i := 1) sc_number_value.nd rfl (Or.inl rfl) (pe_op op_mod (pe_op op_add (pe_op op_mul (pv 1) pe_int) (pe_callTy call_int_str (by rfl) T.int_ (by decide +kernel) (pa_cons (pv 2) pa_nil))) (pe_glob (v := .int 4294967296) (by rfl) T.g_NUMBERS ⟨_, rfl⟩)))))
    (pss_one (ps_ret (pv 1))))), ?_⟩
  refine ⟨_, rfl, z, rfl, for_str (x := z) (fun i σ H' => H' = H ∧ ∃ v2, σ = [some (.str z), some (.int (Src.numv ((tl z).take i))), v2]) ⟨rfl, none, rfl⟩ ?_ ?_⟩
  · rintro i c σ H' hi ⟨rfl, v2, rfl⟩
    have hc : isD c = true := List.all_eq_true.mp hz c (List.mem_of_getElem? hi)
    have hb : 0 ≤ Src.numv ((tl z).take i) ∧ Src.numv ((tl z).take i) < 4294967296 := by
      generalize (tl z).take i = l
      rcases List.eq_nil_or_concat l with h | ⟨l', b, h⟩
      · subst h
        exact ⟨by decide, by decide⟩
      · subst h
        unfold Src.numv
        rw [List.concat_eq_append, List.foldl_append]
        exact ⟨Int.emod_nonneg _ (by decide), Int.emod_lt_of_pos _ (by decide)⟩
    refine ⟨_, rfl, _, _, rfl, rfl, .inl ⟨by omega, by omega⟩, _, rfl, _, _, rfl, int_digit c hc, by show 1 ≤ 640; decide, _, _, rfl, rfl, _, _, rfl, rfl, (by show (0 : Int) < 4294967296; decide), ?_⟩
    refine ⟨rfl, some (.str ⟨#[c]⟩), ?_⟩
    have : (tl z).take (i + 1) = (tl z).take i ++ [c] := by
      rw [List.take_add_one, show (tl z)[i]? = some c from hi]
      rfl
    rw [this]
    unfold Src.numv
    rw [List.foldl_append]
    rfl
  · rintro σ H' ⟨rfl, v2, rfl⟩
    refine ⟨_, rfl, ?_⟩
    rw [show List.take z.cps.toList.length (tl z) = tl z from List.take_length]
    exact q
abbrev s_Reader_named : Stmt := inClass (topS 25) 21
abbrev N_Reader_named : List Str := ["self", "name", "start", "found"]
theorem sc_Reader_named : FnScope N_Reader_named ["self"] (defScope s_Reader_named) := ⟨rfl, rfl, rfl, by decide +kernel, rfl, by decide +kernel, by decide +kernel⟩
theorem ok_named (h5 : 5 ≤ jv) (F : Fun K "named" "Reader.named" s_Reader_named f fd) (T : NmR K w mg aW tS CR CS aR t0 t1 t2 t3 t4 t5 t6) (C_Reader_mark : CalM P w K mg base (L2N.CX P w) 4 CR "mark" (spMark CR CS)) (C_Reader_taken : CalM P w K mg base CX0 3 CR "taken" (spTaken CR))
    (C_Reader_last_end : CalM P w K mg base CX0 1 CR "last_end" (spLast CR)) (C_Reader_peek : CalM P w K mg base CX0 2 CR "peek" (spPeek CR)) (C_Reader_value : CalM P w K mg base (L2N.CX P w) (jv) CR "value" (spT CR CS fun S d a => MV S d a))
    (C_Reader_expect : CalM P w K mg base (L2N.CX P w) 4 CR "expect" (spExpect CR CS)) : FnOk P w K mg base (L2N.CX P w) (jv + 1) f fd ["self"] (spT CR CS fun S d a => S.namedM (MV S d) a) := by
  refine okXN F sc_Reader_named (fun vs H Q E h => ?_) (fun cdv A outer s H vs Q E hr h => ?_)
  · obtain ⟨p, S, a, d, rfl, _⟩ := h
    rfl
  obtain ⟨p, S, a, d, rfl, R, q⟩ := h
  have hr : Room (jv) _ := hr
  refine ⟨_, (pss_cons (ps_asg (pe_m0 ns_Reader C_Reader_mark T.cl_Reader (by decide) hr (by first | decide | omega) (L2N.passes_call (L2N.takes_of rfl rfl rfl rfl) (fun _ _ _ _ h => h)) (pv 0)) (pg_tup rfl (pgs_cons (pg_name (i := 1) sc_Reader_named.nd rfl (Or.inl rfl)) (pgs_cons (pg_name (i := 2) sc_Reader_named.nd rfl (Or.inl rfl)) pgs_nil))))
    (pss_cons (ps_if (pt_not (pt_val (pe_m ns_Reader C_Reader_taken T.cl_Reader (by decide) hr (by first | decide | omega) pass0 (pv 0) (pa_cons pe_str pa_nil)))) (pss_one (ps_ret (pe_tup (pa_cons pe_str (pa_cons (pv 2) (pa_cons (pe_m0 ns_Reader C_Reader_last_end T.cl_Reader (by decide) hr (by first | decide | omega) pass0 (pv 0)) (pa_cons (pv 1) pa_nil))))))) pss_nil)
    (pss_cons (ps_set (i := 3) sc_Reader_named.nd rfl (Or.inl rfl) (pe_lst pa_nil))
    (C8.pss_cut (ps_if (pt_cmpR op_ne (pe_m0 ns_Reader C_Reader_peek T.cl_Reader (by decide) hr (by first | decide | omega) pass0 (pv 0)) pe_str (nomark _)) (pss_cons (ps_expr (pe_bm PySem.F.plainAttrs_list PySem.F.slot_list_append PySem.F.type_list_append mt_append (pv 3) (pa_cons (pe_m0 ns_Reader C_Reader_value T.cl_Reader (by decide) hr (by first | decide | omega) (L2N.passes_call (L2N.takes_of rfl rfl rfl rfl) (fun _ _ _ _ h => h)) (pv 0)) pa_nil)))
    (pss_one (ps_while (passes_of rfl) (pt_val (pe_m ns_Reader C_Reader_taken T.cl_Reader (by decide) hr (by first | decide | omega) pass0 (pv 0) (pa_cons pe_str pa_nil))) (pss_one (ps_expr (pe_bm PySem.F.plainAttrs_list PySem.F.slot_list_append PySem.F.type_list_append mt_append (pv 3) (pa_cons (pe_m0 ns_Reader C_Reader_value T.cl_Reader (by decide) hr (by first | decide | omega) (L2N.passes_call (L2N.takes_of rfl rfl rfl rfl) (fun _ _ _ _ h => h)) (pv 0)) pa_nil))))))) pss_nil)
    (pss_cons (ps_expr (pe_m ns_Reader C_Reader_expect T.cl_Reader (by decide) hr (by first | decide | omega) (L2N.passes_call (L2N.takes_of rfl rfl rfl rfl) (fun _ _ _ _ h => h)) (pv 0) (pa_cons pe_str pa_nil)))
    (pss_one (ps_ret (pe_tup (pa_cons pe_str (pa_cons (pv 2) (pa_cons (pe_m0 ns_Reader C_Reader_last_end T.cl_Reader (by decide) hr (by first | decide | omega) pass0 (pv 0)) (pa_cons (pv 1) (pa_cons (pe_callTy call_tuple_of (by rfl) T.tuple_ (by decide +kernel) (pa_cons (pv 3) pa_nil)) pa_nil))))))))))))), ?_⟩
  have q : TK CR CS p S d H Q E (S.namedM (MV S d) a) := q
  unfold Src.namedM at q
  refine ⟨_, rfl, p, rfl, R.isI, p, S, a, d, rfl, R, ?_⟩
  cases k1 : S.isN a with
  | false =>
    rw [k1] at q
    exact q
  | true =>
  rw [k1, if_pos rfl] at q
  intro H1 m b1 R1 hm
  refine ⟨m, _, rfl, .inl (.inl hm), rfl, _, _, rfl, _, _, rfl, rfl, ?_⟩
  refine ⟨_, rfl, p, rfl, R1.isI, p, S, a + 1, d, _, rfl, R1, by decide, ?_⟩
  cases k2 : S.eqW (a + 1) "(" with
  | false =>
    rw [k2] at q
    refine iteF ⟨_, rfl, iteT ?_⟩
    refine ⟨_, rfl, _, rfl, p, rfl, R1.isI, p, S, a, d, rfl, R1, _, rfl, (by show 4 ≤ sizeLine; decide), fun y ny => ?_⟩
    have sy := same_new (o := .tup [.str "name", .int (S.st a : Int), .int (S.en a : Int), .str (strL (S.wd a))]) ny
    exact q _ _ (b1.trans (But.of sy)) (R1.same sy) (Tn.mk_ (t := ⟨"name", S.st a, S.en a, [S.strW a]⟩) upd_same (.cons DT.str .nil) (by show 4 ≤ 1000000; decide))
  | true =>
  rw [k2, if_pos rfl] at q
  refine iteT fun H2 b2 R2 => ⟨_, rfl, iteF ?_⟩
  refine ⟨Nat.zero_le _, fun L nL => ?_⟩
  have Lp : L ≠ p := fun z => by
    obtain ⟨z0, _, ⟨dx, e2⟩, _⟩ := R2.ex
    rw [z, e2] at nL
    cases nL
  have nL0 : H L = none := by
    cases e : H L with
    | none => rfl
    | some o => rw [(b1.trans b2) L o Lp e] at nL; cases nL
  have rL : S.r ≠ L := fun z => by
    obtain ⟨ys, hy⟩ := R.row
    rw [z, nL0] at hy
    cases hy
  have sL := same_new (o := .lst []) nL
  have R3 : Rd CR (upd H2 L (.lst [])) p S (a + 2) d := R2.same sL
  have hL : upd H2 L (.lst []) L = some (.lst []) := upd_same
  have b3 : But p H (upd H2 L (.lst [])) := (b1.trans b2).trans (But.of sL)
  generalize upd H2 L (.lst []) = H3 at R3 hL b3 ⊢
  -- the list grows
  have grow : ∀ (H5 H6 : Hp) (acc : List D) (vs : List V) (a' : Nat) (t : Tn) (v : V), H5 L = some (.lst vs) → DTs H5 (ofL acc) vs → But p H5 H6 → Tups H5 H6 → But p H H6 → Rd CR H6 p S a' d → DT H6 t.d v →
      But p H (upd H6 L (.lst (vs ++ [v]))) ∧ Rd CR (upd H6 L (.lst (vs ++ [v]))) p S a' d ∧ DTs (upd H6 L (.lst (vs ++ [v]))) (ofL (acc ++ [t.d])) (vs ++ [v]) ∧ H6 L = some (.lst vs) := by
    intro H5 H6 acc vs a' t v h1 h2 h3 tp h4 R6 D6
    have h5 : H6 L = some (.lst vs) := h3 _ _ Lp h1
    have tk : Tups H6 (upd H6 L (.lst (vs ++ [v]))) := fun x ws h => by rw [upd_ne (fun z => by rw [z, h5] at h; cases h)]; exact h
    exact ⟨fun b o nb e => by rw [upd_ne (fun z => by rw [z, nL0] at e; cases e)]; exact h4 b o nb e, R6.updL h5 rL, DTs.snoc (D6.keep tk) acc vs (DTs.keep (fun x ws h => tk _ _ (tp _ _ h)) _ _ h2), h5⟩
  refine ⟨fun σ H4 => ∃ (acc : List D) (vs : List V) (a' : Nat), σ = [some (.ref p), some (.str (strL (S.wd a))), some (.int (S.st a : Int)), some (.ref L)] ∧ But p H H4 ∧ Rd CR H4 p S a' d ∧ H4 L = some (.lst vs) ∧ DTs H4 (ofL acc) vs ∧ vs.length ≤ 100001 ∧
      TK CR CS p S d H Q E (if S.eqW a' ")" = true then .ok ⟨"call", S.st a, S.en a', [S.strW a, .tup (ofL acc)]⟩ (a' + 1) else S.fail a'), ?_, ?_⟩
  · refine ⟨_, rfl, p, rfl, R3.isI, p, S, a + 2, d, rfl, R3, rfl, _, rfl, ?_⟩
    rw [str_eqW]
    cases k3 : S.eqW (a + 2) ")" with
    | true =>
      rw [k3, if_pos rfl] at q
      refine iteF ⟨[], [], a + 2, rfl, b3, R3, hL, DTs.nil, Nat.zero_le _, ?_⟩
      rw [k3, if_pos rfl]
      exact q
    | false =>
    rw [k3] at q
    refine iteT ?_
    refine ⟨_, rfl, .inl ⟨rfl, _, SqL.of hL⟩, _, rfl, p, rfl, R3.isI, p, S, a + 2, d, rfl, R3, TK.sub b3 (show TK CR CS p S d H Q E _ from q) fun t a1 H4 v c4 b4 R4 D4 q4 => ?_⟩
    obtain ⟨g1, g2, g3, g4⟩ := grow H3 H4 [] [] a1 t v hL DTs.nil c4 (R3.tups c4) b4 R4 D4
    refine ⟨L, [], v, rfl, rfl, g4, by show 0 < sizeLine; decide, ?_⟩
    refine ⟨fun m σ H5 => ∃ (acc : List D) (vs : List V) (a' : Nat), σ = [some (.ref p), some (.str (strL (S.wd a))), some (.int (S.st a : Int)), some (.ref L)] ∧ But p H H5 ∧ Rd CR H5 p S a' d ∧ H5 L = some (.lst vs) ∧ DTs H5 (ofL acc) vs ∧ vs.length ≤ a' + 1 ∧
      TK CR CS p S d H Q E (S.argsM (MV S d) (S.st a) (S.strW a) acc a') ∧ m = S.n + 1 - a', ⟨_, [t.d], [v], a1, rfl, g1, g2, upd_same, g3, by show 1 ≤ a1 + 1; omega, q4, rfl⟩, ?_⟩
    rintro m σ H5 ⟨acc, vs, a', rfl, b5, R5, hL5, D5, hlen, q5, rfl⟩
    rw [Src.argsM] at q5
    have hle := R5.ha
    have hn := R5.hn
    refine ⟨_, rfl, p, rfl, R5.isI, p, S, a', d, _, rfl, R5, by decide, ?_⟩
    cases k4 : S.eqW a' "," with
    | false =>
      rw [k4] at q5
      exact iteF ⟨_, rfl, iteF ⟨acc, vs, a', rfl, b5, R5, hL5, D5, by omega, q5⟩⟩
    | true =>
    rw [k4, if_pos rfl] at q5
    have ka := lt_of_wd k4 (by decide)
    refine iteT fun H6 b6 R6 => ⟨_, rfl, iteT ⟨fun σ' H' => ∃ m', m' < S.n + 1 - a' ∧ ∃ (acc : List D) (vs : List V) (a' : Nat), σ' = [some (.ref p), some (.str (strL (S.wd a))), some (.int (S.st a : Int)), some (.ref L)] ∧ But p H H' ∧ Rd CR H' p S a' d ∧ H' L = some (.lst vs) ∧ DTs H' (ofL acc) vs ∧ vs.length ≤ a' + 1 ∧
      TK CR CS p S d H Q E (S.argsM (MV S d) (S.st a) (S.strW a) acc a') ∧ m' = S.n + 1 - a', fun _ _ h => h, ?_⟩⟩
    have hL6 := b6 _ _ Lp hL5
    refine ⟨_, rfl, .inl ⟨rfl, _, SqL.of hL6⟩, _, rfl, p, rfl, R6.isI, p, S, a' + 1, d, rfl, R6, ?_⟩
    show TK CR CS p S d H6 _ _ (MV S d (a' + 1))
    cases ev : MV S d (a' + 1) with
    | un => rw [ev] at q5; exact q5
    | no s e => rw [ev] at q5; exact fun H' dd b x => q5 H' dd ((b5.trans b6).trans b) x
    | ok t2 a2 =>
      rw [ev] at q5
      intro H7 v2 b7 R7 D7
      by_cases hg : a' < a2 ∧ a' < S.n
      · have q6 : TK CR CS p S d H Q E (S.argsM (MV S d) (S.st a) (S.strW a) (acc ++ [t2.d]) a2) := by
          have q7 := q5
          simp only [dif_pos hg] at q7
          exact q7
        obtain ⟨g1, g2, g3, g4⟩ := grow H5 H7 acc vs a2 t2 v2 hL5 D5 (b6.trans b7) (fun x ws h => R6.tups b7 _ _ (R5.tups b6 _ _ h)) ((b5.trans b6).trans b7) R7 D7
        refine ⟨L, vs, v2, rfl, rfl, g4, Nat.lt_of_le_of_lt (show vs.length ≤ 200000 by omega) (by decide), ?_⟩
        exact ⟨_, by omega, acc ++ [t2.d], vs ++ [v2], a2, rfl, g1, g2, upd_same, g3, by rw [List.length_append, List.length_singleton]; omega, q6, rfl⟩
      · exfalso
        have q7 := q5
        simp only [dif_neg hg] at q7
        exact q7
  · rintro σ H4 ⟨acc, vs, a', rfl, b4, R4, hL4, D4, hlen, q4⟩
    refine ⟨_, rfl, p, rfl, R4.isI, p, S, a', d, _, rfl, R4, by decide, ?_⟩
    cases k4 : S.eqW a' ")" with
    | false =>
      rw [k4] at q4
      exact fun H' dd b x => q4 H' dd (b4.trans b) x
    | true =>
    rw [k4, if_pos rfl] at q4
    refine iteT fun H5 b5 R5 => ?_
    have hL5 := b5 _ _ Lp hL4
    refine ⟨_, rfl, _, rfl, p, rfl, R5.isI, p, S, a', d, rfl, R5, _, rfl, _, rfl, L, _, rfl, .inl ⟨.inl (.inl hL5), fun y ny => ?_⟩⟩
    have sy := same_new (o := .tup vs) ny
    have hy : upd H5 y (.tup vs) y = some (.tup vs) := upd_same
    have R6 := R5.same sy
    have D6 := DTs.keep (fun x ws h => sy _ _ (R4.tups b5 _ _ h)) _ _ D4
    generalize upd H5 y (.tup vs) = H6 at sy hy R6 D6 ⊢
    refine ⟨(by show 5 ≤ sizeLine; decide), fun u nu => ?_⟩
    have su := same_new (o := .tup [.str "call", .int (S.st a : Int), .int (S.en a' : Int), .str (strL (S.wd a)), .ref y]) nu
    exact q4 _ _ (((b4.trans b5).trans (But.of sy)).trans (But.of su)) (R6.same su) (Tn.mk_ (t := ⟨"call", S.st a, S.en a', [S.strW a, .tup (ofL acc)]⟩) upd_same (.cons DT.str (.cons (DT.tup (su _ _ hy) (by omega) (DTs.keep (fun x ws h => su _ _ h) _ _ D6)) .nil)) (by show 5 ≤ 1000000; decide))
end

end Sn

namespace Sn
open PySem PySem.Spec PyProof.Rows L2 TL
/-! ### simple values, chains -/
theorem in3 (x : List Nat) : inV (.str (strL x)) [.str "True", .str "False", .str "("] = (decide (x = tl "True") || (decide (x = tl "False") || decide (x = tl "("))) := by
  have one : ∀ w : Str, eqV (.str w) (.str (strL x)) = decide (x = tl w) := fun w => by
    show decide (w = strL x) = _
    by_cases h : x = tl w
    · rw [decide_eq_true h, decide_eq_true (by rw [h, strL_tl])]
    · rw [decide_eq_false h, decide_eq_false fun e => h (by rw [e])]
  unfold inV
  rw [List.any_cons, List.any_cons, List.any_cons, List.any_nil, one, one, one, Bool.or_false]
section
variable {P : Program} {w : World} {K : PySem.W.Frag} {mg : Str → Option Value} {base : Heap} {f : Addr} {fd : FuncData} {aW CR CS aR : Addr} {tS t0 t1 t2 t3 t4 t5 t6 : PySem.Tok} {jv jn jg jc j : Nat} {MV MG MN : Src → Nat → Nat → Rs Tn} {MR : Src → Nat → Nat → Nat → Rs Tn}
abbrev s_Reader_simple : Stmt := inClass (topS 25) 20
abbrev N_Reader_simple : List Str := ["self", "sort", "word", "start", "inner"]
theorem sc_Reader_simple : FnScope N_Reader_simple ["self"] (defScope s_Reader_simple) := ⟨rfl, rfl, rfl, by decide +kernel, rfl, by decide +kernel, by decide +kernel⟩
theorem ok_simple (h5 : 5 ≤ jv) (F : Fun K "simple" "Reader.simple" s_Reader_simple f fd) (T : NmR K w mg aW tS CR CS aR t0 t1 t2 t3 t4 t5 t6) (C_Reader_next_sort : CalM P w K mg base CX0 2 CR "next_sort" (spSort CR)) (C_Reader_peek : CalM P w K mg base CX0 2 CR "peek" (spPeek CR))
    (C_Reader_named : CalM P w K mg base (L2N.CX P w) (jv + 1) CR "named" (spT CR CS fun S d a => S.namedM (MV S d) a)) (C_Reader_fail : CalM P w K mg base (L2N.CX P w) 3 CR "fail" (spFail CR CS)) (C_Reader_next_start : CalM P w K mg base CX0 1 CR "next_start" (spStart CR))
    (C_Reader_last_end : CalM P w K mg base CX0 1 CR "last_end" (spLast CR)) (C_number_value : Cal P w K mg base CX0 1 "number_value" spNum) (C_Reader_value : CalM P w K mg base (L2N.CX P w) (jv) CR "value" (spT CR CS fun S d a => MV S d a))
    (C_Reader_expect : CalM P w K mg base (L2N.CX P w) 4 CR "expect" (spExpect CR CS)) : FnOk P w K mg base (L2N.CX P w) (jv + 2) f fd ["self"] (spT CR CS fun S d a => S.simpM (MV S d) a) := by
  refine okXN F sc_Reader_simple (fun vs H Q E h => ?_) (fun cdv A outer s H vs Q E hr h => ?_)
  · obtain ⟨p, S, a, d, rfl, _⟩ := h
    rfl
  obtain ⟨p, S, a, d, rfl, R, q⟩ := h
  have hr : Room (jv + 1) _ := hr
  refine ⟨_, (pss_cons (ps_par (i := 1) (j := 2) rfl sc_Reader_simple.nd rfl rfl (by decide) rfl rfl (pa_cons (pe_m0 ns_Reader C_Reader_next_sort T.cl_Reader (by decide) hr (by first | decide | omega) pass0 (pv 0)) (pa_cons (pe_m0 ns_Reader C_Reader_peek T.cl_Reader (by decide) hr (by first | decide | omega) pass0 (pv 0)) pa_nil)) (by rfl))
    (pss_cons (ps_if (pt_cmpR op_eq (pv 1) pe_str (nomark _)) (pss_one (ps_ret (pe_m0 ns_Reader C_Reader_named T.cl_Reader (by decide) hr (by first | decide | omega) (L2N.passes_call (L2N.takes_of rfl rfl rfl rfl) (fun _ _ _ _ h => h)) (pv 0)))) pss_nil)
    (pss_cons (ps_if (PW.pt (pw_and (pt_cmpR op_ne (pv 1) pe_str (nomark _)) (pw_and1 (pt_cmpR op_notIn_seq (pv 2) (pe_tup (pa_cons pe_str (pa_cons pe_str (pa_cons pe_str pa_nil)))) (by rfl))))) (pss_one (ps_expr (pe_m0 ns_Reader C_Reader_fail T.cl_Reader (by decide) hr (by first | decide | omega) (L2N.passes_call (L2N.takes_of rfl rfl rfl rfl) (fun _ _ _ _ h => h)) (pv 0)))) pss_nil)
    (pss_cons (ps_set (i := 3) sc_Reader_simple.nd rfl (Or.inl rfl) (pe_m0 ns_Reader C_Reader_next_start T.cl_Reader (by decide) hr (by first | decide | omega) pass0 (pv 0)))
    (pss_cons (ps_rd_at T (pv 0) pe_int in_add)
    (pss_cons (ps_if (pt_cmpR op_eq (pv 1) pe_str (nomark _)) (pss_one (ps_ret (pe_tup (pa_cons pe_str (pa_cons (pv 3) (pa_cons (pe_m0 ns_Reader C_Reader_last_end T.cl_Reader (by decide) hr (by first | decide | omega) pass0 (pv 0)) (pa_cons (pe_c C_number_value hr (by first | decide | omega) pass0 (pa_cons (pv 2) pa_nil)) pa_nil))))))) pss_nil)
    (pss_cons (ps_if (pt_cmpR op_ne (pv 2) pe_str (nomark _)) (pss_one (ps_ret (pe_tup (pa_cons pe_str (pa_cons (pv 3) (pa_cons (pe_m0 ns_Reader C_Reader_last_end T.cl_Reader (by decide) hr (by first | decide | omega) pass0 (pv 0)) (pa_cons (pe_cmpR op_eq (pv 2) pe_str (nomark _)) pa_nil))))))) pss_nil)
    (pss_cons (ps_set (i := 4) sc_Reader_simple.nd rfl (Or.inl rfl) (pe_m0 ns_Reader C_Reader_value T.cl_Reader (by decide) hr (by first | decide | omega) (L2N.passes_call (L2N.takes_of rfl rfl rfl rfl) (fun _ _ _ _ h => h)) (pv 0)))
    (pss_cons (ps_expr (pe_m ns_Reader C_Reader_expect T.cl_Reader (by decide) hr (by first | decide | omega) (L2N.passes_call (L2N.takes_of rfl rfl rfl rfl) (fun _ _ _ _ h => h)) (pv 0) (pa_cons pe_str pa_nil)))
    (pss_one (ps_ret (pe_tup (pa_cons pe_str (pa_cons (pv 3) (pa_cons (pe_m0 ns_Reader C_Reader_last_end T.cl_Reader (by decide) hr (by first | decide | omega) pass0 (pv 0)) (pa_cons (pv 4) pa_nil)))))))))))))))), ?_⟩
  have q : TK CR CS p S d H Q E (S.simpM (MV S d) a) := q
  unfold Src.simpM at q
  refine ⟨_, rfl, p, rfl, R.isI, p, S, a, d, rfl, R, _, rfl, p, rfl, R.isI, p, S, a, d, rfl, R, _, _, rfl, ?_⟩
  refine ⟨_, rfl, rfl, _, rfl, ?_⟩
  rw [str_isN]
  by_cases k1 : S.so a = "name"
  · have kn : S.isN a = true := decide_eq_true k1
    rw [if_pos kn] at q
    refine iteP k1 ?_
    exact ⟨_, rfl, p, rfl, R.isI, p, S, a, d, rfl, R, q⟩
  rw [if_neg (show ¬ S.isN a = true from fun e => k1 (of_decide_eq_true e))] at q
  refine iteN k1 ?_
  have hl := R.hl
  have hwl := wd_le S a
  -- a number
  by_cases k2 : S.so a = "number"
  · have ka := lt_of_so k2 (by decide)
    rw [if_pos (show decide (S.so a = Src.number) = true from decide_eq_true k2)] at q
    refine ⟨_, rfl, rfl, _, rfl, ?_⟩
    rw [str_isN]
    refine iteNS (by rw [k2]) ?_
    refine iteF ?_
    obtain ⟨z, r, rs, ez, raw, hr0, hl, tk⟩ := R.nor
    refine ⟨_, rfl, p, rfl, R.isI, p, S, a, d, rfl, R, ka, ?_⟩
    refine ⟨_, rfl, p, z, r, _, _, rfl, raw, _, _, rfl, rfl, _, rfl, raw, fun H1 b1 h1 => ?_⟩
    have R1 := R.step raw b1 h1 ka
    refine ⟨_, rfl, rfl, _, rfl, ?_⟩
    rw [str_isN]
    refine iteP k2 ?_
    refine ⟨_, rfl, _, rfl, p, rfl, R1.isI, p, S, a, d, rfl, R1, _, rfl, strL (S.wd a), rfl, R.nu a k2, (by show 4 ≤ sizeLine; decide), fun y ny => ?_⟩
    have sy := same_new (o := .tup [.str "number", .int (S.st a : Int), .int (S.en a : Int), .int (Src.numv (S.wd a))]) ny
    exact q _ _ (b1.trans (But.of sy)) (R1.same sy) (Tn.mk_ (t := ⟨"number", S.st a, S.en a, [.int (Src.numv (S.wd a))]⟩) upd_same (.cons DT.int .nil) (by show 4 ≤ 1000000; decide))
  rw [if_neg (show ¬ decide (S.so a = Src.number) = true from fun e => k2 (of_decide_eq_true e))] at q
  refine ⟨_, rfl, rfl, _, rfl, ?_⟩
  rw [str_isN]
  refine iteNN k2 ?_
  refine ⟨_, rfl, (by show 3 ≤ sizeLine; decide), fun l nl => ?_⟩
  have sl := same_new (o := .tup [.str "True", .str "False", .str "("]) nl
  have hl3 : upd H l (.tup [.str "True", .str "False", .str "("]) l = some (.tup [.str "True", .str "False", .str "("]) := upd_same
  have Rl := R.same sl
  have bl : But p H (upd H l (.tup [.str "True", .str "False", .str "("])) := But.of sl
  generalize upd H l (.tup [.str "True", .str "False", .str "("]) = H0 at sl hl3 Rl bl ⊢
  refine ⟨l, _, rfl, .inr (.inl (.inl hl3)), rfl, rfl, _, rfl, ?_⟩
  dsimp only
  rw [if_pos rfl, in3]
  by_cases k3 : S.wd a = tl "True" ∨ S.wd a = tl "False" ∨ S.wd a = tl "("
  · have ka : a < S.n := by
      rcases k3 with h | h | h
      · exact lt_of_wd (w := "True") (decide_eq_true h) (by decide)
      · exact lt_of_wd (w := "False") (decide_eq_true h) (by decide)
      · exact lt_of_wd (w := "(") (decide_eq_true h) (by decide)
    have k4 : (decide (S.wd a = tl "True") || (decide (S.wd a = tl "False") || decide (S.wd a = tl "("))) = true := by
      rcases k3 with h | h | h
      · rw [decide_eq_true h]; rfl
      · rw [decide_eq_true h, Bool.true_or, Bool.or_true]
      · rw [decide_eq_true h, Bool.or_true, Bool.or_true]
    rw [k4]
    refine iteF ?_
    obtain ⟨z, r, rs, ez, raw, hr0, hl, tk⟩ := Rl.nor
    refine ⟨_, rfl, p, rfl, Rl.isI, p, S, a, d, rfl, Rl, ka, ?_⟩
    refine ⟨_, rfl, p, z, r, _, _, rfl, raw, _, _, rfl, rfl, _, rfl, raw, fun H1 b1 h1 => ?_⟩
    have R1 := Rl.step raw b1 h1 ka
    have b1 : But p H H1 := bl.trans b1
    refine ⟨_, rfl, rfl, _, rfl, ?_⟩
    rw [str_isN]
    refine iteN k2 ?_
    refine ⟨_, rfl, rfl, _, rfl, ?_⟩
    rw [str_eqW]
    cases k5 : S.eqW a "(" with
    | true =>
      rw [if_pos k5] at q
      refine iteF ?_
      refine ⟨_, rfl, p, rfl, R1.isI, p, S, a + 1, d, rfl, R1, TK.sub b1 q fun t a' H2 v c2 b2 R2 D2 q2 => ?_⟩
      refine ⟨_, rfl, p, rfl, R2.isI, p, S, a', d, _, rfl, R2, by decide, ?_⟩
      cases k6 : S.eqW a' ")" with
      | false =>
        rw [k6] at q2
        exact fun H' dd b x => q2 H' dd (b2.trans b) x
      | true =>
      rw [k6, if_pos rfl] at q2
      refine iteT fun H3 b3 R3 => ?_
      have D3 := D2.keep (R2.tups b3)
      refine ⟨_, rfl, _, rfl, p, rfl, R3.isI, p, S, a', d, rfl, R3, _, rfl, (by show 4 ≤ sizeLine; decide), fun y ny => ?_⟩
      have sy := same_new (o := .tup [.str "group", .int (S.st a : Int), .int (S.en a' : Int), v]) ny
      exact q2 _ _ ((b2.trans b3).trans (But.of sy)) (R3.same sy) (Tn.mk_ (t := ⟨"group", S.st a, S.en a', [t.d]⟩) upd_same (.cons (D3.keep fun _ _ h => sy _ _ h) .nil) (by show 4 ≤ 1000000; decide))
    | false =>
      rw [if_neg (by rw [k5]; exact Bool.false_ne_true)] at q
      have k7 : (S.eqW a "True" || S.eqW a "False") = true := by
        rcases k3 with h | h | h
        · rw [show S.eqW a "True" = true from decide_eq_true h]; rfl
        · rw [show S.eqW a "False" = true from decide_eq_true h, Bool.or_true]
        · rw [show S.eqW a "(" = true from decide_eq_true h] at k5; cases k5
      rw [if_pos k7] at q
      refine iteT ?_
      refine ⟨_, rfl, _, rfl, p, rfl, R1.isI, p, S, a, d, rfl, R1, _, rfl, rfl, (by show 4 ≤ sizeLine; decide), fun y ny => ?_⟩
      rw [str_eqW]
      have sy := same_new (o := .tup [.str "truth", .int (S.st a : Int), .int (S.en a : Int), .bl (S.eqW a "True")]) ny
      exact q _ _ (b1.trans (But.of sy)) (R1.same sy) (Tn.mk_ (t := ⟨"truth", S.st a, S.en a, [.bl (S.eqW a "True")]⟩) upd_same (.cons DT.bl .nil) (by show 4 ≤ 1000000; decide))
  · have n1 : ¬ S.wd a = tl "True" := fun h => k3 (.inl h)
    have n2 : ¬ S.wd a = tl "False" := fun h => k3 (.inr (.inl h))
    have n3 : ¬ S.wd a = tl "(" := fun h => k3 (.inr (.inr h))
    rw [if_neg (show ¬ S.eqW a "(" = true from fun e => n3 (of_decide_eq_true e)), if_neg (by
      rw [show S.eqW a "True" = false from decide_eq_false n1, show S.eqW a "False" = false from decide_eq_false n2]
      exact Bool.false_ne_true)] at q
    rw [decide_eq_false n1, decide_eq_false n2, decide_eq_false n3]
    refine iteT ?_
    exact ⟨_, rfl, p, rfl, Rl.isI, p, S, a, d, rfl, Rl, fun H' dd b x => q H' dd (bl.trans b) x⟩
abbrev s_Reader_chain : Stmt := inClass (topS 25) 16
abbrev N_Reader_chain : List Str := ["self", "least", "most", "left", "sign", "right"]
theorem sc_Reader_chain : FnScope N_Reader_chain ["self", "least"] (defScope s_Reader_chain) := ⟨rfl, rfl, rfl, by decide +kernel, rfl, by decide +kernel, by decide +kernel⟩
theorem rank_le (l : List Nat) : Src.rank l ≤ 6 := by
  unfold Src.rank
  repeat (first | (split <;> first | omega | skip))
theorem lt_of_rank {S : Src} {a : Nat} (h : 0 < Src.rank (S.wd a)) : a < S.n := by
  by_cases k : a < S.n
  · exact k
  · rw [wd_end k] at h
    exact absurd h (by decide)
theorem ok_chain (h4 : 4 ≤ j) (hn1 : jn ≤ j) (hg1 : jg ≤ j) (hc1 : jc ≤ j) (F : Fun K "chain" "Reader.chain" s_Reader_chain f fd) (T : NmR K w mg aW tS CR CS aR t0 t1 t2 t3 t4 t5 t6) (C_Reader_peek : CalM P w K mg base CX0 2 CR "peek" (spPeek CR))
    (C_Reader_negated : CalM P w K mg base (L2N.CX P w) jn CR "negated" (spNot CR CS fun S d a => notM S (MN S (d + 1)) d a)) (C_Reader_signed : CalM P w K mg base (L2N.CX P w) jg CR "signed" (spT CR CS fun S d a => MG S d a))
    (C_Reader_chain : CalM P w K mg base (L2N.CX P w) jc CR "chain" (spTc CR CS fun S d s a => MR S d s a)) :
    FnOk P w K mg base (L2N.CX P w) (j + 1) f fd ["self", "least"] (spTc CR CS fun S d s a => S.chainM (MN S (d + 1)) (MG S d) (MR S d) s d a) := by
  refine okXN F sc_Reader_chain (fun vs H Q E h => ?_) (fun cdv A outer s H vs Q E hr h => ?_)
  · obtain ⟨p, S, a, d, x, rfl, _⟩ := h
    rfl
  obtain ⟨p, S, a, d, x, rfl, hx1, R, q⟩ := h
  have hr : Room j _ := hr
  refine ⟨_, (pss_cons (ps_set (i := 2) sc_Reader_chain.nd rfl (Or.inl rfl) (pe_glob (v := .int 6) (by rfl) T.g_HIGHEST_parser ⟨_, rfl⟩))
    (C8.pss_cut (ps_if (PW.pt (pw_and (pt_cmpR op_eq (pe_m0 ns_Reader C_Reader_peek T.cl_Reader (by decide) hr (by first | decide | omega) pass0 (pv 0)) pe_str (nomark _)) (pw_and1 (pt_cmpR op_le (pv 1) (pe_glob (v := .int 3) (by rfl) T.g_NEGATION ⟨_, rfl⟩) (nomark _))))) (pss_cons (ps_set (i := 3) sc_Reader_chain.nd rfl (Or.inl rfl) (pe_m0 ns_Reader C_Reader_negated T.cl_Reader (by decide) hr (by first | decide | omega) (L2N.passes_call (L2N.takes_of rfl rfl rfl rfl) (fun _ _ _ _ h => h)) (pv 0)))
    (pss_one (ps_set (i := 2) sc_Reader_chain.nd rfl (Or.inl rfl) (pe_glob (v := .int 3) (by rfl) T.g_NEGATION ⟨_, rfl⟩)))) (pss_one (ps_set (i := 3) sc_Reader_chain.nd rfl (Or.inl rfl) (pe_m0 ns_Reader C_Reader_signed T.cl_Reader (by decide) hr (by first | decide | omega) (L2N.passes_call (L2N.takes_of rfl rfl rfl rfl) (fun _ _ _ _ h => h)) (pv 0)))))
    (pss_cons (ps_while (passes_of rfl) (pt_chain op_le op_le (pv 1) (pe_kget2 (pe_glob (v := .ref aR) (by rfl) T.g_RANKS rfl) (pe_m0 ns_Reader C_Reader_peek T.cl_Reader (by decide) hr (by first | decide | omega) pass0 (pv 0)) pe_int ⟨rfl, rfl, rfl, rfl⟩) (pv 2)) (pss_cons (ps_set (i := 4) sc_Reader_chain.nd rfl (Or.inl rfl) (pe_m0 ns_Reader C_Reader_peek T.cl_Reader (by decide) hr (by first | decide | omega) pass0 (pv 0)))
    (pss_cons (ps_rd_at T (pv 0) pe_int in_add)
    (pss_cons (ps_set (i := 5) sc_Reader_chain.nd rfl (Or.inl rfl) (pe_m ns_Reader C_Reader_chain T.cl_Reader (by decide) hr (by first | decide | omega) (L2N.passes_call (L2N.takes_of rfl rfl rfl rfl) (fun _ _ _ _ h => h)) (pv 0) (pa_cons (pe_op op_add (pe_ix (r := rIxD K w) ix_kdict (pe_glob (v := .ref aR) (by rfl) T.g_RANKS rfl) (pv 4) (fun _ _ => rfl)) pe_int) pa_nil)))
    (pss_cons (ps_set (i := 3) sc_Reader_chain.nd rfl (Or.inl rfl) (pe_tup (pa_cons pe_str (pa_cons (pe_ix (r := rIxT K) ix_tup (pv 3) pe_int (fun _ _ => rfl)) (pa_cons (pe_ix (r := rIxT K) ix_tup (pv 5) pe_int (fun _ _ => rfl)) (pa_cons (pv 4) (pa_cons (pv 3) (pa_cons (pv 5) pa_nil))))))))
    (pss_one (ps_set (i := 2) sc_Reader_chain.nd rfl (Or.inl rfl) (pe_ifExp (pt_cmpR op_eq (pe_ix (r := rIxD K w) ix_kdict (pe_glob (v := .ref aR) (by rfl) T.g_RANKS rfl) (pv 4) (fun _ _ => rfl)) (pe_glob (v := .int 4) (by rfl) T.g_COMPARISON ⟨_, rfl⟩) (nomark _)) (pe_glob (v := .int 3) (by rfl) T.g_NEGATION ⟨_, rfl⟩) (pe_ix (r := rIxD K w) ix_kdict (pe_glob (v := .ref aR) (by rfl) T.g_RANKS rfl) (pv 4) (fun _ _ => rfl))))))))))
    (pss_one (ps_ret (pv 3)))))), ?_⟩
  have q : TK CR CS p S d H Q E (S.chainM (MN S (d + 1)) (MG S d) (MR S d) x d a) := q
  unfold Src.chainM at q
  generalize hRR : MR S d = RR at q
  refine ⟨fun σ H2 => ∃ (t : Tn) (a' mo : Nat) (v : V), σ = [some (.ref p), some (.int (x : Int)), some (.int (mo : Int)), some v, none, none] ∧ But p H H2 ∧ Rd CR H2 p S a' d ∧ DT H2 t.d v ∧ TK CR CS p S d H Q E (S.goM RR x mo t a'), ?_, ?_⟩
  · refine ⟨_, rfl, p, rfl, R.isI, p, S, a, d, rfl, R, rfl, _, rfl, ?_⟩
    rw [str_eqW]
    cases k1 : S.eqW a "not" with
    | false =>
      rw [if_neg (fun e => Bool.false_ne_true (k1.symm.trans e.1))] at q
      refine iteF ?_
      refine ⟨_, rfl, p, rfl, R.isI, p, S, a, d, rfl, R, TK.sub (But.refl p H) q fun t a' H2 v _ b2 R2 D2 q2 => ⟨t, a', 6, v, rfl, b2, R2, D2, q2⟩⟩
    | true =>
    have ka := lt_of_wd k1 (by decide)
    refine iteT ⟨_, rfl, _, _, rfl, rfl, _, rfl, ?_⟩
    by_cases k2 : x ≤ 3
    · rw [if_pos ⟨k1, k2⟩] at q
      refine iteP (by omega) ?_
      refine ⟨_, rfl, p, rfl, R.isI, p, S, a, d, rfl, R, ka, ?_⟩
      have q' : TK CR CS p S d H Q E ((notM S (MN S (d + 1)) d a).bind fun t a' => S.goM RR x 3 t a') := by
        unfold notM
        by_cases kd : d = 30
        · rw [if_pos kd] at q ⊢
          exact q
        · rw [if_neg kd] at q ⊢
          cases e : MN S (d + 1) (a + 1) with
          | un => rw [e] at q; exact q
          | no s e' => rw [e] at q; exact q
          | ok t a' => rw [e] at q; exact q
      exact TK.sub (But.refl p H) q' fun t a' H2 v _ b2 R2 D2 q2 => ⟨t, a', 3, v, rfl, b2, R2, D2, q2⟩
    · rw [if_neg (fun e => k2 e.2)] at q
      refine iteN (by omega) ?_
      refine ⟨_, rfl, p, rfl, R.isI, p, S, a, d, rfl, R, TK.sub (But.refl p H) q fun t a' H2 v _ b2 R2 D2 q2 => ⟨t, a', 6, v, rfl, b2, R2, D2, q2⟩⟩
  rintro σ H1 ⟨t, a1, mo, v, rfl, b1, R1, D1, q1⟩
  refine ⟨fun m σ H2 => ∃ (t : Tn) (a' mo : Nat) (v : V) (o4 o5 : Option V), σ = [some (.ref p), some (.int (x : Int)), some (.int (mo : Int)), some v, o4, o5] ∧ But p H H2 ∧ Rd CR H2 p S a' d ∧ DT H2 t.d v ∧ TK CR CS p S d H Q E (S.goM RR x mo t a') ∧ m = S.n + 1 - a',
    ⟨_, t, a1, mo, v, none, none, rfl, b1, R1, D1, q1, rfl⟩, ?_⟩
  rintro m σ H2 ⟨t, a', mo, v, o4, o5, rfl, b2, R2, D2, q2, rfl⟩
  rw [Src.goM] at q2
  obtain ⟨rk, g1, g2, g3⟩ := T.ranks (S.wd a')
  refine ⟨_, rfl, aR, rfl, T.kd, _, rfl, p, rfl, R2.isI, p, S, a', d, rfl, R2, strL (S.wd a'), rk, rfl, g1, ?_⟩
  rw [g2]
  refine ⟨_, _, rfl, rfl, _, rfl, ?_⟩
  by_cases k1 : x ≤ Src.rank (S.wd a') ∧ Src.rank (S.wd a') ≤ mo
  · refine iteP (by omega) ⟨_, rfl, _, _, rfl, rfl, _, rfl, ?_⟩
    rw [decide_eq_true (show ((Src.rank (S.wd a') : Nat) : Int) ≤ (mo : Int) by omega)]
    refine iteT ?_
    rw [if_pos k1] at q2
    have ka := lt_of_rank (S := S) (a := a') (by omega)
    have hkd := g3 (by omega)
    obtain ⟨z, r, rs, ez, raw, hr0, hl, tk⟩ := R2.nor
    refine ⟨fun σ' H' => ∃ m', m' < S.n + 1 - a' ∧ ∃ (t : Tn) (a' mo : Nat) (v : V) (o4 o5 : Option V), σ' = [some (.ref p), some (.int (x : Int)), some (.int (mo : Int)), some v, o4, o5] ∧ But p H H' ∧ Rd CR H' p S a' d ∧ DT H' t.d v ∧ TK CR CS p S d H Q E (S.goM RR x mo t a') ∧ m' = S.n + 1 - a', fun _ _ h => h, ?_⟩
    refine ⟨_, rfl, p, rfl, R2.isI, p, S, a', d, rfl, R2, ?_⟩
    refine ⟨_, rfl, p, z, r, _, _, rfl, raw, _, _, rfl, rfl, _, rfl, raw, fun H3 b3 h3 => ?_⟩
    have R3 := R2.step raw b3 h3 ka
    refine ⟨_, rfl, p, rfl, R3.isI, _, rfl, aR, _, _, rfl, rfl, hkd, _, _, rfl, rfl, p, S, a' + 1, d, Src.rank (S.wd a') + 1, rfl, by omega, R3, ?_⟩
    show TK CR CS p S d H3 _ _ (MR S d (Src.rank (S.wd a') + 1) (a' + 1))
    rw [hRR]
    cases ev : RR (Src.rank (S.wd a') + 1) (a' + 1) with
    | un => rw [ev] at q2; exact q2
    | no s e => rw [ev] at q2; exact fun H' dd b x => q2 H' dd ((b2.trans b3).trans b) x
    | ok t3 a3 =>
      rw [ev] at q2
      intro H4 v3 b4 R4 D4
      by_cases hg : a' < a3 ∧ a' < S.n
      · have q6 : TK CR CS p S d H Q E (S.goM RR x (Src.topR (Src.rank (S.wd a'))) (Src.binT t t3 (S.wd a')) a3) := by
          have q7 := q2
          simp only [dif_pos hg] at q7
          exact q7
        have D2' := (D2.keep (R2.tups b3)).keep (R3.tups b4)
        obtain ⟨xl, vl, rfl, gl, i1, i2⟩ := num_item D2'
        obtain ⟨xr, vr, rfl, gr, j1, j2⟩ := num_item D4
        refine ⟨_, rfl, xl, _, _, _, rfl, rfl, .inl (.inl gl), at_nat i1, _, rfl, xr, _, _, _, rfl, rfl, .inl (.inl gr), at_nat j2, _, rfl, _, rfl, _, rfl, (by show 6 ≤ sizeLine; decide), fun y ny => ?_⟩
        have sy := same_new (o := .tup [.str "binary", .int (t.s : Int), .int (t3.e : Int), .str (strL (S.wd a')), .ref xl, .ref xr]) ny
        have fin : ∀ mo' : Nat, mo' = Src.topR (Src.rank (S.wd a')) → ∃ m', m' < S.n + 1 - a' ∧ ∃ (t' : Tn) (a'' mo'' : Nat) (v : V) (o4 o5 : Option V), [some (V.ref p), some (.int (x : Int)), some (.int (mo' : Int)), some (.ref y), some (.str (strL (S.wd a'))), some (.ref xr)] = [some (.ref p), some (.int (x : Int)), some (.int (mo'' : Int)), some v, o4, o5] ∧
            But p H (upd H4 y (.tup [.str "binary", .int (t.s : Int), .int (t3.e : Int), .str (strL (S.wd a')), .ref xl, .ref xr])) ∧ Rd CR (upd H4 y (.tup [.str "binary", .int (t.s : Int), .int (t3.e : Int), .str (strL (S.wd a')), .ref xl, .ref xr])) p S a'' d ∧
            DT (upd H4 y (.tup [.str "binary", .int (t.s : Int), .int (t3.e : Int), .str (strL (S.wd a')), .ref xl, .ref xr])) t'.d v ∧ TK CR CS p S d H Q E (S.goM RR x mo'' t' a'') ∧ m' = S.n + 1 - a'' := by
          intro mo' hmo
          subst hmo
          have hle := R4.ha
          exact ⟨_, by omega, Src.binT t t3 (S.wd a'), a3, _, _, _, _, rfl, ((b2.trans b3).trans b4).trans (But.of sy), R4.same sy, Tn.mk_ (t := Src.binT t t3 (S.wd a')) upd_same (.cons DT.str (.cons (D2'.keep fun _ _ h => sy _ _ h) (.cons (D4.keep fun _ _ h => sy _ _ h) .nil))) (by show 6 ≤ 1000000; decide), q6, rfl⟩
        refine ⟨_, rfl, aR, _, _, rfl, rfl, hkd, rfl, _, rfl, ?_⟩
        by_cases k4 : Src.rank (S.wd a') = 4
        · refine iteP (by rw [k4]; rfl) ?_
          exact fin 3 (by unfold Src.topR; rw [if_pos k4])
        · refine iteN (fun e => k4 (by injection e with e; omega)) ?_
          refine ⟨_, rfl, aR, _, _, rfl, rfl, hkd, ?_⟩
          exact fin (Src.rank (S.wd a')) (by unfold Src.topR; rw [if_neg k4])
      · exfalso
        have q7 := q2
        simp only [dif_neg hg] at q7
        exact q7
  · rw [if_neg k1] at q2
    have out : ∃ v0, [some (V.ref p), some (.int (x : Int)), some (.int (mo : Int)), some v, o4, o5][3]? = some (some v0) ∧ Q v0 H2 := ⟨_, rfl, q2 H2 v b2 R2 D2⟩
    by_cases k2 : x ≤ Src.rank (S.wd a')
    · refine iteP (by omega) ⟨_, rfl, _, _, rfl, rfl, _, rfl, ?_⟩
      rw [decide_eq_false (show ¬ ((Src.rank (S.wd a') : Nat) : Int) ≤ (mo : Int) from fun e => k1 ⟨k2, by omega⟩)]
      exact iteF out
    · refine iteN (by omega) ⟨_, rfl, ?_⟩
      exact iteF out
end

end Sn

namespace Sn
open PySem PySem.Spec PyProof.Rows L2 TL
/-! ### a reader is made; a value is read -/
theorem tok_num {l : List Nat} {i c : Nat} (h : l[i]? = some c) (hs : (tokC l i c).1 = "number") : ((l.drop (tokC l i c).2.1).take ((tokC l i c).2.2 - (tokC l i c).2.1)).all isD = true := by
  have hi := (List.getElem?_eq_some_iff.mp h).1
  unfold tokC at hs ⊢
  by_cases h1 : isL c = true
  · rw [if_pos h1] at hs
    exfalso
    have : ∀ b : Bool, (if b = true then ("word" : Str) else "name") ≠ "number" := by decide +kernel
    exact this _ hs
  · rw [if_neg h1] at hs ⊢
    by_cases h2 : isD c = true
    · rw [if_pos h2]
      show ((l.drop i).take (run isD l i - i)).all isD = true
      rw [List.all_eq_true]
      intro x hx
      obtain ⟨j, hj, e⟩ := List.getElem_of_mem hx
      have hj2 : j < run isD l i - i := by
        have := hj
        rw [List.length_take] at this
        omega
      have hl := run_le (p := isD) (l := l) (i := i) (by omega)
      refine run_in (l := l) (l.length - i) i (by omega) (i + j) x (by omega) (by omega) ?_
      have e2 : ((l.drop i).take (run isD l i - i))[j]? = some x := by rw [List.getElem?_eq_getElem hj, e]
      rw [List.getElem?_take_of_lt hj2, List.getElem?_drop] at e2
      exact e2
    · rw [if_neg h2] at hs ⊢
      by_cases h3 : (l.drop i).take 2 = [61, 61]
      · rw [if_pos h3] at hs
        exact absurd hs (show ("sign" : Str) ≠ "number" by decide +kernel)
      · rw [if_neg h3] at hs
        exfalso
        have : ∀ q : Prop, ∀ [Decidable q], (if q then ("sign" : Str) else "wrong") ≠ "number" := by
          intro q _
          by_cases z : q
          · rw [if_pos z]; decide +kernel
          · rw [if_neg z]; decide +kernel
        exact this _ hs
theorem tok_start8 (l : List Nat) (i c : Nat) : (tokC l i c).2.1 = i := by
  unfold tokC
  split
  · rfl
  · split
    · rfl
    · split <;> rfl
theorem toks_fit8 {l : List Nat} {e : Nat} (he : e ≤ l.length) : ∀ (m a : Nat), e ≤ a + m → (toks l a e).length ≤ m ∧ ∀ x ∈ toks l a e, (x.2.1 ≤ x.2.2 ∧ x.2.2 ≤ l.length) ∧ (x.1 = "number" → ((l.drop x.2.1).take (x.2.2 - x.2.1)).all isD = true)
  | 0, a, h => by
    rw [toks_end (by omega)]
    exact ⟨Nat.le_refl _, fun x hx => absurd hx (by simp)⟩
  | m + 1, a, h => by
    by_cases ha : a < e
    · have hal : a < l.length := by omega
      have hg := List.getElem?_eq_getElem hal
      generalize l[a] = c at hg
      by_cases b1 : c = 32 ∨ c = 10
      · rw [toks_blank he ha hg b1]
        have := toks_fit8 he m (a + 1) (by omega)
        exact ⟨by omega, this.2⟩
      · by_cases b2 : c = 35
        · subst b2
          have r1 : run (fun d => d != 10) l a = run (fun d => d != 10) l (a + 1) := run_step hg rfl
          have r2 := run_ge (fun d => d != 10) l (a + 1)
          rw [toks_note he ha hg]
          have := toks_fit8 he m (run (fun d => d != 10) l a) (by omega)
          exact ⟨by omega, this.2⟩
        · rw [toks_tok he ha hg b1 b2]
          obtain ⟨t1, t2⟩ := tok_end hg
          have k := toks_fit8 he m (tokC l a c).2.2 (by omega)
          refine ⟨by rw [List.length_cons]; omega, fun x hx => ?_⟩
          rcases List.mem_cons.mp hx with hx | hx
          · subst hx
            exact ⟨⟨by rw [tok_start8]; omega, t2⟩, tok_num hg⟩
          · exact k.2 x hx
    · rw [toks_end (by omega)]
      exact ⟨Nat.zero_le _, fun x hx => absurd hx (by simp)⟩
/-- all tokens of a text -/
def allT (z : Str) : List Tok := toks (tl z) 0 (tl z).length
theorem nums_of (r : Addr) (z : Str) : Nums ⟨r, tl z, allT z⟩ := by
  intro a h
  have k := (toks_fit8 (Nat.le_refl (tl z).length) (tl z).length 0 (by omega)).2
  unfold Src.so at h
  unfold Src.wd
  revert h
  show (match (allT z)[a]? with | some t => t.1 | none => ("" : Str)) = ("number" : Str) → (match (allT z)[a]? with | some t => (List.drop t.2.1 (tl z)).take (t.2.2 - t.2.1) | none => []).all isD = true
  cases e : (allT z)[a]? with
  | none => exact fun _ => rfl
  | some t => exact fun h => (k t (List.mem_of_getElem? e)).2 h
def spRI (C CS : Addr) : Sp := fun vs H Q E => ∃ (p dx : Addr) (z : Str), vs = [.ref p, .str z] ∧ H p = some (.ins C dx []) ∧ z.length ≤ 100000 ∧
  (if 300 < (allT z).length then ∀ r, ∀ H' dd, But p H H' → xdE H' dd ((⟨r, tl z, allT z⟩ : Src).fp 300).1 ((⟨r, tl z, allT z⟩ : Src).fp 300).2 → E (.ref CS) (some dd) H'
    else ∀ H' r, But p H H' → Rd C H' p ⟨r, tl z, allT z⟩ 0 0 → Q .non H')
def failS (CS : Addr) (H : Hp) (E : XK) (s e : Nat) : Prop := ∀ H' dd, Same H H' → xdE H' dd s e → E (.ref CS) (some dd) H'
theorem tl_len8 (z : Str) : (tl z).length = z.length := rfl
section
variable {P : Program} {w : World} {K : PySem.W.Frag} {mg : Str → Option Value} {base : Heap} {f : Addr} {fd : FuncData} {aW CR CS aR : Addr} {tS t0 t1 t2 t3 t4 t5 t6 : PySem.Tok} {k : Nat}
abbrev s_R_init : Stmt := inClass (topS 25) 0
abbrev N_R_init : List Str := ["self", "source"]
theorem sc_R_init : FnScope N_R_init ["self", "source"] (defScope s_R_init) := ⟨rfl, rfl, rfl, by decide +kernel, rfl, by decide +kernel, by decide +kernel⟩
theorem ok_R_init (F : Fun K "__init__" "Reader.__init__" s_R_init f fd) (T : NmR K w mg aW tS CR CS aR t0 t1 t2 t3 t4 t5 t6) (C_tokens : Cal P w K mg base CX0 5 "tokens" spTokens) (C_Reader_fail : CalM P w K mg base (L2N.CX P w) 3 CR "fail" (spFail CR CS)) :
    FnOk P w K mg base (L2N.CX P w) 7 f fd ["self", "source"] (spRI CR CS) := by
  refine okXN F sc_R_init (fun vs H Q E h => ?_) (fun cdv A outer s H vs Q E hr h => ?_)
  · obtain ⟨p, dx, z, rfl, _⟩ := h
    rfl
  obtain ⟨p, dx, z, rfl, hp, hz, q⟩ := h
  refine ⟨_, (pss_cons (ps_fld (pv 0) (pv 1) rfl)
    (pss_cons (ps_fld (pv 0) (pe_c C_tokens hr (by first | decide | omega) pass0 (pa_cons (pv 1) pa_nil)) rfl)
    (pss_cons (ps_fld (pv 0) pe_int rfl)
    (pss_cons (ps_fld (pv 0) pe_int rfl)
    (pss_one (ps_if (pt_cmpR op_gt (pe_callB call_len_seq (by rfl) T.len PySem.boot_len (pa_cons (pe_rd_row T (pv 0)) pa_nil)) (pe_glob (v := .int 300) (by rfl) T.g_MOST_TOKENS ⟨_, rfl⟩) (nomark _)) (pss_cons (ps_fld (pv 0) (pe_glob (v := .int 300) (by rfl) T.g_MOST_TOKENS ⟨_, rfl⟩) rfl)
    (pss_one (ps_expr (pe_m0 ns_Reader C_Reader_fail T.cl_Reader (by decide) hr (by first | decide | omega) (L2N.passes_call (L2N.takes_of rfl rfl rfl rfl) (fun _ _ _ _ h => h)) (pv 0))))) pss_nil)))))), ?_⟩
  have hz' : (tl z).length ≤ 100000 := hz
  refine ⟨_, rfl, _, rfl, p, CR, dx, _, rfl, hp, T.cl_Reader, T.n_source, by decide, ?_⟩
  refine ⟨_, rfl, z, rfl, by omega, fun r H1 s1 nr hL => ?_⟩
  have hp1 := s1 _ _ upd_same
  refine ⟨_, rfl, p, CR, dx, _, rfl, hp1, T.cl_Reader, T.n_row, by show 1 < 1000; decide, ?_⟩
  refine ⟨_, rfl, p, CR, dx, _, rfl, upd_same, T.cl_Reader, T.n_at, by show 2 < 1000; decide, ?_⟩
  refine ⟨_, rfl, p, CR, dx, _, rfl, upd_same, T.cl_Reader, T.n_depth, by show 3 < 1000; decide, ?_⟩
  rw [upd_upd, upd_upd]
  have b1 : But p H (upd H1 p (.ins CR dx (putF "depth" (.int 0) (putF "at" (.int 0) (putF "row" (.ref r) (putF "source" (.str z) [])))))) := ((But.refl p H).upd.trans (But.of s1)).upd
  have raw : Raw CR (upd H1 p (.ins CR dx (putF "depth" (.int 0) (putF "at" (.int 0) (putF "row" (.ref r) (putF "source" (.str z) [])))))) p z r ((0 : Nat) : Int) ((0 : Nat) : Int) := ⟨dx, by rw [upd_same]; congr 1⟩
  generalize hH2 : upd H1 p (.ins CR dx (putF "depth" (.int 0) (putF "at" (.int 0) (putF "row" (.ref r) (putF "source" (.str z) []))))) = H2 at b1 raw ⊢
  have hpr : p ≠ r := fun e => by rw [← e, upd_same] at nr; cases nr
  have hL2 : LT H2 r ((allT z).map tkV) := by
    subst hH2
    obtain ⟨rs, g1, g2, g3⟩ := hL
    refine ⟨rs, by rw [upd_ne hpr.symm]; exact g1, g2, fun i x xs e1 e2 => ?_⟩
    have g4 := g3 i x xs e1 e2
    rw [upd_ne (fun e => by rw [e, hp1] at g4; cases g4)]
    exact g4
  have fit := toks_fit8 (Nat.le_refl (tl z).length) (tl z).length 0 (by omega)
  have R2 : Rd CR H2 p ⟨r, tl z, allT z⟩ 0 0 := ⟨⟨z, rfl, raw, hL2⟩, hz', Nat.le_trans fit.1 hz', Nat.zero_le _, fun t ht => (fit.2 t ht).1, nums_of r z⟩
  obtain ⟨rs, g1, g2, g3⟩ := hL2
  rw [List.length_map] at g2
  refine ⟨_, rfl, p, z, r, _, _, rfl, raw, r, _, rfl, .inl (.inl (.inl g1)), _, _, rfl, rfl, _, rfl, ?_⟩
  rw [List.length_map, g2]
  by_cases kk : 300 < (allT z).length
  · rw [if_pos kk] at q
    refine iteP (by omega) ?_
    refine ⟨_, rfl, p, CR, _, _, rfl, raw.choose_spec, T.cl_Reader, T.n_at, by show 4 < 1000; decide, ?_⟩
    have R3 : Rd CR (upd H2 p (.ins CR raw.choose (putF "at" (.int 300) (rf z r ((0 : Nat) : Int) ((0 : Nat) : Int))))) p ⟨r, tl z, allT z⟩ 300 0 :=
      R2.move raw (But.refl p H2).upd ⟨raw.choose, by rw [upd_same, rf_at']; rfl⟩ (Nat.le_of_lt kk)
    exact ⟨_, rfl, p, rfl, R3.isI, p, _, 300, 0, rfl, R3, fun H' dd b x => q r H' dd ((b1.trans (But.refl p H2).upd).trans b) x⟩
  · rw [if_neg kk] at q
    refine iteN (by omega) ?_
    exact q _ r b1 R2
end

end Sn

namespace Sn
open PySem PySem.Spec PyProof.Rows L2 TL
/-! ### a method's promise weakened (the same row as in It1, for laws without items) -/
theorem CalM.imp {P : Program} {w : World} {K : PySem.W.Frag} {mg : Str → Option Value} {base : Heap} {CX : CXT} {k : Nat} {C : Addr} {m : Str} {sp sp' : Sp} (c : CalM P w K mg base CX k C m sp) (h : ∀ vs H Q E, sp' vs H Q E → sp vs H Q E) : CalM P w K mg base CX k C m sp' := by
  obtain ⟨f, fd, ps, F, M, b⟩ := c.ex
  exact ⟨f, fd, ps, F.imp h, M, b⟩

end Sn

namespace Sn
open PySem PySem.Spec PyProof.Rows L2 TL
/-! ### all of the reader, by how deep it goes -/
structure MF (K : PySem.W.Frag) (C : Addr) (m qual : Str) (st : Stmt) (ps : List Str) : Prop where
  ex : ∃ (f : Addr) (fd : FuncData), Fun K m qual st f fd ∧ Meth K C m f ∧ Binds K fd ps []
structure PF (K : PySem.W.Frag) (mg : Str → Option Value) (x : Str) (st : Stmt) (ps : List Str) : Prop where
  ex : ∃ (f : Addr) (fd : FuncData), Fun K x x st f fd ∧ mg x = some (.ref f) ∧ Binds K fd ps []
section
variable {P : Program} {w : World} {K : PySem.W.Frag} {mg : Str → Option Value} {base : Heap} {CX : CXT} {k : Nat} {C : Addr} {m qual x : Str} {st : Stmt} {ps : List Str} {sp : Sp}
theorem MF.cal (h : MF K C m qual st ps) (ok : ∀ f fd, Fun K m qual st f fd → FnOk P w K mg base CX k f fd ps sp) : CalM P w K mg base CX k C m sp := by
  obtain ⟨f, fd, F, M, b⟩ := h.ex
  exact ⟨f, fd, ps, ok f fd F, M, b⟩
theorem PF.cal (h : PF K mg x st ps) (ok : ∀ f fd, Fun K x x st f fd → FnOk P w K mg base CX k f fd ps sp) : Cal P w K mg base CX k x sp := by
  obtain ⟨f, fd, F, M, b⟩ := h.ex
  exact ⟨f, fd, ps, ok f fd F, M, F.kp, b⟩
theorem no_fn {f : Addr} {fd : FuncData} (no : ∀ vs H Q E, ¬ sp vs H Q E) : FnOk P w K mg base CX k f fd ps sp :=
  ⟨fun vs H Q E h => absurd h (no vs H Q E), fun A outer s H args us vs Q E _ _ _ _ h => absurd h (no vs H Q E)⟩
end
structure RdM (K : PySem.W.Frag) (CR : Addr) : Prop where
  fail : MF K CR "fail" "Reader.fail" s_Reader_fail ["self"]
  ended : MF K CR "ended" "Reader.ended" s_Reader_ended ["self"]
  next_sort : MF K CR "next_sort" "Reader.next_sort" s_Reader_next_sort ["self"]
  next_start : MF K CR "next_start" "Reader.next_start" s_Reader_next_start ["self"]
  last_end : MF K CR "last_end" "Reader.last_end" s_Reader_last_end ["self"]
  peek : MF K CR "peek" "Reader.peek" s_Reader_peek ["self"]
  taken : MF K CR "taken" "Reader.taken" s_Reader_taken ["self", "word"]
  expect : MF K CR "expect" "Reader.expect" s_Reader_expect ["self", "word"]
  mark : MF K CR "mark" "Reader.mark" s_Reader_mark ["self"]
  begin_ : MF K CR "begin" "Reader.begin" s_Reader_begin ["self"]
  value : MF K CR "value" "Reader.value" s_Reader_value ["self"]
  part : MF K CR "part" "Reader.part" s_Reader_part ["self", "word"]
  let_ : MF K CR "let" "Reader.let" s_Reader_let ["self", "start"]
  choice : MF K CR "choice" "Reader.choice" s_Reader_choice ["self", "start"]
  loop : MF K CR "loop" "Reader.loop" s_Reader_loop ["self", "start"]
  chain : MF K CR "chain" "Reader.chain" s_Reader_chain ["self", "least"]
  negated : MF K CR "negated" "Reader.negated" s_Reader_negated ["self"]
  signed : MF K CR "signed" "Reader.signed" s_Reader_signed ["self"]
  reached : MF K CR "reached" "Reader.reached" s_Reader_reached ["self"]
  simple : MF K CR "simple" "Reader.simple" s_Reader_simple ["self"]
  named : MF K CR "named" "Reader.named" s_Reader_named ["self"]
section
variable {P : Program} {w : World} {K : PySem.W.Frag} {mg : Str → Option Value} {base : Heap} {aW CR CS aR : Addr} {tS t0 t1 t2 t3 t4 t5 t6 : PySem.Tok}
/-- what a reading needs -/
structure RdB (P : Program) (w : World) (K : PySem.W.Frag) (mg : Str → Option Value) (base : Heap) (CR CS : Addr) (b : Nat) : Prop where
  value : CalM P w K mg base (L2N.CX P w) b CR "value" (spT CR CS fun S d a => valB S b d a)
  signed : CalM P w K mg base (L2N.CX P w) b CR "signed" (spT CR CS fun S d a => sgB S b d a)
  chain : CalM P w K mg base (L2N.CX P w) b CR "chain" (spTc CR CS fun S d s a => chB S b s d a)
theorem no_spT {m : Src → Nat → Nat → Rs Tn} (h : ∀ S d a, m S d a = .un) : ∀ vs H Q E, ¬ spT CR CS m vs H Q E := by
  rintro vs H Q E ⟨p, S, a, d, rfl, R, q⟩
  rw [h] at q
  exact q
theorem no_spTc {m : Src → Nat → Nat → Nat → Rs Tn} (h : ∀ S d s a, m S d s a = .un) : ∀ vs H Q E, ¬ spTc CR CS m vs H Q E := by
  rintro vs H Q E ⟨p, S, a, d, s, rfl, _, R, q⟩
  rw [h] at q
  exact q
theorem spT_eq {m m' : Src → Nat → Nat → Rs Tn} (h : ∀ S d a, m S d a = m' S d a) {vs : List V} {H : Hp} {Q : VK} {E : XK} (z : spT CR CS m vs H Q E) : spT CR CS m' vs H Q E := by
  obtain ⟨p, S, a, d, e, R, q⟩ := z
  rw [h] at q
  exact ⟨p, S, a, d, e, R, q⟩
theorem spTc_eq {m m' : Src → Nat → Nat → Nat → Rs Tn} (h : ∀ S d s a, m S d s a = m' S d s a) {vs : List V} {H : Hp} {Q : VK} {E : XK} (z : spTc CR CS m vs H Q E) : spTc CR CS m' vs H Q E := by
  obtain ⟨p, S, a, d, s, e, hs, R, q⟩ := z
  rw [h] at q
  exact ⟨p, S, a, d, s, e, hs, R, q⟩
theorem rd_all (T : NmR K w mg aW tS CR CS aR t0 t1 t2 t3 t4 t5 t6) (M : RdM K CR) (I_SP : ExI P w K mg base 1 CS (spXI CS)) (C_number_value : Cal P w K mg base CX0 1 "number_value" spNum) (b : Nat) : RdB P w K mg base CR CS b := by
  induction b using Nat.strongRecOn with
  | ind b ih =>
    by_cases hb : 10 ≤ b
    · obtain ⟨j, rfl⟩ : ∃ j, b = j + 1 := ⟨b - 1, by omega⟩
      have B1 := ih (j + 1 - 1) (by omega)
      have B2 := ih (j + 1 - 2) (by omega)
      have B3 := ih (j + 1 - 3) (by omega)
      have B4 := ih (j + 1 - 4) (by omega)
      have c_fail := M.fail.cal (P := P) (w := w) (mg := mg) (base := base) fun f fd F => ok_fail F T I_SP
      have c_ended := M.ended.cal (P := P) (w := w) (mg := mg) (base := base) fun f fd F => ok_ended F T
      have c_sort := M.next_sort.cal (P := P) (w := w) (mg := mg) (base := base) fun f fd F => ok_next_sort F T c_ended
      have c_start := M.next_start.cal (P := P) (w := w) (mg := mg) (base := base) fun f fd F => ok_next_start F T
      have c_last := M.last_end.cal (P := P) (w := w) (mg := mg) (base := base) fun f fd F => ok_last_end F T
      have c_peek := M.peek.cal (P := P) (w := w) (mg := mg) (base := base) fun f fd F => ok_peek F T c_ended
      have c_taken := M.taken.cal (P := P) (w := w) (mg := mg) (base := base) fun f fd F => ok_taken F T c_peek
      have c_expect := M.expect.cal (P := P) (w := w) (mg := mg) (base := base) fun f fd F => ok_expect F T c_taken c_fail
      have c_mark := M.mark.cal (P := P) (w := w) (mg := mg) (base := base) fun f fd F => ok_mark F T c_sort c_fail c_peek c_start
      have c_begin := M.begin_.cal (P := P) (w := w) (mg := mg) (base := base) fun f fd F => ok_begin F T c_ended c_fail c_start
      have h3 : 5 ≤ j + 1 - 3 := by omega
      have h4 : 5 ≤ j + 1 - 4 := by omega
      have c_part := M.part.cal (P := P) (w := w) (mg := mg) (base := base) fun f fd F => ok_part h3 F T c_expect B3.value
      have c_let := M.let_.cal (P := P) (w := w) (mg := mg) (base := base) fun f fd F => ok_let h3 F T c_mark c_part
      have c_choice := M.choice.cal (P := P) (w := w) (mg := mg) (base := base) fun f fd F => ok_choice h3 F T B3.value c_part
      have c_loop := M.loop.cal (P := P) (w := w) (mg := mg) (base := base) fun f fd F => ok_loop h3 F T c_mark c_part
      have c_value := M.value.cal (P := P) (w := w) (mg := mg) (base := base) fun f fd F => ok_value (j := j) (by omega) (by omega) (by omega) F T c_begin c_taken c_let c_choice c_loop B1.chain
      have c_negated := M.negated.cal (P := P) (w := w) (mg := mg) (base := base) fun f fd F => ok_negated (by omega) F T c_begin B2.chain
      have c_named := M.named.cal (P := P) (w := w) (mg := mg) (base := base) fun f fd F => ok_named h4 F T c_mark c_taken c_last c_peek B4.value c_expect
      have c_simple := M.simple.cal (P := P) (w := w) (mg := mg) (base := base) fun f fd F => ok_simple h4 F T c_sort c_peek c_named c_fail c_start c_last C_number_value B4.value c_expect
      have c_reached := M.reached.cal (P := P) (w := w) (mg := mg) (base := base) fun f fd F => ok_reached h4 F T c_simple c_taken c_mark
      have c_signed := M.signed.cal (P := P) (w := w) (mg := mg) (base := base) fun f fd F => ok_signed (j := j) (by omega) (by omega) (by omega) F T c_peek c_begin c_reached B1.signed
      have c_chain := M.chain.cal (P := P) (w := w) (mg := mg) (base := base) fun f fd F => ok_chain (j := j) (MN := fun S d a => chB S (j + 1 - 2) 3 d a) (MG := fun S d a => sgB S (j + 1 - 1) d a) (MR := fun S d s a => chB S (j + 1 - 1) s d a) (by omega) (by omega) (by omega) (by omega) F T c_peek c_negated B1.signed B1.chain
      refine ⟨c_value.imp fun vs H Q E h => spT_eq (fun S d a => valB_s S hb) h, c_signed.imp fun vs H Q E h => spT_eq (fun S d a => sgB_s S hb) h, c_chain.imp fun vs H Q E h => spTc_eq (fun S d s a => chB_s S hb) h⟩
    · exact ⟨M.value.cal fun f fd F => no_fn (no_spT fun _ _ _ => valB_n _ hb), M.signed.cal fun f fd F => no_fn (no_spT fun _ _ _ => sgB_n _ hb), M.chain.cal fun f fd F => no_fn (no_spTc fun _ _ _ _ => chB_n _ hb)⟩
end

end Sn

namespace Sn
open PySem PySem.Spec PyProof.Rows L2 TL
/-! ### read_value with a budget (as Rd8 and Rb have it by fuel) -/
def spReadB (CS : Addr) (b : Nat) : Sp := fun vs H Q E => ∃ z : Str, vs = [.str z] ∧ z.length ≤ 100000 ∧ ∀ r : Addr,
  if 300 < (allT z).length then failS CS H E ((⟨r, tl z, allT z⟩ : Src).fp 300).1 ((⟨r, tl z, allT z⟩ : Src).fp 300).2 else
  match valB (⟨r, tl z, allT z⟩ : Src) b 0 0 with
  | .un => False
  | .no s e => failS CS H E s e
  | .ok t a => if a < (allT z).length then failS CS H E ((⟨r, tl z, allT z⟩ : Src).fp a).1 ((⟨r, tl z, allT z⟩ : Src).fp a).2 else ∀ H' v, Same H H' → a ≤ (allT z).length → DT H' t.d v → Q v H'
section
variable {P : Program} {w : World} {K : PySem.W.Frag} {mg : Str → Option Value} {base : Heap} {f : Addr} {fd : FuncData} {aW CR CS aR : Addr} {tS t0 t1 t2 t3 t4 t5 t6 : PySem.Tok} {b : Nat}
abbrev s_read_value : Stmt := topS 26
abbrev N_read_value : List Str := ["text", "reader", "tree"]
theorem sc_read_value : FnScope N_read_value ["text"] (defScope s_read_value) := ⟨rfl, rfl, rfl, by decide +kernel, rfl, by decide +kernel, by decide +kernel⟩
theorem ok_read_valueB (F : Fun K "read_value" "read_value" s_read_value f fd) (T : NmR K w mg aW tS CR CS aR t0 t1 t2 t3 t4 t5 t6) (I_Reader : CalK P w K mg base (L2N.CX P w) 7 CR (spRI CR CS)) (C_Reader_fail : CalM P w K mg base (L2N.CX P w) 3 CR "fail" (spFail CR CS))
    (C_Reader_ended : CalM P w K mg base CX0 1 CR "ended" (spEnded CR)) (hb : 8 ≤ b) (C_Reader_value : CalM P w K mg base (L2N.CX P w) b CR "value" (spT CR CS fun S d a => valB S b d a)) :
    FnOk P w K mg base (L2N.CX P w) (b + 1) f fd ["text"] (spReadB CS b) := by
  refine okXN F sc_read_value (fun vs H Q E h => ?_) (fun cdv A outer s H vs Q E hr h => ?_)
  · obtain ⟨z, rfl, _⟩ := h
    rfl
  obtain ⟨z, rfl, hz, q⟩ := h
  have hr : Room b _ := hr
  refine ⟨_, (pss_cons (ps_set (i := 1) sc_read_value.nd rfl (Or.inl rfl) (pe_mk I_Reader hr (by first | decide | omega) T.mk_Reader (L2N.passes_call (L2N.takes_of rfl rfl rfl rfl) (fun _ _ _ _ h => h)) (pa_cons (pv 0) pa_nil)))
    (pss_cons (ps_set (i := 2) sc_read_value.nd rfl (Or.inl rfl) (pe_m0 ns_Reader C_Reader_value T.cl_Reader (by decide) hr (by first | decide | omega) (L2N.passes_call (L2N.takes_of rfl rfl rfl rfl) (fun _ _ _ _ h => h)) (pv 1)))
    (pss_cons (ps_if (pt_not (pt_val (pe_m0 ns_Reader C_Reader_ended T.cl_Reader (by decide) hr (by first | decide | omega) pass0 (pv 1)))) (pss_one (ps_expr (pe_m0 ns_Reader C_Reader_fail T.cl_Reader (by decide) hr (by first | decide | omega) (L2N.passes_call (L2N.takes_of rfl rfl rfl rfl) (fun _ _ _ _ h => h)) (pv 1)))) pss_nil)
    (pss_one (ps_ret (pv 2)))))), ?_⟩
  refine ⟨_, rfl, fun p dx np nd ne => ?_⟩
  have s0 : Same H (upd (upd H dx (.own p)) p (.ins CR dx [])) := fun b o h => by
    rw [upd_ne (ne_of_none h np), upd_ne (ne_of_none h nd)]
    exact h
  have sb : ∀ {H' : Hp}, But p (upd (upd H dx (.own p)) p (.ins CR dx [])) H' → Same H H' := fun b x o h => b _ _ (ne_of_none h np) (s0 _ _ h)
  refine ⟨p, dx, z, rfl, upd_same, hz, ?_⟩
  by_cases kk : 300 < (allT z).length
  · rw [if_pos kk]
    intro r H' dd b x
    have q' := q r
    rw [if_pos kk] at q'
    exact q' H' dd (sb b) x
  rw [if_neg kk]
  intro H1 r b1 R1
  have q' := q r
  rw [if_neg kk] at q'
  refine ⟨rfl, ?_⟩
  refine ⟨_, rfl, p, rfl, R1.isI, p, _, 0, 0, rfl, R1, ?_⟩
  show TK CR CS p _ 0 H1 _ E (valB (⟨r, tl z, allT z⟩ : Src) b 0 0)
  cases ev : valB (⟨r, tl z, allT z⟩ : Src) b 0 0 with
  | un => rw [ev] at q'; exact q'
  | no s e =>
    rw [ev] at q'
    exact fun H' dd b x => q' H' dd (sb (b1.trans b)) x
  | ok t a =>
    rw [ev] at q'
    intro H2 v b2 R2 D2
    refine ⟨_, rfl, p, rfl, R2.isI, p, _, a, 0, rfl, R2, ?_⟩
    by_cases ka : a < (allT z).length
    · rw [decide_eq_false (fun h => h (show a < Src.n ⟨r, tl z, allT z⟩ from ka))]
      refine ⟨_, rfl, iteT ?_⟩
      simp only [if_pos ka] at q'
      exact ⟨_, rfl, p, rfl, R2.isI, p, _, a, 0, rfl, R2, fun H' dd b x => q' H' dd (sb ((b1.trans b2).trans b)) x⟩
    · rw [decide_eq_true (show ¬ a < Src.n ⟨r, tl z, allT z⟩ from ka)]
      refine ⟨_, rfl, iteF ?_⟩
      simp only [if_neg ka] at q'
      exact ⟨_, rfl, q' H2 v (sb (b1.trans b2)) R2.ha D2⟩
theorem rd_readB (T : NmR K w mg aW tS CR CS aR t0 t1 t2 t3 t4 t5 t6) (M : RdM K CR) (I_SP : ExI P w K mg base 1 CS (spXI CS)) (C_number_value : Cal P w K mg base CX0 1 "number_value" spNum) (C_tokens : Cal P w K mg base CX0 5 "tokens" spTokens)
    {fI : Addr} {dI : FuncData} (FI : Fun K "__init__" "Reader.__init__" s_R_init fI dI) (MI : Mk K CR fI) (bI : Binds K dI ["self", "source"] []) (hb : 8 ≤ b) {f : Addr} {fd : FuncData} (F : Fun K "read_value" "read_value" s_read_value f fd) :
    FnOk P w K mg base (L2N.CX P w) (b + 1) f fd ["text"] (spReadB CS b) := by
  have B := rd_all T M I_SP C_number_value b
  have c_fail := M.fail.cal (P := P) (w := w) (mg := mg) (base := base) fun f fd F => ok_fail F T I_SP
  have c_ended := M.ended.cal (P := P) (w := w) (mg := mg) (base := base) fun f fd F => ok_ended F T
  exact ok_read_valueB F T ⟨fI, dI, _, ok_R_init FI T C_tokens c_fail, MI, bI⟩ c_fail c_ended hb B.value
end

end Sn

namespace Sn
open PySem PySem.Spec PyProof.Rows L2 TL
/-! ### the law's printing: one word -/
/-- the pen: a tape at t, and a text of these words at o -/
def Pn (H : Hp) (t c o : Addr) (ws : List Wd) : Prop := Tp H t c ∧ ∃ z : Str, H o = some (.dK [(.inr "text", .str z)]) ∧ TX (tl z) ws
def But2 (t o : Addr) (H H' : Hp) : Prop := ∀ b x, b ≠ t → b ≠ o → H b = some x → H' b = some x
section
variable {H H1 H2 : Hp} {t c o b : Addr} {ws : List Wd}
theorem But2.refl : But2 t o H H := fun _ _ _ _ h => h
theorem But2.trans (a : But2 t o H H1) (e : But2 t o H1 H2) : But2 t o H H2 := fun c x n m h => e c x n m (a c x n m h)
theorem But2.of (s : Same H H1) : But2 t o H H1 := fun b x _ _ h => s b x h
theorem But2.tape (s : But t H H1) : But2 t o H H1 := fun b x n _ h => s b x n h
theorem But2.out {x : HO} : But2 t o H (upd H o x) := fun b y _ m h => by rw [upd_ne m]; exact h
theorem tx_ne (T : Tp H t c) {z : Str} (h : H o = some (.dK [(.inr "text", .str z)])) : o ≠ t ∧ o ≠ c := by
  obtain ⟨cs, a, l, se, sa, k⟩ := T
  refine ⟨fun e => ?_, fun e => ?_⟩
  · rw [e, k.d] at h
    have h := Option.some.inj h
    injection h with h
    unfold tk at h
    simp at h
  · rw [e, k.cl] at h
    cases h
theorem Pn.same (s : Same H H1) (p : Pn H t c o ws) : Pn H1 t c o ws := ⟨p.1.same s, p.2.elim fun z h => ⟨z, s _ _ h.1, h.2⟩⟩
theorem Pn.take (s : But t H H1) (T : Tp H1 t c) (p : Pn H t c o ws) : Pn H1 t c o ws := ⟨T, p.2.elim fun z h => ⟨z, s _ _ (tx_ne p.1 h.1).1 h.1, h.2⟩⟩
theorem Pn.tups (s : But2 t o H H1) (p : Pn H t c o ws) : Tups H H1 := fun a vs h => by
  obtain ⟨T, z, hz, _⟩ := p
  exact s _ _ (T.ne h (by intro k e; cases e)) (ne_of h hz (by intro e; cases e)) h
theorem Pn.updL (p : Pn H t c o ws) {D : Addr} {vs : List V} {x : HO} (hD : H D = some (.lst vs)) (hc : D ≠ c) : Pn (upd H D x) t c o ws := by
  obtain ⟨T, z, hz, X⟩ := p
  exact ⟨T.upd (T.ne hD (by intro k e; cases e)).symm hc.symm, z, by rw [upd_ne (ne_of hz hD (by intro e; cases e))]; exact hz, X⟩
end
def isWL : Str := "abcdefghijklmnopqrstuvwxyz\x41BCDEFGHIJKLMNOPQRSTUVWXYZ0123456789_"
theorem in_wl (c : Nat) : decide (c ∈ isWL.cps.toList) = isW c := by
  by_cases h : c < 128
  · have k : ∀ c : Fin 128, decide ((c : Nat) ∈ isWL.cps.toList) = isW (c : Nat) := by decide +kernel
    exact k ⟨c, h⟩
  · have k : ∀ c ∈ isWL.cps.toList, c < 128 := by decide +kernel
    rw [decide_eq_false (fun e => h (k c e))]
    unfold isW isL isD
    symm
    simp
    omega
theorem last_cut (z : Str) : (tl z = [] ∧ cutS z (some (-1)) none = "") ∨ ∃ c, (tl z).getLast? = some c ∧ cutS z (some (-1)) none = ⟨#[c]⟩ := by
  have el := len_tl z
  rcases List.eq_nil_or_concat (tl z) with h | ⟨l, c, h⟩
  · refine .inl ⟨h, ext_tl ?_⟩
    rw [tl_cut, h]
    simp
    decide +kernel
  · rw [List.concat_eq_append] at h
    refine .inr ⟨c, by rw [h]; simp, ext_tl ?_⟩
    rw [tl_cut, h]
    rw [h, List.length_append, List.length_singleton] at el
    have e1 : HT.sIx z.length 0 (some (-1)) = l.length := by
      unfold HT.sIx
      simp
      omega
    have e2 : HT.sIx z.length z.length none = z.length := rfl
    rw [e1, e2, el, List.drop_left' rfl]
    simp
def spPut : Sp := fun vs H Q _ => ∃ (o : Addr) (z x : Str), vs = [.ref o, .str x] ∧ H o = some (.dK [(.inr "text", .str z)]) ∧ z.length + x.length ≤ 1000000 ∧ Q .non (upd H o (.dK [(.inr "text", .str (z ++ x))]))
def spGap : Sp := fun vs H Q _ => ∃ (t c o : Addr) (z : Str) (b : Bool), vs = [.ref t, .ref o, .bl b] ∧ Tp H t c ∧ H o = some (.dK [(.inr "text", .str z)]) ∧ z.length ≤ 100000 ∧
  ∀ (g : Str) H', Gp (tl g) → (tl g).length ≤ 15 → (b = true → tl g ≠ []) → But2 t o H H' → Tp H' t c → H' o = some (.dK [(.inr "text", .str (z ++ g))]) → Q .non H'
def spTok : Sp := fun vs H Q _ => ∃ (t c o : Addr) (x : Str) (ws : List Wd), vs = [.ref t, .ref o, .str x] ∧ Pn H t c o ws ∧ tkOk (tl x) = true ∧ (tl x).length ≤ 25 ∧ ws.length ≤ 2000 ∧
  ∀ (w : Wd) H', w.1 = tl x → Pn H' t c o (ws ++ [w]) → But2 t o H H' → Q (.int (w.2 : Int)) H'
def spName : Sp := fun vs H Q _ => ∃ (t c : Addr), vs = [.ref t] ∧ Tp H t c ∧ ∀ (x : Str) H', sortW (tl x) = "name" → tkOk (tl x) = true → (tl x).length ≤ 25 → But t H H' → Tp H' t c → Q (.str x) H'
theorem gp_note : Gp (tl (" # note)\n  " : Str)) := by
  have e : tl (" # note)\n  " : Str) = [32, 35, 32, 110, 111, 116, 101, 41, 10, 32, 32] := by decide +kernel
  rw [e]
  refine ⟨fun _ => ⟨32, _, rfl, .inl rfl⟩, fun L i rest h hi => ?_⟩
  obtain ⟨h1, h2, h3⟩ := drop_at (show L.drop i = 32 :: ([35, 32, 110, 111, 116, 101, 41] ++ 10 :: (32 :: 32 :: rest)) from h)
  rw [toks_blank (Nat.le_refl _) h2 h1 (.inl rfl), toks_comment [32, 110, 111, 116, 101, 41] (by decide) (by rw [h3]) h2]
  have h4 : L.drop (i + 1 + [32, 110, 111, 116, 101, 41].length + 1) = [10, 32, 32] ++ rest := by
    show L.drop (i + 1 + 6 + 1) = _
    rw [show i + 1 + 6 + 1 = i + 1 + 7 from rfl, ← List.drop_drop, h3]
    rfl
  have g3 : Gp [10, 32, 32] := gp_blank (.inr rfl) (gp_blank (.inl rfl) (gp_blank (.inl rfl) gp_nil))
  have hle : i + 1 + [32, 110, 111, 116, 101, 41].length + 1 ≤ L.length := by
    have := congrArg List.length h4
    rw [List.length_drop, List.length_append] at this
    simp at this ⊢
    omega
  rw [g3.2 L _ rest h4 hle]
  rfl
def gps : List Str := ["\x20", "", "  ", "\n ", " # note)\n  "]
def gpsV : List V := gps.map V.str
theorem gp_one : Gp (tl ("\x20" : Str)) := by rw [show tl ("\x20" : Str) = [32] by decide +kernel]; exact gp_blank (.inl rfl) gp_nil
theorem gps_at (k : Nat) (h : k < 5) : ∃ g : Str, gpsV[k]? = some (V.str g) ∧ Gp (tl g) ∧ (tl g).length ≤ 15 := by
  match k, h with
  | 0, _ => exact ⟨_, rfl, gp_one, by decide +kernel⟩
  | 1, _ => exact ⟨_, rfl, gp_nil, by decide +kernel⟩
  | 2, _ => exact ⟨_, rfl, by rw [show tl ("  " : Str) = [32, 32] by decide +kernel]; exact gp_blank (.inl rfl) (gp_blank (.inl rfl) gp_nil), by decide +kernel⟩
  | 3, _ => exact ⟨_, rfl, by rw [show tl ("\n " : Str) = [10, 32] by decide +kernel]; exact gp_blank (.inr rfl) (gp_blank (.inl rfl) gp_nil), by decide +kernel⟩
  | 4, _ => exact ⟨_, rfl, gp_note, by decide +kernel⟩
section
variable {P : Program} {w : World} {K : PySem.W.Frag} {mg : Str → Option Value} {base : Heap} {f : Addr} {fd : FuncData}
abbrev s_l_put : Stmt := topS 48
abbrev N_l_put : List Str := ["out", "string"]
theorem sc_l_put : FnScope N_l_put ["out", "string"] (defScope s_l_put) := ⟨rfl, rfl, rfl, by decide +kernel, rfl, by decide +kernel, by decide +kernel⟩
theorem ok_l_put (F : Fun K "_law_put" "_law_put" s_l_put f fd) (T : Nm mg) : FnOk P w K mg base CX0 1 f fd ["out", "string"] spPut := by
  refine F.ok sc_l_put (fun vs H Q E h => ?_) (fun cdv A outer s H vs Q E hr h => ?_)
  · obtain ⟨o, z, x, rfl, _⟩ := h
    rfl
  obtain ⟨o, z, x, rfl, ho, hl, q⟩ := h
  refine ⟨_, (pss_one (ps_dput (hu_of hr) (pv 0) pe_str (pe_op op_add_str (pe_dget (hu_of hr) (pv 0) pe_str (fun _ _ => rfl)) (pv 1)) rfl)), ?_⟩
  refine ⟨_, rfl, o, _, rfl, DGet.k (k := .inr "text") ho, _, rfl, _, _, rfl, rfl, small (by omega), _, rfl, o, _, rfl, DPut.k (k := .inr "text") ho (show 1 < sizeLine by decide), ?_⟩
  exact q
abbrev s_l_gap : Stmt := topS 49
abbrev N_l_gap : List Str := ["tape", "out", "needed", "gaps", "gap"]
theorem sc_l_gap : FnScope N_l_gap ["tape", "out", "needed"] (defScope s_l_gap) := ⟨rfl, rfl, rfl, by decide +kernel, rfl, by decide +kernel, by decide +kernel⟩
theorem ok_l_gap (F : Fun K "_law_gap" "_law_gap" s_l_gap f fd) (T : Nm mg) (C_law_take : Cal P w K mg base CX0 1 "_law_take" spTake) (C_law_put : Cal P w K mg base CX0 1 "_law_put" spPut) : FnOk P w K mg base CX0 2 f fd ["tape", "out", "needed"] spGap := by
  refine F.ok sc_l_gap (fun vs H Q E h => ?_) (fun cdv A outer s H vs Q E hr h => ?_)
  · obtain ⟨t, c, o, z, b, rfl, _⟩ := h
    rfl
  obtain ⟨t, c, o, z, b, rfl, T0, ho, hz, q⟩ := h
  refine ⟨_, (pss_cons (ps_set (i := 3) sc_l_gap.nd rfl (Or.inl rfl) (pe_lst (pa_cons pe_str (pa_cons pe_str (pa_cons pe_str (pa_cons pe_str (pa_cons pe_str pa_nil)))))))
    (pss_cons (ps_set (i := 4) sc_l_gap.nd rfl (Or.inl rfl) (pe_ix (r := rIxL K) ix_list (pv 3) (pe_op op_fdiv (pe_c C_law_take hr (by first | decide | omega) pass0 (pa_cons (pv 0) (pa_cons pe_int pa_nil))) pe_int) (fun _ _ => rfl)))
    (pss_cons (ps_if (PW.pt (pw_and (pt_val (pv 2)) (pw_and1 (pt_cmpR op_eq (pv 4) pe_str (nomark _))))) (pss_one (ps_set (i := 4) sc_l_gap.nd rfl (Or.inl rfl) pe_str)) pss_nil)
    (pss_one (ps_expr (pe_c C_law_put hr (by first | decide | omega) pass0 (pa_cons (pv 1) (pa_cons (pv 4) pa_nil)))))))), ?_⟩
  refine ⟨by decide, fun L nL => ?_⟩
  have s1 := same_new (o := .lst gpsV) nL
  have T1 := T0.new (o := .lst gpsV) nL
  have hL : upd H L (.lst gpsV) L = some (.lst gpsV) := upd_same
  refine ⟨_, rfl, _, rfl, t, c, 20, rfl, T1, by decide, by decide, fun r H1 h0 h1 b1 T2 => ?_⟩
  have h5 : r / 4 < 5 := by omega
  obtain ⟨k, ek⟩ : ∃ k : Nat, r / 4 = (k : Int) := ⟨(r / 4).toNat, by omega⟩
  obtain ⟨g, hg, g1, g2⟩ := gps_at k (by omega)
  have hL1 := b1 _ _ (T1.ne hL (by intro k e; cases e)) hL
  have b2 : But2 t o H H1 := (But2.of s1).trans (But2.tape b1)
  have ho1 : H1 o = some (.dK [(.inr "text", .str z)]) := b1 _ _ (tx_ne T0 ho).1 (s1 _ _ ho)
  have out : ∀ g : Str, Gp (tl g) → (tl g).length ≤ 15 → (b = true → tl g ≠ []) → ∃ (o' : Addr) (z' x' : Str), [V.ref o, V.str g] = [.ref o', .str x'] ∧ H1 o' = some (.dK [(.inr "text", .str z')]) ∧ z'.length + x'.length ≤ 1000000 ∧ Q .non (upd H1 o' (.dK [(.inr "text", .str (z' ++ x'))])) := by
    intro g k1 k2 k3
    have k2' : g.length ≤ 15 := k2
    refine ⟨o, z, g, rfl, ho1, by omega, q g _ k1 k2 k3 (b2.trans But2.out) (T2.upd (tx_ne T2 ho1).1.symm (tx_ne T2 ho1).2.symm) upd_same⟩
  refine ⟨_, _, rfl, rfl, (show (0:Int) < 4 ∧ (4:Int) < 1073741824 from ⟨by decide, by decide⟩), L, gpsV, _, _, rfl, rfl, SqL.of hL1, (by rw [ek]; exact at_of rfl hg), ?_⟩
  refine ⟨_, rfl, ?_⟩
  have em : ∀ g : Str, V.str g = V.str "" ↔ tl g = [] := fun g => ⟨fun e => by injection e with e; rw [e]; decide +kernel, fun e => congrArg V.str (ext_tl (by rw [e]; decide +kernel))⟩
  cases b with
  | false =>
    refine ⟨_, rfl, iteF ?_⟩
    exact ⟨_, rfl, _, rfl, out g g1 g2 (fun e => absurd e (by decide))⟩
  | true =>
    refine ⟨_, rfl, iteT ⟨_, rfl, rfl, _, rfl, ?_⟩⟩
    by_cases k0 : tl g = []
    · refine iteP ((em g).mpr k0) ?_
      exact ⟨_, rfl, _, rfl, out "\x20" gp_one (by decide +kernel) (fun _ => by decide +kernel)⟩
    · refine iteN (fun e => k0 ((em g).mp e)) ?_
      exact ⟨_, rfl, _, rfl, out g g1 g2 (fun _ => k0)⟩
abbrev s_l_token_out : Stmt := topS 50
abbrev N_l_token_out : List Str := ["tape", "out", "string", "last", "joins", "letters", "start"]
theorem sc_l_token_out : FnScope N_l_token_out ["tape", "out", "string"] (defScope s_l_token_out) := ⟨rfl, rfl, rfl, by decide +kernel, rfl, by decide +kernel, by decide +kernel⟩
theorem ok_l_tok (F : Fun K "_law_token_out" "_law_token_out" s_l_token_out f fd) (T : Nm mg) (C_law_gap : Cal P w K mg base CX0 2 "_law_gap" spGap) (C_law_put : Cal P w K mg base CX0 1 "_law_put" spPut) : FnOk P w K mg base CX0 3 f fd ["tape", "out", "string"] spTok := by
  refine F.ok sc_l_token_out (fun vs H Q E h => ?_) (fun cdv A outer s H vs Q E hr h => ?_)
  · obtain ⟨t, c, o, x, ws, rfl, _⟩ := h
    rfl
  obtain ⟨t, c, o, x, ws, rfl, ⟨T0, z, ho, X⟩, hx, h25, hw, q⟩ := h
  refine ⟨_, (pss_cons (ps_set (i := 3) sc_l_token_out.nd rfl (Or.inl rfl) (pe_slice sl_str (pe_dget (hu_of hr) (pv 1) pe_str (fun _ _ => rfl)) (po_some (pe_un un_neg pe_int)) po_none))
    (pss_cons (ps_set (i := 4) sc_l_token_out.nd rfl (Or.inl rfl) (pe_and (pe_cmpR op_ne (pv 3) pe_str (nomark _)) (pe_one (pe_cmpR op_in_sign (pv 3) pe_str (by rfl)))))
    (pss_cons (ps_set (i := 5) sc_l_token_out.nd rfl (Or.inl rfl) (pe_cmpR op_in_sign (pe_item_str (pv 2) pe_int (fun _ _ => rfl)) pe_str (by rfl)))
    (pss_cons (ps_if (pt_cmpR op_ne (pe_dget (hu_of hr) (pv 1) pe_str (fun _ _ => rfl)) pe_str (nomark _)) (pss_one (ps_expr (pe_c C_law_gap hr (by first | decide | omega) pass0 (pa_cons (pv 0) (pa_cons (pv 1) (pa_cons (pe_or (pe_and (pv 4) (pe_one (pv 5))) (pe_one (pe_and (pe_cmpR op_eq (pv 3) pe_str (nomark _)) (pe_one (pe_cmpR op_eq (pe_item_str (pv 2) pe_int (fun _ _ => rfl)) pe_str (nomark _)))))) pa_nil)))))) pss_nil)
    (pss_cons (ps_set (i := 6) sc_l_token_out.nd rfl (Or.inl rfl) (pe_callB call_len_str (by rfl) T.len PySem.boot_len (pa_cons (pe_dget (hu_of hr) (pv 1) pe_str (fun _ _ => rfl)) pa_nil)))
    (pss_cons (ps_expr (pe_c C_law_put hr (by first | decide | omega) pass0 (pa_cons (pv 1) (pa_cons (pv 2) pa_nil))))
    (pss_one (ps_ret (pv 6))))))))), ?_⟩
  have hX := X.len
  have hz : z.length ≤ 80000 := by rw [len_tl]; omega
  obtain ⟨y, r, ey, _, _⟩ := tk_head hx
  have hg := DGet.k (k := .inr "text") ho
  have hy0 : x.cps[(0 : Int).toNat]? = some y := by
    rw [← Array.getElem?_toList]
    show (tl x)[0]? = some y
    rw [ey]
    rfl
  have hx1 : (0 : Int) < (x.length : Int) := by
    rw [len_tl, ey, List.length_cons]
    omega
  have pz : ∀ (z1 g : Str) (H1 : Hp), z1 = z ++ g → Gp (tl g) → (tl g).length ≤ 15 → (tl g = [] → Jn (tl z) (tl x)) → But2 t o H H1 → Tp H1 t c → H1 o = some (.dK [(.inr "text", .str z1)]) → Q (.int ((z1.length : Nat) : Int)) (upd H1 o (.dK [(.inr "text", .str (z1 ++ x))])) := by
    intro z1 g H1 e1 k1 k2 k3 k4 k5 k6
    subst e1
    have el : (tl (z ++ g)).length = (tl z).length + (tl g).length := by rw [tl_append, List.length_append]
    have := q (tl x, (z ++ g).length) (upd H1 o (.dK [(.inr "text", .str (z ++ g ++ x))])) rfl ⟨k5.upd (tx_ne k5 k6).1.symm (tx_ne k5 k6).2.symm, z ++ g ++ x, upd_same, ?_⟩ (k4.trans But2.out)
    · exact this
    · rw [tl_append, tl_append, len_tl, el]
      exact X.put k1 hx k3 k2 h25
  refine ⟨_, rfl, o, _, rfl, hg, 1, rfl, _, rfl, z, rfl, small (by omega), ?_⟩
  rcases last_cut z with ⟨e0, e1⟩ | ⟨l, e0, e1⟩
  · rw [e1]
    have ez : z = "" := ext_tl (by rw [e0]; decide +kernel)
    refine ⟨_, rfl, rfl, _, rfl, iteNS rfl ?_⟩
    refine ⟨_, rfl, x, _, y, rfl, rfl, by decide, by decide, hx1, hy0, _, _, rfl, rfl, ?_⟩
    refine ⟨_, rfl, o, _, rfl, hg, rfl, _, rfl, iteNS (by rw [ez]) ?_⟩
    refine ⟨_, rfl, o, _, rfl, hg, z, rfl, small (by omega), ?_⟩
    have hx25 : x.length ≤ 25 := h25
    refine ⟨_, rfl, _, rfl, o, z, x, rfl, ho, by omega, _, rfl, ?_⟩
    exact pz z "" H (ext_tl (by rw [tl_append]; simp; decide +kernel)) gp_nil (by decide +kernel) (fun _ c d h => by rw [e0] at h; cases h) But2.refl T0 ho
  · rw [e1]
    refine ⟨_, rfl, rfl, _, rfl, iteNN (fun e => by injection e with e; have := congrArg tl e; rw [show tl ("" : Str) = [] by decide +kernel] at this; cases this) ?_⟩
    refine ⟨_, rfl, _, _, rfl, rfl, ?_⟩
    refine ⟨_, rfl, x, _, y, rfl, rfl, by decide, by decide, hx1, hy0, _, _, rfl, rfl, ?_⟩
    have hm1 := in_wl l
    have hm2 := in_wl y
    unfold isWL at hm1 hm2
    rw [hm1, hm2]
    have hzn : ¬ V.str z = V.str "" := fun e => by
      injection e with e
      rw [e] at e0
      rw [show tl ("" : Str) = [] by decide +kernel] at e0
      cases e0
    have s61 : ∀ u : Nat, decide (V.str (⟨#[u]⟩ : Str) = V.str "=") = (u == 61) := fun u => by
      by_cases k : u = 61
      · rw [k]; decide +kernel
      · rw [decide_eq_false (fun e => k (by
          injection e with e
          have := congrArg tl e
          rw [show tl ("=" : Str) = [61] by decide +kernel] at this
          injection this))]
        exact (beq_eq_false_iff_ne.mpr k).symm
    have jn : ∀ b : Bool, melt l y = b → ∀ g : Str, (b = true → tl g ≠ []) → tl g = [] → Jn (tl z) (tl x) := by
      intro b hb g k1 k2 u v h1 h2
      rw [e0] at h1
      rw [ey] at h2
      cases h1
      cases h2
      rw [hb]
      cases b with
      | false => rfl
      | true => exact absurd k2 (k1 rfl)
    refine ⟨_, rfl, o, _, rfl, hg, rfl, _, rfl, iteNN hzn ?_⟩
    refine ⟨_, rfl, _, rfl, ?_⟩
    cases hl : isW l with
    | true =>
      have l61 : (l == 61) = false := beq_eq_false_iff_ne.mpr (fun e => by rw [e] at hl; exact absurd hl (by decide))
      cases hy : isW y with
      | true =>
        refine ⟨_, rfl, _, rfl, iteT ⟨_, rfl, _, rfl, iteT ?_⟩⟩
        refine ⟨t, c, o, z, _, rfl, T0, ho, by omega, fun g H' k1 k2 k3 k4 k5 k6 => ?_⟩
        have l1 : (z ++ g).length = z.length + g.length := by rw [len_tl, tl_append, List.length_append]; rfl
        have l2 : g.length ≤ 15 := k2
        have l3 : x.length ≤ 25 := h25
        refine ⟨_, rfl, o, _, rfl, DGet.k (k := .inr "text") k6, _, rfl, small (by omega), _, rfl, _, rfl, o, _, x, rfl, k6, by omega, _, rfl, ?_⟩
        exact pz _ g H' rfl k1 k2 (jn _ (by unfold melt; rw [hl, hy]; rfl) _ k3) k4 k5 k6
      | false =>
        refine ⟨_, rfl, _, rfl, iteT ⟨_, rfl, _, rfl, iteF ?_⟩⟩
        refine ⟨_, rfl, rfl, _, rfl, ?_⟩
        rw [s61, l61]
        refine iteF ?_
        refine ⟨t, c, o, z, _, rfl, T0, ho, by omega, fun g H' k1 k2 k3 k4 k5 k6 => ?_⟩
        have l1 : (z ++ g).length = z.length + g.length := by rw [len_tl, tl_append, List.length_append]; rfl
        have l2 : g.length ≤ 15 := k2
        have l3 : x.length ≤ 25 := h25
        refine ⟨_, rfl, o, _, rfl, DGet.k (k := .inr "text") k6, _, rfl, small (by omega), _, rfl, _, rfl, o, _, x, rfl, k6, by omega, _, rfl, ?_⟩
        exact pz _ g H' rfl k1 k2 (jn _ (by unfold melt; rw [hl, hy, l61]; rfl) _ k3) k4 k5 k6
    | false =>
      refine ⟨_, rfl, _, rfl, iteF ⟨_, rfl, iteF ?_⟩⟩
      refine ⟨_, rfl, rfl, _, rfl, ?_⟩
      rw [s61]
      cases k61 : (l == 61) with
      | false =>
        refine iteF ?_
        refine ⟨t, c, o, z, _, rfl, T0, ho, by omega, fun g H' k1 k2 k3 k4 k5 k6 => ?_⟩
        have l1 : (z ++ g).length = z.length + g.length := by rw [len_tl, tl_append, List.length_append]; rfl
        have l2 : g.length ≤ 15 := k2
        have l3 : x.length ≤ 25 := h25
        refine ⟨_, rfl, o, _, rfl, DGet.k (k := .inr "text") k6, _, rfl, small (by omega), _, rfl, _, rfl, o, _, x, rfl, k6, by omega, _, rfl, ?_⟩
        exact pz _ g H' rfl k1 k2 (jn _ (by unfold melt; rw [hl, k61]; rfl) _ k3) k4 k5 k6
      | true =>
        refine iteT ⟨_, rfl, x, _, y, rfl, rfl, by decide, by decide, hx1, hy0, rfl, ?_⟩
        rw [s61]
        refine ⟨t, c, o, z, _, rfl, T0, ho, by omega, fun g H' k1 k2 k3 k4 k5 k6 => ?_⟩
        have l1 : (z ++ g).length = z.length + g.length := by rw [len_tl, tl_append, List.length_append]; rfl
        have l2 : g.length ≤ 15 := k2
        have l3 : x.length ≤ 25 := h25
        refine ⟨_, rfl, o, _, rfl, DGet.k (k := .inr "text") k6, _, rfl, small (by omega), _, rfl, _, rfl, o, _, x, rfl, k6, by omega, _, rfl, ?_⟩
        exact pz _ g H' rfl k1 k2 (jn _ (by unfold melt; rw [hl, k61]; rfl) _ k3) k4 k5 k6
end

end Sn

namespace Sn
open PySem PySem.Spec PyProof.Rows L2 TL
/-! ### the law's printing: leaves -/
/-- a tree is printed -/
def MkQ (t c o : Addr) (ws : List Wd) (pr : List Wd → Tn → Prop) (m dp : Nat) (H : Hp) (Q : VK) : Prop := ∀ H' nw tn v, pr nw tn → nw.length ≤ m → dep tn.d ≤ dp → DT H' tn.d v → Pn H' t c o (ws ++ nw) → But2 t o H H' → Q v H'
def spLeaf : Sp := fun vs H Q _ => ∃ (t c o : Addr) (n : Nat) (ws : List Wd), vs = [.ref t, .ref o, .int (n : Int)] ∧ Pn H t c o ws ∧ ws.length ≤ 2000 ∧ MkQ t c o ws RdD 1 1 H Q
def nmsL : List Str := ["\x61", "b", "f", "x1", "Point", "long_name", "y", "T", "iff", "Ints"]
theorem nms_ok : (nmsL.all fun z => decide (sortW (tl z) = "name") && (tkOk (tl z) && decide ((tl z).length ≤ 25))) = true := by decide +kernel
def dgs : List Str := ["\x30", "7", "007", "4294967295", "4294967297", "12345678901234567890"]
def dgn : List Int := [0, 7, 7, 4294967295, 4294967297, 12345678901234567890]
theorem dgs_ok : (dgs.all fun z => decide (sortW (tl z) = "number") && (tkOk (tl z) && decide ((tl z).length ≤ 25))) = true := by decide +kernel
theorem dgs_n : (List.zipWith (fun (z : Str) (n : Int) => decide (PySem.intText? z = some n) && decide (Src.numv (tl z) = n % 4294967296)) dgs dgn).all id = true := by decide +kernel
theorem dep_rest1 (a b : Str) (x y : Int) : dep (Tn.d ⟨a, x.toNat, y.toNat, [.str b]⟩) = 1 := rfl
section
variable {P : Program} {w : World} {K : PySem.W.Frag} {mg : Str → Option Value} {base : Heap} {f : Addr} {fd : FuncData}
abbrev s_l_some_name : Stmt := topS 51
abbrev N_l_some_name : List Str := ["tape", "names"]
theorem sc_l_some_name : FnScope N_l_some_name ["tape"] (defScope s_l_some_name) := ⟨rfl, rfl, rfl, by decide +kernel, rfl, by decide +kernel, by decide +kernel⟩
def pcs_l_some_name_1 : List Str := ["a", "b", "f", "x1", "Point", "long_name", "y", "T", "iff", "Ints"]
theorem ok_l_name (F : Fun K "_law_some_name" "_law_some_name" s_l_some_name f fd) (T : Nm mg) (C_law_take : Cal P w K mg base CX0 1 "_law_take" spTake) : FnOk P w K mg base CX0 2 f fd ["tape"] spName := by
  refine F.ok sc_l_some_name (fun vs H Q E h => ?_) (fun cdv A outer s H vs Q E hr h => ?_)
  · obtain ⟨t, c, rfl, _⟩ := h
    rfl
  obtain ⟨t, c, rfl, T0, q⟩ := h
  refine ⟨_, (pss_cons (ps_set (i := 1) sc_l_some_name.nd rfl (Or.inl rfl) (pe_lst (pa_strs pcs_l_some_name_1)))
    (pss_one (ps_ret (pe_ix (r := rIxL K) ix_list (pv 1) (pe_c C_law_take hr (by first | decide | omega) pass0 (pa_cons (pv 0) (pa_cons pe_int pa_nil))) (fun _ _ => rfl))))), ?_⟩
  refine ⟨by decide, fun L nL => ?_⟩
  have s1 := same_new (o := .lst (nmsL.map V.str)) nL
  have T1 := T0.new (o := .lst (nmsL.map V.str)) nL
  have hL : upd H L (.lst (nmsL.map V.str)) L = some (.lst (nmsL.map V.str)) := upd_same
  refine ⟨_, rfl, _, rfl, t, c, 10, rfl, T1, by decide, by decide, fun r H1 h0 h1 b1 T2 => ?_⟩
  have hL1 := b1 _ _ (T1.ne hL (by intro k e; cases e)) hL
  obtain ⟨k, rfl⟩ : ∃ k : Nat, r = (k : Int) := ⟨r.toNat, by omega⟩
  have hk : k < nmsL.length := by show k < 10; omega
  have g := List.getElem?_eq_getElem hk
  generalize nmsL[k] = z at g
  have ok := List.all_eq_true.mp nms_ok z (List.mem_of_getElem? g)
  rw [Bool.and_eq_true, Bool.and_eq_true] at ok
  refine ⟨L, _, _, _, rfl, rfl, SqL.of hL1, at_of rfl (show (nmsL.map V.str)[k]? = some (V.str z) by rw [List.getElem?_map, g]; rfl), ?_⟩
  exact q z H1 (of_decide_eq_true ok.1) ok.2.1 (of_decide_eq_true ok.2.2) (fun b x n h => b1 _ _ n (s1 _ _ h)) T2
abbrev s_l_leaf : Stmt := topS 53
abbrev N_l_leaf : List Str := ["tape", "out", "choice", "digits", "start", "word"]
theorem sc_l_leaf : FnScope N_l_leaf ["tape", "out", "choice"] (defScope s_l_leaf) := ⟨rfl, rfl, rfl, by decide +kernel, rfl, by decide +kernel, by decide +kernel⟩
def pcs_l_leaf_1 : List Str := ["0", "7", "007", "4294967295", "4294967297", "12345678901234567890"]
theorem ok_l_leaf (F : Fun K "_law_leaf" "_law_leaf" s_l_leaf f fd) (T : Nm mg) (C_law_take : Cal P w K mg base CX0 1 "_law_take" spTake) (C_law_token_out : Cal P w K mg base CX0 3 "_law_token_out" spTok) : FnOk P w K mg base CX0 4 f fd ["tape", "out", "choice"] spLeaf := by
  refine F.ok sc_l_leaf (fun vs H Q E h => ?_) (fun cdv A outer s H vs Q E hr h => ?_)
  · obtain ⟨t, c, o, n, ws, rfl, _⟩ := h
    rfl
  obtain ⟨t, c, o, n, ws, rfl, P0, hw, q⟩ := h
  refine ⟨_, (pss_cons (ps_if (pt_cmpR op_eq (pv 2) pe_int (nomark _)) (pss_cons (ps_set (i := 3) sc_l_leaf.nd rfl (Or.inl rfl) (pe_ix (r := rIxL K) ix_list (pe_lst (pa_strs pcs_l_leaf_1)) (pe_c C_law_take hr (by first | decide | omega) pass0 (pa_cons (pv 0) (pa_cons pe_int pa_nil))) (fun _ _ => rfl)))
    (pss_cons (ps_set (i := 4) sc_l_leaf.nd rfl (Or.inl rfl) (pe_c C_law_token_out hr (by first | decide | omega) pass0 (pa_cons (pv 0) (pa_cons (pv 1) (pa_cons (pv 3) pa_nil)))))
    (pss_one (ps_ret (pe_tup (pa_cons pe_str (pa_cons (pv 4) (pa_cons (pe_op op_add (pv 4) (pe_callB call_len_str (by rfl) T.len PySem.boot_len (pa_cons (pv 3) pa_nil))) (pa_cons (pe_op op_mod (pe_callTy call_int1 (by rfl) T.int_ (by decide +kernel) (pa_cons (pe_callTy call_int_str (by rfl) T.int_ (by decide +kernel) (pa_cons (pv 3) pa_nil)) pa_nil)) pe_int) pa_nil))))))))) pss_nil)
    (pss_cons (ps_set (i := 5) sc_l_leaf.nd rfl (Or.inl rfl) (pe_ix (r := rIxL K) ix_list (pe_lst (pa_cons pe_str (pa_cons pe_str pa_nil))) (pe_c C_law_take hr (by first | decide | omega) pass0 (pa_cons (pv 0) (pa_cons pe_int pa_nil))) (fun _ _ => rfl)))
    (pss_cons (ps_set (i := 4) sc_l_leaf.nd rfl (Or.inl rfl) (pe_c C_law_token_out hr (by first | decide | omega) pass0 (pa_cons (pv 0) (pa_cons (pv 1) (pa_cons (pv 5) pa_nil)))))
    (pss_one (ps_ret (pe_tup (pa_cons pe_str (pa_cons (pv 4) (pa_cons (pe_op op_add (pv 4) (pe_callB call_len_str (by rfl) T.len PySem.boot_len (pa_cons (pv 5) pa_nil))) (pa_cons (pe_cmpR op_eq (pv 5) pe_str (nomark _)) pa_nil)))))))))), ?_⟩
  refine ⟨_, rfl, rfl, _, rfl, ?_⟩
  refine ite2 (fun _ => ?_) (fun _ => ?_)
  · refine ⟨by decide, fun L nL => ?_⟩
    have s1 := same_new (o := .lst (dgs.map V.str)) nL
    have T1 := P0.1.new (o := .lst (dgs.map V.str)) nL
    have hL : upd H L (.lst (dgs.map V.str)) L = some (.lst (dgs.map V.str)) := upd_same
    refine ⟨_, rfl, t, c, 6, rfl, T1, by decide, by decide, fun r H1 h0 h1 b1 T2 => ?_⟩
    have hL1 := b1 _ _ (T1.ne hL (by intro k e; cases e)) hL
    obtain ⟨k, rfl⟩ : ∃ k : Nat, r = (k : Int) := ⟨r.toNat, by omega⟩
    have hk : k < dgs.length := by show k < 6; omega
    have hk2 : k < dgn.length := by show k < 6; omega
    have g := List.getElem?_eq_getElem hk
    have g2 := List.getElem?_eq_getElem hk2
    generalize dgs[k] = z at g
    generalize dgn[k] = m at g2
    have ok := List.all_eq_true.mp dgs_ok z (List.mem_of_getElem? g)
    rw [Bool.and_eq_true, Bool.and_eq_true] at ok
    have ok2 := List.all_eq_true.mp dgs_n _ (List.mem_of_getElem? (i := k) (by rw [List.getElem?_zipWith, g, g2]))
    have ok2 : (decide (PySem.intText? z = some m) && decide (Src.numv (tl z) = m % 4294967296)) = true := ok2
    rw [Bool.and_eq_true] at ok2
    have P1 := (P0.same s1).take b1 T2
    have hz : (tl z).length ≤ 25 := of_decide_eq_true ok.2.2
    refine ⟨L, _, _, _, rfl, rfl, SqL.of hL1, at_of rfl (show (dgs.map V.str)[k]? = some (V.str z) by rw [List.getElem?_map, g]; rfl), ?_⟩
    refine ⟨_, rfl, _, rfl, _, rfl, t, c, o, z, ws, rfl, P1, ok.2.1, hz, hw, fun wd H2 e1 P2 b2 => ?_⟩
    refine ⟨_, rfl, _, rfl, _, rfl, z, rfl, small (by rw [len_tl]; omega), _, _, rfl, rfl, _, rfl, z, m, rfl, of_decide_eq_true ok2.1, (by rw [len_tl]; omega), .inl ⟨m, rfl, _, _, rfl, rfl, (by show (0 : Int) < 4294967296; decide), (by show 4 ≤ sizeLine; decide), fun y ny => ?_⟩⟩
    have s2 := same_new (o := .tup [.str "number", .int (wd.2 : Int), .int ((wd.2 : Int) + (z.length : Int)), .int (m % 4294967296)]) ny
    refine q _ [wd] ⟨"number", wd.2, wd.2 + wd.1.length, [.int (Src.numv wd.1)]⟩ _ (rdd_num (by rw [e1]; exact of_decide_eq_true ok.1)) (Nat.le_refl _) (by show 1 ≤ 1; decide) (Tn.mk_ (r := [.int (m % 4294967296)]) ?_ (.cons ?_ .nil) (by show 4 ≤ 1000000; decide)) (P2.same s2) (((But2.of s1).trans (But2.tape b1)).trans (b2.trans (But2.of s2)))
    · rw [upd_same, e1]
      congr 1
    · rw [e1, of_decide_eq_true ok2.2]
      exact DT.int
  · refine ⟨by decide, fun L nL => ?_⟩
    have s1 := same_new (o := .lst [.str "True", .str "False"]) nL
    have T1 := P0.1.new (o := .lst [.str "True", .str "False"]) nL
    have hL : upd H L (.lst [.str "True", .str "False"]) L = some (.lst [.str "True", .str "False"]) := upd_same
    refine ⟨_, rfl, t, c, 2, rfl, T1, by decide, by decide, fun r H1 h0 h1 b1 T2 => ?_⟩
    have hL1 := b1 _ _ (T1.ne hL (by intro k e; cases e)) hL
    have P1 := (P0.same s1).take b1 T2
    obtain ⟨b, z, g, hz, hb⟩ : ∃ (b : Bool) (z : Str), atI [V.str "True", V.str "False"] r = some (V.str z) ∧ z = (if b = true then "True" else "False") ∧ decide (V.str z = V.str "True") = b := by
      by_cases k : r = 0
      · subst k
        exact ⟨true, "True", rfl, rfl, by decide⟩
      · obtain rfl : r = 1 := by omega
        exact ⟨false, "False", rfl, rfl, by decide +kernel⟩
    have tz : tl z = if b = true then tl "True" else tl "False" := by rw [hz]; cases b <;> rfl
    have k1 : tkOk (tl z) = true := by rw [tz]; cases b <;> decide +kernel
    have k2 : (tl z).length ≤ 25 := by rw [tz]; cases b <;> decide +kernel
    refine ⟨L, _, _, _, rfl, rfl, SqL.of hL1, g, ?_⟩
    refine ⟨_, rfl, _, rfl, _, rfl, t, c, o, z, ws, rfl, P1, k1, k2, hw, fun wd H2 e1 P2 b2 => ?_⟩
    refine ⟨_, rfl, _, rfl, _, rfl, z, rfl, small (by rw [len_tl]; omega), _, _, rfl, rfl, _, rfl, rfl, (by show 4 ≤ sizeLine; decide), fun y ny => ?_⟩
    rw [hb]
    have s2 := same_new (o := .tup [.str "truth", .int (wd.2 : Int), .int ((wd.2 : Int) + (z.length : Int)), .bl b]) ny
    refine q _ [wd] ⟨"truth", wd.2, wd.2 + wd.1.length, [.bl b]⟩ _ (rdd_truth b (by rw [e1]; exact tz)) (Nat.le_refl _) (by show 1 ≤ 1; decide) (Tn.mk_ (r := [.bl b]) ?_ (.cons DT.bl .nil) (by show 4 ≤ 1000000; decide)) (P2.same s2) (((But2.of s1).trans (But2.tape b1)).trans (b2.trans (But2.of s2)))
    rw [upd_same, e1]
    congr 1
end

end Sn

namespace Sn
open PySem PySem.Spec PyProof.Rows L2 TL
/-! ### the law's printing: trees -/
def cntT : Nat → Nat
  | 0 => 1
  | k + 1 => 3 * cntT k + 5
theorem cntT_pos (k : Nat) : 1 ≤ cntT k := by cases k <;> simp [cntT]
/-- trees less deep than n -/
def spTree (n : Nat) : Sp := fun vs H Q _ => ∃ (t c o : Addr) (k L : Nat) (ws : List Wd), vs = [.ref t, .ref o, .int (k : Int), .int (L : Int)] ∧ k < n ∧ L ≤ 6 ∧ (L = 6 → k = 0) ∧ Pn H t c o ws ∧ ws.length + cntT k ≤ 1000 ∧ MkQ t c o ws (Pr k L) (cntT k) (2 * k + 1) H Q
/-- a form of one that is as deep as n -/
def spForm (pr : Nat → List Wd → Tn → Prop) (n : Nat) : Sp := fun vs H Q _ => ∃ (t c o : Addr) (k : Nat) (ws : List Wd), vs = [.ref t, .ref o, .int ((k + 1 : Nat) : Int)] ∧ k < n ∧ Pn H t c o ws ∧ ws.length + cntT (k + 1) ≤ 1000 ∧ MkQ t c o ws (pr (k + 1)) (cntT (k + 1)) (2 * (k + 1) + 1) H Q
theorem Pn.fresh {H : Hp} {t c o D : Addr} {ws : List Wd} (p : Pn H t c o ws) (h : H D = none) : D ≠ t ∧ D ≠ c ∧ D ≠ o := by
  obtain ⟨⟨cs, a, l, se, sa, z⟩, zz, hz, _⟩ := p
  exact ⟨(ne_of_none z.d h).symm, (ne_of_none z.cl h).symm, (ne_of_none hz h).symm⟩
theorem Pn.none {H H1 : Hp} {t c o D : Addr} {ws : List Wd} (p : Pn H1 t c o ws) (b : But2 t o H H1) (h : H1 D = none) : H D = none := by
  obtain ⟨h1, _, h2⟩ := p.fresh h
  cases e : H D with
  | none => rfl
  | some y =>
    rw [b _ _ h1 h2 e] at h
    cases h
theorem strL_tlP (x : Str) : strL (tl x) = x := by
  show (⟨x.cps.toList.toArray⟩ : Str) = x
  rw [Array.toArray_toList]
theorem Pn.app {H : Hp} {t c o : Addr} {ws a b : List Wd} (p : Pn H t c o (ws ++ a ++ b)) : Pn H t c o (ws ++ (a ++ b)) := by rw [← List.append_assoc]; exact p
theorem Tn.e_at {H : Hp} {t : Tn} {v : V} (h : DT H t.d v) : ∃ a vs, v = .ref a ∧ H a = some (.tup vs) ∧ atI vs 1 = some (.int (t.s : Int)) ∧ atI vs 2 = some (.int (t.e : Int)) := by
  obtain ⟨a, r, rfl, h1, h2, h3⟩ := Tn.at_ h
  exact ⟨a, _, rfl, h1, at_of (show (1 : Int) = ((1 : Nat) : Int) from rfl) rfl, at_of (show (2 : Int) = ((2 : Nat) : Int) from rfl) rfl⟩
theorem dep_ofL1 (x : D) : dep (ofL [x]) = dep x := by show max (dep x) 0 = _; omega
theorem dep_tn (t : Tn) : dep t.d = dep (ofL t.rest) + 1 := by
  show max 0 (max 0 (max 0 (dep (ofL t.rest)))) + 1 = _
  omega
theorem args4 {t o : Addr} {k : Nat} {L : Int} : [V.ref t, V.ref o, V.int (((k + 1 : Nat) : Int) - 1), V.int L] = [.ref t, .ref o, .int (k : Int), .int L] := by
  have ek : ((k + 1 : Nat) : Int) - 1 = (k : Int) := by omega
  rw [ek]
theorem dep_ofL {m : Nat} : ∀ {ds : List D}, (∀ d ∈ ds, dep d ≤ m) → dep (ofL ds) ≤ m
  | [], _ => Nat.zero_le _
  | d :: r, h => by
    show max (dep d) (dep (ofL r)) ≤ m
    have h1 := h d (by simp)
    have h2 := dep_ofL (ds := r) (fun x hx => h x (by simp [hx]))
    omega
theorem dep_tn_le {m : Nat} {t : Tn} (h : ∀ d ∈ t.rest, dep d ≤ m) : dep t.d ≤ m + 1 := by rw [dep_tn]; have := dep_ofL h; omega
section
variable {P : Program} {w : World} {K : PySem.W.Frag} {mg : Str → Option Value} {base : Heap} {f : Addr} {fd : FuncData} {n j : Nat}
abbrev s_l_prefix : Stmt := topS 56
abbrev N_l_prefix : List Str := ["tape", "out", "depth", "word", "sign", "level", "start", "inner"]
theorem sc_l_prefix : FnScope N_l_prefix ["tape", "out", "depth", "word", "sign", "level"] (defScope s_l_prefix) := ⟨rfl, rfl, rfl, by decide +kernel, rfl, by decide +kernel, by decide +kernel⟩
def spPrefix (n : Nat) : Sp := fun vs H Q _ => ∃ (t c o : Addr) (k L : Nat) (x y : Str) (ws : List Wd), vs = [.ref t, .ref o, .int ((k + 1 : Nat) : Int), .str x, .str y, .int (L : Int)] ∧ k < n ∧ L ≤ 5 ∧ Pn H t c o ws ∧ ws.length + cntT (k + 1) ≤ 1000 ∧ tkOk (tl y) = true ∧ (tl y).length ≤ 25 ∧
  MkQ t c o ws (fun nw tn => ∃ w nw' t', w.1 = tl y ∧ Pr k L nw' t' ∧ nw = w :: nw' ∧ tn = ⟨x, w.2, t'.e, [t'.d]⟩) (cntT (k + 1)) (2 * (k + 1) + 1) H Q
theorem ok_l_prefix (F : Fun K "_law_prefix" "_law_prefix" s_l_prefix f fd) (T : Nm mg) (hj : 3 ≤ j) (C_law_token_out : Cal P w K mg base CX0 3 "_law_token_out" spTok) (C_law_tree : Cal P w K mg base CX0 j "_law_tree" (spTree n)) :
    FnOk P w K mg base CX0 (j + 1) f fd ["tape", "out", "depth", "word", "sign", "level"] (spPrefix n) := by
  refine F.ok sc_l_prefix (fun vs H Q E h => ?_) (fun cdv A outer s H vs Q E hr h => ?_)
  · obtain ⟨t, c, o, k, L, x, y, ws, rfl, _⟩ := h
    rfl
  obtain ⟨t, c, o, k, L, x, y, ws, rfl, hk, hL, P0, hw, k1, k2, q⟩ := h
  refine ⟨_, (pss_cons (ps_set (i := 6) sc_l_prefix.nd rfl (Or.inl rfl) (pe_c C_law_token_out hr (by first | decide | omega) pass0 (pa_cons (pv 0) (pa_cons (pv 1) (pa_cons (pv 4) pa_nil)))))
    (pss_cons (ps_set (i := 7) sc_l_prefix.nd rfl (Or.inl rfl) (pe_c C_law_tree hr (by first | decide | omega) pass0 (pa_cons (pv 0) (pa_cons (pv 1) (pa_cons (pe_op op_sub (pv 2) pe_int) (pa_cons (pv 5) pa_nil))))))
    (pss_one (ps_ret (pe_tup (pa_cons (pv 3) (pa_cons (pv 6) (pa_cons (pe_ix (r := rIxT K) ix_tup (pv 7) pe_int (fun _ _ => rfl)) (pa_cons (pv 7) pa_nil))))))))), ?_⟩
  have hc : cntT (k + 1) = 3 * cntT k + 5 := rfl
  have hp := cntT_pos k
  have ek : ((k + 1 : Nat) : Int) - 1 = (k : Int) := by omega
  refine ⟨_, rfl, _, rfl, _, rfl, t, c, o, y, ws, rfl, P0, k1, k2, by omega, fun wd H1 e1 P1 b1 => ?_⟩
  refine ⟨_, rfl, _, rfl, _, rfl, _, _, rfl, rfl, _, rfl, t, c, o, k, L, ws ++ [wd], args4, hk, by omega, fun e => absurd e (by omega), P1, by rw [List.length_append, List.length_singleton]; omega, fun H2 nw tn v pr l2 d2 D2 P2 b2 => ?_⟩
  obtain ⟨a, vs, rfl, ha, _, he⟩ := Tn.e_at D2
  refine ⟨_, rfl, _, rfl, _, rfl, a, _, _, _, rfl, rfl, .inl (.inl ha), he, _, rfl, (by show 4 ≤ sizeLine; decide), fun p np => ?_⟩
  have s3 := same_new (o := .tup [.str x, .int (wd.2 : Int), .int (tn.e : Int), .ref a]) np
  refine q _ (wd :: nw) ⟨x, wd.2, tn.e, [tn.d]⟩ _ ⟨wd, nw, tn, e1, pr, rfl, rfl⟩ (by rw [List.length_cons]; omega) ?_ (Tn.mk_ (r := [.ref a]) upd_same (.cons (D2.keep (fun _ _ h => s3 _ _ h)) .nil) (by show 4 ≤ 1000000; decide)) ((P2.app (b := nw)).same s3) (b1.trans (b2.trans (But2.of s3)))
  rw [dep_tn]
  show dep (ofL [tn.d]) + 1 ≤ _
  rw [dep_ofL1]
  omega
abbrev s_l_call : Stmt := topS 54
abbrev N_l_call : List Str := ["tape", "out", "depth", "name", "start", "found", "k", "end"]
theorem sc_l_call : FnScope N_l_call ["tape", "out", "depth"] (defScope s_l_call) := ⟨rfl, rfl, rfl, by decide +kernel, rfl, by decide +kernel, by decide +kernel⟩
theorem ok_l_call (F : Fun K "_law_call" "_law_call" s_l_call f fd) (T : Nm mg) (hj : 3 ≤ j) (C_law_take : Cal P w K mg base CX0 1 "_law_take" spTake) (C_law_some_name : Cal P w K mg base CX0 2 "_law_some_name" spName) (C_law_token_out : Cal P w K mg base CX0 3 "_law_token_out" spTok)
    (C_law_tree : Cal P w K mg base CX0 j "_law_tree" (spTree n)) : FnOk P w K mg base CX0 (j + 1) f fd ["tape", "out", "depth"] (spForm RdS n) := by
  refine F.ok sc_l_call (fun vs H Q E h => ?_) (fun cdv A outer s H vs Q E hr h => ?_)
  · obtain ⟨t, c, o, k, ws, rfl, _⟩ := h
    rfl
  obtain ⟨t, c, o, k, ws, rfl, hk, P0, hw, q⟩ := h
  refine ⟨_, (pss_cons (ps_set (i := 3) sc_l_call.nd rfl (Or.inl rfl) (pe_c C_law_some_name hr (by first | decide | omega) pass0 (pa_cons (pv 0) pa_nil)))
    (pss_cons (ps_set (i := 4) sc_l_call.nd rfl (Or.inl rfl) (pe_c C_law_token_out hr (by first | decide | omega) pass0 (pa_cons (pv 0) (pa_cons (pv 1) (pa_cons (pv 3) pa_nil)))))
    (pss_cons (ps_expr (pe_c C_law_token_out hr (by first | decide | omega) pass0 (pa_cons (pv 0) (pa_cons (pv 1) (pa_cons pe_str pa_nil)))))
    (pss_cons (ps_set (i := 5) sc_l_call.nd rfl (Or.inl rfl) (pe_lst pa_nil))
    (pss_cons (ps_for PassesOwn.never rfl (pi_range1 (by rfl) T.range (pa_cons (pe_c C_law_take hr (by first | decide | omega) pass0 (pa_cons (pv 0) (pa_cons pe_int pa_nil))) pa_nil)) (pg_name (i := 6) sc_l_call.nd rfl (Or.inl rfl)) (pss_cons (ps_if (pt_cmpR op_gt (pv 6) pe_int (nomark _)) (pss_one (ps_expr (pe_c C_law_token_out hr (by first | decide | omega) pass0 (pa_cons (pv 0) (pa_cons (pv 1) (pa_cons pe_str pa_nil)))))) pss_nil)
    (pss_one (ps_expr (pe_bm PySem.F.plainAttrs_list PySem.F.slot_list_append PySem.F.type_list_append mt_append (pv 5) (pa_cons (pe_c C_law_tree hr (by first | decide | omega) pass0 (pa_cons (pv 0) (pa_cons (pv 1) (pa_cons (pe_op op_sub (pv 2) pe_int) (pa_cons pe_int pa_nil))))) pa_nil))))))
    (pss_cons (ps_set (i := 7) sc_l_call.nd rfl (Or.inl rfl) (pe_op op_add (pe_c C_law_token_out hr (by first | decide | omega) pass0 (pa_cons (pv 0) (pa_cons (pv 1) (pa_cons pe_str pa_nil)))) pe_int))
    (pss_one (ps_ret (pe_tup (pa_cons pe_str (pa_cons (pv 4) (pa_cons (pv 7) (pa_cons (pv 3) (pa_cons (pe_callTy call_tuple_of (by rfl) T.tuple_ (by decide +kernel) (pa_cons (pv 5) pa_nil)) pa_nil)))))))))))))), ?_⟩
  have hc : cntT (k + 1) = 3 * cntT k + 5 := rfl
  have hp := cntT_pos k
  refine ⟨_, rfl, t, c, rfl, P0.1, fun x H1 n1 n2 n3 b1 T1 => ?_⟩
  have P1 := P0.take b1 T1
  refine ⟨_, rfl, _, rfl, _, rfl, t, c, o, x, ws, rfl, P1, n2, n3, by omega, fun wd H2 e2 P2 b2 => ?_⟩
  refine ⟨_, rfl, _, rfl, t, c, o, "(", _, rfl, P2, by decide +kernel, by decide +kernel, by rw [List.length_append, List.length_singleton]; omega, fun wp H3 e3 P3 b3 => ?_⟩
  refine ⟨Nat.zero_le _, fun D nD => ?_⟩
  have s4 := same_new (o := .lst []) nD
  have P4 := P3.same s4
  have hD : upd H3 D (.lst []) D = some (.lst []) := upd_same
  have b03 : But2 t o H H3 := (But2.tape b1).trans (b2.trans b3)
  have nD0 : H D = none := P3.none b03 nD
  have b04 : But2 t o H (upd H3 D (.lst [])) := b03.trans (But2.of s4)
  have DD : D ≠ t ∧ D ≠ c ∧ D ≠ o := P3.fresh nD
  generalize upd H3 D (.lst []) = H4 at P4 hD b04 ⊢
  refine ⟨_, rfl, t, c, 4, rfl, P4.1, by decide, by decide, fun r H5 h0 h1 b5 T5 => ⟨r, rfl, by omega, by omega, ?_⟩⟩
  have P5 := P4.take b5 T5
  have hD5 := b5 _ _ DD.1 hD
  refine for_range (lo := 0) (n := r.toNat) (fun i σ H' => ∃ (v : Option V) (ts : List Tn) (nw : List Wd) (vs : List V), σ = [some (.ref t), some (.ref o), some (.int ((k + 1 : Nat) : Int)), some (.str x), some (.int (wd.2 : Int)), some (.ref D), v, none] ∧
    H' D = some (.lst vs) ∧ DTs H' (ofL (ts.map Tn.d)) vs ∧ Pn H' t c o (ws ++ [wd] ++ [wp] ++ nw) ∧ But2 t o H H' ∧ ts.length = i ∧ (i = 0 → nw = [] ∧ ts = []) ∧ (0 < i → RdA k nw ts) ∧ nw.length ≤ i * (cntT k + 1) - 1 ∧ ∀ tn ∈ ts, dep tn.d ≤ 2 * k + 1)
    ⟨none, [], [], [], rfl, hD5, DTs.nil, by rw [List.append_nil]; exact P5, b04.trans (But2.tape b5), rfl, fun _ => ⟨rfl, rfl⟩, fun h => absurd h (by decide), Nat.zero_le _, fun _ h => absurd h (by simp)⟩ ?_ ?_
  · rintro i σ H6 hi ⟨v, ts, nw, vs, rfl, hD6, hT6, P6, b6, hl, hz, hRA, hn, hdp⟩
    have hi3 : i ≤ 2 := by omega
    have ei : (0 : Int) + (i : Nat) = (i : Nat) := by omega
    have hmul : i * (cntT k + 1) ≤ 2 * (cntT k + 1) := Nat.mul_le_mul_right _ hi3
    have hmul2 : (i + 1) * (cntT k + 1) = i * (cntT k + 1) + (cntT k + 1) := Nat.succ_mul _ _
    rw [ei]
    have hlen : ∀ a b d e : List Wd, (a ++ b ++ d ++ e).length = a.length + b.length + d.length + e.length := fun a b d e => by simp [Nat.add_assoc]
    refine ⟨_, rfl, _, _, rfl, rfl, _, rfl, ?_⟩
    -- what follows the comma
    have go : ∀ (H7 : Hp) (ww : List Wd), (ww = [] ∧ i = 0 ∨ ∃ wc : Wd, ww = [wc] ∧ wc.1 = tl "," ∧ 0 < i) → Pn H7 t c o (ws ++ [wd] ++ [wp] ++ (nw ++ ww)) → But2 t o H6 H7 → ∀ (H8 : Hp) (nw' : List Wd) (tn : Tn) (v' : V), RdV k nw' tn → nw'.length ≤ cntT k → dep tn.d ≤ 2 * k + 1 → DT H8 tn.d v' →
        Pn H8 t c o (ws ++ [wd] ++ [wp] ++ (nw ++ ww) ++ nw') → But2 t o H7 H8 → H8 D = some (.lst vs) ∧ vs.length < sizeLine ∧ ∃ (v : Option V) (ts : List Tn) (nw : List Wd) (vs' : List V), [some (V.ref t), some (.ref o), some (.int ((k + 1 : Nat) : Int)), some (.str x), some (.int (wd.2 : Int)), some (.ref D), some (.int (i : Int)), none] =
          [some (V.ref t), some (.ref o), some (.int ((k + 1 : Nat) : Int)), some (.str x), some (.int (wd.2 : Int)), some (.ref D), v, none] ∧ upd H8 D (.lst (vs ++ [v'])) D = some (.lst vs') ∧ DTs (upd H8 D (.lst (vs ++ [v']))) (ofL (ts.map Tn.d)) vs' ∧ Pn (upd H8 D (.lst (vs ++ [v']))) t c o (ws ++ [wd] ++ [wp] ++ nw) ∧
          But2 t o H (upd H8 D (.lst (vs ++ [v']))) ∧ ts.length = i + 1 ∧ (i + 1 = 0 → nw = [] ∧ ts = []) ∧ (0 < i + 1 → RdA k nw ts) ∧ nw.length ≤ (i + 1) * (cntT k + 1) - 1 ∧ ∀ tn ∈ ts, dep tn.d ≤ 2 * k + 1 := by
      intro H7 ww hww P7 b7 H8 nw' tn v' hV hn' hd' D8 P8 b8
      have hD7 := b7 _ _ DD.1 DD.2.2 hD6
      have hD8 := b8 _ _ DD.1 DD.2.2 hD7
      have tu : Tups H8 (upd H8 D (.lst (vs ++ [v']))) := fun a us h => by rw [upd_ne (fun e => by rw [e, hD8] at h; cases h)]; exact h
      have tu0 := (P6.tups b7)
      have tu1 := (P7.tups b8)
      have hvl := DTs.len _ _ hT6
      rw [List.length_map] at hvl
      refine ⟨hD8, Nat.lt_of_lt_of_le (show vs.length < 1000 by omega) (by decide), _, ts ++ [tn], nw ++ ww ++ nw', vs ++ [v'], rfl, upd_same, ?_, ?_, fun b y n1 n2 h => ?_, by rw [List.length_append, List.length_singleton, hl], fun h => absurd h (by omega), fun _ => ?_, ?_, fun y hy => ?_⟩
      · rw [List.map_append]
        exact DTs.snoc (D8.keep tu) _ _ (((hT6.keep tu0).keep tu1).keep tu)
      · have := P8.updL (x := .lst (vs ++ [v'])) hD8 DD.2.1
        rw [List.append_assoc] at this
        exact this
      · rw [upd_ne (ne_of_none h nD0)]
        exact b8 _ _ n1 n2 (b7 _ _ n1 n2 (b6 _ _ n1 n2 h))
      · rcases hww with ⟨rfl, h0⟩ | ⟨wc, rfl, hc, hi0⟩
        · obtain ⟨rfl, rfl⟩ := hz h0
          exact hV.a
        · rw [List.append_assoc]
          exact (hRA hi0).more hV hc
      · rw [List.length_append, List.length_append]
        rcases hww with ⟨rfl, h0⟩ | ⟨wc, rfl, _, hi0⟩
        · obtain ⟨rfl, rfl⟩ := hz h0
          simp only [List.length_nil]
          omega
        · have : 1 * (cntT k + 1) ≤ i * (cntT k + 1) := Nat.mul_le_mul_right _ hi0
          simp only [List.length_singleton]
          omega
      · rcases List.mem_append.mp hy with hy | hy
        · exact hdp y hy
        · rw [List.mem_singleton.mp hy]
          exact hd'
    refine ite2 (fun h => ?_) (fun h => ?_)
    · have hi0 : 0 < i := by have := of_decide_eq_true h; omega
      refine ⟨_, rfl, _, rfl, t, c, o, ",", _, rfl, P6, by decide +kernel, by decide +kernel, by rw [hlen, List.length_singleton, List.length_singleton]; omega, fun wc H7 e7 P7 b7 => ?_⟩
      have P7 := P7.app
      have hD7 := b7 _ _ DD.1 DD.2.2 hD6
      refine ⟨_, rfl, .inl ⟨rfl, _, SqL.of hD7⟩, _, rfl, _, rfl, _, rfl, _, _, rfl, rfl, t, c, o, k, 0, _, args4, hk, by omega, fun e => absurd e (by omega), P7, by rw [hlen, List.length_append, List.length_singleton, List.length_singleton, List.length_singleton]; omega, fun H8 nw' tn v' pr ln dn D8 P8 b8 => ?_⟩
      obtain ⟨x1, x2, x3⟩ := go H7 [wc] (.inr ⟨wc, rfl, e7, hi0⟩) P7 b7 H8 nw' tn v' pr ln dn D8 P8 b8
      exact ⟨D, _, _, rfl, rfl, x1, x2, x3⟩
    · have hi0 : i = 0 := by
        by_cases k : i = 0
        · exact k
        · exact absurd (decide_eq_true (show (0 : Int) < (i : Int) by omega)) h
      have P7 : Pn H6 t c o (ws ++ [wd] ++ [wp] ++ (nw ++ [])) := by rw [List.append_nil]; exact P6
      refine ⟨_, rfl, .inl ⟨rfl, _, SqL.of hD6⟩, _, rfl, _, rfl, _, rfl, _, _, rfl, rfl, t, c, o, k, 0, _, args4, hk, by omega, fun e => absurd e (by omega), P7, by rw [hlen, List.length_append, List.length_singleton, List.length_singleton, List.length_nil]; omega, fun H8 nw' tn v' pr ln dn D8 P8 b8 => ?_⟩
      obtain ⟨x1, x2, x3⟩ := go H6 [] (.inl ⟨rfl, hi0⟩) P7 But2.refl H8 nw' tn v' pr ln dn D8 P8 b8
      exact ⟨D, _, _, rfl, rfl, x1, x2, x3⟩
  · rintro σ H6 ⟨v, ts, nw, vs, rfl, hD6, hT6, P6, b6, hl, hz, hRA, hn, hdp⟩
    have hmul : r.toNat * (cntT k + 1) ≤ 3 * (cntT k + 1) := Nat.mul_le_mul_right _ (by omega)
    have hlen : ∀ a b d e : List Wd, (a ++ b ++ d ++ e).length = a.length + b.length + d.length + e.length := fun a b d e => by simp [Nat.add_assoc]
    refine ⟨_, rfl, _, rfl, t, c, o, ")", _, rfl, P6, by decide +kernel, by decide +kernel, by rw [hlen, List.length_singleton, List.length_singleton]; omega, fun wq H7 e7 P7 b7 => ⟨_, _, rfl, rfl, ?_⟩⟩
    have hD7 := b7 _ _ DD.1 DD.2.2 hD6
    have hT7 := hT6.keep (P6.tups b7)
    have hvl := DTs.len _ _ hT6
    rw [List.length_map] at hvl
    refine ⟨_, rfl, _, rfl, _, rfl, _, rfl, D, vs, rfl, .inl ⟨SqL.of hD7, fun p np => ⟨by show 5 ≤ sizeLine; decide, fun y ny => ?_⟩⟩⟩
    have s8 := same_new (o := .tup vs) np
    have hp8 : upd H7 p (.tup vs) p = some (.tup vs) := upd_same
    generalize upd H7 p (.tup vs) = H8 at s8 hp8 ny ⊢
    have s9 := same_new (o := .tup [.str "call", .int (wd.2 : Int), .int ((wq.2 : Int) + 1), .str x, .ref p]) ny
    have hq1 : wq.1.length = 1 := by rw [e7]; decide +kernel
    have hx : strL wd.1 = x := by rw [e2, strL_tlP]
    have eqw : ws ++ [wd] ++ [wp] ++ nw ++ [wq] = ws ++ (wd :: wp :: (nw ++ [wq])) := by simp
    rw [eqw] at P7
    have read : RdS (k + 1) (wd :: wp :: (nw ++ [wq])) ⟨"call", wd.2, wq.2 + wq.1.length, [.str (strL wd.1), .tup (ofL (ts.map Tn.d))]⟩ := by
      by_cases h0 : r.toNat = 0
      · obtain ⟨rfl, rfl⟩ := hz h0
        exact (rds_call0 (by rw [e2]; exact n1) e3 e7).mono (Nat.zero_le _)
      · exact rds_call (hRA (by omega)) (by rw [e2]; exact n1) e3 e7
    refine q _ _ _ _ read ?_ (dep_tn_le (m := 2 * (k + 1)) fun d hd => ?_) (Tn.mk_ (r := [.str x, .ref p]) ?_ (.cons ?_ (.cons (.tup (s9 _ _ hp8) (by omega) (hT7.keep fun _ _ h => s9 _ _ (s8 _ _ h))) .nil)) (by show 5 ≤ 1000000; decide)) ((P7.same s8).same s9) (b6.trans (b7.trans ((But2.of s8).trans (But2.of s9))))
    · rw [List.length_cons, List.length_cons, List.length_append, List.length_singleton]
      omega
    · have hd : d ∈ [Sn.D.str (strL wd.1), Sn.D.tup (ofL (ts.map Tn.d))] := hd
      rcases List.mem_cons.mp hd with rfl | hd
      · exact Nat.zero_le _
      · rw [List.mem_singleton.mp hd]
        show dep (ofL (ts.map Tn.d)) + 1 ≤ _
        have := dep_ofL (m := 2 * k + 1) (ds := ts.map Tn.d) (fun d hd => by
          obtain ⟨tn, h1, rfl⟩ := List.mem_map.mp hd
          exact hdp tn h1)
        omega
    · rw [upd_same, hq1]
      congr 1
    · rw [hx]
      exact DT.str
end

end Sn

namespace Sn
open PySem PySem.Spec PyProof.Rows L2 TL
/-! ### the law's printing: more forms -/
theorem Pn.more {H : Hp} {t c o : Addr} {ws a : List Wd} {b : Wd} (p : Pn H t c o (ws ++ a ++ [b])) : Pn H t c o (ws ++ (a ++ [b])) := p.app
section
variable {k L c tp : Nat} {nw : List Wd} {t : Tn}
theorem pr_S (q : RdS k nw t) (hL : L ≤ 5) : Pr k L nw t := by
  match L, hL with
  | 0, _ => exact (q.g (M := 0) (lm := 1) (by decide) (by decide)).v
  | 1, _ => exact ⟨6, by decide, q.g (by decide) (by decide)⟩
  | 2, _ => exact ⟨6, by decide, q.g (by decide) (by decide)⟩
  | 3, _ => exact ⟨6, by decide, q.g (by decide) (by decide)⟩
  | 4, _ => exact ⟨6, by decide, q.g (by decide) (by decide)⟩
  | 5, _ => exact q
theorem pr_G (hL : L ≤ 4) {M lm : Nat} (q : RdG k M lm nw t tp) (h1 : L ≤ M) (h2 : lvM L ≤ lm) (h3 : min 6 (lvM L) ≤ tp) : Pr k L nw t := by
  have g := q.mono (Nat.le_refl k) h1 h2
  match L, hL with
  | 0, _ => exact g.v
  | 1, _ => exact ⟨tp, h3, g⟩
  | 2, _ => exact ⟨tp, h3, g⟩
  | 3, _ => exact ⟨tp, h3, g⟩
  | 4, _ => exact ⟨tp, h3, g⟩
def rkC : Nat → Nat
  | 0 => 1 | 1 => 2 | 2 => 4 | 3 => 5 | _ => 6
theorem rk_lv (h : c ≤ 4) : rkC c + 1 = lvM (c + 1) := by
  match c, h with
  | 0, _ => rfl
  | 1, _ => rfl
  | 2, _ => rfl
  | 3, _ => rfl
  | 4, _ => rfl
theorem pr_op (h : c ≤ 4) (q : Pr k (c + 1) nw t) : ∃ tp, rkC c ≤ tp ∧ RdG k (c + 1) (lvM (c + 1)) nw t tp := by
  match c, h with
  | 0, _ => obtain ⟨tp, h1, h2⟩ := q; exact ⟨tp, Nat.le_trans (by decide) h1, h2⟩
  | 1, _ => obtain ⟨tp, h1, h2⟩ := q; exact ⟨tp, Nat.le_trans (by decide) h1, h2⟩
  | 2, _ => obtain ⟨tp, h1, h2⟩ := q; exact ⟨tp, Nat.le_trans (by decide) h1, h2⟩
  | 3, _ => obtain ⟨tp, h1, h2⟩ := q; exact ⟨tp, Nat.le_trans (by decide) h1, h2⟩
  | 4, _ => exact ⟨6, by decide, RdS.g q (by decide) (by decide)⟩
theorem rk_all (hL : L ≤ c) (h : c ≤ 4) : lvM L ≤ rkC c ∧ min 6 (lvM L) ≤ Src.topR (rkC c) := by
  have k : ∀ L c : Fin 5, L ≤ c → lvM L ≤ rkC c ∧ min 6 (lvM L) ≤ Src.topR (rkC c) := by decide
  exact k ⟨L, by omega⟩ ⟨c, by omega⟩ hL
end
def sgT : List (List Str) := [["or"], ["and"], ["==", "<"], ["+", "-"], ["*", "/"]]
theorem sgT_ok {c : Nat} {ss : List Str} {x : Str} (h : sgT[c]? = some ss) (hx : x ∈ ss) : Src.rank (tl x) = rkC c ∧ tkOk (tl x) = true ∧ (tl x).length ≤ 25 ∧ tl x ≠ tl "(" ∧ tl x ≠ tl "." := by
  have all : ∀ c : Fin 5, ((sgT[(c : Nat)]?.getD []).all fun x => decide (Src.rank (tl x) = rkC c) && (tkOk (tl x) && (decide ((tl x).length ≤ 25) && (decide (tl x ≠ tl "(") && decide (tl x ≠ tl "."))))) = true := by decide +kernel
  have hc : c < 5 := (List.getElem?_eq_some_iff.mp h).1
  have := all ⟨c, hc⟩
  rw [show sgT[((⟨c, hc⟩ : Fin 5) : Nat)]? = some ss from h] at this
  have := List.all_eq_true.mp this x hx
  simp only [Bool.and_eq_true, decide_eq_true_eq] at this
  exact ⟨this.1, this.2.1, this.2.2.1, this.2.2.2.1, this.2.2.2.2⟩
section
variable {P : Program} {w : World} {K : PySem.W.Frag} {mg : Str → Option Value} {base : Heap} {f : Addr} {fd : FuncData} {n j : Nat}
abbrev s_l_reach : Stmt := topS 55
abbrev N_l_reach : List Str := ["tape", "out", "depth", "tree", "k", "name", "end"]
theorem sc_l_reach : FnScope N_l_reach ["tape", "out", "depth"] (defScope s_l_reach) := ⟨rfl, rfl, rfl, by decide +kernel, rfl, by decide +kernel, by decide +kernel⟩
theorem ok_l_reach (F : Fun K "_law_reach" "_law_reach" s_l_reach f fd) (T : Nm mg) (hj : 3 ≤ j) (C_law_take : Cal P w K mg base CX0 1 "_law_take" spTake) (C_law_some_name : Cal P w K mg base CX0 2 "_law_some_name" spName) (C_law_token_out : Cal P w K mg base CX0 3 "_law_token_out" spTok)
    (C_law_tree : Cal P w K mg base CX0 j "_law_tree" (spTree n)) : FnOk P w K mg base CX0 (j + 1) f fd ["tape", "out", "depth"] (spForm (fun _ => RdD) n) := by
  refine F.ok sc_l_reach (fun vs H Q E h => ?_) (fun cdv A outer s H vs Q E hr h => ?_)
  · obtain ⟨t, c, o, k, ws, rfl, _⟩ := h
    rfl
  obtain ⟨t, c, o, k, ws, rfl, hk, P0, hw, q⟩ := h
  refine ⟨_, (pss_cons (ps_set (i := 3) sc_l_reach.nd rfl (Or.inl rfl) (pe_c C_law_tree hr (by first | decide | omega) pass0 (pa_cons (pv 0) (pa_cons (pv 1) (pa_cons pe_int (pa_cons pe_int pa_nil))))))
    (pss_cons (ps_for PassesOwn.never rfl (pi_range1 (by rfl) T.range (pa_cons (pe_op op_add pe_int (pe_c C_law_take hr (by first | decide | omega) pass0 (pa_cons (pv 0) (pa_cons pe_int pa_nil)))) pa_nil)) (pg_name (i := 4) sc_l_reach.nd rfl (Or.inl rfl)) (pss_cons (ps_expr (pe_c C_law_token_out hr (by first | decide | omega) pass0 (pa_cons (pv 0) (pa_cons (pv 1) (pa_cons pe_str pa_nil)))))
    (pss_cons (ps_set (i := 5) sc_l_reach.nd rfl (Or.inl rfl) (pe_c C_law_some_name hr (by first | decide | omega) pass0 (pa_cons (pv 0) pa_nil)))
    (pss_cons (ps_set (i := 6) sc_l_reach.nd rfl (Or.inl rfl) (pe_op op_add (pe_c C_law_token_out hr (by first | decide | omega) pass0 (pa_cons (pv 0) (pa_cons (pv 1) (pa_cons (pv 5) pa_nil)))) (pe_callB call_len_str (by rfl) T.len PySem.boot_len (pa_cons (pv 5) pa_nil))))
    (pss_one (ps_set (i := 3) sc_l_reach.nd rfl (Or.inl rfl) (pe_tup (pa_cons pe_str (pa_cons (pe_ix (r := rIxT K) ix_tup (pv 3) pe_int (fun _ _ => rfl)) (pa_cons (pv 6) (pa_cons (pv 3) (pa_cons (pv 5) pa_nil))))))))))))
    (pss_one (ps_ret (pv 3))))), ?_⟩
  have hc : cntT (k + 1) = 3 * cntT k + 5 := rfl
  have hp := cntT_pos k
  refine ⟨_, rfl, _, rfl, t, c, o, 0, 6, ws, rfl, by omega, by decide, fun _ => rfl, P0, by show ws.length + 1 ≤ 1000; omega, fun H1 nw tn v pr ln dn D1 P1 b1 => ?_⟩
  refine ⟨_, rfl, t, c, 2, rfl, P1.1, by decide, by decide, fun r H2 h0 h1 b2 T2 => ⟨_, _, rfl, rfl, 1 + r, rfl, by omega, by omega, ?_⟩⟩
  have P2 := P1.take b2 T2
  refine for_range (lo := 0) (n := (1 + r).toNat) (fun i σ H' => ∃ (v4 v5 v6 : Option V) (tn : Tn) (nw : List Wd) (v : V), σ = [some (.ref t), some (.ref o), some (.int ((k + 1 : Nat) : Int)), some v, v4, v5, v6] ∧
    RdD nw tn ∧ DT H' tn.d v ∧ Pn H' t c o (ws ++ nw) ∧ But2 t o H H' ∧ nw.length ≤ 1 + 2 * i ∧ dep tn.d ≤ 1 + i)
    ⟨none, none, none, tn, nw, v, rfl, pr, D1.keep (P1.tups (But2.tape b2)), P2, b1.trans (But2.tape b2), ln, dn⟩ ?_ ?_
  · rintro i σ H3 hi ⟨v4, v5, v6, tn, nw, v, rfl, pr, D3, P3, b3, ln, dn⟩
    have hi2 : i ≤ 1 := by omega
    refine ⟨_, rfl, _, rfl, t, c, o, ".", _, rfl, P3, by decide +kernel, by decide +kernel, by rw [List.length_append]; omega, fun wd H4 e4 P4 b4 => ?_⟩
    refine ⟨_, rfl, t, c, rfl, P4.1, fun x H5 n1 n2 n3 b5 T5 => ?_⟩
    have P5 := P4.take b5 T5
    refine ⟨_, rfl, _, rfl, _, rfl, t, c, o, x, _, rfl, P5, n2, n3, by rw [List.length_append, List.length_append, List.length_singleton]; omega, fun wx H6 e6 P6 b6 => ?_⟩
    have D6 := ((D3.keep (P3.tups b4)).keep (P4.tups (But2.tape b5))).keep (P5.tups b6)
    obtain ⟨a, vs, rfl, ha, hs, he⟩ := Tn.e_at D6
    refine ⟨_, rfl, x, rfl, small (by rw [len_tl]; omega), _, _, rfl, rfl, ?_⟩
    refine ⟨_, rfl, a, _, _, _, rfl, rfl, .inl (.inl ha), hs, _, rfl, _, rfl, _, rfl, (by show 5 ≤ sizeLine; decide), fun p np => ?_⟩
    have s7 := same_new (o := .tup [.str "field", .int (tn.s : Int), .int ((wx.2 : Int) + (x.length : Int)), .ref a, .str x]) np
    have hx : strL wx.1 = x := by rw [e6, strL_tlP]
    have eqw : ws ++ nw ++ [wd] ++ [wx] = ws ++ (nw ++ [wd, wx]) := by simp
    rw [eqw] at P6
    refine ⟨_, _, _, ⟨"field", tn.s, wx.2 + wx.1.length, [tn.d, .str (strL wx.1)]⟩, nw ++ [wd, wx], _, rfl, rdd_field pr e4 (by rw [e6]; exact n1), Tn.mk_ (r := [.ref a, .str x]) ?_ (.cons (D6.keep fun _ _ h => s7 _ _ h) (.cons ?_ .nil)) (by show 5 ≤ 1000000; decide), P6.same s7, b3.trans (b4.trans ((But2.tape b5).trans (b6.trans (But2.of s7)))), ?_, ?_⟩
    · rw [upd_same, e6]
      congr 1
    · rw [hx]; exact DT.str
    · rw [List.length_append]
      show nw.length + 2 ≤ _
      omega
    · have := dep_tn_le (m := 1 + i) (t := ⟨"field", tn.s, wx.2 + wx.1.length, [tn.d, .str (strL wx.1)]⟩) (fun d hd => by
        have hd : d ∈ [tn.d, Sn.D.str (strL wx.1)] := hd
        rcases List.mem_cons.mp hd with rfl | hd
        · exact dn
        · rw [List.mem_singleton.mp hd]
          exact Nat.zero_le _)
      omega
  · rintro σ H3 ⟨v4, v5, v6, tn, nw, v, rfl, pr, D3, P3, b3, ln, dn⟩
    exact ⟨_, rfl, q _ nw tn v pr (by omega) (by omega) D3 P3 b3⟩
end

end Sn

namespace Sn
open PySem PySem.Spec PyProof.Rows L2 TL
/-! ### the law's printing: binary trees -/
/-- a list of written lists -/
theorem sg_heap {H0 H1 H2 H3 H4 H5 H6 : Hp} {p0 p1 p2 p3 p4 p : Addr} (n0 : H0 p0 = none) (e1 : H1 = upd H0 p0 (.lst [.str "or"])) (n1 : H1 p1 = none) (e2 : H2 = upd H1 p1 (.lst [.str "and"])) (n2 : H2 p2 = none) (e3 : H3 = upd H2 p2 (.lst [.str "==", .str "<"]))
    (n3 : H3 p3 = none) (e4 : H4 = upd H3 p3 (.lst [.str "+", .str "-"])) (n4 : H4 p4 = none) (e5 : H5 = upd H4 p4 (.lst [.str "*", .str "/"])) (n5 : H5 p = none) (e6 : H6 = upd H5 p (.lst [.ref p0, .ref p1, .ref p2, .ref p3, .ref p4])) :
    Same H0 H6 ∧ H6 p = some (.lst [.ref p0, .ref p1, .ref p2, .ref p3, .ref p4]) ∧ ∀ c, c ≤ 4 → ∃ (x : Addr) (ss : List Str), [V.ref p0, .ref p1, .ref p2, .ref p3, .ref p4][c]? = some (.ref x) ∧ H6 x = some (.lst (ss.map V.str)) ∧ sgT[c]? = some ss ∧ ss ≠ [] ∧ ss.length ≤ 2 := by
  have s1 : Same H0 H1 := e1 ▸ same_new n0
  have s2 : Same H1 H2 := e2 ▸ same_new n1
  have s3 : Same H2 H3 := e3 ▸ same_new n2
  have s4 : Same H3 H4 := e4 ▸ same_new n3
  have s5 : Same H4 H5 := e5 ▸ same_new n4
  have s6 : Same H5 H6 := e6 ▸ same_new n5
  refine ⟨fun b o h => s6 _ _ (s5 _ _ (s4 _ _ (s3 _ _ (s2 _ _ (s1 _ _ h))))), by rw [e6, upd_same], fun c hc => ?_⟩
  match c, hc with
  | 0, _ => exact ⟨p0, ["or"], rfl, s6 _ _ (s5 _ _ (s4 _ _ (s3 _ _ (s2 _ _ (by rw [e1, upd_same]; rfl))))), rfl, by decide, by decide⟩
  | 1, _ => exact ⟨p1, ["and"], rfl, s6 _ _ (s5 _ _ (s4 _ _ (s3 _ _ (by rw [e2, upd_same]; rfl)))), rfl, by decide, by decide⟩
  | 2, _ => exact ⟨p2, ["==", "<"], rfl, s6 _ _ (s5 _ _ (s4 _ _ (by rw [e3, upd_same]; rfl))), rfl, by decide, by decide⟩
  | 3, _ => exact ⟨p3, ["+", "-"], rfl, s6 _ _ (s5 _ _ (by rw [e4, upd_same]; rfl)), rfl, by decide, by decide⟩
  | 4, _ => exact ⟨p4, ["*", "/"], rfl, s6 _ _ (by rw [e5, upd_same]; rfl), rfl, by decide, by decide⟩
theorem lv_at {c : Nat} (h : c ≤ 4) : [V.int 1, .int 2, .int 3, .int 4, .int 5][c]? = some (.int ((c + 1 : Nat) : Int)) := by
  match c, h with
  | 0, _ => rfl
  | 1, _ => rfl
  | 2, _ => rfl
  | 3, _ => rfl
  | 4, _ => rfl
def spBin (n : Nat) : Sp := fun vs H Q _ => ∃ (t c o : Addr) (k L : Nat) (ws : List Wd), vs = [.ref t, .ref o, .int ((k + 1 : Nat) : Int), .int (L : Int)] ∧ k < n ∧ L ≤ 4 ∧ Pn H t c o ws ∧ ws.length + cntT (k + 1) ≤ 1000 ∧ MkQ t c o ws (Pr (k + 1) L) (cntT (k + 1)) (2 * (k + 1) + 1) H Q
section
variable {P : Program} {w : World} {K : PySem.W.Frag} {mg : Str → Option Value} {base : Heap} {f : Addr} {fd : FuncData} {n j : Nat}
abbrev s_l_binary : Stmt := topS 57
abbrev N_l_binary : List Str := ["tape", "out", "depth", "level", "choice", "signs", "left", "k", "sign", "right"]
theorem sc_l_binary : FnScope N_l_binary ["tape", "out", "depth", "level"] (defScope s_l_binary) := ⟨rfl, rfl, rfl, by decide +kernel, rfl, by decide +kernel, by decide +kernel⟩
theorem ok_l_binary (F : Fun K "_law_binary" "_law_binary" s_l_binary f fd) (T : Nm mg) (hj : 3 ≤ j) (C_law_take : Cal P w K mg base CX0 1 "_law_take" spTake) (C_law_token_out : Cal P w K mg base CX0 3 "_law_token_out" spTok)
    (C_law_tree : Cal P w K mg base CX0 j "_law_tree" (spTree n)) : FnOk P w K mg base CX0 (j + 1) f fd ["tape", "out", "depth", "level"] (spBin n) := by
  refine F.ok sc_l_binary (fun vs H Q E h => ?_) (fun cdv A outer s H vs Q E hr h => ?_)
  · obtain ⟨t, c, o, k, L, ws, rfl, _⟩ := h
    rfl
  obtain ⟨t, c, o, k, L, ws, rfl, hk, hL, P0, hw, q⟩ := h
  refine ⟨_, (pss_cons (ps_set (i := 4) sc_l_binary.nd rfl (Or.inl rfl) (pe_op op_add (pv 3) (pe_c C_law_take hr (by first | decide | omega) pass0 (pa_cons (pv 0) (pa_cons (pe_op op_sub pe_int (pv 3)) pa_nil)))))
    (pss_cons (ps_set (i := 5) sc_l_binary.nd rfl (Or.inl rfl) (pe_ix (r := rIxL K) ix_list (pe_lst (pa_cons (pe_lst (pa_cons pe_str pa_nil)) (pa_cons (pe_lst (pa_cons pe_str pa_nil)) (pa_cons (pe_lst (pa_cons pe_str (pa_cons pe_str pa_nil))) (pa_cons (pe_lst (pa_cons pe_str (pa_cons pe_str pa_nil))) (pa_cons (pe_lst (pa_cons pe_str (pa_cons pe_str pa_nil))) pa_nil)))))) (pv 4) (fun _ _ => rfl)))
    (pss_cons (ps_set (i := 6) sc_l_binary.nd rfl (Or.inl rfl) (pe_c C_law_tree hr (by first | decide | omega) pass0 (pa_cons (pv 0) (pa_cons (pv 1) (pa_cons (pe_op op_sub (pv 2) pe_int) (pa_cons (pe_ix (r := rIxL K) ix_list (pe_lst (pa_cons pe_int (pa_cons pe_int (pa_cons pe_int (pa_cons pe_int (pa_cons pe_int pa_nil)))))) (pv 4) (fun _ _ => rfl)) pa_nil))))))
    (pss_cons (ps_for PassesOwn.never rfl (pi_range1 (by rfl) T.range (pa_cons (pe_op op_add pe_int (PE.up (pe_ifExp (pt_cmpR op_ne (pv 4) pe_int (nomark _)) (pe_c C_law_take hr (by first | decide | omega) pass0 (pa_cons (pv 0) (pa_cons pe_int pa_nil))) pe_int))) pa_nil)) (pg_name (i := 7) sc_l_binary.nd rfl (Or.inl rfl)) (pss_cons (ps_set (i := 8) sc_l_binary.nd rfl (Or.inl rfl) (pe_ix (r := rIxL K) ix_list (pv 5) (pe_c C_law_take hr (by first | decide | omega) pass0 (pa_cons (pv 0) (pa_cons (pe_callB call_len_seq (by rfl) T.len PySem.boot_len (pa_cons (pv 5) pa_nil)) pa_nil))) (fun _ _ => rfl)))
    (pss_cons (ps_expr (pe_c C_law_token_out hr (by first | decide | omega) pass0 (pa_cons (pv 0) (pa_cons (pv 1) (pa_cons (pv 8) pa_nil)))))
    (pss_cons (ps_set (i := 9) sc_l_binary.nd rfl (Or.inl rfl) (pe_c C_law_tree hr (by first | decide | omega) pass0 (pa_cons (pv 0) (pa_cons (pv 1) (pa_cons (pe_op op_sub (pv 2) pe_int) (pa_cons (pe_ix (r := rIxL K) ix_list (pe_lst (pa_cons pe_int (pa_cons pe_int (pa_cons pe_int (pa_cons pe_int (pa_cons pe_int pa_nil)))))) (pv 4) (fun _ _ => rfl)) pa_nil))))))
    (pss_one (ps_set (i := 6) sc_l_binary.nd rfl (Or.inl rfl) (pe_tup (pa_cons pe_str (pa_cons (pe_ix (r := rIxT K) ix_tup (pv 6) pe_int (fun _ _ => rfl)) (pa_cons (pe_ix (r := rIxT K) ix_tup (pv 9) pe_int (fun _ _ => rfl)) (pa_cons (pv 8) (pa_cons (pv 6) (pa_cons (pv 9) pa_nil)))))))))))))
    (pss_one (ps_ret (pv 6))))))), ?_⟩
  have hc : cntT (k + 1) = 3 * cntT k + 5 := rfl
  have hp := cntT_pos k
  refine ⟨_, rfl, _, rfl, _, rfl, _, _, rfl, rfl, t, c, _, rfl, P0.1, by omega, by omega, fun r0 H1 g0 g1 b1 T1 => ⟨_, _, rfl, rfl, ?_⟩⟩
  have P1 := P0.take b1 T1
  obtain ⟨cc, ecc⟩ : ∃ cc : Nat, (L : Int) + r0 = (cc : Int) := ⟨((L : Int) + r0).toNat, by omega⟩
  have hcc : cc ≤ 4 := by omega
  have hLc : L ≤ cc := by omega
  simp only [ecc]
  refine ⟨by decide, fun p0 n0 => ⟨by decide, fun p1 n1 => ⟨by decide, fun p2 n2 => ⟨by decide, fun p3 n3 => ⟨by decide, fun p4 n4 => ⟨by show 5 ≤ sizeLine; decide, fun p n5 => ?_⟩⟩⟩⟩⟩⟩
  obtain ⟨s2, hp2, hsg⟩ := sg_heap n0 rfl n1 rfl n2 rfl n3 rfl n4 rfl n5 rfl
  obtain ⟨x, ss, hx, hx2, hsT, hne, hl2⟩ := hsg cc hcc
  refine ⟨_, rfl, p, _, _, _, rfl, rfl, SqL.of hp2, at_of rfl hx, ?_⟩
  have P2 := P1.same s2
  generalize upd _ p _ = H2 at s2 hx2 P2 ⊢
  have b02 : But2 t o H H2 := (But2.tape b1).trans (But2.of s2)
  refine ⟨_, rfl, _, rfl, _, rfl, _, _, rfl, rfl, by show 5 ≤ sizeLine; decide, fun p6 n6 => ⟨_, rfl, p6, _, _, _, rfl, rfl, SqL.of upd_same, at_of rfl (lv_at hcc), ?_⟩⟩
  have s3 := same_new (o := .lst [.int 1, .int 2, .int 3, .int 4, .int 5]) n6
  refine ⟨t, c, o, k, cc + 1, ws, args4, hk, by omega, fun e => absurd e (by omega), P2.same s3, by omega, fun H4 nl tn v pr ln dn D4 P4 b4 => ?_⟩
  obtain ⟨tp0, htp, pr0⟩ := pr_op hcc pr
  have hx4 : H4 x = some (.lst (ss.map V.str)) := by
    have h3 := s3 _ _ hx2
    obtain ⟨T3, z, hz, _⟩ := P2.same s3
    exact b4 _ _ (T3.ne h3 (by intro k e; cases e)) (ne_of h3 hz (by intro e; cases e)) h3
  refine ⟨fun v H5 => ∃ r : Nat, v = .int (r : Int) ∧ r < 2 ∧ (cc = 2 → r = 0) ∧ Pn H5 t c o (ws ++ nl) ∧ But2 t o H4 H5, ?_, ?_⟩
  · refine ⟨_, rfl, rfl, _, rfl, ?_⟩
    by_cases h2 : cc = 2
    · exact iteNS (by rw [h2]; rfl) ⟨0, rfl, by decide, fun _ => rfl, P4, But2.refl⟩
    · refine iteNN (fun e => h2 (by injection e with e; omega)) ?_
      exact ⟨_, rfl, t, c, 2, rfl, P4.1, by decide, by decide, fun r H5 g2 g3 b5 T5 => ⟨r.toNat, by rw [Int.toNat_of_nonneg g2], by omega, fun e => absurd e h2, P4.take b5 T5, But2.tape b5⟩⟩
  rintro v1 H5 ⟨r, rfl, hr2, hrc, P5, b5⟩
  refine ⟨_, _, rfl, rfl, 1 + (r : Int), rfl, by omega, by omega, ?_⟩
  have tk4 := P2.same s3
  have hrk := rk_lv hcc
  have D5 := D4.keep (P4.tups b5)
  have b05 : But2 t o H H5 := b02.trans ((But2.of s3).trans (b4.trans b5))
  have lstK : ∀ {H' H'' : Hp} {ws' : List Wd}, Pn H' t c o ws' → But2 t o H' H'' → H' x = some (.lst (ss.map V.str)) → H'' x = some (.lst (ss.map V.str)) := fun P b h3 => by
    obtain ⟨T3, z, hz, _⟩ := P
    exact b _ _ (T3.ne h3 (by intro k e; cases e)) (ne_of h3 hz (by intro e; cases e)) h3
  have hx5 := lstK P4 b5 hx4
  refine for_range (lo := 0) (n := (1 + (r : Int)).toNat) (fun i σ H' => ∃ (v7 v8 v9 : Option V) (tn : Tn) (nw : List Wd) (v : V) (tp : Nat), σ = [some (.ref t), some (.ref o), some (.int ((k + 1 : Nat) : Int)), some (.int (L : Int)), some (.int (cc : Int)), some (.ref x), some v, v7, v8, v9] ∧
    RdG k (cc + 1) (rkC cc) nw tn tp ∧ (i = 0 → rkC cc ≤ tp) ∧ (0 < i → tp = Src.topR (rkC cc)) ∧ DT H' tn.d v ∧ Pn H' t c o (ws ++ nw) ∧ But2 t o H H' ∧ H' x = some (.lst (ss.map V.str)) ∧ nw.length ≤ cntT k + i * (cntT k + 1) ∧ dep tn.d ≤ 2 * k + 1 + i)
    ⟨none, none, none, tn, nl, v, tp0, rfl, pr0.mono (Nat.le_refl _) (Nat.le_refl _) (by omega), fun _ => htp, fun h => absurd h (by decide), D5, P5, b05, hx5, by omega, dn⟩ ?_ ?_
  · rintro i σ H6 hi ⟨v7, v8, v9, tn, nw, v, tp, rfl, pr, hz, hz2, D6, P6, b6, hx6, ln, dn⟩
    have hi2 : i ≤ 1 := by omega
    have hmul : i * (cntT k + 1) ≤ 1 * (cntT k + 1) := Nat.mul_le_mul_right _ hi2
    have hmul2 : (i + 1) * (cntT k + 1) = i * (cntT k + 1) + (cntT k + 1) := Nat.succ_mul _ _
    have htop : rkC cc ≤ tp := by
      by_cases h : i = 0
      · exact hz h
      · rw [hz2 (by omega)]
        have : cc ≠ 2 := fun e => by have := hrc e; omega
        have all : ∀ c : Fin 5, (c : Nat) ≠ 2 → rkC c ≤ Src.topR (rkC c) := by decide
        exact all ⟨cc, by omega⟩ this
    have hsl : (ss.map V.str).length = ss.length := List.length_map _
    have hpos : 0 < ss.length := List.length_pos_iff.mpr hne
    refine ⟨_, rfl, _, rfl, _, rfl, x, _, rfl, .inl (SqL.of hx6), t, c, _, rfl, P6.1, by rw [hsl]; omega, by rw [hsl]; omega, fun m H7 g2 g3 b7 T7 => ?_⟩
    have P7 := P6.take b7 T7
    have hx7 := lstK P6 (But2.tape b7) hx6
    rw [hsl] at g3
    obtain ⟨m, rfl⟩ : ∃ m' : Nat, m = (m' : Int) := ⟨m.toNat, by omega⟩
    have hm : m < ss.length := by omega
    have gm := List.getElem?_eq_getElem hm
    generalize ss[m] = y at gm
    obtain ⟨k1, k2, k3, k4, k5⟩ := sgT_ok hsT (List.mem_of_getElem? gm)
    refine ⟨x, _, _, _, rfl, rfl, SqL.of hx7, at_of rfl (show (ss.map V.str)[m]? = some (V.str y) by rw [List.getElem?_map, gm]; rfl), ?_⟩
    refine ⟨_, rfl, _, rfl, _, rfl, t, c, o, y, _, rfl, P7, k2, k3, by rw [List.length_append]; omega, fun wd H8 e8 P8 b8 => ?_⟩
    refine ⟨_, rfl, _, rfl, _, rfl, _, _, rfl, rfl, by show 5 ≤ sizeLine; decide, fun p7 n7 => ⟨_, rfl, p7, _, _, _, rfl, rfl, SqL.of upd_same, at_of rfl (lv_at hcc), ?_⟩⟩
    have s9 := same_new (o := .lst [.int 1, .int 2, .int 3, .int 4, .int 5]) n7
    refine ⟨t, c, o, k, cc + 1, _, args4, hk, by omega, fun e => absurd e (by omega), P8.same s9, by rw [List.length_append, List.length_append, List.length_singleton]; omega, fun H9 nr tr vr prr lr dr D9 P9 b9 => ?_⟩
    obtain ⟨tpr, _, prr⟩ := pr_op hcc prr
    have D9l := (((D6.keep (P6.tups (But2.tape b7))).keep (P7.tups b8)).keep (P8.tups (But2.of s9))).keep ((P8.same s9).tups b9)
    have hx9 := lstK (P8.same s9) b9 (s9 _ _ (lstK P7 b8 hx7))
    obtain ⟨al, vsl, rfl, hal, hsl1, _⟩ := Tn.e_at D9l
    obtain ⟨ar, vsr, rfl, har, _, her⟩ := Tn.e_at D9
    refine ⟨_, rfl, al, _, _, _, rfl, rfl, .inl (.inl hal), hsl1, _, rfl, ar, _, _, _, rfl, rfl, .inl (.inl har), her, _, rfl, _, rfl, _, rfl, by show 6 ≤ sizeLine; decide, fun q1 nq => ?_⟩
    have s10 := same_new (o := .tup [.str "binary", .int (tn.s : Int), .int (tr.e : Int), .str y, .ref al, .ref ar]) nq
    have hy : strL wd.1 = y := by rw [e8, strL_tlP]
    have eqw : ws ++ nw ++ [wd] ++ nr = ws ++ (nw ++ wd :: nr) := by simp
    rw [eqw] at P9
    have hrw : Src.rank wd.1 = rkC cc := by rw [e8]; exact k1
    have big := RdG.bin pr prr (w := wd) (by rw [hrw]; exact hrk) (by rw [hrw]; exact Nat.le_refl _) (by rw [hrw]; exact htop) (by rw [e8]; exact k4) (by rw [e8]; exact k5)
    rw [hrw] at big
    refine ⟨_, _, _, Src.binT tn tr wd.1, nw ++ wd :: nr, _, Src.topR (rkC cc), rfl, big, fun h => absurd h (by omega), fun _ => rfl, Tn.mk_ (r := [.str y, .ref al, .ref ar]) upd_same (.cons ?_ (.cons (D9l.keep fun _ _ h => s10 _ _ h) (.cons (D9.keep fun _ _ h => s10 _ _ h) .nil))) (by show 6 ≤ 1000000; decide), P9.same s10, ?_, s10 _ _ hx9, ?_, ?_⟩
    · rw [hy]; exact DT.str
    · exact b6.trans ((But2.tape b7).trans (b8.trans ((But2.of s9).trans (b9.trans (But2.of s10)))))
    · rw [List.length_append, List.length_cons]
      omega
    · have := dep_tn_le (m := 2 * k + 1 + i) (t := Src.binT tn tr wd.1) (fun d hd => by
        have hd : d ∈ [Sn.D.str (strL wd.1), tn.d, tr.d] := hd
        simp only [List.mem_cons, List.mem_singleton, List.not_mem_nil, or_false] at hd
        rcases hd with rfl | rfl | rfl
        · exact Nat.zero_le _
        · exact dn
        · omega)
      omega
  · rintro σ H6 ⟨v7, v8, v9, tn, nw, v, tp, rfl, pr, hz, hz2, D6, P6, b6, hx6, ln, dn⟩
    have hmul : (1 + (r : Int)).toNat * (cntT k + 1) ≤ 2 * (cntT k + 1) := Nat.mul_le_mul_right _ (by omega)
    obtain ⟨h1, h2⟩ := rk_all hLc hcc
    exact ⟨_, rfl, q _ nw tn v (pr_G hL (pr.mono (Nat.le_succ k) (Nat.le_refl _) (Nat.le_refl _)) (by omega) h1 (by rw [hz2 (by omega)]; exact h2)) (by omega) (by omega) D6 P6 b6⟩
end

end Sn

namespace Sn
open PySem PySem.Spec PyProof.Rows L2 TL
/-! ### the law's printing: wide trees, all trees -/
def spWide (n : Nat) : Sp := fun vs H Q _ => ∃ (t c o : Addr) (k x : Nat) (ws : List Wd), vs = [.ref t, .ref o, .int ((k + 1 : Nat) : Int), .int (x : Int)] ∧ k < n ∧ 11 ≤ x ∧ x ≤ 13 ∧ Pn H t c o ws ∧ ws.length + cntT (k + 1) ≤ 1000 ∧ MkQ t c o ws (RdV (k + 1)) (cntT (k + 1)) (2 * (k + 1) + 1) H Q
section
variable {P : Program} {w : World} {K : PySem.W.Frag} {mg : Str → Option Value} {base : Heap} {f : Addr} {fd : FuncData} {n j : Nat}
abbrev s_l_wide : Stmt := topS 58
abbrev N_l_wide : List Str := ["tape", "out", "depth", "choice", "start", "test", "yes", "no", "word", "name", "name_start", "first", "count", "step", "body"]
theorem sc_l_wide : FnScope N_l_wide ["tape", "out", "depth", "choice"] (defScope s_l_wide) := ⟨rfl, rfl, rfl, by decide +kernel, rfl, by decide +kernel, by decide +kernel⟩
theorem ok_l_wide (F : Fun K "_law_wide" "_law_wide" s_l_wide f fd) (T : Nm mg) (hj : 3 ≤ j) (C_law_some_name : Cal P w K mg base CX0 2 "_law_some_name" spName) (C_law_token_out : Cal P w K mg base CX0 3 "_law_token_out" spTok)
    (C_law_tree : Cal P w K mg base CX0 j "_law_tree" (spTree n)) : FnOk P w K mg base CX0 (j + 1) f fd ["tape", "out", "depth", "choice"] (spWide n) := by
  refine F.ok sc_l_wide (fun vs H Q E h => ?_) (fun cdv A outer s H vs Q E hr h => ?_)
  · obtain ⟨t, c, o, k, x, ws, rfl, _⟩ := h
    rfl
  obtain ⟨t, c, o, k, x, ws, rfl, hk, hx0, hx1, P0, hw, q⟩ := h
  refine ⟨_, (pss_cons (ps_if (pt_cmpR op_eq (pv 3) pe_int (nomark _)) (pss_cons (ps_set (i := 4) sc_l_wide.nd rfl (Or.inl rfl) (pe_c C_law_token_out hr (by first | decide | omega) pass0 (pa_cons (pv 0) (pa_cons (pv 1) (pa_cons pe_str pa_nil)))))
    (pss_cons (ps_set (i := 5) sc_l_wide.nd rfl (Or.inl rfl) (pe_c C_law_tree hr (by first | decide | omega) pass0 (pa_cons (pv 0) (pa_cons (pv 1) (pa_cons (pe_op op_sub (pv 2) pe_int) (pa_cons pe_int pa_nil))))))
    (pss_cons (ps_expr (pe_c C_law_token_out hr (by first | decide | omega) pass0 (pa_cons (pv 0) (pa_cons (pv 1) (pa_cons pe_str pa_nil)))))
    (pss_cons (ps_set (i := 6) sc_l_wide.nd rfl (Or.inl rfl) (pe_c C_law_tree hr (by first | decide | omega) pass0 (pa_cons (pv 0) (pa_cons (pv 1) (pa_cons (pe_op op_sub (pv 2) pe_int) (pa_cons pe_int pa_nil))))))
    (pss_cons (ps_expr (pe_c C_law_token_out hr (by first | decide | omega) pass0 (pa_cons (pv 0) (pa_cons (pv 1) (pa_cons pe_str pa_nil)))))
    (pss_cons (ps_set (i := 7) sc_l_wide.nd rfl (Or.inl rfl) (pe_c C_law_tree hr (by first | decide | omega) pass0 (pa_cons (pv 0) (pa_cons (pv 1) (pa_cons (pe_op op_sub (pv 2) pe_int) (pa_cons pe_int pa_nil))))))
    (pss_one (ps_ret (pe_tup (pa_cons pe_str (pa_cons (pv 4) (pa_cons (pe_ix (r := rIxT K) ix_tup (pv 7) pe_int (fun _ _ => rfl)) (pa_cons (pv 5) (pa_cons (pv 6) (pa_cons (pv 7) pa_nil))))))))))))))) pss_nil)
    (pss_cons (ps_set (i := 8) sc_l_wide.nd rfl (Or.inl rfl) (pe_ix (r := rIxL K) ix_list (pe_lst (pa_cons pe_str (pa_cons pe_str pa_nil))) (pe_op op_sub (pv 3) pe_int) (fun _ _ => rfl)))
    (pss_cons (ps_set (i := 4) sc_l_wide.nd rfl (Or.inl rfl) (pe_c C_law_token_out hr (by first | decide | omega) pass0 (pa_cons (pv 0) (pa_cons (pv 1) (pa_cons (pv 8) pa_nil)))))
    (pss_cons (ps_set (i := 9) sc_l_wide.nd rfl (Or.inl rfl) (pe_c C_law_some_name hr (by first | decide | omega) pass0 (pa_cons (pv 0) pa_nil)))
    (pss_cons (ps_set (i := 10) sc_l_wide.nd rfl (Or.inl rfl) (pe_c C_law_token_out hr (by first | decide | omega) pass0 (pa_cons (pv 0) (pa_cons (pv 1) (pa_cons (pv 9) pa_nil)))))
    (pss_cons (ps_expr (pe_c C_law_token_out hr (by first | decide | omega) pass0 (pa_cons (pv 0) (pa_cons (pv 1) (pa_cons pe_str pa_nil)))))
    (pss_cons (ps_set (i := 11) sc_l_wide.nd rfl (Or.inl rfl) (pe_c C_law_tree hr (by first | decide | omega) pass0 (pa_cons (pv 0) (pa_cons (pv 1) (pa_cons (pe_op op_sub (pv 2) pe_int) (pa_cons pe_int pa_nil))))))
    (pss_cons (ps_if (pt_cmpR op_eq (pv 8) pe_str (nomark _)) (pss_cons (ps_expr (pe_c C_law_token_out hr (by first | decide | omega) pass0 (pa_cons (pv 0) (pa_cons (pv 1) (pa_cons pe_str pa_nil)))))
    (pss_cons (ps_set (i := 12) sc_l_wide.nd rfl (Or.inl rfl) (pe_c C_law_tree hr (by first | decide | omega) pass0 (pa_cons (pv 0) (pa_cons (pv 1) (pa_cons (pe_op op_sub (pv 2) pe_int) (pa_cons pe_int pa_nil))))))
    (pss_cons (ps_expr (pe_c C_law_token_out hr (by first | decide | omega) pass0 (pa_cons (pv 0) (pa_cons (pv 1) (pa_cons pe_str pa_nil)))))
    (pss_cons (ps_set (i := 13) sc_l_wide.nd rfl (Or.inl rfl) (pe_c C_law_tree hr (by first | decide | omega) pass0 (pa_cons (pv 0) (pa_cons (pv 1) (pa_cons (pe_op op_sub (pv 2) pe_int) (pa_cons pe_int pa_nil))))))
    (pss_one (ps_ret (pe_tup (pa_cons (pv 8) (pa_cons (pv 4) (pa_cons (pe_ix (r := rIxT K) ix_tup (pv 13) pe_int (fun _ _ => rfl)) (pa_cons (pv 9) (pa_cons (pv 10) (pa_cons (pv 11) (pa_cons (pv 12) (pa_cons (pv 13) pa_nil))))))))))))))) pss_nil)
    (pss_cons (ps_expr (pe_c C_law_token_out hr (by first | decide | omega) pass0 (pa_cons (pv 0) (pa_cons (pv 1) (pa_cons pe_str pa_nil)))))
    (pss_cons (ps_set (i := 14) sc_l_wide.nd rfl (Or.inl rfl) (pe_c C_law_tree hr (by first | decide | omega) pass0 (pa_cons (pv 0) (pa_cons (pv 1) (pa_cons (pe_op op_sub (pv 2) pe_int) (pa_cons pe_int pa_nil))))))
    (pss_one (ps_ret (pe_tup (pa_cons (pv 8) (pa_cons (pv 4) (pa_cons (pe_ix (r := rIxT K) ix_tup (pv 14) pe_int (fun _ _ => rfl)) (pa_cons (pv 9) (pa_cons (pv 10) (pa_cons (pv 11) (pa_cons (pv 14) pa_nil)))))))))))))))))))), ?_⟩
  have hc : cntT (k + 1) = 3 * cntT k + 5 := rfl
  have hp := cntT_pos k
  have lna : ∀ (a : List Wd) (b : Wd), (a ++ [b]).length = a.length + 1 := fun a b => by simp
  refine ⟨_, rfl, rfl, _, rfl, ?_⟩
  refine ite2 (fun _ => ?_) (fun h => ?_)
  · refine ⟨_, rfl, _, rfl, t, c, o, "if", _, rfl, P0, by decide +kernel, by decide +kernel, by omega, fun w1 H1 e1 P1 b1 => ?_⟩
    refine ⟨_, rfl, _, rfl, _, rfl, _, _, rfl, rfl, t, c, o, k, 0, _, args4, hk, by omega, fun e => absurd e (by omega), P1, by rw [lna]; omega, fun H2 n1 t1 v1 pr1 l1 d1 D1 P2 b2 => ?_⟩
    refine ⟨_, rfl, _, rfl, t, c, o, "then", _, rfl, P2, by decide +kernel, by decide +kernel, by rw [List.length_append, lna]; omega, fun w2 H3 e2 P3 b3 => ?_⟩
    refine ⟨_, rfl, _, rfl, _, rfl, _, _, rfl, rfl, t, c, o, k, 0, _, args4, hk, by omega, fun e => absurd e (by omega), P3, by rw [lna, List.length_append, lna]; omega, fun H4 n2 t2 v2 pr2 l2 d2 D2 P4 b4 => ?_⟩
    refine ⟨_, rfl, _, rfl, t, c, o, "else", _, rfl, P4, by decide +kernel, by decide +kernel, by rw [List.length_append, lna, List.length_append, lna]; omega, fun w3 H5 e3 P5 b5 => ?_⟩
    refine ⟨_, rfl, _, rfl, _, rfl, _, _, rfl, rfl, t, c, o, k, 0, _, args4, hk, by omega, fun e => absurd e (by omega), P5, by rw [lna, List.length_append, lna, List.length_append, lna]; omega, fun H6 n3 t3 v3 pr3 l3 d3 D3 P6 b6 => ?_⟩
    have D1' := (((D1.keep (P2.tups b3)).keep (P3.tups b4)).keep (P4.tups b5)).keep (P5.tups b6)
    have D2' := (D2.keep (P4.tups b5)).keep (P5.tups b6)
    obtain ⟨a1, vs1, rfl, _, _, _⟩ := Tn.e_at D1'
    obtain ⟨a2, vs2, rfl, _, _, _⟩ := Tn.e_at D2'
    obtain ⟨a3, vs3, rfl, ha, _, he⟩ := Tn.e_at D3
    refine ⟨_, rfl, _, rfl, a3, _, _, _, rfl, rfl, .inl (.inl ha), he, _, rfl, _, rfl, _, rfl, by show 6 ≤ sizeLine; decide, fun q1 nq => ?_⟩
    have s7 := same_new (o := .tup [.str "if", .int (w1.2 : Int), .int (t3.e : Int), .ref a1, .ref a2, .ref a3]) nq
    have eqw : ws ++ [w1] ++ n1 ++ [w2] ++ n2 ++ [w3] ++ n3 = ws ++ (w1 :: (n1 ++ w2 :: (n2 ++ w3 :: n3))) := by simp
    rw [eqw] at P6
    refine q _ _ ⟨"if", w1.2, t3.e, [t1.d, t2.d, t3.d]⟩ _ (rdv_if pr1 pr2 pr3 e1 e2 e3) (by simp only [List.length_cons, List.length_append]; omega) (dep_tn_le (m := 2 * (k + 1)) fun d hd => ?_) (Tn.mk_ (r := [.ref a1, .ref a2, .ref a3]) upd_same (.cons (D1'.keep fun _ _ h => s7 _ _ h) (.cons (D2'.keep fun _ _ h => s7 _ _ h) (.cons (D3.keep fun _ _ h => s7 _ _ h) .nil))) (by show 6 ≤ 1000000; decide)) (P6.same s7) (b1.trans (b2.trans (b3.trans (b4.trans (b5.trans (b6.trans (But2.of s7)))))))
    have hd : d ∈ [t1.d, t2.d, t3.d] := hd
    simp only [List.mem_cons, List.mem_singleton, List.not_mem_nil, or_false] at hd
    rcases hd with rfl | rfl | rfl <;> omega
  · have hx : x = 12 ∨ x = 13 := by
      by_cases h11 : x = 11
      · exact absurd (decide_eq_true (by rw [h11]; rfl)) h
      · omega
    refine ⟨by decide, fun p0 n0 => ?_⟩
    have s0 := same_new (o := .lst [.str "let", .str "loop"]) n0
    obtain ⟨lp, y, hy, hy2⟩ : ∃ (lp : Bool) (y : Str), atI [V.str "let", .str "loop"] ((x : Int) - 12) = some (.str y) ∧ y = (if lp = true then "loop" else "let") := by
      rcases hx with rfl | rfl
      · exact ⟨false, "let", rfl, rfl⟩
      · exact ⟨true, "loop", rfl, rfl⟩
    have ty : tl y = if lp = true then tl "loop" else tl "let" := by rw [hy2]; cases lp <;> rfl
    have k1 : tkOk (tl y) = true := by rw [ty]; cases lp <;> decide +kernel
    have k2 : (tl y).length ≤ 25 := by rw [ty]; cases lp <;> decide +kernel
    refine ⟨_, rfl, _, _, rfl, rfl, p0, _, _, _, rfl, rfl, SqL.of upd_same, hy, ?_⟩
    have P0' := P0.same s0
    refine ⟨_, rfl, _, rfl, _, rfl, t, c, o, y, _, rfl, P0', k1, k2, by omega, fun w1 H1 e1 P1 b1 => ?_⟩
    refine ⟨_, rfl, t, c, rfl, P1.1, fun x2 H2 m1 m2 m3 b2 T2 => ?_⟩
    have P2 := P1.take b2 T2
    refine ⟨_, rfl, _, rfl, _, rfl, t, c, o, x2, _, rfl, P2, m2, m3, by rw [lna]; omega, fun wn H3 en P3 b3 => ?_⟩
    refine ⟨_, rfl, _, rfl, t, c, o, "=", _, rfl, P3, by decide +kernel, by decide +kernel, by rw [lna, lna]; omega, fun w2 H4 e2 P4 b4 => ?_⟩
    refine ⟨_, rfl, _, rfl, _, rfl, _, _, rfl, rfl, t, c, o, k, 0, _, args4, hk, by omega, fun e => absurd e (by omega), P4, by rw [lna, lna, lna]; omega, fun H5 n1 t1 v1 pr1 l1 d1 D1 P5 b5 => ?_⟩
    have b05 : But2 t o H H5 := (But2.of s0).trans (b1.trans ((But2.tape b2).trans (b3.trans (b4.trans b5))))
    have hxn : strL wn.1 = x2 := by rw [en, strL_tlP]
    refine ⟨_, rfl, rfl, _, rfl, ?_⟩
    cases lp with
    | true =>
      have ey : y = "loop" := hy2
      refine iteP (by rw [ey]) ?_
      refine ⟨_, rfl, _, rfl, t, c, o, "times", _, rfl, P5, by decide +kernel, by decide +kernel, by rw [List.length_append, lna, lna, lna]; omega, fun w3 H6 e3 P6 b6 => ?_⟩
      refine ⟨_, rfl, _, rfl, _, rfl, _, _, rfl, rfl, t, c, o, k, 0, _, args4, hk, by omega, fun e => absurd e (by omega), P6, by rw [lna, List.length_append, lna, lna, lna]; omega, fun H7 n2 t2 v2 pr2 l2 d2 D2 P7 b7 => ?_⟩
      refine ⟨_, rfl, _, rfl, t, c, o, "do", _, rfl, P7, by decide +kernel, by decide +kernel, by rw [List.length_append, lna, List.length_append, lna, lna, lna]; omega, fun w4 H8 e4 P8 b8 => ?_⟩
      refine ⟨_, rfl, _, rfl, _, rfl, _, _, rfl, rfl, t, c, o, k, 0, _, args4, hk, by omega, fun e => absurd e (by omega), P8, by rw [lna, List.length_append, lna, List.length_append, lna, lna, lna]; omega, fun H9 n3 t3 v3 pr3 l3 d3 D3 P9 b9 => ?_⟩
      have D1' := (((D1.keep (P5.tups b6)).keep (P6.tups b7)).keep (P7.tups b8)).keep (P8.tups b9)
      have D2' := (D2.keep (P7.tups b8)).keep (P8.tups b9)
      obtain ⟨a1, vs1, rfl, _, _, _⟩ := Tn.e_at D1'
      obtain ⟨a2, vs2, rfl, _, _, _⟩ := Tn.e_at D2'
      obtain ⟨a3, vs3, rfl, ha, _, he⟩ := Tn.e_at D3
      refine ⟨_, rfl, _, rfl, _, rfl, a3, _, _, _, rfl, rfl, .inl (.inl ha), he, _, rfl, _, rfl, _, rfl, _, rfl, _, rfl, by show 8 ≤ sizeLine; decide, fun q1 nq => ?_⟩
      have s7 := same_new (o := .tup [.str y, .int (w1.2 : Int), .int (t3.e : Int), .str x2, .int (wn.2 : Int), .ref a1, .ref a2, .ref a3]) nq
      have eqw : ws ++ [w1] ++ [wn] ++ [w2] ++ n1 ++ [w3] ++ n2 ++ [w4] ++ n3 = ws ++ (w1 :: wn :: w2 :: (n1 ++ w3 :: (n2 ++ w4 :: n3))) := by simp
      rw [eqw] at P9
      refine q _ _ ⟨"loop", w1.2, t3.e, [.str (strL wn.1), .int (wn.2 : Int), t1.d, t2.d, t3.d]⟩ _ (rdv_loop pr1 pr2 pr3 (by rw [e1]; exact ty) (by rw [en]; exact m1) e2 e3 e4) (by simp only [List.length_cons, List.length_append]; omega) (dep_tn_le (m := 2 * (k + 1)) fun d hd => ?_) (Tn.mk_ (r := [.str x2, .int (wn.2 : Int), .ref a1, .ref a2, .ref a3]) ?_ (.cons ?_ (.cons DT.int (.cons (D1'.keep fun _ _ h => s7 _ _ h) (.cons (D2'.keep fun _ _ h => s7 _ _ h) (.cons (D3.keep fun _ _ h => s7 _ _ h) .nil))))) (by show 8 ≤ 1000000; decide)) (P9.same s7) (b05.trans (b6.trans (b7.trans (b8.trans (b9.trans (But2.of s7))))))
      · have hd : d ∈ [Sn.D.str (strL wn.1), Sn.D.int (wn.2 : Int), t1.d, t2.d, t3.d] := hd
        simp only [List.mem_cons, List.mem_singleton, List.not_mem_nil, or_false] at hd
        rcases hd with rfl | rfl | rfl | rfl | rfl
        · exact Nat.zero_le _
        · exact Nat.zero_le _
        · omega
        · omega
        · omega
      · rw [upd_same, ey]
      · rw [hxn]; exact DT.str
    | false =>
      have ey : y = "let" := hy2
      refine iteN (by rw [ey]; intro e; injection e with e; exact absurd e (by decide +kernel)) ?_
      refine ⟨_, rfl, _, rfl, t, c, o, "in", _, rfl, P5, by decide +kernel, by decide +kernel, by rw [List.length_append, lna, lna, lna]; omega, fun w3 H6 e3 P6 b6 => ?_⟩
      refine ⟨_, rfl, _, rfl, _, rfl, _, _, rfl, rfl, t, c, o, k, 0, _, args4, hk, by omega, fun e => absurd e (by omega), P6, by rw [lna, List.length_append, lna, lna, lna]; omega, fun H7 n2 t2 v2 pr2 l2 d2 D2 P7 b7 => ?_⟩
      have D1' := (D1.keep (P5.tups b6)).keep (P6.tups b7)
      obtain ⟨a1, vs1, rfl, _, _, _⟩ := Tn.e_at D1'
      obtain ⟨a2, vs2, rfl, ha, _, he⟩ := Tn.e_at D2
      refine ⟨_, rfl, _, rfl, _, rfl, a2, _, _, _, rfl, rfl, .inl (.inl ha), he, _, rfl, _, rfl, _, rfl, _, rfl, by show 7 ≤ sizeLine; decide, fun q1 nq => ?_⟩
      have s7 := same_new (o := .tup [.str y, .int (w1.2 : Int), .int (t2.e : Int), .str x2, .int (wn.2 : Int), .ref a1, .ref a2]) nq
      have eqw : ws ++ [w1] ++ [wn] ++ [w2] ++ n1 ++ [w3] ++ n2 = ws ++ (w1 :: wn :: w2 :: (n1 ++ w3 :: n2)) := by simp
      rw [eqw] at P7
      refine q _ _ ⟨"let", w1.2, t2.e, [.str (strL wn.1), .int (wn.2 : Int), t1.d, t2.d]⟩ _ (rdv_let pr1 pr2 (by rw [e1]; exact ty) (by rw [en]; exact m1) e2 e3) (by simp only [List.length_cons, List.length_append]; omega) (dep_tn_le (m := 2 * (k + 1)) fun d hd => ?_) (Tn.mk_ (r := [.str x2, .int (wn.2 : Int), .ref a1, .ref a2]) ?_ (.cons ?_ (.cons DT.int (.cons (D1'.keep fun _ _ h => s7 _ _ h) (.cons (D2.keep fun _ _ h => s7 _ _ h) .nil)))) (by show 7 ≤ 1000000; decide)) (P7.same s7) (b05.trans (b6.trans (b7.trans (But2.of s7))))
      · have hd : d ∈ [Sn.D.str (strL wn.1), Sn.D.int (wn.2 : Int), t1.d, t2.d] := hd
        simp only [List.mem_cons, List.mem_singleton, List.not_mem_nil, or_false] at hd
        rcases hd with rfl | rfl | rfl | rfl
        · exact Nat.zero_le _
        · exact Nat.zero_le _
        · omega
        · omega
      · rw [upd_same, ey]
      · rw [hxn]; exact DT.str
abbrev s_l_tree : Stmt := topS 52
abbrev N_l_tree : List Str := ["tape", "out", "depth", "level", "choice", "name", "start", "inner", "end"]
theorem sc_l_tree : FnScope N_l_tree ["tape", "out", "depth", "level"] (defScope s_l_tree) := ⟨rfl, rfl, rfl, by decide +kernel, rfl, by decide +kernel, by decide +kernel⟩
theorem pr_D {L : Nat} {nw : List Wd} {t : Tn} (k : Nat) (q : RdD nw t) (hL : L ≤ 6) : Pr k L nw t := by
  by_cases h : L = 6
  · subst h; exact q
  · exact pr_S (q.s.mono (Nat.zero_le k)) (by omega)
theorem ok_l_tree (F : Fun K "_law_tree" "_law_tree" s_l_tree f fd) (T : Nm mg) (hj : 4 ≤ j) (C_law_take : Cal P w K mg base CX0 1 "_law_take" spTake) (C_law_some_name : Cal P w K mg base CX0 2 "_law_some_name" spName) (C_law_token_out : Cal P w K mg base CX0 3 "_law_token_out" spTok)
    (C_law_leaf : Cal P w K mg base CX0 4 "_law_leaf" spLeaf) (C_law_call : Cal P w K mg base CX0 (j + 1) "_law_call" (spForm RdS n)) (C_law_reach : Cal P w K mg base CX0 (j + 1) "_law_reach" (spForm (fun _ => RdD) n)) (C_law_prefix : Cal P w K mg base CX0 (j + 1) "_law_prefix" (spPrefix n))
    (C_law_binary : Cal P w K mg base CX0 (j + 1) "_law_binary" (spBin n)) (C_law_wide : Cal P w K mg base CX0 (j + 1) "_law_wide" (spWide n)) (C_law_tree : Cal P w K mg base CX0 j "_law_tree" (spTree n)) :
    FnOk P w K mg base CX0 (j + 2) f fd ["tape", "out", "depth", "level"] (spTree (n + 1)) := by
  refine F.ok sc_l_tree (fun vs H Q E h => ?_) (fun cdv A outer s H vs Q E hr h => ?_)
  · obtain ⟨t, c, o, k, L, ws, rfl, _⟩ := h
    rfl
  obtain ⟨t, c, o, k, L, ws, rfl, hk, hL, hL6, P0, hw, q⟩ := h
  refine ⟨_, (pss_cons (ps_set (i := 4) sc_l_tree.nd rfl (Or.inl rfl) (PE.up (pe_ifExp (pt_cmpR op_gt (pv 2) pe_int (nomark _)) (pe_c C_law_take hr (by first | decide | omega) pass0 (pa_cons (pv 0) (pa_cons pe_int pa_nil))) (pe_c C_law_take hr (by first | decide | omega) pass0 (pa_cons (pv 0) (pa_cons pe_int pa_nil))))))
    (C8.pss_cut (ps_if (PW.pt (pw_and (pt_cmpR op_eq (pv 3) pe_int (nomark _)) (pw_and1 (pt_cmpR op_gt (pv 4) pe_int (nomark _))))) (pss_one (ps_ret (pe_c C_law_wide hr (by first | decide | omega) pass0 (pa_cons (pv 0) (pa_cons (pv 1) (pa_cons (pv 2) (pa_cons (pv 4) pa_nil))))))) pss_nil)
    (pss_cons (ps_if (pt_cmpR op_lt (pv 4) pe_int (nomark _)) (pss_one (ps_ret (pe_c C_law_leaf hr (by first | decide | omega) pass0 (pa_cons (pv 0) (pa_cons (pv 1) (pa_cons (pv 4) pa_nil)))))) pss_nil)
    (pss_cons (ps_if (pt_cmpR op_lt (pv 4) pe_int (nomark _)) (pss_cons (ps_set (i := 5) sc_l_tree.nd rfl (Or.inl rfl) (pe_c C_law_some_name hr (by first | decide | omega) pass0 (pa_cons (pv 0) pa_nil)))
    (pss_cons (ps_set (i := 6) sc_l_tree.nd rfl (Or.inl rfl) (pe_c C_law_token_out hr (by first | decide | omega) pass0 (pa_cons (pv 0) (pa_cons (pv 1) (pa_cons (pv 5) pa_nil)))))
    (pss_one (ps_ret (pe_tup (pa_cons pe_str (pa_cons (pv 6) (pa_cons (pe_op op_add (pv 6) (pe_callB call_len_str (by rfl) T.len PySem.boot_len (pa_cons (pv 5) pa_nil))) (pa_cons (pv 5) pa_nil))))))))) pss_nil)
    (pss_cons (ps_if (pt_cmpR op_eq (pv 4) pe_int (nomark _)) (pss_one (ps_ret (pe_c C_law_call hr (by first | decide | omega) pass0 (pa_cons (pv 0) (pa_cons (pv 1) (pa_cons (pv 2) pa_nil)))))) pss_nil)
    (pss_cons (ps_if (pt_cmpR op_eq (pv 4) pe_int (nomark _)) (pss_one (ps_ret (pe_c C_law_reach hr (by first | decide | omega) pass0 (pa_cons (pv 0) (pa_cons (pv 1) (pa_cons (pv 2) pa_nil)))))) pss_nil)
    (C8.pss_cut (ps_if (PW.pt (pw_and (pt_cmpR op_eq (pv 4) pe_int (nomark _)) (pw_and1 (pt_cmpR op_lt (pv 3) pe_int (nomark _))))) (pss_one (ps_ret (pe_c C_law_prefix hr (by first | decide | omega) pass0 (pa_cons (pv 0) (pa_cons (pv 1) (pa_cons (pv 2) (pa_cons pe_str (pa_cons pe_str (pa_cons pe_int pa_nil))))))))) pss_nil)
    (C8.pss_cut (ps_if (PW.pt (pw_and (pt_cmpR op_eq (pv 4) pe_int (nomark _)) (pw_and1 (pt_cmpR op_lt (pv 3) pe_int (nomark _))))) (pss_one (ps_ret (pe_c C_law_prefix hr (by first | decide | omega) pass0 (pa_cons (pv 0) (pa_cons (pv 1) (pa_cons (pv 2) (pa_cons pe_str (pa_cons pe_str (pa_cons pe_int pa_nil))))))))) pss_nil)
    (C8.pss_cut (ps_if (PW.pt (pw_and (pt_cmpR op_lt (pv 4) pe_int (nomark _)) (pw_and1 (pt_cmpR op_lt (pv 3) pe_int (nomark _))))) (pss_one (ps_ret (pe_c C_law_binary hr (by first | decide | omega) pass0 (pa_cons (pv 0) (pa_cons (pv 1) (pa_cons (pv 2) (pa_cons (pv 3) pa_nil))))))) pss_nil)
    (pss_cons (ps_set (i := 6) sc_l_tree.nd rfl (Or.inl rfl) (pe_c C_law_token_out hr (by first | decide | omega) pass0 (pa_cons (pv 0) (pa_cons (pv 1) (pa_cons pe_str pa_nil)))))
    (pss_cons (ps_set (i := 7) sc_l_tree.nd rfl (Or.inl rfl) (pe_c C_law_tree hr (by first | decide | omega) pass0 (pa_cons (pv 0) (pa_cons (pv 1) (pa_cons (pe_op op_sub (pv 2) pe_int) (pa_cons pe_int pa_nil))))))
    (pss_cons (ps_set (i := 8) sc_l_tree.nd rfl (Or.inl rfl) (pe_op op_add (pe_c C_law_token_out hr (by first | decide | omega) pass0 (pa_cons (pv 0) (pa_cons (pv 1) (pa_cons pe_str pa_nil)))) pe_int))
    (pss_one (ps_ret (pe_tup (pa_cons pe_str (pa_cons (pv 6) (pa_cons (pv 8) (pa_cons (pv 7) pa_nil))))))))))))))))))), ?_⟩
  have hp := cntT_pos k
  refine ⟨fun v H1 => ∃ x : Nat, v = .int (x : Int) ∧ x < 14 ∧ (k = 0 → x < 4) ∧ Pn H1 t c o ws ∧ But2 t o H H1, ?_, ?_⟩
  · refine ⟨_, rfl, _, _, rfl, rfl, _, rfl, ?_⟩
    refine ite2 (fun h => ?_) (fun h => ?_)
    · have h0 : 0 < k := by have := of_decide_eq_true h; omega
      exact ⟨_, rfl, t, c, 14, rfl, P0.1, by decide, by decide, fun r H1 g0 g1 b1 T1 => ⟨r.toNat, by rw [Int.toNat_of_nonneg g0], by omega, fun e => by omega, P0.take b1 T1, But2.tape b1⟩⟩
    · exact ⟨_, rfl, t, c, 4, rfl, P0.1, by decide, by decide, fun r H1 g0 g1 b1 T1 => ⟨r.toNat, by rw [Int.toNat_of_nonneg g0], by omega, fun e => by omega, P0.take b1 T1, But2.tape b1⟩⟩
  rintro v H1 ⟨x, rfl, hx, hx0, P1, b1⟩
  have q1 : MkQ t c o ws (Pr k L) (cntT k) (2 * k + 1) H1 Q := fun H' nw tn v a1 a2 a3 a4 a5 a6 => q H' nw tn v a1 a2 a3 a4 a5 (b1.trans a6)
  have pos : 4 ≤ x → ∃ k', k = k' + 1 ∧ k' < n := fun h => ⟨k - 1, by have := hx0; omega, by have := hx0; omega⟩
  have dn : ∀ {a b : Nat}, (V.int (a : Int) = V.int (b : Int)) ↔ a = b := fun {a b} => ⟨fun e => by injection e with e; omega, fun e => by rw [e]⟩
  -- wide trees
  refine ⟨fun σ H2 => σ = [some (.ref t), some (.ref o), some (.int (k : Int)), some (.int (L : Int)), some (.int (x : Int)), none, none, none, none] ∧ H2 = H1 ∧ ¬ (L = 0 ∧ 10 < x), ?_, ?_⟩
  · refine ⟨_, rfl, rfl, _, rfl, ?_⟩
    refine ite2 (fun h => ?_) (fun h => ⟨rfl, rfl, fun e => h (decide_eq_true (by rw [e.1]; rfl))⟩)
    have h := of_decide_eq_true h
    have hL0 : L = 0 := by injection h with h; omega
    refine ⟨_, rfl, _, _, rfl, rfl, _, rfl, ?_⟩
    refine ite2 (fun h => ?_) (fun h => ⟨rfl, rfl, fun e => h (decide_eq_true (show (10 : Int) < (x : Int) by omega))⟩)
    have h : (10 : Int) < (x : Int) := of_decide_eq_true h
    obtain ⟨k', rfl, hk'⟩ := pos (by omega)
    subst hL0
    exact ⟨_, rfl, _, rfl, _, rfl, _, rfl, t, c, o, k', x, ws, rfl, hk', by omega, by omega, P1, hw, q1⟩
  rintro σ H2 ⟨rfl, rfl, hW⟩
  -- leaves
  refine ⟨_, rfl, _, _, rfl, rfl, _, rfl, ?_⟩
  refine ite2 (fun h => ?_) (fun h => ?_)
  · exact ⟨_, rfl, _, rfl, _, rfl, t, c, o, x, ws, rfl, P1, by omega, fun H' nw tn v a1 a2 a3 a4 a5 a6 => q1 H' nw tn v (pr_D k a1 hL) (by omega) (by omega) a4 a5 a6⟩
  have hx2 : 2 ≤ x := by
    by_cases h2 : 2 ≤ x
    · exact h2
    · exact absurd (decide_eq_true (show (x : Int) < 2 by omega)) h
  -- names
  refine ⟨_, rfl, _, _, rfl, rfl, _, rfl, ?_⟩
  refine ite2 (fun h => ?_) (fun h => ?_)
  · refine ⟨_, rfl, t, c, rfl, P1.1, fun y H3 m1 m2 m3 b3 T3 => ?_⟩
    have P3 := P1.take b3 T3
    refine ⟨_, rfl, _, rfl, _, rfl, t, c, o, y, ws, rfl, P3, m2, m3, by omega, fun wd H4 e4 P4 b4 => ?_⟩
    refine ⟨_, rfl, _, rfl, _, rfl, y, rfl, small (by rw [len_tl]; omega), _, _, rfl, rfl, _, rfl, by show 4 ≤ sizeLine; decide, fun q1' nq => ?_⟩
    have s7 := same_new (o := .tup [.str "name", .int (wd.2 : Int), .int ((wd.2 : Int) + (y.length : Int)), .str y]) nq
    have hy : strL wd.1 = y := by rw [e4, strL_tlP]
    refine q1 _ [wd] ⟨"name", wd.2, wd.2 + wd.1.length, [.str (strL wd.1)]⟩ _ (pr_D k (rdd_name (by rw [e4]; exact m1)) hL) (by show 1 ≤ _; omega) (by show 1 ≤ 2 * k + 1; omega) (Tn.mk_ (r := [.str y]) ?_ (.cons ?_ .nil) (by show 4 ≤ 1000000; decide)) (P4.same s7) ((But2.tape b3).trans (b4.trans (But2.of s7)))
    · rw [upd_same, e4]
      congr 1
    · rw [hy]; exact DT.str
  have hx4 : 4 ≤ x := by
    by_cases h2 : 4 ≤ x
    · exact h2
    · exact absurd (decide_eq_true (show (x : Int) < 4 by omega)) h
  obtain ⟨k', rfl, hk'⟩ := pos hx4
  have hL5 : L ≤ 5 := by omega
  have hc : cntT (k' + 1) = 3 * cntT k' + 5 := rfl
  -- calls
  refine ⟨_, rfl, rfl, _, rfl, ?_⟩
  refine ite2 (fun h => ?_) (fun h4 => ?_)
  · exact ⟨_, rfl, _, rfl, _, rfl, t, c, o, k', ws, rfl, hk', P1, hw, fun H' nw tn v a1 a2 a3 a4 a5 a6 => q1 H' nw tn v (pr_S a1 hL5) a2 a3 a4 a5 a6⟩
  -- fields
  refine ⟨_, rfl, rfl, _, rfl, ?_⟩
  refine ite2 (fun h => ?_) (fun h5 => ?_)
  · exact ⟨_, rfl, _, rfl, _, rfl, t, c, o, k', ws, rfl, hk', P1, hw, fun H' nw tn v a1 a2 a3 a4 a5 a6 => q1 H' nw tn v (pr_D _ a1 hL) a2 a3 a4 a5 a6⟩
  -- minus
  refine ⟨fun σ H3 => σ = [some (.ref t), some (.ref o), some (.int ((k' + 1 : Nat) : Int)), some (.int (L : Int)), some (.int (x : Int)), none, none, none, none] ∧ H3 = H2, ?_, ?_⟩
  · refine ⟨_, rfl, rfl, _, rfl, ?_⟩
    refine ite2 (fun h => ?_) (fun h => ⟨rfl, rfl⟩)
    refine ⟨_, rfl, _, _, rfl, rfl, _, rfl, ?_⟩
    refine ite2 (fun h => ?_) (fun h => ⟨rfl, rfl⟩)
    refine ⟨_, rfl, _, rfl, _, rfl, t, c, o, k', 5, "minus", "-", ws, rfl, hk', by decide, P1, hw, by decide +kernel, by decide +kernel, fun H' nw tn v a1 a2 a3 a4 a5 a6 => ?_⟩
    obtain ⟨wd, nw', t', e1, pr, rfl, rfl⟩ := a1
    exact q1 H' _ _ v (pr_S (rds_minus pr e1) hL5) a2 a3 a4 a5 a6
  rintro σ H3 ⟨rfl, rfl⟩
  -- not
  refine ⟨fun σ H4 => σ = [some (.ref t), some (.ref o), some (.int ((k' + 1 : Nat) : Int)), some (.int (L : Int)), some (.int (x : Int)), none, none, none, none] ∧ H4 = H3, ?_, ?_⟩
  · refine ⟨_, rfl, rfl, _, rfl, ?_⟩
    refine ite2 (fun h => ?_) (fun h => ⟨rfl, rfl⟩)
    refine ⟨_, rfl, _, _, rfl, rfl, _, rfl, ?_⟩
    refine ite2 (fun h => ?_) (fun h => ⟨rfl, rfl⟩)
    have hL2 : (L : Int) < 3 := of_decide_eq_true h
    refine ⟨_, rfl, _, rfl, _, rfl, t, c, o, k', 2, "not", "not", ws, rfl, hk', by decide, P1, hw, by decide +kernel, by decide +kernel, fun H' nw tn v a1 a2 a3 a4 a5 a6 => ?_⟩
    obtain ⟨wd, nw', t', e1, pr, rfl, rfl⟩ := a1
    obtain ⟨tp, _, pr⟩ := pr
    have hle := lvM_mono (show L ≤ 2 by omega)
    exact q1 H' _ _ v (pr_G (by omega) (rdg_not pr e1) (by omega) hle (by have : lvM 2 = 3 := rfl; omega)) a2 a3 a4 a5 a6
  rintro σ H4 ⟨rfl, rfl⟩
  -- binary
  refine ⟨fun σ H5 => σ = [some (.ref t), some (.ref o), some (.int ((k' + 1 : Nat) : Int)), some (.int (L : Int)), some (.int (x : Int)), none, none, none, none] ∧ H5 = H4, ?_, ?_⟩
  · refine ⟨_, rfl, _, _, rfl, rfl, _, rfl, ?_⟩
    refine ite2 (fun h => ?_) (fun h => ⟨rfl, rfl⟩)
    refine ⟨_, rfl, _, _, rfl, rfl, _, rfl, ?_⟩
    refine ite2 (fun h => ?_) (fun h => ⟨rfl, rfl⟩)
    have hL4 : (L : Int) < 5 := of_decide_eq_true h
    exact ⟨_, rfl, _, rfl, _, rfl, _, rfl, t, c, o, k', L, ws, rfl, hk', by omega, P1, hw, q1⟩
  rintro σ H5 ⟨rfl, rfl⟩
  -- groups
  refine ⟨_, rfl, _, rfl, t, c, o, "(", _, rfl, P1, by decide +kernel, by decide +kernel, by omega, fun w1 H6 e6 P6 b6 => ?_⟩
  refine ⟨_, rfl, _, rfl, _, rfl, _, _, rfl, rfl, t, c, o, k', 0, _, args4, hk', by omega, fun e => absurd e (by omega), P6, by rw [List.length_append, List.length_singleton]; omega, fun H7 nw tn v pr ln dp D7 P7 b7 => ?_⟩
  refine ⟨_, rfl, _, rfl, t, c, o, ")", _, rfl, P7, by decide +kernel, by decide +kernel, by rw [List.length_append, List.length_append, List.length_singleton]; omega, fun w2 H8 e8 P8 b8 => ⟨_, _, rfl, rfl, ?_⟩⟩
  have D8 := D7.keep (P7.tups b8)
  refine ⟨_, rfl, _, rfl, _, rfl, by show 4 ≤ sizeLine; decide, fun q2 nq => ?_⟩
  have hq1 : w2.1.length = 1 := by rw [e8]; decide +kernel
  have s9 := same_new (o := .tup [.str "group", .int (w1.2 : Int), .int ((w2.2 : Int) + 1), v]) nq
  have eqw : ws ++ [w1] ++ nw ++ [w2] = ws ++ (w1 :: (nw ++ [w2])) := by simp
  rw [eqw] at P8
  refine q1 _ _ ⟨"group", w1.2, w2.2 + w2.1.length, [tn.d]⟩ _ (pr_S (rds_group pr e6 e8) hL5) (by simp only [List.length_cons, List.length_append, List.length_nil]; omega) (dep_tn_le (m := 2 * (k' + 1)) fun d hd => ?_) (Tn.mk_ (r := [v]) ?_ (.cons (D8.keep fun _ _ h => s9 _ _ h) .nil) (by show 4 ≤ 1000000; decide)) (P8.same s9) (b6.trans (b7.trans (b8.trans (But2.of s9))))
  · have hd : d ∈ [tn.d] := hd
    rw [List.mem_singleton.mp hd]
    omega
  · rw [upd_same, hq1]
    congr 1
end

end Sn

namespace Sn
open PySem PySem.Spec PyProof.Rows L2 TL
/-! ### all of the law's printing, by how deep it goes -/
section
variable {P : Program} {w : World} {K : PySem.W.Frag} {mg : Str → Option Value} {base : Heap}
theorem trees_all (T : Nm mg) (C_law_take : Cal P w K mg base CX0 1 "_law_take" spTake) (C_law_some_name : Cal P w K mg base CX0 2 "_law_some_name" spName) (C_law_token_out : Cal P w K mg base CX0 3 "_law_token_out" spTok) (C_law_leaf : Cal P w K mg base CX0 4 "_law_leaf" spLeaf)
    (p_tree : PF K mg "_law_tree" s_l_tree ["tape", "out", "depth", "level"]) (p_call : PF K mg "_law_call" s_l_call ["tape", "out", "depth"]) (p_reach : PF K mg "_law_reach" s_l_reach ["tape", "out", "depth"])
    (p_prefix : PF K mg "_law_prefix" s_l_prefix ["tape", "out", "depth", "word", "sign", "level"]) (p_binary : PF K mg "_law_binary" s_l_binary ["tape", "out", "depth", "level"]) (p_wide : PF K mg "_law_wide" s_l_wide ["tape", "out", "depth", "choice"]) :
    ∀ n, Cal P w K mg base CX0 (4 + 2 * n) "_law_tree" (spTree n)
  | 0 => p_tree.cal fun f fd F => no_fn fun vs H Q E h => by
    obtain ⟨t, c, o, k, L, ws, _, hk, _⟩ := h
    exact absurd hk (Nat.not_lt_zero _)
  | n + 1 => by
    have C := trees_all T C_law_take C_law_some_name C_law_token_out C_law_leaf p_tree p_call p_reach p_prefix p_binary p_wide n
    have c1 := p_call.cal (P := P) (w := w) (base := base) fun f fd F => ok_l_call F T (j := 4 + 2 * n) (by omega) C_law_take C_law_some_name C_law_token_out C
    have c2 := p_reach.cal (P := P) (w := w) (base := base) fun f fd F => ok_l_reach F T (j := 4 + 2 * n) (by omega) C_law_take C_law_some_name C_law_token_out C
    have c3 := p_prefix.cal (P := P) (w := w) (base := base) fun f fd F => ok_l_prefix F T (j := 4 + 2 * n) (by omega) C_law_token_out C
    have c4 := p_binary.cal (P := P) (w := w) (base := base) fun f fd F => ok_l_binary F T (j := 4 + 2 * n) (by omega) C_law_take C_law_token_out C
    have c5 := p_wide.cal (P := P) (w := w) (base := base) fun f fd F => ok_l_wide F T (j := 4 + 2 * n) (by omega) C_law_some_name C_law_token_out C
    exact p_tree.cal fun f fd F => ok_l_tree F T (j := 4 + 2 * n) (by omega) C_law_take C_law_some_name C_law_token_out C_law_leaf c1 c2 c3 c4 c5 C
end

end Sn

namespace Sn
open PySem PySem.Spec PyProof.Rows L2 TL
/-! ### the printer -/
def spBare : Sp := fun vs H Q _ => ∃ (n : Nd) (a : V), vs = [a] ∧ n.ok ∧ DT H n.t.d a ∧ ∀ (m : Nd) v, m.ok → m.sh = n.sh → m.grp = false → m.ht ≤ n.ht → DT H m.t.d v → Q v H
theorem Nd.tag_t {tag : Str} {call : Bool} {s e : Nat} {pre post : List D} {kids : Ns} : (Nd.nd tag call s e pre post kids).t.tag = tag := by rw [Nd.t_nd]
theorem Nd.group_inv {n : Nd} (ok : n.ok) : n.t.tag = "group" → ∃ a : Nd, a.ok ∧ a.sh = n.sh ∧ a.ht < n.ht ∧ n.t.rest = [a.t.d] := by
  have no : ∀ (x : Str) {Q : Prop}, x ≠ "group" → x = "group" → Q := fun x Q h e => absurd e h
  refine Nd.cases_ (P := fun n => n.t.tag = "group" → ∃ a : Nd, a.ok ∧ a.sh = n.sh ∧ a.ht < n.ht ∧ n.t.rest = [a.t.d]) n ok ?_ ?_ ?_ ?_ ?_ ?_ ?_ ?_ ?_ ?_ ?_ ?_
  · exact fun s e v h => no "number" (by decide +kernel) (by rw [Nd.tag_t] at h; exact h)
  · exact fun s e v h => no "truth" (by decide +kernel) (by rw [Nd.tag_t] at h; exact h)
  · exact fun s e v h => no "name" (by decide +kernel) (by rw [Nd.tag_t] at h; exact h)
  · exact fun s e v ks o h => no "call" (by decide +kernel) (by rw [Nd.tag_t] at h; exact h)
  · exact fun s e v a o h => no "field" (by decide +kernel) (by rw [Nd.tag_t] at h; exact h)
  · intro s e a o h
    exact ⟨a, o, sh_grp.symm, by rw [Nd.ht_nd, ht1]; omega, by rw [nd_t, (nk1_all a).1]; rfl⟩
  · exact fun s e a o h => no "not" (by decide +kernel) (by rw [Nd.tag_t] at h; exact h)
  · exact fun s e a o h => no "minus" (by decide +kernel) (by rw [Nd.tag_t] at h; exact h)
  · exact fun s e v a b _ _ _ h => no "binary" (by decide +kernel) (by rw [Nd.tag_t] at h; exact h)
  · exact fun s e a b c _ _ _ h => no "if" (by decide +kernel) (by rw [Nd.tag_t] at h; exact h)
  · exact fun s e v i a b _ _ h => no "let" (by decide +kernel) (by rw [Nd.tag_t] at h; exact h)
  · exact fun s e v i a b c _ _ _ h => no "loop" (by decide +kernel) (by rw [Nd.tag_t] at h; exact h)
theorem Nd.not_group {n : Nd} (h : n.t.tag ≠ "group") : n.grp = false := by
  obtain ⟨tag, call, s, e, pre, post, kids⟩ := n
  rw [Nd.tag_t] at h
  exact decide_eq_false h
section
variable {P : Program} {w : World} {K : PySem.W.Frag} {mg : Str → Option Value} {base : Heap} {f : Addr} {fd : FuncData}
abbrev s_bareF : Stmt := topS 33
abbrev N_bareF : List Str := ["tree"]
theorem sc_bareF : FnScope N_bareF ["tree"] (defScope s_bareF) := ⟨rfl, rfl, rfl, by decide +kernel, rfl, by decide +kernel, by decide +kernel⟩
theorem ok_bare (F : Fun K "bare" "bare" s_bareF f fd) (T : Nm mg) : FnOk P w K mg base CX0 1 f fd ["tree"] spBare := by
  refine F.ok sc_bareF (fun vs H Q E h => ?_) (fun cdv A outer s H vs Q E hr h => ?_)
  · obtain ⟨n, a, rfl, _⟩ := h
    rfl
  obtain ⟨n, a, rfl, on, dn, q⟩ := h
  refine ⟨_, (pss_cons (ps_while PassesOwn.never (pt_cmpR op_eq (pe_ix (r := rIxT K) ix_tup (pv 0) pe_int (fun _ _ => rfl)) pe_str (nomark _)) (pss_one (ps_set (i := 0) sc_bareF.nd rfl (Or.inl rfl) (pe_ix (r := rIxT K) ix_tup (pv 0) pe_int (fun _ _ => rfl)))))
    (pss_one (ps_ret (pv 0)))), ?_⟩
  refine ⟨fun m σ H' => H' = H ∧ ∃ (n' : Nd) (v : V), m = n'.ht ∧ σ = [some v] ∧ n'.ok ∧ n'.sh = n.sh ∧ n'.ht ≤ n.ht ∧ DT H n'.t.d v, ⟨_, rfl, n, a, rfl, rfl, on, rfl, Nat.le_refl _, dn⟩, fun m σ H' h => ?_⟩
  obtain ⟨rfl, n', v, rfl, rfl, o', s', l', d'⟩ := h
  obtain ⟨p, r, rfl, hp, dr, lr⟩ := Tn.at_ d'
  refine ⟨_, rfl, p, _, 0, _, rfl, rfl, SqT.of hp, at_of (show (0 : Int) = ((0 : Nat) : Int) from rfl) rfl, rfl, ?_⟩
  refine ⟨_, rfl, ?_⟩
  by_cases hg : n'.t.tag = "group"
  · rw [decide_eq_true (by rw [hg])]
    refine iteT ?_
    obtain ⟨b, ob, sb, hb, eb⟩ := Nd.group_inv o' hg
    rw [eb] at dr
    obtain ⟨v, r2, rfl, dv, dr2⟩ : ∃ v r2, r = v :: r2 ∧ DT H' b.t.d v ∧ DTs H' (ofL []) r2 := by
      have dr : DTs H' (.cons b.t.d (ofL [])) r := dr
      unfold DTs at dr
      exact dr
    refine ⟨fun σ' H2 => H2 = H' ∧ σ' = [some v], fun σ' H2 h => ?_, ?_⟩
    · obtain ⟨rfl, rfl⟩ := h
      exact ⟨b.ht, hb, rfl, b, v, rfl, rfl, ob, by rw [sb, s'], by omega, dv⟩
    · exact ⟨_, rfl, p, _, 3, _, rfl, rfl, SqT.of hp, at_of (show (3 : Int) = ((3 : Nat) : Int) from rfl) rfl, rfl, rfl⟩
  · rw [decide_eq_false (fun e => hg (V.str.inj e))]
    refine iteF ?_
    exact ⟨_, rfl, q n' _ o' s' (Nd.not_group hg) l' d'⟩
end

end Sn

namespace Sn
open PySem PySem.Spec PyProof.Rows L2 TL
/-! ### trees: what is inside, walks, shapes -/
theorem DTs.app_inv {H : Hp} : ∀ (x y : List D) (vs : List V), DTs H (ofL (x ++ y)) vs → ∃ v1 v2, vs = v1 ++ v2 ∧ DTs H (ofL x) v1 ∧ DTs H (ofL y) v2
  | [], y, vs, h => ⟨[], vs, rfl, DTs.nil, h⟩
  | a :: r, y, vs, h => by
    have h : DTs H (.cons a (ofL (r ++ y))) vs := h
    unfold DTs at h
    obtain ⟨v, q, rfl, h1, h2⟩ := h
    obtain ⟨v1, v2, rfl, h3, h4⟩ := DTs.app_inv r y q h2
    exact ⟨v :: v1, v2, rfl, .cons h1 h3, h4⟩
theorem DTs.app_mk {H : Hp} : ∀ (x y : List D) (v1 v2 : List V), DTs H (ofL x) v1 → DTs H (ofL y) v2 → DTs H (ofL (x ++ y)) (v1 ++ v2)
  | [], y, vs, v2, h, g => by
    unfold ofL DTs at h
    subst h
    exact g
  | a :: r, y, vs, v2, h, g => by
    have h : DTs H (.cons a (ofL r)) vs := h
    unfold DTs at h
    obtain ⟨v, q, rfl, h1, h2⟩ := h
    exact .cons h1 (DTs.app_mk r y q v2 h2 g)
theorem DTs.rev {H : Hp} : ∀ (x : List D) (vs : List V), DTs H (ofL x) vs → DTs H (ofL x.reverse) vs.reverse
  | [], vs, h => by
    unfold ofL DTs at h
    subst h
    exact DTs.nil
  | a :: r, vs, h => by
    have h : DTs H (.cons a (ofL r)) vs := h
    unfold DTs at h
    obtain ⟨v, q, rfl, h1, h2⟩ := h
    rw [List.reverse_cons, List.reverse_cons]
    exact DTs.snoc h1 _ _ (DTs.rev r q h2)
theorem DTs.get {H : Hp} : ∀ {x : List D} {vs : List V} {i : Nat} {d : D} {v : V}, DTs H (ofL x) vs → x[i]? = some d → vs[i]? = some v → DT H d v
  | [], vs, i, d, v, h, h1, h2 => by simp at h1
  | a :: r, vs, i, d, v, h, h1, h2 => by
    have h : DTs H (.cons a (ofL r)) vs := h
    unfold DTs at h
    obtain ⟨u, q, rfl, k1, k2⟩ := h
    cases i with
    | zero =>
      have e1 : a = d := by simpa using h1
      have e2 : u = v := by simpa using h2
      subst e1 e2
      exact k1
    | succ i => exact DTs.get k2 (by simpa using h1) (by simpa using h2)
theorem DTs.take {H : Hp} {x : List D} {vs : List V} (h : DTs H (ofL x) vs) (i : Nat) : DTs H (ofL (x.take i)) (vs.take i) := by
  have e := DTs.len _ _ h
  rw [← List.take_append_drop i x] at h
  obtain ⟨v1, v2, rfl, h1, h2⟩ := DTs.app_inv _ _ _ h
  have e1 := DTs.len _ _ h1
  have e2 : (v1 ++ v2).take i = v1 := by
    rw [List.length_take] at e1
    by_cases hi : i ≤ x.length
    · rw [List.take_left']
      omega
    · have h0 : v2 = [] := by
        have := DTs.len _ _ h2
        rw [List.length_drop] at this
        exact List.length_eq_zero_iff.mp (by omega)
      rw [h0, List.append_nil]
      exact List.take_of_length_le (by omega)
  rw [e2]
  exact h1
/-- objects that are as they were but for one new list -/
theorem same_upd {H H' : Hp} {D : Addr} {o : HO} (s : Same H H') (h : H D = none) : Same H (upd H' D o) := fun b u e => by
  rw [upd_ne (ne_of_none e h)]
  exact s _ _ e
theorem tups_upd {H : Hp} {D : Addr} {xs : List V} {o : HO} (h : H D = some (.lst xs)) : Tups H (upd H D o) := fun a us e => by
  rw [upd_ne (fun z => by rw [z, h] at e; cases e)]
  exact e
theorem Tups.of {H H' : Hp} (s : Same H H') : Tups H H' := fun _ _ e => s _ _ e
def Nd.ks : Nd → Ns
  | .nd _ _ _ _ _ _ ks => ks
def Nd.tag : Nd → Str
  | .nd tag _ _ _ _ _ _ => tag
def Nd.s : Nd → Nat
  | .nd _ _ s _ _ _ _ => s
def Nd.e : Nd → Nat
  | .nd _ _ _ e _ _ _ => e
/-- a list of trees -/
def TL_ (H : Hp) (l : List Nd) (vs : List V) : Prop := DTs H (ofL (l.map fun n => n.t.d)) vs
theorem Ns.ds_l : ∀ ns : Ns, ns.ds = ns.l.map fun n => n.t.d
  | .nil => by rw [Ns.ds_nil]; rfl
  | .cons h t => by rw [Ns.ds_cons, Ns.ds_l t]; rfl
theorem Ns.len_l : ∀ ns : Ns, ns.l.length = ns.len
  | .nil => rfl
  | .cons h t => by show t.l.length + 1 = t.len + 1; rw [Ns.len_l t]
theorem Ns.ok_l : ∀ {ns : Ns}, ns.ok → ∀ n ∈ ns.l, n.ok
  | .nil, _, n, h => by cases h
  | .cons a t, k, n, h => by
    have k := Ns.ok_cons.mp k
    rcases List.mem_cons.mp h with rfl | h
    · exact k.1
    · exact Ns.ok_l k.2 n h
theorem Ns.cnt_l : ∀ ns : Ns, ns.cnt = (ns.l.map Nd.cnt).sum
  | .nil => by rw [Ns.cnt_nil]; rfl
  | .cons a t => by rw [Ns.cnt_cons, Ns.cnt_l t]; rfl
theorem Ns.ht_l : ∀ {ns : Ns}, ∀ n ∈ ns.l, n.ht ≤ ns.ht
  | .nil, n, h => by cases h
  | .cons a t, n, h => by
    rw [Ns.ht_cons]
    rcases List.mem_cons.mp h with rfl | h
    · omega
    · have := Ns.ht_l n h
      omega
theorem Nd.ht_ks (n : Nd) : n.ht = n.ks.ht + 1 := by cases n; rw [Nd.ht_nd]; rfl
theorem Nd.cnt_ks (n : Nd) : n.cnt = n.ks.cnt + 1 := by cases n; rw [Nd.cnt_nd]; rfl
theorem Nd.ok_ks {n : Nd} (h : n.ok) : n.ks.ok := by cases n; exact (Nd.ok_nd.mp h).2
/-- a tree's tuple, and where the trees inside stand -/
theorem Nd.at_ {H : Hp} {n : Nd} {v : V} (hn : n.ok) (h : DT H n.t.d v) : ∃ a r, v = .ref a ∧ H a = some (.tup (.str n.tag :: .int (n.s : Int) :: .int (n.e : Int) :: r)) ∧ r.length + 3 ≤ 1000000 ∧
    ((n.tag = "call" ∧ ∃ x b us, r = [.str x, .ref b] ∧ H b = some (.tup us) ∧ TL_ H n.ks.l us ∧ us.length ≤ 1000000) ∨
     (n.tag ≠ "call" ∧ ∃ pre post r1 us r2, Fm n.tag false pre post n.ks.len ∧ r = r1 ++ (us ++ r2) ∧ DTs H (ofL pre) r1 ∧ TL_ H n.ks.l us ∧ DTs H (ofL post) r2)) := by
  obtain ⟨a, r, rfl, h1, h2, h3⟩ := Tn.at_ h
  cases n with
  | nd tag call s e pre post ks =>
    have f := (Nd.ok_nd.mp hn).1
    rw [Nd.t_nd] at h1 h2
    refine ⟨a, r, rfl, h1, h3, ?_⟩
    have h2 : DTs H (ofL (pre ++ ((if call = true then [.tup (ofL ks.ds)] else ks.ds) ++ post))) r := h2
    cases call with
    | true =>
      left
      have f : (tag = "call" ∧ (∃ v, pre = [.str v]) ∧ post = []) := by
        rcases f with f | f | f | f | f | f | f | f | f | f | f | f
        all_goals first | exact ⟨f.1, f.2.2.1, f.2.2.2⟩ | exact absurd f.2.1 (by decide)
      obtain ⟨rfl, ⟨x, rfl⟩, rfl⟩ := f
      have h2 : DTs H (.cons (.str x) (.cons (.tup (ofL ks.ds)) .nil)) r := h2
      unfold DTs DTs DTs at h2
      obtain ⟨v1, r1, rfl, k1, v2, r2, rfl, k2, rfl⟩ := h2
      unfold DT at k1 k2
      obtain ⟨b, us, rfl, hb, hl, hd⟩ := k2
      subst k1
      rw [Ns.ds_l] at hd
      exact ⟨rfl, x, b, us, rfl, hb, hd, hl⟩
    | false =>
      right
      have ht : tag ≠ "call" := by
        rcases f with f | f | f | f | f | f | f | f | f | f | f | f
        all_goals first | (rw [f.1]; decide +kernel) | exact absurd f.2.1 (by decide)
      refine ⟨ht, pre, post, ?_⟩
      have h2 : DTs H (ofL (pre ++ (ks.ds ++ post))) r := h2
      obtain ⟨r1, r', rfl, g1, g2⟩ := DTs.app_inv _ _ _ h2
      obtain ⟨us, r2, rfl, g3, g4⟩ := DTs.app_inv _ _ _ g2
      rw [Ns.ds_l] at g3
      exact ⟨r1, us, r2, f, rfl, g1, g3, g4⟩
/-! ### walks -/
mutual
def Nd.flat : Nd → List Nd
  | .nd tag call s e pre post ks => .nd tag call s e pre post ks :: ks.flat
def Ns.flat : Ns → List Nd
  | .nil => []
  | .cons h t => h.flat ++ t.flat
end
theorem Nd.flat_ks (n : Nd) : n.flat = n :: n.ks.flat := by cases n; rw [Nd.flat]; rfl
theorem Ns.flat_nil : Ns.nil.flat = [] := by rw [Ns.flat]
theorem Ns.flat_cons (h : Nd) (t : Ns) : (Ns.cons h t).flat = h.flat ++ t.flat := by rw [Ns.flat]
def flatL (l : List Nd) : List Nd := l.flatMap Nd.flat
theorem flatL_cons (n : Nd) (r : List Nd) : flatL (n :: r) = n.flat ++ flatL r := rfl
theorem flatL_app (a b : List Nd) : flatL (a ++ b) = flatL a ++ flatL b := List.flatMap_append
theorem Ns.flat_l : ∀ ns : Ns, ns.flat = flatL ns.l
  | .nil => by rw [Ns.flat_nil]; rfl
  | .cons h t => by rw [Ns.flat_cons, Ns.flat_l t]; rfl
mutual
theorem Nd.flat_cnt : ∀ n : Nd, n.flat.length = n.cnt
  | .nd tag call s e pre post ks => by
    rw [Nd.flat_ks, List.length_cons, Nd.cnt_nd]
    show ks.flat.length + 1 = _
    rw [Ns.flat_cnt ks]
theorem Ns.flat_cnt : ∀ ns : Ns, ns.flat.length = ns.cnt
  | .nil => by rw [Ns.flat_nil, Ns.cnt_nil]; rfl
  | .cons h t => by rw [Ns.flat_cons, List.length_append, Nd.flat_cnt h, Ns.flat_cnt t, Ns.cnt_cons]
end
mutual
theorem Nd.flat_ok : ∀ (n : Nd), n.ok → ∀ m ∈ n.flat, m.ok ∧ m.cnt ≤ n.cnt ∧ m.ht ≤ n.ht
  | .nd tag call s e pre post ks, h, m, hm => by
    rw [Nd.flat_ks] at hm
    rcases List.mem_cons.mp hm with rfl | hm
    · exact ⟨h, Nat.le_refl _, Nat.le_refl _⟩
    · have := Ns.flat_ok ks (Nd.ok_nd.mp h).2 m hm
      rw [Nd.cnt_nd, Nd.ht_nd]
      exact ⟨this.1, by omega, by omega⟩
theorem Ns.flat_ok : ∀ (ns : Ns), ns.ok → ∀ m ∈ ns.flat, m.ok ∧ m.cnt ≤ ns.cnt ∧ m.ht ≤ ns.ht
  | .nil, _, m, hm => by rw [Ns.flat_nil] at hm; cases hm
  | .cons a t, h, m, hm => by
    rw [Ns.flat_cons] at hm
    have h := Ns.ok_cons.mp h
    rw [Ns.cnt_cons, Ns.ht_cons]
    rcases List.mem_append.mp hm with hm | hm
    · have := Nd.flat_ok a h.1 m hm
      exact ⟨this.1, by omega, by omega⟩
    · have := Ns.flat_ok t h.2 m hm
      exact ⟨this.1, by omega, by omega⟩
end

end Sn

namespace Sn
open PySem PySem.Spec PyProof.Rows L2 TL
/-! ### the dict of where trees stand inside -/
abbrev inE (P : Params) (k0 k1 k2 k3 k4 k5 k6 k7 k8 k9 k10 : PySem.Tok) (p0 p1 p2 p3 p4 p5 p6 p7 p8 p9 p10 : Addr) : Array DictEntry :=
  #[⟨PyData.keyHash P "number", .str "number" k0, .ref p0⟩, ⟨PyData.keyHash P "truth", .str "truth" k1, .ref p1⟩, ⟨PyData.keyHash P "name", .str "name" k2, .ref p2⟩, ⟨PyData.keyHash P "field", .str "field" k3, .ref p3⟩,
    ⟨PyData.keyHash P "group", .str "group" k4, .ref p4⟩, ⟨PyData.keyHash P "not", .str "not" k5, .ref p5⟩, ⟨PyData.keyHash P "minus", .str "minus" k6, .ref p6⟩, ⟨PyData.keyHash P "binary", .str "binary" k7, .ref p7⟩,
    ⟨PyData.keyHash P "if", .str "if" k8, .ref p8⟩, ⟨PyData.keyHash P "let", .str "let" k9, .ref p9⟩, ⟨PyData.keyHash P "loop", .str "loop" k10, .ref p10⟩]
/-- a written pair -/
def WP (K : PySem.W.Frag) (p : Addr) (a b : Nat) : Prop := ∀ H : Hp, SqT K H p [.int (a : Int), .int (b : Int)]
theorem WP.of {K : PySem.W.Frag} {p : Addr} {od : Option Addr} {t u : PySem.Tok} {n : Nat} {sl : Array (Option Value)} {a b : Nat} (h : K.lookup p = some ⟨.type "tuple", od, .seq #[.int (a : Int) t, .int (b : Int) u] n, sl⟩) : WP K p a b :=
  fun H => .inr ⟨_, _, _, h, rfl, rfl, (by show 2 ≤ sizeLine; decide), .cons ⟨_, rfl⟩ (.cons ⟨_, rfl⟩ .nil)⟩
def InD (K : PySem.W.Frag) (w : World) (aN : Addr) : Prop := ∀ {tag : Str} {pre post : List D} {n : Nat}, Fm tag false pre post n → ∃ (p : Addr) (a b : Nat), KDct K w aN tag (.ref p) ∧ WP K p a b ∧ 3 ≤ a ∧ b = a + n ∧ (n = 0 ∨ a = 3 + pre.length)
section
variable {K : PySem.W.Frag} {w : World} {aN : Addr} {nN : Nat} {k0 k1 k2 k3 k4 k5 k6 k7 k8 k9 k10 : PySem.Tok} {p0 p1 p2 p3 p4 p5 p6 p7 p8 p9 p10 : Addr}
theorem in_lit : PySem.W.KeysLit w.params (inE w.params k0 k1 k2 k3 k4 k5 k6 k7 k8 k9 k10 p0 p1 p2 p3 p4 p5 p6 p7 p8 p9 p10).toList :=
  ⟨⟨_, _, rfl, rfl⟩, ⟨_, _, rfl, rfl⟩, ⟨_, _, rfl, rfl⟩, ⟨_, _, rfl, rfl⟩, ⟨_, _, rfl, rfl⟩, ⟨_, _, rfl, rfl⟩, ⟨_, _, rfl, rfl⟩, ⟨_, _, rfl, rfl⟩, ⟨_, _, rfl, rfl⟩, ⟨_, _, rfl, rfl⟩, ⟨_, _, rfl, rfl⟩, trivial⟩
theorem in_all (h : K.lookup aN = some ⟨.type "dict", none, .dict (inE w.params k0 k1 k2 k3 k4 k5 k6 k7 k8 k9 k10 p0 p1 p2 p3 p4 p5 p6 p7 p8 p9 p10) nN, #[]⟩) (w0 : WP K p0 3 3) (w1 : WP K p1 3 3) (w2 : WP K p2 3 3) (w3 : WP K p3 3 4) (w4 : WP K p4 3 4) (w5 : WP K p5 3 4) (w6 : WP K p6 3 4) (w7 : WP K p7 4 6) (w8 : WP K p8 3 6) (w9 : WP K p9 5 7) (w10 : WP K p10 5 8) : InD K w aN := by
  have g : ∀ (x : Str) (p : Addr), PySem.W.nsIn K aN x = some (some (.ref p)) → KDct K w aN x (.ref p) := fun x p e => ⟨_, _, _, h, in_lit, e, rfl⟩
  have ns : ∀ (x : Str) (e : DictEntry), (inE w.params k0 k1 k2 k3 k4 k5 k6 k7 k8 k9 k10 p0 p1 p2 p3 p4 p5 p6 p7 p8 p9 p10).toList.find? (fun e => e.key.isStr x) = some e → PySem.W.nsIn K aN x = some (some e.val) := fun x e he => by
    unfold PySem.W.nsIn
    rw [h]
    show (match (inE w.params k0 k1 k2 k3 k4 k5 k6 k7 k8 k9 k10 p0 p1 p2 p3 p4 p5 p6 p7 p8 p9 p10).toList.find? (fun e => e.key.isStr x) with
      | some e => some (some e.val)
      | none => _) = _
    rw [he]
  intro tag pre post n f
  rcases f with f | f | f | f | f | f | f | f | f | f | f | f
  · obtain ⟨rfl, _, ⟨v, rfl⟩, rfl, rfl⟩ := f
    exact ⟨p0, 3, 3, g _ _ (ns "number" ⟨PyData.keyHash w.params "number", .str "number" k0, .ref p0⟩ rfl), w0, Nat.le_refl _, rfl, .inl rfl⟩
  · obtain ⟨rfl, _, ⟨v, rfl⟩, rfl, rfl⟩ := f
    exact ⟨p1, 3, 3, g _ _ (ns "truth" ⟨PyData.keyHash w.params "truth", .str "truth" k1, .ref p1⟩ rfl), w1, Nat.le_refl _, rfl, .inl rfl⟩
  · obtain ⟨rfl, _, ⟨v, rfl⟩, rfl, rfl⟩ := f
    exact ⟨p2, 3, 3, g _ _ (ns "name" ⟨PyData.keyHash w.params "name", .str "name" k2, .ref p2⟩ rfl), w2, Nat.le_refl _, rfl, .inl rfl⟩
  · exact absurd f.2.1 (by decide)
  · obtain ⟨rfl, _, rfl, ⟨v, rfl⟩, rfl⟩ := f
    exact ⟨p3, 3, 4, g _ _ (ns "field" ⟨PyData.keyHash w.params "field", .str "field" k3, .ref p3⟩ rfl), w3, Nat.le_refl _, rfl, .inr rfl⟩
  · obtain ⟨rfl, _, rfl, rfl, rfl⟩ := f
    exact ⟨p4, 3, 4, g _ _ (ns "group" ⟨PyData.keyHash w.params "group", .str "group" k4, .ref p4⟩ rfl), w4, Nat.le_refl _, rfl, .inr rfl⟩
  · obtain ⟨rfl, _, rfl, rfl, rfl⟩ := f
    exact ⟨p5, 3, 4, g _ _ (ns "not" ⟨PyData.keyHash w.params "not", .str "not" k5, .ref p5⟩ rfl), w5, Nat.le_refl _, rfl, .inr rfl⟩
  · obtain ⟨rfl, _, rfl, rfl, rfl⟩ := f
    exact ⟨p6, 3, 4, g _ _ (ns "minus" ⟨PyData.keyHash w.params "minus", .str "minus" k6, .ref p6⟩ rfl), w6, Nat.le_refl _, rfl, .inr rfl⟩
  · obtain ⟨rfl, _, ⟨v, rfl, _⟩, rfl, rfl⟩ := f
    exact ⟨p7, 4, 6, g _ _ (ns "binary" ⟨PyData.keyHash w.params "binary", .str "binary" k7, .ref p7⟩ rfl), w7, by decide, rfl, .inr rfl⟩
  · obtain ⟨rfl, _, rfl, rfl, rfl⟩ := f
    exact ⟨p8, 3, 6, g _ _ (ns "if" ⟨PyData.keyHash w.params "if", .str "if" k8, .ref p8⟩ rfl), w8, Nat.le_refl _, rfl, .inr rfl⟩
  · obtain ⟨rfl, _, ⟨v, i, rfl⟩, rfl, rfl⟩ := f
    exact ⟨p9, 5, 7, g _ _ (ns "let" ⟨PyData.keyHash w.params "let", .str "let" k9, .ref p9⟩ rfl), w9, by decide, rfl, .inr rfl⟩
  · obtain ⟨rfl, _, ⟨v, i, rfl⟩, rfl, rfl⟩ := f
    exact ⟨p10, 5, 8, g _ _ (ns "loop" ⟨PyData.keyHash w.params "loop", .str "loop" k10, .ref p10⟩ rfl), w10, by decide, rfl, .inr rfl⟩
end
/-- the part of a tuple in which the trees stand -/
theorem cut_kids {H : Hp} {x y z : V} {pre : List D} {r1 us r2 : List V} {l : List Nd} {a b n : Nat} (h1 : DTs H (ofL pre) r1) (hu : TL_ H l us) (hl : l.length = n) (ha : 3 ≤ a) (hb : b = a + n) (h : n = 0 ∨ a = 3 + pre.length) :
    cutV (x :: y :: z :: (r1 ++ (us ++ r2))) (some (a : Int)) (some (b : Int)) = us := by
  have e1 := DTs.len _ _ h1
  have e2 := DTs.len _ _ hu
  rw [List.length_map, hl] at e2
  unfold cutV
  rw [HT.sIx_nat, HT.sIx_nat]
  rcases h with h | h
  · subst h
    have e0 : us = [] := List.length_eq_zero_iff.mp e2
    rw [hb, Nat.add_zero, Nat.sub_self, List.take_zero, e0]
  · have el : (x :: y :: z :: (r1 ++ (us ++ r2))).length = 3 + pre.length + n + r2.length := by simp only [List.length_cons, List.length_append]; omega
    rw [el, h, hb, h, Nat.min_eq_left (by omega), Nat.min_eq_left (by omega)]
    have e3 : (x :: y :: z :: (r1 ++ (us ++ r2))).drop (3 + pre.length) = us ++ r2 := by
      rw [show x :: y :: z :: (r1 ++ (us ++ r2)) = (x :: y :: z :: r1) ++ (us ++ r2) from rfl, List.drop_left']
      simp only [List.length_cons]
      omega
    rw [e3, show 3 + pre.length + n - (3 + pre.length) = n by omega, List.take_left']
    exact e2

end Sn

namespace Sn
open PySem PySem.Spec PyProof.Rows L2 TL
/-! ### the program's trees -/
structure NmT (K : PySem.W.Frag) (w : World) (mg : Str → Option Value) (aN : Addr) : Prop extends Nm mg where
  g_INSIDE : mg "INSIDE" = some (.ref aN)
  ind : InD K w aN
def spKids : Sp := fun vs H Q _ => ∃ (n : Nd) (v : V), vs = [v] ∧ n.ok ∧ n.cnt ≤ 1000 ∧ DT H n.t.d v ∧ ∀ p us H', Same H H' → H p = none → H' p = some (.lst us) → TL_ H' n.ks.l us → Q (.ref p) H'
def spNodes : Sp := fun vs H Q _ => ∃ (n : Nd) (v : V), vs = [v] ∧ n.ok ∧ n.cnt ≤ 1000 ∧ DT H n.t.d v ∧ ∀ p us H', Same H H' → H p = none → H' p = some (.lst us) → TL_ H' n.flat us → Q (.ref p) H'
theorem TL_.keep {H H' : Hp} (s : Tups H H') {l : List Nd} {vs : List V} (h : TL_ H l vs) : TL_ H' l vs := DTs.keep s _ _ h
theorem TL_.len {H : Hp} {l : List Nd} {vs : List V} (h : TL_ H l vs) : vs.length = l.length := by
  have := DTs.len _ _ h
  rw [List.length_map] at this
  exact this
theorem TL_.get {H : Hp} {l : List Nd} {vs : List V} {i : Nat} {n : Nd} {v : V} (h : TL_ H l vs) (h1 : l[i]? = some n) (h2 : vs[i]? = some v) : DT H n.t.d v := DTs.get h (by rw [List.getElem?_map, h1]; rfl) h2
theorem TL_.app {H : Hp} {a b : List Nd} {x y : List V} (h : TL_ H a x) (g : TL_ H b y) : TL_ H (a ++ b) (x ++ y) := by
  unfold TL_
  rw [List.map_append]
  exact DTs.app_mk _ _ _ _ h g
theorem TL_.one {H : Hp} {n : Nd} {v : V} (h : DT H n.t.d v) : TL_ H [n] [v] := DTs.cons h DTs.nil
theorem TL_.nil {H : Hp} : TL_ H [] [] := DTs.nil
theorem TL_.rev {H : Hp} {a : List Nd} {x : List V} (h : TL_ H a x) : TL_ H a.reverse x.reverse := by
  unfold TL_
  rw [List.map_reverse]
  exact DTs.rev _ _ h
theorem TL_.cons_inv {H : Hp} {n : Nd} {a : List Nd} {x : List V} (h : TL_ H (n :: a) x) : ∃ v r, x = v :: r ∧ DT H n.t.d v ∧ TL_ H a r := by
  have h : DTs H (.cons n.t.d (ofL (a.map fun n => n.t.d))) x := h
  unfold DTs at h
  exact h
theorem cut3 {x y z : V} {r : List V} : cutV (x :: y :: z :: r) (some 3) none = r := by
  unfold cutV
  have e : HT.sIx (x :: y :: z :: r).length 0 (some 3) = 3 := by
    rw [show (3 : Int) = ((3 : Nat) : Int) from rfl, HT.sIx_nat]
    simp only [List.length_cons]
    omega
  rw [e, HT.sIx_none]
  show (List.take _ r) = r
  exact List.take_of_length_le (by simp only [List.length_cons]; omega)
theorem flatL_len : ∀ l : List Nd, l.length ≤ (flatL l).length
  | [] => Nat.zero_le _
  | a :: b => by
    rw [flatL_cons, List.length_append, List.length_cons, Nd.flat_cnt]
    have := Nd.cnt_ks a
    have := flatL_len b
    omega
theorem at0 {a : V} {r : List V} : atI (a :: r) 0 = some a := at_of (show (0 : Int) = ((0 : Nat) : Int) from rfl) rfl
theorem at1 {a b : V} {r : List V} : atI (a :: b :: r) 1 = some b := at_of (show (1 : Int) = ((1 : Nat) : Int) from rfl) rfl
theorem at2 {a b c : V} {r : List V} : atI (a :: b :: c :: r) 2 = some c := at_of (show (2 : Int) = ((2 : Nat) : Int) from rfl) rfl
theorem at3 {a b c d : V} {r : List V} : atI (a :: b :: c :: d :: r) 3 = some d := at_of (show (3 : Int) = ((3 : Nat) : Int) from rfl) rfl
theorem at4 {a b c d e : V} {r : List V} : atI (a :: b :: c :: d :: e :: r) 4 = some e := at_of (show (4 : Int) = ((4 : Nat) : Int) from rfl) rfl
section
variable {P : Program} {w : World} {K : PySem.W.Frag} {mg : Str → Option Value} {base : Heap} {f : Addr} {fd : FuncData} {aN : Addr}
abbrev s_kidsF : Stmt := topS 40
abbrev N_kidsF : List Str := ["tree", "first", "behind"]
theorem sc_kidsF : FnScope N_kidsF ["tree"] (defScope s_kidsF) := ⟨rfl, rfl, rfl, by decide +kernel, rfl, by decide +kernel, by decide +kernel⟩
theorem ok_children (F : Fun K "children" "children" s_kidsF f fd) (T : NmT K w mg aN) : FnOk P w K mg base CX0 1 f fd ["tree"] spKids := by
  refine F.ok sc_kidsF (fun vs H Q E h => ?_) (fun cdv A outer s H vs Q E hr h => ?_)
  · obtain ⟨n, v, rfl, _⟩ := h
    rfl
  obtain ⟨n, v, rfl, hok, hc, hd, q⟩ := h
  refine ⟨_, (pss_cons (ps_if (pt_cmpR op_eq (pe_ix (r := rIxT K) ix_tup (pv 0) pe_int (fun _ _ => rfl)) pe_str (nomark _)) (pss_one (ps_ret (pe_callTy call_list_of (by rfl) T.list_ (by decide +kernel) (pa_cons (pe_ix (r := rIxT K) ix_tup (pv 0) pe_int (fun _ _ => rfl)) pa_nil)))) pss_nil)
    (pss_cons (ps_asg (pe_ix (r := rIxD K w) ix_kdict (pe_glob (v := .ref aN) (by rfl) T.g_INSIDE rfl) (pe_ix (r := rIxT K) ix_tup (pv 0) pe_int (fun _ _ => rfl)) (fun _ _ => rfl)) (pg_tup rfl (pgs_cons (pg_name (i := 1) sc_kidsF.nd rfl (Or.inl rfl)) (pgs_cons (pg_name (i := 2) sc_kidsF.nd rfl (Or.inl rfl)) pgs_nil))))
    (pss_one (ps_ret (pe_callTy call_list_of (by rfl) T.list_ (by decide +kernel) (pa_cons (pe_slice sl_tup (pv 0) (po_some (pv 1)) (po_some (pv 2))) pa_nil)))))), ?_⟩
  obtain ⟨a, r, rfl, ha, hl, hk⟩ := Nd.at_ hok hd
  refine ⟨_, rfl, a, _, _, _, rfl, rfl, .inl (.inl ha), at0, rfl, _, rfl, ?_⟩
  rcases hk with ⟨ht, x, b, us, rfl, hb, hu, hul⟩ | ⟨ht, pre, post, r1, us, r2, fm, rfl, d1, hu, d2⟩
  · refine iteP (by rw [ht]) ?_
    refine ⟨_, rfl, a, _, _, _, rfl, rfl, .inl (.inl ha), at4, b, us, rfl, .inr (.inl (.inl hb)), fun l nl => ?_⟩
    exact q l us _ (same_new nl) nl upd_same (hu.keep (Tups.of (same_new nl)))
  · refine iteN (fun e => ht (by injection e)) ?_
    obtain ⟨p, x, y, hkd, hp, hx, hy, hor⟩ := T.ind fm
    refine ⟨_, rfl, a, _, _, _, rfl, rfl, .inl (.inl ha), at0, aN, _, _, rfl, rfl, hkd, ?_⟩
    refine ⟨p, _, rfl, hp H, rfl, _, _, rfl, _, _, rfl, rfl, ?_⟩
    refine ⟨_, rfl, _, rfl, x, rfl, _, rfl, y, rfl, a, _, rfl, .inl (.inl ha), fun e => ?_, fun l nl => ?_⟩
    · have := e.1
      rw [HT.sIx_nat] at this
      simp only [List.length_cons] at this
      omega
    · rw [cut_kids d1 hu (Ns.len_l _) hx hy hor]
      have s1 := same_new (o := .tup us) nl
      refine ⟨l, us, rfl, .inr (.inl (.inl upd_same)), fun l2 nl2 => ?_⟩
      have s2 := s1.trans (same_new (o := .lst us) nl2)
      exact q l2 us _ s2 (s1.free nl2) upd_same (hu.keep (Tups.of s2))
abbrev s_nodesF : Stmt := topS 41
abbrev N_nodesF : List Str := ["tree", "found", "waiting", "node"]
theorem sc_nodesF : FnScope N_nodesF ["tree"] (defScope s_nodesF) := ⟨rfl, rfl, rfl, by decide +kernel, rfl, by decide +kernel, by decide +kernel⟩
theorem ok_nodes (F : Fun K "nodes" "nodes" s_nodesF f fd) (T : Nm mg) (C_children : Cal P w K mg base CX0 1 "children" spKids) : FnOk P w K mg base CX0 2 f fd ["tree"] spNodes := by
  refine F.ok sc_nodesF (fun vs H Q E h => ?_) (fun cdv A outer s H vs Q E hr h => ?_)
  · obtain ⟨n, v, rfl, _⟩ := h
    rfl
  obtain ⟨n, v, rfl, hok, hc, hd, q⟩ := h
  refine ⟨_, (pss_cons (ps_set (i := 1) sc_nodesF.nd rfl (Or.inl rfl) (pe_lst pa_nil))
    (pss_cons (ps_set (i := 2) sc_nodesF.nd rfl (Or.inl rfl) (pe_lst (pa_cons (pv 0) pa_nil)))
    (pss_cons (ps_while PassesOwn.never (pt_truth (pv 2) (by intro _; rfl)) (pss_cons (ps_set (i := 3) sc_nodesF.nd rfl (Or.inl rfl) (pe_bm0 PySem.F.plainAttrs_list PySem.F.slot_list_pop PySem.F.type_list_pop mt_pop (pv 2)))
    (pss_cons (ps_expr (pe_bm PySem.F.plainAttrs_list PySem.F.slot_list_append PySem.F.type_list_append mt_append (pv 1) (pa_cons (pv 3) pa_nil)))
    (pss_one (ps_expr (pe_bm PySem.F.plainAttrs_list PySem.F.slot_list_extend PySem.F.type_list_extend mt_extend (pv 2) (pa_cons (pe_revL (pe_c C_children hr (by first | decide | omega) pass0 (pa_cons (pv 3) pa_nil))) pa_nil)))))))
    (pss_one (ps_ret (pv 1)))))), ?_⟩
  refine ⟨Nat.zero_le _, fun D nD => ?_⟩
  have s1 := same_new (o := .lst []) nD
  refine ⟨_, rfl, by show 1 ≤ sizeLine; decide, fun W nW => ?_⟩
  have s2 := same_new (o := .lst [v]) nW
  have nW0 : H W = none := s1.free nW
  have hDW : D ≠ W := fun e => by rw [← e, upd_same] at nW; cases nW
  have hD2 : upd (upd H D (.lst [])) W (.lst [v]) D = some (.lst []) := by rw [upd_ne hDW]; exact upd_same
  have hW2 : upd (upd H D (.lst [])) W (.lst [v]) W = some (.lst [v]) := upd_same
  have s12 := s1.trans s2
  generalize upd (upd H D (.lst [])) W (.lst [v]) = H2 at s12 hD2 hW2 ⊢
  dsimp only [gName, tSeq]

  refine while_m (fun σ H' => ∃ (x : Option V) (done pend : List Nd) (fs ws : List V), σ = [some v, some (.ref D), some (.ref W), x] ∧ Same H H' ∧ H' D = some (.lst fs) ∧ H' W = some (.lst ws) ∧ TL_ H' done fs ∧ TL_ H' pend ws.reverse ∧ done ++ flatL pend = n.flat ∧ ∀ m ∈ pend, m.ok)
    (fun σ H' => match H' D with | some (.lst fs) => 1001 - fs.length | _ => 0) ⟨none, [], [n], [], [v], rfl, s12, hD2, hW2, TL_.nil, TL_.one (hd.keep (Tups.of s12)), by show [] ++ (n.flat ++ []) = _; simp, fun m hm => by rw [List.mem_singleton.mp hm]; exact hok⟩ ?_
  rintro σ H3 ⟨x, done, pend, fs, ws, rfl, sm, hD, hW, tD, tW, hf, hok2⟩
  refine ⟨_, rfl, _, .inl ⟨ws, SqL.of hW, rfl⟩, ?_⟩
  cases pend with
  | nil =>
    have e0 : ws.reverse = [] := List.length_eq_zero_iff.mp tW.len
    have e0 : ws = [] := List.reverse_eq_nil_iff.mp e0
    subst e0
    refine iteF ⟨_, rfl, ?_⟩
    have hf : done ++ [] = n.flat := hf
    rw [List.append_nil] at hf
    subst hf
    exact q D fs H3 sm nD hD tD
  | cons m rest =>
    obtain ⟨v1, r, er, dm, tr⟩ := tW.cons_inv
    have ew : ws = r.reverse ++ [v1] := by rw [← List.reverse_reverse ws, er, List.reverse_cons]
    subst ew
    have hfl := congrArg List.length hf
    rw [List.length_append, flatL_cons, List.length_append, Nd.flat_cnt, Nd.flat_cnt, ← tD.len] at hfl
    have hmc := Nd.cnt_ks m
    have hrl : r.length = rest.length := tr.len
    have hrs := flatL_len rest
    have hkl := Ns.len_cnt m.ks
    rw [if_pos (by simp)]
    refine wN ?_
    refine ⟨_, rfl, .inl ⟨rfl, _, SqL.of hW⟩, W, _, v1, rfl, rfl, hW, by simp, ?_⟩
    rw [List.dropLast_concat]
    have t4 := tups_upd (o := .lst r.reverse) hW
    have hD4 : upd H3 W (.lst r.reverse) D = some (.lst fs) := by rw [upd_ne hDW]; exact hD
    have hW4 : upd H3 W (.lst r.reverse) W = some (.lst r.reverse) := upd_same
    have s4 : Same H (upd H3 W (.lst r.reverse)) := same_upd sm nW0
    generalize upd H3 W (.lst r.reverse) = H4 at t4 hD4 hW4 s4 ⊢
    refine ⟨_, rfl, .inl ⟨rfl, _, SqL.of hD4⟩, _, rfl, D, _, _, rfl, rfl, hD4, Nat.lt_of_lt_of_le (show fs.length < 1001 by omega) (by decide), ?_⟩
    have t5 := tups_upd (o := .lst (fs ++ [v1])) hD4
    have hW5 : upd H4 D (.lst (fs ++ [v1])) W = some (.lst r.reverse) := by rw [upd_ne hDW.symm]; exact hW4
    have hD5 : upd H4 D (.lst (fs ++ [v1])) D = some (.lst (fs ++ [v1])) := upd_same
    have s5 : Same H (upd H4 D (.lst (fs ++ [v1]))) := same_upd s4 nD
    generalize upd H4 D (.lst (fs ++ [v1])) = H5 at t5 hD5 hW5 s5 ⊢
    refine ⟨_, rfl, .inl ⟨rfl, _, SqL.of hW5⟩, _, rfl, m, v1, rfl, hok2 m (by simp), by omega, (dm.keep t4).keep t5, fun p us H6 s6 np hp tk6 => ?_⟩
    refine ⟨p, us, rfl, SqL.of hp, fun p2 np2 => ?_⟩
    have s7 := s6.trans (same_new (o := .lst us.reverse) np2)
    have hus := tk6.len
    rw [Ns.len_l] at hus
    refine ⟨W, p2, _, _, rfl, rfl, s7 _ _ hW5, upd_same, Nat.le_trans (show r.reverse.length + us.reverse.length ≤ 3000 by rw [List.length_reverse, List.length_reverse]; omega) (by decide), ?_⟩
    have t7 := tups_upd (o := .lst (r.reverse ++ us.reverse)) (s7 _ _ hW5)
    have hD8 : upd (upd H6 p2 (.lst us.reverse)) W (.lst (r.reverse ++ us.reverse)) D = some (.lst (fs ++ [v1])) := by rw [upd_ne hDW]; exact s7 _ _ hD5
    have s8 := same_upd (o := .lst (r.reverse ++ us.reverse)) (s5.trans s7) nW0
    have t6 : Tups H5 (upd (upd H6 p2 (.lst us.reverse)) W (.lst (r.reverse ++ us.reverse))) := fun a vs h => t7 _ _ (s7 _ _ h)
    have t36 : Tups H3 (upd (upd H6 p2 (.lst us.reverse)) W (.lst (r.reverse ++ us.reverse))) := fun a vs h => t6 _ _ (t5 _ _ (t4 _ _ h))
    refine ⟨⟨some v1, done ++ [m], m.ks.l ++ rest, fs ++ [v1], r.reverse ++ us.reverse, rfl, s8, hD8, upd_same, (tD.keep t36).app (TL_.one (dm.keep t36)), ?_, ?_, fun m' hm' => ?_⟩, ?_⟩
    · rw [List.reverse_append, List.reverse_reverse, List.reverse_reverse]
      exact ((tk6.keep (Tups.of (same_new (o := .lst us.reverse) np2))).keep t7).app (tr.keep t36)
    · rw [flatL_app, ← Ns.flat_l, ← hf, flatL_cons, Nd.flat_ks m]
      simp
    · rcases List.mem_append.mp hm' with hm' | hm'
      · exact Ns.ok_l (Nd.ok_ks (hok2 m (by simp))) m' hm'
      · exact hok2 m' (by simp [hm'])
    · show (match upd (upd H6 p2 (.lst us.reverse)) W (.lst (r.reverse ++ us.reverse)) D with | some (.lst fs) => 1001 - fs.length | _ => 0) < (match H3 D with | some (.lst fs) => 1001 - fs.length | _ => 0)
      rw [hD8, hD]
      show 1001 - (fs ++ [v1]).length < 1001 - fs.length
      rw [List.length_append, List.length_singleton]
      omega
end

end Sn

namespace Sn
open PySem PySem.Spec PyProof.Rows L2 TL
/-! ### the printer's dicts -/
abbrev frE (P : Params) (k0 k1 k2 k3 k4 v0 v1 v2 v3 v4 : PySem.Tok) : Array DictEntry :=
  #[⟨PyData.keyHash P "let", .str "let" k0, .int 0 v0⟩, ⟨PyData.keyHash P "if", .str "if" k1, .int 0 v1⟩, ⟨PyData.keyHash P "loop", .str "loop" k2, .int 0 v2⟩, ⟨PyData.keyHash P "not", .str "not" k3, .int 3 v3⟩, ⟨PyData.keyHash P "minus", .str "minus" k4, .int 7 v4⟩]
abbrev sdE (P : Params) (k0 k1 k2 k3 k4 k5 k6 k7 : PySem.Tok) (p0 p1 p2 p3 p4 p5 p6 p7 : Addr) : Array DictEntry :=
  #[⟨PyData.keyHash P "or", .str "or" k0, .ref p0⟩, ⟨PyData.keyHash P "and", .str "and" k1, .ref p1⟩, ⟨PyData.keyHash P "==", .str "==" k2, .ref p2⟩, ⟨PyData.keyHash P "<", .str "<" k3, .ref p3⟩,
    ⟨PyData.keyHash P "+", .str "+" k4, .ref p4⟩, ⟨PyData.keyHash P "-", .str "-" k5, .ref p5⟩, ⟨PyData.keyHash P "*", .str "*" k6, .ref p6⟩, ⟨PyData.keyHash P "/", .str "/" k7, .ref p7⟩]
/-- the rank of a form that is no binary -/
def frk (tag : Str) : Nat := if tag = "let" then 0 else if tag = "if" then 0 else if tag = "loop" then 0 else if tag = "not" then 3 else if tag = "minus" then 7 else 8
def FrD (K : PySem.W.Frag) (aF : Addr) : Prop := ∀ tag : Str, ∃ r : Option V, KdGet K aF tag r ∧ r.getD (.int 8) = .int ((frk tag : Nat) : Int)
def SdD (K : PySem.W.Frag) (w : World) (aD : Addr) : Prop := ∀ x : Str, tl x ∈ opsB → ∃ p : Addr, KDct K w aD x (.ref p) ∧ WP K p (lpR (Src.rank (tl x))) (rpR (Src.rank (tl x)))
section
variable {K : PySem.W.Frag} {w : World} {aF aD : Addr} {n : Nat} {k0 k1 k2 k3 k4 k5 k6 k7 v0 v1 v2 v3 v4 : PySem.Tok} {p0 p1 p2 p3 p4 p5 p6 p7 : Addr}
theorem fr_lit : PySem.W.KeysLit w.params (frE w.params k0 k1 k2 k3 k4 v0 v1 v2 v3 v4).toList := ⟨⟨_, _, rfl, rfl⟩, ⟨_, _, rfl, rfl⟩, ⟨_, _, rfl, rfl⟩, ⟨_, _, rfl, rfl⟩, ⟨_, _, rfl, rfl⟩, trivial⟩
theorem fr_kd (h : K.lookup aF = some ⟨.type "dict", none, .dict (frE w.params k0 k1 k2 k3 k4 v0 v1 v2 v3 v4) n, #[]⟩) (low : (aF == sysModules) = false) : KdAt K w aF := ⟨⟨_, _, h, fr_lit⟩, low⟩
theorem str_beq (x y : Str) : (x == y) = decide (y = x) := by
  by_cases k : y = x
  · rw [decide_eq_true k, k]
    exact beq_self_eq_true x
  · rw [decide_eq_false k]
    exact beq_eq_false_iff_ne.mpr fun e => k e.symm
theorem fr_all (h : K.lookup aF = some ⟨.type "dict", none, .dict (frE w.params k0 k1 k2 k3 k4 v0 v1 v2 v3 v4) n, #[]⟩) : FrD K aF := by
  intro tag
  have ns : PySem.W.nsIn K aF tag = some (if tag = "let" then some (.int 0 v0) else if tag = "if" then some (.int 0 v1) else if tag = "loop" then some (.int 0 v2) else if tag = "not" then some (.int 3 v3) else if tag = "minus" then some (.int 7 v4) else none) := by
    unfold PySem.W.nsIn
    rw [h]
    simp only [frE, List.find?, Value.isStr, str_beq]
    by_cases c0 : tag = "let"
    · rw [decide_eq_true c0, if_pos c0]
    rw [decide_eq_false c0, if_neg c0]
    by_cases c1 : tag = "if"
    · rw [decide_eq_true c1, if_pos c1]
    rw [decide_eq_false c1, if_neg c1]
    by_cases c2 : tag = "loop"
    · rw [decide_eq_true c2, if_pos c2]
    rw [decide_eq_false c2, if_neg c2]
    by_cases c3 : tag = "not"
    · rw [decide_eq_true c3, if_pos c3]
    rw [decide_eq_false c3, if_neg c3]
    by_cases c4 : tag = "minus"
    · rw [decide_eq_true c4, if_pos c4]
    rw [decide_eq_false c4, if_neg c4]
    rfl
  unfold frk
  by_cases c0 : tag = "let"
  · rw [if_pos c0] at ns ⊢
    exact ⟨some (.int 0), ⟨_, ns, ⟨_, rfl⟩⟩, rfl⟩
  rw [if_neg c0] at ns ⊢
  by_cases c1 : tag = "if"
  · rw [if_pos c1] at ns ⊢
    exact ⟨some (.int 0), ⟨_, ns, ⟨_, rfl⟩⟩, rfl⟩
  rw [if_neg c1] at ns ⊢
  by_cases c2 : tag = "loop"
  · rw [if_pos c2] at ns ⊢
    exact ⟨some (.int 0), ⟨_, ns, ⟨_, rfl⟩⟩, rfl⟩
  rw [if_neg c2] at ns ⊢
  by_cases c3 : tag = "not"
  · rw [if_pos c3] at ns ⊢
    exact ⟨some (.int 3), ⟨_, ns, ⟨_, rfl⟩⟩, rfl⟩
  rw [if_neg c3] at ns ⊢
  by_cases c4 : tag = "minus"
  · rw [if_pos c4] at ns ⊢
    exact ⟨some (.int 7), ⟨_, ns, ⟨_, rfl⟩⟩, rfl⟩
  rw [if_neg c4] at ns ⊢
  exact ⟨none, ⟨_, ns, trivial⟩, rfl⟩
theorem sd_lit : PySem.W.KeysLit w.params (sdE w.params k0 k1 k2 k3 k4 k5 k6 k7 p0 p1 p2 p3 p4 p5 p6 p7).toList :=
  ⟨⟨_, _, rfl, rfl⟩, ⟨_, _, rfl, rfl⟩, ⟨_, _, rfl, rfl⟩, ⟨_, _, rfl, rfl⟩, ⟨_, _, rfl, rfl⟩, ⟨_, _, rfl, rfl⟩, ⟨_, _, rfl, rfl⟩, ⟨_, _, rfl, rfl⟩, trivial⟩
theorem sd_all (h : K.lookup aD = some ⟨.type "dict", none, .dict (sdE w.params k0 k1 k2 k3 k4 k5 k6 k7 p0 p1 p2 p3 p4 p5 p6 p7) n, #[]⟩) (w0 : WP K p0 1 2) (w1 : WP K p1 2 3) (w2 : WP K p2 5 5) (w3 : WP K p3 5 5) (w4 : WP K p4 5 6) (w5 : WP K p5 5 6) (w6 : WP K p6 6 7) (w7 : WP K p7 6 7) : SdD K w aD := by
  have g : ∀ (x : Str) (e : DictEntry) (p : Addr), (sdE w.params k0 k1 k2 k3 k4 k5 k6 k7 p0 p1 p2 p3 p4 p5 p6 p7).toList.find? (fun e => e.key.isStr x) = some e → e.val = .ref p → KDct K w aD x (.ref p) := fun x e p he ev => by
    refine ⟨_, _, _, h, sd_lit, ?_, rfl⟩
    unfold PySem.W.nsIn
    rw [h]
    show (match (sdE w.params k0 k1 k2 k3 k4 k5 k6 k7 p0 p1 p2 p3 p4 p5 p6 p7).toList.find? (fun e => e.key.isStr x) with
      | some e => some (some e.val)
      | none => _) = _
    rw [he]
    show some (some e.val) = _
    rw [ev]
  intro x hx
  have k : ∀ y : Str, tl x = tl y → x = y := fun y e => ext_tl e
  unfold opsB at hx
  simp only [List.mem_cons, List.not_mem_nil, or_false] at hx
  rcases hx with e | e | e | e | e | e | e | e
  · rw [k _ e]; exact ⟨p0, g _ ⟨PyData.keyHash w.params "or", .str "or" k0, .ref p0⟩ _ rfl rfl, w0⟩
  · rw [k _ e]; exact ⟨p1, g _ ⟨PyData.keyHash w.params "and", .str "and" k1, .ref p1⟩ _ rfl rfl, w1⟩
  · rw [k _ e]; exact ⟨p2, g _ ⟨PyData.keyHash w.params "==", .str "==" k2, .ref p2⟩ _ rfl rfl, w2⟩
  · rw [k _ e]; exact ⟨p3, g _ ⟨PyData.keyHash w.params "<", .str "<" k3, .ref p3⟩ _ rfl rfl, w3⟩
  · rw [k _ e]; exact ⟨p4, g _ ⟨PyData.keyHash w.params "+", .str "+" k4, .ref p4⟩ _ rfl rfl, w4⟩
  · rw [k _ e]; exact ⟨p5, g _ ⟨PyData.keyHash w.params "-", .str "-" k5, .ref p5⟩ _ rfl rfl, w5⟩
  · rw [k _ e]; exact ⟨p6, g _ ⟨PyData.keyHash w.params "*", .str "*" k6, .ref p6⟩ _ rfl rfl, w6⟩
  · rw [k _ e]; exact ⟨p7, g _ ⟨PyData.keyHash w.params "/", .str "/" k7, .ref p7⟩ _ rfl rfl, w7⟩
end
structure NmQ (K : PySem.W.Frag) (w : World) (mg : Str → Option Value) (aN aR aF aD : Addr) (t0 t1 t2 : PySem.Tok) : Prop extends NmT K w mg aN where
  enumerate : mg "enumerate" = none
  g_RANKS : mg "RANKS" = some (.ref aR)
  g_FORM_RANKS : mg "FORM_RANKS" = some (.ref aF)
  g_SIDES : mg "SIDES" = some (.ref aD)
  g_HIGHEST_printer : mg "HIGHEST_printer" = some (.int 8 t0)
  g_BEHIND_NOT : mg "BEHIND_NOT" = some (.int 3 t1)
  g_BEHIND_MINUS : mg "BEHIND_MINUS" = some (.int 7 t2)
  ranks : ∀ l : List Nat, ∃ r : Option V, KdGet K aR (strL l) r ∧ r.getD (.int 0) = .int ((Src.rank l : Nat) : Int) ∧ (0 < Src.rank l → KDct K w aR (strL l) (.int ((Src.rank l : Nat) : Int)))
  fkd : KdAt K w aF
  forms : FrD K aF
  sides : SdD K w aD

end Sn

namespace Sn
open PySem PySem.Spec PyProof.Rows L2 TL
/-! ### rank, pieces of calls -/
/-- a tree without brackets around it, fine -/
def Pt (n : Nd) : Prop := n.ok ∧ n.grp = false ∧ n.sh.fine ∧ n.sh.nc ≤ 92
def spRank : Sp := fun vs H Q _ => ∃ (n : Nd) (v : V), vs = [v] ∧ Pt n ∧ DT H n.t.d v ∧ Q (.int (n.sh.rk : Int)) H
theorem frk_sh {n : Nd} (ok : n.ok) (h : n.grp = false) (nb : n.t.tag ≠ "binary") : frk n.t.tag = n.sh.rk := by
  revert h nb
  refine Nd.cases_ (P := fun n => n.grp = false → n.t.tag ≠ "binary" → frk n.t.tag = n.sh.rk) n ok ?_ ?_ ?_ ?_ ?_ ?_ ?_ ?_ ?_ ?_ ?_ ?_
  · intro s e v _ _; rw [sh_num, Nd.tag_t]; exact (by decide +kernel : frk "number" = 8)
  · intro s e v _ _; rw [sh_tru, Nd.tag_t]; exact (by decide +kernel : frk "truth" = 8)
  · intro s e v _ _; rw [sh_nam, Nd.tag_t]; exact (by decide +kernel : frk "name" = 8)
  · intro s e v ks _ _ _; rw [sh_cal, Nd.tag_t]; exact (by decide +kernel : frk "call" = 8)
  · intro s e v a _ _ _; rw [sh_fld, Nd.tag_t]; exact (by decide +kernel : frk "field" = 8)
  · intro s e a _ h _; cases h
  · intro s e a _ _ _; rw [sh_nt, Nd.tag_t]; exact (by decide +kernel : frk "not" = 3)
  · intro s e a _ _ _; rw [sh_mn, Nd.tag_t]; exact (by decide +kernel : frk "minus" = 7)
  · intro s e v a b _ _ _ _ h; rw [Nd.tag_t] at h; exact absurd rfl h
  · intro s e a b c _ _ _ _ _; rw [sh_ite, Nd.tag_t]; exact (by decide +kernel : frk "if" = 0)
  · intro s e v i a b _ _ _ _; rw [sh_lt, Nd.tag_t]; exact (by decide +kernel : frk "let" = 0)
  · intro s e v i a b c _ _ _ _ _; rw [sh_lp, Nd.tag_t]; exact (by decide +kernel : frk "loop" = 0)
theorem bin_inv {n : Nd} (ok : n.ok) : n.t.tag = "binary" → ∃ s e v a b, n = .nd "binary" false s e [.str v] [] (nk2 a b) ∧ a.ok ∧ b.ok := by
  have no : ∀ (x : Str) {Q : Prop}, x ≠ "binary" → x = "binary" → Q := fun x Q h e => absurd e h
  refine Nd.cases_ (P := fun n => n.t.tag = "binary" → ∃ s e v a b, n = .nd "binary" false s e [.str v] [] (nk2 a b) ∧ a.ok ∧ b.ok) n ok ?_ ?_ ?_ ?_ ?_ ?_ ?_ ?_ ?_ ?_ ?_ ?_
  · exact fun s e v h => no "number" (by decide +kernel) (by rw [Nd.tag_t] at h; exact h)
  · exact fun s e v h => no "truth" (by decide +kernel) (by rw [Nd.tag_t] at h; exact h)
  · exact fun s e v h => no "name" (by decide +kernel) (by rw [Nd.tag_t] at h; exact h)
  · exact fun s e v ks o h => no "call" (by decide +kernel) (by rw [Nd.tag_t] at h; exact h)
  · exact fun s e v a o h => no "field" (by decide +kernel) (by rw [Nd.tag_t] at h; exact h)
  · exact fun s e a o h => no "group" (by decide +kernel) (by rw [Nd.tag_t] at h; exact h)
  · exact fun s e a o h => no "not" (by decide +kernel) (by rw [Nd.tag_t] at h; exact h)
  · exact fun s e a o h => no "minus" (by decide +kernel) (by rw [Nd.tag_t] at h; exact h)
  · exact fun s e v a b _ oa ob h => ⟨s, e, v, a, b, rfl, oa, ob⟩
  · exact fun s e a b c _ _ _ h => no "if" (by decide +kernel) (by rw [Nd.tag_t] at h; exact h)
  · exact fun s e v i a b _ _ h => no "let" (by decide +kernel) (by rw [Nd.tag_t] at h; exact h)
  · exact fun s e v i a b c _ _ _ h => no "loop" (by decide +kernel) (by rw [Nd.tag_t] at h; exact h)
theorem ops_pos : ∀ w ∈ opsB, 0 < Src.rank w := by decide +kernel
theorem ops_len : ∀ w ∈ opsB, w.length ≤ 3 := by decide +kernel
/-- data of tuples, one by one -/
theorem dts1 {H : Hp} {a : D} {r : List V} (h : DTs H (ofL [a]) r) : ∃ v, r = [v] ∧ DT H a v := by
  have h : DTs H (.cons a .nil) r := h
  unfold DTs DTs at h
  obtain ⟨v, r1, rfl, h1, rfl⟩ := h
  exact ⟨v, rfl, h1⟩
theorem dtsC {H : Hp} {a : D} {l : List D} {r : List V} (h : DTs H (ofL (a :: l)) r) : ∃ v q, r = v :: q ∧ DT H a v ∧ DTs H (ofL l) q := by
  have h : DTs H (.cons a (ofL l)) r := h
  unfold DTs at h
  exact h
theorem dt_str {H : Hp} {x : Str} {v : V} (h : DT H (.str x) v) : v = .str x := by
  unfold DT at h
  exact h
theorem dt_int {H : Hp} {x : Int} {v : V} (h : DT H (.int x) v) : v = .int x := by
  unfold DT at h
  exact h
theorem dt_bl {H : Hp} {x : Bool} {v : V} (h : DT H (.bl x) v) : v = .bl x := by
  unfold DT at h
  exact h
section
variable {P : Program} {w : World} {K : PySem.W.Frag} {mg : Str → Option Value} {base : Heap} {f : Addr} {fd : FuncData} {aN aR aF aD : Addr} {t0 t1 t2 : PySem.Tok}
abbrev s_rankF : Stmt := topS 34
abbrev N_rankF : List Str := ["tree"]
theorem sc_rankF : FnScope N_rankF ["tree"] (defScope s_rankF) := ⟨rfl, rfl, rfl, by decide +kernel, rfl, by decide +kernel, by decide +kernel⟩
theorem ok_rank (F : Fun K "rank" "rank" s_rankF f fd) (T : NmQ K w mg aN aR aF aD t0 t1 t2) : FnOk P w K mg base CX0 1 f fd ["tree"] spRank := by
  refine F.ok sc_rankF (fun vs H Q E h => ?_) (fun cdv A outer s H vs Q E hr h => ?_)
  · obtain ⟨n, v, rfl, _⟩ := h
    rfl
  obtain ⟨n, v, rfl, ⟨on, gn, fn, _⟩, dn, q⟩ := h
  refine ⟨_, (pss_cons (ps_if (pt_cmpR op_eq (pe_ix (r := rIxT K) ix_tup (pv 0) pe_int (fun _ _ => rfl)) pe_str (nomark _)) (pss_one (ps_ret (pe_ix (r := rIxD K w) ix_kdict (pe_glob (v := .ref aR) (by rfl) T.g_RANKS rfl) (pe_ix (r := rIxT K) ix_tup (pv 0) pe_int (fun _ _ => rfl)) (fun _ _ => rfl)))) pss_nil)
    (pss_one (ps_ret (pe_kget2 (pe_glob (v := .ref aF) (by rfl) T.g_FORM_RANKS rfl) (pe_ix (r := rIxT K) ix_tup (pv 0) pe_int (fun _ _ => rfl)) (pe_glob (v := .int 8) (by rfl) T.g_HIGHEST_printer ⟨_, rfl⟩) ⟨rfl, rfl, rfl, rfl⟩)))), ?_⟩
  obtain ⟨p, r, rfl, hp, dr, lr⟩ := Tn.at_ dn
  refine ⟨_, rfl, p, _, _, _, rfl, rfl, SqT.of hp, at0, rfl, _, rfl, ?_⟩
  by_cases hb : n.t.tag = "binary"
  · obtain ⟨s0, e0, x, a, b, rfl, oa, ob⟩ := bin_inv on hb
    refine iteP (by rw [hb]) ?_
    rw [sh_bin, Sh.fine] at fn
    rw [nd_t, (nk2_all a b).1] at dr hp
    obtain ⟨u, r1, rfl, d1, d2⟩ := dtsC dr
    have e1 := dt_str d1
    subst e1
    obtain ⟨_, _, _, k⟩ := T.ranks (tl x)
    have k := k (ops_pos _ fn.1.1)
    rw [show strL (tl x) = x from ext_tl rfl] at k
    rw [sh_bin, Sh.rk] at q
    exact ⟨_, rfl, p, _, _, _, rfl, rfl, SqT.of hp, at3, aR, x, _, rfl, rfl, k, q⟩
  · refine iteN (fun e => hb (by injection e)) ?_
    obtain ⟨r0, k1, k2⟩ := T.forms n.t.tag
    refine ⟨aF, rfl, T.fkd, _, rfl, p, _, _, _, rfl, rfl, SqT.of hp, at0, _, r0, rfl, k1, ?_⟩
    rw [k2, frk_sh on gn hb]
    exact q
end

end Sn

namespace Sn
open PySem PySem.Spec PyProof.Rows L2 TL
/-! ### pieces -/
def Pie.fn : Pie → Prop
  | .tx x => tl x ≠ [] ∧ x.length ≤ 100
  | .nd n _ => n.ok ∧ n.sh.fine ∧ n.sh.nc ≤ 92
theorem Pie.fn.fit {p : Pie} (h : p.fn) : p.fit := by
  cases p with
  | tx x => exact h.1
  | nd n r => exact h.1
theorem Pie.at_.keep {H H' : Hp} (s : Tups H H') {p : Pie} {v : V} (h : p.at_ H v) : p.at_ H' v := by
  cases p with
  | tx x => exact h
  | nd n r =>
    obtain ⟨q, a, e, h1, h2⟩ := h
    exact ⟨q, a, e, s _ _ h1, h2.keep s⟩
def PAt (H : Hp) : List Pie → List V → Prop
  | [], vs => vs = []
  | p :: r, vs => ∃ v q, vs = v :: q ∧ p.at_ H v ∧ PAt H r q
theorem PAt.keep {H H' : Hp} (s : Tups H H') : ∀ {ps : List Pie} {vs : List V}, PAt H ps vs → PAt H' ps vs
  | [], _, h => h
  | p :: r, vs, ⟨v, q, e, h1, h2⟩ => ⟨v, q, e, h1.keep s, PAt.keep s h2⟩
theorem PAt.len {H : Hp} : ∀ {ps : List Pie} {vs : List V}, PAt H ps vs → vs.length = ps.length
  | [], _, h => by
    have h : _ = [] := h
    rw [h]
    rfl
  | p :: r, vs, ⟨v, q, e, h1, h2⟩ => by rw [e, List.length_cons, List.length_cons, PAt.len h2]
theorem PAt.app {H : Hp} : ∀ {ps qs : List Pie} {vs us : List V}, PAt H ps vs → PAt H qs us → PAt H (ps ++ qs) (vs ++ us)
  | [], qs, vs, us, h, g => by
    have h : vs = [] := h
    subst h
    exact g
  | p :: r, qs, vs, us, ⟨v, q, e, h1, h2⟩, g => ⟨v, q ++ us, by rw [e]; rfl, h1, PAt.app h2 g⟩
theorem PAt.nil {H : Hp} : PAt H [] [] := rfl
theorem PAt.tx {H : Hp} {x : Str} {ps : List Pie} {vs : List V} (h : PAt H ps vs) : PAt H (.tx x :: ps) (.str x :: vs) := ⟨_, _, rfl, rfl, h⟩
theorem PAt.nd {H : Hp} {n : Nd} {r : Nat} {p : Addr} {a : V} {ps : List Pie} {vs : List V} (hp : H p = some (.tup [a, .int (r : Int)])) (hd : DT H n.t.d a) (h : PAt H ps vs) : PAt H (.nd n r :: ps) (.ref p :: vs) := ⟨_, _, rfl, ⟨_, _, rfl, hp, hd⟩, h⟩
/-- pieces that are there, together the text l -/
structure Pcs (H : Hp) (us : List V) (l : List Nat) (ps : List Pie) : Prop where
  at_ : PAt H ps us
  fn : ∀ p ∈ ps, p.fn
  l : pl ps = l
  tx : ∃ t, Pie.tx t ∈ ps
  len : ps.length ≤ 200
/-- arguments one by one -/
def argL : List Nd → Bool → List Pie
  | [], _ => []
  | h :: t, k => (if k = true then [] else [.tx ", "]) ++ .nd h 0 :: argL t false
theorem argP_L : ∀ (ks : Ns) (k : Bool), argP ks k = argL ks.l k
  | .nil, k => rfl
  | .cons h t, k => by
    show argP (.cons h t) k = argL (h :: t.l) k
    rw [argP, argL, argP_L t]
theorem argL_snoc (m : Nd) : ∀ (l : List Nd) (k : Bool), argL (l ++ [m]) k = argL l k ++ ((if k = true ∧ l = [] then [] else [.tx ", "]) ++ [.nd m 0])
  | [], k => by
    cases k <;> simp [argL]
  | h :: t, k => by
    show argL (h :: (t ++ [m])) k = argL (h :: t) k ++ _
    rw [argL, argL, argL_snoc m t false]
    simp
theorem argL_len : ∀ (l : List Nd) (k : Bool), (argL l k).length ≤ 2 * l.length
  | [], _ => Nat.le_refl _
  | h :: t, k => by
    have := argL_len t false
    rw [argL]
    cases k <;> simp <;> omega
theorem argL_fn : ∀ {l : List Nd} {k : Bool}, (∀ n ∈ l, n.ok ∧ n.sh.fine ∧ n.sh.nc ≤ 92) → ∀ p ∈ argL l k, p.fn
  | [], _, _, p, hp => by cases hp
  | h :: t, k, g, p, hp => by
    rw [argL] at hp
    rcases List.mem_append.mp hp with hp | hp
    · cases k
      · rw [if_neg (by decide)] at hp
        rw [List.mem_singleton.mp hp]
        exact ⟨by decide +kernel, by decide +kernel⟩
      · rw [if_pos rfl] at hp
        cases hp
    · rcases List.mem_cons.mp hp with rfl | hp
      · exact g h (List.mem_cons_self ..)
      · exact argL_fn (fun n hn => g n (List.mem_cons_of_mem _ hn)) p hp
theorem Sh.nc_pos (s : Sh) : 1 ≤ s.nc := by
  cases s <;> rw [Sh.nc] <;> omega
/-- what the kids have of the call -/
theorem kids_fine : ∀ {ks : Ns}, ks.ok → ks.shs.fine → ks.l.length ≤ ks.shs.nc ∧ ∀ n ∈ ks.l, n.ok ∧ n.sh.fine ∧ n.sh.nc ≤ ks.shs.nc
  | .nil, _, _ => ⟨Nat.zero_le _, fun n h => by cases h⟩
  | .cons a t, ok, fn => by
    have ok := Ns.ok_cons.mp ok
    rw [Ns.shs_cons, Shs.fine] at fn
    rw [Ns.shs_cons, Shs.nc]
    obtain ⟨k1, k2⟩ := kids_fine ok.2 fn.2
    have := a.sh.nc_pos
    refine ⟨?_, fun n hn => ?_⟩
    · show t.l.length + 1 ≤ _
      omega
    · rcases List.mem_cons.mp hn with rfl | hn
      · exact ⟨ok.1, fn.1, by omega⟩
      · obtain ⟨j1, j2, j3⟩ := k2 n hn
        exact ⟨j1, j2, by omega⟩
def spCallP : Sp := fun vs H Q _ => ∃ (s e : Nat) (x : Str) (ks : Ns) (v : V), vs = [v] ∧ ks.ok ∧ (Sh.cal x ks.shs).fine ∧ (Sh.cal x ks.shs).nc ≤ 92 ∧ DT H (Nd.nd "call" true s e [.str x] [] ks).t.d v ∧
  ∀ p us ps H', Same H H' → H p = none → H' p = some (.lst us) → Pcs H' us (Sh.cal x ks.shs).tx ps → Q (.ref p) H'
section
variable {P : Program} {w : World} {K : PySem.W.Frag} {mg : Str → Option Value} {base : Heap} {f : Addr} {fd : FuncData} {aN aR aF aD : Addr} {t0 t1 t2 : PySem.Tok}
abbrev s_callP : Stmt := topS 35
abbrev N_callP : List Str := ["tree", "found", "number", "part"]
theorem sc_callP : FnScope N_callP ["tree"] (defScope s_callP) := ⟨rfl, rfl, rfl, by decide +kernel, rfl, by decide +kernel, by decide +kernel⟩
theorem ok_call_pieces (F : Fun K "call_pieces" "call_pieces" s_callP f fd) (T : NmQ K w mg aN aR aF aD t0 t1 t2) : FnOk P w K mg base CX0 1 f fd ["tree"] spCallP := by
  refine F.ok sc_callP (fun vs H Q E h => ?_) (fun cdv A outer s H vs Q E hr h => ?_)
  · obtain ⟨_, _, _, _, v, rfl, _⟩ := h
    rfl
  obtain ⟨s0, e0, x, ks, v, rfl, ok, fn, hnc, dn, q⟩ := h
  refine ⟨_, (pss_cons (ps_set (i := 1) sc_callP.nd rfl (Or.inl rfl) (pe_lst (pa_cons (pe_op op_add_str (pe_ix (r := rIxT K) ix_tup (pv 0) pe_int (fun _ _ => rfl)) pe_str) pa_nil)))
    (pss_cons (ps_for PassesOwn.never rfl (pi_enT (by rfl) T.enumerate (pa_cons (pe_ix (r := rIxT K) ix_tup (pv 0) pe_int (fun _ _ => rfl)) pa_nil)) (pg_tup rfl (pgs_cons (pg_name (i := 2) sc_callP.nd rfl (Or.inl rfl)) (pgs_cons (pg_name (i := 3) sc_callP.nd rfl (Or.inl rfl)) pgs_nil))) (pss_cons (ps_if (pt_cmpR op_gt (pv 2) pe_int (nomark _)) (pss_one (ps_expr (pe_bm PySem.F.plainAttrs_list PySem.F.slot_list_append PySem.F.type_list_append mt_append (pv 1) (pa_cons pe_str pa_nil)))) pss_nil)
    (pss_one (ps_expr (pe_bm PySem.F.plainAttrs_list PySem.F.slot_list_append PySem.F.type_list_append mt_append (pv 1) (pa_cons (pe_tup (pa_cons (pv 3) (pa_cons pe_int pa_nil))) pa_nil))))))
    (pss_one (ps_ret (pe_op op_cat (pv 1) (pe_lst (pa_cons pe_str pa_nil))))))), ?_⟩
  rw [call_nd] at dn
  obtain ⟨p, r, rfl, hp, dr, lr⟩ := Tn.at_ dn
  obtain ⟨u, r1, rfl, d1, d2⟩ := dtsC dr
  have e1 := dt_str d1
  subst e1
  obtain ⟨u2, rfl, d3⟩ := dts1 d2
  unfold DT at d3
  obtain ⟨b, us, rfl, hb, hul, hu⟩ := d3
  rw [Ns.ds_l] at hu
  have hu : TL_ H ks.l us := hu
  rw [Sh.fine] at fn
  rw [Sh.nc] at hnc
  obtain ⟨k1, k2⟩ := kids_fine ok fn.2
  have hx : x.length ≤ 25 := by have := fn.1.2.2; rw [len_tl]; exact this
  refine ⟨_, rfl, p, _, _, _, rfl, rfl, SqT.of hp, at3, x, "(", rfl, rfl, ?_, by show 1 ≤ sizeLine; decide, fun D nD => ?_⟩
  · show x.length + 1 ≤ sizeLine
    exact Nat.le_trans (show x.length + 1 ≤ 26 by omega) (by decide)
  have s1 := same_new (o := .lst [.str (x ++ "(")]) nD
  have hD : upd H D (.lst [.str (x ++ "(")]) D = some (.lst [.str (x ++ "(")]) := upd_same
  generalize upd H D (.lst [.str (x ++ "(")]) = H1 at s1 hD ⊢
  have hul2 := hu.len
  refine ⟨_, rfl, p, _, _, _, rfl, rfl, SqT.of (s1 _ _ hp), at4, b, us, rfl, SqT.of (s1 _ _ hb), ?_⟩
  refine for_enT (K := K) (a := b) (xs := us) (fun i σ H' => ∃ (y z : Option V) (fs : List V), σ = [some (.ref p), some (.ref D), y, z] ∧ Same H H' ∧ H' D = some (.lst fs) ∧ PAt H' (.tx (x ++ "(") :: argL (ks.l.take i) true) fs) ⟨none, none, _, rfl, s1, hD, PAt.nil.tx⟩ (fun i σ H' h => by obtain ⟨_, _, _, _, sm, _⟩ := h; exact SqT.of (sm _ _ hb)) ?_ ?_
  · rintro i u T0 σ H2 hi nT ⟨y, z, fs, rfl, sm, hD2, pa⟩
    have hil := (List.getElem?_eq_some_iff.mp hi).1
    have hil2 : i < ks.l.length := by rw [← hul2]; exact hil
    have gm := List.getElem?_eq_getElem hil2
    generalize ks.l[i] = m at gm
    have mm := List.mem_of_getElem? gm
    have s2 := sm.trans (same_new (o := .tup [.int (i : Nat), u]) nT)
    have hT : upd H2 T0 (.tup [.int (i : Nat), u]) T0 = some (.tup [.int (i : Nat), u]) := upd_same
    have nDT : D ≠ T0 := fun e => by rw [e, nT] at hD2; cases hD2
    have hD3 : upd H2 T0 (.tup [.int (i : Nat), u]) D = some (.lst fs) := by rw [upd_ne nDT]; exact hD2
    have pa := pa.keep (Tups.of (same_new (o := .tup [.int (i : Nat), u]) nT))
    generalize upd H2 T0 (.tup [.int (i : Nat), u]) = H3 at s2 hT hD3 pa ⊢
    refine ⟨T0, _, rfl, .inl (.inl hT), rfl, _, _, rfl, _, _, rfl, rfl, ?_⟩
    have dm := ((hu.get gm hi).keep (Tups.of s2))
    have fl : fs.length ≤ 2 * i + 1 := by
      have k := pa.len
      have k3 := argL_len (ks.l.take i) true
      rw [List.length_cons] at k
      rw [List.length_take] at k3
      omega
    have et : ks.l.take (i + 1) = ks.l.take i ++ [m] := by rw [List.take_add_one, gm]; rfl
    have l0 : (ks.l.take i = []) ↔ i = 0 := by
      constructor
      · intro e
        have := congrArg List.length e
        rw [List.length_take, List.length_nil] at this
        omega
      · rintro rfl
        rfl
    refine ⟨_, rfl, _, _, rfl, rfl, _, rfl, ?_⟩
    by_cases h0 : (0 : Int) < ((i : Nat) : Int)
    · refine iteP h0 ?_
      have hi0 : ¬ ks.l.take i = [] := fun e => by have := l0.mp e; omega
      refine ⟨_, rfl, .inl ⟨rfl, _, SqL.of hD3⟩, D, _, _, rfl, rfl, hD3, Nat.lt_of_le_of_lt (show fs.length ≤ 1000 by omega) (by decide), ?_⟩
      have t4 := tups_upd (o := .lst (fs ++ [.str ", "])) hD3
      have hD4 : upd H3 D (.lst (fs ++ [.str ", "])) D = some (.lst (fs ++ [.str ", "])) := upd_same
      have s4 := same_upd (o := .lst (fs ++ [.str ", "])) s2 nD
      have pa := (pa.keep t4).app (PAt.tx (x := ", ") PAt.nil)
      have dm := dm.keep t4
      generalize upd H3 D (.lst (fs ++ [.str ", "])) = H4 at s4 hD4 pa dm ⊢
      refine ⟨_, rfl, .inl ⟨rfl, _, SqL.of hD4⟩, _, rfl, by show 2 ≤ sizeLine; decide, fun q0 nq => ?_⟩
      have s5 := s4.trans (same_new (o := .tup [u, .int 0]) nq)
      have t5 := Tups.of (same_new (o := .tup [u, .int 0]) nq)
      have hq : upd H4 q0 (.tup [u, .int 0]) q0 = some (.tup [u, .int ((0 : Nat) : Int)]) := upd_same
      have hD5 : upd H4 q0 (.tup [u, .int 0]) D = some (.lst (fs ++ [.str ", "])) := by rw [upd_ne (fun e => by rw [← e, hD4] at nq; cases nq)]; exact hD4
      have pa := pa.keep t5
      have dm := dm.keep t5
      generalize upd H4 q0 (.tup [u, .int 0]) = H5 at s5 hD5 hq pa dm ⊢
      have t6 := tups_upd (o := .lst (fs ++ [.str ", "] ++ [.ref q0])) hD5
      refine ⟨D, _, _, rfl, rfl, hD5, Nat.lt_of_le_of_lt (show (fs ++ [V.str ", "]).length ≤ 1000 by rw [List.length_append, List.length_singleton]; omega) (by decide), _, _, _, rfl, same_upd s5 nD, upd_same, ?_⟩
      have pa := (pa.keep t6).app (PAt.nd (t6 _ _ hq) (dm.keep t6) PAt.nil)
      rw [et, argL_snoc, if_neg (fun e => hi0 e.2)]
      simpa using pa
    · refine iteN h0 ?_
      have hi0 : i = 0 := by omega
      refine ⟨_, rfl, .inl ⟨rfl, _, SqL.of hD3⟩, _, rfl, by show 2 ≤ sizeLine; decide, fun q0 nq => ?_⟩
      have s5 := s2.trans (same_new (o := .tup [u, .int 0]) nq)
      have t5 := Tups.of (same_new (o := .tup [u, .int 0]) nq)
      have hq : upd H3 q0 (.tup [u, .int 0]) q0 = some (.tup [u, .int ((0 : Nat) : Int)]) := upd_same
      have hD5 : upd H3 q0 (.tup [u, .int 0]) D = some (.lst fs) := by rw [upd_ne (fun e => by rw [← e, hD3] at nq; cases nq)]; exact hD3
      have pa := pa.keep t5
      have dm := dm.keep t5
      generalize upd H3 q0 (.tup [u, .int 0]) = H5 at s5 hD5 hq pa dm ⊢
      have t6 := tups_upd (o := .lst (fs ++ [.ref q0])) hD5
      refine ⟨D, _, _, rfl, rfl, hD5, Nat.lt_of_le_of_lt (show fs.length ≤ 1000 by omega) (by decide), _, _, _, rfl, same_upd s5 nD, upd_same, ?_⟩
      have pa := (pa.keep t6).app (PAt.nd (t6 _ _ hq) (dm.keep t6) PAt.nil)
      rw [et, argL_snoc, if_pos ⟨rfl, l0.mpr hi0⟩]
      simpa using pa
  · rintro σ H2 ⟨y, z, fs, rfl, sm, hD2, pa⟩
    rw [hul2, List.take_length] at pa
    have fl : fs.length ≤ 200 := by
      have k := pa.len
      have k3 := argL_len ks.l true
      rw [List.length_cons] at k
      omega
    refine ⟨_, rfl, by show 1 ≤ sizeLine; decide, fun b2 nb2 => ?_⟩
    have hD3 : upd H2 b2 (.lst [.str ")"]) D = some (.lst fs) := by rw [upd_ne (fun e => by rw [← e, hD2] at nb2; cases nb2)]; exact hD2
    refine ⟨D, b2, _, _, rfl, rfl, hD3, upd_same, ?_, fun c nc => ?_⟩
    · exact Nat.le_trans (show fs.length + 1 ≤ 1000 by omega) (by decide)
    have s3 := same_new (o := .lst [.str ")"]) nb2
    have s4 := same_new (o := .lst (fs ++ [.str ")"])) nc
    have s5 := (sm.trans s3).trans s4
    refine q c _ (.tx (x ++ "(") :: (argL ks.l true ++ [.tx ")"])) _ s5 ((sm.trans s3).free nc) upd_same ⟨?_, ?_, ?_, ⟨_, List.mem_cons_self ..⟩, ?_⟩
    · have := (pa.keep (Tups.of (s3.trans s4))).app (PAt.tx (x := ")") PAt.nil)
      simpa using this
    · intro p hp
      rcases List.mem_cons.mp hp with rfl | hp
      · refine ⟨?_, ?_⟩
        · have : tl (x ++ "(") = tl x ++ tl "(" := tl_append _ _
          rw [this]
          intro e
          exact absurd (List.append_eq_nil_iff.mp e).2 (by decide +kernel)
        · show (x ++ ("(" : Str)).length ≤ 100
          have : (x ++ ("(" : Str)).length = x.length + 1 := by rw [len_tl, tl_append, List.length_append, ← len_tl]; rfl
          omega
      · rcases List.mem_append.mp hp with hp | hp
        · exact argL_fn (fun n hn => by obtain ⟨j1, j2, j3⟩ := k2 n hn; exact ⟨j1, j2, by omega⟩) p hp
        · rw [List.mem_singleton.mp hp]
          exact ⟨by decide +kernel, by decide +kernel⟩
    · rw [tx_cal]
      show tl (x ++ "(") ++ pl (argL ks.l true ++ [.tx ")"]) = _
      rw [pl_app, ← argP_L, argP_l, tl_append]
      show _ ++ (_ ++ (tl ")" ++ [])) = _
      simp
    · have k3 := argL_len ks.l true
      simp only [List.length_cons, List.length_append, List.length_nil]
      omega
end

end Sn

namespace Sn
open PySem PySem.Spec PyProof.Rows L2 TL
/-! ### the pieces of a tree -/
theorem ifT {c : Bool} {A B : Prop} (h : c = true) (a : A) : if c = true then A else B := by rw [if_pos h]; exact a
theorem ifF {c : Bool} {A B : Prop} (h : c = false) (b : B) : if c = true then A else B := by rw [if_neg (by rw [h]; decide)]; exact b
def spPieces : Sp := fun vs H Q _ => ∃ (n : Nd) (v : V), vs = [v] ∧ Pt n ∧ DT H n.t.d v ∧ ∀ p us ps H', Same H H' → H p = none → H' p = some (.lst us) → Pcs H' us n.sh.tx ps → Q (.ref p) H'
theorem numW_tl (v : Int) : tl ((toString v : String) : Str) = numW v := rfl
theorem log2_ok {v : Int} (h : NumOk v) : v.natAbs.log2 < 1920 := by
  have h2 : v.natAbs < 2 ^ 32 := by
    obtain ⟨h0, h1⟩ := h
    omega
  have : v.natAbs.log2 < 32 := by
    by_cases h0 : v.natAbs = 0
    · rw [h0]; decide
    · exact (Nat.log2_lt h0).mpr h2
  omega
theorem nam_len {x : Str} (h : NamOk x) : x.length ≤ 25 := by rw [len_tl]; exact h.2.2
theorem nam_ne {x : Str} (h : NamOk x) : tl x ≠ [] := tk_ne h.2.1
/-- new pairs and lists -/
theorem new2 {H : Hp} {t : Addr} {o : HO} (nt : H t = none) : ∃ H1, H1 = upd H t o ∧ Same H H1 ∧ H1 t = some o := ⟨_, rfl, same_new nt, upd_same⟩
theorem fn_tx {x : Str} (h1 : tl x ≠ []) (h2 : x.length ≤ 100) : (Pie.tx x).fn := ⟨h1, h2⟩
theorem fn_lit {x : Str} (h : (decide (tl x ≠ []) && decide (x.length ≤ 100)) = true) : (Pie.tx x).fn := by
  rw [Bool.and_eq_true] at h
  exact ⟨of_decide_eq_true h.1, of_decide_eq_true h.2⟩
theorem len_app (x y : Str) : (x ++ y).length = x.length + y.length := by rw [len_tl, tl_append, List.length_append, ← len_tl, ← len_tl]
theorem at5 {a b c d e g : V} {r : List V} : atI (a :: b :: c :: d :: e :: g :: r) 5 = some g := at_of (show (5 : Int) = ((5 : Nat) : Int) from rfl) rfl
theorem at6 {a b c d e g h : V} {r : List V} : atI (a :: b :: c :: d :: e :: g :: h :: r) 6 = some h := at_of (show (6 : Int) = ((6 : Nat) : Int) from rfl) rfl
theorem at7 {a b c d e g h i : V} {r : List V} : atI (a :: b :: c :: d :: e :: g :: h :: i :: r) 7 = some i := at_of (show (7 : Int) = ((7 : Nat) : Int) from rfl) rfl
theorem all1 {P : Pie → Prop} {a : Pie} (h : P a) : ∀ p ∈ [a], P p := fun p hp => by rw [List.mem_singleton.mp hp]; exact h
theorem allc {P : Pie → Prop} {a : Pie} {l : List Pie} (h : P a) (g : ∀ p ∈ l, P p) : ∀ p ∈ a :: l, P p := fun p hp => (List.mem_cons.mp hp).elim (fun e => e ▸ h) (g p)
section
variable {P : Program} {w : World} {K : PySem.W.Frag} {mg : Str → Option Value} {base : Heap} {f : Addr} {fd : FuncData} {aN aR aF aD : Addr} {t0 t1 t2 : PySem.Tok}
abbrev s_piecesF : Stmt := topS 36
abbrev N_piecesF : List Str := ["tree", "left", "right"]
theorem sc_piecesF : FnScope N_piecesF ["tree"] (defScope s_piecesF) := ⟨rfl, rfl, rfl, by decide +kernel, rfl, by decide +kernel, by decide +kernel⟩
theorem ok_pieces (F : Fun K "pieces" "pieces" s_piecesF f fd) (T : NmQ K w mg aN aR aF aD t0 t1 t2) (C_call_pieces : Cal P w K mg base CX0 1 "call_pieces" spCallP) : FnOk P w K mg base CX0 2 f fd ["tree"] spPieces := by
  refine F.ok sc_piecesF (fun vs H Q E h => ?_) (fun cdv A outer s H vs Q E hr h => ?_)
  · obtain ⟨n, v, rfl, _⟩ := h
    rfl
  obtain ⟨n, v, rfl, ⟨on, gn, fn, cn⟩, dn, q⟩ := h
  refine ⟨_, (pss_one (ps_match (pe_ix (r := rIxT K) ix_tup (pv 0) pe_int (fun _ _ => rfl)) (pcs_cons (pp_or (ppf_cons pp_str (ppf_cons pp_str ppf_nil)) rfl) (pss_one (ps_ret (pe_lst (pa_cons (pe_callTy call_strI (by rfl) T.str_ (by decide +kernel) (pa_cons (pe_ix (r := rIxT K) ix_tup (pv 0) pe_int (fun _ _ => rfl)) pa_nil)) pa_nil))))
    (pcs_cons pp_str (pss_one (ps_ret (pe_lst (pa_cons (pe_ix (r := rIxT K) ix_tup (pv 0) pe_int (fun _ _ => rfl)) pa_nil))))
    (pcs_cons pp_str (pss_one (ps_ret (pe_c C_call_pieces hr (by first | decide | omega) pass0 (pa_cons (pv 0) pa_nil))))
    (pcs_cons pp_str (pss_one (ps_ret (pe_lst (pa_cons (pe_tup (pa_cons (pe_ix (r := rIxT K) ix_tup (pv 0) pe_int (fun _ _ => rfl)) (pa_cons (pe_glob (v := .int 8) (by rfl) T.g_HIGHEST_printer ⟨_, rfl⟩) pa_nil))) (pa_cons (pe_op op_add_str pe_str (pe_ix (r := rIxT K) ix_tup (pv 0) pe_int (fun _ _ => rfl))) pa_nil)))))
    (pcs_cons pp_str (pss_cons (ps_asg (pe_ix (r := rIxD K w) ix_kdict (pe_glob (v := .ref aD) (by rfl) T.g_SIDES rfl) (pe_ix (r := rIxT K) ix_tup (pv 0) pe_int (fun _ _ => rfl)) (fun _ _ => rfl)) (pg_tup rfl (pgs_cons (pg_name (i := 1) sc_piecesF.nd rfl (Or.inl rfl)) (pgs_cons (pg_name (i := 2) sc_piecesF.nd rfl (Or.inl rfl)) pgs_nil))))
    (pss_one (ps_ret (pe_lst (pa_cons (pe_tup (pa_cons (pe_ix (r := rIxT K) ix_tup (pv 0) pe_int (fun _ _ => rfl)) (pa_cons (pv 1) pa_nil))) (pa_cons (pe_op op_add_str (pe_op op_add_str pe_str (pe_ix (r := rIxT K) ix_tup (pv 0) pe_int (fun _ _ => rfl))) pe_str) (pa_cons (pe_tup (pa_cons (pe_ix (r := rIxT K) ix_tup (pv 0) pe_int (fun _ _ => rfl)) (pa_cons (pv 2) pa_nil))) pa_nil)))))))
    (pcs_cons pp_str (pss_one (ps_ret (pe_lst (pa_cons pe_str (pa_cons (pe_tup (pa_cons (pe_ix (r := rIxT K) ix_tup (pv 0) pe_int (fun _ _ => rfl)) (pa_cons (pe_glob (v := .int 3) (by rfl) T.g_BEHIND_NOT ⟨_, rfl⟩) pa_nil))) pa_nil)))))
    (pcs_cons pp_str (pss_one (ps_ret (pe_lst (pa_cons pe_str (pa_cons (pe_tup (pa_cons (pe_ix (r := rIxT K) ix_tup (pv 0) pe_int (fun _ _ => rfl)) (pa_cons (pe_glob (v := .int 7) (by rfl) T.g_BEHIND_MINUS ⟨_, rfl⟩) pa_nil))) pa_nil)))))
    (pcs_cons pp_str (pss_one (ps_ret (pe_lst (pa_cons pe_str (pa_cons (pe_tup (pa_cons (pe_ix (r := rIxT K) ix_tup (pv 0) pe_int (fun _ _ => rfl)) (pa_cons pe_int pa_nil))) (pa_cons pe_str (pa_cons (pe_tup (pa_cons (pe_ix (r := rIxT K) ix_tup (pv 0) pe_int (fun _ _ => rfl)) (pa_cons pe_int pa_nil))) (pa_cons pe_str (pa_cons (pe_tup (pa_cons (pe_ix (r := rIxT K) ix_tup (pv 0) pe_int (fun _ _ => rfl)) (pa_cons pe_int pa_nil))) pa_nil)))))))))
    (pcs_cons pp_str (pss_one (ps_ret (pe_lst (pa_cons (pe_op op_add_str (pe_op op_add_str pe_str (pe_ix (r := rIxT K) ix_tup (pv 0) pe_int (fun _ _ => rfl))) pe_str) (pa_cons (pe_tup (pa_cons (pe_ix (r := rIxT K) ix_tup (pv 0) pe_int (fun _ _ => rfl)) (pa_cons pe_int pa_nil))) (pa_cons pe_str (pa_cons (pe_tup (pa_cons (pe_ix (r := rIxT K) ix_tup (pv 0) pe_int (fun _ _ => rfl)) (pa_cons pe_int pa_nil))) pa_nil)))))))
    (pcs_cons pp_any (pss_one (ps_ret (pe_lst (pa_cons (pe_op op_add_str (pe_op op_add_str pe_str (pe_ix (r := rIxT K) ix_tup (pv 0) pe_int (fun _ _ => rfl))) pe_str) (pa_cons (pe_tup (pa_cons (pe_ix (r := rIxT K) ix_tup (pv 0) pe_int (fun _ _ => rfl)) (pa_cons pe_int pa_nil))) (pa_cons pe_str (pa_cons (pe_tup (pa_cons (pe_ix (r := rIxT K) ix_tup (pv 0) pe_int (fun _ _ => rfl)) (pa_cons pe_int pa_nil))) (pa_cons pe_str (pa_cons (pe_tup (pa_cons (pe_ix (r := rIxT K) ix_tup (pv 0) pe_int (fun _ _ => rfl)) (pa_cons pe_int pa_nil))) pa_nil)))))))))
    pcs_nil)))))))))))), ?_⟩
  have small : ∀ {m : Nat}, m ≤ 200 → m ≤ sizeLine := fun h => Nat.le_trans h (by decide)
  revert gn fn cn dn q
  refine Nd.cases_ (P := fun n => n.grp = false → n.sh.fine → n.sh.nc ≤ 92 → DT H n.t.d v → (∀ p us ps H', Same H H' → H p = none → H' p = some (.lst us) → Pcs H' us n.sh.tx ps → Q (.ref p) H') → _) n on ?_ ?_ ?_ ?_ ?_ ?_ ?_ ?_ ?_ ?_ ?_ ?_
  · intro s0 e0 x gn fn cn dn q
    rw [sh_num] at fn q
    rw [Sh.fine] at fn
    rw [nd_t, Ns.ds_nil] at dn
    obtain ⟨p, r, rfl, hp, dr, lr⟩ := Tn.at_ dn
    obtain ⟨u, rfl, d1⟩ := dts1 dr
    have e1 := dt_int d1
    subst e1
    refine ⟨_, rfl, p, _, _, _, rfl, rfl, SqT.of hp, at0, "number", rfl, ?_⟩
    refine ifT (by decide +kernel) ?_
    refine ⟨_, rfl, p, _, _, _, rfl, rfl, SqT.of hp, at3, .inl ⟨x, rfl, log2_ok fn, by show 1 ≤ sizeLine; decide, fun l nl => ?_⟩⟩
    refine q l _ [.tx (toString x)] _ (same_new nl) nl upd_same ⟨PAt.nil.tx, all1 (fn_tx fn.all.2.2.2.2.1 ?_), ?_, ⟨_, List.mem_cons_self ..⟩, by show 1 ≤ 200; decide⟩
    · rw [len_tl]
      exact Nat.le_trans fn.all.2.2.1 (by decide)
    · rw [tx_num]
      exact List.append_nil _
  · intro s0 e0 x gn fn cn dn q
    rw [sh_tru] at q
    rw [nd_t, Ns.ds_nil] at dn
    obtain ⟨p, r, rfl, hp, dr, lr⟩ := Tn.at_ dn
    obtain ⟨u, rfl, d1⟩ := dts1 dr
    have e1 := dt_bl d1
    subst e1
    refine ⟨_, rfl, p, _, _, _, rfl, rfl, SqT.of hp, at0, "truth", rfl, ?_⟩
    refine ifT (by decide +kernel) ?_
    refine ⟨_, rfl, p, _, _, _, rfl, rfl, SqT.of hp, at3, .inr ⟨x, rfl, by show 1 ≤ sizeLine; decide, fun l nl => ?_⟩⟩
    refine q l _ [.tx (if x then "True" else "False")] _ (same_new nl) nl upd_same ⟨PAt.nil.tx, all1 (fn_lit (by cases x <;> decide +kernel)), ?_, ⟨_, List.mem_cons_self ..⟩, by show 1 ≤ 200; decide⟩
    rw [tx_tru]
    cases x
    · exact List.append_nil _
    · exact List.append_nil _
  · intro s0 e0 x gn fn cn dn q
    rw [sh_nam] at fn q
    rw [Sh.fine] at fn
    rw [nd_t, Ns.ds_nil] at dn
    obtain ⟨p, r, rfl, hp, dr, lr⟩ := Tn.at_ dn
    obtain ⟨u, rfl, d1⟩ := dts1 dr
    have e1 := dt_str d1
    subst e1
    refine ⟨_, rfl, p, _, _, _, rfl, rfl, SqT.of hp, at0, "name", rfl, ?_⟩
    refine ifF (by decide +kernel) ?_
    refine ifT (by decide +kernel) ?_
    refine ⟨_, rfl, p, _, _, _, rfl, rfl, SqT.of hp, at3, by show 1 ≤ sizeLine; decide, fun l nl => ?_⟩
    have := nam_len fn
    refine q l _ [.tx x] _ (same_new nl) nl upd_same ⟨PAt.nil.tx, all1 (fn_tx (nam_ne fn) (by omega)), ?_, ⟨_, List.mem_cons_self ..⟩, by show 1 ≤ 200; decide⟩
    rw [tx_nam]
    exact List.append_nil _
  · intro s0 e0 x ks ok gn fn cn dn q
    rw [sh_cal] at fn cn q
    obtain ⟨p, r, rfl, hp, dr, lr⟩ := Tn.at_ dn
    rw [call_nd] at hp
    refine ⟨_, rfl, p, _, _, _, rfl, rfl, SqT.of hp, at0, "call", rfl, ?_⟩
    iterate 2 refine ifF (by decide +kernel) ?_
    refine ifT (by decide +kernel) ?_
    exact ⟨_, rfl, s0, e0, x, ks, _, rfl, ok, fn, cn, dn, q⟩
  · intro s0 e0 x a oa gn fn cn dn q
    rw [sh_fld] at fn cn q
    rw [Sh.fine] at fn
    rw [Sh.nc] at cn
    rw [nd_t, (nk1_all a).1] at dn
    obtain ⟨p, r, rfl, hp, dr, lr⟩ := Tn.at_ dn
    obtain ⟨va, r1, rfl, d1, d2⟩ := dtsC dr
    obtain ⟨u, rfl, d3⟩ := dts1 d2
    have e1 := dt_str d3
    subst e1
    refine ⟨_, rfl, p, _, _, _, rfl, rfl, SqT.of hp, at0, "field", rfl, ?_⟩
    iterate 3 refine ifF (by decide +kernel) ?_
    refine ifT (by decide +kernel) ?_
    refine ⟨_, rfl, p, _, _, _, rfl, rfl, SqT.of hp, at3, by show 2 ≤ sizeLine; decide, fun t1 nt1 => ?_⟩
    obtain ⟨H1, e1, s1, h1⟩ := new2 (o := .tup [va, .int 8]) nt1
    rw [← e1]
    have := nam_len fn.1
    refine ⟨_, rfl, p, _, _, _, rfl, rfl, SqT.of (s1 _ _ hp), at4, ".", x, rfl, rfl, small (show 1 + x.length ≤ 200 by omega), by show 2 ≤ sizeLine; decide, fun l nl => ?_⟩
    have s2 := s1.trans (same_new (o := .lst [.ref t1, .str ("." ++ x)]) nl)
    have t12 := Tups.of s2
    refine q l _ [.nd a 8, .tx ("." ++ x)] _ s2 (s1.free nl) upd_same ⟨PAt.nd (same_new nl _ _ h1) (d1.keep t12) PAt.nil.tx, allc ⟨oa, fn.2.2, by omega⟩ (all1 (fn_tx ?_ ?_)), ?_, ⟨_, List.mem_cons_of_mem _ (List.mem_cons_self ..)⟩, by show 2 ≤ 200; decide⟩
    · rw [tl_append]
      exact fun e => absurd (List.append_eq_nil_iff.mp e).1 (by decide +kernel)
    · rw [len_app]
      show 1 + x.length ≤ 100
      omega
    · rw [tx_fld]
      show ptx 8 a.sh ++ (tl ("." ++ x) ++ []) = _
      rw [tl_append, List.append_nil]
  · intro s0 e0 a oa gn
    cases gn
  · intro s0 e0 a oa gn fn cn dn q
    rw [sh_nt] at fn cn q
    rw [Sh.fine] at fn
    rw [Sh.nc] at cn
    rw [nd_t, (nk1_all a).1] at dn
    obtain ⟨p, r, rfl, hp, dr, lr⟩ := Tn.at_ dn
    obtain ⟨va, rfl, d1⟩ := dts1 dr
    refine ⟨_, rfl, p, _, _, _, rfl, rfl, SqT.of hp, at0, "not", rfl, ?_⟩
    iterate 5 refine ifF (by decide +kernel) ?_
    refine ifT (by decide +kernel) ?_
    refine ⟨_, rfl, p, _, _, _, rfl, rfl, SqT.of hp, at3, by show 2 ≤ sizeLine; decide, fun t1 nt1 => ?_⟩
    obtain ⟨H1, e1, s1, h1⟩ := new2 (o := .tup [va, .int 3]) nt1
    rw [← e1]
    refine ⟨by show 2 ≤ sizeLine; decide, fun l nl => ?_⟩
    have s2 := s1.trans (same_new (o := .lst [.str "not ", .ref t1]) nl)
    refine q l _ [.tx "not ", .nd a 3] _ s2 (s1.free nl) upd_same ⟨(PAt.nd (same_new nl _ _ h1) (d1.keep (Tups.of s2)) PAt.nil).tx, allc (fn_lit (by decide +kernel)) (all1 ⟨oa, fn, by omega⟩), ?_, ⟨_, List.mem_cons_self ..⟩, by show 2 ≤ 200; decide⟩
    rw [tx_nt]
    show tl "not " ++ (ptx 3 a.sh ++ []) = _
    rw [List.append_nil, show tl "not " = tl "not" ++ [32] by decide +kernel]
  · intro s0 e0 a oa gn fn cn dn q
    rw [sh_mn] at fn cn q
    rw [Sh.fine] at fn
    rw [Sh.nc] at cn
    rw [nd_t, (nk1_all a).1] at dn
    obtain ⟨p, r, rfl, hp, dr, lr⟩ := Tn.at_ dn
    obtain ⟨va, rfl, d1⟩ := dts1 dr
    refine ⟨_, rfl, p, _, _, _, rfl, rfl, SqT.of hp, at0, "minus", rfl, ?_⟩
    iterate 6 refine ifF (by decide +kernel) ?_
    refine ifT (by decide +kernel) ?_
    refine ⟨_, rfl, p, _, _, _, rfl, rfl, SqT.of hp, at3, by show 2 ≤ sizeLine; decide, fun t1 nt1 => ?_⟩
    obtain ⟨H1, e1, s1, h1⟩ := new2 (o := .tup [va, .int 7]) nt1
    rw [← e1]
    refine ⟨by show 2 ≤ sizeLine; decide, fun l nl => ?_⟩
    have s2 := s1.trans (same_new (o := .lst [.str "-", .ref t1]) nl)
    refine q l _ [.tx "-", .nd a 7] _ s2 (s1.free nl) upd_same ⟨(PAt.nd (same_new nl _ _ h1) (d1.keep (Tups.of s2)) PAt.nil).tx, allc (fn_lit (by decide +kernel)) (all1 ⟨oa, fn, by omega⟩), ?_, ⟨_, List.mem_cons_self ..⟩, by show 2 ≤ 200; decide⟩
    rw [tx_mn]
    show tl "-" ++ (ptx 7 a.sh ++ []) = _
    rw [List.append_nil]
  · intro s0 e0 x a c _ oa oc gn fn cn dn q
    rw [sh_bin] at fn cn q
    rw [Sh.fine] at fn
    rw [Sh.nc] at cn
    rw [nd_t, (nk2_all a c).1] at dn
    obtain ⟨p, r, rfl, hp, dr, lr⟩ := Tn.at_ dn
    obtain ⟨u, r1, rfl, d0, d2⟩ := dtsC dr
    have e1 := dt_str d0
    subst e1
    obtain ⟨va, r2, rfl, d1, d3⟩ := dtsC d2
    obtain ⟨vc, rfl, d4⟩ := dts1 d3
    refine ⟨_, rfl, p, _, _, _, rfl, rfl, SqT.of hp, at0, "binary", rfl, ?_⟩
    iterate 4 refine ifF (by decide +kernel) ?_
    refine ifT (by decide +kernel) ?_
    obtain ⟨pp, hkd, hpp⟩ := T.sides x fn.1.1
    have xl := ops_len _ fn.1.1
    rw [← len_tl] at xl
    refine ⟨_, rfl, p, _, _, _, rfl, rfl, SqT.of hp, at3, aD, _, _, rfl, rfl, hkd, ?_⟩
    refine ⟨pp, _, rfl, hpp H, rfl, _, _, rfl, _, _, rfl, rfl, ?_⟩
    refine ⟨_, rfl, p, _, _, _, rfl, rfl, SqT.of hp, at4, _, rfl, by show 2 ≤ sizeLine; decide, fun t1 nt1 => ?_⟩
    obtain ⟨H1, e1, s1, h1⟩ := new2 (o := .tup [va, .int (lpR (Src.rank (tl x)) : Nat)]) nt1
    rw [← e1]
    refine ⟨_, rfl, p, _, _, _, rfl, rfl, SqT.of (s1 _ _ hp), at3, " ", x, rfl, rfl, small (show 1 + x.length ≤ 200 by omega), _, " ", rfl, rfl, small (by rw [len_app]; show 1 + x.length + 1 ≤ 200; omega), ?_⟩
    refine ⟨_, rfl, p, _, _, _, rfl, rfl, SqT.of (s1 _ _ hp), at5, _, rfl, by show 2 ≤ sizeLine; decide, fun t2 nt2 => ?_⟩
    obtain ⟨H2, e2, s2, h2⟩ := new2 (o := .tup [vc, .int (rpR (Src.rank (tl x)) : Nat)]) nt2
    rw [← e2]
    refine ⟨by show 3 ≤ sizeLine; decide, fun l nl => ?_⟩
    have s3 := same_new (o := .lst [.ref t1, .str (" " ++ x ++ " "), .ref t2]) nl
    have s13 := (s1.trans s2).trans s3
    refine q l _ [.nd a (lpR (Src.rank (tl x))), .tx (" " ++ x ++ " "), .nd c (rpR (Src.rank (tl x)))] _ s13 ((s1.trans s2).free nl) upd_same ⟨PAt.nd (s3 _ _ (s2 _ _ h1)) (d1.keep (Tups.of s13)) (PAt.nd (s3 _ _ h2) (d4.keep (Tups.of s13)) PAt.nil).tx, allc ⟨oa, fn.2.1, by omega⟩ (allc (fn_tx ?_ ?_) (all1 ⟨oc, fn.2.2, by omega⟩)), ?_, ⟨_, List.mem_cons_of_mem _ (List.mem_cons_self ..)⟩, by show 3 ≤ 200; decide⟩
    · rw [tl_append]
      exact fun e => absurd (List.append_eq_nil_iff.mp e).2 (by decide +kernel)
    · rw [len_app, len_app]
      show 1 + x.length + 1 ≤ 100
      omega
    · rw [tx_bin]
      show ptx _ a.sh ++ (tl (" " ++ x ++ " ") ++ (ptx _ c.sh ++ [])) = _
      rw [tl_append, tl_append, List.append_nil]
      rfl
  · intro s0 e0 a c d oa oc od gn fn cn dn q
    rw [sh_ite] at fn cn q
    rw [Sh.fine] at fn
    rw [Sh.nc] at cn
    rw [nd_t, (nk3_all a c d).1] at dn
    obtain ⟨p, r, rfl, hp, dr, lr⟩ := Tn.at_ dn
    obtain ⟨va, r1, rfl, d1, dr1⟩ := dtsC dr
    obtain ⟨vc, r2, rfl, d2, dr2⟩ := dtsC dr1
    obtain ⟨vd, rfl, d3⟩ := dts1 dr2
    refine ⟨_, rfl, p, _, _, _, rfl, rfl, SqT.of hp, at0, "if", rfl, ?_⟩
    iterate 7 refine ifF (by decide +kernel) ?_
    refine ifT (by decide +kernel) ?_
    refine ⟨_, rfl, p, _, _, _, rfl, rfl, SqT.of hp, at3, by show 2 ≤ sizeLine; decide, fun t1 nt1 => ?_⟩
    obtain ⟨H1, e1, s1, h1⟩ := new2 (o := .tup [va, .int 0]) nt1
    rw [← e1]
    refine ⟨_, rfl, p, _, _, _, rfl, rfl, SqT.of (s1 _ _ hp), at4, by show 2 ≤ sizeLine; decide, fun t2 nt2 => ?_⟩
    obtain ⟨H2, e2, s2, h2⟩ := new2 (o := .tup [vc, .int 0]) nt2
    rw [← e2]
    refine ⟨_, rfl, p, _, _, _, rfl, rfl, SqT.of (s2 _ _ (s1 _ _ hp)), at5, by show 2 ≤ sizeLine; decide, fun t3 nt3 => ?_⟩
    obtain ⟨H3, e3, s3, h3⟩ := new2 (o := .tup [vd, .int 0]) nt3
    rw [← e3]
    refine ⟨by show 6 ≤ sizeLine; decide, fun l nl => ?_⟩
    have s4 := same_new (o := .lst [.str "if ", .ref t1, .str " then ", .ref t2, .str " else ", .ref t3]) nl
    have s13 := (s1.trans s2).trans s3
    have s14 := s13.trans s4
    have tt := Tups.of s14
    refine q l _ [.tx "if ", .nd a 0, .tx " then ", .nd c 0, .tx " else ", .nd d 0] _ s14 (s13.free nl) upd_same ⟨?_, allc (fn_lit (by decide +kernel)) (allc ⟨oa, fn.1, by omega⟩ (allc (fn_lit (by decide +kernel)) (allc ⟨oc, fn.2.1, by omega⟩ (allc (fn_lit (by decide +kernel)) (all1 ⟨od, fn.2.2, by omega⟩))))), ?_, ⟨_, List.mem_cons_self ..⟩, by show 6 ≤ 200; decide⟩
    · exact (PAt.nd (s4 _ _ (s3 _ _ (s2 _ _ h1))) (d1.keep tt) (PAt.nd (s4 _ _ (s3 _ _ h2)) (d2.keep tt) (PAt.nd (s4 _ _ h3) (d3.keep tt) PAt.nil).tx).tx).tx
    · rw [tx_ite]
      show tl "if " ++ (ptx 0 a.sh ++ (tl " then " ++ (ptx 0 c.sh ++ (tl " else " ++ (ptx 0 d.sh ++ []))))) = _
      rw [ptx0, ptx0, ptx0, List.append_nil, show tl "if " = tl "if" ++ [32] by decide +kernel, show tl " then " = [32] ++ tl "then" ++ [32] by decide +kernel, show tl " else " = [32] ++ tl "else" ++ [32] by decide +kernel]
      simp only [List.append_assoc]
  · intro s0 e0 x i a c oa oc gn fn cn dn q
    rw [sh_lt] at fn cn q
    rw [Sh.fine] at fn
    rw [Sh.nc] at cn
    rw [nd_t, (nk2_all a c).1] at dn
    obtain ⟨p, r, rfl, hp, dr, lr⟩ := Tn.at_ dn
    obtain ⟨u, q1, rfl, d0, dq1⟩ := dtsC dr
    have e0 := dt_str d0
    subst e0
    obtain ⟨u, q2, rfl, d0', dq2⟩ := dtsC dq1
    have e0 := dt_int d0'
    subst e0
    obtain ⟨va, r1, rfl, d1, dr1⟩ := dtsC dq2
    obtain ⟨vc, rfl, d2⟩ := dts1 dr1
    have xl := nam_len fn.1
    refine ⟨_, rfl, p, _, _, _, rfl, rfl, SqT.of hp, at0, "let", rfl, ?_⟩
    iterate 8 refine ifF (by decide +kernel) ?_
    refine ifT (by decide +kernel) ?_
    refine ⟨_, rfl, p, _, _, _, rfl, rfl, SqT.of hp, at3, "let ", x, rfl, rfl, small (show 4 + x.length ≤ 200 by omega), _, " = ", rfl, rfl, small (by rw [len_app]; show 4 + x.length + 3 ≤ 200; omega), ?_⟩
    refine ⟨_, rfl, p, _, _, _, rfl, rfl, SqT.of hp, at5, by show 2 ≤ sizeLine; decide, fun t1 nt1 => ?_⟩
    obtain ⟨H1, e1, s1, h1⟩ := new2 (o := .tup [va, .int 0]) nt1
    rw [← e1]
    refine ⟨_, rfl, p, _, _, _, rfl, rfl, SqT.of (s1 _ _ hp), at6, by show 2 ≤ sizeLine; decide, fun t2 nt2 => ?_⟩
    obtain ⟨H2, e2, s2, h2⟩ := new2 (o := .tup [vc, .int 0]) nt2
    rw [← e2]
    refine ⟨by show 4 ≤ sizeLine; decide, fun l nl => ?_⟩
    have s4 := same_new (o := .lst [.str ("let " ++ x ++ " = "), .ref t1, .str " in ", .ref t2]) nl
    have s13 := s1.trans s2
    have s14 := s13.trans s4
    have tt := Tups.of s14
    refine q l _ [.tx ("let " ++ x ++ " = "), .nd a 0, .tx " in ", .nd c 0] _ s14 (s13.free nl) upd_same ⟨?_, allc (fn_tx ?_ ?_) (allc ⟨oa, fn.2.1, by omega⟩ (allc (fn_lit (by decide +kernel)) (all1 ⟨oc, fn.2.2, by omega⟩))), ?_, ⟨_, List.mem_cons_self ..⟩, by show 4 ≤ 200; decide⟩
    · exact (PAt.nd (s4 _ _ (s2 _ _ h1)) (d1.keep tt) (PAt.nd (s4 _ _ h2) (d2.keep tt) PAt.nil).tx).tx
    · rw [tl_append]
      exact fun e => absurd (List.append_eq_nil_iff.mp e).2 (by decide +kernel)
    · rw [len_app, len_app]
      show 4 + x.length + 3 ≤ 100
      omega
    · rw [tx_lt]
      show tl ("let " ++ x ++ " = ") ++ (ptx 0 a.sh ++ (tl " in " ++ (ptx 0 c.sh ++ []))) = _
      rw [ptx0, ptx0, List.append_nil, tl_append, tl_append, show tl "let " = tl "let" ++ [32] by decide +kernel, show tl " = " = [32] ++ tl "=" ++ [32] by decide +kernel, show tl " in " = [32] ++ tl "in" ++ [32] by decide +kernel]
      simp only [List.append_assoc]
  · intro s0 e0 x i a c d oa oc od gn fn cn dn q
    rw [sh_lp] at fn cn q
    rw [Sh.fine] at fn
    rw [Sh.nc] at cn
    rw [nd_t, (nk3_all a c d).1] at dn
    obtain ⟨p, r, rfl, hp, dr, lr⟩ := Tn.at_ dn
    obtain ⟨u, q1, rfl, d0, dq1⟩ := dtsC dr
    have e0 := dt_str d0
    subst e0
    obtain ⟨u, q2, rfl, d0', dq2⟩ := dtsC dq1
    have e0 := dt_int d0'
    subst e0
    obtain ⟨va, r1, rfl, d1, dr1⟩ := dtsC dq2
    obtain ⟨vc, r2, rfl, d2, dr2⟩ := dtsC dr1
    obtain ⟨vd, rfl, d3⟩ := dts1 dr2
    have xl := nam_len fn.1
    refine ⟨_, rfl, p, _, _, _, rfl, rfl, SqT.of hp, at0, "loop", rfl, ?_⟩
    iterate 9 refine ifF (by decide +kernel) ?_
    refine ifT rfl ?_
    refine ⟨_, rfl, p, _, _, _, rfl, rfl, SqT.of hp, at3, "loop ", x, rfl, rfl, small (show 5 + x.length ≤ 200 by omega), _, " = ", rfl, rfl, small (by rw [len_app]; show 5 + x.length + 3 ≤ 200; omega), ?_⟩
    refine ⟨_, rfl, p, _, _, _, rfl, rfl, SqT.of hp, at5, by show 2 ≤ sizeLine; decide, fun t1 nt1 => ?_⟩
    obtain ⟨H1, e1, s1, h1⟩ := new2 (o := .tup [va, .int 0]) nt1
    rw [← e1]
    refine ⟨_, rfl, p, _, _, _, rfl, rfl, SqT.of (s1 _ _ hp), at6, by show 2 ≤ sizeLine; decide, fun t2 nt2 => ?_⟩
    obtain ⟨H2, e2, s2, h2⟩ := new2 (o := .tup [vc, .int 0]) nt2
    rw [← e2]
    refine ⟨_, rfl, p, _, _, _, rfl, rfl, SqT.of (s2 _ _ (s1 _ _ hp)), at7, by show 2 ≤ sizeLine; decide, fun t3 nt3 => ?_⟩
    obtain ⟨H3, e3, s3, h3⟩ := new2 (o := .tup [vd, .int 0]) nt3
    rw [← e3]
    refine ⟨by show 6 ≤ sizeLine; decide, fun l nl => ?_⟩
    have s4 := same_new (o := .lst [.str ("loop " ++ x ++ " = "), .ref t1, .str " times ", .ref t2, .str " do ", .ref t3]) nl
    have s13 := (s1.trans s2).trans s3
    have s14 := s13.trans s4
    have tt := Tups.of s14
    refine q l _ [.tx ("loop " ++ x ++ " = "), .nd a 0, .tx " times ", .nd c 0, .tx " do ", .nd d 0] _ s14 (s13.free nl) upd_same ⟨?_, allc (fn_tx ?_ ?_) (allc ⟨oa, fn.2.1, by omega⟩ (allc (fn_lit (by decide +kernel)) (allc ⟨oc, fn.2.2.1, by omega⟩ (allc (fn_lit (by decide +kernel)) (all1 ⟨od, fn.2.2.2, by omega⟩))))), ?_, ⟨_, List.mem_cons_self ..⟩, by show 6 ≤ 200; decide⟩
    · exact (PAt.nd (s4 _ _ (s3 _ _ (s2 _ _ h1))) (d1.keep tt) (PAt.nd (s4 _ _ (s3 _ _ h2)) (d2.keep tt) (PAt.nd (s4 _ _ h3) (d3.keep tt) PAt.nil).tx).tx).tx
    · rw [tl_append]
      exact fun e => absurd (List.append_eq_nil_iff.mp e).2 (by decide +kernel)
    · rw [len_app, len_app]
      show 5 + x.length + 3 ≤ 100
      omega
    · rw [tx_lp]
      show tl ("loop " ++ x ++ " = ") ++ (ptx 0 a.sh ++ (tl " times " ++ (ptx 0 c.sh ++ (tl " do " ++ (ptx 0 d.sh ++ []))))) = _
      rw [ptx0, ptx0, ptx0, List.append_nil, tl_append, tl_append, show tl "loop " = tl "loop" ++ [32] by decide +kernel, show tl " = " = [32] ++ tl "=" ++ [32] by decide +kernel, show tl " times " = [32] ++ tl "times" ++ [32] by decide +kernel, show tl " do " = [32] ++ tl "do" ++ [32] by decide +kernel]
      simp only [List.append_assoc]
end

end Sn

namespace Sn
open PySem PySem.Spec PyProof.Rows L2 TL
/-! ### print_value -/
def spPrint : Sp := fun vs H Q _ => ∃ (n : Nd) (v : V), vs = [v] ∧ n.ok ∧ n.sh.fine ∧ n.sh.nc ≤ 92 ∧ n.sh.tx.length ≤ 10000 ∧ DT H n.t.d v ∧ ∀ z H', Same H H' → tl z = n.sh.tx → Q (.str z) H'
theorem cw_ne (s : Sh) (b : Nat) : s.cw b ≠ [] := by
  cases s <;> rw [Sh.cw] <;> simp
theorem Sh.tx_ne {s : Sh} (h : s.fine) : s.tx ≠ [] := by
  have k := Sh.ww s h 0 true (by decide) (.inr rfl)
  have k2 := cw_ne s 0
  unfold Sh.tx
  revert k k2
  generalize s.cw 0 = x
  intro k k2
  cases x with
  | nil => exact absurd rfl k2
  | cons p r =>
    obtain ⟨_, ⟨_, h2, _⟩, _⟩ := k
    have h3 := tk_ne h2
    intro e
    have e : gp p.1 ++ (p.2 ++ txt r) = [] := e
    exact h3 (List.append_eq_nil_iff.mp (List.append_eq_nil_iff.mp e).2).1
theorem ptx_pos {s : Sh} (h : s.fine) (r : Nat) : 1 ≤ (ptx r s).length := by
  have := List.length_pos_iff.mpr (Sh.tx_ne h)
  unfold ptx
  split
  · rw [List.length_append]
    show 1 ≤ 1 + _
    omega
  · omega
theorem pm_len : ∀ {ps : List Pie}, (∀ p ∈ ps, p.fn) → ps.length ≤ pm ps
  | [], _ => Nat.le_refl _
  | p :: r, h => by
    have k := pm_len (ps := r) fun q hq => h q (List.mem_cons_of_mem _ hq)
    have k2 : 1 ≤ p.m := by
      have h1 := h p (List.mem_cons_self ..)
      cases p with
      | tx x => exact Nat.le_refl 1
      | nd n q =>
        have := ptx_pos h1.2.1 q
        show 1 ≤ 3 * _
        omega
    show r.length + 1 ≤ p.m + pm r
    omega
theorem pl_pos : ∀ {ps : List Pie}, (∀ p ∈ ps, p.fn) → pm ps ≤ 3 * (pl ps).length := fun h => pm_le fun p hp => (h p hp).fit
theorem sum_tl : ∀ fs : List Str, (fs.map (·.length)).sum = ((fs.map tl).flatten).length
  | [] => rfl
  | x :: r => by
    rw [List.map_cons, List.sum_cons, List.map_cons, List.flatten_cons, List.length_append, sum_tl r, len_tl]
theorem fn_app {ps qs : List Pie} (h : ∀ p ∈ ps, p.fn) (g : ∀ p ∈ qs, p.fn) : ∀ p ∈ ps ++ qs, p.fn := fun p hp => (List.mem_append.mp hp).elim (h p) (g p)
/-- what the loop keeps -/
def PLoop (H : Hp) (v : V) (D W : Addr) (l : List Nat) (m : Nat) (σ : L2.St) (H' : Hp) : Prop :=
  ∃ (a b c : Option V) (fs : List Str) (ws : List V) (pend : List Pie), m = pm pend ∧ σ = [some v, some (.ref D), some (.ref W), a, b, c] ∧ Same H H' ∧ H' D = some (.lst (fs.map V.str)) ∧ H' W = some (.lst ws) ∧ PAt H' pend ws.reverse ∧ (∀ p ∈ pend, p.fn) ∧ (fs.map tl).flatten ++ pl pend = l ∧ fs.length + pm pend ≤ 30000
/-- the pieces of a tree in its place instead of the tree -/
theorem PLoop.step {H : Hp} {v : V} {D W : Addr} {l : List Nat} {H' : Hp} {a b c : Option V} {fs : List Str} {ws us : List V} {n : Nd} {r : Nat} {pend ps : List Pie} (sm : Same H H') (hD : H' D = some (.lst (fs.map V.str))) (hW : H' W = some (.lst (ws ++ us.reverse))) (pw : PAt H' pend ws.reverse) (pu : PAt H' ps us)
    (fp : ∀ p ∈ pend, p.fn) (fu : ∀ p ∈ ps, p.fn) (tx : ∃ t, Pie.tx t ∈ ps) (e : pl ps = ptx r n.sh) (el : (fs.map tl).flatten ++ pl (.nd n r :: pend) = l) (bd : fs.length + pm (.nd n r :: pend) ≤ 30000) :
    ∃ m', m' < pm (.nd n r :: pend) ∧ PLoop H v D W l m' [some v, some (.ref D), some (.ref W), a, b, c] H' := by
  obtain ⟨t, ht⟩ := tx
  have k := pm_lt (fun p hp => (fu p hp).fit) ht
  have k2 : pm (.nd n r :: pend) = 3 * (ptx r n.sh).length + pm pend := rfl
  refine ⟨pm (ps ++ pend), ?_, a, b, c, fs, ws ++ us.reverse, ps ++ pend, rfl, rfl, sm, hD, hW, ?_, fn_app fu fp, ?_, ?_⟩
  · rw [pm_app, k2, ← e]
    omega
  · rw [List.reverse_append, List.reverse_reverse]
    exact pu.app pw
  · rw [pl_app, e, ← el]
    rfl
  · rw [pm_app]
    rw [k2, ← e] at bd
    omega
section
variable {P : Program} {w : World} {K : PySem.W.Frag} {mg : Str → Option Value} {base : Heap} {f : Addr} {fd : FuncData} {aN aR aF aD : Addr} {t0 t1 t2 : PySem.Tok}
abbrev s_printV : Stmt := topS 37
abbrev N_printV : List Str := ["tree", "found", "waiting", "piece", "inner", "row"]
theorem sc_printV : FnScope N_printV ["tree"] (defScope s_printV) := ⟨rfl, rfl, rfl, by decide +kernel, rfl, by decide +kernel, by decide +kernel⟩
theorem ok_print_value (F : Fun K "print_value" "print_value" s_printV f fd) (T : NmQ K w mg aN aR aF aD t0 t1 t2) (C_bare : Cal P w K mg base CX0 1 "bare" spBare) (C_rank : Cal P w K mg base CX0 1 "rank" spRank) (C_pieces : Cal P w K mg base CX0 2 "pieces" spPieces) :
    FnOk P w K mg base CX0 3 f fd ["tree"] spPrint := by
  refine F.ok sc_printV (fun vs H Q E h => ?_) (fun cdv A outer s H vs Q E hr h => ?_)
  · obtain ⟨n, v, rfl, _⟩ := h
    rfl
  obtain ⟨n, v, rfl, on, fn, cn, tn, dn, q⟩ := h
  refine ⟨_, (pss_cons (ps_set (i := 1) sc_printV.nd rfl (Or.inl rfl) (pe_lst pa_nil))
    (pss_cons (ps_set (i := 2) sc_printV.nd rfl (Or.inl rfl) (pe_lst (pa_cons (pe_tup (pa_cons (pv 0) (pa_cons pe_int pa_nil))) pa_nil)))
    (pss_cons (ps_while PassesOwn.never (pt_truth (pv 2) (by intro _; rfl)) (pss_cons (ps_set (i := 3) sc_printV.nd rfl (Or.inl rfl) (pe_bm0 PySem.F.plainAttrs_list PySem.F.slot_list_pop PySem.F.type_list_pop mt_pop (pv 2)))
    (pss_cons (ps_if (pt_val (pe_callB call_isi (by rfl) T.isinstance (by decide +kernel) (pa_cons (pv 3) (pa_cons (pe_bltn (v := .ty "str") (u := .type "str") (by rfl) T.str_ (by decide +kernel) rfl) pa_nil)))) (pss_cons (ps_expr (pe_bm PySem.F.plainAttrs_list PySem.F.slot_list_append PySem.F.type_list_append mt_append (pv 1) (pa_cons (pv 3) pa_nil)))
    (pss_one ps_continue)) pss_nil)
    (pss_cons (ps_set (i := 4) sc_printV.nd rfl (Or.inl rfl) (pe_c C_bare hr (by first | decide | omega) pass0 (pa_cons (pe_ix (r := rIxT K) ix_tup (pv 3) pe_int (fun _ _ => rfl)) pa_nil)))
    (pss_cons (ps_set (i := 5) sc_printV.nd rfl (Or.inl rfl) (pe_c C_pieces hr (by first | decide | omega) pass0 (pa_cons (pv 4) pa_nil)))
    (pss_cons (ps_if (pt_cmpR op_lt (pe_c C_rank hr (by first | decide | omega) pass0 (pa_cons (pv 4) pa_nil)) (pe_ix (r := rIxT K) ix_tup (pv 3) pe_int (fun _ _ => rfl)) (nomark _)) (pss_one (ps_set (i := 5) sc_printV.nd rfl (Or.inl rfl) (pe_op op_cat (pe_op op_cat (pe_lst (pa_cons pe_str pa_nil)) (pv 5)) (pe_lst (pa_cons pe_str pa_nil))))) pss_nil)
    (pss_one (ps_expr (pe_bm PySem.F.plainAttrs_list PySem.F.slot_list_extend PySem.F.type_list_extend mt_extend (pv 2) (pa_cons (pe_revL (pv 5)) pa_nil))))))))))
    (pss_one (ps_ret (pe_join pe_str (pv 1))))))), ?_⟩
  refine ⟨Nat.zero_le _, fun D nD => ?_⟩
  have s1 := same_new (o := .lst []) nD
  have hD1 : upd H D (.lst []) D = some (.lst ([] : List V)) := upd_same
  generalize upd H D (.lst []) = H1 at s1 hD1 ⊢
  refine ⟨_, rfl, by show 2 ≤ sizeLine; decide, fun t nt => ?_⟩
  have s2 := same_new (o := .tup [v, .int 0]) nt
  have ht2 : upd H1 t (.tup [v, .int 0]) t = some (.tup [v, .int 0]) := upd_same
  generalize upd H1 t (.tup [v, .int 0]) = H2 at s2 ht2 ⊢
  refine ⟨by show 1 ≤ sizeLine; decide, fun W nW => ?_⟩
  have s3 := same_new (o := .lst [.ref t]) nW
  have hW3 : upd H2 W (.lst [.ref t]) W = some (.lst [.ref t]) := upd_same
  have nW0 : H W = none := (s1.trans s2).free nW
  have hDW : D ≠ W := fun e => by rw [← e, s2 _ _ hD1] at nW; cases nW
  generalize upd H2 W (.lst [.ref t]) = H3 at s3 hW3 ⊢
  dsimp only [gName, tSeq]
  have s13 := (s1.trans s2).trans s3
  refine ⟨PLoop H v D W n.sh.tx, ⟨_, none, none, none, [], [.ref t], [.nd n 0], rfl, rfl, s13, s3 _ _ (s2 _ _ hD1), hW3, PAt.nd (s3 _ _ ht2) (dn.keep (Tups.of s13)) PAt.nil, all1 ⟨on, fn, cn⟩, ?_, ?_⟩, fun m σ H' h => ?_⟩
  · show [] ++ (ptx 0 n.sh ++ []) = _
    rw [ptx0]
    simp
  · show 0 + (3 * (ptx 0 n.sh).length + 0) ≤ _
    rw [ptx0]
    omega
  obtain ⟨xa, xb, xc, fs, ws, pend, rfl, rfl, sm, hD, hW, pw, fp, el, bd⟩ := h
  refine ⟨_, rfl, _, .inl ⟨ws, SqL.of hW, rfl⟩, ?_⟩
  cases pend with
  | nil =>
    have e0 : ws.reverse = [] := pw
    have e0 : ws = [] := List.reverse_eq_nil_iff.mp e0
    subst e0
    refine iteF ?_
    have el : (fs.map tl).flatten ++ [] = n.sh.tx := el
    rw [List.append_nil] at el
    refine ⟨⟨"", rfl⟩, _, rfl, "", D, fs, rfl, rfl, .inl (SqL.of hD), ?_, q _ _ sm ?_⟩
    · rw [sum_tl, el]
      show _ + fs.length * 0 ≤ _
      omega
    · rw [tl_join0 "" (by decide +kernel), el]
  | cons pc rest =>
    obtain ⟨v1, r, er, pa, pr⟩ := pw
    have ew : ws = r.reverse ++ [v1] := by rw [← List.reverse_reverse ws, er, List.reverse_cons]
    subst ew
    rw [if_pos (by simp)]
    refine ⟨fun σ' H2 => ∃ m', m' < pm (pc :: rest) ∧ PLoop H v D W n.sh.tx m' σ' H2, fun σ' H2 h => h, ?_⟩
    have fr := fun p hp => fp p (List.mem_cons_of_mem _ hp)
    have rl : r.length ≤ 30000 := by
      have k1 := pr.len
      have k2 := pm_len fr
      have k3 : pm (pc :: rest) = pc.m + pm rest := rfl
      omega
    refine ⟨_, rfl, .inl ⟨rfl, _, SqL.of hW⟩, W, _, v1, rfl, rfl, hW, by simp, ?_⟩
    rw [List.dropLast_concat]
    have t4 := tups_upd (o := .lst r.reverse) hW
    have hD4 : upd H' W (.lst r.reverse) D = some (.lst (fs.map V.str)) := by rw [upd_ne hDW]; exact hD
    have hW4 : upd H' W (.lst r.reverse) W = some (.lst r.reverse) := upd_same
    have s4 : Same H (upd H' W (.lst r.reverse)) := same_upd sm nW0
    have pr := pr.keep t4
    have pa := pa.keep t4
    generalize upd H' W (.lst r.reverse) = H4 at t4 hD4 hW4 s4 pr pa ⊢
    cases pc with
    | tx x =>
      have pa : v1 = .str x := pa
      subst pa
      refine ⟨_, rfl, _, _, _, _, true, rfl, .ty _, .base (.str x), kit_ty (by decide +kernel), _, rfl, iteT ?_⟩
      have bd : fs.length + (1 + pm rest) ≤ 30000 := bd
      refine ⟨_, rfl, .inl ⟨rfl, _, SqL.of hD4⟩, _, rfl, D, _, _, rfl, rfl, hD4, Nat.lt_of_le_of_lt (show (fs.map V.str).length ≤ 30000 by rw [List.length_map]; omega) (by decide), ?_⟩
      have em : fs.map V.str ++ [V.str x] = (fs ++ [x]).map V.str := by simp
      have t5 := tups_upd (o := .lst (fs.map V.str ++ [V.str x])) hD4
      refine ⟨pm rest, ?_, _, _, _, fs ++ [x], r.reverse, rest, rfl, rfl, same_upd s4 nD, by rw [upd_same, em], ?_, ?_, fr, ?_, ?_⟩
      · show pm rest < 1 + pm rest
        omega
      · rw [upd_ne hDW.symm]
        exact hW4
      · rw [List.reverse_reverse]
        exact pr.keep t5
      · rw [← el, List.map_append, List.flatten_append]
        show _ ++ (tl x ++ []) ++ pl rest = _ ++ (tl x ++ pl rest)
        simp
      · rw [List.length_append, List.length_singleton]
        omega
    | nd n1 r1 =>
      obtain ⟨p, a, rfl, hp, da⟩ := pa
      obtain ⟨on1, fn1, cn1⟩ := fp _ (List.mem_cons_self ..)
      refine ⟨_, rfl, _, _, _, _, false, rfl, .ty _, .base (.tup hp), kit_ty (by decide +kernel), _, rfl, iteF ?_⟩
      refine ⟨_, rfl, p, _, _, _, rfl, rfl, SqT.of hp, at0, n1, a, rfl, on1, da, fun m v2 om sm2 gm hm dm => ?_⟩
      have pt : Pt m := ⟨om, gm, by rw [sm2]; exact fn1, by rw [sm2]; exact cn1⟩
      refine ⟨_, rfl, m, v2, rfl, pt, dm, fun b us ps H5 s5 nb hb pcs => ?_⟩
      have dm5 := dm.keep (Tups.of s5)
      have hD5 := s5 _ _ hD4
      have hW5 := s5 _ _ hW4
      have pr5 := pr.keep (Tups.of s5)
      have s45 := s4.trans s5
      refine ⟨_, rfl, m, v2, rfl, pt, dm5, _, rfl, p, _, _, _, rfl, rfl, SqT.of (s5 _ _ hp), at1, _, _, rfl, rfl, _, rfl, ?_⟩
      have pl5 := pcs.at_.len
      have pn5 := pcs.len
      have fin : ∀ (H6 : Hp) (c2 : Addr) (us6 : List V) (ps6 : List Pie), Same H5 H6 → PAt H6 ps6 us6 → (∀ p ∈ ps6, p.fn) → (∃ t, Pie.tx t ∈ ps6) → pl ps6 = ptx r1 n1.sh → ∀ p2, H6 p2 = none →
          ∃ m', m' < pm (.nd n1 r1 :: rest) ∧ PLoop H v D W n.sh.tx m' [some v, some (.ref D), some (.ref W), some (.ref p), some v2, some (.ref c2)] (upd (upd H6 p2 (.lst us6.reverse)) W (.lst (r.reverse ++ us6.reverse))) := by
        intro H6 c2 us6 ps6 s6 pa6 f6 tx6 e6 p2 np2
        have s7 := s6.trans (same_new (o := .lst us6.reverse) np2)
        have t7 := tups_upd (o := .lst (r.reverse ++ us6.reverse)) (s7 _ _ hW5)
        refine PLoop.step (same_upd (s45.trans s7) nW0) ?_ upd_same ?_ ((pa6.keep (Tups.of (same_new (o := .lst us6.reverse) np2))).keep t7) fr f6 tx6 e6 el bd
        · rw [upd_ne hDW]
          exact s7 _ _ hD5
        · rw [List.reverse_reverse]
          exact (pr5.keep (Tups.of s7)).keep t7
      by_cases hlt : (m.sh.rk : Int) < (r1 : Int)
      · refine iteP hlt ?_
        have hlt : n1.sh.rk < r1 := by rw [← sm2]; omega
        refine ⟨by show 1 ≤ sizeLine; decide, fun l1 nl1 => ?_⟩
        have u1 := same_new (o := .lst [.str "("]) nl1
        have g1 : upd H5 l1 (.lst [.str "("]) l1 = some (.lst [.str "("]) := upd_same
        generalize upd H5 l1 (.lst [.str "("]) = G1 at u1 g1 ⊢
        refine ⟨_, rfl, l1, b, _, _, rfl, rfl, g1, u1 _ _ hb, Nat.le_trans (show 1 + us.length ≤ 1000 by omega) (by decide), fun c1 nc1 => ?_⟩
        have u2 := same_new (o := .lst ([.str "("] ++ us)) nc1
        have g2 : upd G1 c1 (.lst ([.str "("] ++ us)) c1 = some (.lst ([.str "("] ++ us)) := upd_same
        generalize upd G1 c1 (.lst ([.str "("] ++ us)) = G2 at u2 g2 ⊢
        refine ⟨by show 1 ≤ sizeLine; decide, fun l2 nl2 => ?_⟩
        have u3 := same_new (o := .lst [.str ")"]) nl2
        have g3 : upd G2 l2 (.lst [.str ")"]) l2 = some (.lst [.str ")"]) := upd_same
        generalize upd G2 l2 (.lst [.str ")"]) = G3 at u3 g3 ⊢
        refine ⟨c1, l2, _, _, rfl, rfl, u3 _ _ g2, g3, Nat.le_trans (show ([V.str "("] ++ us).length + 1 ≤ 1000 by rw [List.length_append, List.length_singleton]; omega) (by decide), fun c2 nc2 => ?_⟩
        have u4 := same_new (o := .lst ([.str "("] ++ us ++ [.str ")"])) nc2
        have g4 : upd G3 c2 (.lst ([.str "("] ++ us ++ [.str ")"])) c2 = some (.lst ([.str "("] ++ us ++ [.str ")"])) := upd_same
        generalize upd G3 c2 (.lst ([.str "("] ++ us ++ [.str ")"])) = G4 at u4 g4 ⊢
        have u14 := u1.trans (u2.trans (u3.trans u4))
        refine ⟨_, rfl, .inl ⟨rfl, _, SqL.of (u14 _ _ hW5)⟩, _, rfl, c2, _, rfl, SqL.of g4, fun p2 np2 => ?_⟩
        refine ⟨W, p2, _, _, rfl, rfl, same_new np2 _ _ (u14 _ _ hW5), upd_same, Nat.le_trans (show r.reverse.length + ([V.str "("] ++ us ++ [V.str ")"]).reverse.length ≤ 31000 by simp only [List.length_reverse, List.length_append, List.length_singleton]; omega) (by decide), ?_⟩
        refine fin G4 c2 _ ([.tx "("] ++ ps ++ [.tx ")"]) u14 (((PAt.nil.tx).app (pcs.at_.keep (Tups.of u14))).app PAt.nil.tx) (fn_app (fn_app (all1 (fn_lit (by decide +kernel))) pcs.fn) (all1 (fn_lit (by decide +kernel)))) ⟨"(", by simp⟩ ?_ p2 np2
        rw [pl_app, pl_app, pcs.l, sm2]
        unfold ptx
        rw [if_pos hlt]
        show (tl "(" ++ []) ++ _ ++ (tl ")" ++ []) = _
        simp
      · refine iteN hlt ?_
        have hlt : ¬ n1.sh.rk < r1 := by rw [← sm2]; omega
        refine ⟨_, rfl, .inl ⟨rfl, _, SqL.of hW5⟩, _, rfl, b, _, rfl, SqL.of hb, fun p2 np2 => ?_⟩
        refine ⟨W, p2, _, _, rfl, rfl, same_new np2 _ _ hW5, upd_same, Nat.le_trans (show r.reverse.length + us.reverse.length ≤ 31000 by rw [List.length_reverse, List.length_reverse]; omega) (by decide), ?_⟩
        refine fin H5 b us ps (fun _ _ e => e) pcs.at_ pcs.fn pcs.tx ?_ p2 np2
        rw [pcs.l, sm2]
        unfold ptx
        rw [if_neg hlt]
end

end Sn

namespace Sn
open PySem PySem.Spec PyProof.Rows L2 TL
/-! ### data in the heap, the parts of trees -/
mutual
/-- v stands for the data, none of its lists at an address of S -/
def LV (S : Addr → Prop) (H : Hp) : PyData → V → Prop
  | .none, v => v = .non
  | .bool b, v => v = .bl b
  | .int i, v => v = .int i
  | .str x, v => v = .str x
  | .list ds, v => ∃ p us, v = .ref p ∧ ¬ S p ∧ H p = some (.lst us) ∧ us.length ≤ 1000000 ∧ LVs S H ds us
  | .tuple _, _ => False
  | .dict _, _ => False
def LVs (S : Addr → Prop) (H : Hp) : List PyData → List V → Prop
  | [], vs => vs = []
  | d :: r, vs => ∃ v q, vs = v :: q ∧ LV S H d v ∧ LVs S H r q
end
mutual
theorem LV.keep {S S' : Addr → Prop} {H H' : Hp} (s : ∀ b o, ¬ S b → H b = some o → H' b = some o) (m : ∀ a, S' a → S a) : ∀ (d : PyData) (v : V), LV S H d v → LV S' H' d v
  | .none, v, h => by unfold LV at h ⊢; exact h
  | .bool b, v, h => by unfold LV at h ⊢; exact h
  | .int i, v, h => by unfold LV at h ⊢; exact h
  | .str x, v, h => by unfold LV at h ⊢; exact h
  | .list ds, v, h => by
    unfold LV at h ⊢
    obtain ⟨p, us, e, n, h1, h2, h3⟩ := h
    exact ⟨p, us, e, fun k => n (m _ k), s _ _ n h1, h2, LVs.keep s m ds us h3⟩
  | .tuple _, v, h => by unfold LV at h; exact h.elim
  | .dict _, v, h => by unfold LV at h; exact h.elim
theorem LVs.keep {S S' : Addr → Prop} {H H' : Hp} (s : ∀ b o, ¬ S b → H b = some o → H' b = some o) (m : ∀ a, S' a → S a) : ∀ (ds : List PyData) (vs : List V), LVs S H ds vs → LVs S' H' ds vs
  | [], vs, h => by unfold LVs at h ⊢; exact h
  | d :: r, vs, h => by
    unfold LVs at h ⊢
    obtain ⟨v, q, e, h1, h2⟩ := h
    exact ⟨v, q, e, LV.keep s m d v h1, LVs.keep s m r q h2⟩
end
mutual
theorem LV.dp {K : PySem.W.Frag} {S : Addr → Prop} {H : Hp} : ∀ (d : PyData) (v : V), LV S H d v → Dp K H v d
  | .none, v, h => by unfold LV at h; subst h; exact .non
  | .bool b, v, h => by unfold LV at h; subst h; exact .bl b
  | .int i, v, h => by unfold LV at h; subst h; exact .int i
  | .str x, v, h => by unfold LV at h; subst h; exact .str x
  | .list ds, v, h => by
    unfold LV at h
    obtain ⟨p, us, rfl, n, h1, h2, h3⟩ := h
    exact .lst (SqL.of h1) (LVs.dp ds us h3)
  | .tuple _, v, h => by unfold LV at h; exact h.elim
  | .dict _, v, h => by unfold LV at h; exact h.elim
theorem LVs.dp {K : PySem.W.Frag} {S : Addr → Prop} {H : Hp} : ∀ (ds : List PyData) (vs : List V), LVs S H ds vs → DpAll K H vs ds
  | [], vs, h => by unfold LVs at h; subst h; exact .nil
  | d :: r, vs, h => by
    unfold LVs at h
    obtain ⟨v, q, rfl, h1, h2⟩ := h
    exact .cons (LV.dp d v h1) (LVs.dp r q h2)
end
theorem LVs.len {S : Addr → Prop} {H : Hp} : ∀ {ds : List PyData} {vs : List V}, LVs S H ds vs → vs.length = ds.length
  | [], vs, h => by unfold LVs at h; subst h; rfl
  | d :: r, vs, h => by
    unfold LVs at h
    obtain ⟨v, q, rfl, h1, h2⟩ := h
    rw [List.length_cons, List.length_cons, LVs.len h2]
theorem LVs.app {S : Addr → Prop} {H : Hp} : ∀ {ds es : List PyData} {vs us : List V}, LVs S H ds vs → LVs S H es us → LVs S H (ds ++ es) (vs ++ us)
  | [], es, vs, us, h, g => by unfold LVs at h; subst h; exact g
  | d :: r, es, vs, us, h, g => by
    unfold LVs at h
    obtain ⟨v, q, rfl, h1, h2⟩ := h
    have k := LVs.app h2 g
    show LVs S H (d :: (r ++ es)) (v :: (q ++ us))
    unfold LVs
    exact ⟨v, q ++ us, rfl, h1, k⟩
theorem LVs.one {S : Addr → Prop} {H : Hp} {d : PyData} {v : V} (h : LV S H d v) : LVs S H [d] [v] := by
  unfold LVs
  exact ⟨v, [], rfl, h, by unfold LVs; rfl⟩
mutual
/-- two that stand for the same data are the same -/
theorem LV.al {S T : Addr → Prop} {H : Hp} : ∀ (d : PyData) (x y : V) (n : Nat), d.depth < n → LV S H d x → LV T H d y → Al H n x y
  | .none, x, y, n + 1, _, h, g => by unfold LV at h g; subst h g; exact Al.sc rfl
  | .bool b, x, y, n + 1, _, h, g => by unfold LV at h g; subst h g; exact Al.sc rfl
  | .int i, x, y, n + 1, _, h, g => by unfold LV at h g; subst h g; exact Al.sc rfl
  | .str z, x, y, n + 1, _, h, g => by unfold LV at h g; subst h g; exact Al.sc rfl
  | .list ds, x, y, n + 1, hn, h, g => by
    unfold LV at h g
    obtain ⟨p, us, rfl, _, h1, h2, h3⟩ := h
    obtain ⟨p', us', rfl, _, g1, g2, g3⟩ := g
    have hn : PyData.depthAll ds + 1 < n + 1 := hn
    exact Al.lst h1 g1 (by rw [h3.len, g3.len]) h2 (LVs.al ds us us' n (by omega) h3 g3)
  | .tuple _, x, y, n + 1, _, h, g => by unfold LV at h; exact h.elim
  | .dict _, x, y, n + 1, _, h, g => by unfold LV at h; exact h.elim
  | _, _, _, 0, hn, _, _ => absurd hn (Nat.not_lt_zero _)
theorem LVs.al {S T : Addr → Prop} {H : Hp} : ∀ (ds : List PyData) (xs ys : List V) (n : Nat), PyData.depthAll ds < n → LVs S H ds xs → LVs T H ds ys → ∀ (i : Nat) (u v : V), xs[i]? = some u → ys[i]? = some v → Al H n u v
  | [], xs, ys, n, _, h, g, i, u, v, hu, hv => by
    unfold LVs at h
    subst h
    simp at hu
  | d :: r, xs, ys, n, hn, h, g, i, u, v, hu, hv => by
    unfold LVs at h g
    obtain ⟨v1, q1, rfl, h1, h2⟩ := h
    obtain ⟨v2, q2, rfl, g1, g2⟩ := g
    have hn : max d.depth (PyData.depthAll r) < n := hn
    cases i with
    | zero =>
      have e1 : v1 = u := by simpa using hu
      have e2 : v2 = v := by simpa using hv
      subst e1 e2
      exact LV.al d _ _ n (by omega) h1 g1
    | succ i => exact LVs.al r q1 q2 n (by omega) h2 g2 i u v (by simpa using hu) (by simpa using hv)
end
/-- the parts of a tree behind its place -/
inductive Pa where
  | s (d : D)
  | n (m : Nd)
  | a (ks : Ns)
def Pa.d : Pa → D
  | .s d => d
  | .n m => m.t.d
  | .a ks => .tup (ofL ks.ds)
def dat : D → PyData
  | .bl b => .bool b
  | .int i => .int i
  | .str x => .str x
  | _ => .none
def isIn : D → Bool
  | .int _ => true
  | .bl _ => true
  | _ => false
def lw (tag : Str) : Bool := decide (tag = "let" ∨ tag = "loop")
def Pa.o (tag : Str) : Pa → List PyData
  | .s d => if lw tag = true ∧ isIn d = true then [] else [dat d]
  | .n m => [m.sh.da]
  | .a ks => [.list ks.shs.da]
def Pa.ok (h : Nat) : Pa → Prop
  | .s d => (∃ b, d = .bl b) ∨ (∃ i, d = .int i) ∨ ∃ x, d = .str x
  | .n m => m.ok ∧ m.ht < h
  | .a ks => ks.ok ∧ ks.ht < h
theorem pas_all {n : Nd} (ok : n.ok) : n.grp = false → ∃ ps : List Pa, n.t.rest = ps.map Pa.d ∧ n.sh.da = .list (.str n.t.tag :: ps.flatMap (Pa.o n.t.tag)) ∧ (∀ p ∈ ps, p.ok n.ht) ∧ ps.length ≤ 5 := by
  refine Nd.cases_ (P := fun n => n.grp = false → ∃ ps : List Pa, n.t.rest = ps.map Pa.d ∧ n.sh.da = .list (.str n.t.tag :: ps.flatMap (Pa.o n.t.tag)) ∧ (∀ p ∈ ps, p.ok n.ht) ∧ ps.length ≤ 5) n ok ?_ ?_ ?_ ?_ ?_ ?_ ?_ ?_ ?_ ?_ ?_ ?_
  · intro s e v _
    refine ⟨[.s (.int v)], by rw [nd_t, Ns.ds_nil]; rfl, by rw [sh_num, Sh.da, Nd.tag_t]; rfl, ?_, by show 1 ≤ 5; decide⟩
    intro p hp; rw [List.mem_singleton.mp hp]; exact .inr (.inl ⟨_, rfl⟩)
  · intro s e v _
    refine ⟨[.s (.bl v)], by rw [nd_t, Ns.ds_nil]; rfl, by rw [sh_tru, Sh.da, Nd.tag_t]; rfl, ?_, by show 1 ≤ 5; decide⟩
    intro p hp; rw [List.mem_singleton.mp hp]; exact .inl ⟨_, rfl⟩
  · intro s e v _
    refine ⟨[.s (.str v)], by rw [nd_t, Ns.ds_nil]; rfl, by rw [sh_nam, Sh.da, Nd.tag_t]; rfl, ?_, by show 1 ≤ 5; decide⟩
    intro p hp; rw [List.mem_singleton.mp hp]; exact .inr (.inr ⟨_, rfl⟩)
  · intro s e v ks ok _
    refine ⟨[.s (.str v), .a ks], by rw [call_nd]; rfl, by rw [sh_cal, Sh.da, Nd.tag_t]; rfl, ?_, by show 2 ≤ 5; decide⟩
    rw [Nd.ht_nd]
    intro p hp
    simp only [List.mem_cons, List.not_mem_nil, or_false] at hp
    rcases hp with rfl | rfl
    · exact .inr (.inr ⟨_, rfl⟩)
    · exact ⟨ok, Nat.lt_succ_self _⟩
  · intro s e v a oa _
    refine ⟨[.n a, .s (.str v)], by rw [nd_t, (nk1_all a).1]; rfl, by rw [sh_fld, Sh.da, Nd.tag_t]; rfl, ?_, by show 2 ≤ 5; decide⟩
    rw [Nd.ht_nd, ht1]
    intro p hp
    simp only [List.mem_cons, List.not_mem_nil, or_false] at hp
    rcases hp with rfl | rfl
    · exact ⟨oa, Nat.lt_succ_self _⟩
    · exact .inr (.inr ⟨_, rfl⟩)
  · intro s e a _ h
    cases h
  · intro s e a oa _
    refine ⟨[.n a], by rw [nd_t, (nk1_all a).1]; rfl, by rw [sh_nt, Sh.da, Nd.tag_t]; rfl, ?_, by show 1 ≤ 5; decide⟩
    rw [Nd.ht_nd, ht1]
    intro p hp; rw [List.mem_singleton.mp hp]; exact ⟨oa, Nat.lt_succ_self _⟩
  · intro s e a oa _
    refine ⟨[.n a], by rw [nd_t, (nk1_all a).1]; rfl, by rw [sh_mn, Sh.da, Nd.tag_t]; rfl, ?_, by show 1 ≤ 5; decide⟩
    rw [Nd.ht_nd, ht1]
    intro p hp; rw [List.mem_singleton.mp hp]; exact ⟨oa, Nat.lt_succ_self _⟩
  · intro s e v a b _ oa ob _
    refine ⟨[.s (.str v), .n a, .n b], by rw [nd_t, (nk2_all a b).1]; rfl, by rw [sh_bin, Sh.da, Nd.tag_t]; rfl, ?_, by show 3 ≤ 5; decide⟩
    rw [Nd.ht_nd, ht2]
    intro p hp
    simp only [List.mem_cons, List.not_mem_nil, or_false] at hp
    rcases hp with rfl | rfl | rfl
    · exact .inr (.inr ⟨_, rfl⟩)
    · exact ⟨oa, by omega⟩
    · exact ⟨ob, by omega⟩
  · intro s e a b c oa ob oc _
    refine ⟨[.n a, .n b, .n c], by rw [nd_t, (nk3_all a b c).1]; rfl, by rw [sh_ite, Sh.da, Nd.tag_t]; rfl, ?_, by show 3 ≤ 5; decide⟩
    rw [Nd.ht_nd, ht3]
    intro p hp
    simp only [List.mem_cons, List.not_mem_nil, or_false] at hp
    rcases hp with rfl | rfl | rfl
    · exact ⟨oa, by omega⟩
    · exact ⟨ob, by omega⟩
    · exact ⟨oc, by omega⟩
  · intro s e v i a b oa ob _
    refine ⟨[.s (.str v), .s (.int i), .n a, .n b], by rw [nd_t, (nk2_all a b).1]; rfl, by rw [sh_lt, Sh.da, Nd.tag_t]; rfl, ?_, by show 4 ≤ 5; decide⟩
    rw [Nd.ht_nd, ht2]
    intro p hp
    simp only [List.mem_cons, List.not_mem_nil, or_false] at hp
    rcases hp with rfl | rfl | rfl | rfl
    · exact .inr (.inr ⟨_, rfl⟩)
    · exact .inr (.inl ⟨_, rfl⟩)
    · exact ⟨oa, by omega⟩
    · exact ⟨ob, by omega⟩
  · intro s e v i a b c oa ob oc _
    refine ⟨[.s (.str v), .s (.int i), .n a, .n b, .n c], by rw [nd_t, (nk3_all a b c).1]; rfl, by rw [sh_lp, Sh.da, Nd.tag_t]; rfl, ?_, by show 5 ≤ 5; decide⟩
    rw [Nd.ht_nd, ht3]
    intro p hp
    simp only [List.mem_cons, List.not_mem_nil, or_false] at hp
    rcases hp with rfl | rfl | rfl | rfl | rfl
    · exact .inr (.inr ⟨_, rfl⟩)
    · exact .inr (.inl ⟨_, rfl⟩)
    · exact ⟨oa, by omega⟩
    · exact ⟨ob, by omega⟩
    · exact ⟨oc, by omega⟩

end Sn

namespace Sn
open PySem PySem.Spec PyProof.Rows L2 TL
/-! ### the law's stripped trees -/
def spStrip (k : Nat) : Sp := fun vs H Q _ => ∃ (n : Nd) (v : V), vs = [v] ∧ n.ok ∧ n.ht ≤ k ∧ DT H n.t.d v ∧ ∀ u H', Same H H' → LV (fun a => H a ≠ none) H' n.sh.da u → Q u H'
theorem Shs.da_l : ∀ ks : Ns, ks.shs.da = ks.l.map fun m => m.sh.da
  | .nil => by rw [Ns.shs_nil, Shs.da]; rfl
  | .cons a t => by rw [Ns.shs_cons, Shs.da, Shs.da_l t]; rfl
theorem dts_get {H : Hp} {x : List D} {vs : List V} (h : DTs H (ofL x) vs) : vs.length = x.length := DTs.len _ _ h
/-- a tree's tuple begins with a text -/
theorem nd_tup {H : Hp} {n : Nd} {v : V} (h : DT H n.t.d v) : ∃ a r, v = .ref a ∧ H a = some (.tup (.str n.t.tag :: r)) := by
  obtain ⟨a, r, rfl, h1, _, _⟩ := Tn.at_ h
  exact ⟨a, _, rfl, h1⟩
/-- no scalar is a tuple -/
theorem scal_ty {K : PySem.W.Frag} {H : Hp} {d : D} {v : V} (hd : (∃ b, d = .bl b) ∨ (∃ i, d = .int i) ∨ ∃ x, d = .str x) (h : DT H d v) : ∃ t : String, (∀ G : Hp, TyX K G v (.type t)) ∧ kitB t "tuple" = some false ∧ kitB t "int" = some (isIn d) := by
  rcases hd with ⟨b, rfl⟩ | ⟨i, rfl⟩ | ⟨x, rfl⟩
  · unfold DT at h; subst h; exact ⟨_, fun _ => .base (.bl b), by decide +kernel, by show _ = some true; decide +kernel⟩
  · unfold DT at h; subst h; exact ⟨_, fun _ => .base (.int i), by decide +kernel, by show _ = some true; decide +kernel⟩
  · unfold DT at h; subst h; exact ⟨_, fun _ => .base (.str x), by decide +kernel, by show _ = some false; decide +kernel⟩
theorem dt_tup {H : Hp} {l : D} {v : V} (h : DT H (.tup l) v) : ∃ a vs, v = .ref a ∧ H a = some (.tup vs) ∧ vs.length ≤ 1000000 ∧ DTs H l vs := by
  unfold DT at h
  exact h
theorem inV2 {x a b : Str} : inV (.str x) [.str a, .str b] = decide (x = a ∨ x = b) := by
  unfold inV
  simp only [List.any_cons, List.any_nil, Bool.or_false]
  have e : ∀ y : Str, eqV (.str y) (.str x) = decide (x = y) := fun y => by
    unfold eqV
    by_cases h : x = y
    · subst h; simp
    · simp [h, Ne.symm h]
  rw [e, e]
  by_cases h1 : x = a <;> by_cases h2 : x = b <;> simp [h1, h2]
/-- one more in the list at D -/
theorem stepL {H H2 H3 H4 : Hp} {D : Addr} {us : List V} {u : V} {d : PyData} {ds : List PyData} (sm : Same H H3) (tt : Tups H2 H3) (nD : H D = none) (hD3 : H3 D = some (.lst us)) (s4 : Same H3 H4) (lu : LV (fun a => H3 a ≠ none) H4 d u) (lv : LVs (fun a => H a ≠ none ∨ a = D) H3 ds us) :
    Same H (upd H4 D (.lst (us ++ [u]))) ∧ Tups H2 (upd H4 D (.lst (us ++ [u]))) ∧ LVs (fun a => H a ≠ none ∨ a = D) (upd H4 D (.lst (us ++ [u]))) (ds ++ [d]) (us ++ [u]) := by
  have hD4 := s4 _ _ hD3
  refine ⟨same_upd (sm.trans s4) nD, fun a x e => tups_upd hD4 _ _ (s4 _ _ (tt _ _ e)), ?_⟩
  have k1 : LVs (fun a => H a ≠ none ∨ a = D) (upd H4 D (.lst (us ++ [u]))) ds us := LVs.keep (fun b o nb e => by rw [upd_ne fun z => nb (.inr z)]; exact s4 _ _ e) (fun _ h => h) _ _ lv
  have k2 : LV (fun a => H a ≠ none ∨ a = D) (upd H4 D (.lst (us ++ [u]))) d u := LV.keep (fun b o nb e => by rw [upd_ne fun z => nb (by rw [z, hD3]; intro k; cases k)]; exact e) (fun a ha => by
    rcases ha with ha | rfl
    · exact fun k => ha (sm.free k)
    · rw [hD3]; intro k; cases k) _ _ lu
  exact LVs.app k1 (LVs.one k2)
section
variable {P : Program} {w : World} {K : PySem.W.Frag} {mg : Str → Option Value} {base : Heap} {f : Addr} {fd : FuncData}
abbrev s_l_stripped : Stmt := topS 59
abbrev N_l_stripped : List Str := ["tree", "result", "part", "inner"]
theorem sc_l_stripped : FnScope N_l_stripped ["tree"] (defScope s_l_stripped) := ⟨rfl, rfl, rfl, by decide +kernel, rfl, by decide +kernel, by decide +kernel⟩
theorem ok_l_stripped {j : Nat} (F : Fun K "_law_stripped" "_law_stripped" s_l_stripped f fd) (T : Nm mg) (C_law_stripped : Cal P w K mg base CX0 j "_law_stripped" (spStrip j)) : FnOk P w K mg base CX0 (j + 1) f fd ["tree"] (spStrip (j + 1)) := by
  refine F.ok sc_l_stripped (fun vs H Q E h => ?_) (fun cdv A outer s H vs Q E hr h => ?_)
  · obtain ⟨n, v, rfl, _⟩ := h
    rfl
  obtain ⟨n, v, rfl, ok, hh, dn, q⟩ := h
  refine ⟨_, (pss_cons (ps_if (pt_cmpR op_eq (pe_ix (r := rIxT K) ix_tup (pv 0) pe_int (fun _ _ => rfl)) pe_str (nomark _)) (pss_one (ps_ret (pe_c C_law_stripped hr (by first | decide | omega) pass0 (pa_cons (pe_ix (r := rIxT K) ix_tup (pv 0) pe_int (fun _ _ => rfl)) pa_nil)))) pss_nil)
    (pss_cons (ps_set (i := 1) sc_l_stripped.nd rfl (Or.inl rfl) (pe_lst (pa_cons (pe_ix (r := rIxT K) ix_tup (pv 0) pe_int (fun _ _ => rfl)) pa_nil)))
    (pss_cons (ps_for PassesOwn.never rfl (pi_tup (pe_slice sl_tup (pv 0) (po_some pe_int) po_none)) (pg_name (i := 2) sc_l_stripped.nd rfl (Or.inl rfl)) (pss_one (ps_if (PW.pt (pw_and (pt_val (pe_callB call_isi (by rfl) T.isinstance (by decide +kernel) (pa_cons (pv 2) (pa_cons (pe_bltn (v := .ty "tuple") (u := .type "tuple") (by rfl) T.tuple_ (by decide +kernel) rfl) pa_nil)))) (pw_and (pt_cmpR op_gt (pe_callB call_len_seq (by rfl) T.len PySem.boot_len (pa_cons (pv 2) pa_nil)) pe_int (nomark _)) (pw_and1 (pt_val (pe_callB call_isi (by rfl) T.isinstance (by decide +kernel) (pa_cons (pe_ix (r := rIxT K) ix_tup (pv 2) pe_int (fun _ _ => rfl)) (pa_cons (pe_bltn (v := .ty "str") (u := .type "str") (by rfl) T.str_ (by decide +kernel) rfl) pa_nil)))))))) (pss_one (ps_expr (pe_bm PySem.F.plainAttrs_list PySem.F.slot_list_append PySem.F.type_list_append mt_append (pv 1) (pa_cons (pe_c C_law_stripped hr (by first | decide | omega) pass0 (pa_cons (pv 2) pa_nil)) pa_nil)))) (pss_one (ps_if (pt_val (pe_callB call_isi (by rfl) T.isinstance (by decide +kernel) (pa_cons (pv 2) (pa_cons (pe_bltn (v := .ty "tuple") (u := .type "tuple") (by rfl) T.tuple_ (by decide +kernel) rfl) pa_nil)))) (pss_one (ps_expr (pe_bm PySem.F.plainAttrs_list PySem.F.slot_list_append PySem.F.type_list_append mt_append (pv 1) (pa_cons (pe_lc (own := [(("inner" : Str), 3)]) (g := (gName 3)) (tt := tYes) rfl sc_l_stripped.nd (pi_tup (pv 2)) (blkOk_by (N := N_l_stripped) (sc := defScope s_l_stripped) (by decide +kernel)) (fun _ _ _ _ _ => (pg_name (i := 3) sc_l_stripped.nd rfl (Or.inl rfl))) (fun _ _ _ _ _ => pts_nil) (fun _ _ _ _ _ => (pe_c C_law_stripped hr (by first | decide | omega) pass0 (pa_cons (pv 3) pa_nil)))) pa_nil)))) (pss_one (ps_if (pt_not (PW.pt (pw_and (pt_cmpR op_in_seq (pe_ix (r := rIxT K) ix_tup (pv 0) pe_int (fun _ _ => rfl)) (pe_lst (pa_cons pe_str (pa_cons pe_str pa_nil))) (by rfl)) (pw_and1 (pt_val (pe_callB call_isi (by rfl) T.isinstance (by decide +kernel) (pa_cons (pv 2) (pa_cons (pe_bltn (v := .ty "int") (u := .type "int") (by rfl) T.int_ (by decide +kernel) rfl) pa_nil)))))))) (pss_one (ps_expr (pe_bm PySem.F.plainAttrs_list PySem.F.slot_list_append PySem.F.type_list_append mt_append (pv 1) (pa_cons (pv 2) pa_nil)))) pss_nil)))))))
    (pss_one (ps_ret (pv 1)))))), ?_⟩
  obtain ⟨p, r, rfl, hp, dr, lr⟩ := Tn.at_ dn
  refine ⟨_, rfl, p, _, _, _, rfl, rfl, SqT.of hp, at0, rfl, _, rfl, ?_⟩
  by_cases hg : n.t.tag = "group"
  · refine iteP (by rw [hg]) ?_
    obtain ⟨b, ob, sb, hb, eb⟩ := Nd.group_inv ok hg
    rw [eb] at dr
    obtain ⟨v, rfl, dv⟩ := dts1 dr
    refine ⟨_, rfl, p, _, _, _, rfl, rfl, SqT.of hp, at3, ?_⟩
    exact ⟨b, v, rfl, ob, by omega, dv, fun u H' s' lv => q u H' s' (by rw [← sb]; exact lv)⟩
  refine iteN (fun e => hg (by injection e)) ?_
  obtain ⟨ps, e1, e2, pok, pl5⟩ := pas_all ok (Nd.not_group hg)
  rw [e1] at dr
  rw [e2] at q
  have rl := dts_get dr
  rw [List.length_map] at rl
  refine ⟨_, rfl, p, _, _, _, rfl, rfl, SqT.of hp, at0, by show 1 ≤ sizeLine; decide, fun D nD => ?_⟩
  have s1 := same_new (o := .lst [.str n.t.tag]) nD
  have hD1 : upd H D (.lst [.str n.t.tag]) D = some (.lst [.str n.t.tag]) := upd_same
  generalize upd H D (.lst [.str n.t.tag]) = H1 at s1 hD1 ⊢
  refine ⟨_, rfl, 3, rfl, p, _, rfl, SqT.of (s1 _ _ hp), fun e => ?_, fun l nl => ?_⟩
  · have := e.1
    rw [show (3 : Int) = ((3 : Nat) : Int) from rfl, HT.sIx_nat] at this
    simp only [List.length_cons] at this
    omega
  rw [cut3]
  have s2 := same_new (o := .tup r) nl
  have hl2 : upd H1 l (.tup r) l = some (.tup r) := upd_same
  have hDl : D ≠ l := fun e => by rw [← e, hD1] at nl; cases nl
  have hD2 : upd H1 l (.tup r) D = some (.lst [.str n.t.tag]) := s2 _ _ hD1
  generalize upd H1 l (.tup r) = H2 at s2 hl2 hD2 ⊢
  refine ⟨l, rfl, ⟨_, SqT.of hl2⟩, ?_⟩
  have s12 := s1.trans s2
  have dr2 := DTs.keep (Tups.of s12) _ _ dr
  have SSm : ∀ {G : Hp}, Same H G → G D ≠ none → ∀ a, (H a ≠ none ∨ a = D) → G a ≠ none := fun {G} sg gd a ha => by
    rcases ha with ha | rfl
    · exact fun k => ha (sg.free k)
    · exact gd
  refine for_tup (K := K) (a := l) (xs := r) (fun i σ H' => ∃ (y z : Option V) (us : List V), σ = [some (.ref p), some (.ref D), y, z] ∧ Same H H' ∧ Tups H2 H' ∧ H' D = some (.lst us) ∧ LVs (fun a => H a ≠ none ∨ a = D) H' (.str n.t.tag :: (ps.take i).flatMap (Pa.o n.t.tag)) us ∧ us.length ≤ i + 1)
    ⟨none, none, _, rfl, s12, fun _ _ e => e, hD2, LVs.one (by unfold LV; rfl), Nat.le_refl _⟩ (fun i σ H' _ h => by obtain ⟨_, _, _, _, _, tt, _⟩ := h; exact SqT.of (tt _ _ hl2)) ?_ ?_
  · rintro i x σ H3 hi ⟨y, z, us, rfl, sm, tt, hD3, lv, ul⟩
    have hil := (List.getElem?_eq_some_iff.mp hi).1
    have hil2 : i < ps.length := by rw [← rl]; exact hil
    have gm := List.getElem?_eq_getElem hil2
    generalize ps[i] = pp at gm
    have pm := pok pp (List.mem_of_getElem? gm)
    have dx : DT H3 pp.d x := (DTs.get dr2 (by rw [List.getElem?_map, gm]; rfl) hi).keep tt
    have et : ps.take (i + 1) = ps.take i ++ [pp] := by rw [List.take_add_one, gm]; rfl
    have ef : (ps.take (i + 1)).flatMap (Pa.o n.t.tag) = (ps.take i).flatMap (Pa.o n.t.tag) ++ pp.o n.t.tag := by rw [et, List.flatMap_append]; simp
    cases pp with
    | n m =>
      have pm : m.ok ∧ m.ht < n.ht := pm
      obtain ⟨a, r', rfl, ha⟩ := nd_tup dx
      refine ⟨_, rfl, _, _, _, _, true, rfl, .ty _, .base (.tup ha), kit_ty (by decide +kernel), _, rfl, iteT ?_⟩
      refine ⟨_, rfl, a, _, rfl, .inr (SqT.of ha), _, _, rfl, rfl, _, rfl, iteP (by show (0 : Int) < ((r'.length + 1 : Nat) : Int); omega) ?_⟩
      refine ⟨_, rfl, a, _, _, _, rfl, rfl, SqT.of ha, at0, _, _, _, _, true, rfl, .ty _, .base (.str _), kit_ty (by decide +kernel), _, rfl, iteT ?_⟩
      refine ⟨_, rfl, .inl ⟨rfl, _, SqL.of hD3⟩, _, rfl, m, _, rfl, pm.1, by omega, dx, fun u H4 s4 lu => ?_⟩
      have hD4 := s4 _ _ hD3
      have fin := stepL sm tt nD hD3 s4 lu lv
      refine ⟨D, _, _, rfl, rfl, hD4, Nat.lt_of_le_of_lt (show us.length ≤ 1000 by omega) (by decide), _, _, _, rfl, fin.1, fin.2.1, upd_same, ?_, by rw [List.length_append, List.length_singleton]; omega⟩
      rw [ef]
      exact fin.2.2
    | a ks =>
      obtain ⟨b, vs, rfl, hb, hvl, dvs⟩ := dt_tup dx
      rw [Ns.ds_l] at dvs
      have dvs : TL_ H3 ks.l vs := dvs
      have z0 : vs.length = 0 → ¬ (0 : Int) < ((vs.length : Nat) : Int) := fun h => by omega
      have z1 : vs.length ≠ 0 → (0 : Int) < ((vs.length : Nat) : Int) ∧ ∃ a1 r', vs[0]? = some (.ref a1) ∧ H3 a1 = some (.tup r') := fun hv => by
        have h0 : 0 < vs.length := by omega
        have h1 : 0 < ks.l.length := by rw [← dvs.len]; exact h0
        have d1 := dvs.get (List.getElem?_eq_getElem h1) (List.getElem?_eq_getElem h0)
        obtain ⟨a1, r', e1, ha1⟩ := nd_tup d1
        exact ⟨by omega, a1, _, (List.getElem?_eq_getElem h0).trans (congrArg some e1), ha1⟩
      refine (fun (REST : (?R : Prop)) => ?body) ?rest
      case body =>
        refine ⟨_, rfl, _, _, _, _, true, rfl, .ty _, .base (.tup hb), kit_ty (by decide +kernel), _, rfl, iteT ?_⟩
        refine ⟨_, rfl, b, _, rfl, .inr (SqT.of hb), _, _, rfl, rfl, _, rfl, ?_⟩
        by_cases hv : vs.length = 0
        · refine iteN (z0 hv) ?_
          exact REST
        · obtain ⟨h0, a1, r', g1, ha1⟩ := z1 hv
          refine iteP h0 ?_
          refine ⟨_, rfl, b, _, _, _, rfl, rfl, SqT.of hb, at_of (show (0 : Int) = ((0 : Nat) : Int) from rfl) g1, _, _, _, _, false, rfl, .ty _, .base (.tup ha1), kit_ty (by decide +kernel), _, rfl, iteF ?_⟩
          exact REST
      case rest =>
      refine ⟨_, rfl, _, _, _, _, true, rfl, .ty _, .base (.tup hb), kit_ty (by decide +kernel), _, rfl, iteT ?_⟩
      refine ⟨_, rfl, .inl ⟨rfl, _, SqL.of hD3⟩, _, rfl, b, rfl, ⟨_, SqT.of hb⟩, fun C nC => ?_⟩
      have pm : ks.ok ∧ ks.ht < n.ht := pm
      have vl := dvs.len
      refine lc_tup (K := K) (a := b) (xs := vs) (fun i' H' => Same H3 H' ∧ ∃ ds, H' C = some (.lst ds) ∧ ds.length ≤ i' ∧ LVs (fun a => H3 a ≠ none ∨ a = C) H' ((ks.l.take i').map fun m => m.sh.da) ds) ⟨same_new nC, [], upd_same, Nat.le_refl _, by show LVs _ _ [] []; unfold LVs; rfl⟩ (fun i' H' _ h => SqT.of (h.1 _ _ hb)) ?_ ?_
      · rintro i' x' H4 hi' ⟨s4, ds, hC, dl, ld⟩
        have hil' := (List.getElem?_eq_some_iff.mp hi').1
        have hil3 : i' < ks.l.length := by rw [← vl]; exact hil'
        have gm' := List.getElem?_eq_getElem hil3
        generalize ks.l[i'] = m at gm'
        have mm := List.mem_of_getElem? gm'
        have mok := Ns.ok_l pm.1 m mm
        have mht := Ns.ht_l m mm
        have dm := (dvs.get gm' hi').keep (Tups.of s4)
        refine ⟨rfl, ?_⟩
        refine ⟨_, rfl, m, x', rfl, mok, by omega, dm, fun u H5 s5 lu => ?_⟩
        have hC5 := s5 _ _ hC
        have fin := stepL s4 (fun _ _ e => e) nC hC s5 lu ld
        refine ⟨ds, hC5, Nat.lt_of_le_of_lt (show ds.length ≤ 1000000 by omega) (by decide), fin.1, _, upd_same, by rw [List.length_append, List.length_singleton]; omega, ?_⟩
        rw [List.take_add_one, gm', List.map_append]
        exact fin.2.2
      · rintro H4 ⟨s4, ds, hC, dl, ld⟩
        rw [vl, List.take_length, ← Shs.da_l] at ld
        have hD4 := s4 _ _ hD3
        have lu : LV (fun a => H3 a ≠ none) H4 (.list ks.shs.da) (.ref C) := by
          unfold LV
          exact ⟨C, ds, rfl, fun k => k nC, hC, by omega, LVs.keep (fun _ _ _ e => e) (fun _ h => .inl h) _ _ ld⟩
        have fin := stepL sm tt nD hD3 s4 lu lv
        refine ⟨D, _, _, rfl, rfl, hD4, Nat.lt_of_le_of_lt (show us.length ≤ 1000 by omega) (by decide), _, _, _, rfl, fin.1, fin.2.1, upd_same, ?_, by rw [List.length_append, List.length_singleton]; omega⟩
        rw [ef]
        exact fin.2.2
    | s d =>
      obtain ⟨ty0, ty, kt, ki⟩ := scal_ty (K := K) pm dx
      refine ⟨_, rfl, _, _, _, _, false, rfl, .ty _, ty _, kit_ty kt, _, rfl, iteF ?_⟩
      refine ⟨_, rfl, _, _, _, _, false, rfl, .ty _, ty _, kit_ty kt, _, rfl, iteF ?_⟩
      have hp3 := sm _ _ hp
      refine ⟨_, rfl, p, _, _, _, rfl, rfl, SqT.of hp3, at0, by show 2 ≤ sizeLine; decide, fun t nt => ?_⟩
      have u1 := same_new (o := .lst [.str "let", .str "loop"]) nt
      refine ⟨t, _, rfl, .inl (SqL.of upd_same), rfl, rfl, _, rfl, ?_⟩
      rw [inV2]
      have hD4 := u1 _ _ hD3
      have dd : LV (fun a => H3 a ≠ none) (upd H3 t (.lst [.str "let", .str "loop"])) (dat d) x := by
        rcases pm with ⟨b, rfl⟩ | ⟨b, rfl⟩ | ⟨b, rfl⟩
        · have := dt_bl dx; subst this; show LV _ _ (.bool b) _; unfold LV; rfl
        · have := dt_int dx; subst this; show LV _ _ (.int b) _; unfold LV; rfl
        · have := dt_str dx; subst this; show LV _ _ (.str b) _; unfold LV; rfl
      have fin := stepL sm tt nD hD3 u1 dd lv
      have lv4 := LVs.keep (S' := fun a => H a ≠ none ∨ a = D) (H' := upd H3 t (.lst [.str "let", .str "loop"])) (fun b o _ e => u1 _ _ e) (fun _ h => h) _ _ lv
      generalize upd H3 t (.lst [.str "let", .str "loop"]) = H4 at u1 hD4 dd fin lv4 ⊢
      have add : ¬ (lw n.t.tag = true ∧ isIn d = true) → (Pa.s d).o n.t.tag = [dat d] := fun h => if_neg h
      have non : (lw n.t.tag = true ∧ isIn d = true) → (Pa.s d).o n.t.tag = [] := fun h => if_pos h
      by_cases hl : n.t.tag = "let" ∨ n.t.tag = "loop"
      · refine iteP hl ?_
        have hl : lw n.t.tag = true := decide_eq_true hl
        refine ⟨_, rfl, _, _, _, _, isIn d, rfl, .ty _, ty _, kit_ty ki, _, rfl, ?_⟩
        cases hi2 : isIn d with
        | true =>
          refine iteF ⟨_, _, _, rfl, sm.trans u1, fun a y e => u1 _ _ (tt _ _ e), hD4, ?_, by omega⟩
          rw [ef, non ⟨hl, hi2⟩, List.append_nil]
          exact lv4
        | false =>
          refine iteT ⟨_, rfl, .inl ⟨rfl, _, SqL.of hD4⟩, _, rfl, D, _, _, rfl, rfl, hD4, Nat.lt_of_le_of_lt (show us.length ≤ 1000 by omega) (by decide), _, _, _, rfl, fin.1, fin.2.1, upd_same, ?_, by rw [List.length_append, List.length_singleton]; omega⟩
          rw [ef, add (fun h => by rw [hi2] at h; cases h.2)]
          exact fin.2.2
      · refine iteN hl ?_
        have hl : lw n.t.tag = false := decide_eq_false hl
        refine iteT ⟨_, rfl, .inl ⟨rfl, _, SqL.of hD4⟩, _, rfl, D, _, _, rfl, rfl, hD4, Nat.lt_of_le_of_lt (show us.length ≤ 1000 by omega) (by decide), _, _, _, rfl, fin.1, fin.2.1, upd_same, ?_, by rw [List.length_append, List.length_singleton]; omega⟩
        rw [ef, add (fun h => by rw [hl] at h; cases h.1)]
        exact fin.2.2
  · rintro σ H3 ⟨y, z, us, rfl, sm, tt, hD3, lv, ul⟩
    rw [rl, List.take_length] at lv
    refine ⟨_, rfl, q _ _ sm ?_⟩
    unfold LV
    exact ⟨D, us, rfl, fun k => k nD, hD3, by omega, LVs.keep (fun _ _ _ e => e) (fun _ h => .inl h) _ _ lv⟩
/-- by how deep a tree is -/
theorem lstrip_all (T : Nm mg) (p_n : PF K mg "_law_stripped" s_l_stripped ["tree"]) : ∀ j, Cal P w K mg base CX0 j "_law_stripped" (spStrip j)
  | 0 => p_n.cal fun f fd F => no_fn fun vs H Q E h => by
    obtain ⟨n, v, _, _, hh, _⟩ := h
    obtain ⟨tag, call, s, e, pre, post, kids⟩ := n
    rw [Nd.ht_nd] at hh
    omega
  | j + 1 => p_n.cal fun f fd F => ok_l_stripped F T (lstrip_all T p_n j)
end

end Sn

namespace Sn
open PySem PySem.Spec PyProof.Rows L2 TL
/-! ### groups that are needed, the law -/
structure NmY (K : PySem.W.Frag) (w : World) (mg : Str → Option Value) (aW : Addr) (tS : PySem.Tok) (CR CS aR : Addr) (t0 t1 t2 t3 t4 t5 t6 : PySem.Tok) : Prop extends NmR K w mg aW tS CR CS aR t0 t1 t2 t3 t4 t5 t6 where
  c_SyntaxProblem : mg "SyntaxProblem" = some (.ref CS)
  exm : PySem.W.exmOne K (.ref CS) (.ref CS) = some true
/-- a group of the tree that was read of the text -/
def spNeeded : Sp := fun vs H Q _ => ∃ (s : Sh) (z : Str) (g : Addr) (i j : Nat) (r : List V) (u : V) (S : Addr → Prop), vs = [.str z, .ref g, u] ∧ Okb s ∧ tl z = s.tx ∧ InG s.ws (i, j) ∧ H g = some (.tup (.str "group" :: .int (i : Int) :: .int (j : Int) :: r)) ∧ LV S H s.da u ∧ ∀ H', Same H H' → Q (.bl true) H'
theorem in_len {s : Sh} (h : s.fine) {i j : Nat} (g : InG s.ws (i, j)) : ∃ q, j = q + 1 ∧ i < q ∧ q < s.tx.length := by
  obtain ⟨q, ⟨h1, h2⟩, h3, h4⟩ := g
  have k := (Sh.has h 0).sl _ h4
  refine ⟨q, h1, h2, ?_⟩
  have e := congrArg List.length k
  have k2 : ((s.tx.drop q).take (tl ")").length).length = (tl ")").length := e
  rw [List.length_take, List.length_drop] at k2
  have : (tl (")" : Str)).length = 1 := by decide +kernel
  omega
section
variable {P : Program} {w : World} {K : PySem.W.Frag} {mg : Str → Option Value} {base : Heap} {f : Addr} {fd : FuncData} {aW CR CS aR : Addr} {tS t0 t1 t2 t3 t4 t5 t6 : PySem.Tok}
abbrev s_l_needed : Stmt := topS 60
abbrev N_l_needed : List Str := ["text", "group", "shape", "start", "end", "bare_v"]
theorem sc_l_needed : FnScope N_l_needed ["text", "group", "shape"] (defScope s_l_needed) := ⟨rfl, rfl, rfl, by decide +kernel, rfl, by decide +kernel, by decide +kernel⟩
theorem ok_l_needed (F : Fun K "_law_needed" "_law_needed" s_l_needed f fd) (T : NmY K w mg aW tS CR CS aR t0 t1 t2 t3 t4 t5 t6) (C_law_stripped : Cal P w K mg base CX0 93 "_law_stripped" (spStrip 93)) (C_read_value : Cal P w K mg base (L2N.CX P w) 226 "read_value" (spReadB CS 225)) :
    FnOk P w K mg base CX0 227 f fd ["text", "group", "shape"] spNeeded := by
  refine F.ok sc_l_needed (fun vs H Q E h => ?_) (fun cdv A outer s H vs Q E hr h => ?_)
  · obtain ⟨_, _, _, _, _, _, _, _, rfl, _⟩ := h
    rfl
  obtain ⟨sh, z, g, i, j, r, u, S, rfl, ok, hz, hg, hp, lu, q⟩ := h
  refine ⟨_, (pss_cons (ps_set (i := 3) sc_l_needed.nd rfl (Or.inl rfl) (pe_ix (r := rIxT K) ix_tup (pv 1) pe_int (fun _ _ => rfl)))
    (pss_cons (ps_set (i := 4) sc_l_needed.nd rfl (Or.inl rfl) (pe_ix (r := rIxT K) ix_tup (pv 1) pe_int (fun _ _ => rfl)))
    (pss_cons (ps_set (i := 5) sc_l_needed.nd rfl (Or.inl rfl) (pe_op op_add_str (pe_op op_add_str (pe_op op_add_str (pe_op op_add_str (pe_slice sl_str (pv 0) po_none (po_some (pv 3))) pe_str) (pe_slice sl_str (pv 0) (po_some (pe_op op_add (pv 3) pe_int)) (po_some (pe_op op_sub (pv 4) pe_int)))) pe_str) (pe_slice sl_str (pv 0) (po_some (pv 4)) po_none)))
    (pss_one (L2N.ps_try_many rfl rfl takes0N (fun W pn xe tk _ => (pss_one (ps_ret (pe_cmpR (r := rNeM K) (op_neM hr.units) (pe_c C_law_stripped hr (by first | decide | omega) pass0 (pa_cons (pe_cSN C_read_value hr (by decide) tk (pa_cons (pv 5) pa_nil)) pa_nil)) (pv 2) (nomark _))))) (.cons ⟨rfl, by decide, .inl T.c_SyntaxProblem⟩ (fun a oe cls d pn hz hf => (pss_one (ps_ret pe_bl))) .nil)))))), ?_⟩
  obtain ⟨n, rfl, hin, hnl⟩ := in_len ok.fine hg
  have zl : z.length ≤ 7124 := by rw [len_tl, hz]; exact ok.txl
  have nz : n < z.length := by rw [len_tl, hz]; exact hnl
  refine ⟨_, rfl, g, _, _, _, rfl, rfl, SqT.of hp, at1, ?_⟩
  refine ⟨_, rfl, g, _, _, _, rfl, rfl, SqT.of hp, at2, ?_⟩
  have small : z.length ≤ sizeLine := Nat.le_trans zl (by decide)
  refine ⟨_, rfl, _, rfl, _, rfl, z, rfl, small, ?_⟩
  have c1 : (cutS z none (some (i : Int))).length ≤ 7124 := by rw [len_tl, tl_cut_to, List.length_take, ← len_tl]; omega
  have c2 : (cutS z (some ((i + 1 : Nat) : Int)) (some (n : Int))).length ≤ 7124 := by rw [len_tl, tl_cut_mid _ _ _ (by rw [← len_tl]; omega), List.length_take, List.length_drop, ← len_tl]; omega
  have c3 : (cutS z (some ((n + 1 : Nat) : Int)) none).length ≤ 7124 := by rw [len_tl, tl_cut_from, List.length_drop, ← len_tl]; omega
  have le : ∀ {m : Nat}, m ≤ 30000 → m ≤ sizeLine := fun h => Nat.le_trans h (by decide)
  have e1 : ((i : Nat) : Int) + 1 = ((i + 1 : Nat) : Int) := by omega
  have e2 : ((n + 1 : Nat) : Int) - 1 = (n : Int) := by omega
  refine ⟨_, " ", rfl, rfl, le (show (cutS z none (some (i : Int))).length + 1 ≤ 30000 by omega), ?_⟩
  refine ⟨_, rfl, _, rfl, _, _, rfl, rfl, _, rfl, _, rfl, _, _, rfl, rfl, _, rfl, z, rfl, small, ?_⟩
  rw [e1, e2]
  generalize hz1 : cutS z none (some (i : Int)) = z1 at c1 ⊢
  generalize hz2 : cutS z (some ((i + 1 : Nat) : Int)) (some (n : Int)) = z2 at c2 ⊢
  refine ⟨_, _, rfl, rfl, le (by rw [len_app]; show z1.length + 1 + z2.length ≤ 30000; omega), ?_⟩
  refine ⟨_, " ", rfl, rfl, le (by rw [len_app, len_app]; show z1.length + 1 + z2.length + 1 ≤ 30000; omega), ?_⟩
  refine ⟨_, rfl, _, rfl, _, rfl, z, rfl, small, ?_⟩
  generalize hz3 : cutS z (some ((n + 1 : Nat) : Int)) none = z3 at c3 ⊢
  have l5 : (z1 ++ " " ++ z2 ++ " " ++ z3).length ≤ 30000 := by
    rw [len_app, len_app, len_app, len_app]
    show z1.length + 1 + z2.length + 1 + z3.length ≤ 30000
    omega
  refine ⟨_, _, rfl, rfl, le (by rw [len_app, len_app, len_app]; show z1.length + 1 + z2.length + 1 + z3.length ≤ 30000; omega), ?_⟩
  have hl : tl (z1 ++ " " ++ z2 ++ " " ++ z3) = sh.tx.take i ++ 32 :: ((sh.tx.drop (i + 1)).take (n + 1 - 1 - (i + 1)) ++ 32 :: sh.tx.drop (n + 1)) := by
    have h1 : tl z1 = sh.tx.take i := by rw [← hz1, tl_cut_to, hz]
    have h2 : tl z2 = (sh.tx.drop (i + 1)).take (n - (i + 1)) := by rw [← hz2, tl_cut_mid _ _ _ (by rw [← len_tl]; omega), hz]
    have h3 : tl z3 = sh.tx.drop (n + 1) := by rw [← hz3, tl_cut_from, hz]
    rw [tl_append, tl_append, tl_append, tl_append, h1, h2, h3, show tl " " = [32] by decide +kernel]
    simp
  generalize z1 ++ " " ++ z2 ++ " " ++ z3 = zz at l5 hl ⊢
  refine ⟨_, rfl, zz, rfl, by omega, fun r0 => ?_⟩
  obtain ⟨l1, l2, l3⟩ := ok.less hg r0 hl
  have l1 : (allT zz).length ≤ 300 := l1
  have l2 : valB (⟨r0, tl zz, allT zz⟩ : Src) 225 0 0 ≠ .un := l2
  have l3 : ∀ t b, valB (⟨r0, tl zz, allT zz⟩ : Src) 225 0 0 = .ok t b → b ≤ (allT zz).length → ∃ n : Nd, n.t = t ∧ n.ok ∧ n.sh ≠ sh ∧ n.ht ≤ 93 ∧ n.sh.da.canLay0 = true := l3
  rw [if_neg (by omega)]
  cases ev : valB (⟨r0, tl zz, allT zz⟩ : Src) 225 0 0 with
  | un => exact absurd ev l2
  | no s1 e1 =>
    intro H7 dd s7 xd
    refine ⟨true, T.exm, fun _ a2 na => ?_, fun h => absurd h (by decide)⟩
    exact q _ s7
  | ok t a =>
    by_cases ka : a < (allT zz).length
    · show if a < (allT zz).length then _ else _
      rw [if_pos ka]
      intro H7 dd s7 xd
      refine ⟨true, T.exm, fun _ a2 na => ?_, fun h => absurd h (by decide)⟩
      exact q _ s7
    · show if a < (allT zz).length then _ else _
      rw [if_neg ka]
      intro H7 v s7 ha D7
      obtain ⟨m, rfl, om, nm, hm, cm⟩ := l3 t a ev ha
      refine ⟨m, v, rfl, om, hm, D7, fun u2 H8 s8 lv => ?_⟩
      have s78 := s7.trans s8
      refine ⟨_, rfl, _, _, LV.dp _ _ lv, LV.dp _ _ (LV.keep (S' := S) (fun b o _ e => s78 _ _ e) (fun _ h => h) _ _ lu), cm, ok.da, ?_⟩
      have ne : PyData.eqv m.sh.da sh.da = false := by
        cases he : PyData.eqv m.sh.da sh.da with
        | false => rfl
        | true => exact absurd (Sh.inj _ _ he) nm
      rw [ne]
      exact q _ s78
end

end Sn

namespace Sn
open PySem PySem.Spec PyProof.Rows L2 TL
/-! ### the law -/
theorem two_no {x : Str} (h : ∀ a c : List Nat, tl x ≠ a ++ 32 :: 32 :: c) : (Builtin.Str.occurrences x "  " 0 x.length 1).isEmpty = true := by
  rcases StrLaws.occ_head x "  " 1 (Nat.le_refl _) with ⟨e, _⟩ | ⟨i, r, _, ⟨_, k⟩, _⟩
  · rw [e]
    rfl
  · rw [StrLaws.subAt_eq] at k
    have k : ((tl x).drop i).take 2 = [32, 32] := eq_of_beq k
    refine absurd ?_ (h ((tl x).take i) ((tl x).drop (i + 2)))
    have e1 := List.take_append_drop i (tl x)
    have e2 := List.take_append_drop 2 ((tl x).drop i)
    rw [k, List.drop_drop] at e2
    rw [← e2] at e1
    exact e1.symm
mutual
theorem Nd.flat_gs {g : Nd} : ∀ n : Nd, g ∈ n.flat → g.tag = "group" → (g.s, g.e) ∈ n.gs
  | .nd tag call s e pre post ks, h, ht => by
    rw [Nd.flat_ks] at h
    rw [Nd.gs]
    rcases List.mem_cons.mp h with rfl | h
    · have ht : tag = "group" := ht
      rw [if_pos ht]
      exact List.mem_append_left _ (List.mem_singleton.mpr rfl)
    · exact List.mem_append_right _ (Ns.flat_gs ks h ht)
theorem Ns.flat_gs {g : Nd} : ∀ ns : Ns, g ∈ ns.flat → g.tag = "group" → (g.s, g.e) ∈ ns.gs
  | .nil, h, _ => by
    rw [Ns.flat_nil] at h
    cases h
  | .cons a t, h, ht => by
    rw [Ns.flat_cons] at h
    rw [Ns.gs]
    rcases List.mem_append.mp h with h | h
    · exact List.mem_append_left _ (Nd.flat_gs a h ht)
    · exact List.mem_append_right _ (Ns.flat_gs t h ht)
end
section
variable {P : Program} {w : World} {K : PySem.W.Frag} {mg : Str → Option Value} {base : Heap} {f : Addr} {fd : FuncData} {aN CS : Addr}
abbrev s_law : Stmt := topS 61
abbrev N_law : List Str := ["script", "tape", "out", "tree", "shape", "text", "again", "group"]
theorem sc_law : FnScope N_law ["script"] (defScope s_law) := ⟨rfl, rfl, rfl, by decide +kernel, rfl, by decide +kernel, by decide +kernel⟩
theorem ok_law (F : Fun K "law" "law" s_law f fd) (T : Nm mg) (C_law_tape : Cal P w K mg base CX0 1 "_law_tape" (spTape K)) (C_law_tree : Cal P w K mg base CX0 12 "_law_tree" (spTree 4)) (C_law_stripped : Cal P w K mg base CX0 93 "_law_stripped" (spStrip 93)) (C_print_value : Cal P w K mg base CX0 3 "print_value" spPrint)
    (C_law_same : Cal P w K mg base CX0 32 "_law_same" (spSame 16)) (C_nodes : Cal P w K mg base CX0 2 "nodes" spNodes) (C_law_needed : Cal P w K mg base CX0 227 "_law_needed" spNeeded) (C_read_value : Cal P w K mg base (L2N.CX P w) 226 "read_value" (spReadB CS 225)) :
    FnOk P w K mg base CX0 228 f fd ["script"] (spLaw K) := by
  refine F.ok sc_law (fun vs H Q E h => ?_) (fun cdv A outer s H vs Q E hr h => ?_)
  · obtain ⟨a, ns, rfl, _⟩ := h
    rfl
  obtain ⟨a, ns, rfl, hS, h63, q⟩ := h
  refine ⟨_, (pss_cons (ps_set (i := 1) sc_law.nd rfl (Or.inl rfl) (pe_c C_law_tape hr (by first | decide | omega) pass0 (pa_cons (pv 0) pa_nil)))
    (pss_cons (ps_set (i := 2) sc_law.nd rfl (Or.inl rfl) (pe_disp (pps_cons pe_str pe_str pps_nil) (by rfl) (by rfl) (fun z => by cases z) (by decide)))
    (pss_cons (ps_set (i := 3) sc_law.nd rfl (Or.inl rfl) (pe_c C_law_tree hr (by first | decide | omega) pass0 (pa_cons (pv 1) (pa_cons (pv 2) (pa_cons pe_int (pa_cons pe_int pa_nil))))))
    (pss_cons (ps_set (i := 4) sc_law.nd rfl (Or.inl rfl) (pe_c C_law_stripped hr (by first | decide | omega) pass0 (pa_cons (pv 3) pa_nil)))
    (pss_cons (ps_set (i := 5) sc_law.nd rfl (Or.inl rfl) (pe_c C_print_value hr (by first | decide | omega) pass0 (pa_cons (pv 3) pa_nil)))
    (pss_cons (ps_set (i := 6) sc_law.nd rfl (Or.inl rfl) (pe_c C_read_value hr (by first | decide | omega) passLN (pa_cons (pv 5) pa_nil)))
    (pss_cons (ps_if (PW.pt (pw_or (pt_not (pt_val (pe_c C_law_same hr (by first | decide | omega) pass0 (pa_cons (pe_c C_law_stripped hr (by first | decide | omega) pass0 (pa_cons (pv 6) pa_nil)) (pa_cons (pv 4) pa_nil))))) (pw_or (pt_not (pt_val (pe_c C_law_same hr (by first | decide | omega) pass0 (pa_cons (pe_c C_print_value hr (by first | decide | omega) pass0 (pa_cons (pv 6) pa_nil)) (pa_cons (pv 5) pa_nil))))) (pw_or1 (pt_cmpR op_in_str pe_str (pv 5) (by rfl)))))) (pss_one (ps_ret pe_bl)) pss_nil)
    (pss_cons (ps_for PassesOwn.never rfl (pi_list (pe_c C_nodes hr (by first | decide | omega) pass0 (pa_cons (pv 6) pa_nil))) (pg_name (i := 7) sc_law.nd rfl (Or.inl rfl)) (pss_one (ps_if (PW.pt (pw_and (pt_cmpR op_eq (pe_ix (r := rIxT K) ix_tup (pv 7) pe_int (fun _ _ => rfl)) pe_str (nomark _)) (pw_and1 (pt_not (pt_val (pe_c C_law_needed hr (by first | decide | omega) pass0 (pa_cons (pv 5) (pa_cons (pv 7) (pa_cons (pv 4) pa_nil))))))))) (pss_one (ps_ret pe_bl)) pss_nil)))
    (pss_one (ps_ret pe_bl)))))))))), ?_⟩
  refine ⟨_, rfl, a, ns, rfl, hS, h63, fun t c H1 s1 nt nc tp1 => ?_⟩
  intro o no
  refine ⟨upd_same, [(.inr "text", .str "")], rfl, (by show 1 ≤ 15; decide), ?_⟩
  rw [upd_upd]
  have em : mergeK [] [((.inr "text" : Key), V.str "")] = [(.inr "text", .str "")] := by kernel_rfl
  rw [em]
  have P0 : Pn (upd H1 o (.dK [(.inr "text", .str "")])) t c o [] := ⟨tp1.new no, "", upd_same, by rw [show tl ("" : Str) = [] by decide +kernel]; exact tx_nil⟩
  refine ⟨_, rfl, _, rfl, t, c, o, 3, 0, [], rfl, by decide, by decide, fun e => absurd e (by decide), P0, by decide, fun H2 nw tn v pr ln dn D2 P2 b2 => ?_⟩
  have P2 : Pn H2 t c o nw := P2
  have ln : nw.length ≤ 92 := ln
  have pr : RdV 3 nw tn := pr
  obtain ⟨T2, z, hz, X⟩ := id P2
  obtain ⟨n, fd0⟩ := pr X.ok
  have kb := fd0.okb ln dn
  have D2 : DT H2 n.t.d v := by rw [fd0.t]; exact D2
  have nht : n.ht ≤ 93 := by
    have := n.ht_dep
    rw [fd0.t] at this
    have dn : dep tn.d ≤ 7 := dn
    omega
  refine ⟨_, rfl, n, v, rfl, fd0.ok, nht, D2, fun u H3 s3 lu => ?_⟩
  have D3 := D2.keep (Tups.of s3)
  have txl := kb.txl
  refine ⟨_, rfl, n, v, rfl, fd0.ok, kb.fine, kb.nc, by omega, D3, fun z5 H4 s4 hz5 => ?_⟩
  have zl5 : z5.length ≤ 7124 := by rw [len_tl, hz5]; exact txl
  refine ⟨_, rfl, z5, rfl, by omega, fun r => ?_⟩
  obtain ⟨m, gt, ev⟩ := kb.toOkay.read r
  have tks := kb.tks
  rw [← hz5] at ev tks
  have tks : (allT z5).length ≤ 274 := tks
  have ev : valB (⟨r, tl z5, allT z5⟩ : Src) 225 0 0 = .ok m.t (allT z5).length := ev
  rw [if_neg (by omega), ev]
  show if (allT z5).length < (allT z5).length then _ else _
  rw [if_neg (Nat.lt_irrefl _)]
  intro H5 v6 s5 _ D5
  obtain ⟨mc, mh⟩ := kb.got gt
  refine ⟨_, rfl, m, v6, rfl, gt.ok, mh, D5, fun u6 H6 s6 lu6 => ?_⟩
  have s36 := s4.trans (s5.trans s6)
  have lu' := LV.keep (S' := fun a => H2 a ≠ none) (H' := H6) (fun b o _ e => s36 _ _ e) (fun _ h => h) _ _ lu
  rw [gt.sh] at lu6
  have dd : n.sh.da.depth < 16 := by
    have := Sh.da_dep n.sh
    have := kb.hgt
    omega
  refine ⟨_, rfl, _, _, rfl, LV.al _ _ _ 16 dd lu6 lu', _, rfl, iteF ?_⟩
  have D6 := D5.keep (Tups.of s6)
  refine ⟨_, rfl, m, v6, rfl, gt.ok, by rw [gt.sh]; exact kb.fine, by rw [gt.sh]; exact kb.nc, by rw [gt.sh]; omega, D6, fun z7 H7 s7 hz7 => ?_⟩
  have e75 : z7 = z5 := ext_tl (by rw [hz7, hz5, gt.sh])
  subst e75
  refine ⟨_, rfl, _, _, rfl, Al.sc rfl, _, rfl, iteF ?_⟩
  refine ⟨_, rfl, _, _, rfl, rfl, _, rfl, ?_⟩
  rw [two_no (fun a c => by rw [hz5]; exact Sh.no2 kb.fine a c)]
  refine iteF ?_
  have D7 := D6.keep (Tups.of s7)
  refine ⟨_, rfl, m, v6, rfl, gt.ok, by omega, D7, fun p us H8 s8 np hp tl8 => ⟨p, rfl, ⟨_, SqL.of hp⟩, ?_⟩⟩
  have s68 := s7.trans s8
  have lu8 := LV.keep (S' := fun a => H2 a ≠ none) (H' := H8) (fun b o _ e => s68 _ _ e) (fun _ h => h) _ _ lu'
  refine for_list (K := K) (a := p) (xs := us) (fun i σ H' => ∃ y : Option V, σ = [some (.ref a), some (.ref t), some (.ref o), some v, some u, some (.str z7), some v6, y] ∧ Same H8 H') ⟨none, rfl, fun _ _ e => e⟩ (fun i σ H' _ h => by obtain ⟨_, _, sm⟩ := h; exact SqL.of (sm _ _ hp)) ?_ ?_
  · rintro i x σ H9 hi ⟨y, rfl, sm⟩
    have hil := (List.getElem?_eq_some_iff.mp hi).1
    have hil2 : i < m.flat.length := by rw [← tl8.len]; exact hil
    have gm := List.getElem?_eq_getElem hil2
    generalize m.flat[i] = g at gm
    have gmem := List.mem_of_getElem? gm
    have dg := (tl8.get gm hi).keep (Tups.of sm)
    obtain ⟨c1, r1, rfl, hc1, _, _⟩ := Tn.at_ dg
    have et : g.t.tag = g.tag := by cases g; rw [Nd.t_nd]; rfl
    have es : g.t.s = g.s := by cases g; rw [Nd.t_nd]; rfl
    have ee : g.t.e = g.e := by cases g; rw [Nd.t_nd]; rfl
    refine ⟨_, rfl, c1, _, _, _, rfl, rfl, SqT.of hc1, at0, rfl, _, rfl, ?_⟩
    by_cases hg : g.t.tag = "group"
    · refine iteP (by rw [hg]) ?_
      rw [hg, es, ee] at hc1
      have ing := gt.gs _ (Nd.flat_gs m gmem (by rw [← et]; exact hg))
      refine ⟨_, rfl, _, rfl, _, rfl, n.sh, z7, c1, g.s, g.e, r1, u, _, rfl, kb, hz5, ing, hc1, LV.keep (S' := fun a => H2 a ≠ none) (fun b o _ e => sm _ _ e) (fun _ h => h) _ _ lu8, fun H10 s10 => ?_⟩
      exact ⟨_, rfl, iteF ⟨_, rfl, sm.trans s10⟩⟩
    · exact iteN (fun e => hg (by injection e)) ⟨_, rfl, sm⟩
  · rintro σ H9 ⟨y, rfl, sm⟩
    exact q _
end

end Sn

namespace Sn
open PySem PySem.Spec PyProof.Rows L2 TL
/-! ### the tokens of a text -/
section
variable {P : Program} {w : World} {K : PySem.W.Frag} {mg : Str → Option Value} {base : Heap} {f : Addr} {fd : FuncData} {aW : Addr} {tS : PySem.Tok}
abbrev s_tokens : Stmt := topS 15
abbrev N_tokens : List Str := ["text"]
theorem sc_tokens : FnScope N_tokens ["text"] (defScope s_tokens) := ⟨rfl, rfl, rfl, by decide +kernel, rfl, by decide +kernel, by decide +kernel⟩
theorem ok_tokens (F : Fun K "tokens" "tokens" s_tokens f fd) (T : Nm5 K mg aW tS) (C_tokens_between : Cal P w K mg base CX0 4 "tokens_between" spBetween) : FnOk P w K mg base CX0 5 f fd ["text"] spTokens := by
  refine F.ok sc_tokens (fun vs H Q E h => ?_) (fun cdv A outer s H vs Q E hr h => ?_)
  · obtain ⟨z, rfl, _⟩ := h
    rfl
  obtain ⟨z, rfl, hz, q⟩ := h
  refine ⟨_, (pss_one (ps_ret (pe_c C_tokens_between hr (by first | decide | omega) pass0 (pa_cons (pv 0) (pa_cons pe_int (pa_cons (pe_callB call_len_str (by rfl) T.len PySem.boot_len (pa_cons (pv 0) pa_nil)) pa_nil)))))), ?_⟩
  have el := len_tl z
  refine ⟨_, rfl, _, rfl, z, rfl, small hz, z, 0, (tl z).length, by rw [el]; rfl, Nat.le_refl _, hz, q⟩
end

end Sn

namespace Sn
open PySem PySem.Spec PyProof.Rows L2 TL
theorem all_mk {l : PySem.W.OpenLaw} {w : World} {K : PySem.W.Frag} {h : Heap} {mg : Str → Option Value} {fa f0 f1 f2 f3 f4 f5 f6 f7 f8 f9 f10 f11 f12 f13 f14 f15 f16 f17 f18 f19 f20 f21 f22 f23 f24 f25 f26 f27 f28 f29 f30 f31 f32 f33 f34 f35 : Addr}
    {od0 an0 od1 an1 od2 an2 od3 an3 od4 an4 od5 an5 od6 an6 od7 an7 od8 an8 od9 an9 od10 an10 od11 an11 od12 an12 od13 an13 od14 an14 od15 an15 od16 an16 od17 an17 od18 an18 od19 an19 od20 an20 od21 an21 od22 an22 od23 an23 od24 an24 od25 an25 od26 an26 od27 an27 od28 an28 od29 an29 od30 an30 od31 an31 od32 an32 od33 an33 od34 an34 od35 an35 : Option Addr} {sl0 sl1 sl2 sl3 sl4 sl5 sl6 sl7 sl8 sl9 sl10 sl11 sl12 sl13 sl14 sl15 sl16 sl17 sl18 sl19 sl20 sl21 sl22 sl23 sl24 sl25 sl26 sl27 sl28 sl29 sl30 sl31 sl32 sl33 sl34 sl35 : Array (Option Value)} {oc0 kV0 dc0 pm0 cd0 ct0 oc1 kV1 dc1 pm1 cd1 ct1 oc2 kV2 dc2 pm2 cd2 ct2 oc3 kV3 dc3 pm3 cd3 ct3 oc4 kV4 dc4 pm4 cd4 ct4 oc5 kV5 dc5 pm5 cd5 ct5 oc6 kV6 dc6 pm6 cd6 ct6 oc7 kV7 dc7 pm7 cd7 ct7 oc8 kV8 dc8 pm8 cd8 ct8 oc9 kV9 dc9 pm9 cd9 ct9 oc10 kV10 dc10 pm10 cd10 ct10 oc11 kV11 dc11 pm11 cd11 ct11 oc12 kV12 dc12 pm12 cd12 ct12 oc13 kV13 dc13 pm13 cd13 ct13 oc14 kV14 dc14 pm14 cd14 ct14 oc15 kV15 dc15 pm15 cd15 ct15 oc16 kV16 dc16 pm16 cd16 ct16 oc17 kV17 dc17 pm17 cd17 ct17 oc18 kV18 dc18 pm18 cd18 ct18 oc19 kV19 dc19 pm19 cd19 ct19 oc20 kV20 dc20 pm20 cd20 ct20 oc21 kV21 dc21 pm21 cd21 ct21 oc22 kV22 dc22 pm22 cd22 ct22 oc23 kV23 dc23 pm23 cd23 ct23 oc24 kV24 dc24 pm24 cd24 ct24 oc25 kV25 dc25 pm25 cd25 ct25 oc26 kV26 dc26 pm26 cd26 ct26 oc27 kV27 dc27 pm27 cd27 ct27 oc28 kV28 dc28 pm28 cd28 ct28 oc29 kV29 dc29 pm29 cd29 ct29 oc30 kV30 dc30 pm30 cd30 ct30 oc31 kV31 dc31 pm31 cd31 ct31 oc32 kV32 dc32 pm32 cd32 ct32 oc33 kV33 dc33 pm33 cd33 ct33 oc34 kV34 dc34 pm34 cd34 ct34 oc35 kV35 dc35 pm35 cd35 ct35 : Value}
    {aW : Addr} {tS : PySem.Tok} {odW : Option Addr} {nW : Nat} {slW : Array (Option Value)} {u0 u1 u2 u3 u4 u5 u6 u7 u8 u9 u10 u11 u12 u13 u14 u15 u16 u17 u18 u19 : PySem.Tok}
    {CR CS CE aR : Addr} {t0 t1 t2 t3 t4 t5 t6 : PySem.Tok} {y0 g0 y1 g1 y2 g2 y3 g3 y4 g4 y5 g5 y6 g6 y7 g7 : PySem.Tok} {nR : Nat}
    {xn xq : Str} {xN : Addr} {xbs : List Value} {xsn : List Str} {xsub : List Value} {xab : Bool} {xcol : Option Bool} {xdd : Option Addr} {x0 x1 x2 x3 x5 : Option Value}
    {aN aF aD : Addr} {nN nF nD : Nat} {ik0 ik1 ik2 ik3 ik4 ik5 ik6 ik7 ik8 ik9 ik10 fk0 fk1 fk2 fk3 fk4 fv0 fv1 fv2 fv3 fv4 dk0 dk1 dk2 dk3 dk4 dk5 dk6 dk7 : PySem.Tok} {e8 e3 e7 : PySem.Tok}
    {ip0 ip1 ip2 ip3 ip4 ip5 ip6 ip7 ip8 ip9 ip10 : Addr}
    {io0 io1 io2 io3 io4 io5 io6 io7 io8 io9 io10 : Option Addr} {it0 iu0 it1 iu1 it2 iu2 it3 iu3 it4 iu4 it5 iu5 it6 iu6 it7 iu7 it8 iu8 it9 iu9 it10 iu10 : PySem.Tok} {in0 in1 in2 in3 in4 in5 in6 in7 in8 in9 in10 : Nat} {is0 is1 is2 is3 is4 is5 is6 is7 is8 is9 is10 : Array (Option Value)}
    {dp0 dp1 dp2 dp3 dp4 dp5 dp6 dp7 : Addr}
    {do0 do1 do2 do3 do4 do5 do6 do7 : Option Addr} {dt0 du0 dt1 du1 dt2 du2 dt3 du3 dt4 du4 dt5 du5 dt6 du6 dt7 du7 : PySem.Tok} {dn0 dn1 dn2 dn3 dn4 dn5 dn6 dn7 : Nat} {ds0 ds1 ds2 ds3 ds4 ds5 ds6 ds7 : Array (Option Value)}
    {f36 : Addr} {od36 an36 : Option Addr} {sl36 : Array (Option Value)} {oc36 kV36 dc36 pm36 cd36 ct36 : Value}
    {f37 : Addr} {od37 an37 : Option Addr} {sl37 : Array (Option Value)} {oc37 kV37 dc37 pm37 cd37 ct37 : Value}
    {f38 : Addr} {od38 an38 : Option Addr} {sl38 : Array (Option Value)} {oc38 kV38 dc38 pm38 cd38 ct38 : Value}
    {f39 : Addr} {od39 an39 : Option Addr} {sl39 : Array (Option Value)} {oc39 kV39 dc39 pm39 cd39 ct39 : Value}
    {f40 : Addr} {od40 an40 : Option Addr} {sl40 : Array (Option Value)} {oc40 kV40 dc40 pm40 cd40 ct40 : Value}
    {f41 : Addr} {od41 an41 : Option Addr} {sl41 : Array (Option Value)} {oc41 kV41 dc41 pm41 cd41 ct41 : Value}
    {f42 : Addr} {od42 an42 : Option Addr} {sl42 : Array (Option Value)} {oc42 kV42 dc42 pm42 cd42 ct42 : Value}
    {f43 : Addr} {od43 an43 : Option Addr} {sl43 : Array (Option Value)} {oc43 kV43 dc43 pm43 cd43 ct43 : Value}
    {f44 : Addr} {od44 an44 : Option Addr} {sl44 : Array (Option Value)} {oc44 kV44 dc44 pm44 cd44 ct44 : Value}
    {f45 : Addr} {od45 an45 : Option Addr} {sl45 : Array (Option Value)} {oc45 kV45 dc45 pm45 cd45 ct45 : Value}
    {f46 : Addr} {od46 an46 : Option Addr} {sl46 : Array (Option Value)} {oc46 kV46 dc46 pm46 cd46 ct46 : Value}
    {f47 : Addr} {od47 an47 : Option Addr} {sl47 : Array (Option Value)} {oc47 kV47 dc47 pm47 cd47 ct47 : Value}
    {f48 : Addr} {od48 an48 : Option Addr} {sl48 : Array (Option Value)} {oc48 kV48 dc48 pm48 cd48 ct48 : Value}
    {f49 : Addr} {od49 an49 : Option Addr} {sl49 : Array (Option Value)} {oc49 kV49 dc49 pm49 cd49 ct49 : Value}
    {f50 : Addr} {od50 an50 : Option Addr} {sl50 : Array (Option Value)} {oc50 kV50 dc50 pm50 cd50 ct50 : Value}
    {f51 : Addr} {od51 an51 : Option Addr} {sl51 : Array (Option Value)} {oc51 kV51 dc51 pm51 cd51 ct51 : Value}
    {f52 : Addr} {od52 an52 : Option Addr} {sl52 : Array (Option Value)} {oc52 kV52 dc52 pm52 cd52 ct52 : Value}
    {f53 : Addr} {od53 an53 : Option Addr} {sl53 : Array (Option Value)} {oc53 kV53 dc53 pm53 cd53 ct53 : Value}
    {f54 : Addr} {od54 an54 : Option Addr} {sl54 : Array (Option Value)} {oc54 kV54 dc54 pm54 cd54 ct54 : Value}
    {f55 : Addr} {od55 an55 : Option Addr} {sl55 : Array (Option Value)} {oc55 kV55 dc55 pm55 cd55 ct55 : Value}
    {f56 : Addr} {od56 an56 : Option Addr} {sl56 : Array (Option Value)} {oc56 kV56 dc56 pm56 cd56 ct56 : Value}
    {f57 : Addr} {od57 an57 : Option Addr} {sl57 : Array (Option Value)} {oc57 kV57 dc57 pm57 cd57 ct57 : Value}
    {f58 : Addr} {od58 an58 : Option Addr} {sl58 : Array (Option Value)} {oc58 kV58 dc58 pm58 cd58 ct58 : Value} (X : K.In h) (G : h.Ns mainGlobals mg) (hfa : mg "law" = some (.ref fa))
    (a0 : PySem.W.nsIn K mainGlobals "line_end" = some (some (.ref f0)))
    (l0 : K.lookup f0 = some ⟨oc0, od0, .func (PySem.W.fnOf "line_end" "line_end" (defArgs s_line_end) (defBody s_line_end) (defScope s_line_end) .none kV0 dc0 pm0 an0 cd0 ct0), sl0⟩)
    (c0 : PySem.W.codeIn K cd0 "line_end" = true)
    (k0 : PySem.W.keepIn K (.ref f0) = true)
    (a1 : PySem.W.nsIn K mainGlobals "is_letter" = some (some (.ref f1)))
    (l1 : K.lookup f1 = some ⟨oc1, od1, .func (PySem.W.fnOf "is_letter" "is_letter" (defArgs s_is_letter) (defBody s_is_letter) (defScope s_is_letter) .none kV1 dc1 pm1 an1 cd1 ct1), sl1⟩)
    (c1 : PySem.W.codeIn K cd1 "is_letter" = true)
    (k1 : PySem.W.keepIn K (.ref f1) = true)
    (a2 : PySem.W.nsIn K mainGlobals "is_digit" = some (some (.ref f2)))
    (l2 : K.lookup f2 = some ⟨oc2, od2, .func (PySem.W.fnOf "is_digit" "is_digit" (defArgs s_is_digit) (defBody s_is_digit) (defScope s_is_digit) .none kV2 dc2 pm2 an2 cd2 ct2), sl2⟩)
    (c2 : PySem.W.codeIn K cd2 "is_digit" = true)
    (k2 : PySem.W.keepIn K (.ref f2) = true)
    (a3 : PySem.W.nsIn K mainGlobals "word_end" = some (some (.ref f3)))
    (l3 : K.lookup f3 = some ⟨oc3, od3, .func (PySem.W.fnOf "word_end" "word_end" (defArgs s_word_end) (defBody s_word_end) (defScope s_word_end) .none kV3 dc3 pm3 an3 cd3 ct3), sl3⟩)
    (c3 : PySem.W.codeIn K cd3 "word_end" = true)
    (k3 : PySem.W.keepIn K (.ref f3) = true)
    (a4 : PySem.W.nsIn K mainGlobals "digits_end" = some (some (.ref f4)))
    (l4 : K.lookup f4 = some ⟨oc4, od4, .func (PySem.W.fnOf "digits_end" "digits_end" (defArgs s_digits_end) (defBody s_digits_end) (defScope s_digits_end) .none kV4 dc4 pm4 an4 cd4 ct4), sl4⟩)
    (c4 : PySem.W.codeIn K cd4 "digits_end" = true)
    (k4 : PySem.W.keepIn K (.ref f4) = true)
    (a5 : PySem.W.nsIn K mainGlobals "token_at" = some (some (.ref f5)))
    (l5 : K.lookup f5 = some ⟨oc5, od5, .func (PySem.W.fnOf "token_at" "token_at" (defArgs s_token_at) (defBody s_token_at) (defScope s_token_at) .none kV5 dc5 pm5 an5 cd5 ct5), sl5⟩)
    (c5 : PySem.W.codeIn K cd5 "token_at" = true)
    (k5 : PySem.W.keepIn K (.ref f5) = true)
    (a6 : PySem.W.nsIn K mainGlobals "tokens_between" = some (some (.ref f6)))
    (l6 : K.lookup f6 = some ⟨oc6, od6, .func (PySem.W.fnOf "tokens_between" "tokens_between" (defArgs s_tokens_between) (defBody s_tokens_between) (defScope s_tokens_between) .none kV6 dc6 pm6 an6 cd6 ct6), sl6⟩)
    (c6 : PySem.W.codeIn K cd6 "tokens_between" = true)
    (k6 : PySem.W.keepIn K (.ref f6) = true)
    (a7 : PySem.W.nsIn K mainGlobals "tokens" = some (some (.ref f7)))
    (l7 : K.lookup f7 = some ⟨oc7, od7, .func (PySem.W.fnOf "tokens" "tokens" (defArgs s_tokens) (defBody s_tokens) (defScope s_tokens) .none kV7 dc7 pm7 an7 cd7 ct7), sl7⟩)
    (c7 : PySem.W.codeIn K cd7 "tokens" = true)
    (k7 : PySem.W.keepIn K (.ref f7) = true)
    (a8 : PySem.W.nsIn K mainGlobals "number_value" = some (some (.ref f8)))
    (l8 : K.lookup f8 = some ⟨oc8, od8, .func (PySem.W.fnOf "number_value" "number_value" (defArgs s_number_value) (defBody s_number_value) (defScope s_number_value) .none kV8 dc8 pm8 an8 cd8 ct8), sl8⟩)
    (c8 : PySem.W.codeIn K cd8 "number_value" = true)
    (k8 : PySem.W.keepIn K (.ref f8) = true)
    (a9 : PySem.W.nsIn K mainGlobals "read_value" = some (some (.ref f9)))
    (l9 : K.lookup f9 = some ⟨oc9, od9, .func (PySem.W.fnOf "read_value" "read_value" (defArgs s_read_value) (defBody s_read_value) (defScope s_read_value) .none kV9 dc9 pm9 an9 cd9 ct9), sl9⟩)
    (c9 : PySem.W.codeIn K cd9 "read_value" = true)
    (k9 : PySem.W.keepIn K (.ref f9) = true)
    (a10 : PySem.W.nsIn K mainGlobals "_law_tape" = some (some (.ref f10)))
    (l10 : K.lookup f10 = some ⟨oc10, od10, .func (PySem.W.fnOf "_law_tape" "_law_tape" (defArgs s_tape) (defBody s_tape) (defScope s_tape) .none kV10 dc10 pm10 an10 cd10 ct10), sl10⟩)
    (c10 : PySem.W.codeIn K cd10 "_law_tape" = true)
    (k10 : PySem.W.keepIn K (.ref f10) = true)
    (a11 : PySem.W.nsIn K mainGlobals "_law_take" = some (some (.ref f11)))
    (l11 : K.lookup f11 = some ⟨oc11, od11, .func (PySem.W.fnOf "_law_take" "_law_take" (defArgs s_take) (defBody s_take) (defScope s_take) .none kV11 dc11 pm11 an11 cd11 ct11), sl11⟩)
    (c11 : PySem.W.codeIn K cd11 "_law_take" = true)
    (k11 : PySem.W.keepIn K (.ref f11) = true)
    (a12 : PySem.W.nsIn K mainGlobals "_law_is_integer" = some (some (.ref f12)))
    (l12 : K.lookup f12 = some ⟨oc12, od12, .func (PySem.W.fnOf "_law_is_integer" "_law_is_integer" (defArgs s_isInt) (defBody s_isInt) (defScope s_isInt) .none kV12 dc12 pm12 an12 cd12 ct12), sl12⟩)
    (c12 : PySem.W.codeIn K cd12 "_law_is_integer" = true)
    (k12 : PySem.W.keepIn K (.ref f12) = true)
    (a13 : PySem.W.nsIn K mainGlobals "_law_same_items" = some (some (.ref f13)))
    (l13 : K.lookup f13 = some ⟨oc13, od13, .func (PySem.W.fnOf "_law_same_items" "_law_same_items" (defArgs s_sameItems) (defBody s_sameItems) (defScope s_sameItems) .none kV13 dc13 pm13 an13 cd13 ct13), sl13⟩)
    (c13 : PySem.W.codeIn K cd13 "_law_same_items" = true)
    (k13 : PySem.W.keepIn K (.ref f13) = true)
    (a14 : PySem.W.nsIn K mainGlobals "_law_same" = some (some (.ref f14)))
    (l14 : K.lookup f14 = some ⟨oc14, od14, .func (PySem.W.fnOf "_law_same" "_law_same" (defArgs s_same) (defBody s_same) (defScope s_same) .none kV14 dc14 pm14 an14 cd14 ct14), sl14⟩)
    (c14 : PySem.W.codeIn K cd14 "_law_same" = true)
    (k14 : PySem.W.keepIn K (.ref f14) = true)
    (a15 : PySem.W.nsIn K mainGlobals "_law_put" = some (some (.ref f15)))
    (l15 : K.lookup f15 = some ⟨oc15, od15, .func (PySem.W.fnOf "_law_put" "_law_put" (defArgs s_l_put) (defBody s_l_put) (defScope s_l_put) .none kV15 dc15 pm15 an15 cd15 ct15), sl15⟩)
    (c15 : PySem.W.codeIn K cd15 "_law_put" = true)
    (k15 : PySem.W.keepIn K (.ref f15) = true)
    (a16 : PySem.W.nsIn K mainGlobals "_law_gap" = some (some (.ref f16)))
    (l16 : K.lookup f16 = some ⟨oc16, od16, .func (PySem.W.fnOf "_law_gap" "_law_gap" (defArgs s_l_gap) (defBody s_l_gap) (defScope s_l_gap) .none kV16 dc16 pm16 an16 cd16 ct16), sl16⟩)
    (c16 : PySem.W.codeIn K cd16 "_law_gap" = true)
    (k16 : PySem.W.keepIn K (.ref f16) = true)
    (a17 : PySem.W.nsIn K mainGlobals "_law_token_out" = some (some (.ref f17)))
    (l17 : K.lookup f17 = some ⟨oc17, od17, .func (PySem.W.fnOf "_law_token_out" "_law_token_out" (defArgs s_l_token_out) (defBody s_l_token_out) (defScope s_l_token_out) .none kV17 dc17 pm17 an17 cd17 ct17), sl17⟩)
    (c17 : PySem.W.codeIn K cd17 "_law_token_out" = true)
    (k17 : PySem.W.keepIn K (.ref f17) = true)
    (a18 : PySem.W.nsIn K mainGlobals "_law_some_name" = some (some (.ref f18)))
    (l18 : K.lookup f18 = some ⟨oc18, od18, .func (PySem.W.fnOf "_law_some_name" "_law_some_name" (defArgs s_l_some_name) (defBody s_l_some_name) (defScope s_l_some_name) .none kV18 dc18 pm18 an18 cd18 ct18), sl18⟩)
    (c18 : PySem.W.codeIn K cd18 "_law_some_name" = true)
    (k18 : PySem.W.keepIn K (.ref f18) = true)
    (a19 : PySem.W.nsIn K mainGlobals "_law_tree" = some (some (.ref f19)))
    (l19 : K.lookup f19 = some ⟨oc19, od19, .func (PySem.W.fnOf "_law_tree" "_law_tree" (defArgs s_l_tree) (defBody s_l_tree) (defScope s_l_tree) .none kV19 dc19 pm19 an19 cd19 ct19), sl19⟩)
    (c19 : PySem.W.codeIn K cd19 "_law_tree" = true)
    (k19 : PySem.W.keepIn K (.ref f19) = true)
    (a20 : PySem.W.nsIn K mainGlobals "_law_leaf" = some (some (.ref f20)))
    (l20 : K.lookup f20 = some ⟨oc20, od20, .func (PySem.W.fnOf "_law_leaf" "_law_leaf" (defArgs s_l_leaf) (defBody s_l_leaf) (defScope s_l_leaf) .none kV20 dc20 pm20 an20 cd20 ct20), sl20⟩)
    (c20 : PySem.W.codeIn K cd20 "_law_leaf" = true)
    (k20 : PySem.W.keepIn K (.ref f20) = true)
    (a21 : PySem.W.nsIn K mainGlobals "_law_call" = some (some (.ref f21)))
    (l21 : K.lookup f21 = some ⟨oc21, od21, .func (PySem.W.fnOf "_law_call" "_law_call" (defArgs s_l_call) (defBody s_l_call) (defScope s_l_call) .none kV21 dc21 pm21 an21 cd21 ct21), sl21⟩)
    (c21 : PySem.W.codeIn K cd21 "_law_call" = true)
    (k21 : PySem.W.keepIn K (.ref f21) = true)
    (a22 : PySem.W.nsIn K mainGlobals "_law_reach" = some (some (.ref f22)))
    (l22 : K.lookup f22 = some ⟨oc22, od22, .func (PySem.W.fnOf "_law_reach" "_law_reach" (defArgs s_l_reach) (defBody s_l_reach) (defScope s_l_reach) .none kV22 dc22 pm22 an22 cd22 ct22), sl22⟩)
    (c22 : PySem.W.codeIn K cd22 "_law_reach" = true)
    (k22 : PySem.W.keepIn K (.ref f22) = true)
    (a23 : PySem.W.nsIn K mainGlobals "_law_prefix" = some (some (.ref f23)))
    (l23 : K.lookup f23 = some ⟨oc23, od23, .func (PySem.W.fnOf "_law_prefix" "_law_prefix" (defArgs s_l_prefix) (defBody s_l_prefix) (defScope s_l_prefix) .none kV23 dc23 pm23 an23 cd23 ct23), sl23⟩)
    (c23 : PySem.W.codeIn K cd23 "_law_prefix" = true)
    (k23 : PySem.W.keepIn K (.ref f23) = true)
    (a24 : PySem.W.nsIn K mainGlobals "_law_binary" = some (some (.ref f24)))
    (l24 : K.lookup f24 = some ⟨oc24, od24, .func (PySem.W.fnOf "_law_binary" "_law_binary" (defArgs s_l_binary) (defBody s_l_binary) (defScope s_l_binary) .none kV24 dc24 pm24 an24 cd24 ct24), sl24⟩)
    (c24 : PySem.W.codeIn K cd24 "_law_binary" = true)
    (k24 : PySem.W.keepIn K (.ref f24) = true)
    (a25 : PySem.W.nsIn K mainGlobals "_law_wide" = some (some (.ref f25)))
    (l25 : K.lookup f25 = some ⟨oc25, od25, .func (PySem.W.fnOf "_law_wide" "_law_wide" (defArgs s_l_wide) (defBody s_l_wide) (defScope s_l_wide) .none kV25 dc25 pm25 an25 cd25 ct25), sl25⟩)
    (c25 : PySem.W.codeIn K cd25 "_law_wide" = true)
    (k25 : PySem.W.keepIn K (.ref f25) = true)
    (a26 : PySem.W.nsIn K mainGlobals "bare" = some (some (.ref f26)))
    (l26 : K.lookup f26 = some ⟨oc26, od26, .func (PySem.W.fnOf "bare" "bare" (defArgs s_bareF) (defBody s_bareF) (defScope s_bareF) .none kV26 dc26 pm26 an26 cd26 ct26), sl26⟩)
    (c26 : PySem.W.codeIn K cd26 "bare" = true)
    (k26 : PySem.W.keepIn K (.ref f26) = true)
    (a27 : PySem.W.nsIn K mainGlobals "rank" = some (some (.ref f27)))
    (l27 : K.lookup f27 = some ⟨oc27, od27, .func (PySem.W.fnOf "rank" "rank" (defArgs s_rankF) (defBody s_rankF) (defScope s_rankF) .none kV27 dc27 pm27 an27 cd27 ct27), sl27⟩)
    (c27 : PySem.W.codeIn K cd27 "rank" = true)
    (k27 : PySem.W.keepIn K (.ref f27) = true)
    (a28 : PySem.W.nsIn K mainGlobals "call_pieces" = some (some (.ref f28)))
    (l28 : K.lookup f28 = some ⟨oc28, od28, .func (PySem.W.fnOf "call_pieces" "call_pieces" (defArgs s_callP) (defBody s_callP) (defScope s_callP) .none kV28 dc28 pm28 an28 cd28 ct28), sl28⟩)
    (c28 : PySem.W.codeIn K cd28 "call_pieces" = true)
    (k28 : PySem.W.keepIn K (.ref f28) = true)
    (a29 : PySem.W.nsIn K mainGlobals "pieces" = some (some (.ref f29)))
    (l29 : K.lookup f29 = some ⟨oc29, od29, .func (PySem.W.fnOf "pieces" "pieces" (defArgs s_piecesF) (defBody s_piecesF) (defScope s_piecesF) .none kV29 dc29 pm29 an29 cd29 ct29), sl29⟩)
    (c29 : PySem.W.codeIn K cd29 "pieces" = true)
    (k29 : PySem.W.keepIn K (.ref f29) = true)
    (a30 : PySem.W.nsIn K mainGlobals "print_value" = some (some (.ref f30)))
    (l30 : K.lookup f30 = some ⟨oc30, od30, .func (PySem.W.fnOf "print_value" "print_value" (defArgs s_printV) (defBody s_printV) (defScope s_printV) .none kV30 dc30 pm30 an30 cd30 ct30), sl30⟩)
    (c30 : PySem.W.codeIn K cd30 "print_value" = true)
    (k30 : PySem.W.keepIn K (.ref f30) = true)
    (a31 : PySem.W.nsIn K mainGlobals "children" = some (some (.ref f31)))
    (l31 : K.lookup f31 = some ⟨oc31, od31, .func (PySem.W.fnOf "children" "children" (defArgs s_kidsF) (defBody s_kidsF) (defScope s_kidsF) .none kV31 dc31 pm31 an31 cd31 ct31), sl31⟩)
    (c31 : PySem.W.codeIn K cd31 "children" = true)
    (k31 : PySem.W.keepIn K (.ref f31) = true)
    (a32 : PySem.W.nsIn K mainGlobals "nodes" = some (some (.ref f32)))
    (l32 : K.lookup f32 = some ⟨oc32, od32, .func (PySem.W.fnOf "nodes" "nodes" (defArgs s_nodesF) (defBody s_nodesF) (defScope s_nodesF) .none kV32 dc32 pm32 an32 cd32 ct32), sl32⟩)
    (c32 : PySem.W.codeIn K cd32 "nodes" = true)
    (k32 : PySem.W.keepIn K (.ref f32) = true)
    (a33 : PySem.W.nsIn K mainGlobals "_law_stripped" = some (some (.ref f33)))
    (l33 : K.lookup f33 = some ⟨oc33, od33, .func (PySem.W.fnOf "_law_stripped" "_law_stripped" (defArgs s_l_stripped) (defBody s_l_stripped) (defScope s_l_stripped) .none kV33 dc33 pm33 an33 cd33 ct33), sl33⟩)
    (c33 : PySem.W.codeIn K cd33 "_law_stripped" = true)
    (k33 : PySem.W.keepIn K (.ref f33) = true)
    (a34 : PySem.W.nsIn K mainGlobals "_law_needed" = some (some (.ref f34)))
    (l34 : K.lookup f34 = some ⟨oc34, od34, .func (PySem.W.fnOf "_law_needed" "_law_needed" (defArgs s_l_needed) (defBody s_l_needed) (defScope s_l_needed) .none kV34 dc34 pm34 an34 cd34 ct34), sl34⟩)
    (c34 : PySem.W.codeIn K cd34 "_law_needed" = true)
    (k34 : PySem.W.keepIn K (.ref f34) = true)
    (a35 : PySem.W.nsIn K mainGlobals "law" = some (some (.ref f35)))
    (l35 : K.lookup f35 = some ⟨oc35, od35, .func (PySem.W.fnOf "law" "law" (defArgs s_law) (defBody s_law) (defScope s_law) .none kV35 dc35 pm35 an35 cd35 ct35), sl35⟩)
    (c35 : PySem.W.codeIn K cd35 "law" = true)
    (k35 : PySem.W.keepIn K (.ref f35) = true)
    (a36 : PySem.W.findIn K (.ref CR) "__init__" = some (some (.ref f36)))
    (i36 : PySem.W.isFn K (.ref f36) = true)
    (l36 : K.lookup f36 = some ⟨oc36, od36, .func (PySem.W.fnOf "__init__" "Reader.__init__" (defArgs s_R_init) (defBody s_R_init) (defScope s_R_init) .none kV36 dc36 pm36 an36 cd36 ct36), sl36⟩)
    (c36 : PySem.W.codeIn K cd36 "Reader.__init__" = true)
    (k36 : PySem.W.keepIn K (.ref f36) = true)
    (a37 : PySem.W.findIn K (.ref CR) "fail" = some (some (.ref f37)))
    (i37 : PySem.W.isFn K (.ref f37) = true)
    (l37 : K.lookup f37 = some ⟨oc37, od37, .func (PySem.W.fnOf "fail" "Reader.fail" (defArgs s_Reader_fail) (defBody s_Reader_fail) (defScope s_Reader_fail) .none kV37 dc37 pm37 an37 cd37 ct37), sl37⟩)
    (c37 : PySem.W.codeIn K cd37 "Reader.fail" = true)
    (k37 : PySem.W.keepIn K (.ref f37) = true)
    (a38 : PySem.W.findIn K (.ref CR) "ended" = some (some (.ref f38)))
    (i38 : PySem.W.isFn K (.ref f38) = true)
    (l38 : K.lookup f38 = some ⟨oc38, od38, .func (PySem.W.fnOf "ended" "Reader.ended" (defArgs s_Reader_ended) (defBody s_Reader_ended) (defScope s_Reader_ended) .none kV38 dc38 pm38 an38 cd38 ct38), sl38⟩)
    (c38 : PySem.W.codeIn K cd38 "Reader.ended" = true)
    (k38 : PySem.W.keepIn K (.ref f38) = true)
    (a39 : PySem.W.findIn K (.ref CR) "next_sort" = some (some (.ref f39)))
    (i39 : PySem.W.isFn K (.ref f39) = true)
    (l39 : K.lookup f39 = some ⟨oc39, od39, .func (PySem.W.fnOf "next_sort" "Reader.next_sort" (defArgs s_Reader_next_sort) (defBody s_Reader_next_sort) (defScope s_Reader_next_sort) .none kV39 dc39 pm39 an39 cd39 ct39), sl39⟩)
    (c39 : PySem.W.codeIn K cd39 "Reader.next_sort" = true)
    (k39 : PySem.W.keepIn K (.ref f39) = true)
    (a40 : PySem.W.findIn K (.ref CR) "next_start" = some (some (.ref f40)))
    (i40 : PySem.W.isFn K (.ref f40) = true)
    (l40 : K.lookup f40 = some ⟨oc40, od40, .func (PySem.W.fnOf "next_start" "Reader.next_start" (defArgs s_Reader_next_start) (defBody s_Reader_next_start) (defScope s_Reader_next_start) .none kV40 dc40 pm40 an40 cd40 ct40), sl40⟩)
    (c40 : PySem.W.codeIn K cd40 "Reader.next_start" = true)
    (k40 : PySem.W.keepIn K (.ref f40) = true)
    (a41 : PySem.W.findIn K (.ref CR) "last_end" = some (some (.ref f41)))
    (i41 : PySem.W.isFn K (.ref f41) = true)
    (l41 : K.lookup f41 = some ⟨oc41, od41, .func (PySem.W.fnOf "last_end" "Reader.last_end" (defArgs s_Reader_last_end) (defBody s_Reader_last_end) (defScope s_Reader_last_end) .none kV41 dc41 pm41 an41 cd41 ct41), sl41⟩)
    (c41 : PySem.W.codeIn K cd41 "Reader.last_end" = true)
    (k41 : PySem.W.keepIn K (.ref f41) = true)
    (a42 : PySem.W.findIn K (.ref CR) "peek" = some (some (.ref f42)))
    (i42 : PySem.W.isFn K (.ref f42) = true)
    (l42 : K.lookup f42 = some ⟨oc42, od42, .func (PySem.W.fnOf "peek" "Reader.peek" (defArgs s_Reader_peek) (defBody s_Reader_peek) (defScope s_Reader_peek) .none kV42 dc42 pm42 an42 cd42 ct42), sl42⟩)
    (c42 : PySem.W.codeIn K cd42 "Reader.peek" = true)
    (k42 : PySem.W.keepIn K (.ref f42) = true)
    (a43 : PySem.W.findIn K (.ref CR) "taken" = some (some (.ref f43)))
    (i43 : PySem.W.isFn K (.ref f43) = true)
    (l43 : K.lookup f43 = some ⟨oc43, od43, .func (PySem.W.fnOf "taken" "Reader.taken" (defArgs s_Reader_taken) (defBody s_Reader_taken) (defScope s_Reader_taken) .none kV43 dc43 pm43 an43 cd43 ct43), sl43⟩)
    (c43 : PySem.W.codeIn K cd43 "Reader.taken" = true)
    (k43 : PySem.W.keepIn K (.ref f43) = true)
    (a44 : PySem.W.findIn K (.ref CR) "expect" = some (some (.ref f44)))
    (i44 : PySem.W.isFn K (.ref f44) = true)
    (l44 : K.lookup f44 = some ⟨oc44, od44, .func (PySem.W.fnOf "expect" "Reader.expect" (defArgs s_Reader_expect) (defBody s_Reader_expect) (defScope s_Reader_expect) .none kV44 dc44 pm44 an44 cd44 ct44), sl44⟩)
    (c44 : PySem.W.codeIn K cd44 "Reader.expect" = true)
    (k44 : PySem.W.keepIn K (.ref f44) = true)
    (a45 : PySem.W.findIn K (.ref CR) "mark" = some (some (.ref f45)))
    (i45 : PySem.W.isFn K (.ref f45) = true)
    (l45 : K.lookup f45 = some ⟨oc45, od45, .func (PySem.W.fnOf "mark" "Reader.mark" (defArgs s_Reader_mark) (defBody s_Reader_mark) (defScope s_Reader_mark) .none kV45 dc45 pm45 an45 cd45 ct45), sl45⟩)
    (c45 : PySem.W.codeIn K cd45 "Reader.mark" = true)
    (k45 : PySem.W.keepIn K (.ref f45) = true)
    (a46 : PySem.W.findIn K (.ref CR) "begin" = some (some (.ref f46)))
    (i46 : PySem.W.isFn K (.ref f46) = true)
    (l46 : K.lookup f46 = some ⟨oc46, od46, .func (PySem.W.fnOf "begin" "Reader.begin" (defArgs s_Reader_begin) (defBody s_Reader_begin) (defScope s_Reader_begin) .none kV46 dc46 pm46 an46 cd46 ct46), sl46⟩)
    (c46 : PySem.W.codeIn K cd46 "Reader.begin" = true)
    (k46 : PySem.W.keepIn K (.ref f46) = true)
    (a47 : PySem.W.findIn K (.ref CR) "value" = some (some (.ref f47)))
    (i47 : PySem.W.isFn K (.ref f47) = true)
    (l47 : K.lookup f47 = some ⟨oc47, od47, .func (PySem.W.fnOf "value" "Reader.value" (defArgs s_Reader_value) (defBody s_Reader_value) (defScope s_Reader_value) .none kV47 dc47 pm47 an47 cd47 ct47), sl47⟩)
    (c47 : PySem.W.codeIn K cd47 "Reader.value" = true)
    (k47 : PySem.W.keepIn K (.ref f47) = true)
    (a48 : PySem.W.findIn K (.ref CR) "part" = some (some (.ref f48)))
    (i48 : PySem.W.isFn K (.ref f48) = true)
    (l48 : K.lookup f48 = some ⟨oc48, od48, .func (PySem.W.fnOf "part" "Reader.part" (defArgs s_Reader_part) (defBody s_Reader_part) (defScope s_Reader_part) .none kV48 dc48 pm48 an48 cd48 ct48), sl48⟩)
    (c48 : PySem.W.codeIn K cd48 "Reader.part" = true)
    (k48 : PySem.W.keepIn K (.ref f48) = true)
    (a49 : PySem.W.findIn K (.ref CR) "let" = some (some (.ref f49)))
    (i49 : PySem.W.isFn K (.ref f49) = true)
    (l49 : K.lookup f49 = some ⟨oc49, od49, .func (PySem.W.fnOf "let" "Reader.let" (defArgs s_Reader_let) (defBody s_Reader_let) (defScope s_Reader_let) .none kV49 dc49 pm49 an49 cd49 ct49), sl49⟩)
    (c49 : PySem.W.codeIn K cd49 "Reader.let" = true)
    (k49 : PySem.W.keepIn K (.ref f49) = true)
    (a50 : PySem.W.findIn K (.ref CR) "choice" = some (some (.ref f50)))
    (i50 : PySem.W.isFn K (.ref f50) = true)
    (l50 : K.lookup f50 = some ⟨oc50, od50, .func (PySem.W.fnOf "choice" "Reader.choice" (defArgs s_Reader_choice) (defBody s_Reader_choice) (defScope s_Reader_choice) .none kV50 dc50 pm50 an50 cd50 ct50), sl50⟩)
    (c50 : PySem.W.codeIn K cd50 "Reader.choice" = true)
    (k50 : PySem.W.keepIn K (.ref f50) = true)
    (a51 : PySem.W.findIn K (.ref CR) "loop" = some (some (.ref f51)))
    (i51 : PySem.W.isFn K (.ref f51) = true)
    (l51 : K.lookup f51 = some ⟨oc51, od51, .func (PySem.W.fnOf "loop" "Reader.loop" (defArgs s_Reader_loop) (defBody s_Reader_loop) (defScope s_Reader_loop) .none kV51 dc51 pm51 an51 cd51 ct51), sl51⟩)
    (c51 : PySem.W.codeIn K cd51 "Reader.loop" = true)
    (k51 : PySem.W.keepIn K (.ref f51) = true)
    (a52 : PySem.W.findIn K (.ref CR) "chain" = some (some (.ref f52)))
    (i52 : PySem.W.isFn K (.ref f52) = true)
    (l52 : K.lookup f52 = some ⟨oc52, od52, .func (PySem.W.fnOf "chain" "Reader.chain" (defArgs s_Reader_chain) (defBody s_Reader_chain) (defScope s_Reader_chain) .none kV52 dc52 pm52 an52 cd52 ct52), sl52⟩)
    (c52 : PySem.W.codeIn K cd52 "Reader.chain" = true)
    (k52 : PySem.W.keepIn K (.ref f52) = true)
    (a53 : PySem.W.findIn K (.ref CR) "negated" = some (some (.ref f53)))
    (i53 : PySem.W.isFn K (.ref f53) = true)
    (l53 : K.lookup f53 = some ⟨oc53, od53, .func (PySem.W.fnOf "negated" "Reader.negated" (defArgs s_Reader_negated) (defBody s_Reader_negated) (defScope s_Reader_negated) .none kV53 dc53 pm53 an53 cd53 ct53), sl53⟩)
    (c53 : PySem.W.codeIn K cd53 "Reader.negated" = true)
    (k53 : PySem.W.keepIn K (.ref f53) = true)
    (a54 : PySem.W.findIn K (.ref CR) "signed" = some (some (.ref f54)))
    (i54 : PySem.W.isFn K (.ref f54) = true)
    (l54 : K.lookup f54 = some ⟨oc54, od54, .func (PySem.W.fnOf "signed" "Reader.signed" (defArgs s_Reader_signed) (defBody s_Reader_signed) (defScope s_Reader_signed) .none kV54 dc54 pm54 an54 cd54 ct54), sl54⟩)
    (c54 : PySem.W.codeIn K cd54 "Reader.signed" = true)
    (k54 : PySem.W.keepIn K (.ref f54) = true)
    (a55 : PySem.W.findIn K (.ref CR) "reached" = some (some (.ref f55)))
    (i55 : PySem.W.isFn K (.ref f55) = true)
    (l55 : K.lookup f55 = some ⟨oc55, od55, .func (PySem.W.fnOf "reached" "Reader.reached" (defArgs s_Reader_reached) (defBody s_Reader_reached) (defScope s_Reader_reached) .none kV55 dc55 pm55 an55 cd55 ct55), sl55⟩)
    (c55 : PySem.W.codeIn K cd55 "Reader.reached" = true)
    (k55 : PySem.W.keepIn K (.ref f55) = true)
    (a56 : PySem.W.findIn K (.ref CR) "simple" = some (some (.ref f56)))
    (i56 : PySem.W.isFn K (.ref f56) = true)
    (l56 : K.lookup f56 = some ⟨oc56, od56, .func (PySem.W.fnOf "simple" "Reader.simple" (defArgs s_Reader_simple) (defBody s_Reader_simple) (defScope s_Reader_simple) .none kV56 dc56 pm56 an56 cd56 ct56), sl56⟩)
    (c56 : PySem.W.codeIn K cd56 "Reader.simple" = true)
    (k56 : PySem.W.keepIn K (.ref f56) = true)
    (a57 : PySem.W.findIn K (.ref CR) "named" = some (some (.ref f57)))
    (i57 : PySem.W.isFn K (.ref f57) = true)
    (l57 : K.lookup f57 = some ⟨oc57, od57, .func (PySem.W.fnOf "named" "Reader.named" (defArgs s_Reader_named) (defBody s_Reader_named) (defScope s_Reader_named) .none kV57 dc57 pm57 an57 cd57 ct57), sl57⟩)
    (c57 : PySem.W.codeIn K cd57 "Reader.named" = true)
    (k57 : PySem.W.keepIn K (.ref f57) = true)
    (a58 : PySem.W.findIn K (.ref CS) "__init__" = some (some (.ref f58)))
    (i58 : PySem.W.typeIn K (.ref f58) = some (.type "function"))
    (l58 : K.lookup f58 = some ⟨oc58, od58, .func (PySem.W.fnOf "__init__" "SyntaxProblem.__init__" (defArgs s_SP_init) (defBody s_SP_init) (defScope s_SP_init) .none kV58 dc58 pm58 an58 cd58 ct58), sl58⟩)
    (c58 : PySem.W.codeIn K cd58 "SyntaxProblem.__init__" = true)
    (k58 : PySem.W.keepIn K (.ref f58) = true)
    (z0 : PySem.W.nsIn K mainGlobals "abs" = some none)
    (z1 : PySem.W.nsIn K mainGlobals "int" = some none)
    (z2 : PySem.W.nsIn K mainGlobals "len" = some none)
    (z3 : PySem.W.nsIn K mainGlobals "range" = some none)
    (z4 : PySem.W.nsIn K mainGlobals "isinstance" = some none)
    (z5 : PySem.W.nsIn K mainGlobals "bool" = some none)
    (z6 : PySem.W.nsIn K mainGlobals "str" = some none)
    (z7 : PySem.W.nsIn K mainGlobals "tuple" = some none)
    (z8 : PySem.W.nsIn K mainGlobals "list" = some none)
    (z9 : PySem.W.nsIn K mainGlobals "enumerate" = some none)
    (aCR : PySem.W.nsIn K mainGlobals "Reader" = some (some (.ref CR)))
    (aCS : PySem.W.nsIn K mainGlobals "SyntaxProblem" = some (some (.ref CS)))
    (pg : PySem.W.plainGet K CR Str.empty = true)
    (hd : PySem.W.hasDictIn K CR = true)
    (po : PySem.W.plainOver K CR = true)
    (sa : PySem.W.findIn K (.ref CR) "__setattr__" = some (some (.builtin "object.__setattr__")))
    (mk : PySem.W.makesIn K CR = true)
    (kc : PySem.W.keepIn K (.ref CR) = true)
    (n1 : PySem.W.findIn K (.ref CR) "source" = some none)
    (n2 : PySem.W.findIn K (.ref CR) "row" = some none)
    (n3 : PySem.W.findIn K (.ref CR) "at" = some none)
    (n4 : PySem.W.findIn K (.ref CR) "depth" = some none)
    (xL : K.lookup CS = some (excClassObj xn xq CS xN xbs [.ref CE, .type "ValueError", .type "Exception", .type "BaseException", .type "object"] true xsn xsub xab xcol xdd x0 x1 x2 x3 x5 "ValueError.__new__"))
    (xsa : PySem.W.findIn K (.ref CS) "__setattr__" = some (some (.builtin "object.__setattr__")))
    (xb : PySem.W.subIn K (.ref CS) (.type "BaseException") = some true)
    (xt : PySem.W.typeIn K (.ref CS) = some (.type "type"))
    (xk : PySem.W.keepIn K (.ref CS) = true)
    (xs1 : PySem.W.findIn K (.ref CS) "start" = some none)
    (xs2 : PySem.W.findIn K (.ref CS) "end" = some none)
    (iC : PySem.W.isClsIn K CS = true)
    (sC : PySem.W.subIn K (.ref CS) (.ref CS) = some true)
    (gI0 : PySem.W.nsIn K mainGlobals "MOST_TOKENS" = some (some (.int 300 t0)))
    (gI1 : PySem.W.nsIn K mainGlobals "DEEPEST" = some (some (.int 30 t1)))
    (gI2 : PySem.W.nsIn K mainGlobals "LOWEST" = some (some (.int 1 t2)))
    (gI3 : PySem.W.nsIn K mainGlobals "NEGATION" = some (some (.int 3 t3)))
    (gI4 : PySem.W.nsIn K mainGlobals "COMPARISON" = some (some (.int 4 t4)))
    (gI5 : PySem.W.nsIn K mainGlobals "HIGHEST_parser" = some (some (.int 6 t5)))
    (gI6 : PySem.W.nsIn K mainGlobals "NUMBERS" = some (some (.int 4294967296 t6)))
    (gR : PySem.W.nsIn K mainGlobals "RANKS" = some (some (.ref aR)))
    (lR : K.lookup aR = some ⟨.type "dict", none, .dict (rkE w.params y0 y1 y2 y3 y4 y5 y6 y7 g0 g1 g2 g3 g4 g5 g6 g7) nR, #[]⟩)
    (lo : (aR == sysModules) = false)
    (gW : PySem.W.nsIn K mainGlobals "WORDS" = some (some (.ref aW)))
    (gS : PySem.W.nsIn K mainGlobals "SIGNS" = some (some (.str "()[],:.=<+-*/" tS)))
    (lW : K.lookup aW = some ⟨.type "tuple", odW, .seq #[.str "\x69mport" u0, .str "data" u1, .str "trait" u2, .str "with" u3, .str "impl" u4, .str "for" u5, .str "def" u6, .str "let" u7, .str "in" u8, .str "if" u9, .str "then" u10, .str "else" u11, .str "loop" u12, .str "times" u13, .str "do" u14, .str "not" u15, .str "and" u16, .str "or" u17, .str "True" u18, .str "False" u19] nW, slW⟩)
    (gIn : PySem.W.nsIn K mainGlobals "INSIDE" = some (some (.ref aN)))
    (lN : K.lookup aN = some ⟨.type "dict", none, .dict (inE w.params ik0 ik1 ik2 ik3 ik4 ik5 ik6 ik7 ik8 ik9 ik10 ip0 ip1 ip2 ip3 ip4 ip5 ip6 ip7 ip8 ip9 ip10) nN, #[]⟩)
    (il0 : K.lookup ip0 = some ⟨.type "tuple", io0, .seq #[.int 3 it0, .int 3 iu0] in0, is0⟩)
    (il1 : K.lookup ip1 = some ⟨.type "tuple", io1, .seq #[.int 3 it1, .int 3 iu1] in1, is1⟩)
    (il2 : K.lookup ip2 = some ⟨.type "tuple", io2, .seq #[.int 3 it2, .int 3 iu2] in2, is2⟩)
    (il3 : K.lookup ip3 = some ⟨.type "tuple", io3, .seq #[.int 3 it3, .int 4 iu3] in3, is3⟩)
    (il4 : K.lookup ip4 = some ⟨.type "tuple", io4, .seq #[.int 3 it4, .int 4 iu4] in4, is4⟩)
    (il5 : K.lookup ip5 = some ⟨.type "tuple", io5, .seq #[.int 3 it5, .int 4 iu5] in5, is5⟩)
    (il6 : K.lookup ip6 = some ⟨.type "tuple", io6, .seq #[.int 3 it6, .int 4 iu6] in6, is6⟩)
    (il7 : K.lookup ip7 = some ⟨.type "tuple", io7, .seq #[.int 4 it7, .int 6 iu7] in7, is7⟩)
    (il8 : K.lookup ip8 = some ⟨.type "tuple", io8, .seq #[.int 3 it8, .int 6 iu8] in8, is8⟩)
    (il9 : K.lookup ip9 = some ⟨.type "tuple", io9, .seq #[.int 5 it9, .int 7 iu9] in9, is9⟩)
    (il10 : K.lookup ip10 = some ⟨.type "tuple", io10, .seq #[.int 5 it10, .int 8 iu10] in10, is10⟩)
    (gF : PySem.W.nsIn K mainGlobals "FORM_RANKS" = some (some (.ref aF)))
    (lF : K.lookup aF = some ⟨.type "dict", none, .dict (frE w.params fk0 fk1 fk2 fk3 fk4 fv0 fv1 fv2 fv3 fv4) nF, #[]⟩)
    (loF : (aF == sysModules) = false)
    (gD : PySem.W.nsIn K mainGlobals "SIDES" = some (some (.ref aD)))
    (lD : K.lookup aD = some ⟨.type "dict", none, .dict (sdE w.params dk0 dk1 dk2 dk3 dk4 dk5 dk6 dk7 dp0 dp1 dp2 dp3 dp4 dp5 dp6 dp7) nD, #[]⟩)
    (dl0 : K.lookup dp0 = some ⟨.type "tuple", do0, .seq #[.int 1 dt0, .int 2 du0] dn0, ds0⟩)
    (dl1 : K.lookup dp1 = some ⟨.type "tuple", do1, .seq #[.int 2 dt1, .int 3 du1] dn1, ds1⟩)
    (dl2 : K.lookup dp2 = some ⟨.type "tuple", do2, .seq #[.int 5 dt2, .int 5 du2] dn2, ds2⟩)
    (dl3 : K.lookup dp3 = some ⟨.type "tuple", do3, .seq #[.int 5 dt3, .int 5 du3] dn3, ds3⟩)
    (dl4 : K.lookup dp4 = some ⟨.type "tuple", do4, .seq #[.int 5 dt4, .int 6 du4] dn4, ds4⟩)
    (dl5 : K.lookup dp5 = some ⟨.type "tuple", do5, .seq #[.int 5 dt5, .int 6 du5] dn5, ds5⟩)
    (dl6 : K.lookup dp6 = some ⟨.type "tuple", do6, .seq #[.int 6 dt6, .int 7 du6] dn6, ds6⟩)
    (dl7 : K.lookup dp7 = some ⟨.type "tuple", do7, .seq #[.int 6 dt7, .int 7 du7] dn7, ds7⟩)
    (gH8 : PySem.W.nsIn K mainGlobals "HIGHEST_printer" = some (some (.int 8 e8)))
    (gB3 : PySem.W.nsIn K mainGlobals "BEHIND_NOT" = some (some (.int 3 e3)))
    (gB7 : PySem.W.nsIn K mainGlobals "BEHIND_MINUS" = some (some (.int 7 e7))) :
    ∃ fd : FuncData, (∀ (s : Shared) (v : Value), BindsTo s fd ⟨[v], []⟩ [("script", v)]) ∧ ∀ base : Heap, K.In base → base.Ns mainGlobals mg → FnOk l.prog w K mg base CX0 228 fa fd ["script"] (spLaw K) := by
  have e := hfa.symm.trans (PySem.W.mg_of X G a35)
  cases e
  have F0 := fun_mk (st := s_line_end) l0 c0 k0
  have b0 := F0.binds (ps := ["text", "offset"]) fun _ _ _ _ _ _ us hl => match us, hl with | [_, _], _ => rfl
  have m0 := PySem.W.mg_of X G a0
  have F1 := fun_mk (st := s_is_letter) l1 c1 k1
  have b1 := F1.binds (ps := ["sign"]) fun _ _ _ _ _ _ us hl => match us, hl with | [_], _ => rfl
  have m1 := PySem.W.mg_of X G a1
  have F2 := fun_mk (st := s_is_digit) l2 c2 k2
  have b2 := F2.binds (ps := ["sign"]) fun _ _ _ _ _ _ us hl => match us, hl with | [_], _ => rfl
  have m2 := PySem.W.mg_of X G a2
  have F3 := fun_mk (st := s_word_end) l3 c3 k3
  have b3 := F3.binds (ps := ["text", "start"]) fun _ _ _ _ _ _ us hl => match us, hl with | [_, _], _ => rfl
  have m3 := PySem.W.mg_of X G a3
  have F4 := fun_mk (st := s_digits_end) l4 c4 k4
  have b4 := F4.binds (ps := ["text", "start"]) fun _ _ _ _ _ _ us hl => match us, hl with | [_, _], _ => rfl
  have m4 := PySem.W.mg_of X G a4
  have F5 := fun_mk (st := s_token_at) l5 c5 k5
  have b5 := F5.binds (ps := ["text", "start"]) fun _ _ _ _ _ _ us hl => match us, hl with | [_, _], _ => rfl
  have m5 := PySem.W.mg_of X G a5
  have F6 := fun_mk (st := s_tokens_between) l6 c6 k6
  have b6 := F6.binds (ps := ["text", "start", "end"]) fun _ _ _ _ _ _ us hl => match us, hl with | [_, _, _], _ => rfl
  have m6 := PySem.W.mg_of X G a6
  have F7 := fun_mk (st := s_tokens) l7 c7 k7
  have b7 := F7.binds (ps := ["text"]) fun _ _ _ _ _ _ us hl => match us, hl with | [_], _ => rfl
  have m7 := PySem.W.mg_of X G a7
  have F8 := fun_mk (st := s_number_value) l8 c8 k8
  have b8 := F8.binds (ps := ["digits"]) fun _ _ _ _ _ _ us hl => match us, hl with | [_], _ => rfl
  have m8 := PySem.W.mg_of X G a8
  have F9 := fun_mk (st := s_read_value) l9 c9 k9
  have b9 := F9.binds (ps := ["text"]) fun _ _ _ _ _ _ us hl => match us, hl with | [_], _ => rfl
  have m9 := PySem.W.mg_of X G a9
  have F10 := fun_mk (st := s_tape) l10 c10 k10
  have b10 := F10.binds (ps := ["script"]) fun _ _ _ _ _ _ us hl => match us, hl with | [_], _ => rfl
  have m10 := PySem.W.mg_of X G a10
  have F11 := fun_mk (st := s_take) l11 c11 k11
  have b11 := F11.binds (ps := ["tape", "many"]) fun _ _ _ _ _ _ us hl => match us, hl with | [_, _], _ => rfl
  have m11 := PySem.W.mg_of X G a11
  have F12 := fun_mk (st := s_isInt) l12 c12 k12
  have b12 := F12.binds (ps := ["actual"]) fun _ _ _ _ _ _ us hl => match us, hl with | [_], _ => rfl
  have m12 := PySem.W.mg_of X G a12
  have F13 := fun_mk (st := s_sameItems) l13 c13 k13
  have b13 := F13.binds (ps := ["actual", "expected"]) fun _ _ _ _ _ _ us hl => match us, hl with | [_, _], _ => rfl
  have m13 := PySem.W.mg_of X G a13
  have F14 := fun_mk (st := s_same) l14 c14 k14
  have b14 := F14.binds (ps := ["actual", "expected"]) fun _ _ _ _ _ _ us hl => match us, hl with | [_, _], _ => rfl
  have m14 := PySem.W.mg_of X G a14
  have F15 := fun_mk (st := s_l_put) l15 c15 k15
  have b15 := F15.binds (ps := ["out", "string"]) fun _ _ _ _ _ _ us hl => match us, hl with | [_, _], _ => rfl
  have m15 := PySem.W.mg_of X G a15
  have F16 := fun_mk (st := s_l_gap) l16 c16 k16
  have b16 := F16.binds (ps := ["tape", "out", "needed"]) fun _ _ _ _ _ _ us hl => match us, hl with | [_, _, _], _ => rfl
  have m16 := PySem.W.mg_of X G a16
  have F17 := fun_mk (st := s_l_token_out) l17 c17 k17
  have b17 := F17.binds (ps := ["tape", "out", "string"]) fun _ _ _ _ _ _ us hl => match us, hl with | [_, _, _], _ => rfl
  have m17 := PySem.W.mg_of X G a17
  have F18 := fun_mk (st := s_l_some_name) l18 c18 k18
  have b18 := F18.binds (ps := ["tape"]) fun _ _ _ _ _ _ us hl => match us, hl with | [_], _ => rfl
  have m18 := PySem.W.mg_of X G a18
  have F19 := fun_mk (st := s_l_tree) l19 c19 k19
  have b19 := F19.binds (ps := ["tape", "out", "depth", "level"]) fun _ _ _ _ _ _ us hl => match us, hl with | [_, _, _, _], _ => rfl
  have m19 := PySem.W.mg_of X G a19
  have F20 := fun_mk (st := s_l_leaf) l20 c20 k20
  have b20 := F20.binds (ps := ["tape", "out", "choice"]) fun _ _ _ _ _ _ us hl => match us, hl with | [_, _, _], _ => rfl
  have m20 := PySem.W.mg_of X G a20
  have F21 := fun_mk (st := s_l_call) l21 c21 k21
  have b21 := F21.binds (ps := ["tape", "out", "depth"]) fun _ _ _ _ _ _ us hl => match us, hl with | [_, _, _], _ => rfl
  have m21 := PySem.W.mg_of X G a21
  have F22 := fun_mk (st := s_l_reach) l22 c22 k22
  have b22 := F22.binds (ps := ["tape", "out", "depth"]) fun _ _ _ _ _ _ us hl => match us, hl with | [_, _, _], _ => rfl
  have m22 := PySem.W.mg_of X G a22
  have F23 := fun_mk (st := s_l_prefix) l23 c23 k23
  have b23 := F23.binds (ps := ["tape", "out", "depth", "word", "sign", "level"]) fun _ _ _ _ _ _ us hl => match us, hl with | [_, _, _, _, _, _], _ => rfl
  have m23 := PySem.W.mg_of X G a23
  have F24 := fun_mk (st := s_l_binary) l24 c24 k24
  have b24 := F24.binds (ps := ["tape", "out", "depth", "level"]) fun _ _ _ _ _ _ us hl => match us, hl with | [_, _, _, _], _ => rfl
  have m24 := PySem.W.mg_of X G a24
  have F25 := fun_mk (st := s_l_wide) l25 c25 k25
  have b25 := F25.binds (ps := ["tape", "out", "depth", "choice"]) fun _ _ _ _ _ _ us hl => match us, hl with | [_, _, _, _], _ => rfl
  have m25 := PySem.W.mg_of X G a25
  have F26 := fun_mk (st := s_bareF) l26 c26 k26
  have b26 := F26.binds (ps := ["tree"]) fun _ _ _ _ _ _ us hl => match us, hl with | [_], _ => rfl
  have m26 := PySem.W.mg_of X G a26
  have F27 := fun_mk (st := s_rankF) l27 c27 k27
  have b27 := F27.binds (ps := ["tree"]) fun _ _ _ _ _ _ us hl => match us, hl with | [_], _ => rfl
  have m27 := PySem.W.mg_of X G a27
  have F28 := fun_mk (st := s_callP) l28 c28 k28
  have b28 := F28.binds (ps := ["tree"]) fun _ _ _ _ _ _ us hl => match us, hl with | [_], _ => rfl
  have m28 := PySem.W.mg_of X G a28
  have F29 := fun_mk (st := s_piecesF) l29 c29 k29
  have b29 := F29.binds (ps := ["tree"]) fun _ _ _ _ _ _ us hl => match us, hl with | [_], _ => rfl
  have m29 := PySem.W.mg_of X G a29
  have F30 := fun_mk (st := s_printV) l30 c30 k30
  have b30 := F30.binds (ps := ["tree"]) fun _ _ _ _ _ _ us hl => match us, hl with | [_], _ => rfl
  have m30 := PySem.W.mg_of X G a30
  have F31 := fun_mk (st := s_kidsF) l31 c31 k31
  have b31 := F31.binds (ps := ["tree"]) fun _ _ _ _ _ _ us hl => match us, hl with | [_], _ => rfl
  have m31 := PySem.W.mg_of X G a31
  have F32 := fun_mk (st := s_nodesF) l32 c32 k32
  have b32 := F32.binds (ps := ["tree"]) fun _ _ _ _ _ _ us hl => match us, hl with | [_], _ => rfl
  have m32 := PySem.W.mg_of X G a32
  have F33 := fun_mk (st := s_l_stripped) l33 c33 k33
  have b33 := F33.binds (ps := ["tree"]) fun _ _ _ _ _ _ us hl => match us, hl with | [_], _ => rfl
  have m33 := PySem.W.mg_of X G a33
  have F34 := fun_mk (st := s_l_needed) l34 c34 k34
  have b34 := F34.binds (ps := ["text", "group", "shape"]) fun _ _ _ _ _ _ us hl => match us, hl with | [_, _, _], _ => rfl
  have m34 := PySem.W.mg_of X G a34
  have F35 := fun_mk (st := s_law) l35 c35 k35
  have F36 := fun_mk (st := s_R_init) l36 c36 k36
  have b36 := F36.binds (ps := ["self", "source"]) fun _ _ _ _ _ _ us hl => match us, hl with | [_, _], _ => rfl
  have F37 := fun_mk (st := s_Reader_fail) l37 c37 k37
  have b37 := F37.binds (ps := ["self"]) fun _ _ _ _ _ _ us hl => match us, hl with | [_], _ => rfl
  have F38 := fun_mk (st := s_Reader_ended) l38 c38 k38
  have b38 := F38.binds (ps := ["self"]) fun _ _ _ _ _ _ us hl => match us, hl with | [_], _ => rfl
  have F39 := fun_mk (st := s_Reader_next_sort) l39 c39 k39
  have b39 := F39.binds (ps := ["self"]) fun _ _ _ _ _ _ us hl => match us, hl with | [_], _ => rfl
  have F40 := fun_mk (st := s_Reader_next_start) l40 c40 k40
  have b40 := F40.binds (ps := ["self"]) fun _ _ _ _ _ _ us hl => match us, hl with | [_], _ => rfl
  have F41 := fun_mk (st := s_Reader_last_end) l41 c41 k41
  have b41 := F41.binds (ps := ["self"]) fun _ _ _ _ _ _ us hl => match us, hl with | [_], _ => rfl
  have F42 := fun_mk (st := s_Reader_peek) l42 c42 k42
  have b42 := F42.binds (ps := ["self"]) fun _ _ _ _ _ _ us hl => match us, hl with | [_], _ => rfl
  have F43 := fun_mk (st := s_Reader_taken) l43 c43 k43
  have b43 := F43.binds (ps := ["self", "word"]) fun _ _ _ _ _ _ us hl => match us, hl with | [_, _], _ => rfl
  have F44 := fun_mk (st := s_Reader_expect) l44 c44 k44
  have b44 := F44.binds (ps := ["self", "word"]) fun _ _ _ _ _ _ us hl => match us, hl with | [_, _], _ => rfl
  have F45 := fun_mk (st := s_Reader_mark) l45 c45 k45
  have b45 := F45.binds (ps := ["self"]) fun _ _ _ _ _ _ us hl => match us, hl with | [_], _ => rfl
  have F46 := fun_mk (st := s_Reader_begin) l46 c46 k46
  have b46 := F46.binds (ps := ["self"]) fun _ _ _ _ _ _ us hl => match us, hl with | [_], _ => rfl
  have F47 := fun_mk (st := s_Reader_value) l47 c47 k47
  have b47 := F47.binds (ps := ["self"]) fun _ _ _ _ _ _ us hl => match us, hl with | [_], _ => rfl
  have F48 := fun_mk (st := s_Reader_part) l48 c48 k48
  have b48 := F48.binds (ps := ["self", "word"]) fun _ _ _ _ _ _ us hl => match us, hl with | [_, _], _ => rfl
  have F49 := fun_mk (st := s_Reader_let) l49 c49 k49
  have b49 := F49.binds (ps := ["self", "start"]) fun _ _ _ _ _ _ us hl => match us, hl with | [_, _], _ => rfl
  have F50 := fun_mk (st := s_Reader_choice) l50 c50 k50
  have b50 := F50.binds (ps := ["self", "start"]) fun _ _ _ _ _ _ us hl => match us, hl with | [_, _], _ => rfl
  have F51 := fun_mk (st := s_Reader_loop) l51 c51 k51
  have b51 := F51.binds (ps := ["self", "start"]) fun _ _ _ _ _ _ us hl => match us, hl with | [_, _], _ => rfl
  have F52 := fun_mk (st := s_Reader_chain) l52 c52 k52
  have b52 := F52.binds (ps := ["self", "least"]) fun _ _ _ _ _ _ us hl => match us, hl with | [_, _], _ => rfl
  have F53 := fun_mk (st := s_Reader_negated) l53 c53 k53
  have b53 := F53.binds (ps := ["self"]) fun _ _ _ _ _ _ us hl => match us, hl with | [_], _ => rfl
  have F54 := fun_mk (st := s_Reader_signed) l54 c54 k54
  have b54 := F54.binds (ps := ["self"]) fun _ _ _ _ _ _ us hl => match us, hl with | [_], _ => rfl
  have F55 := fun_mk (st := s_Reader_reached) l55 c55 k55
  have b55 := F55.binds (ps := ["self"]) fun _ _ _ _ _ _ us hl => match us, hl with | [_], _ => rfl
  have F56 := fun_mk (st := s_Reader_simple) l56 c56 k56
  have b56 := F56.binds (ps := ["self"]) fun _ _ _ _ _ _ us hl => match us, hl with | [_], _ => rfl
  have F57 := fun_mk (st := s_Reader_named) l57 c57 k57
  have b57 := F57.binds (ps := ["self"]) fun _ _ _ _ _ _ us hl => match us, hl with | [_], _ => rfl
  have F58 := fun_mk (st := s_SP_init) l58 c58 k58
  have b58 := F58.binds (ps := ["self", "start", "end"]) fun _ _ _ _ _ _ us hl => match us, hl with | [_, _, _], _ => rfl
  refine ⟨PySem.W.fnOf "law" "law" (defArgs s_law) (defBody s_law) (defScope s_law) .none kV35 dc35 pm35 an35 cd35 ct35, fun s v => .of_eq rfl, fun base _ _ => ?_⟩
  have T : NmY K w mg aW tS CR CS aR t0 t1 t2 t3 t4 t5 t6 := ⟨⟨⟨⟨(PySem.W.mg_none_of X G z0), (PySem.W.mg_none_of X G z1), (PySem.W.mg_none_of X G z2), (PySem.W.mg_none_of X G z3), (PySem.W.mg_none_of X G z4), (PySem.W.mg_none_of X G z5), (PySem.W.mg_none_of X G z6), (PySem.W.mg_none_of X G z7), (PySem.W.mg_none_of X G z8)⟩, PySem.W.mg_of X G gW, ⟨_, _, _, lW, rfl, rfl, (by show 20 ≤ sizeLine; decide), .cons ⟨_, rfl⟩ (.cons ⟨_, rfl⟩ (.cons ⟨_, rfl⟩ (.cons ⟨_, rfl⟩ (.cons ⟨_, rfl⟩ (.cons ⟨_, rfl⟩ (.cons ⟨_, rfl⟩ (.cons ⟨_, rfl⟩ (.cons ⟨_, rfl⟩ (.cons ⟨_, rfl⟩ (.cons ⟨_, rfl⟩ (.cons ⟨_, rfl⟩ (.cons ⟨_, rfl⟩ (.cons ⟨_, rfl⟩ (.cons ⟨_, rfl⟩ (.cons ⟨_, rfl⟩ (.cons ⟨_, rfl⟩ (.cons ⟨_, rfl⟩ (.cons ⟨_, rfl⟩ (.cons ⟨_, rfl⟩ (.nil))))))))))))))))))))⟩, PySem.W.mg_of X G gS⟩, ⟨pg, hd, po, sa⟩, n1, n2, n3, n4, PySem.W.mg_of X G aCR, PySem.W.mg_of X G gI0, PySem.W.mg_of X G gI1, PySem.W.mg_of X G gI2, PySem.W.mg_of X G gI3, PySem.W.mg_of X G gI4, PySem.W.mg_of X G gI5, PySem.W.mg_of X G gI6, PySem.W.mg_of X G gR, rk_kd lR lo, rkd_all lR, ⟨⟨_, _, _, _, _, _, _, _, _, _, _, _, _, _, _, xL, by show PySem.HandSPX.refsVE PySem.HandSPX.veTail = true; decide +kernel⟩, xsa, xb, xt, xk⟩, PySem.W.mg_of X G aCS, xs1, xs2⟩, PySem.W.mg_of X G aCS, exm_of xb iC xt sC⟩
  have T5 : Nm5 K mg aW tS := T.toNmR.toNm5
  have TR : NmR K w mg aW tS CR CS aR t0 t1 t2 t3 t4 t5 t6 := T.toNmR
  have M_R : RdM K CR := ⟨⟨⟨_, _, F37, ⟨a37, i37, k37⟩, b37⟩⟩, ⟨⟨_, _, F38, ⟨a38, i38, k38⟩, b38⟩⟩, ⟨⟨_, _, F39, ⟨a39, i39, k39⟩, b39⟩⟩, ⟨⟨_, _, F40, ⟨a40, i40, k40⟩, b40⟩⟩, ⟨⟨_, _, F41, ⟨a41, i41, k41⟩, b41⟩⟩, ⟨⟨_, _, F42, ⟨a42, i42, k42⟩, b42⟩⟩, ⟨⟨_, _, F43, ⟨a43, i43, k43⟩, b43⟩⟩, ⟨⟨_, _, F44, ⟨a44, i44, k44⟩, b44⟩⟩, ⟨⟨_, _, F45, ⟨a45, i45, k45⟩, b45⟩⟩, ⟨⟨_, _, F46, ⟨a46, i46, k46⟩, b46⟩⟩, ⟨⟨_, _, F47, ⟨a47, i47, k47⟩, b47⟩⟩, ⟨⟨_, _, F48, ⟨a48, i48, k48⟩, b48⟩⟩, ⟨⟨_, _, F49, ⟨a49, i49, k49⟩, b49⟩⟩, ⟨⟨_, _, F50, ⟨a50, i50, k50⟩, b50⟩⟩, ⟨⟨_, _, F51, ⟨a51, i51, k51⟩, b51⟩⟩, ⟨⟨_, _, F52, ⟨a52, i52, k52⟩, b52⟩⟩, ⟨⟨_, _, F53, ⟨a53, i53, k53⟩, b53⟩⟩, ⟨⟨_, _, F54, ⟨a54, i54, k54⟩, b54⟩⟩, ⟨⟨_, _, F55, ⟨a55, i55, k55⟩, b55⟩⟩, ⟨⟨_, _, F56, ⟨a56, i56, k56⟩, b56⟩⟩, ⟨⟨_, _, F57, ⟨a57, i57, k57⟩, b57⟩⟩⟩
  have I_SP : ExI l.prog w K mg base 1 CS (spXI CS) := ⟨⟨_, _, _, ok_SP_init F58 TR, a58, i58, b58⟩⟩
  have TN : NmT K w mg aN := ⟨T5.toNm, PySem.W.mg_of X G gIn, in_all lN (WP.of (a := 3) (b := 3) il0) (WP.of (a := 3) (b := 3) il1) (WP.of (a := 3) (b := 3) il2) (WP.of (a := 3) (b := 4) il3) (WP.of (a := 3) (b := 4) il4) (WP.of (a := 3) (b := 4) il5) (WP.of (a := 3) (b := 4) il6) (WP.of (a := 4) (b := 6) il7) (WP.of (a := 3) (b := 6) il8) (WP.of (a := 5) (b := 7) il9) (WP.of (a := 5) (b := 8) il10)⟩
  have TQ : NmQ K w mg aN aR aF aD e8 e3 e7 := ⟨TN, PySem.W.mg_none_of X G z9, PySem.W.mg_of X G gR, PySem.W.mg_of X G gF, PySem.W.mg_of X G gD, PySem.W.mg_of X G gH8, PySem.W.mg_of X G gB3, PySem.W.mg_of X G gB7, rkd_all lR, fr_kd lF loF, fr_all lF, sd_all lD (WP.of (a := 1) (b := 2) dl0) (WP.of (a := 2) (b := 3) dl1) (WP.of (a := 5) (b := 5) dl2) (WP.of (a := 5) (b := 5) dl3) (WP.of (a := 5) (b := 6) dl4) (WP.of (a := 5) (b := 6) dl5) (WP.of (a := 6) (b := 7) dl6) (WP.of (a := 6) (b := 7) dl7)⟩
  have C_law_tape : Cal l.prog w K mg base CX0 1 "_law_tape" (spTape K) := ⟨_, _, _, ok_tape F10 T5.toNm, m10, F10.kp, b10⟩
  have C_law_take : Cal l.prog w K mg base CX0 1 "_law_take" spTake := ⟨_, _, _, ok_take F11 T5.toNm, m11, F11.kp, b11⟩
  have C_law_is_integer : Cal l.prog w K mg base CX0 1 "_law_is_integer" spIsInt := ⟨_, _, _, ok_isInt F12 T5.toNm, m12, F12.kp, b12⟩
  have C_law_same : Cal l.prog w K mg base CX0 32 "_law_same" (spSame 16) := both F14 b14 m14 F13 b13 m13 T5.toNm C_law_is_integer 16
  have C_line_end : Cal l.prog w K mg base CX0 1 "line_end" (spRun fun d => d != 10) := ⟨_, _, _, ok_line_end F0 T5, m0, F0.kp, b0⟩
  have C_is_letter : Cal l.prog w K mg base CX0 1 "is_letter" (spLet isL) := ⟨_, _, _, ok_is_letter F1, m1, F1.kp, b1⟩
  have C_is_digit : Cal l.prog w K mg base CX0 1 "is_digit" (spLet isD) := ⟨_, _, _, ok_is_digit F2, m2, F2.kp, b2⟩
  have C_word_end : Cal l.prog w K mg base CX0 2 "word_end" (spRun isW) := ⟨_, _, _, ok_word_end F3 T5 C_is_letter C_is_digit, m3, F3.kp, b3⟩
  have C_digits_end : Cal l.prog w K mg base CX0 2 "digits_end" (spRun isD) := ⟨_, _, _, ok_digits_end F4 T5 C_is_digit, m4, F4.kp, b4⟩
  have C_token_at : Cal l.prog w K mg base CX0 3 "token_at" spTokAt := ⟨_, _, _, ok_token_at F5 T5 C_is_letter C_is_digit C_word_end C_digits_end, m5, F5.kp, b5⟩
  have C_tokens_between : Cal l.prog w K mg base CX0 4 "tokens_between" spBetween := ⟨_, _, _, ok_tokens_between F6 T5 C_line_end C_token_at, m6, F6.kp, b6⟩
  have C_tokens : Cal l.prog w K mg base CX0 5 "tokens" spTokens := ⟨_, _, _, ok_tokens F7 T5 C_tokens_between, m7, F7.kp, b7⟩
  have C_number_value : Cal l.prog w K mg base CX0 1 "number_value" spNum := ⟨_, _, _, ok_number_value F8 TR, m8, F8.kp, b8⟩
  have C_read_value : Cal l.prog w K mg base (L2N.CX l.prog w) 226 "read_value" (spReadB CS 225) := ⟨_, _, _, rd_readB TR M_R I_SP C_number_value C_tokens F36 ⟨mk, a36, i36, kc⟩ b36 (b := 225) (by decide) F9, m9, F9.kp, b9⟩
  have C_law_put : Cal l.prog w K mg base CX0 1 "_law_put" spPut := ⟨_, _, _, ok_l_put F15 T5.toNm, m15, F15.kp, b15⟩
  have C_law_gap : Cal l.prog w K mg base CX0 2 "_law_gap" spGap := ⟨_, _, _, ok_l_gap F16 T5.toNm C_law_take C_law_put, m16, F16.kp, b16⟩
  have C_law_token_out : Cal l.prog w K mg base CX0 3 "_law_token_out" spTok := ⟨_, _, _, ok_l_tok F17 T5.toNm C_law_gap C_law_put, m17, F17.kp, b17⟩
  have C_law_some_name : Cal l.prog w K mg base CX0 2 "_law_some_name" spName := ⟨_, _, _, ok_l_name F18 T5.toNm C_law_take, m18, F18.kp, b18⟩
  have C_law_leaf : Cal l.prog w K mg base CX0 4 "_law_leaf" spLeaf := ⟨_, _, _, ok_l_leaf F20 T5.toNm C_law_take C_law_token_out, m20, F20.kp, b20⟩
  have C_law_tree : Cal l.prog w K mg base CX0 12 "_law_tree" (spTree 4) := trees_all T5.toNm C_law_take C_law_some_name C_law_token_out C_law_leaf ⟨⟨_, _, F19, m19, b19⟩⟩ ⟨⟨_, _, F21, m21, b21⟩⟩ ⟨⟨_, _, F22, m22, b22⟩⟩ ⟨⟨_, _, F23, m23, b23⟩⟩ ⟨⟨_, _, F24, m24, b24⟩⟩ ⟨⟨_, _, F25, m25, b25⟩⟩ 4
  have C_bare : Cal l.prog w K mg base CX0 1 "bare" spBare := ⟨_, _, _, ok_bare F26 T5.toNm, m26, F26.kp, b26⟩
  have C_rank : Cal l.prog w K mg base CX0 1 "rank" spRank := ⟨_, _, _, ok_rank F27 TQ, m27, F27.kp, b27⟩
  have C_call_pieces : Cal l.prog w K mg base CX0 1 "call_pieces" spCallP := ⟨_, _, _, ok_call_pieces F28 TQ, m28, F28.kp, b28⟩
  have C_pieces : Cal l.prog w K mg base CX0 2 "pieces" spPieces := ⟨_, _, _, ok_pieces F29 TQ C_call_pieces, m29, F29.kp, b29⟩
  have C_print_value : Cal l.prog w K mg base CX0 3 "print_value" spPrint := ⟨_, _, _, ok_print_value F30 TQ C_bare C_rank C_pieces, m30, F30.kp, b30⟩
  have C_children : Cal l.prog w K mg base CX0 1 "children" spKids := ⟨_, _, _, ok_children F31 TN, m31, F31.kp, b31⟩
  have C_nodes : Cal l.prog w K mg base CX0 2 "nodes" spNodes := ⟨_, _, _, ok_nodes F32 T5.toNm C_children, m32, F32.kp, b32⟩
  have C_law_stripped : Cal l.prog w K mg base CX0 93 "_law_stripped" (spStrip 93) := lstrip_all T5.toNm ⟨⟨_, _, F33, m33, b33⟩⟩ 93
  have C_law_needed : Cal l.prog w K mg base CX0 227 "_law_needed" spNeeded := ⟨_, _, _, ok_l_needed F34 T C_law_stripped C_read_value, m34, F34.kp, b34⟩
  exact ok_law F35 T5.toNm C_law_tape C_law_tree C_law_stripped C_print_value C_law_same C_nodes C_law_needed C_read_value
theorem walk {l : PySem.W.OpenLaw} {q : Program} {loose : List Str} {XP : (Str → Option Value) → Heap → Prop} {YP : World → Heap → Prop} {d : DefRec} {K : Params → PySem.W.Frag} (hn : l.most = some 63) (hdf : d.params.defaults = [])
    (hY : ∀ (w : World) (h : Heap), YP w h → (K w.params).In h)
    (F : ∀ (w : World) (mg : Str → Option Value) (fa : Addr) (h : Heap), (K w.params).In h → h.Ns mainGlobals mg → mg d.name = some (.ref fa) →
      ∃ fd : FuncData, (∀ (s : Shared) (u : Value), BindsTo s fd ⟨[u], []⟩ [("script", u)]) ∧ ∀ base : Heap, (K w.params).In base → base.Ns mainGlobals mg → FnOk l.prog w (K w.params) mg base CX0 228 fa fd ["script"] (spLaw (K w.params))) :
    PySem.W.WalkO q loose XP YP l.row.toRowW d [] (fun f vs => PySem.call f vs) :=
  L2.walk_of (n := 63) (k := 228) (x := "script") (CX := fun _ => CX0) (sp := fun w => spLaw (K w.params)) hn (by decide) hdf ⟨rfl, by decide, by decide⟩ hY F (fun _ _ a ns hl _ hS => ⟨a, ns, rfl, hS, hl, fun _ => rfl⟩) fun _ _ _ _ _ z => z
end Sn
open PySem PySem.W PyProof.Rows
set_option maxRecDepth 100000 in
set_option maxHeartbeats 0 in
theorem PySem.Challenge.cw_samenames_k50_printed_values_are_read_ba_holds : PySem.Challenge.rw_samenames_k50_printed_values_are_read_ba.Holds := by
  w_on; o_law; k_head; (case hw => w_witness2)
  k_fill
  refine Sn.walk (l := PySem.Challenge.rw_samenames_k50_printed_values_are_read_ba) rfl rfl (fun w h Y => PySem.W.kIn_of Y) ?F
  case F =>
    intro w mg fa h KX G hmg
    refine' Sn.all_mk KX G hmg ?a0 ?l0 ?c0 ?k0 ?a1 ?l1 ?c1 ?k1 ?a2 ?l2 ?c2 ?k2 ?a3 ?l3 ?c3 ?k3 ?a4 ?l4 ?c4 ?k4 ?a5 ?l5 ?c5 ?k5 ?a6 ?l6 ?c6 ?k6 ?a7 ?l7 ?c7 ?k7 ?a8 ?l8 ?c8 ?k8 ?a9 ?l9 ?c9 ?k9 ?a10 ?l10 ?c10 ?k10 ?a11 ?l11 ?c11 ?k11 ?a12 ?l12 ?c12 ?k12 ?a13 ?l13 ?c13 ?k13 ?a14 ?l14 ?c14 ?k14 ?a15 ?l15 ?c15 ?k15 ?a16 ?l16 ?c16 ?k16 ?a17 ?l17 ?c17 ?k17 ?a18 ?l18 ?c18 ?k18 ?a19 ?l19 ?c19 ?k19 ?a20 ?l20 ?c20 ?k20 ?a21 ?l21 ?c21 ?k21 ?a22 ?l22 ?c22 ?k22 ?a23 ?l23 ?c23 ?k23 ?a24 ?l24 ?c24 ?k24 ?a25 ?l25 ?c25 ?k25 ?a26 ?l26 ?c26 ?k26 ?a27 ?l27 ?c27 ?k27 ?a28 ?l28 ?c28 ?k28 ?a29 ?l29 ?c29 ?k29 ?a30 ?l30 ?c30 ?k30 ?a31 ?l31 ?c31 ?k31 ?a32 ?l32 ?c32 ?k32 ?a33 ?l33 ?c33 ?k33 ?a34 ?l34 ?c34 ?k34 ?a35 ?l35 ?c35 ?k35 ?a36 ?i36 ?l36 ?c36 ?k36 ?a37 ?i37 ?l37 ?c37 ?k37 ?a38 ?i38 ?l38 ?c38 ?k38 ?a39 ?i39 ?l39 ?c39 ?k39 ?a40 ?i40 ?l40 ?c40 ?k40 ?a41 ?i41 ?l41 ?c41 ?k41 ?a42 ?i42 ?l42 ?c42 ?k42 ?a43 ?i43 ?l43 ?c43 ?k43 ?a44 ?i44 ?l44 ?c44 ?k44 ?a45 ?i45 ?l45 ?c45 ?k45 ?a46 ?i46 ?l46 ?c46 ?k46 ?a47 ?i47 ?l47 ?c47 ?k47 ?a48 ?i48 ?l48 ?c48 ?k48 ?a49 ?i49 ?l49 ?c49 ?k49 ?a50 ?i50 ?l50 ?c50 ?k50 ?a51 ?i51 ?l51 ?c51 ?k51 ?a52 ?i52 ?l52 ?c52 ?k52 ?a53 ?i53 ?l53 ?c53 ?k53 ?a54 ?i54 ?l54 ?c54 ?k54 ?a55 ?i55 ?l55 ?c55 ?k55 ?a56 ?i56 ?l56 ?c56 ?k56 ?a57 ?i57 ?l57 ?c57 ?k57 ?a58 ?i58 ?l58 ?c58 ?k58 ?z0 ?z1 ?z2 ?z3 ?z4 ?z5 ?z6 ?z7 ?z8 ?z9 ?aCR ?aCS ?pg ?hd ?po ?sa ?mk ?kc ?n1 ?n2 ?n3 ?n4 ?xL ?xsa ?xb ?xt ?xk ?xs1 ?xs2 ?iC ?sC ?gI0 ?gI1 ?gI2 ?gI3 ?gI4 ?gI5 ?gI6 ?gR ?lR ?lo ?gW ?gS ?lW ?gIn ?lN ?il0 ?il1 ?il2 ?il3 ?il4 ?il5 ?il6 ?il7 ?il8 ?il9 ?il10 ?gF ?lF ?loF ?gD ?lD ?dl0 ?dl1 ?dl2 ?dl3 ?dl4 ?dl5 ?dl6 ?dl7 ?gH8 ?gB3 ?gB7
    (case aCR => k_is)
    (case aCS => k_is)
    (case pg => k_is)
    (case hd => k_is)
    (case po => k_is)
    (case sa => k_is)
    (case mk => k_is)
    (case kc => k_is)
    (case n1 => k_is)
    (case n2 => k_is)
    (case n3 => k_is)
    (case n4 => k_is)
    (case xL => k_is)
    (case xsa => k_is)
    (case xb => k_is)
    (case xt => k_is)
    (case xk => k_is)
    (case xs1 => k_is)
    (case xs2 => k_is)
    (case iC => k_is)
    (case sC => k_is)
    (case gI0 => k_is)
    (case gI1 => k_is)
    (case gI2 => k_is)
    (case gI3 => k_is)
    (case gI4 => k_is)
    (case gI5 => k_is)
    (case gI6 => k_is)
    (case gR => k_is)
    (case lR => k_is)
    (case lo => first | rfl | decide +kernel)
    (case gW => k_is)
    (case gS => k_is)
    (case lW => k_is)
    (case gIn => k_is)
    (case lN => k_is)
    (case il0 => k_is)
    (case il1 => k_is)
    (case il2 => k_is)
    (case il3 => k_is)
    (case il4 => k_is)
    (case il5 => k_is)
    (case il6 => k_is)
    (case il7 => k_is)
    (case il8 => k_is)
    (case il9 => k_is)
    (case il10 => k_is)
    (case gF => k_is)
    (case lF => k_is)
    (case loF => first | rfl | decide +kernel)
    (case gD => k_is)
    (case lD => k_is)
    (case dl0 => k_is)
    (case dl1 => k_is)
    (case dl2 => k_is)
    (case dl3 => k_is)
    (case dl4 => k_is)
    (case dl5 => k_is)
    (case dl6 => k_is)
    (case dl7 => k_is)
    (case gH8 => k_is)
    (case gB3 => k_is)
    (case gB7 => k_is)
    (case a0 => k_is)
    (case l0 => k_is)
    (case c0 => k_is)
    (case k0 => k_is)
    (case a1 => k_is)
    (case l1 => k_is)
    (case c1 => k_is)
    (case k1 => k_is)
    (case a2 => k_is)
    (case l2 => k_is)
    (case c2 => k_is)
    (case k2 => k_is)
    (case a3 => k_is)
    (case l3 => k_is)
    (case c3 => k_is)
    (case k3 => k_is)
    (case a4 => k_is)
    (case l4 => k_is)
    (case c4 => k_is)
    (case k4 => k_is)
    (case a5 => k_is)
    (case l5 => k_is)
    (case c5 => k_is)
    (case k5 => k_is)
    (case a6 => k_is)
    (case l6 => k_is)
    (case c6 => k_is)
    (case k6 => k_is)
    (case a7 => k_is)
    (case l7 => k_is)
    (case c7 => k_is)
    (case k7 => k_is)
    (case a8 => k_is)
    (case l8 => k_is)
    (case c8 => k_is)
    (case k8 => k_is)
    (case a9 => k_is)
    (case l9 => k_is)
    (case c9 => k_is)
    (case k9 => k_is)
    (case a10 => k_is)
    (case l10 => k_is)
    (case c10 => k_is)
    (case k10 => k_is)
    (case a11 => k_is)
    (case l11 => k_is)
    (case c11 => k_is)
    (case k11 => k_is)
    (case a12 => k_is)
    (case l12 => k_is)
    (case c12 => k_is)
    (case k12 => k_is)
    (case a13 => k_is)
    (case l13 => k_is)
    (case c13 => k_is)
    (case k13 => k_is)
    (case a14 => k_is)
    (case l14 => k_is)
    (case c14 => k_is)
    (case k14 => k_is)
    (case a15 => k_is)
    (case l15 => k_is)
    (case c15 => k_is)
    (case k15 => k_is)
    (case a16 => k_is)
    (case l16 => k_is)
    (case c16 => k_is)
    (case k16 => k_is)
    (case a17 => k_is)
    (case l17 => k_is)
    (case c17 => k_is)
    (case k17 => k_is)
    (case a18 => k_is)
    (case l18 => k_is)
    (case c18 => k_is)
    (case k18 => k_is)
    (case a19 => k_is)
    (case l19 => k_is)
    (case c19 => k_is)
    (case k19 => k_is)
    (case a20 => k_is)
    (case l20 => k_is)
    (case c20 => k_is)
    (case k20 => k_is)
    (case a21 => k_is)
    (case l21 => k_is)
    (case c21 => k_is)
    (case k21 => k_is)
    (case a22 => k_is)
    (case l22 => k_is)
    (case c22 => k_is)
    (case k22 => k_is)
    (case a23 => k_is)
    (case l23 => k_is)
    (case c23 => k_is)
    (case k23 => k_is)
    (case a24 => k_is)
    (case l24 => k_is)
    (case c24 => k_is)
    (case k24 => k_is)
    (case a25 => k_is)
    (case l25 => k_is)
    (case c25 => k_is)
    (case k25 => k_is)
    (case a26 => k_is)
    (case l26 => k_is)
    (case c26 => k_is)
    (case k26 => k_is)
    (case a27 => k_is)
    (case l27 => k_is)
    (case c27 => k_is)
    (case k27 => k_is)
    (case a28 => k_is)
    (case l28 => k_is)
    (case c28 => k_is)
    (case k28 => k_is)
    (case a29 => k_is)
    (case l29 => k_is)
    (case c29 => k_is)
    (case k29 => k_is)
    (case a30 => k_is)
    (case l30 => k_is)
    (case c30 => k_is)
    (case k30 => k_is)
    (case a31 => k_is)
    (case l31 => k_is)
    (case c31 => k_is)
    (case k31 => k_is)
    (case a32 => k_is)
    (case l32 => k_is)
    (case c32 => k_is)
    (case k32 => k_is)
    (case a33 => k_is)
    (case l33 => k_is)
    (case c33 => k_is)
    (case k33 => k_is)
    (case a34 => k_is)
    (case l34 => k_is)
    (case c34 => k_is)
    (case k34 => k_is)
    (case a35 => k_is)
    (case l35 => k_is)
    (case c35 => k_is)
    (case k35 => k_is)
    (case a36 => k_is)
    (case i36 => k_is)
    (case l36 => k_is)
    (case c36 => k_is)
    (case k36 => k_is)
    (case a37 => k_is)
    (case i37 => k_is)
    (case l37 => k_is)
    (case c37 => k_is)
    (case k37 => k_is)
    (case a38 => k_is)
    (case i38 => k_is)
    (case l38 => k_is)
    (case c38 => k_is)
    (case k38 => k_is)
    (case a39 => k_is)
    (case i39 => k_is)
    (case l39 => k_is)
    (case c39 => k_is)
    (case k39 => k_is)
    (case a40 => k_is)
    (case i40 => k_is)
    (case l40 => k_is)
    (case c40 => k_is)
    (case k40 => k_is)
    (case a41 => k_is)
    (case i41 => k_is)
    (case l41 => k_is)
    (case c41 => k_is)
    (case k41 => k_is)
    (case a42 => k_is)
    (case i42 => k_is)
    (case l42 => k_is)
    (case c42 => k_is)
    (case k42 => k_is)
    (case a43 => k_is)
    (case i43 => k_is)
    (case l43 => k_is)
    (case c43 => k_is)
    (case k43 => k_is)
    (case a44 => k_is)
    (case i44 => k_is)
    (case l44 => k_is)
    (case c44 => k_is)
    (case k44 => k_is)
    (case a45 => k_is)
    (case i45 => k_is)
    (case l45 => k_is)
    (case c45 => k_is)
    (case k45 => k_is)
    (case a46 => k_is)
    (case i46 => k_is)
    (case l46 => k_is)
    (case c46 => k_is)
    (case k46 => k_is)
    (case a47 => k_is)
    (case i47 => k_is)
    (case l47 => k_is)
    (case c47 => k_is)
    (case k47 => k_is)
    (case a48 => k_is)
    (case i48 => k_is)
    (case l48 => k_is)
    (case c48 => k_is)
    (case k48 => k_is)
    (case a49 => k_is)
    (case i49 => k_is)
    (case l49 => k_is)
    (case c49 => k_is)
    (case k49 => k_is)
    (case a50 => k_is)
    (case i50 => k_is)
    (case l50 => k_is)
    (case c50 => k_is)
    (case k50 => k_is)
    (case a51 => k_is)
    (case i51 => k_is)
    (case l51 => k_is)
    (case c51 => k_is)
    (case k51 => k_is)
    (case a52 => k_is)
    (case i52 => k_is)
    (case l52 => k_is)
    (case c52 => k_is)
    (case k52 => k_is)
    (case a53 => k_is)
    (case i53 => k_is)
    (case l53 => k_is)
    (case c53 => k_is)
    (case k53 => k_is)
    (case a54 => k_is)
    (case i54 => k_is)
    (case l54 => k_is)
    (case c54 => k_is)
    (case k54 => k_is)
    (case a55 => k_is)
    (case i55 => k_is)
    (case l55 => k_is)
    (case c55 => k_is)
    (case k55 => k_is)
    (case a56 => k_is)
    (case i56 => k_is)
    (case l56 => k_is)
    (case c56 => k_is)
    (case k56 => k_is)
    (case a57 => k_is)
    (case i57 => k_is)
    (case l57 => k_is)
    (case c57 => k_is)
    (case k57 => k_is)
    (case a58 => k_is)
    (case i58 => k_is)
    (case l58 => k_is)
    (case c58 => k_is)
    (case k58 => k_is)
    (case z0 => k_is)
    (case z1 => k_is)
    (case z2 => k_is)
    (case z3 => k_is)
    (case z4 => k_is)
    (case z5 => k_is)
    (case z6 => k_is)
    (case z7 => k_is)
    (case z8 => k_is)
    (case z9 => k_is)
