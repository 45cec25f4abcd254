import PyProof.Rows.All
import Wide.All
import OpenK.AllK
import Wide.FinOn
import PyProof.EqAt
import PyProof.EqKinds
import PyProof.TupleCall
import HandS.ForMost
import HandS.IsInst
import HandS.StrMore
import HandS.Codes
import HandS.Style
import HandS.Exc
import HandS.ExcOwn
import HandS.TryOnly
import HandS.ExcIs
import HandS.WordsExc
import HandS.ExcInit
import HandS.ExcField
import HandS.WrittenGet
import HandS.Conv
import HandS.DictTup
import HandS.TupLen
import HandS.Finally
import HandS.CallLocal
import HandS.CallSlots
import PyProof.DictMoreH
import PySem.Challenge.RW_samenames_k22_circles_are_told
set_option Elab.async false
set_option linter.all false
set_option maxRecDepth 100000
set_option maxHeartbeats 4000000
/-! My own words over the hand layer: calls by name, heaps but for one place, texts, data. -/
namespace Sn
open PySem PySem.Spec PyProof.Rows L2

/-- a def that may be called by its name -/
structure Cal (P : Program) (w : World) (K : PySem.W.Frag) (mg : Str → Option Value) (base : Heap) (CX : CXT) (k : Nat) (x : Str) (sp : Sp) : Prop where
  ex : ∃ (f : Addr) (fd : FuncData) (ps : List Str), FnOk P w K mg base CX k f fd ps sp ∧ mg x = some (.ref f) ∧ PySem.W.keepIn K (.ref f) = true ∧ Binds K fd ps []
section
variable {X : Cx} {k j : Nat} {x : Str} {sp : Sp} {p pos : Pos} {e : Expr} {es : List Expr} {t : TA} {CX : CXT} {E : XK}
theorem pe_c (c : Cal X.prog X.w X.K X.mg X.base CX k x sp) (hr : Room j X.A) (hk : k ≤ j) (hx : Passes CX X E) (ha : PA X (e :: es) t) (hg : Gl X x := by rfl)
    (hdb : (x == ("__debug__" : Str)) = false := by decide) (he : starEach (e :: es) X.env = (false, eval e X.env) :: starEach es X.env := by rfl) (hpl : (backTo pos (starEach es X.env)).any (·.1) = false := by rfl) :
    PE X (.Call (.Name x p) (e :: es) [] pos) (tCall sp [] E t) := by
  obtain ⟨f, fd, ps, F, hm, kp, b⟩ := c.ex
  exact pe_call F (hr.mono hk) hg hm kp b .nil hx ha hdb he hpl
end

/-! ### displays of many written texts -/
def strOf : Expr → Option Str
  | .Constant (.str x) _ _ => some x
  | _ => none
def strsOf : List Expr → Option (List Str)
  | [] => some []
  | e :: r => match strOf e, strsOf r with
    | some x, some l => some (x :: l)
    | _, _ => none
theorem starEach_strs {env : Env} : ∀ {es : List Expr} {l : List Str}, strsOf es = some l → ∀ {e : Expr} {x : Str}, strOf e = some x → starEach (e :: es) env = (false, eval e env) :: starEach es env := by
  intro es l h e x hx
  unfold strOf at hx
  split at hx
  · rfl
  · cases hx
theorem pa_strsL {X : Cx} : ∀ (es : List Expr) (l : List Str), strsOf es = some l → PA X es (fun _ H Q => Q (l.map V.str) H)
  | [], l, h => by
    have e : l = [] := (Option.some.inj h).symm
    subst e
    exact pa_nil
  | e :: r, l, h => by
    unfold strsOf at h
    split at h
    · rename_i x m hx hm
      have el : l = x :: m := (Option.some.inj h).symm
      subst el
      have q := pa_strsL (X := X) r m hm
      have hs := starEach_strs (env := X.env) hm hx
      unfold strOf at hx
      split at hx
      · rename_i x' j pos
        have ex : x' = x := Option.some.inj hx
        subst ex
        exact pa_cons (te := tC (.str x')) (t := fun _ H Q => Q (m.map V.str) H) pe_str q hs
      · cases hx
    · cases h
theorem pa_strs {X : Cx} {es : List Expr} (l : List Str) (h : strsOf es = some l := by rfl) : PA X es (fun _ H Q => Q (l.map V.str) H) := pa_strsL es l h

/-! ### heaps -/
/-- all that was tracked but the object at t is as it was -/
def But (t : Addr) (H H' : Hp) : Prop := ∀ b o, b ≠ t → H b = some o → H' b = some o
theorem But.refl (t : Addr) (H : Hp) : But t H H := fun _ _ _ h => h
theorem But.trans {t : Addr} {H H1 H2 : Hp} (a : But t H H1) (b : But t H1 H2) : But t H H2 := fun c o n h => b c o n (a c o n h)
theorem But.of {t : Addr} {H H' : Hp} (s : Same H H') : But t H H' := fun b o _ h => s b o h
theorem same_new {H : Hp} {p : Addr} {o : HO} (h : H p = none) : Same H (upd H p o) := fun b u q => by
  rw [upd_ne (ne_of_none q h)]
  exact q
theorem But.upd {t : Addr} {H H1 : Hp} {o : HO} (b : But t H H1) : But t H (upd H1 t o) := fun c u n h => by
  rw [upd_ne n]
  exact b c u n h

/-! ### the tape -/
def tk (c : Addr) (a l se sa : Int) : List (Key × V) := [(.inr "cells", .ref c), (.inr "at", .int a), (.inr "left", .int l), (.inr "seed", .int se), (.inr "salt", .int sa)]
structure TkAt (H : Hp) (t c : Addr) (cs : List Int) (a l se sa : Int) : Prop where
  d : H t = some (.dK (tk c a l se sa))
  cl : H c = some (.lst (cs.map V.int))
  cp : ∀ x ∈ cs, 0 ≤ x
  a0 : 0 ≤ a
  l0 : 0 ≤ l
  s0 : 0 ≤ se
  s1 : se < 2147483647
/-- a tape stands at t -/
def Tp (H : Hp) (t c : Addr) : Prop := ∃ cs a l se sa, TkAt H t c cs a l se sa
theorem TkAt.ne {H : Hp} {t c : Addr} {cs : List Int} {a l se sa : Int} (z : TkAt H t c cs a l se sa) : c ≠ t := ne_of z.cl z.d (by intro q; cases q)
theorem Tp.same {H H' : Hp} {t c : Addr} (s : Same H H') : Tp H t c → Tp H' t c := fun ⟨cs, a, l, se, sa, z⟩ => ⟨cs, a, l, se, sa, s _ _ z.d, s _ _ z.cl, z.cp, z.a0, z.l0, z.s0, z.s1⟩
theorem Tp.ne {H : Hp} {t c b : Addr} (z : Tp H t c) {o : HO} (h : H b = some o) (hn : ∀ kvs, o ≠ .dK kvs) : b ≠ t := by
  obtain ⟨cs, a, l, se, sa, z⟩ := z
  exact ne_of h z.d (hn _)
theorem Tp.nt {H : Hp} {t c b : Addr} (z : Tp H t c) (h : H b = none) : t ≠ b := by
  obtain ⟨cs, a, l, se, sa, z⟩ := z
  exact ne_of_none z.d h
theorem Tp.nc {H : Hp} {t c b : Addr} (z : Tp H t c) (h : H b = none) : c ≠ b := by
  obtain ⟨cs, a, l, se, sa, z⟩ := z
  exact ne_of_none z.cl h
theorem Tp.upd {H : Hp} {t c b : Addr} {o : HO} (z : Tp H t c) (h1 : t ≠ b) (h2 : c ≠ b) : Tp (upd H b o) t c := by
  obtain ⟨cs, a, l, se, sa, z⟩ := z
  exact ⟨cs, a, l, se, sa, by rw [upd_ne h1]; exact z.d, by rw [upd_ne h2]; exact z.cl, z.cp, z.a0, z.l0, z.s0, z.s1⟩
theorem Tp.new {H : Hp} {t c b : Addr} {o : HO} (z : Tp H t c) (h : H b = none) : Tp (L2.upd H b o) t c := z.upd (z.nt h) (z.nc h)
section
variable {c : Addr} {a l se sa v : Int}
theorem g_cells : valV (tk c a l se sa) (.inr "cells") = some (.ref c) := by kernel_rfl
theorem g_at : valV (tk c a l se sa) (.inr "at") = some (.int a) := by kernel_rfl
theorem g_left : valV (tk c a l se sa) (.inr "left") = some (.int l) := by kernel_rfl
theorem g_seed : valV (tk c a l se sa) (.inr "seed") = some (.int se) := by kernel_rfl
theorem g_salt : valV (tk c a l se sa) (.inr "salt") = some (.int sa) := by kernel_rfl
theorem p_at : putK (tk c a l se sa) (.inr "at") (.int v) = tk c v l se sa := by kernel_rfl
theorem p_left : putK (tk c a l se sa) (.inr "left") (.int v) = tk c a v se sa := by kernel_rfl
theorem p_salt : putK (tk c a l se sa) (.inr "salt") (.int v) = tk c a l se v := by kernel_rfl
theorem tk_len : (tk c a l se sa).length < sizeLine := by
  show 5 < sizeLine
  decide
end
section
variable {H : Hp} {t c : Addr} {cs : List Int} {a l se sa v : Int}
theorem TkAt.dg (z : TkAt H t c cs a l se sa) {k : Key} {x : V} (h : valV (tk c a l se sa) k = some x) : DGet H t (kV k) (some x) := h ▸ DGet.k z.d
theorem TkAt.sAt (z : TkAt H t c cs a l se sa) (hv : 0 ≤ v) : TkAt (upd H t (.dK (tk c v l se sa))) t c cs v l se sa :=
  ⟨upd_same, by rw [upd_ne z.ne]; exact z.cl, z.cp, hv, z.l0, z.s0, z.s1⟩
theorem TkAt.sLeft (z : TkAt H t c cs a l se sa) (hv : 0 ≤ v) : TkAt (upd H t (.dK (tk c a v se sa))) t c cs a v se sa :=
  ⟨upd_same, by rw [upd_ne z.ne]; exact z.cl, z.cp, z.a0, hv, z.s0, z.s1⟩
theorem TkAt.sSalt (z : TkAt H t c cs a l se sa) : TkAt (upd H t (.dK (tk c a l se v))) t c cs a l se v :=
  ⟨upd_same, by rw [upd_ne z.ne]; exact z.cl, z.cp, z.a0, z.l0, z.s0, z.s1⟩
theorem TkAt.pAt (z : TkAt H t c cs a l se sa) : DPut H t (.str "at") (.int v) (upd H t (.dK (tk c v l se sa))) := p_at (c := c) (a := a) (l := l) (se := se) (sa := sa) (v := v) ▸ DPut.k (k := .inr "at") z.d tk_len
theorem TkAt.pLeft (z : TkAt H t c cs a l se sa) : DPut H t (.str "left") (.int v) (upd H t (.dK (tk c a v se sa))) := p_left (c := c) (a := a) (l := l) (se := se) (sa := sa) (v := v) ▸ DPut.k (k := .inr "left") z.d tk_len
theorem TkAt.pSalt (z : TkAt H t c cs a l se sa) : DPut H t (.str "salt") (.int v) (upd H t (.dK (tk c a l se v))) := p_salt (c := c) (a := a) (l := l) (se := se) (sa := sa) (v := v) ▸ DPut.k (k := .inr "salt") z.d tk_len
end

/-! ### texts -/
/-- a sign that may stand in a text -/
def okc (c : Nat) : Bool := c == 10 || (decide (32 ≤ c) && decide (c ≤ 126) && c != 37)
def OkT (z : Str) : Prop := ∀ c ∈ z.cps.toList, okc c = true
def okT (z : Str) : Bool := z.cps.toList.all okc
theorem OkT.of {z : Str} (h : okT z = true) : OkT z := List.all_eq_true.mp h
theorem OkT.append {x y : Str} (a : OkT x) (b : OkT y) : OkT (x ++ y) := fun c h => by
  rw [show (x ++ y).cps.toList = x.cps.toList ++ y.cps.toList from TL.tl_append x y] at h
  rcases List.mem_append.mp h with h | h
  · exact a c h
  · exact b c h
theorem joinL_nil : ∀ l : List (List Nat), TL.joinL [] l = l.flatten
  | [] => rfl
  | [p] => by simp [TL.joinL]
  | p :: q :: r => by
    show p ++ ([] ++ TL.joinL [] (q :: r)) = _
    rw [joinL_nil (q :: r), List.nil_append] <;> rfl
theorem tl_join0 (y : Str) (hy : TL.tl y = []) (l : List Str) : TL.tl (Txt.join y l) = (l.map TL.tl).flatten := by
  rw [TL.join_eq, TL.tl_join, hy, joinL_nil]
theorem OkT.join {y : Str} (hy : TL.tl y = []) {l : List Str} (h : ∀ z ∈ l, OkT z) : OkT (Txt.join y l) := fun c hc => by
  rw [show (Txt.join y l).cps.toList = (l.map TL.tl).flatten from tl_join0 y hy l] at hc
  obtain ⟨m, hm, hc⟩ := List.mem_flatten.mp hc
  obtain ⟨z, hz, rfl⟩ := List.mem_map.mp hm
  exact h z hz c hc
theorem sum_len_le {n : Nat} : ∀ {l : List Str}, (∀ z ∈ l, z.length ≤ n) → (l.map (·.length)).sum ≤ n * l.length
  | [], _ => by simp
  | z :: r, h => by
    have ih := sum_len_le (l := r) fun y hy => h y (List.mem_cons_of_mem _ hy)
    have h0 := h z List.mem_cons_self
    rw [List.map_cons, List.sum_cons, List.length_cons, Nat.mul_add]
    omega
theorem flat_len : ∀ l : List Str, ((l.map TL.tl).flatten).length = (l.map (·.length)).sum
  | [] => rfl
  | z :: r => by
    rw [List.map_cons, List.flatten_cons, List.length_append, flat_len r, List.map_cons, List.sum_cons, TL.len_tl z]
theorem join_len (y : Str) (hy : TL.tl y = []) (l : List Str) : (Txt.join y l).length = (l.map (·.length)).sum := by
  rw [TL.len_tl, tl_join0 y hy, flat_len]
theorem small {n : Nat} (h : n ≤ 1000000) : n ≤ sizeLine := Nat.le_trans h (by decide)

/-! ### data that are equal -/
def sca : V → Bool
  | .non => true
  | .bl _ => true
  | .int _ => true
  | .str _ => true
  | _ => false
def Al (H : Hp) : Nat → V → V → Prop
  | 0, _, _ => False
  | n + 1, x, y => (x = y ∧ sca x = true) ∨
    (∃ a b xs ys, x = .ref a ∧ y = .ref b ∧ H a = some (.tup xs) ∧ H b = some (.tup ys) ∧ xs.length = ys.length ∧ xs.length ≤ 1000000 ∧ ∀ (i : Nat) (u v : V), xs[i]? = some u → ys[i]? = some v → Al H n u v) ∨
    (∃ a b xs ys, x = .ref a ∧ y = .ref b ∧ H a = some (.lst xs) ∧ H b = some (.lst ys) ∧ xs.length = ys.length ∧ xs.length ≤ 1000000 ∧ ∀ (i : Nat) (u v : V), xs[i]? = some u → ys[i]? = some v → Al H n u v)
theorem Al.sc {H : Hp} {n : Nat} {x : V} (h : sca x = true) : Al H (n + 1) x x := .inl ⟨rfl, h⟩
theorem Al.same {H H' : Hp} (s : Same H H') : ∀ {n : Nat} {x y : V}, Al H n x y → Al H' n x y
  | 0, _, _, h => h
  | n + 1, x, y, h => by
    rcases h with h | ⟨a, b, xs, ys, e1, e2, h1, h2, hl, hm, h⟩ | ⟨a, b, xs, ys, e1, e2, h1, h2, hl, hm, h⟩
    · exact .inl h
    · exact .inr (.inl ⟨a, b, xs, ys, e1, e2, s _ _ h1, s _ _ h2, hl, hm, fun i u v p q => Al.same s (h i u v p q)⟩)
    · exact .inr (.inr ⟨a, b, xs, ys, e1, e2, s _ _ h1, s _ _ h2, hl, hm, fun i u v p q => Al.same s (h i u v p q)⟩)
theorem Al.tup {H : Hp} {n : Nat} {a b : Addr} {xs ys : List V} (h1 : H a = some (.tup xs)) (h2 : H b = some (.tup ys)) (hl : xs.length = ys.length) (hm : xs.length ≤ 1000000) (h : ∀ (i : Nat) (u v : V), xs[i]? = some u → ys[i]? = some v → Al H n u v) : Al H (n + 1) (.ref a) (.ref b) :=
  .inr (.inl ⟨a, b, xs, ys, rfl, rfl, h1, h2, hl, hm, h⟩)
theorem Al.lst {H : Hp} {n : Nat} {a b : Addr} {xs ys : List V} (h1 : H a = some (.lst xs)) (h2 : H b = some (.lst ys)) (hl : xs.length = ys.length) (hm : xs.length ≤ 1000000) (h : ∀ (i : Nat) (u v : V), xs[i]? = some u → ys[i]? = some v → Al H n u v) : Al H (n + 1) (.ref a) (.ref b) :=
  .inr (.inr ⟨a, b, xs, ys, rfl, rfl, h1, h2, hl, hm, h⟩)
/-- two tuples (lists) of the same plain values -/
theorem al_eq {H : Hp} {n : Nat} {xs : List V} (h : xs.all sca = true) : ∀ (i : Nat) (u v : V), xs[i]? = some u → xs[i]? = some v → Al H (n + 1) u v := fun i u v p q => by
  have e : u = v := Option.some.inj (p.symm.trans q)
  subst e
  exact Al.sc (List.all_eq_true.mp h u (List.mem_of_getElem? p))

/-! ### tests -/
theorem iteP {p A B : Prop} [Decidable p] (hp : p) (h : A) : if decide p = true then A else B := by
  rw [if_pos (decide_eq_true hp)]
  exact h
theorem iteN {p A B : Prop} [Decidable p] (hp : ¬ p) (h : B) : if decide p = true then A else B := by
  rw [if_neg (by rw [decide_eq_false hp]; exact Bool.false_ne_true)]
  exact h
theorem iteNN {p A B : Prop} [Decidable p] (hp : ¬ p) (h : A) : if (!decide p) = true then A else B := by
  rw [decide_eq_false hp]
  exact iteT h
theorem qP {p : Prop} [Decidable p] {Q : VK} {H : Hp} (hp : p) (h : Q (.bl true) H) : Q (.bl (decide p)) H := by
  rw [decide_eq_true hp]
  exact h
theorem none_left {P : Program} {w : World} {K : PySem.W.Frag} {mg : Str → Option Value} {base : Heap} {f : Addr} {fd : FuncData} {ps : List Str} {sp : Sp} (no : ∀ vs H Q E, ¬ sp vs H Q E) : FnOk P w K mg base CX0 0 f fd ps sp :=
  ⟨fun vs H Q E h => absurd h (no vs H Q E), fun A outer s H args us vs Q E _ _ _ _ h => absurd h (no vs H Q E)⟩

/-! ### promises of the law's own helpers -/
def spTape (K : PySem.W.Frag) : Sp := fun vs H Q _ => ∃ (a : Addr) (ns : List Int), vs = [.ref a] ∧ SqL K H a (ns.map V.int) ∧ ns.length ≤ 63 ∧ ∀ t c H', Same H H' → H t = none → H c = none → Tp H' t c → Q (.ref t) H'
def spTake : Sp := fun vs H Q _ => ∃ (t c : Addr) (n : Int), vs = [.ref t, .int n] ∧ Tp H t c ∧ 0 < n ∧ n < 1073741824 ∧ ∀ (r : Int) H', 0 ≤ r → r < n → But t H H' → Tp H' t c → Q (.int r) H'
def spIsInt : Sp := fun vs H Q _ => ∃ i : Int, vs = [.int i] ∧ Q (.bl true) H
def spSame (n : Nat) : Sp := fun vs H Q _ => ∃ x y, vs = [x, y] ∧ Al H n x y ∧ Q (.bl true) H
def spItems (n : Nat) : Sp := fun vs H Q _ => ∃ a b xs ys, vs = [.ref a, .ref b] ∧ ((H a = some (.tup xs) ∧ H b = some (.tup ys)) ∨ (H a = some (.lst xs) ∧ H b = some (.lst ys))) ∧ xs.length = ys.length ∧ xs.length ≤ 1000000 ∧
  (∀ (i : Nat) (u v : V), xs[i]? = some u → ys[i]? = some v → Al H n u v) ∧ Q (.bl true) H
def spSnippet : Sp := fun vs H Q _ => ∃ t c, vs = [.ref t] ∧ Tp H t c ∧ ∀ z H', OkT z → z.length ≤ 45 → But t H H' → Tp H' t c → Q (.str z) H'
def spChar : Sp := fun vs H Q _ => ∃ t c, vs = [.ref t] ∧ Tp H t c ∧ ∀ z H', OkT z → z.length = 1 → But t H H' → Tp H' t c → Q (.str z) H'
def spAny : Sp := fun vs H Q _ => ∃ (t c : Addr) (m : Nat), vs = [.ref t, .int m] ∧ Tp H t c ∧ m ≤ 100 ∧ ∀ z H', OkT z → z.length ≤ 45 * m → But t H H' → Tp H' t c → Q (.str z) H'

/-! ### a text walked sign by sign -/
theorem for_str {x : Str} {g : TG} {tb : TS} {D : Ends} {σ : L2.St} {H : Hp} (Pv : Nat → L2.St → Hp → Prop) (h0 : Pv 0 σ H)
    (hs : ∀ i c σ H, x.cps.toList[i]? = some c → Pv i σ H → g (.str ⟨#[c]⟩) σ H fun σ2 H2 => tb { D with nx := Pv (i + 1), ct := Pv (i + 1), bk := D.nx } σ2 H2) (hd : ∀ σ H, Pv x.cps.toList.length σ H → D.nx σ H) :
    ∃ W : Nat → Nat → L2.St → Hp → Prop, (∃ m, W 0 m σ H) ∧ ∀ i m σ H, W i m σ H →
      ((Its x).stop i H ∧ D.nx σ H) ∨ ((Its x).go i H ∧ ∃ Nx : L2.St → Hp → Prop, (∀ σ' H', Nx σ' H' → ∃ m', m' < m ∧ W (i + 1) m' σ' H') ∧ ∀ y H', (Its x).yld i H y H' → g y σ H' fun σ2 H2 => tb { D with nx := Nx, ct := Nx, bk := D.nx } σ2 H2) := by
  refine ⟨fun i m σ H => m = x.cps.toList.length - i ∧ i ≤ x.cps.toList.length ∧ Pv i σ H, ⟨x.cps.toList.length, by simp, Nat.zero_le _, h0⟩, ?_⟩
  rintro i m σ H ⟨rfl, hi, p⟩
  have hsz : x.cps.toList.length = x.cps.size := Array.length_toList
  by_cases hlt : i < x.cps.toList.length
  · refine .inr ⟨by show i < x.cps.size; omega, Pv (i + 1), fun σ' H' p' => ⟨x.cps.toList.length - (i + 1), by omega, rfl, hlt, p'⟩, fun y H' z => ?_⟩
    obtain ⟨e, c, hc, z⟩ := z
    subst e z
    exact hs i c σ _ (by rw [Array.getElem?_toList]; exact hc) p
  · have e : i = x.cps.toList.length := by omega
    subst e
    exact .inl ⟨by show x.cps.size ≤ _; omega, hd σ H p⟩
/-! ### a while by an invariant and a measure -/
theorem while_m {c : TT} {tb : TS} {D : Ends} {σ : L2.St} {H : Hp} (Pv : L2.St → Hp → Prop) (μ : L2.St → Hp → Nat) (h0 : Pv σ H)
    (hs : ∀ σ H, Pv σ H → c σ H fun b H1 => if b = true then ∃ N : L2.St → Hp → Prop, (∀ σ' H', N σ' H' → ∃ m', m' < μ σ H ∧ m' = μ σ' H' ∧ Pv σ' H') ∧ tb { D with nx := N, ct := N, bk := D.nx } σ H1 else D.nx σ H1) : tWhile c tb D σ H :=
  ⟨fun m σ H => m = μ σ H ∧ Pv σ H, ⟨_, rfl, h0⟩, fun m σ H h => by
    obtain ⟨rfl, p⟩ := h
    exact hs σ H p⟩
theorem wN {Pv : L2.St → Hp → Prop} {μ : L2.St → Hp → Nat} {k : Nat} {tb : TS} {D : Ends} {σ : L2.St} {H1 : Hp} (h : tb { D with nx := fun σ' H' => Pv σ' H' ∧ μ σ' H' < k, ct := fun σ' H' => Pv σ' H' ∧ μ σ' H' < k, bk := D.nx } σ H1) :
    ∃ N : L2.St → Hp → Prop, (∀ σ' H', N σ' H' → ∃ m', m' < k ∧ m' = μ σ' H' ∧ Pv σ' H') ∧ tb { D with nx := N, ct := N, bk := D.nx } σ H1 := ⟨_, fun _ _ n => ⟨_, n.2, rfl, n.1⟩, h⟩
def spLaw (K : PySem.W.Frag) : Sp := fun vs H Q _ => ∃ (a : Addr) (ns : List Int), vs = [.ref a] ∧ SqL K H a (ns.map V.int) ∧ ns.length ≤ 63 ∧ ∀ H', Q (.bl true) H'
end Sn

/-! The keeper's state, as k22 wants it: what holds of goals, entries and live keys. -/
namespace Sn
/-- an entry: value, the key that was asked besides the input, checked, changed -/
structure En where
  v : Int
  d : Option Nat
  c : Nat
  g : Nat
abbrev Go := Nat → Option (Int × Nat)
structure KS where
  now : Nat
  go : Go
  en : Nat → Option En
def ups {α : Type} (f : Nat → Option α) (k : Nat) (v : α) : Nat → Option α := fun j => if j = k then some v else f j
theorem ups_at {α : Type} {f : Nat → Option α} {k : Nat} {v : α} : ups f k v k = some v := if_pos rfl
theorem ups_ne {α : Type} {f : Nat → Option α} {j k : Nat} {v : α} (h : j ≠ k) : ups f k v j = f j := if_neg h
/-- the chain ends behind n steps with this sum -/
inductive Ends (go : Go) : Nat → Nat → Int → Prop
  | stop {k : Nat} {g : Int} {r : Nat} : go k = some (g, r) → g < 0 → Ends go k 0 (k : Int)
  | step {k m r n : Nat} {s : Int} : go k = some ((m : Int), r) → Ends go m n s → Ends go k (n + 1) ((k : Int) + s)
theorem Ends.det {go : Go} {k n : Nat} {s : Int} (h : Ends go k n s) : ∀ {n' : Nat} {s' : Int}, Ends go k n' s' → n = n' ∧ s = s' := by
  induction h with
  | stop h0 h1 =>
    intro n' s' h'
    cases h' with
    | stop _ _ => exact ⟨rfl, rfl⟩
    | step h2 _ =>
      rw [h0] at h2
      injection h2 with h2
      injection h2 with h2 _
      omega
  | step h0 _ ih =>
    intro n' s' h'
    cases h' with
    | stop h2 h3 =>
      rw [h0] at h2
      injection h2 with h2
      injection h2 with h2 _
      omega
    | step h2 h3 =>
      rw [h0] at h2
      injection h2 with h2
      injection h2 with h2 _
      obtain rfl := Int.ofNat.inj h2
      obtain ⟨rfl, rfl⟩ := ih h3
      exact ⟨rfl, rfl⟩
/-- one or more steps lead from the first to the second -/
inductive Leads (go : Go) : Nat → Nat → Prop
  | one {j k r : Nat} : go j = some ((k : Int), r) → Leads go j k
  | more {j m k r : Nat} : go j = some ((m : Int), r) → Leads go m k → Leads go j k
theorem Leads.snoc {go : Go} {j k m r : Nat} (h : Leads go j k) (e : go k = some ((m : Int), r)) : Leads go j m := by
  induction h with
  | one h => exact .more h (.one e)
  | more h _ ih => exact .more h (ih e)
theorem Ends.goal {go : Go} {k m r n : Nat} {s : Int} (h : Ends go k n s) (e : go k = some ((m : Int), r)) : ∃ n' s', Ends go m n' s' ∧ n = n' + 1 ∧ s = k + s' := by
  cases h with
  | stop h0 h1 =>
    rw [e] at h0
    injection h0 with h0
    injection h0 with h0 _
    omega
  | step h0 h1 =>
    rw [e] at h0
    injection h0 with h0
    injection h0 with h0 _
    obtain rfl := Int.ofNat.inj h0
    exact ⟨_, _, h1, rfl, rfl⟩
theorem Leads.ends {go : Go} {j k : Nat} (h : Leads go j k) : ∀ {n : Nat} {s : Int}, Ends go j n s → ∃ n' s', Ends go k n' s' ∧ n' < n := by
  induction h with
  | one h =>
    intro n s e
    obtain ⟨n', s', e', rfl, _⟩ := e.goal h
    exact ⟨n', s', e', by omega⟩
  | more h _ ih =>
    intro n s e
    obtain ⟨n', s', e', rfl, _⟩ := e.goal h
    obtain ⟨n2, s2, e2, l⟩ := ih e'
    exact ⟨n2, s2, e2, by omega⟩
theorem Leads.no {go : Go} {k : Nat} (h : Leads go k k) {n : Nat} {s : Int} : ¬ Ends go k n s := fun e => by
  obtain ⟨n', s', e', l⟩ := h.ends e
  obtain ⟨rfl, _⟩ := e.det e'
  omega
/-- no end of the goal, no end of the key -/
theorem noEnds {go : Go} {k m r : Nat} (e : go k = some ((m : Int), r)) (h : ∀ n s, ¬ Ends go m n s) (n : Nat) (s : Int) : ¬ Ends go k n s := fun z => by
  obtain ⟨n', s', e', _⟩ := z.goal e
  exact h n' s' e'
/-- what always holds -/
structure KI (many : Nat) (S : KS) : Prop where
  rev : ∀ k g r, S.go k = some (g, r) → r ≤ S.now ∧ g < many ∧ k < many
  ran : ∀ k e, S.en k = some e → k < many ∧ e.g ≤ e.c ∧ e.c ≤ S.now
  i3 : ∀ k e, S.en k = some e → e.c = S.now → ∃ n, Ends S.go k n e.v
  i4 : ∀ k e g r, S.en k = some e → S.go k = some (g, r) → r ≤ e.c → (g < 0 → e.d = none ∧ e.v = k) ∧ ∀ m : Nat, g = m → e.d = some m ∧ m ≠ k ∧ ∃ e', S.en m = some e' ∧ (e'.g ≤ e.c → e.v = k + e'.v)
  i5 : ∀ k e m r, S.en k = some e → e.c = S.now → S.go k = some (((m : Nat) : Int), r) → ∃ e', S.en m = some e' ∧ e'.c = S.now
/-- not checked now -/
def Un (S : KS) (k : Nat) : Prop := ∀ e, S.en k = some e → e.c ≠ S.now
/-- an input changes -/
theorem KI.put {many : Nat} {S : KS} (I : KI many S) {k : Nat} {g : Int} (hk : k < many) (hg : g < many) : KI many ⟨S.now + 1, ups S.go k (g, S.now + 1), S.en⟩ := by
  have old : ∀ {j e}, S.en j = some e → e.c ≠ S.now + 1 := fun h z => by have := (I.ran _ _ h).2.2; omega
  refine ⟨fun j g' r h => ?_, fun j e h => ?_, fun j e h z => absurd z (old h), fun j e g' r h h2 h3 => ?_, fun j e m r h z => absurd z (old h)⟩
  · by_cases hj : j = k
    · subst hj
      have h : ups S.go j (g, S.now + 1) j = some (g', r) := h
      rw [ups_at] at h
      injection h with h
      injection h with h1 h2
      subst h1 h2
      exact ⟨Nat.le_refl _, hg, hk⟩
    · have h' : ups S.go k (g, S.now + 1) j = some (g', r) := h
      rw [ups_ne hj] at h'
      obtain ⟨a, b, c⟩ := I.rev _ _ _ h'
      exact ⟨Nat.le_succ_of_le a, b, c⟩
  · obtain ⟨a, b, c⟩ := I.ran _ _ h
    exact ⟨a, b, Nat.le_succ_of_le c⟩
  · by_cases hj : j = k
    · subst hj
      have h2 : ups S.go j (g, S.now + 1) j = some (g', r) := h2
      rw [ups_at] at h2
      injection h2 with h2
      injection h2 with _ h2
      have := (I.ran _ _ h).2.2
      omega
    · have h2' : ups S.go k (g, S.now + 1) j = some (g', r) := h2
      rw [ups_ne hj] at h2'
      exact I.i4 _ _ _ _ h h2' h3
/-- an entry is set: looked through, or computed -/
theorem KI.set {many : Nat} {S : KS} (I : KI many S) {k : Nat} {e : En} {g : Int} {r : Nat} (un : Un S k) (hg : S.go k = some (g, r)) (hc : e.c = S.now) (hch : e.g ≤ e.c)
    (h0 : g < 0 → e.d = none ∧ e.v = k) (h1 : ∀ m : Nat, g = m → e.d = some m ∧ ∃ e', S.en m = some e' ∧ e'.c = S.now ∧ e.v = k + e'.v)
    (same : ∀ e0, S.en k = some e0 → (e.v = e0.v ∧ e.g = e0.g) ∨ e.g = S.now) : KI many ⟨S.now, S.go, ups S.en k e⟩ := by
  have ek : ∃ n, Ends S.go k n e.v := by
    by_cases hneg : g < 0
    · rw [(h0 hneg).2]
      exact ⟨0, .stop hg hneg⟩
    · obtain ⟨m, rfl⟩ : ∃ m : Nat, g = m := ⟨g.toNat, by omega⟩
      obtain ⟨_, e', he, hce, hv⟩ := h1 m rfl
      obtain ⟨n, z⟩ := I.i3 _ _ he hce
      rw [hv]
      exact ⟨n + 1, .step hg z⟩
  have nk : ∀ m : Nat, g = m → m ≠ k := fun m hm z => by
    subst z
    obtain ⟨_, e', he, hce, _⟩ := h1 m hm
    exact un _ he hce
  refine ⟨I.rev, fun j e1 h => ?_, fun j e1 h z => ?_, fun j e1 g' r' h h2 h3 => ?_, fun j e1 m r' h z h2 => ?_⟩
  · by_cases hj : j = k
    · subst hj
      have h : ups S.en j e j = some e1 := h
      rw [ups_at] at h
      injection h with h
      subst h
      exact ⟨(I.rev _ _ _ hg).2.2, hch, by show e.c ≤ S.now; omega⟩
    · have h : ups S.en k e j = some e1 := h
      rw [ups_ne hj] at h
      exact I.ran _ _ h
  · by_cases hj : j = k
    · subst hj
      have h : ups S.en j e j = some e1 := h
      rw [ups_at] at h
      injection h with h
      subst h
      exact ek
    · have h : ups S.en k e j = some e1 := h
      rw [ups_ne hj] at h
      exact I.i3 _ _ h z
  · have h2 : S.go j = some (g', r') := h2
    by_cases hj : j = k
    · subst hj
      have h : ups S.en j e j = some e1 := h
      rw [ups_at] at h
      injection h with h
      subst h
      rw [hg] at h2
      injection h2 with h2
      injection h2 with h2 _
      subst h2
      refine ⟨h0, fun m hm => ?_⟩
      obtain ⟨a, e', he, _, hv⟩ := h1 m hm
      exact ⟨a, nk m hm, e', by show ups S.en j e m = some e'; rw [ups_ne (nk m hm)]; exact he, fun _ => hv⟩
    · have hh : ups S.en k e j = some e1 := h
      rw [ups_ne hj] at hh
      obtain ⟨a, b⟩ := I.i4 _ _ _ _ hh h2 h3
      refine ⟨a, fun m hm => ?_⟩
      obtain ⟨c, cn, e', he, hv⟩ := b m hm
      refine ⟨c, cn, ?_⟩
      by_cases hm2 : m = k
      · subst hm2
        refine ⟨e, ups_at, fun hle => ?_⟩
        rcases same _ he with ⟨s1, s2⟩ | s1
        · rw [s1]
          exact hv (by omega)
        · -- the one that asks was checked now: so was this one
          have hcj : e1.c = S.now := by have := (I.ran _ _ hh).2.2; omega
          obtain ⟨e2, he2, hc2⟩ := I.i5 _ _ m r' hh hcj (by rw [h2, hm])
          exact absurd hc2 (un _ he2)
      · exact ⟨e', by show ups S.en k e m = some e'; rw [ups_ne hm2]; exact he, hv⟩
  · have z : e1.c = S.now := z
    have h2 : S.go j = some ((m : Int), r') := h2
    have go1 : ∀ m : Nat, (∃ e', S.en m = some e' ∧ e'.c = S.now) → ∃ e', ups S.en k e m = some e' ∧ e'.c = S.now := fun m ⟨e', a, b⟩ => by
      by_cases hm : m = k
      · subst hm
        exact absurd b (un _ a)
      · exact ⟨e', by rw [ups_ne hm]; exact a, b⟩
    by_cases hj : j = k
    · subst hj
      rw [hg] at h2
      injection h2 with h2
      injection h2 with h2 _
      obtain ⟨_, e', he, hce, _⟩ := h1 m h2
      exact go1 m ⟨e', he, hce⟩
    · have h : ups S.en k e j = some e1 := h
      rw [ups_ne hj] at h
      exact go1 m (I.i5 _ _ m r' h z h2)
/-- different numbers below a bound are no more than the bound -/
theorem nodup_le : ∀ {b : Nat} {l : List Nat}, l.Nodup → (∀ x ∈ l, x < b) → l.length ≤ b
  | 0, [], _, _ => Nat.le_refl _
  | 0, x :: l, _, h => absurd (h x (by simp)) (by omega)
  | b + 1, l, hn, h => by
    have h1 : (l.filter fun x => decide (x ≠ b)).length ≤ b := nodup_le (hn.sublist List.filter_sublist) fun x hx => by
      have := List.mem_filter.mp hx
      have a := h x this.1
      have c : x ≠ b := of_decide_eq_true this.2
      omega
    have h2 : l.length ≤ (l.filter fun x => decide (x ≠ b)).length + 1 := by
      clear h1 h
      induction l with
      | nil => exact Nat.zero_le _
      | cons y l ih =>
        have hy := List.nodup_cons.mp hn
        by_cases c : y = b
        · have e : l.filter (fun x => decide (x ≠ b)) = l := List.filter_eq_self.mpr fun x hx => decide_eq_true fun z => hy.1 (by rw [c, ← z]; exact hx)
          have e2 : (y :: l).filter (fun x => decide (x ≠ b)) = l.filter (fun x => decide (x ≠ b)) := by
            rw [List.filter_cons, if_neg (by simp [c])]
          rw [e2, e]
          exact Nat.le_refl _
        · have e2 : (y :: l).filter (fun x => decide (x ≠ b)) = y :: l.filter (fun x => decide (x ≠ b)) := by
            rw [List.filter_cons, if_pos (by simp [c])]
          rw [e2, List.length_cons, List.length_cons]
          have := ih hy.2
          omega
    omega
/-- what an ask leaves: the same goals; entries of these keys stay, the others stay or are checked now -/
structure Lat (lv : List Nat) (S S' : KS) : Prop where
  now : S'.now = S.now
  go : S'.go = S.go
  en : ∀ j ∈ lv, S'.en j = S.en j
  or : ∀ j, S'.en j = S.en j ∨ ∃ e, S'.en j = some e ∧ e.c = S.now
theorem Lat.refl {lv : List Nat} {S : KS} : Lat lv S S := ⟨rfl, rfl, fun _ _ => rfl, fun _ => .inl rfl⟩
theorem Lat.trans {lv l2 : List Nat} {S S' S2 : KS} (a : Lat lv S S') (b : Lat l2 S' S2) (h : ∀ j ∈ lv, j ∈ l2) : Lat lv S S2 :=
  ⟨by rw [b.now, a.now], by rw [b.go, a.go], fun j hj => by rw [b.en j (h j hj), a.en j hj], fun j => by
    rcases b.or j with e | ⟨e, h1, h2⟩
    · rw [e]
      exact a.or j
    · exact .inr ⟨e, h1, by rw [h2, a.now]⟩⟩
theorem Lat.set {lv : List Nat} {S : KS} {k : Nat} {e : En} (h : k ∉ lv) (hc : e.c = S.now) : Lat lv S ⟨S.now, S.go, ups S.en k e⟩ :=
  ⟨rfl, rfl, fun j hj => ups_ne fun z => h (z ▸ hj), fun j => by
    by_cases hj : j = k
    · subst hj
      exact .inr ⟨e, ups_at, hc⟩
    · exact .inl (ups_ne hj)⟩
end Sn

/-! Mathematics of texts: counting a sign, the last one, lines, cuts. -/
namespace Sn
open PySem PySem.Spec PyProof.Rows L2 PySem.StrLaws PySem.Builtin.Str TL
abbrev strL (l : List Nat) : Str := ⟨l.toArray⟩
/-! ### cuts -/
theorem tl_cut (z : Str) (lo hi : Option Int) : tl (cutS z lo hi) = ((tl z).drop (HT.sIx z.length 0 lo)).take (HT.sIx z.length z.length hi - HT.sIx z.length 0 lo) := rfl
theorem tl_cut_to (z : Str) (o : Nat) : tl (cutS z none (some (o : Int))) = (tl z).take o := by
  rw [tl_cut, HT.sIx_none, HT.sIx_nat, List.drop_zero, Nat.sub_zero, len_tl, List.take_eq_take_iff]
  omega
theorem tl_cut_from (z : Str) (o : Nat) : tl (cutS z (some (o : Int)) none) = (tl z).drop o := by
  rw [tl_cut, HT.sIx_none, HT.sIx_nat, len_tl]
  by_cases h : o ≤ (tl z).length
  · rw [Nat.min_eq_left h, List.take_of_length_le (by rw [List.length_drop] <;> omega)]
  · rw [Nat.min_eq_right (by omega), Nat.sub_self, List.take_zero, List.drop_eq_nil_of_le (by omega)]
theorem tl_cut_mid (z : Str) (a b : Nat) (h : a ≤ (tl z).length) : tl (cutS z (some (a : Int)) (some (b : Int))) = ((tl z).drop a).take (b - a) := by
  rw [tl_cut, HT.sIx_nat, HT.sIx_nat, len_tl, Nat.min_eq_left h, List.take_eq_take_iff, List.length_drop]
  omega
theorem len_eq (z : Str) : z.length = (tl z).length := len_tl z
/-! ### counting one sign -/
theorem drop_take_cons {l : List Nat} {a hi : Nat} (h : a < hi) (hl : hi ≤ l.length) : ∃ (h2 : a < l.length), (l.take hi).drop a = l[a] :: (l.take hi).drop (a + 1) := by
  have h2 : a < (l.take hi).length := by rw [List.length_take]; omega
  refine ⟨by omega, ?_⟩
  rw [List.drop_eq_getElem_cons h2, List.getElem_take]
theorem drop_take_nil {l : List Nat} {a hi : Nat} (h : hi ≤ a) : (l.take hi).drop a = [] := List.drop_eq_nil_of_le (by rw [List.length_take]; omega)
theorem occ_cnt (x : Str) (c hi limit : Nat) (hhi : hi ≤ (tl x).length) : ∀ (m a : Nat) (st : Array Nat × Nat), st.2 ≤ a → st.1.size + m ≤ limit → a + m = hi + 1 →
    (forIn (List.range' a m) st (occBody x ⟨#[c]⟩ hi limit)).run.fst.size = st.1.size + (((tl x).take hi).drop a).count c
  | 0, a, st, _, _, e => by
    rw [drop_take_nil (by omega)]
    rfl
  | m + 1, a, st, hf, hl, e => by
    have one : ∀ i, (i + (⟨#[c]⟩ : Str).length ≤ hi ∧ subAt x ⟨#[c]⟩ i = true) ↔ i < hi ∧ (tl x)[i]? = some c := fun i => by
      have k := subAt_one x c i
      have hx : x.length = (tl x).length := len_tl x
      have h1 : (⟨#[c]⟩ : Str).length = 1 := rfl
      constructor
      · intro h
        have z := k.mp ⟨by omega, h.2⟩
        exact ⟨by omega, z⟩
      · intro h
        have z := k.mpr h.2
        exact ⟨by omega, z.2⟩
    rw [List.range'_succ, List.forIn_cons]
    unfold occBody
    by_cases ha : a < hi
    · obtain ⟨h2, e2⟩ := drop_take_cons ha hhi
      rw [e2, List.count_cons]
      by_cases hc : (tl x)[a] = c
      · have k := (one a).mpr ⟨ha, by rw [List.getElem?_eq_getElem h2, hc]⟩
        rw [if_pos ⟨⟨⟨by omega, hf⟩, k.1⟩, k.2⟩]
        have ih := occ_cnt x c hi limit hhi m (a + 1) (st.1.push a, a + (⟨#[c]⟩ : Str).length) (Nat.le_refl _) (by show (st.1.push a).size + m ≤ limit; rw [Array.size_push]; omega) (by omega)
        have e3 : (st.1.push a).size = st.1.size + 1 := Array.size_push ..
        show (forIn (List.range' (a + 1) m) (st.1.push a, a + (⟨#[c]⟩ : Str).length) (occBody x ⟨#[c]⟩ hi limit)).run.fst.size = _
        rw [ih, e3, hc]
        simp
        omega
      · have k : ¬ ((((st.1.size < limit ∧ st.2 ≤ a) ∧ a + (⟨#[c]⟩ : Str).length ≤ hi) ∧ subAt x ⟨#[c]⟩ a = true)) := fun h => by
          have z := (one a).mp ⟨h.1.2, h.2⟩
          rw [List.getElem?_eq_getElem h2] at z
          exact hc (Option.some.inj z.2)
        rw [if_neg k]
        have ih := occ_cnt x c hi limit hhi m (a + 1) (st.1, st.2) (by show st.2 ≤ a + 1; omega) (by show st.1.size + m ≤ limit; omega) (by omega)
        show (forIn (List.range' (a + 1) m) (st.1, st.2) (occBody x ⟨#[c]⟩ hi limit)).run.fst.size = _
        rw [ih]
        have e4 : ((tl x)[a] == c) = false := beq_eq_false_iff_ne.mpr hc
        rw [e4, if_neg Bool.false_ne_true]
        rfl
    · have k : ¬ ((((st.1.size < limit ∧ st.2 ≤ a) ∧ a + (⟨#[c]⟩ : Str).length ≤ hi) ∧ subAt x ⟨#[c]⟩ a = true)) := fun h => by
        have z := (one a).mp ⟨h.1.2, h.2⟩
        omega
      rw [if_neg k]
      have em : m = 0 := by omega
      subst em
      rw [drop_take_nil (by omega)]
      rfl
theorem occ_count (x : Str) (c hi : Nat) (hhi : hi ≤ (tl x).length) : (occurrences x ⟨#[c]⟩ 0 hi (x.length + 1)).length = ((tl x).take hi).count c := by
  rw [occ_eq, Array.length_toList]
  have k := occ_cnt x c hi (x.length + 1) hhi (hi + 1 - 0) 0 (#[], 0) (Nat.le_refl _) (by show 0 + (hi + 1 - 0) ≤ x.length + 1; rw [len_tl]; omega) (by omega)
  rw [k, List.drop_zero]
  show 0 + _ = _
  omega
theorem count_all (x : Str) (c : Nat) : Txt.count x ⟨#[c]⟩ = (((tl x).count c : Nat) : Int) := by
  show (((occurrences x ⟨#[c]⟩ 0 x.length (x.length + 1)).length : Nat) : Int) = _
  rw [occ_count x c x.length (by rw [len_tl]; exact Nat.le_refl _), len_tl, List.take_length]
theorem toW (n o : Nat) (h : o ≤ n) : toIndexW n (o : Int) = o := by
  unfold toIndexW
  rw [if_neg (by omega)]
  omega
theorem fromI (n o : Nat) : fromIndex n (o : Int) = o := by
  unfold fromIndex
  rw [if_neg (by omega)]
  omega
theorem count_in (x : Str) (c o : Nat) (h : o ≤ (tl x).length) : Txt.countIn x ⟨#[c]⟩ 0 (o : Int) = ((((tl x).take o).count c : Nat) : Int) := by
  unfold Txt.countIn
  rw [toW _ _ (by rw [len_tl]; exact h), show fromIndex x.length 0 = 0 from fromI x.length 0, occ_count x c o h]
/-! ### the last newline -/
/-- how many signs stand behind the last c, k of them ahead -/
def colF (c k : Nat) : List Nat → Nat
  | [] => k
  | d :: r => if d = c then colF c 0 r else colF c (k + 1) r
theorem colF_snoc (c d : Nat) : ∀ (l : List Nat) (k : Nat), colF c k (l ++ [d]) = if d = c then 0 else colF c k l + 1
  | [], k => by
    show (if d = c then colF c 0 [] else colF c (k + 1) []) = _
    rfl
  | e :: r, k => by
    show (if e = c then colF c 0 (r ++ [d]) else colF c (k + 1) (r ++ [d])) = _
    rw [colF_snoc c d r 0, colF_snoc c d r (k + 1)]
    by_cases h : e = c
    · rw [if_pos h]
      show _ = if d = c then 0 else (if e = c then colF c 0 r else colF c (k + 1) r) + 1
      rw [if_pos h]
    · rw [if_neg h]
      show _ = if d = c then 0 else (if e = c then colF c 0 r else colF c (k + 1) r) + 1
      rw [if_neg h]
theorem colF_le (c : Nat) : ∀ (l : List Nat) (k : Nat), colF c k l ≤ k + l.length
  | [], k => Nat.le_refl _
  | e :: r, k => by
    show (if e = c then colF c 0 r else colF c (k + 1) r) ≤ k + (r.length + 1)
    have h0 := colF_le c r 0
    have h1 := colF_le c r (k + 1)
    split <;> omega
def valO : Option Nat → Nat
  | none => 0
  | some k => k + 1
theorem last_col (x : Str) (c hi : Nat) (hhi : hi ≤ (tl x).length) : ∀ (m a : Nat) (st : Option Nat), valO st ≤ a → a + m = hi + 1 → a ≤ hi →
    valO (forIn (List.range' a m) st (lastBody x ⟨#[c]⟩ hi)).run ≤ hi ∧ hi - valO (forIn (List.range' a m) st (lastBody x ⟨#[c]⟩ hi)).run = colF c (a - valO st) (((tl x).take hi).drop a)
  | 0, a, st, _, e, _ => by omega
  | m + 1, a, st, hf, e, hah => by
    have one : ∀ i, (i + (⟨#[c]⟩ : Str).length ≤ hi ∧ subAt x ⟨#[c]⟩ i = true) ↔ i < hi ∧ (tl x)[i]? = some c := fun i => by
      have k := subAt_one x c i
      have hx : x.length = (tl x).length := len_tl x
      have h1 : (⟨#[c]⟩ : Str).length = 1 := rfl
      constructor
      · intro h
        have z := k.mp ⟨by omega, h.2⟩
        exact ⟨by omega, z⟩
      · intro h
        have z := k.mpr h.2
        exact ⟨by omega, z.2⟩
    rw [List.range'_succ, List.forIn_cons]
    unfold lastBody
    by_cases ha : a < hi
    · obtain ⟨h2, e2⟩ := drop_take_cons ha hhi
      rw [e2]
      by_cases hc : (tl x)[a] = c
      · have k := (one a).mpr ⟨ha, by rw [List.getElem?_eq_getElem h2, hc]⟩
        rw [if_pos k]
        have ih := last_col x c hi hhi m (a + 1) (some a) (Nat.le_refl _) (by omega) (by omega)
        show valO (forIn (List.range' (a + 1) m) (some a) (lastBody x ⟨#[c]⟩ hi)).run ≤ hi ∧ hi - valO (forIn (List.range' (a + 1) m) (some a) (lastBody x ⟨#[c]⟩ hi)).run = if (tl x)[a] = c then _ else _
        rw [if_pos hc]
        have e5 : a + 1 - valO (some a) = 0 := by
          show a + 1 - (a + 1) = 0
          omega
        rw [e5] at ih
        exact ih
      · have k : ¬ (a + (⟨#[c]⟩ : Str).length ≤ hi ∧ subAt x ⟨#[c]⟩ a = true) := fun h => by
          have z := (one a).mp h
          rw [List.getElem?_eq_getElem h2] at z
          exact hc (Option.some.inj z.2)
        rw [if_neg k]
        have ih := last_col x c hi hhi m (a + 1) st (by omega) (by omega) (by omega)
        show valO (forIn (List.range' (a + 1) m) st (lastBody x ⟨#[c]⟩ hi)).run ≤ hi ∧ hi - valO (forIn (List.range' (a + 1) m) st (lastBody x ⟨#[c]⟩ hi)).run = if (tl x)[a] = c then _ else _
        rw [if_neg hc]
        have e5 : a + 1 - valO st = a - valO st + 1 := by omega
        rw [e5] at ih
        exact ih
    · have k : ¬ (a + (⟨#[c]⟩ : Str).length ≤ hi ∧ subAt x ⟨#[c]⟩ a = true) := fun h => by
        have z := (one a).mp h
        omega
      rw [if_neg k]
      have em : m = 0 := by omega
      subst em
      rw [drop_take_nil (by omega)]
      show valO st ≤ hi ∧ hi - valO st = a - valO st
      omega
/-- x.rfind(c, 0, o) + 1 is where the last line of x[:o] begins -/
theorem rfind_col (x : Str) (c o : Nat) (h : o ≤ (tl x).length) : ∃ b : Nat, Txt.rfindIn x ⟨#[c]⟩ 0 (o : Int) + 1 = (b : Int) ∧ b ≤ o ∧ o - b = colF c 0 ((tl x).take o) := by
  unfold Txt.rfindIn
  rw [toW _ _ (by rw [len_tl]; exact h), show fromIndex x.length 0 = 0 from fromI x.length 0, last_eq]
  have k := last_col x c o h (o + 1 - 0) 0 none (Nat.le_refl _) (by omega) (Nat.zero_le _)
  rw [List.drop_zero] at k
  refine ⟨_, ?_, k.1, k.2⟩
  cases (forIn (List.range' 0 (o + 1 - 0)) none (lastBody x ⟨#[c]⟩ o)).run with
  | none => rfl
  | some j => rfl
/-! ### lines -/
def rows (c : Nat) : List Nat → List Nat → List (List Nat)
  | acc, [] => [acc]
  | acc, d :: r => if d = c then acc :: rows c [] r else rows c (acc ++ [d]) r
theorem spl_rows (c : Nat) : ∀ (l acc : List Nat), spl [c] 0 acc l = rows c acc l
  | [], acc => by rw [spl_nil]; rfl
  | d :: r, acc => by
    by_cases h : d = c
    · have p : TL.pre [c] (d :: r) = true := by rw [h]; simp [TL.pre]
      rw [spl_hit p]
      show acc :: spl [c] 0 [] r = if d = c then _ else _
      rw [if_pos h, spl_rows c r []]
    · have p : TL.pre [c] (d :: r) = false := pre_of_head [] r h
      rw [spl_miss p, spl_rows c r (acc ++ [d])]
      show _ = if d = c then _ else _
      rw [if_neg h]
theorem split_rows (x : Str) (c : Nat) (hc : c < 256) : (Txt.split x ⟨#[c]⟩).map tl = rows c [] (tl x) := by
  rw [split_spl x ⟨#[c]⟩ (by show [c] ≠ []; simp) (kind_ok (by simp [hc]))]
  exact spl_rows c (tl x) []
theorem rows_len (c : Nat) : ∀ (l acc : List Nat), (rows c acc l).length = l.count c + 1
  | [], acc => rfl
  | d :: r, acc => by
    show (if d = c then acc :: rows c [] r else rows c (acc ++ [d]) r).length = _
    rw [List.count_cons]
    by_cases h : d = c
    · rw [if_pos h, List.length_cons, rows_len c r []]
      simp [h]
    · have h' : (d == c) = false := by simpa using h
      rw [if_neg h, rows_len c r]
      simp [h']
/-- the lengths of lines with their newlines -/
def lens (rs : List (List Nat)) : Nat := (rs.map fun r => r.length + 1).sum
theorem rows_at (c : Nat) : ∀ (l acc : List Nat) (o : Nat), o ≤ l.length → ∃ row, (rows c acc l)[(l.take o).count c]? = some row ∧ colF c acc.length (l.take o) ≤ row.length ∧
    lens ((rows c acc l).take ((l.take o).count c)) + colF c acc.length (l.take o) = acc.length + o
  | l, acc, 0, _ => by
    rw [List.take_zero]
    show ∃ row, (rows c acc l)[0]? = some row ∧ acc.length ≤ row.length ∧ lens ((rows c acc l).take 0) + acc.length = acc.length + 0
    have : ∀ (l acc : List Nat), ∃ row, (rows c acc l)[0]? = some row ∧ acc.length ≤ row.length := by
      intro l
      induction l with
      | nil => exact fun acc => ⟨acc, rfl, Nat.le_refl _⟩
      | cons d r ih =>
        intro acc
        show ∃ row, (if d = c then acc :: rows c [] r else rows c (acc ++ [d]) r)[0]? = some row ∧ _
        by_cases h : d = c
        · rw [if_pos h]
          exact ⟨acc, rfl, Nat.le_refl _⟩
        · rw [if_neg h]
          obtain ⟨row, h1, h2⟩ := ih (acc ++ [d])
          rw [List.length_append] at h2
          exact ⟨row, h1, by omega⟩
    obtain ⟨row, h1, h2⟩ := this l acc
    refine ⟨row, h1, h2, ?_⟩
    rw [List.take_zero]
    show 0 + acc.length = acc.length + 0
    omega
  | [], acc, o + 1, h => absurd h (by simp)
  | d :: r, acc, o + 1, h => by
    have ho : o ≤ r.length := by simpa using h
    rw [List.take_succ_cons, List.count_cons]
    by_cases e : d = c
    · subst e
      have ih := rows_at d r [] o ho
      obtain ⟨row, h1, h2, h3⟩ := ih
      have er : rows d acc (d :: r) = acc :: rows d [] r := by
        show (if d = d then _ else _) = _
        rw [if_pos rfl]
      have ec : colF d acc.length (d :: r.take o) = colF d 0 (r.take o) := by
        show (if d = d then _ else _) = _
        rw [if_pos rfl]
      rw [er, ec]
      simp only [beq_self_eq_true, if_true]
      refine ⟨row, by rw [List.getElem?_cons_succ]; exact h1, h2, ?_⟩
      rw [List.take_succ_cons]
      show (acc.length + 1) + lens _ + _ = _
      simp only [List.length_nil] at h3
      unfold lens at h3 ⊢
      omega
    · have er : rows c acc (d :: r) = rows c (acc ++ [d]) r := by
        show (if d = c then _ else _) = _
        rw [if_neg e]
      have ec : colF c acc.length (d :: r.take o) = colF c (acc.length + 1) (r.take o) := by
        show (if d = c then _ else _) = _
        rw [if_neg e]
      have eb : (d == c) = false := by simpa using e
      have ih := rows_at c r (acc ++ [d]) o ho
      rw [er, ec]
      simp only [eb, Bool.false_eq_true, if_false, Nat.add_zero]
      obtain ⟨row, h1, h2, h3⟩ := ih
      rw [List.length_append, List.length_singleton] at h2 h3
      exact ⟨row, h1, h2, by omega⟩
theorem join_lens (y : List Nat) (hy : y.length = 1) : ∀ rs : List (List Nat), rs ≠ [] → (joinL y rs).length + 1 = lens rs
  | [], h => absurd rfl h
  | [p], _ => by
    show p.length + 1 = (p.length + 1) + 0
    omega
  | p :: q :: r, _ => by
    show (p ++ (y ++ joinL y (q :: r))).length + 1 = (p.length + 1) + lens (q :: r)
    have ih := join_lens y hy (q :: r) (by simp)
    rw [List.length_append, List.length_append]
    omega
end Sn

/-! My own rules: three comparisons in a row, a text times a number, calls that may raise, isinstance in an except suite. -/
namespace Sn
open PySem PySem.Spec PyProof.Rows L2 TL
section
variable {X : Cx} {a b c d : Expr} {ta tb tc td : TE} {pos : Pos}
/-- a op1 b op2 c op3 d -/
def tChain3 (r r' r'' : R2) (ta tb tc td : TE) : TE := fun σ H Q => ta σ H fun x H1 => tb σ H1 fun y H2 => r x y H2 fun z H3 => ∃ k, z = .bl k ∧
  (if k = true then tc σ H3 fun w H4 => r' y w H4 fun z' H5 => ∃ k', z' = .bl k' ∧ (if k' = true then td σ H5 fun v H6 => r'' w v H6 Q else Q (.bl false) H5) else Q (.bl false) H3)
theorem pt_chain3 {op op' op'' : CmpOp} {r r' r'' : R2} (ho : OpR X (compareOp op) r) (ho' : OpR X (compareOp op') r') (ho'' : OpR X (compareOp op'') r'') (ha : PE X a ta) (hb : PE X b tb) (hc : PE X c tc) (hd : PE X d td)
    (hm : lastMarks [op, op', op''] [b, c, d] = false := by with_unfolding_all rfl) : PT X (.Compare a [op, op', op''] [b, c, d] pos) (tTest (tChain3 r r' r'' ta tb tc td)) := by
  refine ⟨fun pins s σ H Q I h => ?_⟩
  refine isTrue_chain (thn (ha.run pins s σ H _ I h) fun v s1 ⟨x, H1, I1, r1, q1⟩ => test_link (thn (hb.run pins s1 σ H1 _ I1 q1) fun u s2 ⟨y, H2, I2, r2, q2⟩ =>
    thn (ho pins s2 σ H2 x y v u _ I2 r1 r2 q2) fun e s3 ⟨z, H3, I3, r3, k, ez, q3⟩ => ?_)) hm
  subst ez
  cases r3
  refine wpAny_truthy_bool ?_
  cases k with
  | false =>
    obtain ⟨k', e', q'⟩ := q3
    cases e'
    exact ite_ff ⟨H3, I3, q'⟩
  | true =>
    refine ite_tt (test_link (thn (hc.run pins s3 σ H3 _ I3 q3) fun w' s4 ⟨z', H4, I4, r4, q4⟩ => thn (ho' pins s4 σ H4 y z' u w' _ I4 r2 r4 q4) fun d' s5 ⟨z2, H5, I5, r5, k2, e2, q5⟩ => ?_))
    subst e2
    cases r5
    refine wpAny_truthy_bool ?_
    cases k2 with
    | false =>
      obtain ⟨k', e', q'⟩ := q5
      cases e'
      exact ite_ff ⟨H5, I5, q'⟩
    | true =>
      refine ite_tt (test_last (thn (hd.run pins s5 σ H5 _ I5 q5) fun w2 s6 ⟨z6, H6, I6, r6, q6⟩ => thn (ho'' pins s6 σ H6 z' z6 w' w2 _ I6 r4 r6 q6) fun d' s7 ⟨z7, H7, I7, r7, k7, e7, q7⟩ => ?_))
      subst e7
      cases r7
      exact wpAny_truthy_bool ⟨H7, I7, q7⟩
/-- a text times a number -/
theorem op_mul_str : OpR X (binaryOp .Mult) (fun x y H Q => ∃ (z : Str) (n : Int), x = .str z ∧ y = .int n ∧ MulOk z n ∧ Q (.str (Txt.mul z n)) H) := by
  intro pins s σ H x y v u Q I rx ry h
  obtain ⟨z, n, rfl, rfl, hm, q⟩ := h
  obtain ⟨t, rfl⟩ := rx
  obtain ⟨t', rfl⟩ := ry
  exact SB.mul hm fun t' k => ⟨.str (Txt.mul z n), H, I.tok _, ⟨_, rfl⟩, q⟩
end
section
variable {X : Cx} {k j : Nat} {x : Str} {sp : Sp} {p pos : Pos} {e : Expr} {es : List Expr} {t : TA} {W : WX}
/-- a call within a try, what it lets out is the clause's -/
theorem pe_cS (c : Cal X.prog X.w X.K X.mg X.base (L2.CX X.prog X.w) k x sp) (hr : Room j X.A) (hk : k ≤ j) (tk : Takes X W) (ha : PA X (e :: es) t) (hg : Gl X x := by rfl)
    (hdb : (x == ("__debug__" : Str)) = false := by decide) (he : starEach (e :: es) X.env = (false, eval e X.env) :: starEach es X.env := by rfl) (hpl : (backTo pos (starEach es X.env)).any (·.1) = false := by rfl) :
    PE X (.Call (.Name x p) (e :: es) [] pos) (tCallS sp (WE W) t) := by
  obtain ⟨f, fd, ps, F, hm, kp, b⟩ := c.ex
  exact pe_callS F (hr.mono hk) hg hm kp b (fun σ => passAt tk σ) ha hdb he hpl
/-- isinstance(e, c), e what the suite holds; that it is of the class D is the reading's to say -/
theorem call_isX {D a : Addr} {oe : Obj} {cls : Value} {d : Option Addr} {pn : List (Addr × Obj)} (C : ExcC X.K D) (hz : Zc cls d oe) (hf : ∃ vs, oe.data = .fields vs) :
    CallR (X.suite a ((a, oe) :: pn)) (.builtin "isinstance") (fun xs H Q => cls = .ref D ∧ d = none ∧ rIsE X.K D a xs H Q) := by
  intro pins s σ H xs us Q I r h
  obtain ⟨rfl, rfl, h⟩ := h
  exact call_isE C hz hf pins s σ H xs us Q I r h
end

/-! ### edits -/
/-- the mirror of a joint edit: what stands from done on -/
def jgo (z : List Nat) : Nat → List (Int × Int × List Nat) → Option (List Nat)
  | done, [] => some (z.drop done)
  | done, (s, e, n) :: r => if (done : Int) ≤ s ∧ s ≤ e ∧ e ≤ (z.length : Int) ∧ n.all okc = true then (jgo z e.toNat r).map fun t => (z.drop done).take (s.toNat - done) ++ (n ++ t) else none
def joint (z : List Nat) (eds : List (Int × Int × List Nat)) : Option (List Nat) := match jgo z 0 eds with
  | some r => if r.length ≤ 4000 then some r else none
  | none => none
/-- a list of edits stands at le -/
def EdAt (H : Hp) (le : Addr) (eds : List (Int × Int × Str)) : Prop := ∃ rs : List Addr, H le = some (.lst (rs.map V.ref)) ∧ rs.length = eds.length ∧ ∀ (i : Nat) (r : Addr) (s e : Int) (n : Str), rs[i]? = some r → eds[i]? = some (s, e, n) → H r = some (.tup [.int s, .int e, .str n])
def edl (eds : List (Int × Int × Str)) : List (Int × Int × List Nat) := eds.map fun x => (x.1, x.2.1, tl x.2.2)
/-- the lengths of all new texts -/
def news (eds : List (Int × Int × Str)) : Nat := (eds.map fun x => x.2.2.length).sum
theorem EdAt.same {H H' : Hp} {le : Addr} {eds : List (Int × Int × Str)} (s : Same H H') : EdAt H le eds → EdAt H' le eds := fun ⟨rs, h1, h2, h3⟩ => ⟨rs, s _ _ h1, h2, fun i r a b n p q => s _ _ (h3 i r a b n p q)⟩
def spMay : Sp := fun vs H Q _ => ∃ z : Str, vs = [.str z] ∧ Q (.bl ((tl z).all okc)) H
def spIsText : Sp := fun vs H Q _ => ∃ z : Str, vs = [.str z] ∧ z.length ≤ 1000000 ∧ Q (.bl (decide (z.length ≤ 4000) && (tl z).all okc)) H
def spJoint (C : Addr) : Sp := fun vs H Q E => ∃ (z : Str) (le : Addr) (eds : List (Int × Int × Str)), vs = [.str z, .ref le] ∧ EdAt H le eds ∧ z.length ≤ 1000000 ∧ eds.length ≤ 1000 ∧ news eds ≤ 1000000 ∧
  (∀ r H', joint (tl z) (edl eds) = some r → Same H H' → Q (.str (strL r)) H') ∧ (∀ H', joint (tl z) (edl eds) = none → Same H H' → E (.ref C) none H')
def spEdit (C : Addr) : Sp := fun vs H Q E => ∃ (z : Str) (ed : Addr) (s e : Int) (n : Str), vs = [.str z, .ref ed] ∧ H ed = some (.tup [.int s, .int e, .str n]) ∧ z.length ≤ 1000000 ∧ n.length ≤ 1000000 ∧
  (∀ r H', joint (tl z) [(s, e, tl n)] = some r → Same H H' → Q (.str (strL r)) H') ∧ (∀ H', joint (tl z) [(s, e, tl n)] = none → Same H H' → E (.ref C) none H')
/-! ### signs in order -/
theorem le_one (a b : Nat) : (!decide ([b] < [a])) = decide (a ≤ b) := by
  have : ([b] < [a]) ↔ b < a := by
    constructor
    · intro h
      cases h with
      | rel h => exact h
      | cons h => cases h
    · exact fun h => .rel h
  by_cases h : b < a
  · rw [decide_eq_true (this.mpr h), decide_eq_false (by omega)]
    rfl
  · rw [decide_eq_false (fun k => h (this.mp k)), decide_eq_true (by omega)]
    rfl
/-! ### classes of errors, as the top has written them -/
theorem own_cls {K : PySem.W.Frag} {C S : Addr} (i : PySem.W.isClsIn K S = true) (t : PySem.W.typeIn K (.ref S) = some (.type "type")) (s : PySem.W.subIn K (.ref C) (.ref S) = some true) : PySem.W.kitCls K (.ref C) (.ref S) = some true := by
  have e2 : ((PySem.W.clsIn K S).isSome && PySem.W.typeIn K (.ref S) == some (.type "type")) = true := by
    have h2 : (PySem.W.clsIn K S).isSome = true := i
    rw [h2, t] <;> rfl
  show (if _ then _ else _) = _
  rw [if_pos e2]
  exact s
theorem exm_of {K : PySem.W.Frag} {S : Addr} (b : PySem.W.subIn K (.ref S) (.type "BaseException") = some true) (i : PySem.W.isClsIn K S = true) (t : PySem.W.typeIn K (.ref S) = some (.type "type")) (s : PySem.W.subIn K (.ref S) (.ref S) = some true) :
    PySem.W.exmOne K (.ref S) (.ref S) = some true := by
  have e1 : (PySem.W.subIn K (.ref S) (.type "BaseException") == some true) = true := by rw [b] <;> rfl
  show (if _ then _ else _) = _
  rw [if_pos e1]
  exact own_cls i t s
theorem kit_own {K : PySem.W.Frag} {C S : Addr} (i : PySem.W.isClsIn K S = true) (t : PySem.W.typeIn K (.ref S) = some (.type "type")) (s : PySem.W.subIn K (.ref C) (.ref S) = some true) : PySem.W.kitOne K (.ref C) (.ref S) = some true := by
  show (if _ then _ else _) = _
  split
  · rfl
  · exact own_cls i t s
theorem kit_blt {K : PySem.W.Frag} {C : Addr} {n : String} (m : PySem.W.kitMeta n = true) (s : PySem.W.subIn K (.ref C) (.type n) = some true) : PySem.W.kitOne K (.ref C) (.type n) = some true := by
  show (if _ then _ else (if _ then _ else _)) = _
  split
  · rfl
  · first
      | exact s
      | (rw [if_pos m]; exact s)
end Sn

/-! My own words: methods called by name, attributes, dicts of the module with get. -/
namespace Sn
open PySem PySem.Spec PyProof.Rows L2
section
variable {X : Cx} {e : Expr} {t t' : TE}
theorem PE.imp (h : PE X e t) (i : ∀ σ H Q, t' σ H Q → t σ H Q) : PE X e t' := ⟨fun pins s σ H Q I q => h.run pins s σ H Q I (i _ _ _ q)⟩
theorem PS.imp {st : Stmt} {u u' : TS} (h : PS X st u) (i : ∀ D σ H, u' D σ H → u D σ H) : PS X st u' := ⟨fun pins s σ H D I q => h.run pins s σ H D I (i _ _ _ q)⟩
def tUp (t : TE) : TE := fun σ H Q => ∃ Q' : VK, t σ H Q' ∧ ∀ v H1, Q' v H1 → Q v H1
theorem PE.up (h : PE X e t) : PE X e (tUp t) := ⟨fun pins s σ H Q I ⟨Q', a, b⟩ => thn (h.run pins s σ H Q' I a) fun v s1 ⟨x, H1, I1, r1, q1⟩ => ⟨x, H1, I1, r1, b _ _ q1⟩⟩
end
/-- a method that may be called by its name -/
structure CalM (P : Program) (w : World) (K : PySem.W.Frag) (mg : Str → Option Value) (base : Heap) (CX : CXT) (k : Nat) (C : Addr) (m : Str) (sp : Sp) : Prop where
  ex : ∃ (f : Addr) (fd : FuncData) (ps : List Str), FnOk P w K mg base CX k f fd ps sp ∧ Meth K C m f ∧ Binds K fd ps []
/-- an instance of the class at C with attributes of these names -/
def IsI (H : Hp) (C p : Addr) (ns : List Str) : Prop := ∃ dx fs, H p = some (.ins C dx fs) ∧ fs.map (·.1) = ns
theorem lookup_no : ∀ {fs : List (Str × V)} {ns : List Str} {m : Str}, fs.map (·.1) = ns → ns.contains m = false → fs.lookup m = none
  | [], _, _, _, _ => rfl
  | (n, v) :: r, _, m, h, hm => by
    subst h
    rw [List.map_cons, List.contains_cons, Bool.or_eq_false_iff] at hm
    rw [List.lookup_cons, hm.1]
    exact lookup_no rfl hm.2
def tMe (C : Addr) (ns : List Str) (sp : Sp) (E : XK) (ta : TE) (t : TA) : TE := fun σ H Q => ta σ H fun x H1 => ∃ p, x = .ref p ∧ IsI H1 C p ns ∧ t σ H1 fun vs H2 => sp (x :: vs) H2 Q E
section
variable {X : Cx} {k j : Nat} {C : Addr} {m : Str} {sp : Sp} {apos pos : Pos} {o e : Expr} {es : List Expr} {ta : TE} {t : TA} {CX : CXT} {E : XK} {pl : Sem Bool}
theorem pe_m (ns : List Str) (c : CalM X.prog X.w X.K X.mg X.base CX k C m sp) (cl : Cls X.K C) (hno : ns.contains m = false) (hr : Room j X.A) (hk : k ≤ j) (hx : Passes CX X E) (he : PE X o ta) (ha : PA X (e :: es) t)
    (hst : starEach (e :: es) X.env = (false, eval e X.env) :: starEach es X.env := by rfl) (hpl : (backTo pos (starEach es X.env)).any (·.1) = false := by rfl)
    (ht : eval (.Call (.Attribute o m apos) (e :: es) [] pos) X.env = (do
      let ov ← eval o X.env
      standAt apos.atName
      let (f, first) ← holding [ov] (getMethod ov m pl)
      callWith pos f first (backTo pos (starEach (e :: es) X.env)) (backToKw pos (keywordEach [] X.env))) := by rfl) :
    PE X (.Call (.Attribute o m apos) (e :: es) [] pos) (tMe C ns sp E ta t) := by
  obtain ⟨f, fd, ps, F, hm, b⟩ := c.ex
  refine PE.imp (pe_meth (PE.up he) cl hm F (hr.mono hk) b .nil hx ha hst hpl ht) fun σ H Q h => ⟨_, h, ?_⟩
  rintro v H1 ⟨p, rfl, ⟨dx, fs, hp, hn⟩, q⟩
  refine ⟨p, dx, fs, rfl, hp, lookup_no hn hno, ?_⟩
  simp only [List.append_nil]
  exact q
theorem pe_m0 (ns : List Str) (c : CalM X.prog X.w X.K X.mg X.base CX k C m sp) (cl : Cls X.K C) (hno : ns.contains m = false) (hr : Room j X.A) (hk : k ≤ j) (hx : Passes CX X E) (he : PE X o ta)
    (ht : eval (.Call (.Attribute o m apos) [] [] pos) X.env = (do
      let ov ← eval o X.env
      standAt apos.atName
      let (f, first) ← holding [ov] (getMethod ov m pl)
      callWith pos f first (backTo pos (starEach [] X.env)) (backToKw pos (keywordEach [] X.env))) := by rfl) :
    PE X (.Call (.Attribute o m apos) [] [] pos) (tMe C ns sp E ta tNil) := by
  obtain ⟨f, fd, ps, F, hm, b⟩ := c.ex
  refine PE.imp (pe_meth0 (PE.up he) cl hm F (hr.mono hk) b .nil hx ht) fun σ H Q h => ⟨_, h, ?_⟩
  rintro v H1 ⟨p, rfl, ⟨dx, fs, hp, hn⟩, q⟩
  refine ⟨p, dx, fs, rfl, hp, lookup_no hn hno, ?_⟩
  exact q
end
/-! ### a dict of the module: get with another value -/
section
variable {X : Cx}
/-- a written dict with text keys; what it has at a key -/
structure KdAt (K : PySem.W.Frag) (w : World) (a : Addr) : Prop where
  ex : ∃ es n, K.lookup a = some ⟨.type "dict", none, .dict es n, #[]⟩ ∧ PySem.W.KeysLit w.params es.toList
  low : (a == sysModules) = false
def KdGet (K : PySem.W.Frag) (a : Addr) (x : Str) (r : Option V) : Prop := ∃ u, PySem.W.nsIn K a x = some u ∧ RelO r u
theorem relO_getD {r : Option V} {u : Option Value} {v : V} {d : Value} (h : RelO r u) (k : RelV v d) : RelV (r.getD v) (u.getD d) := by
  cases r with
  | none =>
    cases u with
    | none => exact k
    | some u => exact h.elim
  | some r =>
    cases u with
    | none => exact h.elim
    | some u => exact h
def tKGet2 (K : PySem.W.Frag) (w : World) (td ty tx : TE) : TE := fun σ H Q => td σ H fun x H1 => ∃ a, x = .ref a ∧ KdAt K w a ∧ ty σ H1 fun y H2 => tx σ H2 fun z H3 => ∃ (s : Str) (r : Option V), y = .str s ∧ KdGet K a s r ∧ Q (r.getD z) H3
theorem pe_kget2 {o e f : Expr} {apos cpos : Pos} {td ty tx : TE} (ho : PE X o td) (he : PE X e ty) (hf : PE X f tx) (m : M2 X o "get" apos e f cpos) : PE X (.Call (.Attribute o "get" apos) [e, f] [] cpos) (tKGet2 X.K X.w td ty tx) := by
  refine ⟨fun pins s σ H Q I h => ?_⟩
  refine wpAny_Call_method m.base m.few m.line PySem.F.plainAttrs_dict PySem.F.slot_dict_get PySem.F.type_dict_get (thn (ho.run pins s σ H _ I h) fun u s1 ⟨x, H1, I1, rx, a, ex, ⟨⟨es, n, hl, hk⟩, low⟩, q1⟩ => ?_)
  subst ex
  obtain rfl : u = Value.ref a := rx
  have M0 := PySem.W.mapOf_K (prog := X.prog) (w := X.w) I1.kIn hl hk
  refine ⟨M0.typeIs, fun b q => ?_, ?_⟩
  · cases q
    exact ⟨_, I1.kIn _ _ hl, rfl⟩
  rw [m.trees]
  refine Calls.callWith_builtin rfl (Calls.evalArgs_plain (Calls.spliced_cons (thn (he.run pins s1 σ H1 _ I1 q1) fun iv s2 ⟨y, H2, I2, ry, q2⟩ =>
    Calls.spliced_cons (thn (hf.run pins s2 σ H2 _ I2 q2) fun fv s3 ⟨z, H3, I3, rz, x, r, ey, ⟨u0, e, ro⟩, q3⟩ => Calls.spliced_nil ?_))))
  subst ey
  obtain ⟨t, rfl⟩ := (show ∃ t, iv = Value.str x t from ry)
  have M3 := PySem.W.mapOf_K (prog := X.prog) (w := X.w) I3.kIn hl hk
  refine call_meetsIn PySem.F.slot_dict_get M3.typeIs PySem.F.entry_dict_get (PySem.F.args_dict_get_3 _ _ _) (meets_dict_get_default (strKind X.prog X.w) a (strKind_is X.prog X.w x t) low fv) ⟨_, M3, ?_⟩
  rw [PySem.W.find_K hl e]
  exact ⟨_, H3, I3.tok _, relO_getD ro rz, q3⟩
end
end Sn

/-! My own words for the keeper: tuple(d), del d[k] with tuple keys, methods and local defs called within a try, try .. finally. -/
namespace Sn
open PySem PySem.Spec PyProof.Rows L2 PySem.W
/-! ### tuple(d) -/
section
variable {prog : Program} {w : World} {A : Around} {E : Value → Shared → Prop} {s : Shared} {T : String} {r d : Addr} {n : Nat} {P : Nat → Value → Prop} {OK : Heap → Prop}
/-- the items that a dict gives, in a new tuple -/
def Gives (s : Shared) (P : Nat → Value → Prop) (n : Nat) (Q : Value → Shared → Prop) : Prop :=
  ∀ (h' : Heap) (tk : Nat) (acc : Array Value), (∀ b o, s.heap.get? b = some o → h'.get? b = some o) → ItemsOf P acc n → Q (.ref h'.objs.size) { s with heap := h'.push { cls := .type "tuple", data := .seq acc }, toks := tk }
theorem collect_kdl {Q : List Value → Shared → Prop} (k : KdlSrc prog w T r d n P OK) (hh : A.handled = none) (hok : OK s.heap) (hn : n ≤ sizeLine)
    (hQ : ∀ (h' : Heap) (tk : Nat) (acc : Array Value), (∀ b o, s.heap.get? b = some o → h'.get? b = some o) → ItemsOf P acc n → Q acc.toList { s with heap := h', toks := tk }) : wpAny (model prog w) A (collect (.ref r)) Q E s := by
  have lt := k.there _ hok
  unfold collect
  refine wpAny_bind (wpAny_runValue (codeAny_builtin F.entry_proto_collect ?_))
  rw [Around.under_plainId F.plain_proto_collect _]
  show wpAny _ A.in1 (newList [] >>= fun l => again (.builtin "list.__iadd__" ⟨[l, .ref r], []⟩)) _ _ s
  refine wpAny_bind (wpAny_newObj_type ?_)
  refine wpAny_pure ⟨plainId_quiet F.plain_list_iadd _, codeAny_builtin F.entry_list_iadd ?_⟩
  rw [Around.under_plainId F.plain_list_iadd _]
  have hS : (s.heap.push { cls := .type "list", data := .seq ([] : List Value).toArray }).get? s.heap.objs.size = some { cls := .type "list", data := .seq #[] } := Heap.get?_push_size _ rfl
  show wpAny _ A.in1 (Builtin.List.listExtendWith (.ref s.heap.objs.size) (.ref r) (.ref s.heap.objs.size)) _ _ _
  refine wpAny_mono (kdl_extend (A := A) (R := fun rr s' => rr = .ok (.ret (.ref s.heap.objs.size)) ∧ ∃ (h' : Heap) (tk : Nat) (acc : Array Value) (c' : Nat), s' = { s with heap := h', toks := tk } ∧
      (∀ b o, s.heap.get? b = some o → h'.get? b = some o) ∧ h'.get? s.heap.objs.size = some { cls := .type "list", dict := none, data := .seq acc c', slots := #[] } ∧ ItemsOf P acc n)
    (s := { s with heap := s.heap.push { cls := .type "list", data := .seq ([] : List Value).toArray } }) k hh (k.keep _ _ hok fun b _ o e => Heap.get?_push_of_some _ e) s.heap.objs.size (Nat.ne_of_gt lt.1) (Nat.ne_of_gt lt.2) (.ref s.heap.objs.size) _ hS
    (fun h' tk acc c' hk e hi => ⟨rfl, h', tk, acc, c', rfl, fun b o q => hk b o (Nat.ne_of_lt (Heap.lt_size q)) (Heap.get?_push_of_some _ q), e, hi⟩) hn) (fun fin s' h => ?_) (fun e s' h => ?_)
  · cases fin with
    | done f =>
      obtain ⟨e, h', tk, acc, c', rfl, hk, hS', hi⟩ := h
      cases e
      exact wpAny_bind (wpAny_load hS' (wpAny_pure (hQ h' tk acc hk hi)))
    | again c' =>
      refine ⟨h.1, codeAny_mono h.2 fun rr s'' hr' => ?_⟩
      obtain ⟨rfl, h', tk, acc, c', rfl, hk, hS', hi⟩ := hr'
      exact wpAny_bind (wpAny_load hS' (wpAny_pure (hQ h' tk acc hk hi)))
  · exact absurd h.1 (by simp)
theorem code_tuple_kdl {Q₁ : Value → Shared → Prop} (k : KdlSrc prog w T r d n P OK) (hh : A.handled = none) (hok : OK s.heap) (hn : n ≤ sizeLine) (h2 : (Value.type T == Value.type "tuple") = false) (h : Gives s P n Q₁) :
    codeAny (model prog w) A (.call (.builtin "tuple.__new__") ⟨[.type "tuple", .ref r], []⟩) (wants Q₁ E) s := by
  refine codeAny_of_tree ?_
  show wpAny _ A.in1 (do checkBuiltinCall "tuple.__new__" ⟨[.type "tuple", .ref r], []⟩; again (.builtin "tuple.__new__" ⟨[.type "tuple", .ref r], []⟩)) _ _ s
  refine wpAny_bind (wpAny_of_eq (F.newCall_tuple_1 _) (wpAny_pure ⟨plainId_quiet F.plain_tuple_new _, codeAny_builtin F.entry_tuple_new ?_⟩))
  rw [Around.under_plainId F.plain_tuple_new _]
  have a1 := sub_tuple_self
  have a2 := init_tuple_lookup
  have a3 := madeHere_tuple
  have a4 := k.type s hok
  have a5 : A.in1.handled = none := hh
  wp_walk using wpAny_typeOf a4, collect_kdl (A := A.in1) k a5 hok hn
  intro h' tk acc hk hacc
  show wpAny _ _ (Builtin.Tuple.tupleExact acc.toList.toArray >>= fun v => ret v) _ _ _
  unfold Builtin.Tuple.tupleExact
  refine wpAny_bind (wpAny_newObj_type ?_ (by show acc.toList.toArray.size ≤ sizeLine; simp only [Array.toArray_toList]; rw [hacc.1]; exact hn))
  refine wpAny_pure ?_
  have e : acc.toList.toArray = acc := by simp
  rw [e]
  exact h h' tk acc hk hacc
theorem tuple_kdl {Q : Value → Shared → Prop} (k : KdlSrc prog w T r d n P OK) (hh : A.handled = none) (hok : OK s.heap) (hn : n ≤ sizeLine) (h2 : (Value.type T == Value.type "tuple") = false) (h : Gives s P n Q) :
    wpAny (model prog w) A (call (.type "tuple") [.ref r]) Q E s := by
  refine callType_codes (Q₁ := fun obj s₁ => s₁.TypeIs obj "tuple" ∧ Q obj s₁) F.called_tuple (F.typeCall_tuple_1 _) F.entry_object_init
    (code_tuple_kdl (A := A.in1) k hh hok hn h2 fun h' tk acc hk hacc => ⟨⟨_, Heap.get?_push_size _ rfl, rfl⟩, h h' tk acc hk hacc⟩) fun obj s₁ h₁ => ?_
  exact ⟨h₁.1, F.args_object_init_2 obj _, object_init_meets F.called_tuple.init.lookup F.called_tuple.made (by decide) prog w A.in1 _ s₁ ⟨h₁.1, rfl, h₁.2⟩⟩
end
section
variable {X : Cx}
def rTupT : List V → Hp → VK → Prop := fun xs H Q => ∃ d kvs, xs = [V.ref d] ∧ L2.Rd H d (.dT kvs) ∧ ∀ p bs, H p = none → IsKeys H kvs bs → Q (.ref p) (upd H p (.tup (bs.map V.ref)))
theorem call_tuple_dT (hc : X.calm = true) : CallR X (.type "tuple") rTupT := by
  intro pins s σ H xs us Q I r h
  obtain ⟨d, kvs, rfl, hd, q⟩ := h
  obtain ⟨u, rfl, rx⟩ := r.one
  cases rx
  obtain ⟨z, hs, ks, pr, o, es, ep, ho, hx, hdt, he, hn⟩ := (show ObjOk X.prog X.w H s.heap d (.dT kvs) from hd.ok I.hok)
  have l1 : es.size = ks.length := size_of_entries he
  have l2 : kvs.length = ks.length := Paired.length pr
  refine tuple_kdl (kdl_raw hs hx hdt) (I.ok.hd hc) ho (by omega) (by decide) fun h' tk acc' kp it => ?_
  have ea : acc'.toList = ks.map fun x => Value.ref x.2.1 := by
    have hl : acc'.toList.length = ks.length := by rw [Array.length_toList, it.1]; exact l1
    apply List.ext_getElem?
    intro j
    rw [List.getElem?_map]
    cases hj : acc'.toList[j]? with
    | none =>
      have h1 := List.getElem?_eq_none_iff.mp hj
      rw [List.getElem?_eq_none (by omega)]
      all_goals rfl
    | some v =>
      obtain ⟨en, hen, hv⟩ := it.2 j v (by rw [← Array.getElem?_toList]; exact hj)
      have qe := entry_at he j
      rw [hen] at qe
      cases hb : ks[j]? with
      | none =>
        rw [hb] at qe
        exact nomatch (show some en = none from qe)
      | some b =>
        rw [hb] at qe
        have e2 : en = entryOfKey (tupleKind (mixKind X.prog X.w)) b := Option.some.inj qe
        rw [hv, e2]
        all_goals rfl
  have eb : acc'.toList = (ks.map fun x => x.2.1).map Value.ref := by rw [ea, List.map_map]; all_goals rfl
  have rv : Vals ((ks.map fun x => x.2.1).map V.ref) acc'.toList := by rw [eb]; exact vals_refs _
  have hz : ((ks.map fun x => x.2.1).map V.ref).length ≤ sizeLine := by rw [List.length_map, List.length_map]; omega
  have I1 : Inv X pins σ H { s with heap := h' } := I.kept (t' := s.toks) kp
  have I2 : Inv X pins σ (upd H h'.objs.size (.tup ((ks.map fun x => x.2.1).map V.ref))) { s with heap := h'.push { cls := .type "tuple", data := .seq acc' }, toks := tk } :=
    (I1.laid (t' := s.toks) (fun b o e => Heap.get?_push_of_some _ e) (Nat.le_refl _) (show ObjOk X.prog X.w _ _ _ (.tup ((ks.map fun x => x.2.1).map V.ref)) from ⟨hz, acc'.toList, rv, by rw [Array.toArray_toList]; exact IsTup.new _ _⟩)).tok tk
  exact ⟨.ref h'.objs.size, _, I2, rfl, q _ _ (I1.hok.fresh (Nat.le_refl _)) (isKeys_of pr)⟩
/-! ### del d[k] -/
def sDelT (td ty : TE) : TS := fun D σ H => td σ H fun x H1 => ty σ H1 fun y H2 => ∃ (a : Addr) (kvs : List (List L2.Key × V)) (k : List L2.Key) (b : Addr) (v : V), x = .ref a ∧ H2 a = some (.dT kvs) ∧ y = .ref b ∧ H2 b = some (.tup (k.map kV)) ∧ valV kvs k = some v ∧ D.nx σ (upd H2 a (.dT (dropK kvs k)))
theorem d_delT {A : Around} {Ex : Value → Shared → Prop} {pins : List (Addr × Obj)} {σ : L2.St} {H : Hp} {s : Shared} {Q : Unit → Shared → Prop} {a b : Addr} {kvs : List (List L2.Key × V)} {k : List L2.Key} {v : V} (hu : A.units + 1 < cLine) (I : Inv X pins σ H s) (ha : H a = some (.dT kvs)) (hb : H b = some (.tup (k.map kV))) (hv : valV kvs k = some v)
    (h : ∀ s', Inv X pins σ (upd H a (.dT (dropK kvs k))) s' → Q () s') : wpAny (model X.prog X.w) A (delItem (.ref a) (.ref b)) Q Ex s := by
  obtain ⟨z, hd, xs', rel, dd⟩ := dt_of I.hok ha
  have hz : xs'.length ≤ sizeLine := by rw [← Paired.length rel]; exact z
  have r := rel.val k
  rw [hv] at r
  cases hp : atKey xs' k with
  | none =>
    rw [hp] at r
    exact (show False from r).elim
  | some p =>
    refine wpAny_delItem_heap (knd := tupleKind (mixKind X.prog X.w)) (tupleKind_room_in1 hu) (key_of I.hok hb) hd dd hp (fun h' dd' hs => h _ ?_) hz
    obtain ⟨o, es, ep, hq, h2, h3, h4, _, h5⟩ := dd'
    have kd : KT H (dropK kvs k) (withoutH xs' k) := L2.DX.KT_drop k rel
    exact d_write I (by rw [ha]; exact True.intro) hs ⟨o, hq⟩ ⟨Nat.le_trans (dropK_le kvs k) z, hd, _, kd.keeps (fun c ys ec => (by rw [upd_ne (ne_of ec ha (fun z => nomatch z))]; exact ec)), o, es, ep, hq, h2, h3, h4, h5⟩
theorem ps_ddelT {o i : Expr} {td ty : TE} {tpos pos : Pos} (hu : X.A.units + 1 < cLine) (ho : PE X o td) (hi : PE X i ty) : PS X (.Delete [.Subscript o i tpos] pos) (sDelT td ty) := by
  refine ⟨fun pins s σ H D I h => ?_⟩
  refine wpAny_Delete (wpAny_deleteEach_cons (wpAny_delete_Subscript (thn (ho.run pins s σ H _ I h) fun u s1 ⟨x, H1, I1, rx, q1⟩ => thn (hi.run pins s1 σ H1 _ I1 q1) fun iv s2 ⟨y, H2, I2, ry, a, kvs, k, b, v, ex, e, ey, eb, l, q2⟩ => ?_)))
  subst ex ey
  obtain rfl : u = Value.ref a := rx
  obtain rfl : iv = Value.ref b := ry
  exact d_delT hu I2 e eb l fun s3 I3 => wpAny_deleteEach_nil ⟨σ, _, I3, q2⟩
end
/-! ### calls within a try: what is raised is wished for at the slots as they stand -/
def tMeS (C : Addr) (ns : List Str) (sp : Sp) (E : L2.St → XK) (ta : TE) (t : TA) : TE := fun σ H Q => ta σ H fun x H1 => ∃ p, x = .ref p ∧ IsI H1 C p ns ∧ t σ H1 fun vs H2 => sp (x :: vs) H2 Q (E σ)
def tCaS (i : Nat) (f : Addr) (sp : Sp) (E : L2.St → XK) (t : TA) : TE := fun σ H Q => σ[i]? = some (some (.ref f)) ∧ t σ H fun vs H1 => sp vs H1 Q (E σ)
section
variable {X : Cx} {k j i : Nat} {C f : Addr} {fd : FuncData} {ps : List Str} {m x : Str} {sp : Sp} {apos pos p : Pos} {o e : Expr} {es : List Expr} {ta : TE} {t : TA} {CX : CXT} {E : L2.St → XK} {pl : Sem Bool}
theorem pe_mS (ns : List Str) (c : CalM X.prog X.w X.K X.mg X.base CX k C m sp) (cl : Cls X.K C) (hno : ns.contains m = false) (hr : Room j X.A) (hk : k ≤ j) (hx : ∀ σ, PassesAt CX X σ (E σ)) (he : PE X o ta) (ha : PA X (e :: es) t)
    (hst : starEach (e :: es) X.env = (false, eval e X.env) :: starEach es X.env := by rfl) (hpl : (backTo pos (starEach es X.env)).any (·.1) = false := by rfl)
    (ht : eval (.Call (.Attribute o m apos) (e :: es) [] pos) X.env = (do
      let ov ← eval o X.env
      standAt apos.atName
      let (f, first) ← holding [ov] (getMethod ov m pl)
      callWith pos f first (backTo pos (starEach (e :: es) X.env)) (backToKw pos (keywordEach [] X.env))) := by rfl) :
    PE X (.Call (.Attribute o m apos) (e :: es) [] pos) (tMeS C ns sp E ta t) := by
  obtain ⟨f, fd, ps, F, hm, b⟩ := c.ex
  refine ⟨fun pins s σ H Q I h => ?_⟩
  refine PySem.W.methodCall_KW (pl := pl) (thn (he.run pins s σ H _ I h) fun u s1 ⟨x, H1, I1, rx, a, ex, ⟨dx, fs, hp, hn⟩, q⟩ => ?_) ht
  subst ex
  obtain rfl : u = Value.ref a := rx
  refine getmeth_ok I1 hp cl hm (lookup_no hn hno) ?_
  refine PySem.W.callWith_K (first := [.ref a]) (h₀ := X.base) I.ok.mod.kin hm.kp (thn (ha.run pos pins s1 σ H1 _ I1 q) fun us s2 ⟨vs, H2, I2, r, q2⟩ => ⟨I2.kIn, ?_⟩) hst hpl
  exact run_fnS (us := .ref a :: us) (vs := .ref a :: vs) F (hr.mono hk) b (hx σ) I2 (.cons rfl r) q2
theorem pe_mS0 (ns : List Str) (c : CalM X.prog X.w X.K X.mg X.base CX k C m sp) (cl : Cls X.K C) (hno : ns.contains m = false) (hr : Room j X.A) (hk : k ≤ j) (hx : ∀ σ, PassesAt CX X σ (E σ)) (he : PE X o ta)
    (ht : eval (.Call (.Attribute o m apos) [] [] pos) X.env = (do
      let ov ← eval o X.env
      standAt apos.atName
      let (f, first) ← holding [ov] (getMethod ov m pl)
      callWith pos f first (backTo pos (starEach [] X.env)) (backToKw pos (keywordEach [] X.env))) := by rfl) :
    PE X (.Call (.Attribute o m apos) [] [] pos) (tMeS C ns sp E ta tNil) := by
  obtain ⟨f, fd, ps, F, hm, b⟩ := c.ex
  refine ⟨fun pins s σ H Q I h => ?_⟩
  refine PySem.W.methodCall_KW (pl := pl) (thn (he.run pins s σ H _ I h) fun u s1 ⟨x, H1, I1, rx, a, ex, ⟨dx, fs, hp, hn⟩, q⟩ => ?_) ht
  subst ex
  obtain rfl : u = Value.ref a := rx
  refine getmeth_ok I1 hp cl hm (lookup_no hn hno) ?_
  exact PySem.W.callWith_K0 (first := [.ref a]) I1.kIn hm.kp (run_fnS (us := [.ref a]) (vs := [.ref a]) F (hr.mono hk) b (hx σ) I1 (.cons rfl .nil) q)
theorem pe_caS (F : FnOk X.prog X.w X.K X.mg X.base CX k f fd ps sp) (hr : Room j X.A) (hkj : k ≤ j) (hN : X.N[i]? = some x) (hv : Vis X.env.scope x) (hk : PySem.W.keepIn X.K (.ref f) = true) (hb : Binds X.K fd ps []) (hx : ∀ σ, PassesAt CX X σ (E σ)) (ha : PA X (e :: es) t)
    (hdb : (x == ("__debug__" : Str)) = false := by decide) (hcd : (x == ("__classdict__" : Str)) = false := by decide)
    (he : starEach (e :: es) X.env = (false, eval e X.env) :: starEach es X.env := by rfl) (hpl : (backTo pos (starEach es X.env)).any (·.1) = false := by rfl) : PE X (.Call (.Name x p) (e :: es) [] pos) (tCaS i f sp E t) := by
  refine ⟨fun pins s σ H Q I h => ?_⟩
  obtain ⟨hs, ht⟩ := h
  refine wpAny_Call_Name_kw (thn ((pe_var (pos := p) hN hv hdb hcd).run pins s σ H (fun v H1 => v = .ref f ∧ H1 = H) I ⟨.ref f, hs, rfl, rfl⟩) fun u s1 ⟨v, H1, I1, r1, q1⟩ => ?_)
  obtain ⟨rfl, rfl⟩ := q1
  cases r1
  refine PySem.W.callWith_K (h₀ := X.base) I.ok.mod.kin hk (thn (ha.run pos pins s1 σ _ _ I1 ht) fun us s2 ⟨vs, H2, I2, r, q⟩ => ⟨I2.kIn, ?_⟩) he hpl
  exact run_fnS F (hr.mono hkj) hb (hx σ) I2 r q
end
/-! ### try .. finally -/
/-- the body's reading with what is wished of its errors; then the suite, either way -/
def tFi (tb : WX → TS) (tf tfs : TS) (Wout : WX) : TS := fun D σ H => tb (wFin tfs Wout) { nx := fun σ1 H1 => tf D σ1 H1, rt := fun _ _ => False } σ H
section
variable {X : Cx} {body : List Stmt} {f₀ : Stmt} {fs : List Stmt} {pos : Pos} {tb : WX → TS} {tf tfs : TS} {Wout : WX}
theorem ps_fi (hs : X.stack = X.env :: X.outer) (hf : X.env.frame = some X.env.locals) (hex : X.ex = []) (tk : Takes X Wout)
    (hb : ∀ (W : WX) (pn : List (Addr × Obj)) (xe : Value → Shared → Prop), Takes (X.tr pn xe) W → PassesOwn (model X.prog X.w) X.A X.env xe → PSs (X.tr pn xe) body (tb W))
    (hfin : PSs X.nox (f₀ :: fs) tf) (hsu : ∀ (a : Addr) (pn : List (Addr × Obj)), PSs (X.suite a pn) (f₀ :: fs) tfs) : PS X (.Try body [] [] (f₀ :: fs) pos) (tFi tb tf tfs Wout) := by
  refine ⟨fun pins s σ H D I h => ?_⟩
  have ok := I.ok
  let xe : Value → Shared → Prop := fun x s₁ => wpAny (model X.prog X.w) X.A (noteFrame x X.env) (fun _ s₂ => FinallyRaised X.prog X.w X.A X.xe X.env (f₀ :: fs) (SP X pins D) x s₂) (FinallyRaised X.prog X.w X.A X.xe X.env (f₀ :: fs) (SP X pins D)) s₁
  have takes : Takes (X.tr (X.pn ++ pins) xe) (wFin tfs Wout) := fun u s' xx => fin_exc hs hf hex ok tk hsu xx
  have run := (hb (wFin tfs Wout) (X.pn ++ pins) xe takes PassesOwn.looking).run [] s σ H { nx := fun σ1 H1 => tf D σ1 H1, rt := fun _ _ => False } (I.toTry _) h
  refine wpAny_Try_finally (wpAny_mono run (fun g s1 z => ?_) fun x s1 hx => hx)
  cases g with
  | ret u =>
    obtain ⟨_, _, _, _, _, q⟩ := z
    exact q.elim
  | brk =>
    obtain ⟨_, _, _, q⟩ := z
    exact False.elim q
  | cont =>
    obtain ⟨_, _, _, q⟩ := z
    exact False.elim q
  | next =>
    obtain ⟨σ1, H1, J1, q1⟩ := z
    refine wpAny_execs_nil (wpAny_mono (hfin.run pins s1 σ1 H1 D ((J1.ofTry ok).wish _) q1) (fun g2 s2 q2 => ?_) fun _ _ e => False.elim e)
    have q3 : SP X pins D g2 s2 := q2.unwish
    cases g2 <;> exact q3
end
end Sn

namespace Sn
open PySem PySem.Spec PyProof.Rows L2 TL
/-! ### the text -/
def topS (i : Nat) : Stmt := PySem.Challenge.pw_samenames_k22_circles_are_told.main.body.getD i (.Pass ⟨0, 0, 0, 0⟩)
/-- the built-in names that stand as they are -/
structure Nm (mg : Str → Option Value) : Prop where
  abs : mg "abs" = none
  int_ : mg "int" = none
  len : mg "len" = none
  range : mg "range" = none
  isinstance : mg "isinstance" = none
  bool_ : mg "bool" = none
  str_ : mg "str" = none
  tuple_ : mg "tuple" = none
  list_ : mg "list" = none
section
variable {P : Program} {w : World} {K : PySem.W.Frag} {mg : Str → Option Value} {base : Heap} {f : Addr} {fd : FuncData}
abbrev s_tape : Stmt := topS 9
abbrev N_tape : List Str := ["script", "cell", "cells", "seed"]
theorem sc_tape : FnScope N_tape ["script"] (defScope s_tape) := ⟨rfl, rfl, rfl, by decide +kernel, rfl, by decide +kernel, by decide +kernel⟩
theorem nonneg_abs (i : Int) : 0 ≤ (if i < 0 then -i else i) := by
  split <;> omega
theorem ok_tape (F : Fun K "_law_tape" "_law_tape" s_tape f fd) (T : Nm mg) : FnOk P w K mg base CX0 1 f fd ["script"] (spTape K) := by
  refine F.ok sc_tape (fun vs H Q E h => ?_) (fun cdv A outer s H vs Q E hr h => ?_)
  · obtain ⟨a, ns, rfl, _⟩ := h
    rfl
  obtain ⟨a, ns, rfl, hS, hl, q⟩ := h
  refine ⟨_, (pss_cons (ps_setLc (i := 2) (own := [(("cell" : Str), 1)]) (g := (gName 1)) (tt := tYes) (by rfl) sc_tape.nd rfl rfl (sw_true rfl rfl rfl (by decide +kernel)) (pi_list (pv 0)) (blkOk_by (N := N_tape) (sc := defScope s_tape) (by decide +kernel)) (fun _ _ _ _ _ => (pg_name (i := 1) sc_tape.nd rfl (Or.inl rfl))) (fun _ _ _ _ _ => pts_nil) (fun _ _ _ _ _ => (pe_callB call_abs (by rfl) T.abs (by decide +kernel) (pa_cons (pe_callTy call_int1 (by rfl) T.int_ (by decide +kernel) (pa_cons (pv 1) pa_nil)) pa_nil))))
    (pss_cons (ps_set (i := 3) sc_tape.nd rfl (Or.inl rfl) pe_int)
    (pss_cons (ps_for PassesOwn.never rfl (pi_list (pv 2)) (pg_name (i := 1) sc_tape.nd rfl (Or.inl rfl)) (pss_one (ps_set (i := 3) sc_tape.nd rfl (Or.inl rfl) (pe_op op_mod (pe_callTy call_int1 (by rfl) T.int_ (by decide +kernel) (pa_cons (pe_op op_add (pe_op op_mul (pv 3) pe_int) (pv 1)) pa_nil)) pe_int))))
    (pss_one (ps_ret (pe_disp (pps_cons pe_str (pv 2) (pps_cons pe_str pe_int (pps_cons pe_str pe_int (pps_cons pe_str (pv 3) (pps_cons pe_str pe_int pps_nil))))) (by rfl) (by rfl) (fun z => by cases z) (by decide))))))), ?_⟩
  -- cells
  refine ⟨_, rfl, a, rfl, ⟨_, hS⟩, fun D hD => ?_⟩
  have s1 : Same H (upd H D (.lst [])) := same_new hD
  refine lc_list (K := K) (a := a) (xs := ns.map V.int) (fun i H' => Same H H' ∧ ∃ cs : List Int, H' D = some (.lst (cs.map V.int)) ∧ cs.length = i ∧ ∀ x ∈ cs, 0 ≤ x)
    ⟨s1, [], upd_same, rfl, fun _ h => nomatch h⟩ (fun i H' _ h => h.1.seq hS) ?_ ?_
  · rintro i x H' hi ⟨sm, cs, hd, hc, hp⟩
    obtain ⟨u, rfl⟩ : ∃ u, x = V.int u := by
      rw [List.getElem?_map] at hi
      cases e : ns[i]? with
      | none => rw [e] at hi; cases hi
      | some u => rw [e] at hi; exact ⟨u, (Option.some.inj hi).symm⟩
    have hi2 : i < ns.length := by
      have z := (List.getElem?_eq_some_iff.mp hi).1
      rwa [List.length_map] at z
    refine ⟨rfl, ?_⟩
    refine ⟨_, rfl, .inl ⟨_, rfl, _, rfl, cs.map V.int, hd, ?_, ?_⟩⟩
    · rw [List.length_map]; exact Nat.lt_of_lt_of_le (show cs.length < 1000 by omega) (by decide)
    · refine ⟨fun b o e => ?_, cs ++ [if u < 0 then -u else u], ?_, by simp [hc], fun y hy => ?_⟩
      · rw [upd_ne (ne_of_none e hD)]; exact sm _ _ e
      · rw [upd_same, List.map_append] <;> rfl
      · rcases List.mem_append.mp hy with hy | hy
        · exact hp y hy
        · rw [List.mem_singleton.mp hy]; exact nonneg_abs u
  · rintro H1 ⟨sm, cs, hd, hc, hp⟩
    -- seed
    refine ⟨_, rfl, D, rfl, ⟨_, .inl (.inl hd)⟩, for_list (K := K) (a := D) (xs := cs.map V.int) (fun i σ H' => ∃ (v : Option V) (se : Int), σ = [some (.ref a), v, some (.ref D), some (.int se)] ∧ H' = H1 ∧ 0 ≤ se ∧ se < 2147483647)
      ⟨none, 7, rfl, rfl, by decide, by decide⟩ (fun i σ H' _ ⟨_, _, _, e, _⟩ => by rw [e]; exact .inl (.inl hd)) ?_ ?_⟩
    · rintro i x σ H' hi ⟨v, se, rfl, rfl, h0, h1⟩
      obtain ⟨u, rfl⟩ : ∃ u, x = V.int u := by
        rw [List.getElem?_map] at hi
        cases e : cs[i]? with
        | none => rw [e] at hi; cases hi
        | some u => rw [e] at hi; exact ⟨u, (Option.some.inj hi).symm⟩
      refine ⟨_, rfl, _, _, rfl, rfl, .inr ⟨by decide, by decide⟩, _, rfl, _, _, rfl, rfl, .inl ⟨_, rfl, _, _, rfl, rfl, (by show (0 : Int) < 2147483647; decide), ?_⟩⟩
      exact ⟨_, _, rfl, rfl, Int.emod_nonneg _ (by decide), Int.emod_lt_of_pos _ (by decide)⟩
    · rintro σ H' ⟨v, se, rfl, rfl, h0, h1⟩
      -- the dict
      intro t ht
      have hDt : D ≠ t := ne_of_none hd ht
      refine ⟨_, rfl, ?_⟩
      refine ⟨_, rfl, ?_⟩
      refine ⟨upd_same, tk D 0 0 se 0, rfl, (by show 5 ≤ 15; decide), ?_⟩
      rw [upd_upd]
      have e : mergeK [] (tk D 0 0 se 0) = tk D 0 0 se 0 := by kernel_rfl
      rw [e]
      exact q t D _ (fun b o z => by rw [upd_ne (ne_of_none (sm _ _ z) ht)]; exact sm _ _ z) (sm.free ht) hD
        ⟨cs, 0, 0, se, 0, upd_same, by rw [upd_ne hDt]; exact hd, hp, by decide, by decide, h0, h1⟩

abbrev s_take : Stmt := topS 10
abbrev N_take : List Str := ["tape", "many", "drawn", "mixed"]
theorem sc_take : FnScope N_take ["tape", "many"] (defScope s_take) := ⟨rfl, rfl, rfl, by decide +kernel, rfl, by decide +kernel, by decide +kernel⟩
theorem ok_take (F : Fun K "_law_take" "_law_take" s_take f fd) (T : Nm mg) : FnOk P w K mg base CX0 1 f fd ["tape", "many"] spTake := by
  refine F.ok sc_take (fun vs H Q E h => ?_) (fun cdv A outer s H vs Q E hr h => ?_)
  · obtain ⟨t, c, n, rfl, _⟩ := h
    rfl
  obtain ⟨t, c, n, rfl, ⟨cs, a, l, se, sa, z⟩, hn, hn2, q⟩ := h
  refine ⟨_, (C8.pss_cut (ps_if (PW.pt (pw_and (pt_cmpR op_eq (pe_dget (hu_of hr) (pv 0) pe_str (fun _ _ => rfl)) pe_int (nomark _)) (pw_and1 (pt_cmpR op_lt (pe_dget (hu_of hr) (pv 0) pe_str (fun _ _ => rfl)) (pe_callB call_len_seq (by rfl) T.len PySem.boot_len (pa_cons (pe_dget (hu_of hr) (pv 0) pe_str (fun _ _ => rfl)) pa_nil)) (nomark _))))) (pss_cons (ps_dput (hu_of hr) (pv 0) pe_str (pe_ix (r := rIxL K) ix_list (pe_dget (hu_of hr) (pv 0) pe_str (fun _ _ => rfl)) (pe_dget (hu_of hr) (pv 0) pe_str (fun _ _ => rfl)) (fun _ _ => rfl)) rfl)
    (pss_one (ps_dput (hu_of hr) (pv 0) pe_str (pe_op op_add (pe_dget (hu_of hr) (pv 0) pe_str (fun _ _ => rfl)) pe_int) rfl))) pss_nil)
    (pss_cons (ps_if (pt_cmpR op_gt (pe_dget (hu_of hr) (pv 0) pe_str (fun _ _ => rfl)) pe_int (nomark _)) (pss_cons (ps_set (i := 2) sc_take.nd rfl (Or.inl rfl) (pe_op op_mod (pe_callTy call_int1 (by rfl) T.int_ (by decide +kernel) (pa_cons (pe_dget (hu_of hr) (pv 0) pe_str (fun _ _ => rfl)) pa_nil)) (pv 1)))
    (pss_cons (ps_dput (hu_of hr) (pv 0) pe_str (pe_op op_fdiv (pe_dget (hu_of hr) (pv 0) pe_str (fun _ _ => rfl)) (pv 1)) rfl)
    (pss_one (ps_ret (pv 2))))) pss_nil)
    (pss_cons (ps_dput (hu_of hr) (pv 0) pe_str (pe_op op_add (pe_dget (hu_of hr) (pv 0) pe_str (fun _ _ => rfl)) pe_int) rfl)
    (pss_cons (ps_set (i := 3) sc_take.nd rfl (Or.inl rfl) (pe_op op_mod (pe_callTy call_int1 (by rfl) T.int_ (by decide +kernel) (pa_cons (pe_op op_add (pe_op op_mul (pe_dget (hu_of hr) (pv 0) pe_str (fun _ _ => rfl)) pe_int) (pe_op op_mul (pe_dget (hu_of hr) (pv 0) pe_str (fun _ _ => rfl)) pe_int)) pa_nil)) pe_int))
    (pss_cons (ps_set (i := 3) sc_take.nd rfl (Or.inl rfl) (pe_op op_mod (pe_callTy call_int1 (by rfl) T.int_ (by decide +kernel) (pa_cons (pe_op op_add (pe_op op_add (pe_op op_mul (pv 3) (pv 3)) (pe_op op_mul (pe_dget (hu_of hr) (pv 0) pe_str (fun _ _ => rfl)) pe_int)) pe_int) pa_nil)) pe_int))
    (pss_one (ps_ret (pe_op op_mod (pe_callTy call_int1 (by rfl) T.int_ (by decide +kernel) (pa_cons (pv 3) pa_nil)) (pv 1))))))))), ?_⟩
  -- if tape['left'] == 0 and tape['at'] < len(tape['cells'])
  refine ⟨fun σ H' => σ = L2.start N_take [.ref t, .int n] ∧ ∃ a l, But t H H' ∧ TkAt H' t c cs a l se sa, ?_, ?_⟩
  · refine ⟨_, rfl, t, _, rfl, z.dg g_left, rfl, _, rfl, ?_⟩
    refine ite2 (fun _ => ?_) (fun _ => iteF ⟨rfl, a, l, But.refl t H, z⟩)
    refine ⟨_, rfl, t, _, rfl, z.dg g_at, _, rfl, t, _, rfl, z.dg g_cells, c, _, rfl, .inl (.inl (.inl z.cl)), _, _, rfl, rfl, _, rfl, ?_⟩
    refine ite2 (fun ha => ?_) (fun _ => ⟨rfl, a, l, But.refl t H, z⟩)
    have ha : a < ((cs.map V.int).length : Int) := of_decide_eq_true ha
    rw [List.length_map] at ha
    have hj : a.toNat < cs.length := by have := z.a0; omega
    have ea : a = (a.toNat : Int) := by have := z.a0; omega
    have g1 : (cs.map V.int)[a.toNat]? = some (.int cs[a.toNat]) := by
      rw [List.getElem?_map, List.getElem?_eq_getElem hj] <;> rfl
    refine ⟨_, rfl, t, _, rfl, z.dg g_cells, _, rfl, t, _, rfl, z.dg g_at, c, _, _, _, rfl, rfl, .inl (.inl z.cl), at_of ea g1, _, rfl, t, _, rfl, z.pLeft, ?_⟩
    have z1 := z.sLeft (v := cs[a.toNat]) (z.cp _ (List.getElem_mem hj))
    refine ⟨_, rfl, t, _, rfl, z1.dg g_at, _, _, rfl, rfl, _, rfl, t, _, rfl, z1.pAt, ?_⟩
    exact ⟨rfl, _, _, ((But.refl t H).upd).upd, z1.sAt (by have := z.a0; omega)⟩
  rintro σ H1 ⟨rfl, a, l, bt, z⟩
  -- if tape['left'] > 0
  refine ⟨_, rfl, t, _, rfl, z.dg g_left, _, _, rfl, rfl, _, rfl, ?_⟩
  refine ite2 (fun hl => ?_) (fun _ => ?_)
  · have hl : 0 < l := of_decide_eq_true hl
    refine ⟨_, rfl, t, _, rfl, z.dg g_left, .inl ⟨_, rfl, _, rfl, _, _, rfl, rfl, hn, ?_⟩⟩
    refine ⟨_, rfl, t, _, rfl, z.dg g_left, _, rfl, _, _, rfl, rfl, ⟨hn, hn2⟩, _, rfl, t, _, rfl, z.pLeft, ?_⟩
    refine ⟨_, rfl, ?_⟩
    exact q _ _ (Int.emod_nonneg _ (by omega)) (Int.emod_lt_of_pos _ hn) bt.upd ⟨cs, a, _, se, sa, z.sLeft (Int.ediv_nonneg z.l0 (by omega))⟩
  · refine ⟨_, rfl, t, _, rfl, z.dg g_salt, _, _, rfl, rfl, _, rfl, t, _, rfl, z.pSalt, ?_⟩
    have z1 := z.sSalt (v := sa + 1)
    have b1 : But t H (upd H1 t (.dK (tk c a l se (sa + 1)))) := bt.upd
    generalize upd H1 t (.dK (tk c a l se (sa + 1))) = H2 at z1 b1 ⊢
    refine ⟨_, rfl, t, _, rfl, z1.dg g_seed, _, _, rfl, rfl, .inr ⟨by decide, by decide⟩, _, rfl, t, _, rfl, z1.dg g_salt, _, _, rfl, rfl, .inr ⟨by decide, by decide⟩, _, _, rfl, rfl, .inl ⟨_, rfl, _, _, rfl, rfl, (by show (0 : Int) < 2147483647; decide), ?_⟩⟩
    have hm := Int.emod_lt_of_pos (se * 48271 + (sa + 1) * 69621) (show (0 : Int) < 2147483647 by decide)
    have hm0 := Int.emod_nonneg (se * 48271 + (sa + 1) * 69621) (show (2147483647 : Int) ≠ 0 by decide)
    generalize (se * 48271 + (sa + 1) * 69621) % 2147483647 = mx at hm hm0 ⊢
    refine ⟨_, rfl, _, rfl, _, _, rfl, rfl, .inl ⟨by omega, by omega⟩, _, rfl, t, _, rfl, z1.dg g_salt, _, _, rfl, rfl, .inr ⟨by decide, by decide⟩, _, _, rfl, rfl, _, _, rfl, rfl, .inl ⟨_, rfl, _, _, rfl, rfl, (by show (0 : Int) < 2147483399; decide), ?_⟩⟩
    refine ⟨_, rfl, .inl ⟨_, rfl, _, rfl, _, _, rfl, rfl, hn, ?_⟩⟩
    exact q _ _ (Int.emod_nonneg _ (by omega)) (Int.emod_lt_of_pos _ hn) b1 ⟨cs, a, l, se, _, z1⟩

abbrev s_isInt : Stmt := topS 11
abbrev N_isInt : List Str := ["actual"]
theorem sc_isInt : FnScope N_isInt ["actual"] (defScope s_isInt) := ⟨rfl, rfl, rfl, by decide +kernel, rfl, by decide +kernel, by decide +kernel⟩
theorem ok_isInt (F : Fun K "_law_is_integer" "_law_is_integer" s_isInt f fd) (T : Nm mg) : FnOk P w K mg base CX0 1 f fd ["actual"] spIsInt := by
  refine F.ok sc_isInt (fun vs H Q E h => ?_) (fun cdv A outer s H vs Q E hr h => ?_)
  · obtain ⟨i, rfl, _⟩ := h
    rfl
  obtain ⟨i, rfl, q⟩ := h
  refine ⟨_, (pss_one (ps_ret (pe_and (pe_callB call_isi (by rfl) T.isinstance (by decide +kernel) (pa_cons (pv 0) (pa_cons (pe_bltn (v := .ty "int") (u := .type "int") (by rfl) T.int_ (by decide +kernel) rfl) pa_nil))) (pe_one (pe_not (pe_callB call_isi (by rfl) T.isinstance (by decide +kernel) (pa_cons (pv 0) (pa_cons (pe_bltn (v := .ty "bool") (u := .type "bool") (by rfl) T.bool_ (by decide +kernel) rfl) pa_nil)))))))), ?_⟩
  refine ⟨_, rfl, _, _, _, _, true, rfl, .ty _, .base (.int _), kit_ty (by decide +kernel), _, rfl, ?_⟩
  refine ⟨_, rfl, _, _, _, _, false, rfl, .ty _, .base (.int _), kit_ty (by decide +kernel), _, rfl, q⟩

abbrev s_sameItems : Stmt := topS 12
abbrev N_sameItems : List Str := ["actual", "expected", "k"]
theorem sc_sameItems : FnScope N_sameItems ["actual", "expected"] (defScope s_sameItems) := ⟨rfl, rfl, rfl, by decide +kernel, rfl, by decide +kernel, by decide +kernel⟩
theorem ok_items {n : Nat} (F : Fun K "_law_same_items" "_law_same_items" s_sameItems f fd) (T : Nm mg) (C_law_same : Cal P w K mg base CX0 (2 * n) "_law_same" (spSame n)) : FnOk P w K mg base CX0 (2 * n + 1) f fd ["actual", "expected"] (spItems n) := by
  refine F.ok sc_sameItems (fun vs H Q E h => ?_) (fun cdv A outer s H vs Q E hr h => ?_)
  · obtain ⟨a, b, xs, ys, rfl, _⟩ := h
    rfl
  obtain ⟨a, b, xs, ys, rfl, hs, hl, hm, al, q⟩ := h
  have sa : SqL K H a xs ∨ SqT K H a xs := hs.elim (fun h => .inr (.inl (.inl h.1))) fun h => .inl (.inl (.inl h.1))
  have sb : SqL K H b ys ∨ SqT K H b ys := hs.elim (fun h => .inr (.inl (.inl h.2))) fun h => .inl (.inl (.inl h.2))
  refine ⟨_, (pss_cons (ps_if (pt_cmpR op_ne (pe_callB call_len_seq (by rfl) T.len PySem.boot_len (pa_cons (pv 0) pa_nil)) (pe_callB call_len_seq (by rfl) T.len PySem.boot_len (pa_cons (pv 1) pa_nil)) (nomark _)) (pss_one (ps_ret pe_bl)) pss_nil)
    (pss_cons (ps_for PassesOwn.never rfl (pi_range1 (by rfl) T.range (pa_cons (pe_callB call_len_seq (by rfl) T.len PySem.boot_len (pa_cons (pv 1) pa_nil)) pa_nil)) (pg_name (i := 2) sc_sameItems.nd rfl (Or.inl rfl)) (pss_one (ps_if (pt_not (pt_val (pe_c C_law_same hr (by first | decide | omega) pass0 (pa_cons (pe_ix (r := rIx K) ix_seq (pv 0) (pv 2) (fun _ _ => rfl)) (pa_cons (pe_ix (r := rIx K) ix_seq (pv 1) (pv 2) (fun _ _ => rfl)) pa_nil))))) (pss_one (ps_ret pe_bl)) pss_nil)))
    (pss_one (ps_ret pe_bl)))), ?_⟩
  refine ⟨_, rfl, a, xs, rfl, sa, _, rfl, b, ys, rfl, sb, rfl, _, rfl, ?_⟩
  refine iteNS (by rw [hl]) ?_
  refine ⟨_, rfl, b, ys, rfl, sb, _, rfl, by omega, by omega, for_range (lo := 0) (n := ((ys.length : Nat) : Int).toNat) (fun i σ H' => H' = H ∧ ∃ v, σ = [some (.ref a), some (.ref b), v]) ⟨rfl, none, rfl⟩ ?_ ?_⟩
  · rintro i σ H' hi ⟨rfl, v, rfl⟩
    have hi1 : i < ys.length := by omega
    have hi2 : i < xs.length := by omega
    have ei : ((0 : Int) + (i : Nat)) = ((i : Nat) : Int) := Int.zero_add _
    have g1 := List.getElem?_eq_getElem hi2
    have g2 := List.getElem?_eq_getElem hi1
    refine ⟨_, rfl, _, rfl, ?_⟩
    have r1 : ∀ {Q' : VK}, Q' xs[i] H' → rIx K (.ref a) (.int (0 + (i : Nat))) H' Q' := fun {Q'} h => sa.elim (fun s => .inl ⟨a, xs, _, _, rfl, rfl, s, at_of ei g1, h⟩) fun s => .inr (.inl ⟨a, xs, _, _, rfl, rfl, s, at_of ei g1, h⟩)
    have r2 : ∀ {Q' : VK}, Q' ys[i] H' → rIx K (.ref b) (.int (0 + (i : Nat))) H' Q' := fun {Q'} h => sb.elim (fun s => .inl ⟨b, ys, _, _, rfl, rfl, s, at_of ei g2, h⟩) fun s => .inr (.inl ⟨b, ys, _, _, rfl, rfl, s, at_of ei g2, h⟩)
    refine r1 ⟨_, rfl, _, rfl, r2 ?_⟩
    refine ⟨_, _, rfl, al i _ _ g1 g2, _, rfl, ?_⟩
    exact ⟨rfl, _, rfl⟩
  · rintro σ H' ⟨rfl, v, rfl⟩
    exact q

abbrev s_same : Stmt := topS 13
abbrev N_same : List Str := ["actual", "expected", "key"]
theorem sc_same : FnScope N_same ["actual", "expected"] (defScope s_same) := ⟨rfl, rfl, rfl, by decide +kernel, rfl, by decide +kernel, by decide +kernel⟩
theorem ok_same {n : Nat} (F : Fun K "_law_same" "_law_same" s_same f fd) (T : Nm mg) (C_law_is_integer : Cal P w K mg base CX0 1 "_law_is_integer" spIsInt) (C_law_same_items : Cal P w K mg base CX0 (2 * n + 1) "_law_same_items" (spItems n)) :
    FnOk P w K mg base CX0 (2 * n + 2) f fd ["actual", "expected"] (spSame (n + 1)) := by
  refine F.ok sc_same (fun vs H Q E h => ?_) (fun cdv A outer s H vs Q E hr h => ?_)
  · obtain ⟨x, y, rfl, _⟩ := h
    rfl
  obtain ⟨x, y, rfl, al, q⟩ := h
  refine ⟨_, (pss_cons (ps_if (pt_cmpR op_isN (pv 1) pe_non (nomark _)) (pss_one (ps_ret (pe_cmpR op_isN (pv 0) pe_non (nomark _)))) pss_nil)
    (pss_cons (ps_if (pt_val (pe_callB call_isi (by rfl) T.isinstance (by decide +kernel) (pa_cons (pv 1) (pa_cons (pe_bltn (v := .ty "bool") (u := .type "bool") (by rfl) T.bool_ (by decide +kernel) rfl) pa_nil)))) (pss_one (ps_ret (pe_and (pe_callB call_isi (by rfl) T.isinstance (by decide +kernel) (pa_cons (pv 0) (pa_cons (pe_bltn (v := .ty "bool") (u := .type "bool") (by rfl) T.bool_ (by decide +kernel) rfl) pa_nil))) (pe_one (pe_cmpR op_eq (pv 0) (pv 1) (nomark _)))))) pss_nil)
    (pss_cons (ps_if (pt_val (pe_callB call_isi (by rfl) T.isinstance (by decide +kernel) (pa_cons (pv 1) (pa_cons (pe_bltn (v := .ty "int") (u := .type "int") (by rfl) T.int_ (by decide +kernel) rfl) pa_nil)))) (pss_one (ps_ret (pe_and (pe_c C_law_is_integer hr (by first | decide | omega) pass0 (pa_cons (pv 0) pa_nil)) (pe_one (pe_cmpR op_eq (pv 0) (pv 1) (nomark _)))))) pss_nil)
    (pss_cons (ps_if (pt_val (pe_callB call_isi (by rfl) T.isinstance (by decide +kernel) (pa_cons (pv 1) (pa_cons (pe_bltn (v := .ty "str") (u := .type "str") (by rfl) T.str_ (by decide +kernel) rfl) pa_nil)))) (pss_one (ps_ret (pe_and (pe_callB call_isi (by rfl) T.isinstance (by decide +kernel) (pa_cons (pv 0) (pa_cons (pe_bltn (v := .ty "str") (u := .type "str") (by rfl) T.str_ (by decide +kernel) rfl) pa_nil))) (pe_one (pe_cmpR op_eq (pv 0) (pv 1) (nomark _)))))) pss_nil)
    (pss_cons (ps_if (pt_val (pe_callB call_isi (by rfl) T.isinstance (by decide +kernel) (pa_cons (pv 1) (pa_cons (pe_bltn (v := .ty "tuple") (u := .type "tuple") (by rfl) T.tuple_ (by decide +kernel) rfl) pa_nil)))) (pss_one (ps_ret (pe_and (pe_callB call_isi (by rfl) T.isinstance (by decide +kernel) (pa_cons (pv 0) (pa_cons (pe_bltn (v := .ty "tuple") (u := .type "tuple") (by rfl) T.tuple_ (by decide +kernel) rfl) pa_nil))) (pe_one (pe_c C_law_same_items hr (by first | decide | omega) pass0 (pa_cons (pv 0) (pa_cons (pv 1) pa_nil))))))) pss_nil)
    (pss_cons (ps_if (pt_val (pe_callB call_isi (by rfl) T.isinstance (by decide +kernel) (pa_cons (pv 1) (pa_cons (pe_bltn (v := .ty "list") (u := .type "list") (by rfl) T.list_ (by decide +kernel) rfl) pa_nil)))) (pss_one (ps_ret (pe_and (pe_callB call_isi (by rfl) T.isinstance (by decide +kernel) (pa_cons (pv 0) (pa_cons (pe_bltn (v := .ty "list") (u := .type "list") (by rfl) T.list_ (by decide +kernel) rfl) pa_nil))) (pe_one (pe_c C_law_same_items hr (by first | decide | omega) pass0 (pa_cons (pv 0) (pa_cons (pv 1) pa_nil))))))) pss_nil)
    (pss_cons ps_never
    (pss_cons ps_never
    (pss_cons ps_never
    (pss_one ps_never)))))))))), ?_⟩
  rcases al with ⟨rfl, hx⟩ | ⟨a, b, xs, ys, rfl, rfl, ha, hb, hl, hm, al⟩ | ⟨a, b, xs, ys, rfl, rfl, ha, hb, hl, hm, al⟩
  · cases x with
    | non => exact ⟨_, rfl, rfl, _, rfl, iteP rfl ⟨_, rfl, rfl, qP rfl q⟩⟩
    | bl k =>
      refine ⟨_, rfl, rfl, _, rfl, iteN (fun z => nomatch z) ?_⟩
      refine ⟨_, rfl, _, _, _, _, true, rfl, .ty _, .base (.bl _), kit_ty (by decide +kernel), _, rfl, ?_⟩
      refine ⟨_, rfl, _, _, _, _, true, rfl, .ty _, .base (.bl _), kit_ty (by decide +kernel), _, rfl, ?_⟩
      exact ⟨_, rfl, _, rfl, rfl, qP rfl q⟩
    | int i =>
      refine ⟨_, rfl, rfl, _, rfl, iteN (fun z => nomatch z) ?_⟩
      refine ⟨_, rfl, _, _, _, _, false, rfl, .ty _, .base (.int _), kit_ty (by decide +kernel), _, rfl, ?_⟩
      refine ⟨_, rfl, _, _, _, _, true, rfl, .ty _, .base (.int _), kit_ty (by decide +kernel), _, rfl, ?_⟩
      refine ⟨_, rfl, i, rfl, _, rfl, ?_⟩
      exact ⟨_, rfl, _, rfl, rfl, qP rfl q⟩
    | str z =>
      refine ⟨_, rfl, rfl, _, rfl, iteN (fun z => nomatch z) ?_⟩
      refine ⟨_, rfl, _, _, _, _, false, rfl, .ty _, .base (.str _), kit_ty (by decide +kernel), _, rfl, ?_⟩
      refine ⟨_, rfl, _, _, _, _, false, rfl, .ty _, .base (.str _), kit_ty (by decide +kernel), _, rfl, ?_⟩
      refine ⟨_, rfl, _, _, _, _, true, rfl, .ty _, .base (.str _), kit_ty (by decide +kernel), _, rfl, ?_⟩
      refine ⟨_, rfl, _, _, _, _, true, rfl, .ty _, .base (.str _), kit_ty (by decide +kernel), _, rfl, ?_⟩
      exact ⟨_, rfl, _, rfl, rfl, qP rfl q⟩
    | byt z => cases hx
    | flt z => cases hx
    | ref z => cases hx
    | ty z => cases hx
  · refine ⟨_, rfl, rfl, _, rfl, iteN (fun z => nomatch z) ?_⟩
    refine ⟨_, rfl, _, _, _, _, false, rfl, .ty _, .base (.tup hb), kit_ty (by decide +kernel), _, rfl, ?_⟩
    refine ⟨_, rfl, _, _, _, _, false, rfl, .ty _, .base (.tup hb), kit_ty (by decide +kernel), _, rfl, ?_⟩
    refine ⟨_, rfl, _, _, _, _, false, rfl, .ty _, .base (.tup hb), kit_ty (by decide +kernel), _, rfl, ?_⟩
    refine ⟨_, rfl, _, _, _, _, true, rfl, .ty _, .base (.tup hb), kit_ty (by decide +kernel), _, rfl, ?_⟩
    refine ⟨_, rfl, _, _, _, _, true, rfl, .ty _, .base (.tup ha), kit_ty (by decide +kernel), _, rfl, ?_⟩
    exact ⟨_, rfl, _, rfl, a, b, xs, ys, rfl, .inl ⟨ha, hb⟩, hl, hm, al, q⟩
  · refine ⟨_, rfl, rfl, _, rfl, iteN (fun z => nomatch z) ?_⟩
    refine ⟨_, rfl, _, _, _, _, false, rfl, .ty _, .base (.lst hb), kit_ty (by decide +kernel), _, rfl, ?_⟩
    refine ⟨_, rfl, _, _, _, _, false, rfl, .ty _, .base (.lst hb), kit_ty (by decide +kernel), _, rfl, ?_⟩
    refine ⟨_, rfl, _, _, _, _, false, rfl, .ty _, .base (.lst hb), kit_ty (by decide +kernel), _, rfl, ?_⟩
    refine ⟨_, rfl, _, _, _, _, false, rfl, .ty _, .base (.lst hb), kit_ty (by decide +kernel), _, rfl, ?_⟩
    refine ⟨_, rfl, _, _, _, _, true, rfl, .ty _, .base (.lst hb), kit_ty (by decide +kernel), _, rfl, ?_⟩
    refine ⟨_, rfl, _, _, _, _, true, rfl, .ty _, .base (.lst ha), kit_ty (by decide +kernel), _, rfl, ?_⟩
    exact ⟨_, rfl, _, rfl, a, b, xs, ys, rfl, .inr ⟨ha, hb⟩, hl, hm, al, q⟩
theorem no_same0 : ∀ vs H Q E, ¬ spSame 0 vs H Q E := fun vs H Q E h => by
  obtain ⟨x, y, _, al, _⟩ := h
  exact al
/-- both, as deep as one likes -/
theorem both {f g : Addr} {fd gd : FuncData} (FS : Fun K "_law_same" "_law_same" s_same f fd) (bS : Binds K fd ["actual", "expected"] []) (mS : mg "_law_same" = some (.ref f)) (FI : Fun K "_law_same_items" "_law_same_items" s_sameItems g gd) (bI : Binds K gd ["actual", "expected"] []) (mI : mg "_law_same_items" = some (.ref g))
    (T : Nm mg) (C_law_is_integer : Cal P w K mg base CX0 1 "_law_is_integer" spIsInt) : ∀ n, Cal P w K mg base CX0 (2 * n) "_law_same" (spSame n)
  | 0 => ⟨f, fd, _, none_left no_same0, mS, FS.kp, bS⟩
  | n + 1 => ⟨f, fd, _, ok_same FS T C_law_is_integer ⟨g, gd, _, ok_items FI T (both FS bS mS FI bI mI T C_law_is_integer n), mI, FI.kp, bI⟩, mS, FS.kp, bS⟩

end

end Sn

namespace Sn
open PySem PySem.Spec PyProof.Rows L2 TL
/-! ### the keeper's attributes -/
abbrev ns_Keeper : List Str := ["_function", "_now", "_left", "_inputs", "_entries", "_runs", "_asked", "_ended"]
structure NmK (K : PySem.W.Frag) (mg : Str → Option Value) (aF CK CR CE : Addr) : Prop extends Nm mg where
  sum : mg "sum" = none
  cl_Keeper : Cls K CK
  cl_Run : Cls K CR
  n_function : NoAttr K CK "_function"
  n_now : NoAttr K CK "_now"
  n_left : NoAttr K CK "_left"
  n_inputs : NoAttr K CK "_inputs"
  n_entries : NoAttr K CK "_entries"
  n_runs : NoAttr K CK "_runs"
  n_asked : NoAttr K CK "_asked"
  n_ended : NoAttr K CK "_ended"
  n_live : NoAttr K CR "live"
  mk_Keeper : mg "Keeper" = some (.ref CK)
  mk_Run : mg "Run" = some (.ref CR)
  c__law_chain : mg "_law_chain" = some (.ref aF)
  c_CyclicKey : mg "CyclicKey" = some (.ref CE)
  bI : PySem.W.subIn K (.ref CE) (.type "BaseException") = some true
  tI : PySem.W.typeIn K (.ref CE) = some (.type "type")
  kI : PySem.W.keepIn K (.ref CE) = true
  xI : PySem.W.excIn K CE [.type "ValueError", .type "Exception", .type "BaseException", .type "object"] "ValueError.__new__" = true
  te : PySem.W.exmOne K (.ref CE) (.ref CE) = some true
structure KF where
  fn : V
  now : V
  left : V
  inp : V
  ent : V
  run : V
  asked : V
  ended : V
def kf (S : KF) : List (Str × V) := [("_function", S.fn), ("_now", S.now), ("_left", S.left), ("_inputs", S.inp), ("_entries", S.ent), ("_runs", S.run), ("_asked", S.asked), ("_ended", S.ended)]
theorem kf_function {S} : (kf S).lookup ("_function" : Str) = some S.fn := by kernel_rfl
theorem kf_now {S} : (kf S).lookup ("_now" : Str) = some S.now := by kernel_rfl
theorem kf_left {S} : (kf S).lookup ("_left" : Str) = some S.left := by kernel_rfl
theorem kf_inputs {S} : (kf S).lookup ("_inputs" : Str) = some S.inp := by kernel_rfl
theorem kf_entries {S} : (kf S).lookup ("_entries" : Str) = some S.ent := by kernel_rfl
theorem kf_runs {S} : (kf S).lookup ("_runs" : Str) = some S.run := by kernel_rfl
theorem kf_asked {S} : (kf S).lookup ("_asked" : Str) = some S.asked := by kernel_rfl
theorem kf_ended {S} : (kf S).lookup ("_ended" : Str) = some S.ended := by kernel_rfl
theorem kf_now' {S x} : putF "_now" x (kf S) = kf { S with now := x } := by kernel_rfl
theorem kf_asked' {S x} : putF "_asked" x (kf S) = kf { S with asked := x } := by kernel_rfl
def KRaw (C : Addr) (H : Hp) (p : Addr) (S : KF) : Prop := ∃ dx, H p = some (.ins C dx (kf S))
theorem KRaw.isI {C : Addr} {H : Hp} {p : Addr} {S : KF} (h : KRaw C H p S) : IsI H C p ns_Keeper := let ⟨dx, e⟩ := h; ⟨dx, _, e, rfl⟩
section
variable {X : Cx} {C CR CE aF : Addr} {o v : Expr} {pos pos' : Pos} {ta tv : TE} {mg : Str → Option Value}
def tKf (C : Addr) (sel : KF → V) (ta : TE) : TE := fun σ H Q => ta σ H fun x H1 => ∃ p S, x = .ref p ∧ KRaw C H1 p S ∧ Q (sel S) H1
theorem pe_kf {f : Str} {sel : KF → V} (cl : Cls X.K C) (na : NoAttr X.K C f) (hl : ∀ S, (kf S).lookup f = some (sel S)) (he : PE X o ta) (hb : attributeBase o f X.env (eval o X.env) = eval o X.env) : PE X (.Attribute o f pos) (tKf C sel ta) := by
  refine PE.imp (pe_fld (PE.up he) hb) fun σ H Q h => ⟨_, h, ?_⟩
  rintro x H1 ⟨p, S, rfl, ⟨dx, e⟩, q⟩
  exact ⟨p, C, dx, _, _, rfl, e, cl, na, hl S, q⟩
theorem pe_k_function (T : NmK X.K mg aF C CR CE) (he : PE X o ta) (hb : attributeBase o "_function" X.env (eval o X.env) = eval o X.env := by rfl) : PE X (.Attribute o "_function" pos) (tKf C KF.fn ta) := pe_kf T.cl_Keeper T.n_function (fun _ => kf_function) he hb
theorem pe_k_now (T : NmK X.K mg aF C CR CE) (he : PE X o ta) (hb : attributeBase o "_now" X.env (eval o X.env) = eval o X.env := by rfl) : PE X (.Attribute o "_now" pos) (tKf C KF.now ta) := pe_kf T.cl_Keeper T.n_now (fun _ => kf_now) he hb
theorem pe_k_left (T : NmK X.K mg aF C CR CE) (he : PE X o ta) (hb : attributeBase o "_left" X.env (eval o X.env) = eval o X.env := by rfl) : PE X (.Attribute o "_left" pos) (tKf C KF.left ta) := pe_kf T.cl_Keeper T.n_left (fun _ => kf_left) he hb
theorem pe_k_inputs (T : NmK X.K mg aF C CR CE) (he : PE X o ta) (hb : attributeBase o "_inputs" X.env (eval o X.env) = eval o X.env := by rfl) : PE X (.Attribute o "_inputs" pos) (tKf C KF.inp ta) := pe_kf T.cl_Keeper T.n_inputs (fun _ => kf_inputs) he hb
theorem pe_k_entries (T : NmK X.K mg aF C CR CE) (he : PE X o ta) (hb : attributeBase o "_entries" X.env (eval o X.env) = eval o X.env := by rfl) : PE X (.Attribute o "_entries" pos) (tKf C KF.ent ta) := pe_kf T.cl_Keeper T.n_entries (fun _ => kf_entries) he hb
theorem pe_k_runs (T : NmK X.K mg aF C CR CE) (he : PE X o ta) (hb : attributeBase o "_runs" X.env (eval o X.env) = eval o X.env := by rfl) : PE X (.Attribute o "_runs" pos) (tKf C KF.run ta) := pe_kf T.cl_Keeper T.n_runs (fun _ => kf_runs) he hb
theorem pe_k_asked (T : NmK X.K mg aF C CR CE) (he : PE X o ta) (hb : attributeBase o "_asked" X.env (eval o X.env) = eval o X.env := by rfl) : PE X (.Attribute o "_asked" pos) (tKf C KF.asked ta) := pe_kf T.cl_Keeper T.n_asked (fun _ => kf_asked) he hb
theorem pe_k_ended (T : NmK X.K mg aF C CR CE) (he : PE X o ta) (hb : attributeBase o "_ended" X.env (eval o X.env) = eval o X.env := by rfl) : PE X (.Attribute o "_ended" pos) (tKf C KF.ended ta) := pe_kf T.cl_Keeper T.n_ended (fun _ => kf_ended) he hb
/-- self._asked = e -/
def sKas (C : Addr) (ta tv : TE) : TS := fun D σ H => tv σ H fun y H1 => ta σ H1 fun x H2 => ∃ p S, x = .ref p ∧ KRaw C H2 p S ∧ ∀ H', But p H2 H' → (∀ b, H2 b = none → H' b = none) → KRaw C H' p { S with asked := y } → D.nx σ H'
theorem ps_k_asked (T : NmK X.K mg aF C CR CE) (ha : PE X o ta) (hv : PE X v tv) (hs : swapsWith v (some (.Attribute o "_asked" pos')) pos.line X.env = pure false := by rfl) : PS X (.Assign [.Attribute o "_asked" pos'] v pos) (sKas C ta tv) := by
  refine PS.imp (ps_fld (PE.up ha) (PE.up hv) hs) fun D σ H h => ⟨_, h, ?_⟩
  intro y H1 h1
  refine ⟨_, h1, ?_⟩
  rintro x H2 ⟨p, S, rfl, ⟨dx, e⟩, q⟩
  refine ⟨p, C, dx, _, rfl, e, T.cl_Keeper, T.n_asked, (by show 8 < 1000; decide), q _ (But.refl _ _).upd (fun b hb => ?_) ⟨dx, ?_⟩⟩
  · rw [upd_ne (fun z => by rw [z, e] at hb; cases hb)]
    exact hb
  · rw [upd_same, kf_asked']
/-- self._now += n -/
def sKan (C : Addr) (i : Int) (ta : TE) : TS := fun D σ H => ta σ H fun x H1 => ∃ p S n, x = .ref p ∧ KRaw C H1 p S ∧ S.now = .int n ∧ ∀ H', But p H1 H' → KRaw C H' p { S with now := .int (n + i) } → D.nx σ H'
theorem ps_ka_now {i : Int} {j : Nat} {cp : Pos} (T : NmK X.K mg aF C CR CE) (he : PE X o ta) (_ : PE X (.Constant (.int i) j cp) (tC (.int i))) (hop : InOp X .Add rAdd) : PS X (.AugAssign (.Attribute o "_now" pos') .Add (.Constant (.int i) j cp) pos) (sKan C i ta) := by
  refine PS.imp (ps_fldaug (PE.up he) pe_int hop) fun D σ H h => ⟨_, h, ?_⟩
  rintro x H1 ⟨p, S, n, rfl, ⟨dx, e⟩, hn, q⟩
  refine ⟨p, C, dx, _, _, rfl, e, T.cl_Keeper, T.n_now, kf_now, n, i, hn, rfl, ?_⟩
  refine ⟨dx, _, e, (by show 8 < 1000; decide), q _ (But.refl _ _).upd ⟨dx, ?_⟩⟩
  rw [upd_same, kf_now']
end
/-! ### objects by their class's name; xs[i] read for a store -/
structure CalO (P : Program) (w : World) (K : PySem.W.Frag) (mg : Str → Option Value) (base : Heap) (CX : CXT) (k : Nat) (C : Addr) (sp : Sp) : Prop where
  ex : ∃ (f : Addr) (fd : FuncData) (ps : List Str), FnOk P w K mg base CX k f fd ps sp ∧ Mk K C f ∧ Binds K fd ps []
theorem pe_mk {X : Cx} {x : Str} {C : Addr} {k j : Nat} {sp : Sp} {p pos : Pos} {e : Expr} {es : List Expr} {t : TA} {CX : CXT} {E : XK} (c : CalO X.prog X.w X.K X.mg X.base CX k C sp) (hr : Room j X.A) (hk : k + 1 ≤ j) (hm : X.mg x = some (.ref C)) (hx : Passes CX X E) (ha : PA X (e :: es) t) (hg : Gl X x := by rfl)
    (hdb : (x == ("__debug__" : Str)) = false := by decide) (he : starEach (e :: es) X.env = (false, eval e X.env) :: starEach es X.env := by rfl) (hpl : (backTo pos (starEach es X.env)).any (·.1) = false := by rfl) :
    PE X (.Call (.Name x p) (e :: es) [] pos) (tMake C sp [] E t) := by
  obtain ⟨f, fd, ps, F, M, b⟩ := c.ex
  exact pe_make M F (hr.mono hk) hg hm b .nil hx ha hdb he hpl
theorem pe_mk0 {X : Cx} {x : Str} {C : Addr} {k j : Nat} {sp : Sp} {p pos : Pos} {CX : CXT} {E : XK} (c : CalO X.prog X.w X.K X.mg X.base CX k C sp) (hr : Room j X.A) (hk : k + 1 ≤ j) (hm : X.mg x = some (.ref C)) (hx : Passes CX X E) (hg : Gl X x := by rfl)
    (hdb : (x == ("__debug__" : Str)) = false := by decide) : PE X (.Call (.Name x p) [] [] pos) (tMake C sp [] E tNil) := by
  obtain ⟨f, fd, ps, F, M, b⟩ := c.ex
  exact pe_make0 M F (hr.mono hk) hg hm b .nil hx hdb
def rGetL : V → V → Hp → VK → Prop := fun o i H Q => ∃ (p : Addr) (xs : List V) (k : Nat) (v : V), o = .ref p ∧ i = .int (k : Int) ∧ H p = some (.lst xs) ∧ xs[k]? = some v ∧ Q v H
theorem get_list {X : Cx} : PGet X rGetL := by
  intro pins s σ H o i ov iv Q I ro ri h
  obtain ⟨p, xs, k, v, rfl, rfl, hp, hk, q⟩ := h
  cases ro
  obtain ⟨t, rfl⟩ := ri
  obtain ⟨its, r, pl, hz⟩ := I.list (SqL.of hp)
  obtain ⟨w, ew, rw'⟩ := r.get hk
  have hl := (List.getElem?_eq_some_iff.mp hk).1
  have hn := line63
  exact wpAny_getItem_list (Q := fun r s' => EP X pins σ Q r s') pl.isList (by omega) (by omega) (by simpa using ew) ⟨v, H, I, rw', q⟩

end Sn

namespace Sn
open PySem PySem.Spec PyProof.Rows L2 TL
/-! ### the keeper in the heap -/
def kT (k : Nat) : List L2.Key := [.inr "to", .inl (k : Int)]
def kS (k : Nat) : List L2.Key := [.inr "sum", .inl (k : Int)]
theorem kST {j k : Nat} : kS j ≠ kT k := fun e => by
  have e := List.head_eq_of_cons_eq e
  injection e with e
  exact absurd e (by decide)
theorem kS_inj {j k : Nat} (h : kS j = kS k) : j = k := by
  have e := List.tail_eq_of_cons_eq h
  have e := List.head_eq_of_cons_eq e
  injection e with e
  omega
theorem kT_inj {j k : Nat} (h : kT j = kT k) : j = k := by
  have e := List.tail_eq_of_cons_eq h
  have e := List.head_eq_of_cons_eq e
  injection e with e
  omega
def isT (H : Hp) (b k : Nat) : Prop := H b = some (.tup [.str "to", .int (k : Int)])
def isS (H : Hp) (b k : Nat) : Prop := H b = some (.tup [.str "sum", .int (k : Int)])
theorem isT.key {H : Hp} {b k : Nat} (h : isT H b k) : H b = some (.tup ((kT k).map kV)) := h
theorem isS.key {H : Hp} {b k : Nat} (h : isS H b k) : H b = some (.tup ((kS k).map kV)) := h
structure KAd where
  i : Addr
  e : Addr
  r : Addr
  l : Addr
/-- the entry at p -/
def EntV (H : Hp) (p : Addr) (k : Nat) (e : En) : Prop :=
  ∃ q b, H p = some (.tup [.int e.v, .ref q, .int (e.c : Int), .int (e.g : Int)]) ∧ isT H b k ∧ ((e.d = none ∧ H q = some (.tup [.ref b])) ∨ ∃ g b', e.d = some g ∧ H q = some (.tup [.ref b, .ref b']) ∧ isS H b' g)
def kfo (aF : Addr) (A : KAd) (now : Nat) (av : V) : KF := ⟨.ref aF, .int (now : Int), .non, .ref A.i, .ref A.e, .ref A.r, av, .ref A.l⟩
structure Kh (CK CR aF : Addr) (H : Hp) (o : Addr) (A : KAd) (S : KS) (rn : Nat → Option Addr) (lv : List Nat) (av : V) (m ni : Nat) : Prop where
  raw : KRaw CK H o (kfo aF A S.now av)
  inp : ∃ kvs : List (List L2.Key × V), H A.i = some (.dT kvs) ∧ kvs.length ≤ ni ∧ (∀ k, valV kvs (kS k) = none) ∧ ∀ k, (valV kvs (kT k) = none ∧ S.go k = none) ∨ ∃ p g r, valV kvs (kT k) = some (.ref p) ∧ S.go k = some (g, r) ∧ H p = some (.tup [.int g, .int ((r : Nat) : Int)])
  ent : ∃ kvs : List (List L2.Key × V), H A.e = some (.dT kvs) ∧ kvs.length ≤ m ∧ (∀ k, valV kvs (kT k) = none) ∧ ∀ k, (valV kvs (kS k) = none ∧ S.en k = none) ∨ ∃ p e, valV kvs (kS k) = some (.ref p) ∧ S.en k = some e ∧ EntV H p k e
  run : ∃ kvs : List (List L2.Key × V), H A.r = some (.dT kvs) ∧ kvs.length ≤ m ∧ ∀ k, valV kvs (kS k) = (rn k).map V.ref
  live : ∀ k, (k ∈ lv → ∃ p dx, rn k = some p ∧ H p = some (.ins CR dx [("live", .bl true)])) ∧ (k ∉ lv → ∀ p, rn k = some p → ∃ dx, H p = some (.ins CR dx [("live", .bl false)]))
  ended : ∃ vs, H A.l = some (.lst vs) ∧ vs.length ≤ m
  d1 : A.i ≠ A.e
  d2 : A.i ≠ A.r
  d3 : A.e ≠ A.r
  ck : CK ≠ CR
/-- the objects that the keeper leans on -/
def Kob : HO → Prop
  | .ins _ _ _ => True
  | .dT _ => True
  | .tup _ => True
  | _ => False
section
variable {CK CR aF : Addr} {H H' : Hp} {o : Addr} {A : KAd} {S : KS} {rn : Nat → Option Addr} {lv : List Nat} {av : V} {m ni : Nat}
theorem EntV.keep {p : Addr} {k : Nat} {e : En} (f : ∀ b xs, H b = some (.tup xs) → H' b = some (.tup xs)) : EntV H p k e → EntV H' p k e := fun ⟨q, b, h1, h2, h3⟩ =>
  ⟨q, b, f _ _ h1, f _ _ h2, h3.elim (fun ⟨a, c⟩ => .inl ⟨a, f _ _ c⟩) fun ⟨g, b', x, y, z⟩ => .inr ⟨g, b', x, f _ _ y, f _ _ z⟩⟩
theorem Kh.keep (h : Kh CK CR aF H o A S rn lv av m ni) (f : ∀ b u, H b = some u → (b = A.l ∨ Kob u) → H' b = some u) : Kh CK CR aF H' o A S rn lv av m ni := by
  have ft : ∀ b xs, H b = some (.tup xs) → H' b = some (.tup xs) := fun b xs e => f _ _ e (.inr trivial)
  refine ⟨?_, ?_, ?_, ?_, ?_, ?_, h.d1, h.d2, h.d3, h.ck⟩
  · obtain ⟨dx, e⟩ := h.raw
    exact ⟨dx, f _ _ e (.inr trivial)⟩
  · obtain ⟨kvs, a, b, c, d⟩ := h.inp
    exact ⟨kvs, f _ _ a (.inr trivial), b, c, fun k => (d k).elim .inl fun ⟨p, g, r, x, y, z⟩ => .inr ⟨p, g, r, x, y, ft _ _ z⟩⟩
  · obtain ⟨kvs, a, b, c, d⟩ := h.ent
    exact ⟨kvs, f _ _ a (.inr trivial), b, c, fun k => (d k).elim .inl fun ⟨p, e, x, y, z⟩ => .inr ⟨p, e, x, y, z.keep ft⟩⟩
  · obtain ⟨kvs, a, b⟩ := h.run
    exact ⟨kvs, f _ _ a (.inr trivial), b⟩
  · exact fun k => ⟨fun hk => by
      obtain ⟨p, dx, a, b⟩ := (h.live k).1 hk
      exact ⟨p, dx, a, f _ _ b (.inr trivial)⟩, fun hk p hp => by
      obtain ⟨dx, b⟩ := (h.live k).2 hk p hp
      exact ⟨dx, f _ _ b (.inr trivial)⟩⟩
  · obtain ⟨vs, a, b⟩ := h.ended
    exact ⟨vs, f _ _ a (.inl rfl), b⟩
theorem Kh.same (h : Kh CK CR aF H o A S rn lv av m ni) (s : Same H H') : Kh CK CR aF H' o A S rn lv av m ni := h.keep fun b u e _ => s b u e
theorem Kh.more {m' : Nat} (h : Kh CK CR aF H o A S rn lv av m ni) (hm : m ≤ m') : Kh CK CR aF H o A S rn lv av m' ni := by
  refine ⟨h.raw, h.inp, ?_, ?_, h.live, ?_, h.d1, h.d2, h.d3, h.ck⟩
  · obtain ⟨kvs, a, b, c⟩ := h.ent
    exact ⟨kvs, a, by omega, c⟩
  · obtain ⟨kvs, a, b, c⟩ := h.run
    exact ⟨kvs, a, by omega, c⟩
  · obtain ⟨vs, a, b⟩ := h.ended
    exact ⟨vs, a, by omega⟩
/-- what was asked begins anew, or goes back -/
theorem Kh.self {y : V} {n : Nat} (h : Kh CK CR aF H o A S rn lv av m ni) (b : But o H H') (r : KRaw CK H' o (kfo aF A n y)) : Kh CK CR aF H' o A ⟨n, S.go, S.en⟩ rn lv y m ni := by
  obtain ⟨dx, eo⟩ := h.raw
  have ne : ∀ {b u}, H b = some u → (∀ dx fs, u ≠ .ins CK dx fs) → b ≠ o := fun e n z => by
    rw [z, eo] at e
    injection e with e
    exact n _ _ e.symm
  have ft : ∀ b xs, H b = some (.tup xs) → H' b = some (.tup xs) := fun c xs e => b _ _ (ne e fun _ _ z => nomatch z) e
  refine ⟨r, ?_, ?_, ?_, ?_, ?_, h.d1, h.d2, h.d3, h.ck⟩
  · obtain ⟨kvs, a, b1, c, d⟩ := h.inp
    exact ⟨kvs, b _ _ (ne a fun _ _ z => nomatch z) a, b1, c, fun k => (d k).elim .inl fun ⟨p, g, r, x, y, z⟩ => .inr ⟨p, g, r, x, y, ft _ _ z⟩⟩
  · obtain ⟨kvs, a, b1, c, d⟩ := h.ent
    exact ⟨kvs, b _ _ (ne a fun _ _ z => nomatch z) a, b1, c, fun k => (d k).elim .inl fun ⟨p, e, x, y, z⟩ => .inr ⟨p, e, x, y, z.keep ft⟩⟩
  · obtain ⟨kvs, a, b1⟩ := h.run
    exact ⟨kvs, b _ _ (ne a fun _ _ z => nomatch z) a, b1⟩
  · exact fun k => ⟨fun hk => by
      obtain ⟨p, dx, a, c⟩ := (h.live k).1 hk
      exact ⟨p, dx, a, b _ _ (ne c fun _ _ z => by injection z with z; exact h.ck z.symm) c⟩, fun hk p hp => by
      obtain ⟨dx, c⟩ := (h.live k).2 hk p hp
      exact ⟨dx, b _ _ (ne c fun _ _ z => by injection z with z; exact h.ck z.symm) c⟩⟩
  · obtain ⟨vs, a, b1⟩ := h.ended
    exact ⟨vs, b _ _ (ne a fun _ _ z => nomatch z) a, b1⟩
theorem Kh.ask {y : V} (h : Kh CK CR aF H o A S rn lv av m ni) (b : But o H H') (r : KRaw CK H' o (kfo aF A S.now y)) : Kh CK CR aF H' o A S rn lv y m ni := h.self b r
theorem Kh.put_inp {k : Nat} {p : Addr} {g : Int} {r : Nat} {kvs : List (List L2.Key × V)} (h : Kh CK CR aF H o A S rn lv av m ni) (he : H A.i = some (.dT kvs)) (hp : H p = some (.tup [.int g, .int (r : Int)])) : Kh CK CR aF (upd H A.i (.dT (putK kvs (kT k) (.ref p)))) o A ⟨S.now, ups S.go k (g, r), S.en⟩ rn lv av m (ni + 1) := by
  have st : ∀ {b u}, H b = some u → (∀ kvs, u ≠ .dT kvs) → upd H A.i (.dT (putK kvs (kT k) (.ref p))) b = some u := fun e' n => by
    rw [upd_ne (fun z => by rw [z, he] at e'; injection e' with e'; exact n _ e'.symm)]
    exact e'
  have ft : ∀ b xs, H b = some (.tup xs) → upd H A.i (.dT (putK kvs (kT k) (.ref p))) b = some (.tup xs) := fun b xs e' => st e' fun _ z => nomatch z
  refine ⟨?_, ?_, ?_, ?_, ?_, ?_, h.d1, h.d2, h.d3, h.ck⟩
  · obtain ⟨dx, a⟩ := h.raw
    exact ⟨dx, st a fun _ z => nomatch z⟩
  · obtain ⟨k2, a, b, c, d⟩ := h.inp
    rw [he] at a
    cases a
    refine ⟨_, upd_same, by have := length_putK kvs (kT k) (V.ref p); omega, fun j => by rw [valV_put, if_neg kST]; exact c j, fun j => ?_⟩
    by_cases hj : j = k
    · subst hj
      exact .inr ⟨p, g, r, by rw [valV_put, if_pos rfl], ups_at, ft _ _ hp⟩
    · rw [valV_put, if_neg (fun z => hj (kT_inj z))]
      rcases d j with ⟨x, y⟩ | ⟨p', g', r', x, y, z⟩
      · exact .inl ⟨x, (ups_ne hj).trans y⟩
      · exact .inr ⟨p', g', r', x, (ups_ne hj).trans y, ft _ _ z⟩
  · obtain ⟨k2, a, b, c, d⟩ := h.ent
    exact ⟨k2, by rw [upd_ne h.d1.symm]; exact a, b, c, fun j => (d j).elim .inl fun ⟨p, e, x, y, z⟩ => .inr ⟨p, e, x, y, z.keep ft⟩⟩
  · obtain ⟨k2, a, b, c⟩ := h.run
    exact ⟨k2, by rw [upd_ne h.d2.symm]; exact a, b, c⟩
  · exact fun j => ⟨fun hk => by
      obtain ⟨p, dx, a, c⟩ := (h.live j).1 hk
      exact ⟨p, dx, a, st c fun _ z => nomatch z⟩, fun hk p hp => by
      obtain ⟨dx, c⟩ := (h.live j).2 hk p hp
      exact ⟨dx, st c fun _ z => nomatch z⟩⟩
  · obtain ⟨vs, a, b⟩ := h.ended
    exact ⟨vs, st a (fun _ z => nomatch z), b⟩
/-- a dict of the keeper's changes: everything else stays -/
theorem Kob.ne {d b : Addr} {kvs : List (List L2.Key × V)} {u : HO} (hd : H d = some (.dT kvs)) (e : H b = some u) (n : ∀ kvs, u ≠ .dT kvs) : b ≠ d := fun z => by
  rw [z, hd] at e
  injection e with e
  exact n _ e.symm
theorem Kh.put_ent {k : Nat} {p : Addr} {e : En} {kvs : List (List L2.Key × V)} (h : Kh CK CR aF H o A S rn lv av m ni) (he : H A.e = some (.dT kvs)) (hp : EntV H p k e) : Kh CK CR aF (upd H A.e (.dT (putK kvs (kS k) (.ref p)))) o A ⟨S.now, S.go, ups S.en k e⟩ rn lv av (m + 1) ni := by
  have st : ∀ {b u}, H b = some u → (∀ kvs, u ≠ .dT kvs) → upd H A.e (.dT (putK kvs (kS k) (.ref p))) b = some u := fun e' n => by
    rw [upd_ne (Kob.ne he e' n)]
    exact e'
  have ft : ∀ b xs, H b = some (.tup xs) → upd H A.e (.dT (putK kvs (kS k) (.ref p))) b = some (.tup xs) := fun b xs e' => st e' fun _ z => nomatch z
  refine ⟨?_, ?_, ?_, ?_, ?_, ?_, h.d1, h.d2, h.d3, h.ck⟩
  · obtain ⟨dx, a⟩ := h.raw
    exact ⟨dx, st a fun _ z => nomatch z⟩
  · obtain ⟨k2, a, b, c, d⟩ := h.inp
    exact ⟨k2, by rw [upd_ne h.d1]; exact a, b, c, fun j => (d j).elim .inl fun ⟨p, g, r, x, y, z⟩ => .inr ⟨p, g, r, x, y, ft _ _ z⟩⟩
  · obtain ⟨k2, a, b, c, d⟩ := h.ent
    rw [he] at a
    cases a
    refine ⟨_, upd_same, by have := length_putK kvs (kS k) (V.ref p); omega, fun j => by rw [valV_put, if_neg (fun z => kST z.symm)]; exact c j, fun j => ?_⟩
    by_cases hj : j = k
    · subst hj
      exact .inr ⟨p, e, by rw [valV_put, if_pos rfl], ups_at, hp.keep ft⟩
    · rw [valV_put, if_neg (fun z => hj (kS_inj z))]
      rcases d j with ⟨x, y⟩ | ⟨p', e', x, y, z⟩
      · exact .inl ⟨x, (ups_ne hj).trans y⟩
      · exact .inr ⟨p', e', x, (ups_ne hj).trans y, z.keep ft⟩
  · obtain ⟨k2, a, b, c⟩ := h.run
    exact ⟨k2, by rw [upd_ne h.d3.symm]; exact a, by omega, c⟩
  · exact fun j => ⟨fun hk => by
      obtain ⟨p, dx, a, c⟩ := (h.live j).1 hk
      exact ⟨p, dx, a, st c fun _ z => nomatch z⟩, fun hk p hp => by
      obtain ⟨dx, c⟩ := (h.live j).2 hk p hp
      exact ⟨dx, st c fun _ z => nomatch z⟩⟩
  · obtain ⟨vs, a, b⟩ := h.ended
    exact ⟨vs, st a (fun _ z => nomatch z), by omega⟩
theorem Kh.put_run {k : Nat} {p : Addr} {dx : Addr} {kvs : List (List L2.Key × V)} (h : Kh CK CR aF H o A S rn lv av m ni) (he : H A.r = some (.dT kvs)) (hp : H p = some (.ins CR dx [("live", .bl true)])) : Kh CK CR aF (upd H A.r (.dT (putK kvs (kS k) (.ref p)))) o A S (ups rn k p) (lv ++ [k]) av (m + 1) ni := by
  have st : ∀ {b u}, H b = some u → (∀ kvs, u ≠ .dT kvs) → upd H A.r (.dT (putK kvs (kS k) (.ref p))) b = some u := fun e' n => by
    rw [upd_ne (Kob.ne he e' n)]
    exact e'
  have ft : ∀ b xs, H b = some (.tup xs) → upd H A.r (.dT (putK kvs (kS k) (.ref p))) b = some (.tup xs) := fun b xs e' => st e' fun _ z => nomatch z
  refine ⟨?_, ?_, ?_, ?_, ?_, ?_, h.d1, h.d2, h.d3, h.ck⟩
  · obtain ⟨dx, a⟩ := h.raw
    exact ⟨dx, st a fun _ z => nomatch z⟩
  · obtain ⟨k2, a, b, c, d⟩ := h.inp
    exact ⟨k2, by rw [upd_ne h.d2]; exact a, b, c, fun j => (d j).elim .inl fun ⟨p, g, r, x, y, z⟩ => .inr ⟨p, g, r, x, y, ft _ _ z⟩⟩
  · obtain ⟨k2, a, b, c, d⟩ := h.ent
    exact ⟨k2, by rw [upd_ne h.d3]; exact a, by omega, c, fun j => (d j).elim .inl fun ⟨p, e, x, y, z⟩ => .inr ⟨p, e, x, y, z.keep ft⟩⟩
  · obtain ⟨k2, a, b, c⟩ := h.run
    rw [he] at a
    cases a
    refine ⟨_, upd_same, by have := length_putK kvs (kS k) (V.ref p); omega, fun j => ?_⟩
    by_cases hj : j = k
    · subst hj
      rw [valV_put, if_pos rfl, ups_at]
      rfl
    · rw [valV_put, if_neg (fun z => hj (kS_inj z)), ups_ne hj]
      exact c j
  · refine fun j => ⟨fun hk => ?_, fun hk q hq => ?_⟩
    · by_cases hj : j = k
      · subst hj
        exact ⟨p, dx, ups_at, st hp fun _ z => nomatch z⟩
      · have : j ∈ lv := by
          rcases List.mem_append.mp hk with hk | hk
          · exact hk
          · exact absurd (List.mem_singleton.mp hk) hj
        obtain ⟨p', dx', a, c⟩ := (h.live j).1 this
        exact ⟨p', dx', by rw [ups_ne hj]; exact a, st c fun _ z => nomatch z⟩
    · have hj : j ≠ k := fun z => hk (List.mem_append.mpr (.inr (List.mem_singleton.mpr z)))
      rw [ups_ne hj] at hq
      obtain ⟨dx', c⟩ := (h.live j).2 (fun z => hk (List.mem_append.mpr (.inl z))) q hq
      exact ⟨dx', st c fun _ z => nomatch z⟩
  · obtain ⟨vs, a, b⟩ := h.ended
    exact ⟨vs, st a (fun _ z => nomatch z), by omega⟩
theorem valV_dropK {κ : Type} [DecidableEq κ] (k j : κ) : ∀ kvs : List (κ × V), valV (dropK kvs k) j = if j = k then none else valV kvs j
  | [] => by split <;> rfl
  | p :: r => by
    have ih := valV_dropK k j r
    by_cases e : p.1 = k
    · have z : dropK (p :: r) k = dropK r k := List.filter_cons_of_neg (by simp [e])
      rw [z, ih]
      by_cases h : j = k
      · rw [if_pos h, if_pos h]
      · rw [if_neg h, if_neg h, valV_neg (fun z => h (z.symm.trans e))]
    · have z : dropK (p :: r) k = p :: dropK r k := List.filter_cons_of_pos (by simp [e])
      rw [z]
      by_cases h : p.1 = j
      · rw [valV_pos h, valV_pos h, if_neg (fun z => e (h.trans z))]
      · rw [valV_neg h, valV_neg h, ih]
theorem Kh.drop_run {k : Nat} {kvs : List (List L2.Key × V)} (h : Kh CK CR aF H o A S rn (lv ++ [k]) av m ni) (hk : k ∉ lv) (he : H A.r = some (.dT kvs)) : Kh CK CR aF (upd H A.r (.dT (dropK kvs (kS k)))) o A S (fun j => if j = k then none else rn j) lv av m ni := by
  have st : ∀ {b u}, H b = some u → (∀ kvs, u ≠ .dT kvs) → upd H A.r (.dT (dropK kvs (kS k))) b = some u := fun e' n => by
    rw [upd_ne (Kob.ne he e' n)]
    exact e'
  have ft : ∀ b xs, H b = some (.tup xs) → upd H A.r (.dT (dropK kvs (kS k))) b = some (.tup xs) := fun b xs e' => st e' fun _ z => nomatch z
  refine ⟨?_, ?_, ?_, ?_, ?_, ?_, h.d1, h.d2, h.d3, h.ck⟩
  · obtain ⟨dx, a⟩ := h.raw
    exact ⟨dx, st a fun _ z => nomatch z⟩
  · obtain ⟨k2, a, b, c, d⟩ := h.inp
    exact ⟨k2, by rw [upd_ne h.d2]; exact a, b, c, fun j => (d j).elim .inl fun ⟨p, g, r, x, y, z⟩ => .inr ⟨p, g, r, x, y, ft _ _ z⟩⟩
  · obtain ⟨k2, a, b, c, d⟩ := h.ent
    exact ⟨k2, by rw [upd_ne h.d3]; exact a, by omega, c, fun j => (d j).elim .inl fun ⟨p, e, x, y, z⟩ => .inr ⟨p, e, x, y, z.keep ft⟩⟩
  · obtain ⟨k2, a, b, c⟩ := h.run
    rw [he] at a
    cases a
    refine ⟨_, upd_same, Nat.le_trans (dropK_le kvs (kS k)) b, fun j => ?_⟩
    rw [valV_dropK]
    by_cases hj : j = k
    · subst hj
      rw [if_pos rfl, if_pos rfl]
      rfl
    · rw [if_neg (fun z => hj (kS_inj z)), if_neg hj]
      exact c j
  · refine fun j => ⟨fun hl => ?_, fun hl q hq => ?_⟩
    · have hj : j ≠ k := fun z => hk (z ▸ hl)
      obtain ⟨p', dx', a, c⟩ := (h.live j).1 (List.mem_append.mpr (.inl hl))
      exact ⟨p', dx', by show (if j = k then none else rn j) = some p'; rw [if_neg hj]; exact a, st c fun _ z => nomatch z⟩
    · have hq : (if j = k then none else rn j) = some q := hq
      by_cases hj : j = k
      · rw [if_pos hj] at hq
        cases hq
      · rw [if_neg hj] at hq
        obtain ⟨dx', c⟩ := (h.live j).2 (fun z => (List.mem_append.mp z).elim hl fun z => hj (List.mem_singleton.mp z)) q hq
        exact ⟨dx', st c fun _ z => nomatch z⟩
  · obtain ⟨vs, a, b⟩ := h.ended
    exact ⟨vs, st a (fun _ z => nomatch z), by omega⟩
theorem Kh.push {vs : List V} {v : V} (h : Kh CK CR aF H o A S rn lv av m ni) (hl : H A.l = some (.lst vs)) : Kh CK CR aF (upd H A.l (.lst (vs ++ [v]))) o A S rn lv av (m + 1) ni := by
  have st : ∀ {b u}, H b = some u → Kob u → upd H A.l (.lst (vs ++ [v])) b = some u := fun e' n => by
    rw [upd_ne (fun z => by rw [z, hl] at e'; injection e' with e'; rw [← e'] at n; exact n)]
    exact e'
  have h' : Kh CK CR aF (upd H A.l (.lst vs)) o A S rn lv av m ni := h.keep fun b u e hb => by
    by_cases hbl : b = A.l
    · subst hbl
      rw [hl] at e
      rw [upd_same]
      exact e
    · rw [upd_ne hbl]
      exact e
  obtain ⟨vs0, a0, b0⟩ := h.ended
  rw [hl] at a0
  cases a0
  refine ⟨?_, ?_, ?_, ?_, ?_, ⟨_, upd_same, by rw [List.length_append, List.length_singleton]; omega⟩, h.d1, h.d2, h.d3, h.ck⟩
  · obtain ⟨dx, a⟩ := h.raw
    exact ⟨dx, st a trivial⟩
  · obtain ⟨k2, a, b, c, d⟩ := h.inp
    exact ⟨k2, st a trivial, b, c, fun j => (d j).elim .inl fun ⟨p, g, r, x, y, z⟩ => .inr ⟨p, g, r, x, y, st z trivial⟩⟩
  · obtain ⟨k2, a, b, c, d⟩ := h.ent
    exact ⟨k2, st a trivial, by omega, c, fun j => (d j).elim .inl fun ⟨p, e, x, y, z⟩ => .inr ⟨p, e, x, y, z.keep fun _ _ e' => st e' trivial⟩⟩
  · obtain ⟨k2, a, b, c⟩ := h.run
    exact ⟨k2, st a trivial, by omega, c⟩
  · exact fun k => ⟨fun hk => by
      obtain ⟨p, dx, a, c⟩ := (h.live k).1 hk
      exact ⟨p, dx, a, st c trivial⟩, fun hk p hp => by
      obtain ⟨dx, c⟩ := (h.live k).2 hk p hp
      exact ⟨dx, st c trivial⟩⟩
/-- a run ends: the keys that it brought are not live any more -/
theorem Kh.stop {ps : List Nat} {pr dx : Addr} (h : Kh CK CR aF H o A S rn (lv ++ ps) av m ni) (hp : H pr = some (.ins CR dx [("live", .bl true)])) (h1 : ∀ k ∈ ps, rn k = some pr) (h2 : ∀ k ∈ lv, rn k ≠ some pr) : Kh CK CR aF (upd H pr (.ins CR dx [("live", .bl false)])) o A S rn lv av m ni := by
  have st : ∀ {b u}, H b = some u → (∀ dx fs, u ≠ .ins CR dx fs) → upd H pr (.ins CR dx [("live", .bl false)]) b = some u := fun e' n => by
    rw [upd_ne (fun z => by rw [z, hp] at e'; injection e' with e'; exact n _ _ e'.symm)]
    exact e'
  have ft : ∀ b xs, H b = some (.tup xs) → upd H pr (.ins CR dx [("live", .bl false)]) b = some (.tup xs) := fun b xs e' => st e' fun _ _ z => nomatch z
  refine ⟨?_, ?_, ?_, ?_, ?_, ?_, h.d1, h.d2, h.d3, h.ck⟩
  · obtain ⟨dx, a⟩ := h.raw
    exact ⟨dx, st a fun _ _ z => by injection z with z; exact h.ck z⟩
  · obtain ⟨k2, a, b, c, d⟩ := h.inp
    exact ⟨k2, st a (fun _ _ z => nomatch z), b, c, fun j => (d j).elim .inl fun ⟨p, g, r, x, y, z⟩ => .inr ⟨p, g, r, x, y, ft _ _ z⟩⟩
  · obtain ⟨k2, a, b, c, d⟩ := h.ent
    exact ⟨k2, st a (fun _ _ z => nomatch z), b, c, fun j => (d j).elim .inl fun ⟨p, e, x, y, z⟩ => .inr ⟨p, e, x, y, z.keep ft⟩⟩
  · obtain ⟨k2, a, b⟩ := h.run
    exact ⟨k2, st a (fun _ _ z => nomatch z), b⟩
  · refine fun j => ⟨fun hl => ?_, fun hl q hq => ?_⟩
    · obtain ⟨p', dx', a, c⟩ := (h.live j).1 (List.mem_append.mpr (.inl hl))
      exact ⟨p', dx', a, by rw [upd_ne (fun z => h2 j hl (by rw [a, z]))]; exact c⟩
    · by_cases hj : j ∈ ps
      · have e := h1 j hj
        rw [e] at hq
        cases hq
        exact ⟨dx, upd_same⟩
      · obtain ⟨dx', c⟩ := (h.live j).2 (fun z => (List.mem_append.mp z).elim hl hj) q hq
        refine ⟨dx', ?_⟩
        rw [upd_ne (fun z => by rw [z, hp] at c; injection c with c; injection c with _ _ c; exact absurd c (by decide))]
        exact c
  · obtain ⟨vs, a, b⟩ := h.ended
    exact ⟨vs, st a (fun _ _ z => nomatch z), b⟩
/-- a frame for what an ask changes -/
def Fr (o : Addr) (A : KAd) (av : V) (H H' : Hp) : Prop := ∀ b u, H b = some u → b ≠ o → b ≠ A.e → b ≠ A.r → b ≠ A.l → V.ref b ≠ av → H' b = some u
end

end Sn

namespace Sn
open PySem PySem.Spec PyProof.Rows L2 TL
/-! ### the keeper's small methods -/
def spRunI (CR : Addr) : Sp := fun vs H Q _ => ∃ p dx, vs = [.ref p] ∧ H p = some (.ins CR dx []) ∧ Q .non (upd H p (.ins CR dx [("live", .bl true)]))
def spKI (CK CR aF : Addr) : Sp := fun vs H Q _ => ∃ p dx, vs = [.ref p, .ref aF] ∧ CK ≠ CR ∧ H p = some (.ins CK dx []) ∧ ∀ H' A, (∀ b u, H b = some u → b ≠ p → H' b = some u) → H A.i = none → H A.e = none → H A.r = none → H A.l = none →
  Kh CK CR aF H' p A ⟨0, fun _ => none, fun _ => none⟩ (fun _ => none) [] .non 0 0 → Q .non H'
def spPut (CK CR aF : Addr) : Sp := fun vs H Q _ => ∃ o b A S rn lv av m ni k v, vs = [.ref o, .ref b, .int v] ∧ Kh CK CR aF H o A S rn lv av m ni ∧ isT H b k ∧ ni < 1000 ∧
  ∀ H' S', (∀ b u, H b = some u → b ≠ o → b ≠ A.i → H' b = some u) → Kh CK CR aF H' o A S' rn lv av m (ni + 1) → (S' = S ∧ (∃ r, S.go k = some (v, r)) ∨ S' = ⟨S.now + 1, ups S.go k (v, S.now + 1), S.en⟩) → Q .non H'
def chk (S : KS) (k : Nat) : Bool := match S.en k with
  | some e => decide (e.c = S.now)
  | none => false
theorem chk_t {S : KS} {k : Nat} {e : En} (h : S.en k = some e) (hc : e.c = S.now) : chk S k = true := by
  unfold chk
  rw [h]
  exact decide_eq_true hc
theorem chk_f {S : KS} {k : Nat} {e : En} (h : S.en k = some e) (hc : ¬ e.c = S.now) : chk S k = false := by
  unfold chk
  rw [h]
  exact decide_eq_false hc
def spIC (CK CR aF : Addr) : Sp := fun vs H Q _ => ∃ o b A S rn lv av m ni k, vs = [.ref o, .ref b] ∧ Kh CK CR aF H o A S rn lv av m ni ∧ isS H b k ∧ Q (.bl (chk S k)) H
def spCh (CK CR aF : Addr) : Sp := fun vs H Q _ => ∃ o b A S rn lv av m ni k, vs = [.ref o, .ref b] ∧ Kh CK CR aF H o A S rn lv av m ni ∧
  ((isT H b k ∧ ∃ g r, S.go k = some (g, r) ∧ Q (.int ((r : Nat) : Int)) H) ∨ isS H b k ∧ ∃ e, S.en k = some e ∧ Q (.int (e.g : Int)) H)
def spBeg (CK CR aF : Addr) : Sp := fun vs H Q _ => ∃ o A S rn lv av m ni, vs = [.ref o] ∧ Kh CK CR aF H o A S rn lv av m ni ∧ ∀ H' d, H d = none → But o H H' → H' d = some (.dT []) → Kh CK CR aF H' o A S rn lv (.ref d) m ni → Q .non H'
def spEnt (CK CR aF CE : Addr) : Sp := fun vs H Q E => ∃ o b pr dx A S rn lv av m ni k, vs = [.ref o, .ref b, .ref pr] ∧ Kh CK CR aF H o A S rn lv av m ni ∧ isS H b k ∧ H pr = some (.ins CR dx [("live", .bl true)]) ∧ m < 16000000 ∧
  (if k ∈ lv then E (.ref CE) none H else ∀ H' st, (∀ b u, H b = some u → b ≠ A.r → H' b = some u) → H st = none → H' st = some (.lst [.ref b, .int 0]) → Kh CK CR aF H' o A S (ups rn k pr) (lv ++ [k]) av (m + 1) ni → Q (.ref st) H')
theorem V_int_eq {i j : Int} : (V.int i = V.int j) ↔ i = j := ⟨fun h => by injection h, fun h => by rw [h]⟩
theorem at_nat {xs : List V} {v : V} {i : Nat} (h : xs[i]? = some v) : atI xs (i : Int) = some v := at_of rfl h
section
variable {P : Program} {w : World} {K : PySem.W.Frag} {mg : Str → Option Value} {base : Heap} {f : Addr} {fd : FuncData} {CK CR CE aF : Addr}
abbrev s_Run_init : Stmt := inClass (topS 6) 0
abbrev N_Run_init : List Str := ["self"]
theorem sc_Run_init : FnScope N_Run_init ["self"] (defScope s_Run_init) := ⟨rfl, rfl, rfl, by decide +kernel, rfl, by decide +kernel, by decide +kernel⟩
theorem ok_Run_init (F : Fun K "__init__" "Run.__init__" s_Run_init f fd) (T : NmK K mg aF CK CR CE) : FnOk P w K mg base CX0 1 f fd ["self"] (spRunI CR) := by
  refine F.ok sc_Run_init (fun vs H Q E h => ?_) (fun cdv A outer s H vs Q E hr h => ?_)
  · obtain ⟨p, dx, rfl, _⟩ := h
    rfl
  obtain ⟨p, dx, rfl, hp, q⟩ := h
  refine ⟨_, (pss_one (ps_fld (pv 0) pe_bl rfl)), ?_⟩
  exact ⟨_, rfl, p, CR, dx, _, rfl, hp, T.cl_Run, T.n_live, by decide, q⟩
abbrev s_K_is_checked : Stmt := inClass (topS 7) 12
abbrev N_K_is_checked : List Str := ["self", "key"]
theorem sc_K_is_checked : FnScope N_K_is_checked ["self", "key"] (defScope s_K_is_checked) := ⟨rfl, rfl, rfl, by decide +kernel, rfl, by decide +kernel, by decide +kernel⟩
theorem ok_is_checked (F : Fun K "_is_checked" "Keeper._is_checked" s_K_is_checked f fd) (T : NmK K mg aF CK CR CE) : FnOk P w K mg base CX0 1 f fd ["self", "key"] (spIC CK CR aF) := by
  refine F.ok sc_K_is_checked (fun vs H Q E h => ?_) (fun cdv A outer s H vs Q E hr h => ?_)
  · obtain ⟨o, b, A, S, rn, lv, av, m, ni, k, rfl, _⟩ := h
    rfl
  obtain ⟨o, b, A, S, rn, lv, av, m, ni, k, rfl, kh, hb, q⟩ := h
  refine ⟨_, (pss_one (ps_ret (pe_and (pe_cmp (pc_din (hu_of hr) (pv 1) (pe_k_entries T (pv 0))) rfl) (pe_one (pe_cmpR op_eq (pe_ix (r := rIxT K) ix_tup (pe_dget (hu_of hr) (pe_k_entries T (pv 0)) (pv 1) (fun _ _ => rfl)) pe_int (fun _ _ => rfl)) (pe_k_now T (pv 0)) (nomark _)))))), ?_⟩
  unfold chk at q
  obtain ⟨kvs, he, _, _, hs⟩ := kh.ent
  refine ⟨_, rfl, _, rfl, o, _, rfl, kh.raw, A.e, _, rfl, DGet.t he hb.key, ?_⟩
  rcases hs k with ⟨h1, h2⟩ | ⟨p, e, h1, h2, qq, bb, h3, _⟩
  · rw [h1]
    rw [h2] at q
    exact ⟨_, rfl, iteF q⟩
  · rw [h1]
    rw [h2] at q
    refine ⟨_, rfl, iteT ?_⟩
    refine ⟨_, rfl, o, _, rfl, kh.raw, _, rfl, A.e, _, rfl, ?_, p, _, _, _, rfl, rfl, .inl (.inl h3), at_nat (i := 2) rfl, _, rfl, o, _, rfl, kh.raw, rfl, ?_⟩
    · rw [← h1]
      exact DGet.t he hb.key
    have e2 : (decide (V.int (e.c : Int) = V.int (S.now : Int))) = decide (e.c = S.now) := by
      by_cases z : e.c = S.now
      · rw [decide_eq_true z, decide_eq_true (by rw [z])]
      · rw [decide_eq_false z, decide_eq_false (fun y => z (by injection y with y; omega))]
    show Q (.bl (decide (V.int (e.c : Int) = V.int (S.now : Int)))) H
    rw [e2]
    exact q
abbrev s_K_changed : Stmt := inClass (topS 7) 13
abbrev N_K_changed : List Str := ["self", "key"]
theorem sc_K_changed : FnScope N_K_changed ["self", "key"] (defScope s_K_changed) := ⟨rfl, rfl, rfl, by decide +kernel, rfl, by decide +kernel, by decide +kernel⟩
theorem ok_changed (F : Fun K "_changed" "Keeper._changed" s_K_changed f fd) (T : NmK K mg aF CK CR CE) : FnOk P w K mg base CX0 1 f fd ["self", "key"] (spCh CK CR aF) := by
  refine F.ok sc_K_changed (fun vs H Q E h => ?_) (fun cdv A outer s H vs Q E hr h => ?_)
  · obtain ⟨o, b, A, S, rn, lv, av, m, ni, k, rfl, _⟩ := h
    rfl
  obtain ⟨o, b, A, S, rn, lv, av, m, ni, k, rfl, kh, h⟩ := h
  refine ⟨_, (pss_cons (ps_if (pt_cmp (pc_din (hu_of hr) (pv 1) (pe_k_inputs T (pv 0)))) (pss_one (ps_ret (pe_ix (r := rIxT K) ix_tup (pe_dget (hu_of hr) (pe_k_inputs T (pv 0)) (pv 1) (fun _ _ => rfl)) pe_int (fun _ _ => rfl)))) pss_nil)
    (pss_one (ps_ret (pe_ix (r := rIxT K) ix_tup (pe_dget (hu_of hr) (pe_k_entries T (pv 0)) (pv 1) (fun _ _ => rfl)) pe_int (fun _ _ => rfl))))), ?_⟩
  obtain ⟨kvi, hi, _, hin, his⟩ := kh.inp
  obtain ⟨kvs, he, _, _, hs⟩ := kh.ent
  rcases h with ⟨hb, g, r, hg, q⟩ | ⟨hb, e, hg, q⟩
  · rcases his k with ⟨_, h2⟩ | ⟨p, g', r', h1, h2, h3⟩
    · rw [hg] at h2
      cases h2
    rw [hg] at h2
    cases h2
    have dg : DGet H A.i (.ref b) (some (.ref p)) := by
      rw [← h1]
      exact DGet.t hi hb.key
    refine ⟨_, rfl, _, rfl, o, _, rfl, kh.raw, A.i, _, rfl, dg, _, rfl, iteT ?_⟩
    exact ⟨_, rfl, o, _, rfl, kh.raw, _, rfl, A.i, _, rfl, dg, p, _, _, _, rfl, rfl, .inl (.inl h3), at_nat (i := 1) rfl, q⟩
  · rcases hs k with ⟨_, h2⟩ | ⟨p, e', h1, h2, qq, bb, h3, _⟩
    · rw [hg] at h2
      cases h2
    rw [hg] at h2
    cases h2
    have dg : DGet H A.e (.ref b) (some (.ref p)) := by
      rw [← h1]
      exact DGet.t he hb.key
    have dn : DGet H A.i (.ref b) none := by
      rw [← hin k]
      exact DGet.t hi hb.key
    refine ⟨_, rfl, _, rfl, o, _, rfl, kh.raw, A.i, _, rfl, dn, _, rfl, iteF ?_⟩
    exact ⟨_, rfl, o, _, rfl, kh.raw, _, rfl, A.e, _, rfl, dg, p, _, _, _, rfl, rfl, .inl (.inl h3), at_nat (i := 3) rfl, q⟩
abbrev s_K_begin : Stmt := inClass (topS 7) 14
abbrev N_K_begin : List Str := ["self"]
theorem sc_K_begin : FnScope N_K_begin ["self"] (defScope s_K_begin) := ⟨rfl, rfl, rfl, by decide +kernel, rfl, by decide +kernel, by decide +kernel⟩
theorem ok_begin (F : Fun K "_begin" "Keeper._begin" s_K_begin f fd) (T : NmK K mg aF CK CR CE) : FnOk P w K mg base CX0 1 f fd ["self"] (spBeg CK CR aF) := by
  refine F.ok sc_K_begin (fun vs H Q E h => ?_) (fun cdv A outer s H vs Q E hr h => ?_)
  · obtain ⟨o, A, S, rn, lv, av, m, ni, rfl, _⟩ := h
    rfl
  obtain ⟨o, A, S, rn, lv, av, m, ni, rfl, kh, q⟩ := h
  refine ⟨_, (pss_cons (ps_if (pt_cmpR op_eq (pe_k_left T (pv 0)) pe_int (nomark _)) (pss_one ps_never) pss_nil)
    (pss_cons (ps_if (pt_cmpR op_notN (pe_k_left T (pv 0)) pe_non (nomark _)) (pss_one ps_never) pss_nil)
    (pss_one (ps_k_asked T (pv 0) pe_dnewT)))), ?_⟩
  refine ⟨_, rfl, o, _, rfl, kh.raw, rfl, _, rfl, iteN (fun z => nomatch z) ?_⟩
  refine ⟨_, rfl, o, _, rfl, kh.raw, rfl, _, rfl, iteF ?_⟩
  intro d nd
  have s1 : Same H (upd H d (.dT [])) := same_new nd
  have kh1 := kh.same s1
  refine ⟨_, rfl, o, _, rfl, kh1.raw, fun H' b1 _ r1 => ?_⟩
  obtain ⟨dx, eo⟩ := kh.raw
  exact q H' d nd ((But.of s1).trans b1) (b1 _ _ (fun z => by rw [z, eo] at nd; cases nd) upd_same) (kh1.ask b1 r1)
abbrev s_K_entered : Stmt := inClass (topS 7) 10
abbrev N_K_entered : List Str := ["self", "key", "run"]
theorem sc_K_entered : FnScope N_K_entered ["self", "key", "run"] (defScope s_K_entered) := ⟨rfl, rfl, rfl, by decide +kernel, rfl, by decide +kernel, by decide +kernel⟩
theorem ok_entered (F : Fun K "_entered" "Keeper._entered" s_K_entered f fd) (T : NmK K mg aF CK CR CE) : FnOk P w K mg base (L2.CX P w) 1 f fd ["self", "key", "run"] (spEnt CK CR aF CE) := by
  refine F.okX sc_K_entered (fun vs H Q E h => ?_) (fun cdv A outer s H vs Q E hr h => ?_)
  · obtain ⟨o, b, pr, dx, A, S, rn, lv, av, m, ni, k, rfl, _⟩ := h
    rfl
  obtain ⟨o, b, pr, dx, A, S, rn, lv, av, m, ni, k, rfl, kh, hb, hp, hm, q⟩ := h
  refine ⟨_, (pss_cons (ps_if (PW.pt (pw_and (pt_cmp (pc_din (hu_of hr) (pv 1) (pe_k_runs T (pv 0)))) (pw_and1 (pt_val (pe_fld (pe_dget (hu_of hr) (pe_k_runs T (pv 0)) (pv 1) (fun _ _ => rfl)) rfl))))) (pss_one (ps_raise rfl (takes_of rfl rfl rfl rfl) (pmk_own PySem.F.excBase_ValueError T.xI T.c_CyclicKey T.kI (raises_own T.bI T.tI) rfl))) pss_nil)
    (pss_cons (ps_dput (hu_of hr) (pe_k_runs T (pv 0)) (pv 1) (pv 2) rfl)
    (pss_one (ps_ret (pe_lst (pa_cons (pv 1) (pa_cons pe_int pa_nil))))))), ?_⟩
  obtain ⟨kvs, he, hlen, hs⟩ := kh.run
  have dg : DGet H A.r (.ref b) ((rn k).map V.ref) := by
    rw [← hs k]
    exact DGet.t he hb.key
  have fin : k ∉ lv → ∀ st, upd H A.r (.dT (putK kvs (kS k) (.ref pr))) st = none → Q (.ref st) (upd (upd H A.r (.dT (putK kvs (kS k) (.ref pr)))) st (.lst [.ref b, .int 0])) := fun hk st ns => by
    rw [if_neg hk] at q
    have k1 := kh.put_run (k := k) he hp
    have s1 : Same (upd H A.r (.dT (putK kvs (kS k) (.ref pr)))) (upd (upd H A.r (.dT (putK kvs (kS k) (.ref pr)))) st (.lst [.ref b, .int 0])) := same_new ns
    have ne : st ≠ A.r := fun z => by rw [z, upd_same] at ns; cases ns
    rw [upd_ne ne] at ns
    exact q _ st (fun c u e n => s1 _ _ (by rw [upd_ne n]; exact e)) ns upd_same (k1.same s1)
  refine ⟨_, rfl, _, rfl, o, _, rfl, kh.raw, A.r, _, rfl, dg, _, rfl, ?_⟩
  cases hr1 : rn k with
  | none =>
    have hk : k ∉ lv := fun z => by
      obtain ⟨p, dx, a, _⟩ := (kh.live k).1 z
      rw [hr1] at a
      cases a
    refine iteF ?_
    refine ⟨_, rfl, _, rfl, o, _, rfl, kh.raw, _, rfl, A.r, _, rfl, DPut.t he hb.key (Nat.lt_of_le_of_lt hlen (by show m < 16777216; omega)), ?_⟩
    exact ⟨_, rfl, by show 2 ≤ sizeLine; decide, fin hk⟩
  | some p =>
    refine iteT ?_
    rw [hr1] at dg
    by_cases hk : k ∈ lv
    · obtain ⟨p', dx', a, c⟩ := (kh.live k).1 hk
      rw [hr1] at a
      cases a
      rw [if_pos hk] at q
      refine ⟨_, rfl, o, _, rfl, kh.raw, _, rfl, A.r, _, rfl, dg, p, CR, dx', _, _, rfl, c, T.cl_Run, T.n_live, rfl, _, rfl, iteT q⟩
    · obtain ⟨dx', c⟩ := (kh.live k).2 hk p hr1
      refine ⟨_, rfl, o, _, rfl, kh.raw, _, rfl, A.r, _, rfl, dg, p, CR, dx', _, _, rfl, c, T.cl_Run, T.n_live, rfl, _, rfl, iteF ?_⟩
      refine ⟨_, rfl, _, rfl, o, _, rfl, kh.raw, _, rfl, A.r, _, rfl, DPut.t he hb.key (Nat.lt_of_le_of_lt hlen (by show m < 16777216; omega)), ?_⟩
      exact ⟨_, rfl, by show 2 ≤ sizeLine; decide, fin hk⟩
end

end Sn

namespace Sn
open PySem PySem.Spec PyProof.Rows L2 TL
/-! ### what to bring up to date; an end of a computation; inputs -/
def chgOf (S : KS) (k : Nat) (v : Int) : Nat := match S.en k with
  | some e => if e.v = v then e.g else S.now
  | none => S.now
/-- what was asked for -/
def AskD (kvs : List (List L2.Key × V)) (k : Nat) : Option Nat → Prop
  | none => ∃ x, kvs = [(kT k, x)]
  | some g => ∃ x y, kvs = [(kT k, x), (kS g, y)]
def spEnd (CK CR aF : Addr) : Sp := fun vs H Q _ => ∃ o b d A S rn lv m ni k v dp as, vs = [.ref o, .ref b, .int v] ∧ Kh CK CR aF H o A S rn lv (.ref d) m ni ∧ isS H b k ∧ H d = some (.dT as) ∧ AskD as k dp ∧ m < 16000000 ∧
  ∀ H', (∀ b u, H b = some u → b ≠ A.e → b ≠ A.l → H' b = some u) → Kh CK CR aF H' o A ⟨S.now, S.go, ups S.en k ⟨v, dp, S.now, chgOf S k v⟩⟩ rn lv (.ref d) (m + 2) ni → Q .non H'
/-- a key's step stands here -/
def Stp (H : Hp) (st b : Addr) (i : Int) : Prop := H st = some (.lst [.ref b, .int i])
def Wait (S : KS) (k : Nat) : Prop := ∃ e g r, S.en k = some e ∧ S.go k = some (g, r) ∧ r ≤ e.c ∧ e.c ≠ S.now
/-- the goal is checked now -/
def Done (S : KS) (k : Nat) : Prop := ∀ (g : Nat) r, S.go k = some ((g : Int), r) → ∃ e, S.en g = some e ∧ e.c = S.now
def spWan (CK CR aF : Addr) : Sp := fun vs H Q _ => ∃ o st b A S rn lv av m ni k i many, vs = [.ref o, .ref st] ∧ Kh CK CR aF H o A S rn lv av m ni ∧ KI many S ∧ isS H b k ∧ Stp H st b i ∧ st ≠ A.l ∧ (∃ g r, S.go k = some (g, r)) ∧ (i = 0 ∨ i = 1 ∧ Wait S k ∧ Done S k) ∧ m < 16000000 ∧
  (∀ H', (∀ c u, H c = some u → c ≠ st → H' c = some u) → (∃ j : Int, Stp H' st b j) → Kh CK CR aF H' o A S rn lv av m ni → Un S k → Q (.ref b) H') ∧
  (∀ H' b' (g : Nat) r, i = 0 → (∀ c u, H c = some u → c ≠ st → H' c = some u) → Stp H' st b 1 → Kh CK CR aF H' o A S rn lv av m ni → Wait S k → S.go k = some ((g : Int), r) → Un S g → g ≠ k → isS H' b' g → Q (.ref b') H') ∧
  (∀ H' S', (∀ c u, H c = some u → c ≠ st → c ≠ A.e → H' c = some u) → (∃ j : Int, Stp H' st b j) → Kh CK CR aF H' o A S' rn lv av (m + 1) ni → KI many S' → S'.now = S.now → S'.go = S.go → (∀ j, j ≠ k → S'.en j = S.en j) → (∃ e, S'.en k = some e ∧ e.c = S.now) → Q .non H')
section
variable {P : Program} {w : World} {K : PySem.W.Frag} {mg : Str → Option Value} {base : Heap} {f : Addr} {fd : FuncData} {CK CR CE aF : Addr}
abbrev s_K_end : Stmt := inClass (topS 7) 15
abbrev N_K_end : List Str := ["self", "key", "value", "changed"]
theorem sc_K_end : FnScope N_K_end ["self", "key", "value"] (defScope s_K_end) := ⟨rfl, rfl, rfl, by decide +kernel, rfl, by decide +kernel, by decide +kernel⟩
theorem ok_end (F : Fun K "_end" "Keeper._end" s_K_end f fd) (T : NmK K mg aF CK CR CE) : FnOk P w K mg base CX0 1 f fd ["self", "key", "value"] (spEnd CK CR aF) := by
  refine F.ok sc_K_end (fun vs H Q E h => ?_) (fun cdv A outer s H vs Q E hr h => ?_)
  · obtain ⟨o, b, d, A, S, rn, lv, m, ni, k, v, dp, as, rfl, _⟩ := h
    rfl
  obtain ⟨o, b, d, A, S, rn, lv, m, ni, k, v, dp, as, rfl, kh, hb, hd, hask, hm, q⟩ := h
  refine ⟨_, (pss_cons (ps_set (i := 3) sc_K_end.nd rfl (Or.inl rfl) (pe_k_now T (pv 0)))
    (C8.pss_cut (ps_if (PW.pt (pw_and (pt_cmp (pc_din (hu_of hr) (pv 1) (pe_k_entries T (pv 0)))) (pw_and1 (pt_cmpR op_eq (pe_ix (r := rIxT K) ix_tup (pe_dget (hu_of hr) (pe_k_entries T (pv 0)) (pv 1) (fun _ _ => rfl)) pe_int (fun _ _ => rfl)) (pv 2) (nomark _))))) (pss_one (ps_set (i := 3) sc_K_end.nd rfl (Or.inl rfl) (pe_ix (r := rIxT K) ix_tup (pe_dget (hu_of hr) (pe_k_entries T (pv 0)) (pv 1) (fun _ _ => rfl)) pe_int (fun _ _ => rfl)))) pss_nil)
    (pss_cons (ps_dput (hu_of hr) (pe_k_entries T (pv 0)) (pv 1) (pe_tup (pa_cons (pv 2) (pa_cons (pe_callTy (call_tuple_dT rfl) (by rfl) T.tuple_ (by decide +kernel) (pa_cons (pe_k_asked T (pv 0)) pa_nil)) (pa_cons (pe_k_now T (pv 0)) (pa_cons (pv 3) pa_nil))))) rfl)
    (pss_one (ps_expr (pe_bm PySem.F.plainAttrs_list PySem.F.slot_list_append PySem.F.type_list_append mt_append (pe_k_ended T (pv 0)) (pa_cons (pv 1) pa_nil))))))), ?_⟩
  obtain ⟨kvs, he, hlen, hno, hs⟩ := kh.ent
  have dg := DGet.t he hb.key
  refine ⟨_, rfl, o, _, rfl, kh.raw, ?_⟩
  refine ⟨fun σ H' => H' = H ∧ σ = [some (.ref o), some (.ref b), some (.int v), some (.int (chgOf S k v : Int))], ?_, ?_⟩
  · refine ⟨_, rfl, _, rfl, o, _, rfl, kh.raw, A.e, _, rfl, dg, ?_⟩
    rcases hs k with ⟨h1, h2⟩ | ⟨p, e, h1, h2, qq, bb, h3, _⟩
    · rw [h1]
      refine ⟨_, rfl, iteF ⟨rfl, ?_⟩⟩
      unfold chgOf
      rw [h2]
      rfl
    · rw [h1] at dg ⊢
      refine ⟨_, rfl, iteT ?_⟩
      refine ⟨_, rfl, o, _, rfl, kh.raw, _, rfl, A.e, _, rfl, dg, p, _, _, _, rfl, rfl, .inl (.inl h3), at_nat (i := 0) rfl, _, rfl, rfl, _, rfl, ?_⟩
      by_cases z : e.v = v
      · refine iteP (by rw [z]) ?_
        refine ⟨_, rfl, o, _, rfl, kh.raw, _, rfl, A.e, _, rfl, dg, p, _, _, _, rfl, rfl, .inl (.inl h3), at_nat (i := 3) rfl, rfl, ?_⟩
        unfold chgOf
        rw [h2]
        show _ = [_, _, _, some (V.int ((if e.v = v then e.g else S.now : Nat) : Int))]
        rw [if_pos z]
        rfl
      · refine iteN (fun y => z (by injection y)) ⟨rfl, ?_⟩
        unfold chgOf
        rw [h2]
        show _ = [_, _, _, some (V.int ((if e.v = v then e.g else S.now : Nat) : Int))]
        rw [if_neg z]
        rfl
  rintro σ H' ⟨rfl, rfl⟩
  refine ⟨_, rfl, _, rfl, o, _, rfl, kh.raw, d, as, rfl, .inl hd, fun t bs nt ik => ?_⟩
  have s1 := same_new (o := .tup (bs.map V.ref)) nt
  have ht : upd H' t (.tup (bs.map V.ref)) t = some (.tup (bs.map V.ref)) := upd_same
  have k1 := kh.same s1
  have dep : ∃ b1, isT (upd H' t (.tup (bs.map V.ref))) b1 k ∧ ((dp = none ∧ upd H' t (.tup (bs.map V.ref)) t = some (.tup [.ref b1])) ∨ ∃ g b', dp = some g ∧ upd H' t (.tup (bs.map V.ref)) t = some (.tup [.ref b1, .ref b']) ∧ isS (upd H' t (.tup (bs.map V.ref))) b' g) := by
    cases dp with
    | none =>
      obtain ⟨x, rfl⟩ := hask
      cases ik with
      | cons i1 ik =>
        cases ik
        exact ⟨_, s1 _ _ i1, .inl ⟨rfl, ht⟩⟩
    | some g =>
      obtain ⟨x, y, rfl⟩ := hask
      cases ik with
      | cons i1 ik =>
        cases ik with
        | cons i2 ik =>
          cases ik
          exact ⟨_, s1 _ _ i1, .inr ⟨g, _, rfl, ht, s1 _ _ i2⟩⟩
  generalize upd H' t (.tup (bs.map V.ref)) = H1 at s1 ht k1 dep ⊢
  refine ⟨_, rfl, o, _, rfl, k1.raw, _, rfl, by show 4 ≤ sizeLine; decide, fun p np => ?_⟩
  have s2 := same_new (o := .tup [.int v, .ref t, (kfo aF A S.now (V.ref d)).now, .int (chgOf S k v : Int)]) np
  have k2 := k1.same s2
  have hp : EntV (upd H1 p (.tup [.int v, .ref t, (kfo aF A S.now (V.ref d)).now, .int (chgOf S k v : Int)])) p k ⟨v, dp, S.now, chgOf S k v⟩ := by
    obtain ⟨b1, i1, z⟩ := dep
    exact ⟨t, b1, upd_same, s2 _ _ i1, z.elim (fun ⟨x, y⟩ => .inl ⟨x, s2 _ _ y⟩) fun ⟨g, b', x, y, z⟩ => .inr ⟨g, b', x, s2 _ _ y, s2 _ _ z⟩⟩
  generalize upd H1 p (.tup [.int v, .ref t, (kfo aF A S.now (V.ref d)).now, .int (chgOf S k v : Int)]) = H2 at s2 k2 hp ⊢
  have he2 := s2 _ _ (s1 _ _ he)
  refine ⟨_, rfl, o, _, rfl, k2.raw, _, rfl, A.e, _, rfl, DPut.t he2 (s2 _ _ (s1 _ _ hb.key)) (Nat.lt_of_le_of_lt hlen (by show m < 16777216; omega)), ?_⟩
  have k3 := k2.put_ent he2 hp
  obtain ⟨vs, hl, hvl⟩ := k3.ended
  refine ⟨_, rfl, o, _, rfl, k3.raw, .inl ⟨rfl, _, SqL.of hl⟩, _, rfl, A.l, _, _, rfl, rfl, hl, Nat.lt_of_le_of_lt hvl (by show m + 1 < 16777216; omega), ?_⟩
  refine q _ (fun c u e n1 n2 => ?_) (k3.push hl)
  rw [upd_ne n2, upd_ne n1]
  exact s2 _ _ (s1 _ _ e)
abbrev s_K_wanted : Stmt := inClass (topS 7) 11
abbrev N_K_wanted : List Str := ["self", "step", "key", "value", "needed", "checked", "changed", "other"]
theorem sc_K_wanted : FnScope N_K_wanted ["self", "step"] (defScope s_K_wanted) := ⟨rfl, rfl, rfl, by decide +kernel, rfl, by decide +kernel, by decide +kernel⟩
theorem ok_wanted (F : Fun K "_wanted" "Keeper._wanted" s_K_wanted f fd) (T : NmK K mg aF CK CR CE) (C_Keeper__is_checked : CalM P w K mg base CX0 1 CK "_is_checked" (spIC CK CR aF)) (C_Keeper__changed : CalM P w K mg base CX0 1 CK "_changed" (spCh CK CR aF)) : FnOk P w K mg base CX0 2 f fd ["self", "step"] (spWan CK CR aF) := by
  refine F.ok sc_K_wanted (fun vs H Q E h => ?_) (fun cdv A outer s H vs Q E hr h => ?_)
  · obtain ⟨o, st, b, A, S, rn, lv, av, m, ni, k, i, many, rfl, _⟩ := h
    rfl
  obtain ⟨o, st, b, A, S, rn, lv, av, m, ni, k, i, many, rfl, kh, I, hb, hst, hsl, ⟨g, r, hg⟩, hi, hm, qa, qb, qc⟩ := h
  refine ⟨_, (pss_cons (ps_set (i := 2) sc_K_wanted.nd rfl (Or.inl rfl) (pe_ix (r := rIxL K) ix_list (pv 1) pe_int (fun _ _ => rfl)))
    (pss_cons (ps_if (pt_cmp (pc_dnotin (hu_of hr) (pv 2) (pe_k_entries T (pv 0)))) (pss_one (ps_ret (pv 2))) pss_nil)
    (pss_cons (ps_asg (pe_dget (hu_of hr) (pe_k_entries T (pv 0)) (pv 2) (fun _ _ => rfl)) (pg_tup rfl (pgs_cons (pg_name (i := 3) sc_K_wanted.nd rfl (Or.inl rfl)) (pgs_cons (pg_name (i := 4) sc_K_wanted.nd rfl (Or.inl rfl)) (pgs_cons (pg_name (i := 5) sc_K_wanted.nd rfl (Or.inl rfl)) (pgs_cons (pg_name (i := 6) sc_K_wanted.nd rfl (Or.inl rfl)) pgs_nil))))))
    (pss_cons (ps_if (pt_cmpR op_eq (pv 5) (pe_k_now T (pv 0)) (nomark _)) (pss_one (ps_ret pe_non)) pss_nil)
    (C8.pss_cut (ps_while PassesOwn.never (pt_cmpR op_lt (pe_ix (r := rIxL K) ix_list (pv 1) pe_int (fun _ _ => rfl)) (pe_callB call_len_seq (by rfl) T.len PySem.boot_len (pa_cons (pv 4) pa_nil)) (nomark _)) (pss_cons (ps_set (i := 7) sc_K_wanted.nd rfl (Or.inl rfl) (pe_ix (r := rIxT K) ix_tup (pv 4) (pe_ix (r := rIxL K) ix_list (pv 1) pe_int (fun _ _ => rfl)) (fun _ _ => rfl)))
    (pss_cons (ps_if (PW.pt (pw_and (pt_cmp (pc_dnotin (hu_of hr) (pv 7) (pe_k_inputs T (pv 0)))) (pw_and1 (pt_not (pt_val (pe_m ns_Keeper C_Keeper__is_checked T.cl_Keeper (by decide) hr (by first | decide | omega) pass0 (pv 0) (pa_cons (pv 7) pa_nil))))))) (pss_one (ps_ret (pv 7))) pss_nil)
    (pss_cons (ps_if (pt_cmpR op_gt (pe_m ns_Keeper C_Keeper__changed T.cl_Keeper (by decide) hr (by first | decide | omega) pass0 (pv 0) (pa_cons (pv 7) pa_nil)) (pv 5) (nomark _)) (pss_one (ps_ret (pv 2))) pss_nil)
    (pss_one (ps_augS (pv 1) pe_int get_list pe_int ip_add set_list))))))
    (pss_cons (ps_dput (hu_of hr) (pe_k_entries T (pv 0)) (pv 2) (pe_tup (pa_cons (pv 3) (pa_cons (pv 4) (pa_cons (pe_k_now T (pv 0)) (pa_cons (pv 6) pa_nil))))) rfl)
    (pss_one (ps_ret pe_non)))))))), ?_⟩
  obtain ⟨kvs, he, hlen, hno, hs⟩ := kh.ent
  obtain ⟨kvi, hki, _, hin, his⟩ := kh.inp
  have dg := DGet.t he hb.key
  refine ⟨_, rfl, st, _, _, _, rfl, rfl, SqL.of hst, at_nat (i := 0) rfl, ?_⟩
  refine ⟨_, rfl, _, rfl, o, _, rfl, kh.raw, A.e, _, rfl, dg, _, rfl, ?_⟩
  rcases hs k with ⟨h1, h2⟩ | ⟨p, e, h1, h2, t, bt, h3, hbt, hdep⟩
  · rw [h1]
    refine iteT ⟨_, rfl, ?_⟩
    exact qa H (fun c u e _ => e) ⟨_, hst⟩ kh fun e z => by rw [h2] at z; cases z
  rw [h1] at dg ⊢
  refine iteF ?_
  refine ⟨_, rfl, o, _, rfl, kh.raw, _, rfl, A.e, _, rfl, dg, p, _, rfl, .inl (.inl h3), rfl, _, _, rfl, _, _, rfl, _, _, rfl, _, _, rfl, rfl, ?_⟩
  refine ⟨_, rfl, _, rfl, o, _, rfl, kh.raw, rfl, _, rfl, ?_⟩
  by_cases hnow : e.c = S.now
  · refine iteP (by show V.int (e.c : Int) = V.int (S.now : Int); rw [hnow]) ?_
    exact qc H S (fun c u e _ _ => e) ⟨_, hst⟩ (kh.more (Nat.le_succ m)) I rfl rfl (fun _ _ => rfl) ⟨e, h2, hnow⟩
  refine iteN (fun y => hnow (by injection y with y; exact Int.ofNat.inj y)) ?_
  have un : Un S k := fun e' z => by
    rw [h2] at z
    cases z
    exact hnow
  obtain ⟨rk, _, _⟩ := I.rev _ _ _ hg
  -- the keys that were asked for
  obtain ⟨dps, ht, hl0⟩ : ∃ dps : List V, H t = some (.tup (.ref bt :: dps)) ∧ ((e.d = none ∧ dps = []) ∨ ∃ g' b', e.d = some g' ∧ dps = [.ref b'] ∧ isS H b' g') := by
    rcases hdep with ⟨a, c⟩ | ⟨g', b', a, c, d⟩
    · exact ⟨[], c, .inl ⟨a, rfl⟩⟩
    · exact ⟨[.ref b'], c, .inr ⟨g', b', a, rfl, d⟩⟩
  have frt : ∀ {H' : Hp}, (∀ c u, H c = some u → c ≠ st → H' c = some u) → ∀ {c xs}, H c = some (.tup xs) → H' c = some (.tup xs) := fun {H'} fr {c xs} z => fr _ _ z fun y => by
    rw [y, hst] at z
    cases z
  have frd : ∀ {H' : Hp}, (∀ c u, H c = some u → c ≠ st → H' c = some u) → ∀ {c kvs}, H c = some (.dT kvs) → H' c = some (.dT kvs) := fun {H'} fr {c kvs} z => fr _ _ z fun y => by
    rw [y, hst] at z
    cases z
  have keepK : ∀ {H' : Hp}, (∀ c u, H c = some u → c ≠ st → H' c = some u) → Kh CK CR aF H' o A S rn lv av m ni := fun fr => kh.keep fun c u z hc => fr _ _ z fun y => by
    rcases hc with hc | hc
    · exact hsl (y ▸ hc)
    · rw [y, hst] at z
      cases z
      exact hc
  refine ⟨fun σ H' => ∃ (j : Nat) (ov : Option V), σ = [some (.ref o), some (.ref st), some (.ref b), some (.int e.v), some (.ref t), some (.int (e.c : Int)), some (.int (e.g : Int)), ov] ∧ Stp H' st b j ∧ (∀ c u, H c = some u → c ≠ st → H' c = some u) ∧ j ≤ dps.length + 1 ∧
    (1 ≤ j → r ≤ e.c) ∧ (2 ≤ j → ∃ g' b' e', e.d = some g' ∧ dps = [.ref b'] ∧ S.en g' = some e' ∧ e'.c = S.now ∧ e'.g ≤ e.c) ∧ (j = 0 → i = 0) ∧ dps.length + 1 ≤ j, ?_, ?_⟩
  · refine while_m (fun σ H' => ∃ (j : Nat) (ov : Option V), σ = [some (.ref o), some (.ref st), some (.ref b), some (.int e.v), some (.ref t), some (.int (e.c : Int)), some (.int (e.g : Int)), ov] ∧ Stp H' st b j ∧ (∀ c u, H c = some u → c ≠ st → H' c = some u) ∧ j ≤ dps.length + 1 ∧
      (1 ≤ j → r ≤ e.c) ∧ (2 ≤ j → ∃ g' b' e', e.d = some g' ∧ dps = [.ref b'] ∧ S.en g' = some e' ∧ e'.c = S.now ∧ e'.g ≤ e.c) ∧ (j = 0 → i = 0))
      (fun σ H' => match H' st with
        | some (.lst [_, .int j]) => (3 - j).toNat
        | _ => 0) ?_ ?_
    · rcases hi with rfl | ⟨rfl, ⟨e1, g1, r1, w1, w2, w3, w4⟩, _⟩
      · exact ⟨0, none, rfl, hst, fun _ _ z _ => z, Nat.zero_le _, fun z => absurd z (by decide), fun z => absurd z (by decide), fun _ => rfl⟩
      · rw [h2] at w1
        cases w1
        rw [hg] at w2
        cases w2
        exact ⟨1, none, rfl, hst, fun _ _ z _ => z, by omega, fun _ => w3, fun z => absurd z (by decide), fun z => absurd z (by decide)⟩
    · rintro σ H' ⟨j, ov, rfl, hst', fr, hj, j1, j2, j0⟩
      have kh' := keepK fr
      have ht' := frt fr ht
      refine ⟨_, rfl, st, _, _, _, rfl, rfl, SqL.of hst', at_nat (i := 1) rfl, _, rfl, t, _, rfl, .inr (.inl (.inl ht')), _, _, rfl, rfl, _, rfl, ?_⟩
      refine ite2 (fun hlt => ?_) (fun hge => ⟨j, ov, rfl, hst', fr, hj, j1, j2, j0, ?_⟩)
      rotate_left
      · by_cases z : dps.length + 1 ≤ j
        · exact z
        · exact absurd (decide_eq_true (show (j : Int) < ((((V.ref bt :: dps).length : Nat)) : Int) by rw [List.length_cons]; omega)) hge
      have hlt : j < dps.length + 1 := by
        have := of_decide_eq_true hlt
        rw [List.length_cons] at this
        omega
      refine wN ?_
      have mu : ∀ {σ' : L2.St} {H2 : Hp} {j' : Nat}, Stp H2 st b j' → j < j' → j' ≤ 2 → (match H2 st with
        | some (.lst [_, .int j]) => (3 - j).toNat
        | _ => 0) < (match H' st with
        | some (.lst [_, .int j]) => (3 - j).toNat
        | _ => 0) := fun {σ' H2 j'} a c d => by
        rw [a, hst']
        show ((3 : Int) - (j' : Int)).toNat < ((3 : Int) - (j : Int)).toNat
        omega
      -- one step more
      have more : ∀ (x : Option V), r ≤ e.c → (j + 1 ≤ 2) → (2 ≤ j + 1 → ∃ g' b' e', e.d = some g' ∧ dps = [.ref b'] ∧ S.en g' = some e' ∧ e'.c = S.now ∧ e'.g ≤ e.c) →
          ∀ H2, H2 = upd H' st (.lst [.ref b, .int ((j : Int) + 1)]) → Stp H2 st b ((j + 1 : Nat) : Int) ∧ (∀ c u, H c = some u → c ≠ st → H2 c = some u) := fun x _ _ _ H2 e2 => by
        subst e2
        exact ⟨upd_same, fun c u z n => by rw [upd_ne n]; exact fr c u z n⟩
      cases j with
      | zero =>
        have i0 := j0 rfl
        have hbt' := frt fr hbt
        rcases his k with ⟨_, y⟩ | ⟨pk, gk, rk', y1, y2, y3⟩
        · rw [hg] at y
          cases y
        rw [hg] at y2
        cases y2
        have dgi : DGet H' A.i (.ref bt) (some (.ref pk)) := by
          rw [← y1]
          exact DGet.t (frd fr hki) hbt'
        refine ⟨_, rfl, _, rfl, st, _, _, _, rfl, rfl, SqL.of hst', at_nat (i := 1) rfl, t, _, _, _, rfl, rfl, .inl (.inl ht'), at_nat (i := 0) rfl, ?_⟩
        refine ⟨_, rfl, _, rfl, o, _, rfl, kh'.raw, A.i, _, rfl, dgi, _, rfl, iteF ?_⟩
        refine ⟨_, rfl, o, rfl, kh'.raw.isI, _, rfl, o, bt, A, S, rn, lv, av, m, ni, k, rfl, kh', .inl ⟨hbt', g, r, hg, ?_⟩⟩
        refine ⟨_, rfl, _, _, rfl, rfl, _, rfl, ?_⟩
        refine ite2 (fun hgt => ⟨_, rfl, qa H' fr ⟨_, hst'⟩ kh' un⟩) (fun hng => ?_)
        have hrc : r ≤ e.c := by
          by_cases z : r ≤ e.c
          · exact z
          · exact absurd (decide_eq_true (show (e.c : Int) < (r : Int) by omega)) hng
        refine ⟨_, rfl, st, _, 1, _, rfl, rfl, hst', rfl, _, _, rfl, rfl, st, _, _, 1, rfl, rfl, hst', rfl, ?_⟩
        obtain ⟨m1, m2⟩ := more none hrc (by decide) (fun z => absurd z (by decide)) _ rfl
        exact ⟨⟨1, _, rfl, m1, m2, by omega, fun _ => hrc, fun z => absurd z (by decide), fun z => absurd z (by decide)⟩, mu (σ' := []) m1 (by decide) (by decide)⟩
      | succ j =>
        have hrc := j1 (by omega)
        obtain ⟨g', b', hd', hdp, hb'⟩ : ∃ g' b', e.d = some g' ∧ dps = [.ref b'] ∧ isS H b' g' := by
          rcases hl0 with ⟨_, z⟩ | z
          · subst z
            simp at hlt
          · exact z
        subst hdp
        have j0' : j = 0 := by
          have : [V.ref b'].length = 1 := rfl
          omega
        subst j0'
        -- the dep is the goal
        obtain ⟨i40, i41⟩ := I.i4 _ _ _ _ h2 hg hrc
        obtain ⟨gn, rfl⟩ : ∃ gn : Nat, g = (gn : Int) := by
          by_cases z : g < 0
          · rw [(i40 z).1] at hd'
            cases hd'
          · exact ⟨g.toNat, by omega⟩
        obtain ⟨i42, ink, e', he', i43⟩ := i41 gn rfl
        rw [i42] at hd'
        injection hd' with hd'
        subst hd'
        have hbs : isS H' b' gn := frt fr hb'
        have kh0 := kh'
        obtain ⟨kv', hki', _, hin', _⟩ := kh'.inp
        have dgi : DGet H' A.i (.ref b') none := by
          rw [← hin' gn]
          exact DGet.t hki' hbs.key
        refine ⟨_, rfl, _, rfl, st, _, _, _, rfl, rfl, SqL.of hst', at_nat (i := 1) rfl, t, _, _, _, rfl, rfl, .inl (.inl ht'), at_nat (i := 1) rfl, ?_⟩
        refine ⟨_, rfl, _, rfl, o, _, rfl, kh'.raw, A.i, _, rfl, dgi, _, rfl, iteT ?_⟩
        refine ⟨_, rfl, o, rfl, kh'.raw.isI, _, rfl, o, b', A, S, rn, lv, av, m, ni, gn, rfl, kh', hbs, ?_⟩
        by_cases hc' : e'.c = S.now
        · rw [chk_t he' hc']
          refine ⟨_, rfl, ?_⟩
          refine iteF ?_
          refine ⟨_, rfl, o, rfl, kh'.raw.isI, _, rfl, o, b', A, S, rn, lv, av, m, ni, gn, rfl, kh', .inr ⟨hbs, e', he', ?_⟩⟩
          refine ⟨_, rfl, _, _, rfl, rfl, _, rfl, ?_⟩
          refine ite2 (fun hgt => ⟨_, rfl, qa H' fr ⟨_, hst'⟩ kh' un⟩) (fun hng => ?_)
          have hge : e'.g ≤ e.c := by
            by_cases z : e'.g ≤ e.c
            · exact z
            · exact absurd (decide_eq_true (show (e.c : Int) < (e'.g : Int) by omega)) hng
          refine ⟨_, rfl, st, _, 1, _, rfl, rfl, hst', rfl, _, _, rfl, rfl, st, _, _, 1, rfl, rfl, hst', rfl, ?_⟩
          have two : 2 ≤ 0 + 1 + 1 → ∃ g'' b'' e'', e.d = some g'' ∧ [V.ref b'] = [V.ref b''] ∧ S.en g'' = some e'' ∧ e''.c = S.now ∧ e''.g ≤ e.c := fun _ => ⟨gn, b', e', i42, rfl, he', hc', hge⟩
          obtain ⟨m1, m2⟩ := more none hrc (by decide) two _ rfl
          exact ⟨⟨2, _, rfl, m1, m2, Nat.le_refl _, fun _ => hrc, two, fun z => absurd z (by decide)⟩, mu (σ' := []) m1 (by decide) (by decide)⟩
        · rw [chk_f he' hc']
          refine ⟨_, rfl, ?_⟩
          refine iteT ⟨_, rfl, ?_⟩
          rcases hi with rfl | ⟨rfl, _, dn⟩
          · exact qb H' b' gn r rfl fr hst' kh' ⟨e, _, r, h2, hg, hrc, hnow⟩ hg (fun e2 z => by rw [he'] at z; cases z; exact hc') ink hbs
          · obtain ⟨e2, z1, z2⟩ := dn gn r hg
            rw [he'] at z1
            cases z1
            exact absurd z2 hc'
  · rintro σ H' ⟨j, ov, rfl, hst', fr, hj, j1, j2, j0, hend⟩
    have kh' := keepK fr
    have hrc : r ≤ e.c := j1 (by omega)
    refine ⟨_, rfl, _, rfl, _, rfl, o, _, rfl, kh'.raw, _, rfl, by show 4 ≤ sizeLine; decide, fun p2 np => ?_⟩
    have s2 := same_new (o := .tup [.int e.v, .ref t, (kfo aF A S.now av).now, .int (e.g : Int)]) np
    have k2 := kh'.same s2
    have hp : EntV (upd H' p2 (.tup [.int e.v, .ref t, (kfo aF A S.now av).now, .int (e.g : Int)])) p2 k ⟨e.v, e.d, S.now, e.g⟩ := by
      refine ⟨t, bt, upd_same, s2 _ _ (frt fr hbt), ?_⟩
      rcases hdep with ⟨a, c⟩ | ⟨g', b', a, c, d⟩
      · exact .inl ⟨a, s2 _ _ (frt fr c)⟩
      · exact .inr ⟨g', b', a, s2 _ _ (frt fr c), s2 _ _ (frt fr d)⟩
    have he2 := s2 _ _ (frd fr he)
    have hst2 := s2 _ _ hst'
    have fr2 : ∀ c u, H c = some u → c ≠ st → upd H' p2 (.tup [.int e.v, .ref t, (kfo aF A S.now av).now, .int (e.g : Int)]) c = some u := fun c u z n => s2 _ _ (fr c u z n)
    generalize upd H' p2 (.tup [.int e.v, .ref t, (kfo aF A S.now av).now, .int (e.g : Int)]) = H2 at s2 k2 hp he2 hst2 fr2 ⊢
    refine ⟨_, rfl, o, _, rfl, k2.raw, _, rfl, A.e, _, rfl, DPut.t he2 (frt fr2 hb.key) (Nat.lt_of_le_of_lt hlen (by show m < 16777216; omega)), ?_⟩
    have k3 := k2.put_ent he2 hp
    have hse : st ≠ A.e := fun z => by rw [z, he2] at hst2; cases hst2
    obtain ⟨_, r2, r3⟩ := I.ran _ _ h2
    obtain ⟨i40, i41⟩ := I.i4 _ _ _ _ h2 hg hrc
    refine qc _ ⟨S.now, S.go, ups S.en k ⟨e.v, e.d, S.now, e.g⟩⟩ (fun c u z n1 n2 => ?_) ⟨_, (upd_ne hse).trans hst2⟩ k3 (I.set un hg rfl (by show e.g ≤ S.now; omega) i40 (fun mm hmm => ?_) (fun e0 z => ?_)) rfl rfl (fun j hj => ups_ne hj) ⟨_, ups_at, rfl⟩
    · rw [upd_ne n2]
      exact fr2 c u z n1
    · obtain ⟨a1, _, e', a2, a3⟩ := i41 mm hmm
      have hj2 : 2 ≤ j := by
        rcases hl0 with ⟨y, _⟩ | ⟨g', b', y, z, _⟩
        · rw [a1] at y
          cases y
        · rw [z] at hend
          exact hend
      obtain ⟨g', b', e2, y1, _, y3, y4, y5⟩ := j2 hj2
      rw [a1] at y1
      injection y1 with y1
      subst y1
      rw [a2] at y3
      cases y3
      exact ⟨a1, e', a2, y4, a3 y5⟩
    · rw [h2] at z
      cases z
      exact .inl ⟨rfl, rfl⟩
end

end Sn

namespace Sn
open PySem PySem.Spec PyProof.Rows L2 TL
/-! ### a key asked for -/
def AvOk (H : Hp) (A : KAd) (av : V) : Prop := av = .non ∨ ∃ (d : Addr) (as : List (List L2.Key × V)), av = .ref d ∧ H d = some (.dT as) ∧ as.length ≤ 1000 ∧ d ≠ A.i ∧ d ≠ A.e ∧ d ≠ A.r
def AvP (av : V) (key : List L2.Key) (H H' : Hp) : Prop := ∀ (d : Addr) (as : List (List L2.Key × V)), av = .ref d → H d = some (.dT as) → H' d = some (.dT (putK as key (.bl true)))
def cB : Nat → Nat
  | 0 => 0
  | n + 1 => 18 + 6 * cB n
structure Pre (CK CR aF : Addr) (n many : Nat) (H : Hp) (o : Addr) (A : KAd) (S : KS) (rn : Nat → Option Addr) (lv : List Nat) (av : V) (m ni : Nat) : Prop where
  kh : Kh CK CR aF H o A S rn lv av m ni
  ki : KI many S
  le : many ≤ 6
  nd : lv.Nodup
  lt : ∀ x ∈ lv, x < 6
  un : ∀ x ∈ lv, Un S x
  bud : 7 ≤ n + lv.length
  clo : ∀ j g r, S.go j = some (g, r) → ∀ m : Nat, g = m → ∃ g' r', S.go m = some (g', r')
  avk : AvOk H A av
  sz : m + cB n ≤ 15000000
/-- how it comes out -/
def Out (CK CR aF : Addr) (n many : Nat) (H : Hp) (o : Addr) (A : KAd) (S : KS) (rn : Nat → Option Addr) (lv : List Nat) (av : V) (m ni : Nat) (P : Hp → KS → Prop) : Prop :=
  ∀ H' S' rn' m', Fr o A av H H' → Kh CK CR aF H' o A S' rn' lv av m' ni → KI many S' → Lat lv S S' → (∀ x ∈ lv, rn' x = rn x) → m' ≤ m + cB n → P H' S'
def spAsk (CK CR aF CE : Addr) (n : Nat) : Sp := fun vs H Q E => ∃ o b A S rn lv av m ni k many, vs = [.ref o, .ref b] ∧ Pre CK CR aF n many H o A S rn lv av m ni ∧ (∃ g r, S.go k = some (g, r)) ∧
  ((isT H b k ∧ ∀ g r H', S.go k = some (g, r) → Fr o A av H H' → Kh CK CR aF H' o A S rn lv av m ni → AvP av (kT k) H H' → Q (.int g) H') ∨
   (isS H b k ∧ (∀ x ∈ lv, Leads S.go x k) ∧
     Out CK CR aF n many H o A S rn lv av m ni (fun H' S' => AvP av (kS k) H H' → ∀ e, S'.en k = some e → e.c = S.now → Q (.int e.v) H') ∧
     Out CK CR aF n many H o A S rn lv av m ni (fun H' _ => (∀ n s, ¬ Ends S.go k n s) → E (.ref CE) none H')))
/-- the value of a key as its goal has it -/
def Val (S : KS) (k : Nat) (v : Int) (dp : Option Nat) : Prop := ∀ g r, S.go k = some (g, r) → (g < 0 → dp = none ∧ v = k) ∧ ∀ m : Nat, g = m → dp = some m ∧ ∃ e', S.en m = some e' ∧ e'.c = S.now ∧ v = k + e'.v
def spChain (CK CR aF CE : Addr) (n : Nat) : Sp := fun vs H Q E => ∃ o b A S rn lv d m ni k many, vs = [.ref o, .ref b] ∧ Pre CK CR aF n many H o A S rn lv (.ref d) m ni ∧ H d = some (.dT []) ∧ isS H b k ∧ (∃ g r, S.go k = some (g, r)) ∧ (∀ x ∈ lv, x = k ∨ Leads S.go x k) ∧
  Out CK CR aF n many H o A S rn lv (.ref d) m ni (fun H' S' => ∀ v dp as, H' d = some (.dT as) → AskD as k dp → Val S' k v dp → Q (.int v) H') ∧
  Out CK CR aF n many H o A S rn lv (.ref d) m ni (fun H' _ => (∀ n s, ¬ Ends S.go k n s) → E (.ref CE) none H')
theorem Pre.same {CK CR aF : Addr} {n many : Nat} {H H' : Hp} {o : Addr} {A : KAd} {S : KS} {rn : Nat → Option Addr} {lv : List Nat} {av : V} {m ni : Nat} (p : Pre CK CR aF n many H o A S rn lv av m ni) (s : Same H H') : Pre CK CR aF n many H' o A S rn lv av m ni :=
  ⟨p.kh.same s, p.ki, p.le, p.nd, p.lt, p.un, p.bud, p.clo, p.avk.elim .inl fun ⟨d, as, a, b, c⟩ => .inr ⟨d, as, a, s _ _ b, c⟩, p.sz⟩
theorem Fr.of {o : Addr} {A : KAd} {av : V} {H H' : Hp} (s : Same H H') : Fr o A av H H' := fun b u e _ _ _ _ _ => s b u e
theorem Fr.trans {o : Addr} {A : KAd} {av : V} {H H1 H2 : Hp} (a : Fr o A av H H1) (b : Fr o A av H1 H2) : Fr o A av H H2 := fun c u e n1 n2 n3 n4 n5 => b c u (a c u e n1 n2 n3 n4 n5) n1 n2 n3 n4 n5
theorem Fr.tup {CK CR aF : Addr} {H H' : Hp} {o : Addr} {A : KAd} {S : KS} {rn : Nat → Option Addr} {lv : List Nat} {av : V} {m ni : Nat} (f : Fr o A av H H') (k : Kh CK CR aF H o A S rn lv av m ni) (ao : AvOk H A av) {b : Addr} {xs : List V} (h : H b = some (.tup xs)) : H' b = some (.tup xs) := by
  have ne : ∀ {c u}, H c = some u → u ≠ .tup xs → b ≠ c := fun e n z => by
    rw [← z, h] at e
    injection e with e
    exact n e.symm
  obtain ⟨dx, e1⟩ := k.raw
  obtain ⟨_, e2, _⟩ := k.ent
  obtain ⟨_, e3, _⟩ := k.run
  obtain ⟨_, e4, _⟩ := k.ended
  refine f b _ h (ne e1 fun z => nomatch z) (ne e2 fun z => nomatch z) (ne e3 fun z => nomatch z) (ne e4 fun z => nomatch z) fun z => ?_
  rcases ao with rfl | ⟨d, as, rfl, hd, _⟩
  · cases z
  · exact ne hd (fun z => nomatch z) (by injection z)
section
variable {P : Program} {w : World} {K : PySem.W.Frag} {mg : Str → Option Value} {base : Heap} {f : Addr} {fd : FuncData} {CK CR CE aF : Addr}
abbrev s_l_chain : Stmt := topS 14
abbrev N_l_chain : List Str := ["keeper", "key", "goal"]
theorem sc_l_chain : FnScope N_l_chain ["keeper", "key"] (defScope s_l_chain) := ⟨rfl, rfl, rfl, by decide +kernel, rfl, by decide +kernel, by decide +kernel⟩
theorem ok_l_chain {n L : Nat} (F : Fun K "_law_chain" "_law_chain" s_l_chain f fd) (T : NmK K mg aF CK CR CE) (C_Keeper_ask : CalM P w K mg base (L2.CX P w) L CK "ask" (spAsk CK CR aF CE n)) : FnOk P w K mg base (L2.CX P w) (L + 1) f fd ["keeper", "key"] (spChain CK CR aF CE n) := by
  refine F.okX sc_l_chain (fun vs H Q E h => ?_) (fun cdv A outer s H vs Q E hr h => ?_)
  · obtain ⟨o, b, A, S, rn, lv, d, m, ni, k, many, rfl, _⟩ := h
    rfl
  obtain ⟨o, b, A, S, rn, lv, d, m, ni, k, many, rfl, pre, hd, hb, ⟨g, r, hg⟩, hlv, q, qe⟩ := h
  refine ⟨_, (pss_cons (ps_set (i := 2) sc_l_chain.nd rfl (Or.inl rfl) (pe_m ns_Keeper C_Keeper_ask T.cl_Keeper (by decide) hr (by first | decide | omega) (passes_call (takes_of rfl rfl rfl rfl) (fun _ _ _ _ h => h)) (pv 0) (pa_cons (pe_tup (pa_cons pe_str (pa_cons (pe_ix (r := rIxT K) ix_tup (pv 1) pe_int (fun _ _ => rfl)) pa_nil))) pa_nil)))
    (pss_cons (ps_if (pt_cmpR op_lt (pv 2) pe_int (nomark _)) (pss_one (ps_ret (pe_ix (r := rIxT K) ix_tup (pv 1) pe_int (fun _ _ => rfl)))) pss_nil)
    (pss_one (ps_ret (pe_op op_add (pe_ix (r := rIxT K) ix_tup (pv 1) pe_int (fun _ _ => rfl)) (pe_m ns_Keeper C_Keeper_ask T.cl_Keeper (by decide) hr (by first | decide | omega) (passes_call (takes_of rfl rfl rfl rfl) (fun _ _ _ _ h => h)) (pv 0) (pa_cons (pe_tup (pa_cons pe_str (pa_cons (pv 2) pa_nil))) pa_nil))))))), ?_⟩
  refine ⟨_, rfl, o, rfl, pre.kh.raw.isI, _, rfl, b, _, _, _, rfl, rfl, .inl (.inl hb), at_nat (i := 1) rfl, by show 2 ≤ sizeLine; decide, fun bt nt => ?_⟩
  have s1 := same_new (o := .tup [.str "to", .int (k : Int)]) nt
  have p1 := pre.same s1
  have hd1 := s1 _ _ hd
  refine ⟨o, bt, A, S, rn, lv, .ref d, m, ni, k, many, rfl, p1, ⟨g, r, hg⟩, .inl ⟨upd_same, fun g' r' H2 hg' fr2 kh2 av2 => ?_⟩⟩
  rw [hg] at hg'
  cases hg'
  have hb2 : isS H2 b k := fr2.tup p1.kh p1.avk (s1 _ _ hb)
  have hd2 := av2 d [] rfl hd1
  have hp2 : putK ([] : List (List L2.Key × V)) (kT k) (.bl true) = [(kT k, .bl true)] := rfl
  rw [hp2] at hd2
  have fr02 : Fr o A (.ref d) H H2 := (Fr.of s1).trans fr2
  refine ⟨_, rfl, _, _, rfl, rfl, _, rfl, ?_⟩
  refine ite2 (fun hneg => ?_) (fun hpos => ?_)
  · have hneg : g < 0 := of_decide_eq_true hneg
    refine ⟨_, rfl, b, _, _, _, rfl, rfl, .inl (.inl hb2), at_nat (i := 1) rfl, ?_⟩
    exact q H2 S rn m fr02 kh2 p1.ki Lat.refl (fun _ _ => rfl) (Nat.le_add_right _ _) k none _ hd2 ⟨_, rfl⟩ fun g' r' hg' => by
      rw [hg] at hg'
      cases hg'
      exact ⟨fun _ => ⟨rfl, rfl⟩, fun m' z => by omega⟩
  · have hpos : ¬ g < 0 := fun z => hpos (decide_eq_true z)
    obtain ⟨gn, rfl⟩ : ∃ gn : Nat, g = (gn : Int) := ⟨g.toNat, by omega⟩
    refine ⟨_, rfl, b, _, _, _, rfl, rfl, .inl (.inl hb2), at_nat (i := 1) rfl, ?_⟩
    refine ⟨_, rfl, o, rfl, kh2.raw.isI, _, rfl, by show 2 ≤ sizeLine; decide, fun bs ns => ?_⟩
    have s3 := same_new (o := .tup [.str "sum", .int (gn : Int)]) ns
    have ao2 : AvOk H2 A (.ref d) := by
      rcases p1.avk with z | ⟨d', as, z, _, _, n1, n2, n3⟩
      · cases z
      · injection z with z
        subst z
        exact .inr ⟨d, _, rfl, hd2, (by show 1 ≤ 1000; decide), n1, n2, n3⟩
    have p3 : Pre CK CR aF n many H2 o A S rn lv (.ref d) m ni := ⟨kh2, pre.ki, pre.le, pre.nd, pre.lt, pre.un, pre.bud, pre.clo, ao2, pre.sz⟩
    have p4 := p3.same s3
    have hd4 := s3 _ _ hd2
    have ld : ∀ x ∈ lv, Leads S.go x gn := fun x hx => by
      rcases hlv x hx with rfl | z
      · exact .one hg
      · exact z.snoc hg
    have fr04 : Fr o A (.ref d) H (upd H2 bs (.tup [.str "sum", .int (gn : Int)])) := fr02.trans (Fr.of s3)
    refine ⟨o, bs, A, S, rn, lv, .ref d, m, ni, gn, many, rfl, p4, pre.clo _ _ _ hg gn rfl, .inr ⟨upd_same, ld, fun H5 S5 rn5 m5 fr5 kh5 ki5 la5 rn5e m5e avp e he hc => ?_, fun H5 S5 rn5 m5 fr5 kh5 ki5 la5 rn5e m5e no => ?_⟩⟩
    · have hd5 := avp d _ rfl hd4
      have hp5 : putK [(kT k, V.bl true)] (kS gn) (.bl true) = [(kT k, .bl true), (kS gn, .bl true)] := putK_new _ (by rw [valV_neg (fun z => kST z.symm)]; rfl)
      rw [hp5] at hd5
      refine ⟨_, _, rfl, rfl, ?_⟩
      exact q H5 S5 rn5 m5 (fr04.trans fr5) kh5 ki5 la5 rn5e m5e _ (some gn) _ hd5 ⟨_, _, rfl⟩ fun g' r' hg' => by
        rw [la5.go, hg] at hg'
        cases hg'
        refine ⟨fun z => absurd z (by omega), fun m' z => ?_⟩
        obtain rfl := Int.ofNat.inj z
        exact ⟨rfl, e, he, by rw [hc, la5.now], rfl⟩
    · exact qe H5 S5 rn5 m5 (fr04.trans fr5) kh5 ki5 la5 rn5e m5e (noEnds hg no)
end

end Sn

namespace Sn
open PySem PySem.Spec PyProof.Rows L2 TL
/-! ### ask: the path -/
structure It where
  k : Nat
  st : Addr
  b : Addr
def ks (rev : List It) : List Nat := rev.reverse.map It.k
def sts (rev : List It) : List V := rev.reverse.map fun x => V.ref x.st
theorem ks_cons {x : It} {r : List It} : ks (x :: r) = ks r ++ [x.k] := by unfold ks; rw [List.reverse_cons, List.map_append]; rfl
theorem sts_cons {x : It} {r : List It} : sts (x :: r) = sts r ++ [V.ref x.st] := by unfold sts; rw [List.reverse_cons, List.map_append]; rfl
theorem ks_len {r : List It} : (ks r).length = r.length := by unfold ks; rw [List.length_map, List.length_reverse]
theorem sts_len {r : List It} : (sts r).length = r.length := by unfold sts; rw [List.length_map, List.length_reverse]
theorem mem_ks {x : It} {r : List It} (h : x ∈ r) : x.k ∈ ks r := List.mem_map.mpr ⟨x, List.mem_reverse.mpr h, rfl⟩
theorem of_ks {k : Nat} {r : List It} (h : k ∈ ks r) : ∃ x ∈ r, x.k = k := by
  obtain ⟨x, a, b⟩ := List.mem_map.mp h
  exact ⟨x, List.mem_reverse.mp a, b⟩
theorem atI_last {xs : List V} {v : V} : atI (xs ++ [v]) (-1) = some v := by
  have h : ixN (xs ++ [v]).length (-1) = some xs.length := by
    rw [List.length_append, List.length_singleton]
    unfold ixN
    rw [if_neg (by decide)]
    simp
    omega
  unfold atI
  rw [h]
  show (xs ++ [v])[xs.length]? = some v
  simp
/-- the keys below wait for the one above -/
def Below (S : KS) (H : Hp) (k0 : Nat) : Nat → List It → Prop
  | k, [] => k = k0
  | k, x :: r => (∃ q, S.go x.k = some ((k : Int), q)) ∧ Wait S x.k ∧ Stp H x.st x.b 1 ∧ Below S H k0 x.k r
theorem Below.leads {S : KS} {H : Hp} {k0 : Nat} : ∀ {k : Nat} {r : List It}, Below S H k0 k r → ∀ x ∈ r, Leads S.go x.k k
  | k, x :: r, h, y, hy => by
    obtain ⟨⟨q, e⟩, _, _, h⟩ := h
    rcases List.mem_cons.mp hy with rfl | hy
    · exact .one e
    · exact (Below.leads h y hy).snoc e
theorem Below.frm {S : KS} {H : Hp} {k0 : Nat} {y : Nat} (hy : Leads S.go y k0) : ∀ {k : Nat} {r : List It}, Below S H k0 k r → Leads S.go y k
  | k, [], h => by
    have h : k = k0 := h
    rw [h]
    exact hy
  | k, x :: r, h => by
    obtain ⟨⟨q, e⟩, _, _, h⟩ := h
    exact (Below.frm hy h).snoc e
theorem Below.no {S : KS} {H : Hp} {k0 : Nat} : ∀ {k : Nat} {r : List It}, Below S H k0 k r → (∀ n s, ¬ Ends S.go k n s) → ∀ n s, ¬ Ends S.go k0 n s
  | k, [], h, no => by
    have h : k = k0 := h
    rw [← h]
    exact no
  | k, x :: r, h, no => by
    obtain ⟨⟨q, e⟩, _, _, h⟩ := h
    exact Below.no h (noEnds e no)
theorem Below.keep {S S2 : KS} {H H2 : Hp} {k0 : Nat} (hn : S2.now = S.now) (hg : S2.go = S.go) : ∀ {k : Nat} {r : List It}, Below S H k0 k r → (∀ x ∈ r, S2.en x.k = S.en x.k) → (∀ x ∈ r, ∀ i, Stp H x.st x.b i → Stp H2 x.st x.b i) → Below S2 H2 k0 k r
  | k, [], h, _, _ => h
  | k, x :: r, h, he, hs => by
    obtain ⟨⟨q, e⟩, ⟨e1, g, r', w1, w2, w3, w4⟩, s, h⟩ := h
    exact ⟨⟨q, by rw [hg]; exact e⟩, ⟨e1, g, r', by rw [he x List.mem_cons_self]; exact w1, by rw [hg]; exact w2, w3, by rw [hn]; exact w4⟩, hs x List.mem_cons_self _ s,
      Below.keep hn hg h (fun y hy => he y (List.mem_cons_of_mem _ hy)) fun y hy => hs y (List.mem_cons_of_mem _ hy)⟩
/-- a frame for the loop -/
def Fl (o : Addr) (A : KAd) (H H' : Hp) : Prop := ∀ c u, H c = some u → c ≠ o → c ≠ A.e → c ≠ A.r → c ≠ A.l → H' c = some u
/-- what does not change in the loop -/
structure LC (CK CR aF : Addr) (n many : Nat) (H0 : Hp) (o : Addr) (A : KAd) (S : KS) (rn : Nat → Option Addr) (lv : List Nat) (av : V) (m ni k0 pa pr : Addr) : Prop where
  pre : Pre CK CR aF (n + 1) many H0 o A S rn lv av m ni
  ld : ∀ x ∈ lv, Leads S.go x k0
  hl0 : ∀ x ∈ lv, rn x ≠ some pr
  pal : pa ≠ A.l
/-- how far it has come -/
structure LI (CK CR aF : Addr) (H0 : Hp) (o : Addr) (A : KAd) (S : KS) (rn : Nat → Option Addr) (lv : List Nat) (av : V) (ni many pa pr : Nat) (H' : Hp) (S' : KS) (rn' : Nat → Option Addr) (m' : Nat) (av' : V) (rev : List It) : Prop where
  fr : Fl o A H0 H'
  kh : Kh CK CR aF H' o A S' rn' (lv ++ ks rev) av' m' ni
  ki : KI many S'
  la : Lat lv S S'
  rl : ∀ x ∈ lv, rn' x = rn x
  nd : (lv ++ ks rev).Nodup
  lt : ∀ x ∈ lv ++ ks rev, x < 6
  hpa : H' pa = some (.lst (sts rev))
  rk : ∀ x ∈ ks rev, rn' x = some pr
  its : ∀ x ∈ rev, isS H' x.b x.k ∧ x.st ≠ A.l ∧ x.st ≠ pa ∧ (∃ i, Stp H' x.st x.b i) ∧ H0 x.st = none ∧ ∃ g r, S.go x.k = some (g, r)
  sn : (rev.map It.st).Nodup
/-- going down, or coming back -/
def Ph (S S' : KS) (H' : Hp) (n m m' k0 : Nat) : List It → Prop
  | [] => (∃ e, S'.en k0 = some e ∧ e.c = S.now) ∧ m' ≤ m + cB (n + 1)
  | top :: rest => Below S' H' k0 top.k rest ∧ (Stp H' top.st top.b 0 ∧ m' ≤ m + (rest.length + 1) ∨ Stp H' top.st top.b 1 ∧ Wait S' top.k ∧ Done S' top.k ∧ m' + (rest.length + 1) * (cB n + 2) ≤ m + cB (n + 1))
def mu (pa : Addr) (H' : Hp) : Nat := match H' pa with
  | some (.lst xs) => match xs.getLast? with
    | some (.ref st) => match H' st with
      | some (.lst [_, .int j]) => if j = 0 then 20 - xs.length else xs.length
      | _ => 0
    | _ => 0
  | _ => 0
theorem mu_top {pa : Addr} {H' : Hp} {x : It} {r : List It} {j : Int} (hp : H' pa = some (.lst (sts (x :: r)))) (hs : Stp H' x.st x.b j) : mu pa H' = if j = 0 then 20 - (r.length + 1) else r.length + 1 := by
  have e : (sts (x :: r)).getLast? = some (.ref x.st) := by rw [sts_cons]; simp
  have e2 : (sts (x :: r)).length = r.length + 1 := by rw [sts_len]; rfl
  have hs : H' x.st = some (.lst [.ref x.b, .int j]) := hs
  unfold mu
  rw [hp]
  simp only [e, hs, e2]
theorem mu_nil {pa : Addr} {H' : Hp} (hp : H' pa = some (.lst (sts []))) : mu pa H' = 0 := by
  unfold mu
  rw [hp]
  rfl
theorem cB_eq (n : Nat) : cB (n + 1) = 6 + 6 * (cB n + 2) := by show 18 + 6 * cB n = _; omega
/-- the path is short -/
theorem LI.short {CK CR aF : Addr} {H0 : Hp} {o : Addr} {A : KAd} {S : KS} {rn : Nat → Option Addr} {lv : List Nat} {av : V} {ni many pa pr : Nat} {H' : Hp} {S' : KS} {rn' : Nat → Option Addr} {m' : Nat} {av' : V} {rev : List It} (L : LI CK CR aF H0 o A S rn lv av ni many pa pr H' S' rn' m' av' rev) : lv.length + rev.length ≤ 6 := by
  have h := nodup_le L.nd L.lt
  rw [List.length_append, ks_len] at h
  exact h
theorem eqv_key (a b : Nat) : PyData.eqv (.tuple [.str "sum", .int (a : Int)]) (.tuple [.str "sum", .int (b : Int)]) = decide (a = b) := by
  have e : PyData.eqv (.tuple [.str "sum", .int (a : Int)]) (.tuple [.str "sum", .int (b : Int)]) = ((("sum" : Str) == ("sum" : Str)) && (((a : Int) == (b : Int)) && true)) := by
    rw [PyData.eqv, PyData.eqvAll, PyData.eqvAll, PyData.eqvAll, PyData.eqv, PyData.eqv]
  rw [e]
  by_cases h1 : a = b <;> simp [h1] <;> omega
theorem key_shaped (s : Nat) : SeqAt.shaped (.tuple [.str "sum", .int (s : Int)]) = true := by
  unfold SeqAt.shaped
  rw [Bool.and_eq_true]
  exact ⟨by kernel_rfl, decide_eq_true (show 1 ≤ 64 by decide)⟩
theorem dp_key {K : PySem.W.Frag} {H : Hp} {b k : Nat} (h : isS H b k) : Dp K H (.ref b) (.tuple [.str "sum", .int (k : Int)]) := .tup (.inl (.inl h)) (.cons (.str _) (.cons (.int _) .nil))
theorem po_tr {X : Cx} {pn : List (Addr × Obj)} {xe : Value → Shared → Prop} (h : PassesOwn (model X.prog X.w) X.A X.env xe) : PassesOwn (model (X.tr pn xe).prog (X.tr pn xe).w) (X.tr pn xe).A (X.tr pn xe).env (X.tr pn xe).xe := h
theorem bmK {X : Cx} {K : PySem.W.Frag} {T : String} {r : V → List V → Hp → VK → Prop} {to : TE} {t : TA} {e : Expr} (hK : X.K = K) (h : PE X e (tBM X.K T r to t)) : PE X e (tBM K T r to t) := hK ▸ h
theorem bm0K {X : Cx} {K : PySem.W.Frag} {T : String} {r : V → List V → Hp → VK → Prop} {to : TE} {e : Expr} (hK : X.K = K) (h : PE X e (tBM0 X.K T r to)) : PE X e (tBM0 K T r to) := hK ▸ h
theorem truK {X : Cx} {K : PySem.W.Frag} {ta : TE} {e : Expr} (hK : X.K = K) (h : PT X e (fun σ H Q => ta σ H fun x H' => ∃ k, TruV X.K x H' k ∧ Q k H')) : PT X e (fun σ H Q => ta σ H fun x H' => ∃ k, TruV K x H' k ∧ Q k H') := hK ▸ h
theorem fldK {X : Cx} {K : PySem.W.Frag} {ta tv : TE} {f : Str} {st : Stmt} (hK : X.K = K) (h : PS X st (sFld X.K ta tv f)) : PS X st (sFld K ta tv f) := hK ▸ h
theorem ts_no {H : Hp} {b j k : Nat} (a : isT H b j) (c : isS H b k) : False := by
  have a : H b = some (.tup [.str "to", .int (j : Int)]) := a
  have c : H b = some (.tup [.str "sum", .int (k : Int)]) := c
  rw [a] at c
  injection c with c
  injection c with c
  injection c with c
  injection c with c
  exact absurd c (by decide)
theorem Kh.other {CK CR aF : Addr} {H : Hp} {o : Addr} {A : KAd} {S : KS} {rn : Nat → Option Addr} {lv : List Nat} {av : V} {m ni : Nat} {d : Addr} {kvs k2 : List (List L2.Key × V)} (h : Kh CK CR aF H o A S rn lv av m ni) (hd : H d = some (.dT kvs)) (n1 : d ≠ A.i) (n2 : d ≠ A.e) (n3 : d ≠ A.r) : Kh CK CR aF (upd H d (.dT k2)) o A S rn lv av m ni := by
  have st : ∀ {b u}, H b = some u → (∀ kvs, u ≠ .dT kvs) → upd H d (.dT k2) b = some u := fun e' n => by
    rw [upd_ne (Kob.ne hd e' n)]
    exact e'
  have ft : ∀ b xs, H b = some (.tup xs) → upd H d (.dT k2) b = some (.tup xs) := fun b xs e' => st e' fun _ z => nomatch z
  refine ⟨?_, ?_, ?_, ?_, ?_, ?_, h.d1, h.d2, h.d3, h.ck⟩
  · obtain ⟨dx, a⟩ := h.raw
    exact ⟨dx, st a fun _ z => nomatch z⟩
  · obtain ⟨kv, a, b, c, dd⟩ := h.inp
    exact ⟨kv, by rw [upd_ne n1.symm]; exact a, b, c, fun j => (dd j).elim .inl fun ⟨p, g, r, x, y, z⟩ => .inr ⟨p, g, r, x, y, ft _ _ z⟩⟩
  · obtain ⟨kv, a, b, c, dd⟩ := h.ent
    exact ⟨kv, by rw [upd_ne n2.symm]; exact a, b, c, fun j => (dd j).elim .inl fun ⟨p, e, x, y, z⟩ => .inr ⟨p, e, x, y, z.keep ft⟩⟩
  · obtain ⟨kv, a, b⟩ := h.run
    exact ⟨kv, by rw [upd_ne n3.symm]; exact a, b⟩
  · exact fun j => ⟨fun hk => by
      obtain ⟨p, dx, a, c⟩ := (h.live j).1 hk
      exact ⟨p, dx, a, st c fun _ z => nomatch z⟩, fun hk p hp => by
      obtain ⟨dx, c⟩ := (h.live j).2 hk p hp
      exact ⟨dx, st c fun _ z => nomatch z⟩⟩
  · obtain ⟨vs, a, b⟩ := h.ended
    exact ⟨vs, st a (fun _ z => nomatch z), b⟩
theorem gn {i : Nat} {v : V} {σ : L2.St} {H : Hp} {Q : L2.St → Hp → Prop} (h : Q (σ.set i (some v)) H) : gName i v σ H Q := h
/-- within a turn -/
structure Cm (CK CR aF : Addr) (H1 : Hp) (o : Addr) (A : KAd) (S : KS) (rn : Nat → Option Addr) (lv : List Nat) (ni many pa pr dx k : Nat) (top : It) (rest : List It) (H6 : Hp) (S6 : KS) (rn6 : Nat → Option Addr) (m6 : Nat) (av6 : V) : Prop where
  fr : Fl o A H1 H6
  kh : Kh CK CR aF H6 o A S6 rn6 (lv ++ ks (top :: rest)) av6 m6 ni
  ki : KI many S6
  la : Lat lv S S6
  rl : ∀ x ∈ lv, rn6 x = rn x
  rk : ∀ x ∈ ks (top :: rest), rn6 x = some pr
  hpa : H6 pa = some (.lst (sts (top :: rest)))
  hp : H6 pr = some (.ins CR dx [("live", .bl true)])
  hb : isS H6 top.b top.k
  stp : ∃ j, Stp H6 top.st top.b j
  bel : Below S6 H6 k top.k rest
  its : ∀ x ∈ rest, isS H6 x.b x.k ∧ ∃ j, Stp H6 x.st x.b j
/-- what stays for good -/
structure Cs (H1 : Hp) (A : KAd) (pa : Addr) (top : It) (rest : List It) : Prop where
  n0 : H1 top.st = none
  pl : pa ≠ A.l
  pt : pa ≠ top.st
  rs : ∀ x ∈ rest, x.st ≠ A.l ∧ x.st ≠ top.st
theorem Cm.step {CK CR aF : Addr} {H1 : Hp} {o : Addr} {A : KAd} {S : KS} {rn : Nat → Option Addr} {lv : List Nat} {ni many pa pr dx k : Nat} {top : It} {rest : List It} {H6 : Hp} {S6 : KS} {rn6 : Nat → Option Addr} {m6 : Nat} {av6 : V}
    (c : Cm CK CR aF H1 o A S rn lv ni many pa pr dx k top rest H6 S6 rn6 m6 av6) (s : Cs H1 A pa top rest) {H7 : Hp} {S7 : KS} {rn7 : Nat → Option Addr} {m7 : Nat} {av7 : V}
    (f : ∀ c u, H6 c = some u → c ≠ o → c ≠ A.e → c ≠ A.r → c ≠ A.l → c ≠ top.st → H7 c = some u) (stp : ∃ j, Stp H7 top.st top.b j) (kh : Kh CK CR aF H7 o A S7 rn7 (lv ++ ks (top :: rest)) av7 m7 ni) (ki : KI many S7)
    (hn : S7.now = S6.now) (hg : S7.go = S6.go) (hen : ∀ x ∈ rest, S7.en x.k = S6.en x.k) (la : Lat lv S S7) (rl : ∀ x ∈ lv, rn7 x = rn x) (rk : ∀ x ∈ ks (top :: rest), rn7 x = some pr) : Cm CK CR aF H1 o A S rn lv ni many pa pr dx k top rest H7 S7 rn7 m7 av7 := by
  obtain ⟨_, eo⟩ := c.kh.raw
  obtain ⟨_, ee, _⟩ := c.kh.ent
  obtain ⟨_, er, _⟩ := c.kh.run
  obtain ⟨_, el, _⟩ := c.kh.ended
  obtain ⟨j0, es⟩ := c.stp
  have es : H6 top.st = some (.lst [.ref top.b, .int j0]) := es
  have ne : ∀ {a b u v}, H6 a = some u → H6 b = some v → u ≠ v → a ≠ b := fun x y z w => by
    rw [w, y] at x
    injection x with x
    exact z x.symm
  have ft : ∀ {b xs}, H6 b = some (.tup xs) → H7 b = some (.tup xs) := fun x => f _ _ x (ne x eo fun z => nomatch z) (ne x ee fun z => nomatch z) (ne x er fun z => nomatch z) (ne x el fun z => nomatch z) (ne x es fun z => nomatch z)
  have fl : ∀ {b xs}, H6 b = some (.lst xs) → b ≠ A.l → b ≠ top.st → H7 b = some (.lst xs) := fun x y z => f _ _ x (ne x eo fun z => nomatch z) (ne x ee fun z => nomatch z) (ne x er fun z => nomatch z) y z
  refine ⟨fun a u x y1 y2 y3 y4 => f _ _ (c.fr a u x y1 y2 y3 y4) y1 y2 y3 y4 (fun z => by rw [z, s.n0] at x; cases x), kh, ki, la, rl, rk, fl c.hpa s.pl s.pt, ?_, ft c.hb, stp, c.bel.keep hn hg hen fun x hx i hi => fl hi (s.rs x hx).1 (s.rs x hx).2, fun x hx => ?_⟩
  · exact f _ _ c.hp (ne c.hp eo fun z => by injection z with z; exact c.kh.ck z.symm) (ne c.hp ee fun z => nomatch z) (ne c.hp er fun z => nomatch z) (ne c.hp el fun z => nomatch z) (ne c.hp es fun z => nomatch z)
  · obtain ⟨a, j, b⟩ := c.its x hx
    exact ⟨ft a, j, fl b (s.rs x hx).1 (s.rs x hx).2⟩
theorem Below.wait {S : KS} {H : Hp} {k0 : Nat} : ∀ {k : Nat} {r : List It}, Below S H k0 k r → ∀ x ∈ r, Wait S x.k
  | k, x :: r, h, y, hy => by
    obtain ⟨_, w, _, h⟩ := h
    rcases List.mem_cons.mp hy with rfl | hy
    · exact w
    · exact Below.wait h y hy
theorem Wait.un {S : KS} {k : Nat} (h : Wait S k) : Un S k := fun e he => by
  obtain ⟨e', _, _, a, _, _, b⟩ := h
  rw [he] at a
  cases a
  exact b
theorem chg_le {S : KS} {many k : Nat} {v : Int} (I : KI many S) : chgOf S k v ≤ S.now := by
  unfold chgOf
  cases h : S.en k with
  | none => exact Nat.le_refl _
  | some e =>
    show (if e.v = v then e.g else S.now) ≤ S.now
    split
    · have := I.ran _ _ h
      omega
    · exact Nat.le_refl _
theorem chg_same {S : KS} {k : Nat} {v : Int} (e0 : En) (h : S.en k = some e0) : (v = e0.v ∧ chgOf S k v = e0.g) ∨ chgOf S k v = S.now := by
  unfold chgOf
  rw [h]
  show (v = e0.v ∧ (if e0.v = v then e0.g else S.now) = e0.g) ∨ (if e0.v = v then e0.g else S.now) = S.now
  by_cases c : e0.v = v
  · rw [if_pos c]
    exact .inl ⟨c.symm, rfl⟩
  · rw [if_neg c]
    exact .inr rfl

end Sn

namespace Sn
open PySem PySem.Spec PyProof.Rows L2 TL
/-! ### ask -/
section
variable {P : Program} {w : World} {K : PySem.W.Frag} {mg : Str → Option Value} {base : Heap} {f : Addr} {fd : FuncData} {CK CR CE aF : Addr}
abbrev s_K_ask : Stmt := inClass (topS 7) 9
abbrev N_K_ask : List Str := ["self", "key", "function", "outer", "run", "path", "last", "wanted", "value"]
theorem sc_K_ask : FnScope N_K_ask ["self", "key"] (defScope s_K_ask) := ⟨rfl, rfl, rfl, by decide +kernel, rfl, by decide +kernel, by decide +kernel⟩
theorem ok_ask {n L : Nat} {fdC : FuncData} (F : Fun K "ask" "Keeper.ask" s_K_ask f fd) (T : NmK K mg aF CK CR CE) (I_Run : CalO P w K mg base CX0 1 CR (spRunI CR))
    (C_Keeper__entered : CalM P w K mg base (L2.CX P w) 1 CK "_entered" (spEnt CK CR aF CE)) (C_Keeper__wanted : CalM P w K mg base CX0 2 CK "_wanted" (spWan CK CR aF)) (C_Keeper__begin : CalM P w K mg base CX0 1 CK "_begin" (spBeg CK CR aF)) (C_Keeper__end : CalM P w K mg base CX0 1 CK "_end" (spEnd CK CR aF))
    (hL : 2 ≤ L) (F__law_chain : FnOk P w K mg base (L2.CX P w) L aF fdC ["keeper", "key"] (spChain CK CR aF CE n)) (K__law_chain : PySem.W.keepIn K (.ref aF) = true) (B__law_chain : Binds K fdC ["keeper", "key"] []) : FnOk P w K mg base (L2.CX P w) (L + 1) f fd ["self", "key"] (spAsk CK CR aF CE (n + 1)) := by
  refine F.okX sc_K_ask (fun vs H Q E h => ?_) (fun cdv A outer s H vs Q E hr h => ?_)
  · obtain ⟨o, b, A, S, rn, lv, av, m, ni, k, many, rfl, _⟩ := h
    rfl
  obtain ⟨o, b, A, S, rn, lv, av, m, ni, k, many, rfl, pre, ⟨g, r, hg⟩, h⟩ := h
  refine ⟨_, (C8.pss_cut (ps_if (pt_cmpR op_notN (pe_k_asked T (pv 0)) pe_non (nomark _)) (pss_one (ps_dput (hu_of hr) (pe_k_asked T (pv 0)) (pv 1) pe_bl rfl)) pss_nil)
    (pss_cons (ps_if (pt_cmp (pc_din (hu_of hr) (pv 1) (pe_k_inputs T (pv 0)))) (pss_one (ps_ret (pe_ix (r := rIxT K) ix_tup (pe_dget (hu_of hr) (pe_k_inputs T (pv 0)) (pv 1) (fun _ _ => rfl)) pe_int (fun _ _ => rfl)))) pss_nil)
    (pss_cons (ps_set (i := 2) sc_K_ask.nd rfl (Or.inl rfl) (pe_k_function T (pv 0)))
    (pss_cons (ps_set (i := 3) sc_K_ask.nd rfl (Or.inl rfl) (pe_k_asked T (pv 0)))
    (pss_cons (ps_set (i := 4) sc_K_ask.nd rfl (Or.inl rfl) (pe_mk0 I_Run hr (by first | decide | omega) T.mk_Run pass0))
    (pss_cons (ps_fi rfl rfl rfl (takes_of rfl rfl rfl rfl) (fun W pn xe tk po => (pss_cons (ps_set (i := 5) sc_K_ask.nd rfl (Or.inl rfl) (pe_lst (pa_cons (pe_mS ns_Keeper C_Keeper__entered T.cl_Keeper (by decide) hr (by first | decide | omega) (fun σ => passAt tk σ) (pv 0) (pa_cons (pv 1) (pa_cons (pv 4) pa_nil))) pa_nil)))
    (pss_one (ps_while (po_tr po) (truK (K := K) rfl (pt_truth (pv 5) (by intro _; rfl))) (pss_cons (ps_set (i := 6) sc_K_ask.nd rfl (Or.inl rfl) (pe_ix (r := rIxL K) ix_list (pv 5) (pe_un un_neg pe_int) (fun _ _ => rfl)))
    (C8.pss_cut (ps_set (i := 7) sc_K_ask.nd rfl (Or.inl rfl) (pe_m ns_Keeper C_Keeper__wanted T.cl_Keeper (by decide) hr (by first | decide | omega) pass0 (pv 0) (pa_cons (pv 6) pa_nil)))
    (C8.pss_cut (ps_if (PW.pt (pw_and (pt_cmpR op_notN (pv 7) pe_non (nomark _)) (pw_and1 (pt_cmpR (r := rNeD K) (op_neD hr.units) (pv 7) (pe_ix (r := rIxL K) ix_list (pv 6) pe_int (fun _ _ => rfl)) (nomark _))))) (pss_cons (ps_expr (bmK (K := K) rfl (pe_bm PySem.F.plainAttrs_list PySem.F.slot_list_append PySem.F.type_list_append mt_append (pv 5) (pa_cons (pe_mS ns_Keeper C_Keeper__entered T.cl_Keeper (by decide) hr (by first | decide | omega) (fun σ => passAt tk σ) (pv 0) (pa_cons (pv 7) (pa_cons (pv 4) pa_nil))) pa_nil))))
    (pss_one ps_continue)) pss_nil)
    (C8.pss_cut (ps_if (pt_cmpR op_notN (pv 7) pe_non (nomark _)) (pss_cons (ps_expr (pe_m0 ns_Keeper C_Keeper__begin T.cl_Keeper (by decide) hr (by first | decide | omega) pass0 (pv 0)))
    (pss_cons (ps_set (i := 8) sc_K_ask.nd rfl (Or.inl rfl) (pe_caS (i := 2) F__law_chain hr (by first | decide | omega) rfl (.inl rfl) K__law_chain B__law_chain (fun σ => passAt tk σ) (pa_cons (pv 0) (pa_cons (pv 7) pa_nil))))
    (pss_one (ps_expr (pe_m ns_Keeper C_Keeper__end T.cl_Keeper (by decide) hr (by first | decide | omega) pass0 (pv 0) (pa_cons (pv 7) (pa_cons (pv 8) pa_nil))))))) pss_nil)
    (pss_cons (ps_expr (bm0K (K := K) rfl (pe_bm0 PySem.F.plainAttrs_list PySem.F.slot_list_pop PySem.F.type_list_pop mt_pop (pv 5))))
    (pss_one (ps_ddelT (hu_of hr) (pe_k_runs T (pv 0)) (pe_ix (r := rIxL K) ix_list (pv 6) pe_int (fun _ _ => rfl))))))))))))) (pss_cons (fldK (K := K) rfl (ps_fld (pv 4) pe_bl rfl))
    (pss_one (ps_k_asked T (pv 0) (pv 3)))) (fun a pn => (pss_cons (fldK (K := K) rfl (ps_fld (pv 4) pe_bl rfl))
    (pss_one (ps_k_asked T (pv 0) (pv 3))))))
    (pss_one (ps_ret (pe_ix (r := rIxT K) ix_tup (pe_dget (hu_of hr) (pe_k_entries T (pv 0)) (pv 1) (fun _ _ => rfl)) pe_int (fun _ _ => rfl)))))))))), ?_⟩
  -- what was asked is noted
  obtain ⟨key, hkey⟩ : ∃ key : List L2.Key, H b = some (.tup (key.map kV)) ∧ (isT H b k → key = kT k) ∧ (isS H b k → key = kS k) := by
    rcases h with ⟨a, _⟩ | ⟨a, _⟩
    · exact ⟨kT k, a.key, fun _ => rfl, fun z => (ts_no a z).elim⟩
    · exact ⟨kS k, a.key, fun z => (ts_no z a).elim, fun _ => rfl⟩
  obtain ⟨hkey, hkT, hkS⟩ := hkey
  have kh := pre.kh
  refine ⟨fun σ H1 => σ = [some (.ref o), some (.ref b), none, none, none, none, none, none, none] ∧ Fr o A av H H1 ∧ Kh CK CR aF H1 o A S rn lv av m ni ∧ AvP av key H H1 ∧ H1 b = H b, ?_, ?_⟩
  · refine ⟨_, rfl, o, _, rfl, kh.raw, rfl, _, rfl, ?_⟩
    rcases pre.avk with rfl | ⟨d, as, rfl, hd, hl, n1, n2, n3⟩
    · exact iteF ⟨rfl, (fun c u z _ _ _ _ _ => z), kh, (fun d as z => nomatch z), rfl⟩
    · refine iteT ?_
      have hdl : as.length < sizeLine := Nat.lt_of_le_of_lt hl (by show 1000 < 16777216; decide)
      refine ⟨_, rfl, o, _, rfl, kh.raw, _, rfl, d, _, rfl, DPut.t hd hkey hdl, ?_⟩
      have nd : ∀ {c u}, H c = some u → (∀ kvs, u ≠ .dT kvs) → c ≠ d := fun e' nn z => by
        rw [z, hd] at e'
        injection e' with e'
        exact nn _ e'.symm
      have kh1 : Kh CK CR aF (upd H d (.dT (putK as key (.bl true)))) o A S rn lv (.ref d) m ni := kh.other hd n1 n2 n3
      refine ⟨rfl, fun c u z _ _ _ _ nn => by rw [upd_ne (fun y => nn (by rw [y]))]; exact z, kh1, fun d' as' z1 z2 => ?_, ?_⟩
      · injection z1 with z1
        subst z1
        rw [hd] at z2
        cases z2
        exact upd_same
      · exact upd_ne (nd hkey fun _ z => nomatch z)
  rintro σ H1 ⟨rfl, fr1, kh1, avp1, hb1⟩
  obtain ⟨kvi, hki, _, hin, his⟩ := kh1.inp
  have hkey1 : H1 b = some (.tup (key.map kV)) := hb1.trans hkey
  have dgi := DGet.t hki hkey1
  refine ⟨_, rfl, _, rfl, o, _, rfl, kh1.raw, A.i, _, rfl, dgi, _, rfl, ?_⟩
  rcases h with ⟨hT, q⟩ | ⟨hS, ld, q, qe⟩
  · have e := hkT hT
    subst e
    rcases his k with ⟨_, y⟩ | ⟨pk, gk, rk, y1, y2, y3⟩
    · rw [hg] at y
      cases y
    rw [y1] at dgi ⊢
    refine iteT ⟨_, rfl, o, _, rfl, kh1.raw, _, rfl, A.i, _, rfl, dgi, pk, _, _, _, rfl, rfl, .inl (.inl y3), at_nat (i := 0) rfl, ?_⟩
    exact q gk rk H1 y2 fr1 kh1 avp1
  have e := hkS hS
  subst e
  rw [hin k]
  refine iteF ?_
  refine ⟨_, rfl, o, _, rfl, kh1.raw, ?_⟩
  refine ⟨_, rfl, o, _, rfl, kh1.raw, ?_⟩
  refine fun pr dx n1 n2 n3 => ⟨pr, dx, rfl, upd_same, rfl, ?_⟩
  have e2 : upd (upd (upd H1 dx (.own pr)) pr (.ins CR dx [])) pr (.ins CR dx [("live", .bl true)]) = upd (upd H1 dx (.own pr)) pr (.ins CR dx [("live", .bl true)]) := upd_upd
  rw [e2]
  have s2 : Same H1 (upd (upd H1 dx (.own pr)) pr (.ins CR dx [("live", .bl true)])) := fun c u z => by
    rw [upd_ne (fun y => by rw [y, n1] at z; cases z), upd_ne (fun y => by rw [y, n2] at z; cases z)]
    exact z
  have hpr2 : upd (upd H1 dx (.own pr)) pr (.ins CR dx [("live", .bl true)]) pr = some (.ins CR dx [("live", .bl true)]) := upd_same
  have hl0 : ∀ x ∈ lv, rn x ≠ some pr := fun x hx z => by
    obtain ⟨p, dx', a, c⟩ := (kh1.live x).1 hx
    rw [z] at a
    cases a
    rw [n1] at c
    cases c
  have kh2 := kh1.same s2
  have hS2 : isS (upd (upd H1 dx (.own pr)) pr (.ins CR dx [("live", .bl true)])) b k := s2 _ _ hkey1
  generalize upd (upd H1 dx (.own pr)) pr (.ins CR dx [("live", .bl true)]) = H2 at s2 hpr2 kh2 hS2 ⊢
  clear e2
  have hcb := cB_eq n
  have sz := pre.sz
  -- the end, either way
  have out : ∀ (ps : List Nat) (H' : Hp) (S' : KS) (rn' : Nat → Option Addr) (m' : Nat) (av' : V), Fl o A H1 H' → Kh CK CR aF H' o A S' rn' (lv ++ ps) av' m' ni → (∀ x ∈ lv, rn' x = rn x) → (∀ x ∈ ps, rn' x = some pr) → H' pr = some (.ins CR dx [("live", .bl true)]) →
      KRaw CK (upd H' pr (.ins CR dx [("live", .bl false)])) o (kfo aF A S'.now av') ∧ ∀ H4, But o (upd H' pr (.ins CR dx [("live", .bl false)])) H4 → KRaw CK H4 o { kfo aF A S'.now av' with asked := av } → Fr o A av H H4 ∧ Kh CK CR aF H4 o A S' rn' lv av m' ni ∧ AvP av (kS k) H H4 := by
    intro ps H' S' rn' m' av' fr kh' rl rk hp
    have kh3 := kh'.stop hp rk fun x hx z => hl0 x hx (by rw [← rl x hx]; exact z)
    refine ⟨kh3.raw, fun H4 b4 r4 => ⟨fun c u z z1 z2 z3 z4 z5 => ?_, kh3.ask b4 r4, fun d as z1 z2 => ?_⟩⟩
    · have y := fr1 c u z z1 z2 z3 z4 z5
      refine b4 _ _ z1 ?_
      rw [upd_ne (fun y2 => by rw [y2, n1] at y; cases y)]
      exact fr c u y z1 z2 z3 z4
    · have y := avp1 d as z1 z2
      subst z1
      rcases pre.avk with z | ⟨d', as', z, _, _, w1, w2, w3⟩
      · cases z
      injection z with z
      subst z
      obtain ⟨_, eo⟩ := kh1.raw
      obtain ⟨_, el, _⟩ := kh1.ended
      have ndo : d ≠ o := fun z => by rw [z, eo] at y; cases y
      refine b4 _ _ ndo ?_
      rw [upd_ne (fun y2 => by rw [y2, n1] at y; cases y)]
      exact fr _ _ y ndo w2 w3 (fun z => by rw [z, el] at y; cases y)
  refine ⟨_, rfl, o, rfl, kh2.raw.isI, _, rfl, _, rfl, o, b, pr, dx, A, S, rn, lv, av, m, ni, k, rfl, kh2, hS2, hpr2, by omega, ?_⟩
  have fl2 : Fl o A H1 H2 := fun c u z _ _ _ _ => s2 _ _ z
  by_cases hk : k ∈ lv
  · rw [if_pos hk]
    obtain ⟨r3, ot⟩ := out [] H2 S rn m av fl2 (by rw [List.append_nil]; exact kh2) (fun _ _ => rfl) (fun x hx => absurd hx (by simp)) hpr2
    refine ⟨_, rfl, pr, CR, dx, _, rfl, hpr2, T.cl_Run, T.n_live, by decide, ?_⟩
    refine ⟨_, rfl, _, rfl, o, _, rfl, r3, fun H4 b4 _ r4 => ?_⟩
    obtain ⟨f4, k4, _⟩ := ot H4 b4 r4
    exact qe H4 S rn m f4 k4 pre.ki Lat.refl (fun _ _ => rfl) (Nat.le_add_right _ _) fun n s => (ld k hk).no
  rw [if_neg hk]
  intro H3 st fr3 nst hst kh3
  refine ⟨by show 1 ≤ sizeLine; decide, fun pa npa => ?_⟩
  have s4 := same_new (o := .lst [.ref st]) npa
  have kh4 := kh3.same s4
  have hpa4 : upd H3 pa (.lst [.ref st]) pa = some (.lst [.ref st]) := upd_same
  have nar : ∀ {c u}, H2 c = some u → c ≠ A.r → upd H3 pa (.lst [.ref st]) c = some u := fun z y => s4 _ _ (fr3 _ _ z y)
  have npa1 : H1 pa = none := by
    cases z : H1 pa with
    | none => rfl
    | some u =>
      exfalso
      by_cases y : pa = A.r
      · obtain ⟨_, w, _⟩ := kh3.run
        rw [y, w] at npa
        cases npa
      · rw [fr3 _ _ (s2 _ _ z) y] at npa
        cases npa
  have nst1 : H1 st = none := by
    cases z : H1 st with
    | none => rfl
    | some u => rw [s2 _ _ z] at nst; cases nst
  have hk6 : k < 6 := Nat.lt_of_lt_of_le (pre.ki.rev _ _ _ hg).2.2 pre.le
  have npr : ∀ {H' : Hp}, Fl o A H1 H' → True := fun _ => trivial
  dsimp only [gName, tSeq]
  refine while_m (fun σ H' => ∃ o6 o7 o8 S' rn' m' av' rev, σ = [some (.ref o), some (.ref b), some (.ref aF), some av, some (.ref pr), some (.ref pa), o6, o7, o8] ∧ LI CK CR aF H1 o A S rn lv av ni many pa pr H' S' rn' m' av' rev ∧ H' pr = some (.ins CR dx [("live", .bl true)]) ∧ Ph S S' H' n m m' k rev) (fun _ H' => mu pa H')
    ⟨none, none, none, S, ups rn k pr, m + 1, av, [⟨k, st, b⟩], rfl, ?_, nar hpr2 (fun z => by obtain ⟨_, w, _⟩ := kh2.run; rw [← z, hpr2] at w; cases w), ?_⟩ ?_
  · refine ⟨fun c u z _ _ z3 _ => nar (s2 _ _ z) z3, kh4, pre.ki, Lat.refl, fun x hx => ups_ne fun z => hk (z ▸ hx), ?_, ?_, hpa4, ?_, ?_, ?_⟩
    · refine List.nodup_append.mpr ⟨pre.nd, by simp [ks], fun x hx y hy => ?_⟩
      rw [show y = k by simpa [ks] using hy]
      exact fun z => hk (z ▸ hx)
    · intro x hx
      rcases List.mem_append.mp hx with hx | hx
      · exact pre.lt x hx
      · rw [show x = k by simpa [ks] using hx]
        exact hk6
    · intro x hx
      rw [show x = k by simpa [ks] using hx]
      exact ups_at
    · intro x hx
      rw [List.mem_singleton.mp hx]
      refine ⟨nar hS2 (fun z => by obtain ⟨_, w, _⟩ := kh2.run; rw [← z, show H2 b = _ from hS2] at w; cases w), fun z => ?_, fun z => ?_, ⟨0, s4 _ _ hst⟩, nst1, g, r, hg⟩
      · obtain ⟨_, w, _⟩ := kh2.ended
        have z : st = A.l := z
        rw [← z, nst] at w
        cases w
      · have z : st = pa := z
        rw [← z, hst] at npa
        cases npa
    · simp
  · exact ⟨rfl, .inl ⟨s4 _ _ hst, Nat.le_refl _⟩⟩
  rintro σ H5 ⟨o6, o7, o8, S5, rn5, m5, av5, rev, rfl, L, hp5, ph⟩
  refine ⟨_, rfl, _, .inl ⟨_, .inl (.inl L.hpa), rfl⟩, ?_⟩
  cases rev with
  | nil =>
    refine iteF ?_
    obtain ⟨⟨e, he, hc⟩, hm5⟩ := ph
    obtain ⟨r3, ot⟩ := out [] H5 S5 rn5 m5 av5 L.fr L.kh L.rl (fun x hx => absurd hx (by simp)) hp5
    refine ⟨_, rfl, pr, CR, dx, _, rfl, hp5, T.cl_Run, T.n_live, by decide, ?_⟩
    refine ⟨_, rfl, _, rfl, o, _, rfl, r3, fun H4 b4 _ r4 => ?_⟩
    obtain ⟨f4, k4, a4⟩ := ot H4 b4 r4
    obtain ⟨kve, hke, _, _, hse⟩ := k4.ent
    rcases hse k with ⟨_, y⟩ | ⟨pe, e', y1, y2, qq, bb, y3, _⟩
    · rw [he] at y
      cases y
    rw [he] at y2
    cases y2
    have dg : DGet H4 A.e (.ref b) (some (.ref pe)) := by
      rw [← y1]
      exact DGet.t hke (f4.tup pre.kh pre.avk hkey)
    refine ⟨_, rfl, o, _, rfl, k4.raw, _, rfl, A.e, _, rfl, dg, pe, _, _, _, rfl, rfl, .inl (.inl y3), at_nat (i := 0) rfl, ?_⟩
    exact q H4 S5 rn5 m5 f4 k4 L.ki L.la L.rl hm5 a4 e he hc
  | cons top rest =>
    have e1 : (!(sts (top :: rest)).isEmpty) = true := by rw [sts_cons]; cases sts rest <;> rfl
    rw [e1]
    refine iteT (wN ?_)
    obtain ⟨hbS, hsl, hsp, ⟨i, hi⟩, hs1, gt, rt, hgt⟩ := L.its top List.mem_cons_self
    have lat : atI (sts (top :: rest)) (-1) = some (.ref top.st) := by rw [sts_cons]; exact atI_last
    refine ⟨_, rfl, 1, rfl, pa, _, _, _, rfl, rfl, .inl (.inl L.hpa), lat, ?_⟩
    have short := L.short
    have short : lv.length + (rest.length + 1) ≤ 6 := short
    obtain ⟨bel, ph⟩ := ph
    have mul : (rest.length + 1) * (cB n + 2) ≤ 6 * (cB n + 2) := Nat.mul_le_mul_right _ (by omega)
    clear hi
    obtain ⟨i, hi, hi01, hi0, hmm⟩ : ∃ i : Int, Stp H5 top.st top.b i ∧ (i = 0 ∨ i = 1 ∧ Wait S5 top.k ∧ Done S5 top.k) ∧ (i = 0 → m5 ≤ m + (rest.length + 1)) ∧ m5 + (rest.length + 1) * (cB n + 2) ≤ m + cB (n + 1) := by
      rcases ph with ⟨p0, pm⟩ | ⟨p1, pw, pd, pm⟩
      · exact ⟨0, p0, .inl rfl, fun _ => pm, by omega⟩
      · exact ⟨1, p1, .inr ⟨rfl, pw, pd⟩, fun z => absurd z (by decide), pm⟩
    have smul : (rest.length + 1) * (cB n + 2) = rest.length * (cB n + 2) + (cB n + 2) := Nat.succ_mul _ _
    have hmu : mu pa H5 = if i = 0 then 20 - (rest.length + 1) else rest.length + 1 := mu_top L.hpa hi
    have sn := L.sn
    rw [List.map_cons, List.nodup_cons] at sn
    have pal : pa ≠ A.l := fun z => by
      obtain ⟨_, w, _⟩ := kh1.ended
      rw [← z, npa1] at w
      cases w
    have cs : Cs H1 A pa top rest := ⟨hs1, pal, hsp.symm, fun x hx => ⟨(L.its x (List.mem_cons_of_mem _ hx)).2.1, fun z => sn.1 (z ▸ List.mem_map.mpr ⟨x, hx, rfl⟩)⟩⟩
    have nd := L.nd
    rw [ks_cons, ← List.append_assoc, List.nodup_append] at nd
    obtain ⟨nd1, _, nd2⟩ := nd
    have tl0 : top.k ∉ lv := fun z => nd2 _ (List.mem_append.mpr (.inl z)) _ (List.mem_singleton.mpr rfl) rfl
    have tr0 : ∀ x ∈ rest, x.k ≠ top.k := fun x hx => nd2 _ (List.mem_append.mpr (.inr (mem_ks hx))) _ (List.mem_singleton.mpr rfl)
    have c5 : Cm CK CR aF H1 o A S rn lv ni many pa pr dx k top rest H5 S5 rn5 m5 av5 := ⟨L.fr, L.kh, L.ki, L.la, L.rl, L.rk, L.hpa, hp5, hbS, ⟨i, hi⟩, bel, fun x hx => ⟨(L.its x (List.mem_cons_of_mem _ hx)).1, (L.its x (List.mem_cons_of_mem _ hx)).2.2.2.1⟩⟩
    refine ⟨fun σ H6 => ∃ wv S6 rn6 m6 av6, σ = [some (.ref o), some (.ref b), some (.ref aF), some av, some (.ref pr), some (.ref pa), some (.ref top.st), some wv, o8] ∧ Cm CK CR aF H1 o A S rn lv ni many pa pr dx k top rest H6 S6 rn6 m6 av6 ∧
      ((wv = .ref top.b ∧ Un S6 top.k ∧ m6 ≤ m5) ∨ (∃ (b' g : Nat) (q : Nat), wv = .ref b' ∧ i = 0 ∧ m6 ≤ m5 ∧ Stp H6 top.st top.b 1 ∧ Wait S6 top.k ∧ S6.go top.k = some ((g : Int), q) ∧ Un S6 g ∧ g ≠ top.k ∧ isS H6 b' g) ∨ (wv = .non ∧ m6 ≤ m5 + 1 ∧ ∃ e, S6.en top.k = some e ∧ e.c = S.now)), ?_, ?_⟩
    · refine ⟨_, rfl, o, rfl, L.kh.raw.isI, _, rfl, o, top.st, top.b, A, S5, rn5, lv ++ ks (top :: rest), av5, m5, ni, top.k, i, many, rfl, L.kh, L.ki, hbS, hi, hsl, ⟨gt, rt, by rw [L.la.go]; exact hgt⟩, hi01, by omega, fun H6 fr6 hj kh6 un6 => ?_, fun H6 b' g q z0 fr6 hj kh6 w6 g6 un6 ng hb6 => ?_, fun H6 S6 fr6 hj kh6 ki6 z1 z2 z3 z4 => ?_⟩
      · exact ⟨_, S5, rn5, m5, av5, rfl, c5.step cs (fun c u z _ _ _ _ y => fr6 c u z y) hj kh6 L.ki rfl rfl (fun _ _ => rfl) L.la L.rl L.rk, .inl ⟨rfl, un6, Nat.le_refl _⟩⟩
      · exact ⟨_, S5, rn5, m5, av5, rfl, c5.step cs (fun c u z _ _ _ _ y => fr6 c u z y) ⟨1, hj⟩ kh6 L.ki rfl rfl (fun _ _ => rfl) L.la L.rl L.rk, .inr (.inl ⟨b', g, q, rfl, z0, Nat.le_refl _, hj, w6, g6, un6, ng, hb6⟩)⟩
      · refine ⟨_, S6, rn5, m5 + 1, av5, rfl, c5.step cs (fun c u z _ y1 _ _ y => fr6 c u z y y1) hj kh6 ki6 z1 z2 (fun x hx => z3 _ (tr0 x hx)) ?_ L.rl L.rk, .inr (.inr ⟨rfl, Nat.le_refl _, ?_⟩)⟩
        · refine ⟨z1.trans L.la.now, z2.trans L.la.go, fun j hj => (z3 j fun z => tl0 (z ▸ hj)).trans (L.la.en j hj), fun j => ?_⟩
          by_cases hjk : j = top.k
          · obtain ⟨e, a, c⟩ := z4
            exact .inr ⟨e, by rw [hjk]; exact a, by rw [c, L.la.now]⟩
          · rw [z3 j hjk]
            exact L.la.or j
        · obtain ⟨e, a, c⟩ := z4
          exact ⟨e, a, by rw [c, L.la.now]⟩
    rintro σ H6 ⟨wv, S6, rn6, m6, av6, rfl, c6, cases6⟩
    refine ⟨fun σ H7 => ∃ wv S7 rn7 m7 av7, σ = [some (.ref o), some (.ref b), some (.ref aF), some av, some (.ref pr), some (.ref pa), some (.ref top.st), some wv, o8] ∧ Cm CK CR aF H1 o A S rn lv ni many pa pr dx k top rest H7 S7 rn7 m7 av7 ∧
      ((wv = .ref top.b ∧ Un S7 top.k ∧ m7 ≤ m5) ∨ (wv = .non ∧ m7 ≤ m5 + 1 ∧ ∃ e, S7.en top.k = some e ∧ e.c = S.now)), ?_, ?_⟩
    · obtain ⟨j6, hj6⟩ := c6.stp
      rcases cases6 with ⟨rfl, un6, h6⟩ | ⟨b', g', q', rfl, i0, h6, hst6, w6, g6, un6, ng6, hb6⟩ | ⟨rfl, h6, ch6⟩
      · refine ⟨_, rfl, rfl, _, rfl, iteT ?_⟩
        refine ⟨_, rfl, _, rfl, top.st, _, _, _, rfl, rfl, SqL.of hj6, at_nat (i := 0) rfl, _, _, dp_key c6.hb, dp_key c6.hb, key_shaped _, key_shaped _, _, rfl, ?_⟩
        rw [eqv_key, decide_eq_true rfl]
        exact iteF ⟨_, S6, rn6, m6, av6, rfl, c6, .inl ⟨rfl, un6, h6⟩⟩
      · refine ⟨_, rfl, rfl, _, rfl, iteT ?_⟩
        refine ⟨_, rfl, _, rfl, top.st, _, _, _, rfl, rfl, SqL.of hj6, at_nat (i := 0) rfl, _, _, dp_key hb6, dp_key c6.hb, key_shaped _, key_shaped _, _, rfl, ?_⟩
        rw [eqv_key, decide_eq_false ng6]
        refine iteT ?_
        refine ⟨_, rfl, .inl ⟨rfl, _, SqL.of c6.hpa⟩, _, rfl, o, rfl, c6.kh.raw.isI, _, rfl, _, rfl, o, b', pr, dx, A, S6, rn6, lv ++ ks (top :: rest), av6, m6, ni, g', rfl, c6.kh, hb6, c6.hp, by omega, ?_⟩
        have go6 := c6.la.go
        by_cases hin6 : g' ∈ lv ++ ks (top :: rest)
        · rw [if_pos hin6]
          have lg : Leads S6.go g' g' := by
            rcases List.mem_append.mp hin6 with z | z
            · exact (Below.frm (by rw [go6]; exact ld g' z) c6.bel).snoc g6
            · obtain ⟨x, hx, hxk⟩ := of_ks z
              rcases List.mem_cons.mp hx with rfl | hx
              · exact absurd hxk.symm ng6
              · exact hxk ▸ ((c6.bel.leads x hx).snoc g6 : Leads S6.go x.k g')
          have no : ∀ n s, ¬ Ends S.go k n s := by
            have := c6.bel.no (noEnds g6 fun n s => lg.no)
            rw [go6] at this
            exact this
          obtain ⟨r3, ot⟩ := out (ks (top :: rest)) H6 S6 rn6 m6 av6 c6.fr c6.kh c6.rl c6.rk c6.hp
          refine ⟨_, rfl, pr, CR, dx, _, rfl, c6.hp, T.cl_Run, T.n_live, by decide, ?_⟩
          refine ⟨_, rfl, _, rfl, o, _, rfl, r3, fun H4 b4 _ r4 => ?_⟩
          obtain ⟨f4, k4, _⟩ := ot H4 b4 r4
          exact qe H4 S6 rn6 m6 f4 k4 c6.ki c6.la c6.rl (by omega) no
        rw [if_neg hin6]
        intro H9 st9 fr9 nst9 hst9 kh9
        obtain ⟨_, er6, _⟩ := c6.kh.run
        obtain ⟨_, el6, _⟩ := c6.kh.ended
        obtain ⟨_, ee6, _⟩ := c6.kh.ent
        obtain ⟨_, eo6⟩ := c6.kh.raw
        have hpa9 := fr9 _ _ c6.hpa (fun z => by have w := c6.hpa; rw [z, er6] at w; cases w)
        refine ⟨pa, _, _, rfl, rfl, hpa9, by rw [sts_len]; show rest.length + 1 < 16777216; omega, ?_⟩
        have st9pa : st9 ≠ pa := fun z => by rw [z, c6.hpa] at nst9; cases nst9
        have up : ∀ {c u}, H6 c = some u → c ≠ A.r → c ≠ pa → upd H9 pa (.lst (sts (top :: rest) ++ [.ref st9])) c = some u := fun {c u} z y1 y2 => by
          rw [upd_ne y2]
          exact fr9 _ _ z y1
        have upT : ∀ {c xs}, H6 c = some (.tup xs) → upd H9 pa (.lst (sts (top :: rest) ++ [.ref st9])) c = some (.tup xs) := fun {c xs} z => up z (fun y => by rw [y, er6] at z; cases z) (fun y => by rw [y, c6.hpa] at z; cases z)
        have upL : ∀ {c xs}, H6 c = some (.lst xs) → c ≠ pa → upd H9 pa (.lst (sts (top :: rest) ++ [.ref st9])) c = some (.lst xs) := fun {c xs} z y => up z (fun y => by rw [y, er6] at z; cases z) y
        have nst91 : H1 st9 = none := by
          cases z : H1 st9 with
          | none => rfl
          | some u =>
            exfalso
            by_cases y1 : st9 = o
            · rw [y1, eo6] at nst9; cases nst9
            by_cases y2 : st9 = A.e
            · rw [y2, ee6] at nst9; cases nst9
            by_cases y3 : st9 = A.r
            · rw [y3, er6] at nst9; cases nst9
            by_cases y4 : st9 = A.l
            · rw [y4, el6] at nst9; cases nst9
            rw [c6.fr _ _ z y1 y2 y3 y4] at nst9
            cases nst9
        have hks : lv ++ ks (⟨g', st9, b'⟩ :: top :: rest) = lv ++ ks (top :: rest) ++ [g'] := by rw [ks_cons, List.append_assoc]
        have hpa10 : upd H9 pa (.lst (sts (top :: rest) ++ [.ref st9])) pa = some (.lst (sts (⟨g', st9, b'⟩ :: top :: rest))) := by rw [upd_same, sts_cons (x := ⟨g', st9, b'⟩)]
        have hst10 : Stp (upd H9 pa (.lst (sts (top :: rest) ++ [.ref st9]))) st9 b' 0 := (upd_ne st9pa).trans hst9
        have itst : ∀ x ∈ top :: rest, ∃ j, Stp H6 x.st x.b j := fun x hx => by
          rcases List.mem_cons.mp hx with rfl | hx
          · exact ⟨_, hj6⟩
          · exact (c6.its x hx).2
        have itsp : ∀ x ∈ top :: rest, x.st ≠ pa := fun x hx => (L.its x hx).2.2.1
        refine ⟨⟨_, _, _, S6, ups rn6 g' pr, m6 + 1, av6, ⟨g', st9, b'⟩ :: top :: rest, rfl, ⟨fun c u z y1 y2 y3 y4 => up (c6.fr c u z y1 y2 y3 y4) y3 (fun y => by rw [y, npa1] at z; cases z), ?_, c6.ki, c6.la, ?_, ?_, ?_, hpa10, ?_, ?_, ?_⟩, ?_, ?_⟩, ?_⟩
        · rw [hks]
          refine kh9.keep fun c u z hc => ?_
          rw [upd_ne fun y => ?_]
          · exact z
          · subst y
            rcases hc with hc | hc
            · exact pal hc
            · rw [hpa9] at z
              cases z
              exact hc
        · intro x hx
          rw [ups_ne (fun z => hin6 (by rw [← z]; exact List.mem_append.mpr (.inl hx)))]
          exact c6.rl x hx
        · rw [hks]
          refine List.nodup_append.mpr ⟨L.nd, by simp, fun x hx y hy => ?_⟩
          rw [List.mem_singleton.mp hy]
          exact fun z => hin6 (z ▸ hx)
        · intro x hx
          rw [hks] at hx
          rcases List.mem_append.mp hx with hx | hx
          · exact L.lt x hx
          · rw [List.mem_singleton.mp hx]
            have := (c6.ki.rev _ _ _ g6).2.1
            have := pre.le
            omega
        · intro x hx
          rw [ks_cons] at hx
          by_cases hxg : x = g'
          · rw [hxg]
            exact ups_at
          · rw [ups_ne hxg]
            rcases List.mem_append.mp hx with hx | hx
            · exact c6.rk x hx
            · exact absurd (List.mem_singleton.mp hx) hxg
        · intro x hx
          rcases List.mem_cons.mp hx with rfl | hx
          · refine ⟨upT hb6, fun z => ?_, st9pa, ⟨0, hst10⟩, nst91, pre.clo _ _ _ (by rw [← go6]; exact g6) g' rfl⟩
            have z : st9 = A.l := z
            rw [z, el6] at nst9
            cases nst9
          · obtain ⟨a1, a2, a3, a4, a5, a6⟩ := L.its x hx
            obtain ⟨j, hj⟩ := itst x hx
            refine ⟨upT ?_, a2, a3, ⟨j, upL hj a3⟩, a5, a6⟩
            rcases List.mem_cons.mp hx with rfl | hx
            · exact c6.hb
            · exact (c6.its x hx).1
        · rw [List.map_cons, List.nodup_cons]
          refine ⟨fun z => ?_, L.sn⟩
          obtain ⟨x, hx, hxs⟩ := List.mem_map.mp z
          obtain ⟨j, hj⟩ := itst x hx
          have hxs : x.st = st9 := hxs
          rw [← hxs, show H6 x.st = _ from hj] at nst9
          cases nst9
        · exact up c6.hp (fun y => by have w := c6.hp; rw [y, er6] at w; cases w) (fun y => by have w := c6.hp; rw [y, c6.hpa] at w; cases w)
        · refine ⟨⟨⟨q', g6⟩, w6, upL hst6 hsp, c6.bel.keep rfl rfl (fun _ _ => rfl) fun x hx i hi => upL hi (itsp x (List.mem_cons_of_mem _ hx))⟩, .inl ⟨hst10, ?_⟩⟩
          have := hi0 i0
          show m6 + 1 ≤ m + ((rest.length + 1) + 1)
          omega
        · show mu pa _ < mu pa H5
          rw [hmu, mu_top hpa10 hst10, if_pos rfl, if_pos i0]
          show 20 - ((rest.length + 1) + 1) < 20 - (rest.length + 1)
          omega
      · exact ⟨_, rfl, rfl, _, rfl, iteF ⟨_, S6, rn6, m6, av6, rfl, c6, .inr ⟨rfl, h6, ch6⟩⟩⟩
    rintro σ H7 ⟨wv, S7, rn7, m7, av7, rfl, c7, cases7⟩
    refine ⟨fun σ H8 => ∃ wv vv S8 rn8 m8 av8, σ = [some (.ref o), some (.ref b), some (.ref aF), some av, some (.ref pr), some (.ref pa), some (.ref top.st), some wv, vv] ∧ Cm CK CR aF H1 o A S rn lv ni many pa pr dx k top rest H8 S8 rn8 m8 av8 ∧
      m8 ≤ m5 + (cB n + 2) ∧ ∃ e, S8.en top.k = some e ∧ e.c = S.now, ?_, ?_⟩
    · rcases cases7 with ⟨rfl, un7, h7⟩ | ⟨rfl, h7, ch7⟩
      · refine ⟨_, rfl, rfl, _, rfl, iteT ?_⟩
        refine ⟨_, rfl, o, rfl, c7.kh.raw.isI, o, A, S7, rn7, lv ++ ks (top :: rest), av7, m7, ni, rfl, c7.kh, fun H8 d nd8 b8 hd8 kh8 => ?_⟩
        obtain ⟨_, eo7⟩ := c7.kh.raw
        obtain ⟨_, er7, _⟩ := c7.kh.run
        obtain ⟨_, el7, _⟩ := c7.kh.ended
        obtain ⟨_, ee7, _⟩ := c7.kh.ent
        obtain ⟨_, ei7, _⟩ := c7.kh.inp
        obtain ⟨j7, hj7⟩ := c7.stp
        have hj7 : H7 top.st = some (.lst [.ref top.b, .int j7]) := hj7
        have go7 := c7.la.go
        have now7 := c7.la.now
        have hb7 : H7 top.b = some (.tup [.str "sum", .int (top.k : Int)]) := c7.hb
        have hb8 : isS H8 top.b top.k := b8 _ _ (fun z => by rw [z, eo7] at hb7; cases hb7) c7.hb
        have mem : ∀ x ∈ lv, x ∈ lv ++ ks (top :: rest) := fun x hx => List.mem_append.mpr (.inl hx)
        have memt : top.k ∈ lv ++ ks (top :: rest) := List.mem_append.mpr (.inr (mem_ks List.mem_cons_self))
        have memr : ∀ x ∈ rest, x.k ∈ lv ++ ks (top :: rest) := fun x hx => List.mem_append.mpr (.inr (mem_ks (List.mem_cons_of_mem _ hx)))
        have byc : ∀ {p : Nat → Prop}, (∀ x ∈ lv, p x) → p top.k → (∀ x ∈ rest, p x.k) → ∀ x ∈ lv ++ ks (top :: rest), p x := fun {p} a c e x hx => by
          rcases List.mem_append.mp hx with hx | hx
          · exact a x hx
          · obtain ⟨y, hy, rfl⟩ := of_ks hx
            rcases List.mem_cons.mp hy with rfl | hy
            · exact c
            · exact e y hy
        have len : (lv ++ ks (top :: rest)).length = lv.length + (rest.length + 1) := by rw [List.length_append, ks_len]; rfl
        have bud := pre.bud
        refine ⟨rfl, _, rfl, _, rfl, o, top.b, A, S7, rn7, lv ++ ks (top :: rest), d, m7, ni, top.k, many, rfl, ⟨kh8, c7.ki, pre.le, L.nd, L.lt, ?_, by rw [len]; omega, by rw [go7]; exact pre.clo, .inr ⟨d, [], rfl, hd8, Nat.zero_le _, (fun z => by rw [z, ei7] at nd8; cases nd8), (fun z => by rw [z, ee7] at nd8; cases nd8), (fun z => by rw [z, er7] at nd8; cases nd8)⟩, by omega⟩, hd8, hb8, ⟨gt, rt, by rw [go7]; exact hgt⟩, ?_, ?_, ?_⟩
        · exact byc (fun x hx e he => by
            rw [c7.la.en x hx] at he
            rw [now7]
            exact pre.un x hx e he) un7 fun x hx => (c7.bel.wait x hx).un
        · exact byc (fun x hx => .inr (Below.frm (by rw [go7]; exact ld x hx) c7.bel)) (.inl rfl) fun x hx => .inr (c7.bel.leads x hx)
        · intro H9 S9 rn9 m9 fr9 kh9 ki9 la9 rl9 m9e v dp as hd9 hask val
          have f79 : ∀ c u, H7 c = some u → c ≠ o → c ≠ A.e → c ≠ A.r → c ≠ A.l → H9 c = some u := fun c u z y1 y2 y3 y4 => fr9 c u (b8 c u y1 z) y1 y2 y3 y4 (fun y => by injection y with y; rw [y, nd8] at z; cases z)
          have c9 := c7.step cs (S7 := S9) (fun c u z y1 y2 y3 y4 _ => f79 c u z y1 y2 y3 y4) ⟨j7, f79 _ _ hj7 (fun z => by rw [z, eo7] at hj7; cases hj7) (fun z => by rw [z, ee7] at hj7; cases hj7) (fun z => by rw [z, er7] at hj7; cases hj7) hsl⟩ kh9 ki9 la9.now la9.go (fun x hx => la9.en _ (memr x hx)) (c7.la.trans la9 mem) (fun x hx => (rl9 x (mem x hx)).trans (c7.rl x hx)) (fun x hx => (rl9 x (List.mem_append.mpr (.inr hx))).trans (c7.rk x hx))
          refine ⟨_, rfl, o, rfl, kh9.raw.isI, _, rfl, _, rfl, o, top.b, d, A, S9, rn9, lv ++ ks (top :: rest), m9, ni, top.k, v, dp, as, rfl, kh9, c9.hb, hd9, hask, by omega, fun H10 fr10 kh10 => ?_⟩
          have un9 : Un S9 top.k := fun e he => by
            rw [la9.en _ memt] at he
            rw [la9.now]
            exact un7 e he
          have hg9 : S9.go top.k = some (gt, rt) := by rw [la9.go, go7]; exact hgt
          obtain ⟨v0, v1⟩ := val _ _ hg9
          have ki10 := ki9.set (e := ⟨v, dp, S9.now, chgOf S9 top.k v⟩) un9 hg9 rfl (chg_le ki9) v0 v1 chg_same
          have c10 := c9.step cs (fun c u z _ y2 _ y4 _ => fr10 c u z y2 y4) (by
            obtain ⟨j9, hj9⟩ := c9.stp
            have hj9 : H9 top.st = some (.lst [.ref top.b, .int j9]) := hj9
            obtain ⟨_, ee9, _⟩ := kh9.ent
            exact ⟨j9, fr10 _ _ hj9 (fun z => by rw [z, ee9] at hj9; cases hj9) hsl⟩) kh10 ki10 rfl rfl (fun x hx => ups_ne (tr0 x hx)) (c9.la.trans (Lat.set tl0 rfl) fun _ z => z) c9.rl c9.rk
          exact ⟨_, _, _, rn9, m9 + 2, _, rfl, c10, by omega, ⟨_, ups_at, by show S9.now = S.now; rw [la9.now, now7]⟩⟩
        · intro H9 S9 rn9 m9 fr9 kh9 ki9 la9 rl9 m9e no
          have f79 : ∀ c u, H7 c = some u → c ≠ o → c ≠ A.e → c ≠ A.r → c ≠ A.l → H9 c = some u := fun c u z y1 y2 y3 y4 => fr9 c u (b8 c u y1 z) y1 y2 y3 y4 (fun y => by injection y with y; rw [y, nd8] at z; cases z)
          have c9 := c7.step cs (S7 := S9) (fun c u z y1 y2 y3 y4 _ => f79 c u z y1 y2 y3 y4) ⟨j7, f79 _ _ hj7 (fun z => by rw [z, eo7] at hj7; cases hj7) (fun z => by rw [z, ee7] at hj7; cases hj7) (fun z => by rw [z, er7] at hj7; cases hj7) hsl⟩ kh9 ki9 la9.now la9.go (fun x hx => la9.en _ (memr x hx)) (c7.la.trans la9 mem) (fun x hx => (rl9 x (mem x hx)).trans (c7.rl x hx)) (fun x hx => (rl9 x (List.mem_append.mpr (.inr hx))).trans (c7.rk x hx))
          have no2 : ∀ n s, ¬ Ends S.go k n s := by
            have := c7.bel.no no
            rw [go7] at this
            exact this
          obtain ⟨r3, ot⟩ := out (ks (top :: rest)) H9 S9 rn9 m9 (.ref d) c9.fr kh9 c9.rl c9.rk c9.hp
          refine ⟨_, rfl, pr, CR, dx, _, rfl, c9.hp, T.cl_Run, T.n_live, by decide, ?_⟩
          refine ⟨_, rfl, _, rfl, o, _, rfl, r3, fun H4 b4 _ r4 => ?_⟩
          obtain ⟨f4, k4, _⟩ := ot H4 b4 r4
          exact qe H4 S9 rn9 m9 f4 k4 ki9 c9.la c9.rl (by omega) no2
      · exact ⟨_, rfl, rfl, _, rfl, iteF ⟨_, _, S7, rn7, m7, av7, rfl, c7, by omega, ch7⟩⟩
    rintro σ H8 ⟨wv, vv, S8, rn8, m8, av8, rfl, c8, hm8, e8, he8, hc8⟩
    obtain ⟨j8, hj8⟩ := c8.stp
    obtain ⟨kvr, er8, _, hr8⟩ := c8.kh.run
    have lastE : (sts (top :: rest))[(sts (top :: rest)).length - 1]? = some (.ref top.st) := by rw [sts_cons]; simp
    have dropE : (sts (top :: rest)).dropLast = sts rest := by rw [sts_cons]; simp
    refine ⟨_, rfl, .inl ⟨rfl, _, SqL.of c8.hpa⟩, pa, _, _, rfl, rfl, c8.hpa, lastE, ?_⟩
    rw [dropE]
    have k9 : Kh CK CR aF (upd H8 pa (.lst (sts rest))) o A S8 rn8 (lv ++ ks rest ++ [top.k]) av8 m8 ni := by
      rw [List.append_assoc, ← ks_cons]
      refine c8.kh.keep fun c u z hc => ?_
      rw [upd_ne fun y => ?_]
      · exact z
      · subst y
        rcases hc with hc | hc
        · exact pal hc
        · rw [c8.hpa] at z
          cases z
          exact hc
    have up9 : ∀ {c u}, H8 c = some u → c ≠ pa → upd H8 pa (.lst (sts rest)) c = some u := fun z y => by rw [upd_ne y]; exact z
    have hpa9 : upd H8 pa (.lst (sts rest)) pa = some (.lst (sts rest)) := upd_same
    have hst9 := up9 hj8 hsp
    have hb9 : upd H8 pa (.lst (sts rest)) top.b = some (.tup ((kS top.k).map kV)) := up9 c8.hb (fun y => by have w : H8 top.b = some (.tup [.str "sum", .int (top.k : Int)]) := c8.hb; rw [y, c8.hpa] at w; cases w)
    have er9 := up9 er8 (fun y => by rw [y, c8.hpa] at er8; cases er8)
    have hp9 := up9 c8.hp (fun y => by have w := c8.hp; rw [y, c8.hpa] at w; cases w)
    generalize upd H8 pa (.lst (sts rest)) = H9 at k9 up9 hpa9 hst9 hb9 er9 hp9 ⊢
    refine ⟨_, rfl, o, _, rfl, k9.raw, _, rfl, top.st, _, _, _, rfl, rfl, SqL.of hst9, at_nat (i := 0) rfl, A.r, kvr, kS top.k, top.b, .ref pr, rfl, er9, rfl, hb9, by rw [hr8, c8.rk _ (mem_ks List.mem_cons_self)]; rfl, ?_⟩
    have tkn : top.k ∉ lv ++ ks rest := fun z => nd2 _ z _ (List.mem_singleton.mpr rfl) rfl
    have k10 := k9.drop_run tkn er9
    have up10 : ∀ {c u}, H8 c = some u → c ≠ pa → c ≠ A.r → upd H9 A.r (.dT (dropK kvr (kS top.k))) c = some u := fun z y1 y2 => by rw [upd_ne y2]; exact up9 z y1
    have upL : ∀ {c xs}, H8 c = some (.lst xs) → c ≠ pa → upd H9 A.r (.dT (dropK kvr (kS top.k))) c = some (.lst xs) := fun {c xs} z y => up10 z y (fun y => by rw [y, er8] at z; cases z)
    have upT : ∀ {c xs}, H8 c = some (.tup xs) → upd H9 A.r (.dT (dropK kvr (kS top.k))) c = some (.tup xs) := fun {c xs} z => up10 z (fun y => by rw [y, c8.hpa] at z; cases z) (fun y => by rw [y, er8] at z; cases z)
    have hpa10 : upd H9 A.r (.dT (dropK kvr (kS top.k))) pa = some (.lst (sts rest)) := (upd_ne (fun y => by rw [y, er9] at hpa9; cases hpa9)).trans hpa9
    have itsp : ∀ x ∈ rest, x.st ≠ pa := fun x hx => (L.its x (List.mem_cons_of_mem _ hx)).2.2.1
    have bel10 : Below S8 (upd H9 A.r (.dT (dropK kvr (kS top.k)))) k top.k rest := c8.bel.keep rfl rfl (fun _ _ => rfl) fun x hx i hi => upL hi (itsp x hx)
    refine ⟨⟨_, _, _, S8, _, m8, av8, rest, rfl, ⟨fun c u z y1 y2 y3 y4 => up10 (c8.fr c u z y1 y2 y3 y4) (fun y => by rw [y, npa1] at z; cases z) y3, k10, c8.ki, c8.la, ?_, nd1, fun x hx => L.lt x ?_, hpa10, ?_, ?_, sn.2⟩, ?_, ?_⟩, ?_⟩
    · intro x hx
      show (if x = top.k then none else rn8 x) = rn x
      rw [if_neg (show ¬ x = top.k from fun z => tl0 (by rw [← z]; exact hx))]
      exact c8.rl x hx
    · rw [ks_cons, ← List.append_assoc]
      exact List.mem_append.mpr (.inl hx)
    · intro x hx
      show (if x = top.k then none else rn8 x) = some pr
      rw [if_neg (show ¬ x = top.k from fun z => tkn (by rw [← z]; exact List.mem_append.mpr (.inr hx)))]
      exact c8.rk x (by rw [ks_cons]; exact List.mem_append.mpr (.inl hx))
    · intro x hx
      obtain ⟨a1, a2, a3, a4, a5, a6⟩ := L.its x (List.mem_cons_of_mem _ hx)
      obtain ⟨b1, j, b2⟩ := c8.its x hx
      exact ⟨upT b1, a2, a3, ⟨j, upL b2 a3⟩, a5, a6⟩
    · exact (upd_ne (fun y => by rw [y, er9] at hp9; cases hp9)).trans hp9
    · cases rest with
      | nil =>
        have w : top.k = k := bel10
        refine ⟨⟨e8, by rw [← w]; exact he8, hc8⟩, ?_⟩
        have z : ([] : List It).length = 0 := rfl
        rw [z] at hmm
        omega
      | cons x r =>
        obtain ⟨⟨q1, g1⟩, w1, s1, b1⟩ := bel10
        refine ⟨b1, .inr ⟨s1, w1, fun g2 r2 z => ?_, ?_⟩⟩
        · rw [g1] at z
          injection z with z
          injection z with z _
          have z := Int.ofNat.inj z
          rw [← z]
          exact ⟨e8, he8, by rw [hc8, c8.la.now]⟩
        · have z : (x :: r).length = r.length + 1 := rfl
          rw [z] at hmm smul
          omega
    · show mu pa _ < mu pa H5
      rw [hmu]
      cases rest with
      | nil =>
        rw [mu_nil hpa10]
        split
        · decide
        · decide
      | cons x r =>
        obtain ⟨_, _, s1, _⟩ := bel10
        rw [mu_top hpa10 s1, if_neg (by decide)]
        have z : (x :: r).length = r.length + 1 := rfl
        rw [z]
        rw [z] at short
        split <;> omega
end

end Sn

namespace Sn
open PySem PySem.Spec PyProof.Rows L2 TL
/-! ### inputs; the keeper is made; ask for any budget -/
theorem ups_self {α : Type} {f : Nat → Option α} {k : Nat} {v : α} (h : f k = some v) : ups f k v = f := by
  funext j
  by_cases c : j = k
  · rw [c, ups_at, h]
  · exact ups_ne c
section
variable {P : Program} {w : World} {K : PySem.W.Frag} {mg : Str → Option Value} {base : Heap} {f : Addr} {fd : FuncData} {CK CR CE aF : Addr}
abbrev s_K_put : Stmt := inClass (topS 7) 1
abbrev N_K_put : List Str := ["self", "key", "value"]
theorem sc_K_put : FnScope N_K_put ["self", "key", "value"] (defScope s_K_put) := ⟨rfl, rfl, rfl, by decide +kernel, rfl, by decide +kernel, by decide +kernel⟩
theorem ok_put (F : Fun K "put" "Keeper.put" s_K_put f fd) (T : NmK K mg aF CK CR CE) : FnOk P w K mg base CX0 1 f fd ["self", "key", "value"] (spPut CK CR aF) := by
  refine F.ok sc_K_put (fun vs H Q E h => ?_) (fun cdv A outer s H vs Q E hr h => ?_)
  · obtain ⟨o, b, A, S, rn, lv, av, m, ni, k, v, rfl, _⟩ := h
    rfl
  obtain ⟨o, b, A, S, rn, lv, av, m, ni, k, v, rfl, kh, hb, hni, q⟩ := h
  refine ⟨_, (pss_cons (ps_expr (pe_bm PySem.F.plainAttrs_dict PySem.F.slot_dict_pop PySem.F.type_dict_pop (L2.DX.mt_popT (hu_of hr)) (pe_k_entries T (pv 0)) (pa_cons (pv 1) (pa_cons pe_non pa_nil))))
    (C8.pss_cut (ps_if (PW.pt (pw_and (pt_cmp (pc_din (hu_of hr) (pv 1) (pe_k_inputs T (pv 0)))) (pw_and1 (pt_cmpR op_eq (pe_ix (r := rIxT K) ix_tup (pe_dget (hu_of hr) (pe_k_inputs T (pv 0)) (pv 1) (fun _ _ => rfl)) pe_int (fun _ _ => rfl)) (pv 2) (nomark _))))) (pss_cons (ps_dput (hu_of hr) (pe_k_inputs T (pv 0)) (pv 1) (pe_tup (pa_cons (pv 2) (pa_cons (pe_ix (r := rIxT K) ix_tup (pe_dget (hu_of hr) (pe_k_inputs T (pv 0)) (pv 1) (fun _ _ => rfl)) pe_int (fun _ _ => rfl)) pa_nil))) rfl)
    (pss_one ps_retN)) pss_nil)
    (pss_cons (ps_ka_now T (pv 0) pe_int in_add)
    (pss_one (ps_dput (hu_of hr) (pe_k_inputs T (pv 0)) (pv 1) (pe_tup (pa_cons (pv 2) (pa_cons (pe_k_now T (pv 0)) pa_nil))) rfl))))), ?_⟩
  obtain ⟨kve, he, _, hno, _⟩ := kh.ent
  obtain ⟨kvi, hki, hlen, hin, his⟩ := kh.inp
  have dgi := DGet.t hki hb.key
  have hlt : kvi.length < sizeLine := Nat.lt_of_le_of_lt hlen (by show ni < 16777216; omega)
  refine ⟨_, rfl, o, _, rfl, kh.raw, .inr (.inr (.inl ⟨rfl, .inr ⟨_, he⟩⟩)), _, rfl, A.e, kve, kT k, b, .non, rfl, rfl, he, hb.key, (fun x hx => by rw [hno] at hx; cases hx), fun _ => ?_⟩
  refine ⟨fun σ H' => H' = H ∧ σ = [some (.ref o), some (.ref b), some (.int v)], ?_, ?_⟩
  · refine ⟨_, rfl, _, rfl, o, _, rfl, kh.raw, A.i, _, rfl, dgi, _, rfl, ?_⟩
    rcases his k with ⟨h1, h2⟩ | ⟨p, g, r, h1, h2, h3⟩
    · rw [h1]
      exact iteF ⟨rfl, rfl⟩
    · rw [h1] at dgi ⊢
      refine iteT ?_
      refine ⟨_, rfl, o, _, rfl, kh.raw, _, rfl, A.i, _, rfl, dgi, p, _, _, _, rfl, rfl, .inl (.inl h3), at_nat (i := 0) rfl, _, rfl, rfl, _, rfl, ?_⟩
      by_cases z : g = v
      · subst z
        refine iteP rfl ?_
        refine ⟨_, rfl, _, rfl, o, _, rfl, kh.raw, _, rfl, A.i, _, rfl, dgi, p, _, _, _, rfl, rfl, .inl (.inl h3), at_nat (i := 1) rfl, by show 2 ≤ sizeLine; decide, fun p2 np => ?_⟩
        have s2 := same_new (o := .tup [.int g, .int ((r : Nat) : Int)]) np
        have k2 := kh.same s2
        have hp2 : upd H p2 (.tup [.int g, .int ((r : Nat) : Int)]) p2 = some (.tup [.int g, .int ((r : Nat) : Int)]) := upd_same
        have hki2 := s2 _ _ hki
        have k3 := k2.put_inp (k := k) hki2 hp2
        rw [ups_self h2] at k3
        refine ⟨_, rfl, o, _, rfl, k2.raw, _, rfl, A.i, _, rfl, DPut.t hki2 (s2 _ _ hb.key) hlt, ?_⟩
        exact q _ S (fun c u e y1 y2 => by rw [upd_ne y2]; exact s2 _ _ e) k3 (.inl ⟨rfl, r, h2⟩)
      · exact iteN (fun y => z (by injection y)) ⟨rfl, rfl⟩
  rintro σ H' ⟨rfl, rfl⟩
  refine ⟨_, rfl, o, _, (S.now : Int), rfl, kh.raw, rfl, fun H1 b1 r1 => ?_⟩
  have k1 : Kh CK CR aF H1 o A ⟨S.now + 1, S.go, S.en⟩ rn lv av m ni := kh.self b1 r1
  obtain ⟨_, eo⟩ := kh.raw
  have hki1 := b1 _ _ (fun z => by rw [z, eo] at hki; cases hki) hki
  have hb' : H' b = some (.tup [.str "to", .int (k : Int)]) := hb
  have hb1 := b1 _ _ (fun z => by rw [z, eo] at hb'; cases hb') hb'
  refine ⟨_, rfl, _, rfl, o, _, rfl, k1.raw, by show 2 ≤ sizeLine; decide, fun p2 np => ?_⟩
  have s2 := same_new (o := .tup [.int v, (kfo aF A (S.now + 1) av).now]) np
  have k2 := k1.same s2
  have hp2 : upd H1 p2 (.tup [.int v, (kfo aF A (S.now + 1) av).now]) p2 = some (.tup [.int v, .int ((S.now + 1 : Nat) : Int)]) := upd_same
  have hki2 := s2 _ _ hki1
  have hb2 := s2 _ _ hb1
  generalize upd H1 p2 (.tup [.int v, (kfo aF A (S.now + 1) av).now]) = H2 at s2 k2 hp2 hki2 hb2 ⊢
  have k3 := k2.put_inp (k := k) hki2 hp2
  refine ⟨_, rfl, o, _, rfl, k2.raw, _, rfl, A.i, _, rfl, DPut.t hki2 (show H2 b = some (.tup ((kT k).map kV)) from hb2) hlt, ?_⟩
  exact q _ _ (fun c u e y1 y2 => by rw [upd_ne y2]; exact s2 _ _ (b1 _ _ y1 e)) k3 (.inr rfl)
abbrev s_K_init : Stmt := inClass (topS 7) 0
abbrev N_K_init : List Str := ["self", "compute"]
theorem sc_K_init : FnScope N_K_init ["self", "compute"] (defScope s_K_init) := ⟨rfl, rfl, rfl, by decide +kernel, rfl, by decide +kernel, by decide +kernel⟩
theorem ok_K_init (F : Fun K "__init__" "Keeper.__init__" s_K_init f fd) (T : NmK K mg aF CK CR CE) : FnOk P w K mg base CX0 1 f fd ["self", "compute"] (spKI CK CR aF) := by
  refine F.ok sc_K_init (fun vs H Q E h => ?_) (fun cdv A outer s H vs Q E hr h => ?_)
  · obtain ⟨p, dx, rfl, _⟩ := h
    rfl
  obtain ⟨p, dx, rfl, ck, hp, q⟩ := h
  refine ⟨_, (pss_cons (ps_fld (pv 0) (pv 1) rfl)
    (pss_cons (ps_fld (pv 0) pe_int rfl)
    (pss_cons (ps_fld (pv 0) pe_non rfl)
    (pss_cons (ps_fld (pv 0) pe_dnewT rfl)
    (pss_cons (ps_fld (pv 0) pe_dnewT rfl)
    (pss_cons (ps_fld (pv 0) pe_dnewT rfl)
    (pss_cons (ps_fld (pv 0) pe_non rfl)
    (pss_one (ps_fld (pv 0) (pe_lst pa_nil) rfl))))))))), ?_⟩
  refine ⟨_, rfl, _, rfl, p, CK, dx, _, rfl, hp, T.cl_Keeper, T.n_function, by decide, ?_⟩
  refine ⟨_, rfl, p, CK, dx, _, rfl, upd_same, T.cl_Keeper, T.n_now, by show 1 < 1000; decide, ?_⟩
  refine ⟨_, rfl, p, CK, dx, _, rfl, upd_same, T.cl_Keeper, T.n_left, by show 2 < 1000; decide, ?_⟩
  rw [upd_upd, upd_upd]
  have fr : ∀ {fs} c u, H c = some u → c ≠ p → upd H p (.ins CK dx fs) c = some u := fun c u z y => by rw [upd_ne y]; exact z
  have none1 : ∀ {fs c}, upd H p (.ins CK dx fs) c = none → H c = none ∧ c ≠ p := fun {fs c} z => by
    by_cases y : c = p
    · rw [y, upd_same] at z
      cases z
    · rw [upd_ne y] at z
      exact ⟨z, y⟩
  intro i ni
  obtain ⟨ni0, nip⟩ := none1 ni
  refine ⟨_, rfl, p, CK, dx, _, rfl, (upd_ne nip.symm).trans upd_same, T.cl_Keeper, T.n_inputs, by show 3 < 1000; decide, ?_⟩
  intro e ne
  have nep : e ≠ p := fun z => by rw [z, upd_same] at ne; cases ne
  rw [upd_ne nep] at ne
  have nei : e ≠ i := fun z => by rw [z, upd_same] at ne; cases ne
  rw [upd_ne nei, upd_ne nep] at ne
  refine ⟨_, rfl, p, CK, dx, _, rfl, (upd_ne nep.symm).trans upd_same, T.cl_Keeper, T.n_entries, by show 4 < 1000; decide, ?_⟩
  intro r nr
  have nrp : r ≠ p := fun z => by rw [z, upd_same] at nr; cases nr
  rw [upd_ne nrp] at nr
  have nre : r ≠ e := fun z => by rw [z, upd_same] at nr; cases nr
  rw [upd_ne nre, upd_ne nrp] at nr
  have nri : r ≠ i := fun z => by rw [z, upd_same] at nr; cases nr
  rw [upd_ne nri, upd_ne nrp] at nr
  refine ⟨_, rfl, p, CK, dx, _, rfl, (upd_ne nrp.symm).trans upd_same, T.cl_Keeper, T.n_runs, by show 5 < 1000; decide, ?_⟩
  refine ⟨_, rfl, p, CK, dx, _, rfl, upd_same, T.cl_Keeper, T.n_asked, by show 6 < 1000; decide, ?_⟩
  rw [upd_upd]
  refine ⟨Nat.zero_le _, fun l nl => ?_⟩
  have nlp : l ≠ p := fun z => by rw [z, upd_same] at nl; cases nl
  rw [upd_ne nlp] at nl
  have nlr : l ≠ r := fun z => by rw [z, upd_same] at nl; cases nl
  rw [upd_ne nlr, upd_ne nlp] at nl
  have nle : l ≠ e := fun z => by rw [z, upd_same] at nl; cases nl
  rw [upd_ne nle, upd_ne nlp] at nl
  have nli : l ≠ i := fun z => by rw [z, upd_same] at nl; cases nl
  rw [upd_ne nli, upd_ne nlp] at nl
  refine ⟨_, rfl, p, CK, dx, _, rfl, (upd_ne nlp.symm).trans upd_same, T.cl_Keeper, T.n_ended, by show 7 < 1000; decide, ?_⟩
  refine q _ ⟨i, e, r, l⟩ (fun c u z y => ?_) ni0 ne nr nl ⟨⟨dx, upd_same⟩, ⟨[], ?_, Nat.le_refl _, fun _ => rfl, fun _ => .inl ⟨rfl, rfl⟩⟩, ⟨[], ?_, Nat.le_refl _, fun _ => rfl, fun _ => .inl ⟨rfl, rfl⟩⟩, ⟨[], ?_, Nat.le_refl _, fun _ => rfl⟩, fun k => ⟨fun z => absurd z (by simp), fun _ p z => by cases z⟩, ⟨[], ?_, Nat.le_refl _⟩, nei.symm, nri.symm, nre.symm, ck⟩
  · have c1 : c ≠ l := fun y => by rw [y, nl] at z; cases z
    have c2 : c ≠ r := fun y => by rw [y, nr] at z; cases z
    have c3 : c ≠ e := fun y => by rw [y, ne] at z; cases z
    have c4 : c ≠ i := fun y => by rw [y, ni0] at z; cases z
    rw [upd_ne y, upd_ne c1, upd_ne y, upd_ne c2, upd_ne y, upd_ne c3, upd_ne y, upd_ne c4, upd_ne y]
    exact z
  · show upd _ _ _ i = _
    rw [upd_ne nip, upd_ne nli.symm, upd_ne nip, upd_ne nri.symm, upd_ne nip, upd_ne nei.symm, upd_ne nip, upd_same]
  · show upd _ _ _ e = _
    rw [upd_ne nep, upd_ne nle.symm, upd_ne nep, upd_ne nre.symm, upd_ne nep, upd_same]
  · show upd _ _ _ r = _
    rw [upd_ne nrp, upd_ne nlr.symm, upd_ne nrp, upd_same]
  · show upd _ _ _ l = _
    rw [upd_ne nlp, upd_same]
end
structure MF (K : PySem.W.Frag) (C : Addr) (m qual : Str) (st : Stmt) (ps : List Str) : Prop where
  ex : ∃ (f : Addr) (fd : FuncData), Fun K m qual st f fd ∧ Meth K C m f ∧ Binds K fd ps []
section
variable {P : Program} {w : World} {K : PySem.W.Frag} {mg : Str → Option Value} {base : Heap} {CX : CXT} {k : Nat} {C : Addr} {m qual : Str} {st : Stmt} {ps : List Str} {sp : Sp}
theorem MF.cal (h : MF K C m qual st ps) (ok : ∀ f fd, Fun K m qual st f fd → FnOk P w K mg base CX k f fd ps sp) : CalM P w K mg base CX k C m sp := by
  obtain ⟨f, fd, F, M, b⟩ := h.ex
  exact ⟨⟨f, fd, ps, ok f fd F, M, b⟩⟩
end
theorem no_ask {CK CR aF CE : Addr} {vs : List V} {H : Hp} {Q : VK} {E : XK} (h : spAsk CK CR aF CE 0 vs H Q E) : False := by
  obtain ⟨o, b, A, S, rn, lv, av, m, ni, k, many, _, p, _⟩ := h
  have := p.bud
  have := nodup_le p.nd p.lt
  omega
structure KM (K : PySem.W.Frag) (CK : Addr) : Prop where
  ask : MF K CK "ask" "Keeper.ask" s_K_ask ["self", "key"]
  entered : MF K CK "_entered" "Keeper._entered" s_K_entered ["self", "key", "run"]
  wanted : MF K CK "_wanted" "Keeper._wanted" s_K_wanted ["self", "step"]
  is_checked : MF K CK "_is_checked" "Keeper._is_checked" s_K_is_checked ["self", "key"]
  changed : MF K CK "_changed" "Keeper._changed" s_K_changed ["self", "key"]
  begin_ : MF K CK "_begin" "Keeper._begin" s_K_begin ["self"]
  end_ : MF K CK "_end" "Keeper._end" s_K_end ["self", "key", "value"]
theorem ask_all {P : Program} {w : World} {K : PySem.W.Frag} {mg : Str → Option Value} {base : Heap} {CK CR CE aF : Addr} {fdC : FuncData} (T : NmK K mg aF CK CR CE) (M : KM K CK) (I_Run : CalO P w K mg base CX0 1 CR (spRunI CR))
    (FC : Fun K "_law_chain" "_law_chain" s_l_chain aF fdC) (BC : Binds K fdC ["keeper", "key"] []) : ∀ n, CalM P w K mg base (L2.CX P w) (3 + 2 * n) CK "ask" (spAsk CK CR aF CE n)
  | 0 => M.ask.cal fun f fd F => ⟨fun _ _ _ _ h => (no_ask h).elim, fun _ _ _ _ _ _ _ _ _ _ _ _ _ h => (no_ask h).elim⟩
  | n + 1 => by
    have c := ask_all T M I_Run FC BC n
    have c1 := M.is_checked.cal (P := P) (w := w) (mg := mg) (base := base) fun f fd F => ok_is_checked F T
    have c2 := M.changed.cal (P := P) (w := w) (mg := mg) (base := base) fun f fd F => ok_changed F T
    have c3 := M.wanted.cal (P := P) (w := w) (mg := mg) (base := base) fun f fd F => ok_wanted F T c1 c2
    have c4 := M.entered.cal (P := P) (w := w) (mg := mg) (base := base) fun f fd F => ok_entered F T
    have c5 := M.begin_.cal (P := P) (w := w) (mg := mg) (base := base) fun f fd F => ok_begin F T
    have c6 := M.end_.cal (P := P) (w := w) (mg := mg) (base := base) fun f fd F => ok_end F T
    exact M.ask.cal fun f fd F => ok_ask (L := 3 + 2 * n + 1) F T I_Run c4 c3 c5 c6 (by omega) (ok_l_chain FC T c) FC.kp BC

end Sn

namespace Sn
open PySem PySem.Spec PyProof.Rows L2 TL
/-! ### the law's own chain -/
def FolR (go : Go) (k0 : Nat) (v : V) : Prop := (v = .non ∧ ∀ n s, ¬ Ends go k0 n s) ∨ ∃ n s, Ends go k0 n s ∧ v = .int s
def spFol : Sp := fun vs H Q _ => ∃ (gd : Addr) (kvs : List (L2.Key × V)) (go : Go) (many k0 : Nat), vs = [.ref gd, .int (k0 : Int)] ∧ H gd = some (.dK kvs) ∧ many ≤ 6 ∧ k0 < many ∧ (∀ k, k < many → ∃ g r, go k = some (g, r) ∧ valV kvs (.inl (k : Int)) = some (.int g) ∧ g < many) ∧ ∀ H' v, Same H H' → FolR go k0 v → Q v H'
def Bel (go : Go) (k0 : Nat) : Nat → List Nat → Prop
  | k, [] => k = k0
  | k, x :: r => (∃ q, go x = some ((k : Int), q)) ∧ Bel go k0 x r
theorem Bel.leads {go : Go} {k0 : Nat} : ∀ {k : Nat} {r : List Nat}, Bel go k0 k r → ∀ x ∈ r, Leads go x k
  | k, x :: r, h, y, hy => by
    obtain ⟨⟨q, e⟩, h⟩ := h
    rcases List.mem_cons.mp hy with rfl | hy
    · exact .one e
    · exact (Bel.leads h y hy).snoc e
theorem Bel.no {go : Go} {k0 : Nat} : ∀ {k : Nat} {r : List Nat}, Bel go k0 k r → (∀ n s, ¬ Ends go k n s) → ∀ n s, ¬ Ends go k0 n s
  | k, [], h, no => by
    have h : k = k0 := h
    rw [← h]
    exact no
  | k, x :: r, h, no => by
    obtain ⟨⟨q, e⟩, h⟩ := h
    exact Bel.no h (noEnds e no)
theorem Bel.up {go : Go} {k0 : Nat} : ∀ {k : Nat} {r : List Nat} {n : Nat} {s : Int}, Bel go k0 k r → Ends go k n s → ∃ n', Ends go k0 n' (s + (r.map fun (x : Nat) => (x : Int)).sum)
  | k, [], n, s, h, e => by
    have h : k = k0 := h
    subst h
    exact ⟨n, by simpa using e⟩
  | k, x :: r, n, s, h, e => by
    obtain ⟨⟨q, g⟩, h⟩ := h
    obtain ⟨n', e'⟩ := Bel.up h (.step g e)
    refine ⟨n', ?_⟩
    have z : s + ((x :: r).map fun (x : Nat) => (x : Int)).sum = (x : Int) + s + (r.map fun (x : Nat) => (x : Int)).sum := by
      rw [List.map_cons, List.sum_cons]
      omega
    rw [z]
    exact e'
theorem eqV_int {a m : Int} : eqV (.int a) (.int m) = decide (a = m) := by
  show decide _ = decide _
  by_cases h : a = m <;> simp [h]
theorem sumRev : ∀ l : List Int, l.reverse.sum = l.sum
  | [] => rfl
  | a :: l => by
    have ih := sumRev l
    rw [List.reverse_cons, List.sum_append, ih, List.sum_cons]
    simp
    omega
theorem inV_int {m : Int} : ∀ {ns : List Int}, inV (.int m) (ns.map V.int) = decide (m ∈ ns)
  | [] => by simp [inV]
  | a :: ns => by
    have ih := inV_int (m := m) (ns := ns)
    unfold inV at ih ⊢
    rw [List.map_cons, List.any_cons, ih, eqV_int]
    by_cases h : m = a
    · subst h
      simp
    · have h' : ¬ a = m := fun z => h z.symm
      by_cases h2 : m ∈ ns <;> simp [h, h', h2]
theorem flat_ints : ∀ ns : List Int, (ns.map V.int).all flatV = true
  | [] => rfl
  | a :: ns => by rw [List.map_cons, List.all_cons, flat_ints ns]; rfl
structure NmF (mg : Str → Option Value) : Prop extends Nm mg where
  sum : mg "sum" = none
section
variable {P : Program} {w : World} {K : PySem.W.Frag} {mg : Str → Option Value} {base : Heap} {f : Addr} {fd : FuncData}
abbrev s_l_follow : Stmt := topS 15
abbrev N_l_follow : List Str := ["goals", "start", "chain", "k", "goal"]
theorem sc_l_follow : FnScope N_l_follow ["goals", "start"] (defScope s_l_follow) := ⟨rfl, rfl, rfl, by decide +kernel, rfl, by decide +kernel, by decide +kernel⟩
theorem ok_l_follow (F : Fun K "_law_follow" "_law_follow" s_l_follow f fd) (T : NmF mg) : FnOk P w K mg base CX0 1 f fd ["goals", "start"] spFol := by
  refine F.ok sc_l_follow (fun vs H Q E h => ?_) (fun cdv A outer s H vs Q E hr h => ?_)
  · obtain ⟨gd, kvs, go, many, k0, rfl, _⟩ := h
    rfl
  obtain ⟨gd, kvs, go, many, k0, rfl, hgd, hm, hk0, hgo, q⟩ := h
  refine ⟨_, (pss_cons (ps_set (i := 2) sc_l_follow.nd rfl (Or.inl rfl) (pe_lst (pa_cons (pv 1) pa_nil)))
    (pss_cons (ps_for PassesOwn.never rfl (pi_range1 (by rfl) T.range (pa_cons pe_int pa_nil)) (pg_name (i := 3) sc_l_follow.nd rfl (Or.inl rfl)) (pss_cons (ps_set (i := 4) sc_l_follow.nd rfl (Or.inl rfl) (pe_dget (hu_of hr) (pv 0) (pe_ix (r := rIxL K) ix_list (pv 2) (pe_un un_neg pe_int) (fun _ _ => rfl)) (fun _ _ => rfl)))
    (pss_cons (ps_if (PW.pt (pw_and (pt_cmpR op_ge (pv 4) pe_int (nomark _)) (pw_and1 (pt_cmpR op_in_seq (pv 4) (pv 2) (by rfl))))) (pss_one (ps_ret pe_non)) pss_nil)
    (pss_one (ps_if (pt_cmpR op_ge (pv 4) pe_int (nomark _)) (pss_one (ps_expr (pe_bm PySem.F.plainAttrs_list PySem.F.slot_list_append PySem.F.type_list_append mt_append (pv 2) (pa_cons (pv 4) pa_nil)))) pss_nil)))))
    (pss_one (ps_ret (pe_callB (cr_sum rfl) (by rfl) T.sum (by decide +kernel) (pa_cons (pv 2) pa_nil)))))), ?_⟩
  refine ⟨_, rfl, by show 1 ≤ sizeLine; decide, fun c nc => ?_⟩
  have s1 := same_new (o := .lst [.int (k0 : Int)]) nc
  refine ⟨8, rfl, by decide, by decide, ?_⟩
  refine for_range (lo := 0) (n := 8) (fun i σ H' => ∃ (v3 v4 : Option V) (k : Nat) (r : List Nat), σ = [some (.ref gd), some (.int (k0 : Int)), some (.ref c), v3, v4] ∧ But c H H' ∧ H c = none ∧ H' c = some (.lst (((k :: r).reverse.map fun (x : Nat) => (x : Int)).map V.int)) ∧ Bel go k0 k r ∧ (∀ x ∈ k :: r, x < many) ∧ (k :: r).Nodup ∧ (r.length = i ∨ ∃ g q, go k = some (g, q) ∧ g < 0))
    ⟨none, none, k0, [], rfl, But.of s1, nc, upd_same, rfl, fun x hx => by rw [List.mem_singleton.mp hx]; exact hk0, by simp, .inl rfl⟩ ?_ ?_
  · rintro i σ H2 hi ⟨v3, v4, k, r, rfl, b2, _, hc, hB, hlt, hnd, hst⟩
    have hcg : gd ≠ c := fun z => by rw [z, nc] at hgd; cases hgd
    have hgd2 := b2 _ _ hcg hgd
    obtain ⟨g, rr, e1, e2, e3⟩ := hgo k (hlt k List.mem_cons_self)
    have lastE : atI (((k :: r).reverse.map fun (x : Nat) => (x : Int)).map V.int) (-1) = some (.int (k : Int)) := by
      rw [List.reverse_cons, List.map_append, List.map_append]
      exact atI_last
    have dg : DGet H2 gd (.int (k : Int)) (some (.int g)) := by
      rw [← e2]
      exact DGet.k (k := .inl (k : Int)) hgd2
    refine ⟨_, rfl, _, rfl, 1, rfl, c, _, _, _, rfl, rfl, SqL.of hc, lastE, gd, _, rfl, dg, ?_⟩
    refine ⟨_, rfl, _, _, rfl, rfl, _, rfl, ?_⟩
    by_cases hneg : g < 0
    · refine iteN (by omega) ?_
      refine ⟨_, rfl, _, _, rfl, rfl, _, rfl, ?_⟩
      refine iteN (by omega) ?_
      exact ⟨_, _, k, r, rfl, b2, nc, hc, hB, hlt, hnd, .inr ⟨g, rr, e1, hneg⟩⟩
    obtain ⟨m, rfl⟩ : ∃ m : Nat, g = (m : Int) := ⟨g.toNat, by omega⟩
    refine iteP (by omega) ?_
    refine ⟨_, rfl, _, rfl, c, _, rfl, .inl (SqL.of hc), rfl, flat_ints _, _, rfl, ?_⟩
    have hmem : ((m : Int) ∈ (k :: r).reverse.map fun (x : Nat) => (x : Int)) ↔ m ∈ k :: r := by
      rw [List.mem_map]
      constructor
      · rintro ⟨x, hx, hxe⟩
        have : x = m := by omega
        rw [← this]
        exact List.mem_reverse.mp hx
      · exact fun h => ⟨m, List.mem_reverse.mpr h, rfl⟩
    show if inV (.int (m : Int)) (((k :: r).reverse.map fun (x : Nat) => (x : Int)).map V.int) = true then _ else _
    rw [inV_int]
    by_cases hin : m ∈ k :: r
    · refine iteP (hmem.mpr hin) ?_
      have lg : Leads go m m := by
        rcases List.mem_cons.mp hin with z | z
        · rw [← z] at e1
          exact .one e1
        · exact (hB.leads m z).snoc e1
      exact q H2 .non (fun b u e => b2 b u (fun z => by rw [z, nc] at e; cases e) e) (.inl ⟨rfl, hB.no (noEnds e1 fun n s => lg.no)⟩)
    · refine iteN (fun z => hin (hmem.mp z)) ?_
      refine ⟨_, rfl, _, _, rfl, rfl, _, rfl, ?_⟩
      refine iteP (by omega) ?_
      have len := nodup_le hnd hlt
      refine ⟨_, rfl, .inl ⟨rfl, _, SqL.of hc⟩, _, rfl, c, _, _, rfl, rfl, hc, by rw [List.length_map, List.length_map, List.length_reverse]; show (k :: r).length < 16777216; omega, ?_⟩
      have hri : r.length = i := by
        rcases hst with z | ⟨g, q', z, hg⟩
        · exact z
        · rw [e1] at z
          cases z
          exact absurd hg hneg
      refine ⟨_, _, m, k :: r, rfl, b2.upd, nc, ?_, ⟨⟨rr, e1⟩, hB⟩, fun x hx => ?_, List.nodup_cons.mpr ⟨hin, hnd⟩, .inl (by rw [List.length_cons, hri])⟩
      · rw [upd_same, List.reverse_cons (a := m), List.map_append, List.map_append]
        rfl
      · rcases List.mem_cons.mp hx with rfl | hx
        · omega
        · exact hlt x hx
  · rintro σ H2 ⟨v3, v4, k, r, rfl, b2, _, hc, hB, hlt, hnd, hst⟩
    have len := nodup_le hnd hlt
    have len2 : (k :: r).length = r.length + 1 := rfl
    obtain ⟨g, rr, e1, hneg⟩ : ∃ g q, go k = some (g, q) ∧ g < 0 := by
      rcases hst with z | z
      · exact absurd z (by omega)
      · exact z
    obtain ⟨n', e'⟩ := hB.up (.stop e1 hneg)
    refine ⟨_, rfl, c, _, rfl, SqL.of hc, ?_⟩
    refine q H2 _ (fun b u e => b2 b u (fun z => by rw [z, nc] at e; cases e) e) (.inr ⟨n', _, e', ?_⟩)
    rw [List.map_reverse, sumRev, List.map_cons, List.sum_cons]
end

end Sn

namespace Sn
open PySem PySem.Spec PyProof.Rows L2 TL
/-! ### the law -/
structure LS (CK CR aF t c o gd : Addr) (A : KAd) (many ni m : Nat) (H : Hp) (S : KS) (rn : Nat → Option Addr) (kvs : List (L2.Key × V)) : Prop where
  tp : Tp H t c
  kh : Kh CK CR aF H o A S rn [] .non m ni
  ki : KI many S
  hgd : H gd = some (.dK kvs)
  gdt : gd ≠ t
  cl : c ≠ A.l
  len : kvs.length ≤ ni
def Con (many : Nat) (D : Nat → Prop) (S : KS) (kvs : List (L2.Key × V)) : Prop := ∀ j, D j → ∃ g r, S.go j = some (g, r) ∧ valV kvs (.inl (j : Int)) = some (.int g) ∧ g < many
section
variable {CK CR aF t c o gd : Addr} {A : KAd} {many ni m : Nat} {H H' : Hp} {S S' : KS} {rn rn' : Nat → Option Addr} {kvs : List (L2.Key × V)}
theorem LS.take (L : LS CK CR aF t c o gd A many ni m H S rn kvs) (b : But t H H') (T : Tp H' t c) : LS CK CR aF t c o gd A many ni m H' S rn kvs := by
  refine ⟨T, L.kh.keep fun x u e hb => b x u (L.tp.ne e fun k z => ?_) e, L.ki, b _ _ L.gdt L.hgd, L.gdt, L.cl, L.len⟩
  subst z
  rcases hb with hb | hb
  · obtain ⟨_, w, _⟩ := L.kh.ended
    rw [hb, w] at e
    cases e
  · exact hb
theorem LS.frm (L : LS CK CR aF t c o gd A many ni m H S rn kvs) (f : ∀ b u, H b = some u → b ≠ o → b ≠ A.i → b ≠ A.e → b ≠ A.r → b ≠ A.l → H' b = some u) : Tp H' t c ∧ H' gd = some (.dK kvs) := by
  obtain ⟨_, eo⟩ := L.kh.raw
  obtain ⟨_, er, _⟩ := L.kh.run
  obtain ⟨_, el, _⟩ := L.kh.ended
  obtain ⟨_, ee, _⟩ := L.kh.ent
  obtain ⟨_, ei, _⟩ := L.kh.inp
  have ne : ∀ {a b u v}, H a = some u → H b = some v → u ≠ v → a ≠ b := fun x y z w => by
    rw [w, y] at x
    injection x with x
    exact z x.symm
  have dk : ∀ {b k}, H b = some (.dK k) → H' b = some (.dK k) := fun x => f _ _ x (ne x eo fun z => nomatch z) (ne x ei fun z => nomatch z) (ne x ee fun z => nomatch z) (ne x er fun z => nomatch z) (ne x el fun z => nomatch z)
  obtain ⟨cs, a, l, se, sa, z⟩ := L.tp
  exact ⟨⟨cs, a, l, se, sa, dk z.d, f _ _ z.cl (ne z.cl eo fun z => nomatch z) (ne z.cl ei fun z => nomatch z) (ne z.cl ee fun z => nomatch z) (ne z.cl er fun z => nomatch z) L.cl, z.cp, z.a0, z.l0, z.s0, z.s1⟩, dk L.hgd⟩
theorem Kh.wider {lv : List Nat} {av : V} (h : Kh CK CR aF H o A S rn lv av m ni) : Kh CK CR aF H o A S rn lv av m (ni + 1) := by
  obtain ⟨kv, a, b, c⟩ := h.inp
  exact ⟨h.raw, ⟨kv, a, by omega, c⟩, h.ent, h.run, h.live, h.ended, h.d1, h.d2, h.d3, h.ck⟩
theorem Con.put {D : Nat → Prop} {k : Nat} {v : Int} (h : Con many D S kvs) (hv : v < many) (hs : S' = S ∧ (∃ r, S.go k = some (v, r)) ∨ S' = ⟨S.now + 1, ups S.go k (v, S.now + 1), S.en⟩) : Con many (fun j => D j ∨ j = k) S' (putK kvs (.inl (k : Int)) (.int v)) := by
  have key : ∀ {j : Nat}, j ≠ k → valV (putK kvs (.inl (k : Int)) (.int v)) (.inl (j : Int)) = valV kvs (.inl (j : Int)) := fun {j} n => by
    rw [valV_put, if_neg (fun z => n (by injection z with z; omega))]
  have key2 : valV (putK kvs (.inl (k : Int)) (.int v)) (.inl (k : Int)) = some (.int v) := by rw [valV_put, if_pos rfl]
  intro j hj
  by_cases n : j = k
  · subst n
    rcases hs with ⟨rfl, r, e⟩ | rfl
    · exact ⟨v, r, e, key2, hv⟩
    · exact ⟨v, _, ups_at, key2, hv⟩
  · obtain ⟨g, r, a, b, c⟩ := h j (hj.resolve_right n)
    refine ⟨g, r, ?_, (key n).trans b, c⟩
    rcases hs with ⟨rfl, _⟩ | rfl
    · exact a
    · exact (ups_ne n).trans a
theorem KI.step {k : Nat} {v : Int} (I : KI many S) (hk : k < many) (hv : v < many) (hs : S' = S ∧ (∃ r, S.go k = some (v, r)) ∨ S' = ⟨S.now + 1, ups S.go k (v, S.now + 1), S.en⟩) : KI many S' := by
  rcases hs with ⟨rfl, _⟩ | rfl
  · exact I
  · exact I.put hk hv
end
section
variable {P : Program} {w : World} {K : PySem.W.Frag} {mg : Str → Option Value} {base : Heap} {f : Addr} {fd : FuncData} {CK CR CE aF : Addr}
abbrev s_law : Stmt := topS 16
abbrev N_law : List Str := ["script", "tape", "keeper", "goals", "many", "k", "one", "start", "expected", "actual"]
theorem sc_law : FnScope N_law ["script"] (defScope s_law) := ⟨rfl, rfl, rfl, by decide +kernel, rfl, by decide +kernel, by decide +kernel⟩
theorem ok_law (F : Fun K "law" "law" s_law f fd) (T : NmK K mg aF CK CR CE) (ck : CK ≠ CR) (C_law_tape : Cal P w K mg base CX0 1 "_law_tape" (spTape K)) (C_law_take : Cal P w K mg base CX0 1 "_law_take" spTake) (C_law_same : Cal P w K mg base CX0 18 "_law_same" (spSame 9))
    (C_law_follow : Cal P w K mg base CX0 1 "_law_follow" spFol) (I_Keeper : CalO P w K mg base CX0 1 CK (spKI CK CR aF)) (C_Keeper_put : CalM P w K mg base CX0 1 CK "put" (spPut CK CR aF)) (C_Keeper_ask : CalM P w K mg base (L2.CX P w) 17 CK "ask" (spAsk CK CR aF CE 7)) : FnOk P w K mg base CX0 20 f fd ["script"] (spLaw K) := by
  refine F.ok sc_law (fun vs H Q E h => ?_) (fun cdv A' outer s H vs Q E hr h => ?_)
  · obtain ⟨a, ns, rfl, _⟩ := h
    rfl
  obtain ⟨a, ns, rfl, hS, h63, q⟩ := h
  refine ⟨_, (pss_cons (ps_set (i := 1) sc_law.nd rfl (Or.inl rfl) (pe_c C_law_tape hr (by first | decide | omega) pass0 (pa_cons (pv 0) pa_nil)))
    (pss_cons (ps_set (i := 2) sc_law.nd rfl (Or.inl rfl) (pe_mk I_Keeper hr (by first | decide | omega) T.mk_Keeper pass0 (pa_cons (pe_glob (v := .ref aF) (by rfl) T.c__law_chain rfl) pa_nil)))
    (pss_cons (ps_set (i := 3) sc_law.nd rfl (Or.inl rfl) pe_dnewK)
    (pss_cons (ps_set (i := 4) sc_law.nd rfl (Or.inl rfl) (pe_op op_add pe_int (pe_c C_law_take hr (by first | decide | omega) pass0 (pa_cons (pv 1) (pa_cons pe_int pa_nil)))))
    (pss_cons (ps_for PassesOwn.never rfl (pi_range1 (by rfl) T.range (pa_cons (pv 4) pa_nil)) (pg_name (i := 5) sc_law.nd rfl (Or.inl rfl)) (pss_cons (ps_dput (hu_of hr) (pv 3) (pv 5) (pe_op op_sub (pe_c C_law_take hr (by first | decide | omega) pass0 (pa_cons (pv 1) (pa_cons (pe_op op_add (pv 4) pe_int) pa_nil))) pe_int) rfl)
    (pss_one (ps_expr (pe_m ns_Keeper C_Keeper_put T.cl_Keeper (by decide) hr (by first | decide | omega) pass0 (pv 2) (pa_cons (pe_tup (pa_cons pe_str (pa_cons (pv 5) pa_nil))) (pa_cons (pe_dget (hu_of hr) (pv 3) (pv 5) (fun _ _ => rfl)) pa_nil)))))))
    (pss_cons (ps_for PassesOwn.never rfl (pi_range1 (by rfl) T.range (pa_cons (pe_op op_add pe_int (pe_c C_law_take hr (by first | decide | omega) pass0 (pa_cons (pv 1) (pa_cons pe_int pa_nil)))) pa_nil)) (pg_name (i := 5) sc_law.nd rfl (Or.inl rfl)) (C8.pss_cut (ps_if (pt_cmpR op_eq (pe_c C_law_take hr (by first | decide | omega) pass0 (pa_cons (pv 1) (pa_cons pe_int pa_nil))) pe_int (nomark _)) (pss_cons (ps_set (i := 6) sc_law.nd rfl (Or.inl rfl) (pe_c C_law_take hr (by first | decide | omega) pass0 (pa_cons (pv 1) (pa_cons (pv 4) pa_nil))))
    (pss_cons (ps_dput (hu_of hr) (pv 3) (pv 6) (pe_op op_sub (pe_c C_law_take hr (by first | decide | omega) pass0 (pa_cons (pv 1) (pa_cons (pe_op op_add (pv 4) pe_int) pa_nil))) pe_int) rfl)
    (pss_one (ps_expr (pe_m ns_Keeper C_Keeper_put T.cl_Keeper (by decide) hr (by first | decide | omega) pass0 (pv 2) (pa_cons (pe_tup (pa_cons pe_str (pa_cons (pv 6) pa_nil))) (pa_cons (pe_dget (hu_of hr) (pv 3) (pv 6) (fun _ _ => rfl)) pa_nil))))))) pss_nil)
    (pss_cons (ps_set (i := 7) sc_law.nd rfl (Or.inl rfl) (pe_c C_law_take hr (by first | decide | omega) pass0 (pa_cons (pv 1) (pa_cons (pv 4) pa_nil))))
    (pss_cons (ps_set (i := 8) sc_law.nd rfl (Or.inl rfl) (pe_c C_law_follow hr (by first | decide | omega) pass0 (pa_cons (pv 3) (pa_cons (pv 7) pa_nil))))
    (pss_cons (ps_set (i := 9) sc_law.nd rfl (Or.inl rfl) pe_non)
    (C8.pss_cut (ps_try_only rfl rfl ⟨rfl, by decide, .inl T.c_CyclicKey⟩ takes0 (fun W pn xe tk _ => (pss_one (ps_set (i := 9) sc_law.nd rfl (Or.inl rfl) (pe_mS ns_Keeper C_Keeper_ask T.cl_Keeper (by decide) hr (by first | decide | omega) (fun σ => passAt tk σ) (pv 2) (pa_cons (pe_tup (pa_cons pe_str (pa_cons (pv 7) pa_nil))) pa_nil))))) (fun a oe cls d pn _ _ => (pss_one (ps_if (pt_cmpR op_notN (pv 8) pe_non (nomark _)) (pss_one (ps_ret pe_bl)) pss_nil))))
    (pss_one (ps_if (pt_not (pt_val (pe_c C_law_same hr (by first | decide | omega) pass0 (pa_cons (pv 9) (pa_cons (pv 8) pa_nil))))) (pss_one (ps_ret pe_bl)) pss_nil))))))))
    (pss_one (ps_ret pe_bl)))))))), ?_⟩
  refine ⟨_, rfl, a, ns, rfl, hS, h63, fun t c H1 s1 nt nc tp1 => ?_⟩
  refine fun o dx n1 n2 n3 => ⟨o, dx, rfl, ck, upd_same, fun H2 A fr2 ni0 ne0 nr0 nl0 kh2 => ⟨rfl, ?_⟩⟩
  have s12 : Same H1 H2 := fun b u e => fr2 b u (by rw [upd_ne (fun z => by rw [z, n1] at e; cases e), upd_ne (fun z => by rw [z, n2] at e; cases e)]; exact e) (fun z => by rw [z, n1] at e; cases e)
  have tp2 := tp1.same s12
  intro gd ngd
  have s23 := same_new (o := .dK []) ngd
  have tp3 := tp2.same s23
  have hgd3 : upd H2 gd (.dK []) gd = some (.dK []) := upd_same
  have kh3 := kh2.same s23
  have gdt : gd ≠ t := (tp2.nt ngd).symm
  have ccl : c ≠ A.l := fun z => by
    obtain ⟨cs, a, l, se, sa, zz⟩ := tp1
    have zc := zz.cl
    have y : upd (upd H1 dx (.own o)) o (.ins CK dx []) c = some (.lst (cs.map V.int)) := by rw [upd_ne (fun z => by rw [z, n1] at zc; cases zc), upd_ne (fun z => by rw [z, n2] at zc; cases zc)]; exact zc
    rw [z, nl0] at y
    cases y
  generalize upd H2 gd (.dK []) = H3 at tp3 hgd3 kh3 ⊢
  refine ⟨_, rfl, t, c, 5, rfl, tp3, by decide, by decide, fun r H4 g0 g1 b4 T4 => ⟨_, _, rfl, rfl, ?_⟩⟩
  obtain ⟨many, hmany⟩ : ∃ many : Nat, 2 + r = (many : Int) := ⟨(2 + r).toNat, by omega⟩
  show gName 4 (V.int (2 + r)) _ _ _
  rw [hmany]
  have hm6 : many ≤ 6 := by omega
  have hm2 : 2 ≤ many := by omega
  have L3 : LS CK CR aF t c o gd A many 0 0 H3 ⟨0, fun _ => none, fun _ => none⟩ (fun _ => none) [] := ⟨tp3, kh3, ⟨(fun _ _ _ z => nomatch z), (fun _ _ z => nomatch z), (fun _ _ z => nomatch z), (fun _ _ _ _ z => nomatch z), (fun _ _ _ _ z => nomatch z)⟩, hgd3, gdt, ccl, Nat.le_refl _⟩
  have L4 := L3.take b4 T4
  refine ⟨_, rfl, (many : Int), rfl, by omega, by omega, ?_⟩
  have enm : ((many : Int)).toNat = many := by omega
  refine for_range (lo := 0) (n := ((many : Int)).toNat) (fun i σ H' => ∃ (v5 : Option V) (S : KS) (kvs : List (L2.Key × V)), σ = [some (.ref a), some (.ref t), some (.ref o), some (.ref gd), some (.int (many : Int)), v5, none, none, none, none] ∧ LS CK CR aF t c o gd A many i 0 H' S (fun _ => none) kvs ∧ Con many (fun j => j < i) S kvs)
    ⟨none, _, [], rfl, L4, fun j z => absurd z (Nat.not_lt_zero _)⟩ ?_ ?_
  · rintro i σ H5 hi ⟨v5, S, kvs, rfl, L5, hC⟩
    have hi : i < many := by omega
    have ei : (0 : Int) + (i : Nat) = (i : Nat) := by omega
    rw [ei]
    refine ⟨_, rfl, _, rfl, _, _, rfl, rfl, t, c, (many : Int) + 1, rfl, L5.tp, by omega, by omega, fun r6 H6 g60 g61 b6 T6 => ⟨_, _, rfl, rfl, ?_⟩⟩
    have L6 := L5.take b6 T6
    have hl6 : kvs.length < sizeLine := Nat.lt_of_le_of_lt L6.len (by show i < 16777216; omega)
    refine ⟨_, rfl, _, rfl, gd, _, rfl, DPut.k (k := .inl (i : Int)) L6.hgd hl6, ?_⟩
    have ngd6 : ∀ {b u}, H6 b = some u → (∀ k, u ≠ .dK k) → b ≠ gd := fun e n z => by
      rw [z, L6.hgd] at e
      injection e with e
      exact n _ e.symm
    have T7 : Tp (upd H6 gd (.dK (putK kvs (.inl (i : Int)) (.int (r6 - 1))))) t c := L6.tp.upd gdt.symm (by
      obtain ⟨cs, a, l, se, sa, zz⟩ := L6.tp
      exact ngd6 zz.cl fun _ z => nomatch z)
    have k7 : Kh CK CR aF (upd H6 gd (.dK (putK kvs (.inl (i : Int)) (.int (r6 - 1))))) o A S (fun _ => none) [] .non 0 i := L6.kh.keep fun b u e hb => by
      rw [upd_ne (ngd6 e fun k z => ?_)]
      · exact e
      · subst z
        rcases hb with hb | hb
        · obtain ⟨_, w, _⟩ := L6.kh.ended
          rw [hb, w] at e
          cases e
        · exact hb
    have hgd7 : upd H6 gd (.dK (putK kvs (.inl (i : Int)) (.int (r6 - 1)))) gd = some (.dK (putK kvs (.inl (i : Int)) (.int (r6 - 1)))) := upd_same
    generalize upd H6 gd (.dK (putK kvs (.inl (i : Int)) (.int (r6 - 1)))) = H7 at T7 k7 hgd7 ⊢
    refine ⟨_, rfl, o, rfl, k7.raw.isI, _, rfl, by show 2 ≤ sizeLine; decide, fun bt nb => ?_⟩
    have s8 := same_new (o := .tup [.str "to", .int (i : Int)]) nb
    have dg : DGet (upd H7 bt (.tup [.str "to", .int (i : Int)])) gd (.int (i : Int)) (some (.int (r6 - 1))) := by
      have e : valV (putK kvs (.inl (i : Int)) (.int (r6 - 1))) (.inl (i : Int)) = some (.int (r6 - 1)) := by rw [valV_put, if_pos rfl]
      rw [← e]
      exact DGet.k (k := .inl (i : Int)) (s8 _ _ hgd7)
    refine ⟨_, rfl, _, rfl, gd, _, rfl, dg, o, bt, A, S, _, [], .non, 0, i, i, r6 - 1, rfl, k7.same s8, upd_same, by omega, fun H9 S9 fr9 kh9 hs9 => ?_⟩
    have hv : r6 - 1 < (many : Int) := by omega
    have hcon := hC.put (k := i) hv hs9
    have L8 : LS CK CR aF t c o gd A many (i + 1) 0 (upd H7 bt (.tup [.str "to", .int (i : Int)])) S (fun _ => none) (putK kvs (.inl (i : Int)) (.int (r6 - 1))) := ⟨T7.same s8, (k7.same s8).wider, L6.ki, s8 _ _ hgd7, gdt, ccl, by have := length_putK kvs (.inl (i : Int)) (V.int (r6 - 1)); have := L6.len; omega⟩
    obtain ⟨T9, hgd9⟩ := L8.frm (H' := H9) fun b u e y1 y2 _ _ _ => fr9 b u e y1 y2
    exact ⟨_, S9, _, rfl, ⟨T9, kh9, L6.ki.step hi hv hs9, hgd9, gdt, ccl, L8.len⟩, fun j hj => hcon j (by
      by_cases z : j = i
      · exact .inr z
      · exact .inl (by have : j < i + 1 := hj; omega))⟩
  rintro σ H5 ⟨v5, S, kvs, rfl, L5, hC⟩
  rw [enm] at L5 hC
  refine ⟨_, rfl, t, c, 8, rfl, L5.tp, by decide, by decide, fun r6 H6 g60 g61 b6 T6 => ⟨_, _, rfl, rfl, ?_⟩⟩
  have L6 := L5.take b6 T6
  refine ⟨1 + r6, rfl, by omega, by omega, ?_⟩
  have cb : cB 7 = 1007766 := rfl
  refine for_range (lo := 0) (n := (1 + r6).toNat) (fun i σ H' => ∃ (v5 v6 v7 v8 v9 : Option V) (S : KS) (rn : Nat → Option Addr) (kvs : List (L2.Key × V)), σ = [some (.ref a), some (.ref t), some (.ref o), some (.ref gd), some (.int (many : Int)), v5, v6, v7, v8, v9] ∧ LS CK CR aF t c o gd A many (many + i) (i * 1100000) H' S rn kvs ∧ Con many (fun j => j < many) S kvs)
    ⟨v5, none, none, none, none, S, _, kvs, rfl, by rw [Nat.zero_mul]; exact L6, hC⟩ ?_ (fun σ H' _ => q _)
  rintro i σ H7 hi ⟨v5, v6, v7, v8, v9, S, rn, kvs, rfl, L7, hC7⟩
  have hi : i < 8 := by omega
  refine ⟨fun σ H' => ∃ (v5 v6 : Option V) (S : KS) (kvs : List (L2.Key × V)), σ = [some (.ref a), some (.ref t), some (.ref o), some (.ref gd), some (.int (many : Int)), v5, v6, v7, v8, v9] ∧ LS CK CR aF t c o gd A many (many + i + 1) (i * 1100000) H' S rn kvs ∧ Con many (fun j => j < many) S kvs, ?_, ?_⟩
  · refine ⟨_, rfl, t, c, 2, rfl, L7.tp, by decide, by decide, fun r8 H8 _ _ b8 T8 => ⟨rfl, _, rfl, ?_⟩⟩
    have L8 := L7.take b8 T8
    refine ite2 (fun _ => ?_) (fun _ => ⟨_, v6, S, kvs, rfl, ⟨L8.tp, L8.kh.wider, L8.ki, L8.hgd, L8.gdt, L8.cl, Nat.le_succ_of_le L8.len⟩, hC7⟩)
    refine ⟨_, rfl, _, rfl, t, c, (many : Int), rfl, L8.tp, by omega, by omega, fun r9 H9 g90 g91 b9 T9 => ?_⟩
    have L9 := L8.take b9 T9
    obtain ⟨one, rfl⟩ : ∃ one : Nat, r9 = (one : Int) := ⟨r9.toNat, by omega⟩
    have hone : one < many := by omega
    clear g90 g91
    refine ⟨_, rfl, _, rfl, _, _, rfl, rfl, t, c, (many : Int) + 1, rfl, L9.tp, by omega, by omega, fun r6 H6 g60 g61 b6 T6 => ⟨_, _, rfl, rfl, ?_⟩⟩
    have L6 := L9.take b6 T6
    have hl6 : kvs.length < sizeLine := Nat.lt_of_le_of_lt L6.len (by show many + i < 16777216; omega)
    refine ⟨_, rfl, _, rfl, gd, _, rfl, DPut.k (k := .inl (one : Int)) L6.hgd hl6, ?_⟩
    have ngd6 : ∀ {b u}, H6 b = some u → (∀ k, u ≠ .dK k) → b ≠ gd := fun e n z => by
      rw [z, L6.hgd] at e
      injection e with e
      exact n _ e.symm
    have T7 : Tp (upd H6 gd (.dK (putK kvs (.inl (one : Int)) (.int (r6 - 1))))) t c := L6.tp.upd gdt.symm (by
      obtain ⟨cs, a, l, se, sa, zz⟩ := L6.tp
      exact ngd6 zz.cl fun _ z => nomatch z)
    have k7 : Kh CK CR aF (upd H6 gd (.dK (putK kvs (.inl (one : Int)) (.int (r6 - 1))))) o A S rn [] .non (i * 1100000) (many + i) := L6.kh.keep fun b u e hb => by
      rw [upd_ne (ngd6 e fun k z => ?_)]
      · exact e
      · subst z
        rcases hb with hb | hb
        · obtain ⟨_, w, _⟩ := L6.kh.ended
          rw [hb, w] at e
          cases e
        · exact hb
    have hgd7 : upd H6 gd (.dK (putK kvs (.inl (one : Int)) (.int (r6 - 1)))) gd = some (.dK (putK kvs (.inl (one : Int)) (.int (r6 - 1)))) := upd_same
    generalize upd H6 gd (.dK (putK kvs (.inl (one : Int)) (.int (r6 - 1)))) = H7 at T7 k7 hgd7 ⊢
    refine ⟨_, rfl, o, rfl, k7.raw.isI, _, rfl, by show 2 ≤ sizeLine; decide, fun bt nb => ?_⟩
    have s8 := same_new (o := .tup [.str "to", .int (one : Int)]) nb
    have dg : DGet (upd H7 bt (.tup [.str "to", .int (one : Int)])) gd (.int (one : Int)) (some (.int (r6 - 1))) := by
      have e : valV (putK kvs (.inl (one : Int)) (.int (r6 - 1))) (.inl (one : Int)) = some (.int (r6 - 1)) := by rw [valV_put, if_pos rfl]
      rw [← e]
      exact DGet.k (k := .inl (one : Int)) (s8 _ _ hgd7)
    refine ⟨_, rfl, _, rfl, gd, _, rfl, dg, o, bt, A, S, _, [], .non, i * 1100000, many + i, one, r6 - 1, rfl, k7.same s8, upd_same, by omega, fun H9 S9 fr9 kh9 hs9 => ?_⟩
    have hv : r6 - 1 < (many : Int) := by omega
    have hcon := hC7.put (k := one) hv hs9
    have L8 : LS CK CR aF t c o gd A many (many + i + 1) (i * 1100000) (upd H7 bt (.tup [.str "to", .int (one : Int)])) S rn (putK kvs (.inl (one : Int)) (.int (r6 - 1))) := ⟨T7.same s8, (k7.same s8).wider, L6.ki, s8 _ _ hgd7, gdt, ccl, by have := length_putK kvs (.inl (one : Int)) (V.int (r6 - 1)); have := L6.len; omega⟩
    obtain ⟨T9, hgd9⟩ := L8.frm (H' := H9) fun b u e y1 y2 _ _ _ => fr9 b u e y1 y2
    exact ⟨_, _, S9, _, rfl, ⟨T9, kh9, L6.ki.step hone hv hs9, hgd9, gdt, ccl, L8.len⟩, fun j hj => hcon j (.inl hj)⟩
  rintro σ H8 ⟨v5, v6, S, kvs, rfl, L8, hC8⟩
  refine ⟨_, rfl, _, rfl, t, c, (many : Int), rfl, L8.tp, by omega, by omega, fun r9 H9 g90 g91 b9 T9 => ?_⟩
  have L9 := L8.take b9 T9
  obtain ⟨s0, rfl⟩ : ∃ s0 : Nat, r9 = (s0 : Int) := ⟨r9.toNat, by omega⟩
  have hs0 : s0 < many := by omega
  refine ⟨_, rfl, _, rfl, gd, kvs, S.go, many, s0, rfl, L9.hgd, hm6, hs0, hC8, fun H10 ex s10 hex => ?_⟩
  have tp10 := L9.tp.same s10
  have kh10 := L9.kh.same s10
  have hgd10 := s10 _ _ L9.hgd
  refine ⟨fun σ H' => ∃ (v5 v6 : Option V) (S' : KS) (rn' : Nat → Option Addr), σ = [some (.ref a), some (.ref t), some (.ref o), some (.ref gd), some (.int (many : Int)), v5, v6, some (.int (s0 : Int)), some ex, some ex] ∧ LS CK CR aF t c o gd A many (many + i + 1) ((i + 1) * 1100000) H' S' rn' kvs ∧ S'.go = S.go, ?_, ?_⟩
  · refine ⟨_, rfl, o, rfl, kh10.raw.isI, _, rfl, by show 2 ≤ sizeLine; decide, fun bs nbs => ?_⟩
    have s11 := same_new (o := .tup [.str "sum", .int (s0 : Int)]) nbs
    have kh11 := kh10.same s11
    have L11 : LS CK CR aF t c o gd A many (many + i + 1) (i * 1100000) (upd H10 bs (.tup [.str "sum", .int (s0 : Int)])) S rn kvs := ⟨tp10.same s11, kh11, L9.ki, s11 _ _ hgd10, gdt, ccl, L9.len⟩
    obtain ⟨g0, r0, hg0, _, _⟩ := hC8 s0 hs0
    have clo : ∀ j g r, S.go j = some (g, r) → ∀ m : Nat, g = m → ∃ g' r', S.go m = some (g', r') := fun j g r z m hm => by
      have z2 := (L9.ki.rev _ _ _ z).2.1
      obtain ⟨g', r', y, _, _⟩ := hC8 m (by show m < many; omega)
      exact ⟨g', r', y⟩
    have fin : ∀ (H12 : Hp) (S12 : KS) (rn12 : Nat → Option Addr) (m12 : Nat), Fr o A .non (upd H10 bs (.tup [.str "sum", .int (s0 : Int)])) H12 → Kh CK CR aF H12 o A S12 rn12 [] .non m12 (many + i + 1) → KI many S12 → Lat [] S S12 → m12 ≤ i * 1100000 + cB 7 → LS CK CR aF t c o gd A many (many + i + 1) ((i + 1) * 1100000) H12 S12 rn12 kvs := fun H12 S12 rn12 m12 fr kh ki la hm => by
      obtain ⟨T12, g12⟩ := L11.frm (H' := H12) fun b u e y1 _ y3 y4 y5 => fr b u e y1 y3 y4 y5 fun z => nomatch z
      exact ⟨T12, kh.more (by omega), ki, g12, gdt, ccl, L9.len⟩
    refine ⟨o, bs, A, S, rn, [], .non, i * 1100000, many + i + 1, s0, many, rfl, ⟨kh11, L9.ki, hm6, List.nodup_nil, fun x hx => absurd hx (by simp), fun x hx => absurd hx (by simp), by decide, clo, .inl rfl, by omega⟩, ⟨g0, r0, hg0⟩, .inr ⟨upd_same, fun x hx => absurd hx (by simp), fun H12 S12 rn12 m12 fr kh ki la _ hm _ e he hc => ?_, fun H12 S12 rn12 m12 fr kh ki la _ hm no => ⟨true, T.te, fun _ ax hax => ?_, fun q => nomatch q⟩⟩⟩
    · obtain ⟨n', en⟩ := ki.i3 _ _ he (by rw [hc, la.now])
      rw [la.go] at en
      have ee : ex = .int e.v := by
        rcases hex with ⟨_, no⟩ | ⟨n2, s2, e2, rfl⟩
        · exact absurd en (no _ _)
        · rw [(e2.det en).2]
      subst ee
      exact ⟨_, v6, S12, rn12, rfl, fin H12 S12 rn12 m12 fr kh ki la hm, la.go⟩
    · have ee : ex = .non := by
        rcases hex with ⟨z, _⟩ | ⟨n2, s2, e2, _⟩
        · exact z
        · exact absurd e2 (no _ _)
      subst ee
      exact ⟨_, rfl, rfl, _, rfl, iteF ⟨_, v6, S12, rn12, rfl, fin H12 S12 rn12 m12 fr kh ki la hm, la.go⟩⟩
  rintro σ H11 ⟨v5, v6, S', rn', rfl, L12, hgo⟩
  have hal : Al H11 9 ex ex := by
    rcases hex with ⟨rfl, _⟩ | ⟨_, _, _, rfl⟩
    · exact al_eq (xs := [.non]) rfl 0 _ _ rfl rfl
    · exact al_eq (xs := [.int _]) rfl 0 _ _ rfl rfl
  refine ⟨_, rfl, _, rfl, _, _, rfl, hal, _, rfl, iteF ?_⟩
  exact ⟨_, _, _, _, _, S', rn', kvs, rfl, L12, fun j hj => by rw [hgo]; exact hC8 j hj⟩
end

end Sn

namespace Sn
open PySem PySem.Spec PyProof.Rows L2 TL
theorem all_mk {l : PySem.W.OpenLaw} {w : World} {K : PySem.W.Frag} {h : Heap} {mg : Str → Option Value} {fa f0 f1 f2 f3 f4 f5 f6 f7 : Addr}
    {od0 an0 od1 an1 od2 an2 od3 an3 od4 an4 od5 an5 od6 an6 od7 an7 : Option Addr} {sl0 sl1 sl2 sl3 sl4 sl5 sl6 sl7 : Array (Option Value)} {oc0 kV0 dc0 pm0 cd0 ct0 oc1 kV1 dc1 pm1 cd1 ct1 oc2 kV2 dc2 pm2 cd2 ct2 oc3 kV3 dc3 pm3 cd3 ct3 oc4 kV4 dc4 pm4 cd4 ct4 oc5 kV5 dc5 pm5 cd5 ct5 oc6 kV6 dc6 pm6 cd6 ct6 oc7 kV7 dc7 pm7 cd7 ct7 : Value}
    {CK CR CE : Addr}
    {f8 : Addr} {od8 an8 : Option Addr} {sl8 : Array (Option Value)} {oc8 kV8 dc8 pm8 cd8 ct8 : Value}
    {f9 : Addr} {od9 an9 : Option Addr} {sl9 : Array (Option Value)} {oc9 kV9 dc9 pm9 cd9 ct9 : Value}
    {f10 : Addr} {od10 an10 : Option Addr} {sl10 : Array (Option Value)} {oc10 kV10 dc10 pm10 cd10 ct10 : Value}
    {f11 : Addr} {od11 an11 : Option Addr} {sl11 : Array (Option Value)} {oc11 kV11 dc11 pm11 cd11 ct11 : Value}
    {f12 : Addr} {od12 an12 : Option Addr} {sl12 : Array (Option Value)} {oc12 kV12 dc12 pm12 cd12 ct12 : Value}
    {f13 : Addr} {od13 an13 : Option Addr} {sl13 : Array (Option Value)} {oc13 kV13 dc13 pm13 cd13 ct13 : Value}
    {f14 : Addr} {od14 an14 : Option Addr} {sl14 : Array (Option Value)} {oc14 kV14 dc14 pm14 cd14 ct14 : Value}
    {f15 : Addr} {od15 an15 : Option Addr} {sl15 : Array (Option Value)} {oc15 kV15 dc15 pm15 cd15 ct15 : Value}
    {f16 : Addr} {od16 an16 : Option Addr} {sl16 : Array (Option Value)} {oc16 kV16 dc16 pm16 cd16 ct16 : Value}
    {f17 : Addr} {od17 an17 : Option Addr} {sl17 : Array (Option Value)} {oc17 kV17 dc17 pm17 cd17 ct17 : Value} (X : K.In h) (G : h.Ns mainGlobals mg) (hfa : mg "law" = some (.ref fa))
    (a0 : PySem.W.nsIn K mainGlobals "_law_tape" = some (some (.ref f0)))
    (l0 : K.lookup f0 = some ⟨oc0, od0, .func (PySem.W.fnOf "_law_tape" "_law_tape" (defArgs s_tape) (defBody s_tape) (defScope s_tape) .none kV0 dc0 pm0 an0 cd0 ct0), sl0⟩)
    (c0 : PySem.W.codeIn K cd0 "_law_tape" = true)
    (k0 : PySem.W.keepIn K (.ref f0) = true)
    (a1 : PySem.W.nsIn K mainGlobals "_law_take" = some (some (.ref f1)))
    (l1 : K.lookup f1 = some ⟨oc1, od1, .func (PySem.W.fnOf "_law_take" "_law_take" (defArgs s_take) (defBody s_take) (defScope s_take) .none kV1 dc1 pm1 an1 cd1 ct1), sl1⟩)
    (c1 : PySem.W.codeIn K cd1 "_law_take" = true)
    (k1 : PySem.W.keepIn K (.ref f1) = true)
    (a2 : PySem.W.nsIn K mainGlobals "_law_is_integer" = some (some (.ref f2)))
    (l2 : K.lookup f2 = some ⟨oc2, od2, .func (PySem.W.fnOf "_law_is_integer" "_law_is_integer" (defArgs s_isInt) (defBody s_isInt) (defScope s_isInt) .none kV2 dc2 pm2 an2 cd2 ct2), sl2⟩)
    (c2 : PySem.W.codeIn K cd2 "_law_is_integer" = true)
    (k2 : PySem.W.keepIn K (.ref f2) = true)
    (a3 : PySem.W.nsIn K mainGlobals "_law_same_items" = some (some (.ref f3)))
    (l3 : K.lookup f3 = some ⟨oc3, od3, .func (PySem.W.fnOf "_law_same_items" "_law_same_items" (defArgs s_sameItems) (defBody s_sameItems) (defScope s_sameItems) .none kV3 dc3 pm3 an3 cd3 ct3), sl3⟩)
    (c3 : PySem.W.codeIn K cd3 "_law_same_items" = true)
    (k3 : PySem.W.keepIn K (.ref f3) = true)
    (a4 : PySem.W.nsIn K mainGlobals "_law_same" = some (some (.ref f4)))
    (l4 : K.lookup f4 = some ⟨oc4, od4, .func (PySem.W.fnOf "_law_same" "_law_same" (defArgs s_same) (defBody s_same) (defScope s_same) .none kV4 dc4 pm4 an4 cd4 ct4), sl4⟩)
    (c4 : PySem.W.codeIn K cd4 "_law_same" = true)
    (k4 : PySem.W.keepIn K (.ref f4) = true)
    (a5 : PySem.W.nsIn K mainGlobals "_law_chain" = some (some (.ref f5)))
    (l5 : K.lookup f5 = some ⟨oc5, od5, .func (PySem.W.fnOf "_law_chain" "_law_chain" (defArgs s_l_chain) (defBody s_l_chain) (defScope s_l_chain) .none kV5 dc5 pm5 an5 cd5 ct5), sl5⟩)
    (c5 : PySem.W.codeIn K cd5 "_law_chain" = true)
    (k5 : PySem.W.keepIn K (.ref f5) = true)
    (a6 : PySem.W.nsIn K mainGlobals "_law_follow" = some (some (.ref f6)))
    (l6 : K.lookup f6 = some ⟨oc6, od6, .func (PySem.W.fnOf "_law_follow" "_law_follow" (defArgs s_l_follow) (defBody s_l_follow) (defScope s_l_follow) .none kV6 dc6 pm6 an6 cd6 ct6), sl6⟩)
    (c6 : PySem.W.codeIn K cd6 "_law_follow" = true)
    (k6 : PySem.W.keepIn K (.ref f6) = true)
    (a7 : PySem.W.nsIn K mainGlobals "law" = some (some (.ref f7)))
    (l7 : K.lookup f7 = some ⟨oc7, od7, .func (PySem.W.fnOf "law" "law" (defArgs s_law) (defBody s_law) (defScope s_law) .none kV7 dc7 pm7 an7 cd7 ct7), sl7⟩)
    (c7 : PySem.W.codeIn K cd7 "law" = true)
    (k7 : PySem.W.keepIn K (.ref f7) = true)
    (a8 : PySem.W.findIn K (.ref CR) "__init__" = some (some (.ref f8)))
    (i8 : PySem.W.isFn K (.ref f8) = true)
    (l8 : K.lookup f8 = some ⟨oc8, od8, .func (PySem.W.fnOf "__init__" "Run.__init__" (defArgs s_Run_init) (defBody s_Run_init) (defScope s_Run_init) .none kV8 dc8 pm8 an8 cd8 ct8), sl8⟩)
    (c8 : PySem.W.codeIn K cd8 "Run.__init__" = true)
    (k8 : PySem.W.keepIn K (.ref f8) = true)
    (a9 : PySem.W.findIn K (.ref CK) "__init__" = some (some (.ref f9)))
    (i9 : PySem.W.isFn K (.ref f9) = true)
    (l9 : K.lookup f9 = some ⟨oc9, od9, .func (PySem.W.fnOf "__init__" "Keeper.__init__" (defArgs s_K_init) (defBody s_K_init) (defScope s_K_init) .none kV9 dc9 pm9 an9 cd9 ct9), sl9⟩)
    (c9 : PySem.W.codeIn K cd9 "Keeper.__init__" = true)
    (k9 : PySem.W.keepIn K (.ref f9) = true)
    (a10 : PySem.W.findIn K (.ref CK) "put" = some (some (.ref f10)))
    (i10 : PySem.W.isFn K (.ref f10) = true)
    (l10 : K.lookup f10 = some ⟨oc10, od10, .func (PySem.W.fnOf "put" "Keeper.put" (defArgs s_K_put) (defBody s_K_put) (defScope s_K_put) .none kV10 dc10 pm10 an10 cd10 ct10), sl10⟩)
    (c10 : PySem.W.codeIn K cd10 "Keeper.put" = true)
    (k10 : PySem.W.keepIn K (.ref f10) = true)
    (a11 : PySem.W.findIn K (.ref CK) "ask" = some (some (.ref f11)))
    (i11 : PySem.W.isFn K (.ref f11) = true)
    (l11 : K.lookup f11 = some ⟨oc11, od11, .func (PySem.W.fnOf "ask" "Keeper.ask" (defArgs s_K_ask) (defBody s_K_ask) (defScope s_K_ask) .none kV11 dc11 pm11 an11 cd11 ct11), sl11⟩)
    (c11 : PySem.W.codeIn K cd11 "Keeper.ask" = true)
    (k11 : PySem.W.keepIn K (.ref f11) = true)
    (a12 : PySem.W.findIn K (.ref CK) "_entered" = some (some (.ref f12)))
    (i12 : PySem.W.isFn K (.ref f12) = true)
    (l12 : K.lookup f12 = some ⟨oc12, od12, .func (PySem.W.fnOf "_entered" "Keeper._entered" (defArgs s_K_entered) (defBody s_K_entered) (defScope s_K_entered) .none kV12 dc12 pm12 an12 cd12 ct12), sl12⟩)
    (c12 : PySem.W.codeIn K cd12 "Keeper._entered" = true)
    (k12 : PySem.W.keepIn K (.ref f12) = true)
    (a13 : PySem.W.findIn K (.ref CK) "_wanted" = some (some (.ref f13)))
    (i13 : PySem.W.isFn K (.ref f13) = true)
    (l13 : K.lookup f13 = some ⟨oc13, od13, .func (PySem.W.fnOf "_wanted" "Keeper._wanted" (defArgs s_K_wanted) (defBody s_K_wanted) (defScope s_K_wanted) .none kV13 dc13 pm13 an13 cd13 ct13), sl13⟩)
    (c13 : PySem.W.codeIn K cd13 "Keeper._wanted" = true)
    (k13 : PySem.W.keepIn K (.ref f13) = true)
    (a14 : PySem.W.findIn K (.ref CK) "_is_checked" = some (some (.ref f14)))
    (i14 : PySem.W.isFn K (.ref f14) = true)
    (l14 : K.lookup f14 = some ⟨oc14, od14, .func (PySem.W.fnOf "_is_checked" "Keeper._is_checked" (defArgs s_K_is_checked) (defBody s_K_is_checked) (defScope s_K_is_checked) .none kV14 dc14 pm14 an14 cd14 ct14), sl14⟩)
    (c14 : PySem.W.codeIn K cd14 "Keeper._is_checked" = true)
    (k14 : PySem.W.keepIn K (.ref f14) = true)
    (a15 : PySem.W.findIn K (.ref CK) "_changed" = some (some (.ref f15)))
    (i15 : PySem.W.isFn K (.ref f15) = true)
    (l15 : K.lookup f15 = some ⟨oc15, od15, .func (PySem.W.fnOf "_changed" "Keeper._changed" (defArgs s_K_changed) (defBody s_K_changed) (defScope s_K_changed) .none kV15 dc15 pm15 an15 cd15 ct15), sl15⟩)
    (c15 : PySem.W.codeIn K cd15 "Keeper._changed" = true)
    (k15 : PySem.W.keepIn K (.ref f15) = true)
    (a16 : PySem.W.findIn K (.ref CK) "_begin" = some (some (.ref f16)))
    (i16 : PySem.W.isFn K (.ref f16) = true)
    (l16 : K.lookup f16 = some ⟨oc16, od16, .func (PySem.W.fnOf "_begin" "Keeper._begin" (defArgs s_K_begin) (defBody s_K_begin) (defScope s_K_begin) .none kV16 dc16 pm16 an16 cd16 ct16), sl16⟩)
    (c16 : PySem.W.codeIn K cd16 "Keeper._begin" = true)
    (k16 : PySem.W.keepIn K (.ref f16) = true)
    (a17 : PySem.W.findIn K (.ref CK) "_end" = some (some (.ref f17)))
    (i17 : PySem.W.isFn K (.ref f17) = true)
    (l17 : K.lookup f17 = some ⟨oc17, od17, .func (PySem.W.fnOf "_end" "Keeper._end" (defArgs s_K_end) (defBody s_K_end) (defScope s_K_end) .none kV17 dc17 pm17 an17 cd17 ct17), sl17⟩)
    (c17 : PySem.W.codeIn K cd17 "Keeper._end" = true)
    (k17 : PySem.W.keepIn K (.ref f17) = true)
    (z0 : PySem.W.nsIn K mainGlobals "abs" = some none)
    (z1 : PySem.W.nsIn K mainGlobals "int" = some none)
    (z2 : PySem.W.nsIn K mainGlobals "len" = some none)
    (z3 : PySem.W.nsIn K mainGlobals "range" = some none)
    (z4 : PySem.W.nsIn K mainGlobals "isinstance" = some none)
    (z5 : PySem.W.nsIn K mainGlobals "bool" = some none)
    (z6 : PySem.W.nsIn K mainGlobals "str" = some none)
    (z7 : PySem.W.nsIn K mainGlobals "tuple" = some none)
    (z8 : PySem.W.nsIn K mainGlobals "list" = some none)
    (z9 : PySem.W.nsIn K mainGlobals "sum" = some none)
    (aCK : PySem.W.nsIn K mainGlobals "Keeper" = some (some (.ref CK)))
    (aCR : PySem.W.nsIn K mainGlobals "Run" = some (some (.ref CR)))
    (aCE : PySem.W.nsIn K mainGlobals "CyclicKey" = some (some (.ref CE)))
    (pg1 : PySem.W.plainGet K CK Str.empty = true)
    (hd1 : PySem.W.hasDictIn K CK = true)
    (po1 : PySem.W.plainOver K CK = true)
    (sa1 : PySem.W.findIn K (.ref CK) "__setattr__" = some (some (.builtin "object.__setattr__")))
    (mk1 : PySem.W.makesIn K CK = true)
    (kc1 : PySem.W.keepIn K (.ref CK) = true)
    (pg2 : PySem.W.plainGet K CR Str.empty = true)
    (hd2 : PySem.W.hasDictIn K CR = true)
    (po2 : PySem.W.plainOver K CR = true)
    (sa2 : PySem.W.findIn K (.ref CR) "__setattr__" = some (some (.builtin "object.__setattr__")))
    (mk2 : PySem.W.makesIn K CR = true)
    (kc2 : PySem.W.keepIn K (.ref CR) = true)
    (n1 : PySem.W.findIn K (.ref CK) "_function" = some none)
    (n2 : PySem.W.findIn K (.ref CK) "_now" = some none)
    (n3 : PySem.W.findIn K (.ref CK) "_left" = some none)
    (n4 : PySem.W.findIn K (.ref CK) "_inputs" = some none)
    (n5 : PySem.W.findIn K (.ref CK) "_entries" = some none)
    (n6 : PySem.W.findIn K (.ref CK) "_runs" = some none)
    (n7 : PySem.W.findIn K (.ref CK) "_asked" = some none)
    (n8 : PySem.W.findIn K (.ref CK) "_ended" = some none)
    (nl : PySem.W.findIn K (.ref CR) "live" = some none)
    (nkr : (CK == CR) = false)
    (xI : PySem.W.excIn K CE [.type "ValueError", .type "Exception", .type "BaseException", .type "object"] "ValueError.__new__" = true)
    (kI : PySem.W.keepIn K (.ref CE) = true)
    (bI : PySem.W.subIn K (.ref CE) (.type "BaseException") = some true)
    (tI : PySem.W.typeIn K (.ref CE) = some (.type "type"))
    (iC : PySem.W.isClsIn K CE = true)
    (sC : PySem.W.subIn K (.ref CE) (.ref CE) = some true) :
    ∃ fd : FuncData, (∀ (s : Shared) (v : Value), BindsTo s fd ⟨[v], []⟩ [("script", v)]) ∧ ∀ base : Heap, K.In base → base.Ns mainGlobals mg → FnOk l.prog w K mg base CX0 20 fa fd ["script"] (spLaw K) := by
  have e := hfa.symm.trans (PySem.W.mg_of X G a7)
  cases e
  have F0 := fun_mk (st := s_tape) l0 c0 k0
  have b0 := F0.binds (ps := ["script"]) fun _ _ _ _ _ _ us hl => match us, hl with | [_], _ => rfl
  have m0 := PySem.W.mg_of X G a0
  have F1 := fun_mk (st := s_take) l1 c1 k1
  have b1 := F1.binds (ps := ["tape", "many"]) fun _ _ _ _ _ _ us hl => match us, hl with | [_, _], _ => rfl
  have m1 := PySem.W.mg_of X G a1
  have F2 := fun_mk (st := s_isInt) l2 c2 k2
  have b2 := F2.binds (ps := ["actual"]) fun _ _ _ _ _ _ us hl => match us, hl with | [_], _ => rfl
  have m2 := PySem.W.mg_of X G a2
  have F3 := fun_mk (st := s_sameItems) l3 c3 k3
  have b3 := F3.binds (ps := ["actual", "expected"]) fun _ _ _ _ _ _ us hl => match us, hl with | [_, _], _ => rfl
  have m3 := PySem.W.mg_of X G a3
  have F4 := fun_mk (st := s_same) l4 c4 k4
  have b4 := F4.binds (ps := ["actual", "expected"]) fun _ _ _ _ _ _ us hl => match us, hl with | [_, _], _ => rfl
  have m4 := PySem.W.mg_of X G a4
  have F5 := fun_mk (st := s_l_chain) l5 c5 k5
  have b5 := F5.binds (ps := ["keeper", "key"]) fun _ _ _ _ _ _ us hl => match us, hl with | [_, _], _ => rfl
  have m5 := PySem.W.mg_of X G a5
  have F6 := fun_mk (st := s_l_follow) l6 c6 k6
  have b6 := F6.binds (ps := ["goals", "start"]) fun _ _ _ _ _ _ us hl => match us, hl with | [_, _], _ => rfl
  have m6 := PySem.W.mg_of X G a6
  have F7 := fun_mk (st := s_law) l7 c7 k7
  have F8 := fun_mk (st := s_Run_init) l8 c8 k8
  have b8 := F8.binds (ps := ["self"]) fun _ _ _ _ _ _ us hl => match us, hl with | [_], _ => rfl
  have F9 := fun_mk (st := s_K_init) l9 c9 k9
  have b9 := F9.binds (ps := ["self", "compute"]) fun _ _ _ _ _ _ us hl => match us, hl with | [_, _], _ => rfl
  have F10 := fun_mk (st := s_K_put) l10 c10 k10
  have b10 := F10.binds (ps := ["self", "key", "value"]) fun _ _ _ _ _ _ us hl => match us, hl with | [_, _, _], _ => rfl
  have F11 := fun_mk (st := s_K_ask) l11 c11 k11
  have b11 := F11.binds (ps := ["self", "key"]) fun _ _ _ _ _ _ us hl => match us, hl with | [_, _], _ => rfl
  have F12 := fun_mk (st := s_K_entered) l12 c12 k12
  have b12 := F12.binds (ps := ["self", "key", "run"]) fun _ _ _ _ _ _ us hl => match us, hl with | [_, _, _], _ => rfl
  have F13 := fun_mk (st := s_K_wanted) l13 c13 k13
  have b13 := F13.binds (ps := ["self", "step"]) fun _ _ _ _ _ _ us hl => match us, hl with | [_, _], _ => rfl
  have F14 := fun_mk (st := s_K_is_checked) l14 c14 k14
  have b14 := F14.binds (ps := ["self", "key"]) fun _ _ _ _ _ _ us hl => match us, hl with | [_, _], _ => rfl
  have F15 := fun_mk (st := s_K_changed) l15 c15 k15
  have b15 := F15.binds (ps := ["self", "key"]) fun _ _ _ _ _ _ us hl => match us, hl with | [_, _], _ => rfl
  have F16 := fun_mk (st := s_K_begin) l16 c16 k16
  have b16 := F16.binds (ps := ["self"]) fun _ _ _ _ _ _ us hl => match us, hl with | [_], _ => rfl
  have F17 := fun_mk (st := s_K_end) l17 c17 k17
  have b17 := F17.binds (ps := ["self", "key", "value"]) fun _ _ _ _ _ _ us hl => match us, hl with | [_, _, _], _ => rfl
  refine ⟨PySem.W.fnOf "law" "law" (defArgs s_law) (defBody s_law) (defScope s_law) .none kV7 dc7 pm7 an7 cd7 ct7, fun s v => .of_eq rfl, fun base _ _ => ?_⟩
  have T : NmK K mg f5 CK CR CE := ⟨⟨(PySem.W.mg_none_of X G z0), (PySem.W.mg_none_of X G z1), (PySem.W.mg_none_of X G z2), (PySem.W.mg_none_of X G z3), (PySem.W.mg_none_of X G z4), (PySem.W.mg_none_of X G z5), (PySem.W.mg_none_of X G z6), (PySem.W.mg_none_of X G z7), (PySem.W.mg_none_of X G z8)⟩, (PySem.W.mg_none_of X G z9), ⟨pg1, hd1, po1, sa1⟩, ⟨pg2, hd2, po2, sa2⟩, n1, n2, n3, n4, n5, n6, n7, n8, nl, PySem.W.mg_of X G aCK, PySem.W.mg_of X G aCR, PySem.W.mg_of X G a5, PySem.W.mg_of X G aCE, bI, tI, kI, xI, exm_of bI iC tI sC⟩
  have TF : NmF mg := ⟨T.toNm, T.sum⟩
  have M_K : KM K CK := ⟨⟨⟨_, _, F11, ⟨a11, i11, k11⟩, b11⟩⟩, ⟨⟨_, _, F12, ⟨a12, i12, k12⟩, b12⟩⟩, ⟨⟨_, _, F13, ⟨a13, i13, k13⟩, b13⟩⟩, ⟨⟨_, _, F14, ⟨a14, i14, k14⟩, b14⟩⟩, ⟨⟨_, _, F15, ⟨a15, i15, k15⟩, b15⟩⟩, ⟨⟨_, _, F16, ⟨a16, i16, k16⟩, b16⟩⟩, ⟨⟨_, _, F17, ⟨a17, i17, k17⟩, b17⟩⟩⟩
  have I_Run : CalO l.prog w K mg base CX0 1 CR (spRunI CR) := ⟨⟨_, _, _, ok_Run_init F8 T, ⟨mk2, a8, i8, kc2⟩, b8⟩⟩
  have I_Keeper : CalO l.prog w K mg base CX0 1 CK (spKI CK CR f5) := ⟨⟨_, _, _, ok_K_init F9 T, ⟨mk1, a9, i9, kc1⟩, b9⟩⟩
  have C_Keeper_put : CalM l.prog w K mg base CX0 1 CK "put" (spPut CK CR f5) := ⟨⟨_, _, _, ok_put F10 T, ⟨a10, i10, k10⟩, b10⟩⟩
  have C_Keeper_ask : CalM l.prog w K mg base (L2.CX l.prog w) 17 CK "ask" (spAsk CK CR f5 CE 7) := ask_all T M_K I_Run F5 b5 7
  have C_law_tape : Cal l.prog w K mg base CX0 1 "_law_tape" (spTape K) := ⟨_, _, _, ok_tape F0 T.toNm, m0, F0.kp, b0⟩
  have C_law_take : Cal l.prog w K mg base CX0 1 "_law_take" spTake := ⟨_, _, _, ok_take F1 T.toNm, m1, F1.kp, b1⟩
  have C_law_is_integer : Cal l.prog w K mg base CX0 1 "_law_is_integer" spIsInt := ⟨_, _, _, ok_isInt F2 T.toNm, m2, F2.kp, b2⟩
  have C_law_same : Cal l.prog w K mg base CX0 18 "_law_same" (spSame 9) := both F4 b4 m4 F3 b3 m3 T.toNm C_law_is_integer 9
  have C_law_follow : Cal l.prog w K mg base CX0 1 "_law_follow" spFol := ⟨_, _, _, ok_l_follow F6 TF, m6, F6.kp, b6⟩
  exact ok_law F7 T (fun z => by simp [z] at nkr) C_law_tape C_law_take C_law_same C_law_follow I_Keeper C_Keeper_put C_Keeper_ask
theorem walk {l : PySem.W.OpenLaw} {q : Program} {loose : List Str} {XP : (Str → Option Value) → Heap → Prop} {YP : World → Heap → Prop} {d : DefRec} {K : Params → PySem.W.Frag} (hn : l.most = some 63) (hdf : d.params.defaults = [])
    (hY : ∀ (w : World) (h : Heap), YP w h → (K w.params).In h)
    (F : ∀ (w : World) (mg : Str → Option Value) (fa : Addr) (h : Heap), (K w.params).In h → h.Ns mainGlobals mg → mg d.name = some (.ref fa) →
      ∃ fd : FuncData, (∀ (s : Shared) (u : Value), BindsTo s fd ⟨[u], []⟩ [("script", u)]) ∧ ∀ base : Heap, (K w.params).In base → base.Ns mainGlobals mg → FnOk l.prog w (K w.params) mg base CX0 20 fa fd ["script"] (spLaw (K w.params))) :
    PySem.W.WalkO q loose XP YP l.row.toRowW d [] (fun f vs => PySem.call f vs) :=
  L2.walk_of (n := 63) (k := 20) (x := "script") (CX := fun _ => CX0) (sp := fun w => spLaw (K w.params)) hn (by decide) hdf ⟨rfl, by decide, by decide⟩ hY F (fun _ _ a ns hl _ hS => ⟨a, ns, rfl, hS, hl, fun _ => rfl⟩) fun _ _ _ _ _ z => z
end Sn
open PySem PySem.W PyProof.Rows
set_option maxRecDepth 100000 in
set_option maxHeartbeats 0 in
theorem PySem.Challenge.cw_samenames_k22_circles_are_told_holds : PySem.Challenge.rw_samenames_k22_circles_are_told.Holds := by
  w_on; o_law; k_head; (case hw => w_witness2)
  k_fill
  refine Sn.walk (l := PySem.Challenge.rw_samenames_k22_circles_are_told) rfl rfl (fun w h Y => PySem.W.kIn_of Y) ?F
  case F =>
    intro w mg fa h KX G hmg
    refine' Sn.all_mk KX G hmg ?a0 ?l0 ?c0 ?k0 ?a1 ?l1 ?c1 ?k1 ?a2 ?l2 ?c2 ?k2 ?a3 ?l3 ?c3 ?k3 ?a4 ?l4 ?c4 ?k4 ?a5 ?l5 ?c5 ?k5 ?a6 ?l6 ?c6 ?k6 ?a7 ?l7 ?c7 ?k7 ?a8 ?i8 ?l8 ?c8 ?k8 ?a9 ?i9 ?l9 ?c9 ?k9 ?a10 ?i10 ?l10 ?c10 ?k10 ?a11 ?i11 ?l11 ?c11 ?k11 ?a12 ?i12 ?l12 ?c12 ?k12 ?a13 ?i13 ?l13 ?c13 ?k13 ?a14 ?i14 ?l14 ?c14 ?k14 ?a15 ?i15 ?l15 ?c15 ?k15 ?a16 ?i16 ?l16 ?c16 ?k16 ?a17 ?i17 ?l17 ?c17 ?k17 ?z0 ?z1 ?z2 ?z3 ?z4 ?z5 ?z6 ?z7 ?z8 ?z9 ?aCK ?aCR ?aCE ?pg1 ?hd1 ?po1 ?sa1 ?mk1 ?kc1 ?pg2 ?hd2 ?po2 ?sa2 ?mk2 ?kc2 ?n1 ?n2 ?n3 ?n4 ?n5 ?n6 ?n7 ?n8 ?nl ?nkr ?xI ?kI ?bI ?tI ?iC ?sC
    (case aCK => k_is)
    (case aCR => k_is)
    (case aCE => k_is)
    (case pg1 => k_is)
    (case hd1 => k_is)
    (case po1 => k_is)
    (case sa1 => k_is)
    (case mk1 => k_is)
    (case kc1 => k_is)
    (case pg2 => k_is)
    (case hd2 => k_is)
    (case po2 => k_is)
    (case sa2 => k_is)
    (case mk2 => k_is)
    (case kc2 => k_is)
    (case n1 => k_is)
    (case n2 => k_is)
    (case n3 => k_is)
    (case n4 => k_is)
    (case n5 => k_is)
    (case n6 => k_is)
    (case n7 => k_is)
    (case n8 => k_is)
    (case nl => k_is)
    (case nkr => first | rfl | decide +kernel)
    (case xI => k_exc)
    (case kI => k_is)
    (case bI => k_is)
    (case tI => k_is)
    (case iC => k_is)
    (case sC => k_is)
    (case a0 => k_is)
    (case l0 => k_is)
    (case c0 => k_is)
    (case k0 => k_is)
    (case a1 => k_is)
    (case l1 => k_is)
    (case c1 => k_is)
    (case k1 => k_is)
    (case a2 => k_is)
    (case l2 => k_is)
    (case c2 => k_is)
    (case k2 => k_is)
    (case a3 => k_is)
    (case l3 => k_is)
    (case c3 => k_is)
    (case k3 => k_is)
    (case a4 => k_is)
    (case l4 => k_is)
    (case c4 => k_is)
    (case k4 => k_is)
    (case a5 => k_is)
    (case l5 => k_is)
    (case c5 => k_is)
    (case k5 => k_is)
    (case a6 => k_is)
    (case l6 => k_is)
    (case c6 => k_is)
    (case k6 => k_is)
    (case a7 => k_is)
    (case l7 => k_is)
    (case c7 => k_is)
    (case k7 => k_is)
    (case a8 => k_is)
    (case i8 => k_is)
    (case l8 => k_is)
    (case c8 => k_is)
    (case k8 => k_is)
    (case a9 => k_is)
    (case i9 => k_is)
    (case l9 => k_is)
    (case c9 => k_is)
    (case k9 => k_is)
    (case a10 => k_is)
    (case i10 => k_is)
    (case l10 => k_is)
    (case c10 => k_is)
    (case k10 => k_is)
    (case a11 => k_is)
    (case i11 => k_is)
    (case l11 => k_is)
    (case c11 => k_is)
    (case k11 => k_is)
    (case a12 => k_is)
    (case i12 => k_is)
    (case l12 => k_is)
    (case c12 => k_is)
    (case k12 => k_is)
    (case a13 => k_is)
    (case i13 => k_is)
    (case l13 => k_is)
    (case c13 => k_is)
    (case k13 => k_is)
    (case a14 => k_is)
    (case i14 => k_is)
    (case l14 => k_is)
    (case c14 => k_is)
    (case k14 => k_is)
    (case a15 => k_is)
    (case i15 => k_is)
    (case l15 => k_is)
    (case c15 => k_is)
    (case k15 => k_is)
    (case a16 => k_is)
    (case i16 => k_is)
    (case l16 => k_is)
    (case c16 => k_is)
    (case k16 => k_is)
    (case a17 => k_is)
    (case i17 => k_is)
    (case l17 => k_is)
    (case c17 => k_is)
    (case k17 => k_is)
    (case z0 => k_is)
    (case z1 => k_is)
    (case z2 => k_is)
    (case z3 => k_is)
    (case z4 => k_is)
    (case z5 => k_is)
    (case z6 => k_is)
    (case z7 => k_is)
    (case z8 => k_is)
    (case z9 => k_is)
