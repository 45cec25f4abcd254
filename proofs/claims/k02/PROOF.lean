import PyProof.Rows.All
import Wide.All
import OpenK.AllK
import Wide.FinOn
import PyProof.EqAt
import PyProof.EqKinds
import PyProof.TupleCall
import HandS.ForMost
import HandS.IsInst
import HandS.StrMore
import HandS.Codes
import HandS.Style
import HandS.Exc
import HandS.ExcOwn
import HandS.TryOnly
import HandS.ExcIs
import HandS.WordsExc
import HandS.Hot
import HandS.HotCalls
import HandS.ExcCtx
import PySem.Challenge.RW_samenames_k02_joint_edits
set_option Elab.async false
set_option linter.all false
set_option maxRecDepth 100000
set_option maxHeartbeats 4000000
/-! My own words over the hand layer: calls by name, heaps but for one place, texts, data. -/
namespace Sn
open PySem PySem.Spec PyProof.Rows L2

/-- a def that may be called by its name -/
structure Cal (P : Program) (w : World) (K : PySem.W.Frag) (mg : Str → Option Value) (base : Heap) (CX : CXT) (k : Nat) (x : Str) (sp : Sp) : Prop where
  ex : ∃ (f : Addr) (fd : FuncData) (ps : List Str), FnOk P w K mg base CX k f fd ps sp ∧ mg x = some (.ref f) ∧ PySem.W.keepIn K (.ref f) = true ∧ Binds K fd ps []
section
variable {X : Cx} {k j : Nat} {x : Str} {sp : Sp} {p pos : Pos} {e : Expr} {es : List Expr} {t : TA} {CX : CXT} {E : XK}
theorem pe_c (c : Cal X.prog X.w X.K X.mg X.base CX k x sp) (hr : Room j X.A) (hk : k ≤ j) (hx : Passes CX X E) (ha : PA X (e :: es) t) (hg : Gl X x := by rfl)
    (hdb : (x == ("__debug__" : Str)) = false := by decide) (he : starEach (e :: es) X.env = (false, eval e X.env) :: starEach es X.env := by rfl) (hpl : (backTo pos (starEach es X.env)).any (·.1) = false := by rfl) :
    PE X (.Call (.Name x p) (e :: es) [] pos) (tCall sp [] E t) := by
  obtain ⟨f, fd, ps, F, hm, kp, b⟩ := c.ex
  exact pe_call F (hr.mono hk) hg hm kp b .nil hx ha hdb he hpl
end

/-! ### displays of many written texts -/
def strOf : Expr → Option Str
  | .Constant (.str x) _ _ => some x
  | _ => none
def strsOf : List Expr → Option (List Str)
  | [] => some []
  | e :: r => match strOf e, strsOf r with
    | some x, some l => some (x :: l)
    | _, _ => none
theorem starEach_strs {env : Env} : ∀ {es : List Expr} {l : List Str}, strsOf es = some l → ∀ {e : Expr} {x : Str}, strOf e = some x → starEach (e :: es) env = (false, eval e env) :: starEach es env := by
  intro es l h e x hx
  unfold strOf at hx
  split at hx
  · rfl
  · cases hx
theorem pa_strsL {X : Cx} : ∀ (es : List Expr) (l : List Str), strsOf es = some l → PA X es (fun _ H Q => Q (l.map V.str) H)
  | [], l, h => by
    have e : l = [] := (Option.some.inj h).symm
    subst e
    exact pa_nil
  | e :: r, l, h => by
    unfold strsOf at h
    split at h
    · rename_i x m hx hm
      have el : l = x :: m := (Option.some.inj h).symm
      subst el
      have q := pa_strsL (X := X) r m hm
      have hs := starEach_strs (env := X.env) hm hx
      unfold strOf at hx
      split at hx
      · rename_i x' j pos
        have ex : x' = x := Option.some.inj hx
        subst ex
        exact pa_cons (te := tC (.str x')) (t := fun _ H Q => Q (m.map V.str) H) pe_str q hs
      · cases hx
    · cases h
theorem pa_strs {X : Cx} {es : List Expr} (l : List Str) (h : strsOf es = some l := by rfl) : PA X es (fun _ H Q => Q (l.map V.str) H) := pa_strsL es l h

/-! ### heaps -/
/-- all that was tracked but the object at t is as it was -/
def But (t : Addr) (H H' : Hp) : Prop := ∀ b o, b ≠ t → H b = some o → H' b = some o
theorem But.refl (t : Addr) (H : Hp) : But t H H := fun _ _ _ h => h
theorem But.trans {t : Addr} {H H1 H2 : Hp} (a : But t H H1) (b : But t H1 H2) : But t H H2 := fun c o n h => b c o n (a c o n h)
theorem But.of {t : Addr} {H H' : Hp} (s : Same H H') : But t H H' := fun b o _ h => s b o h
theorem same_new {H : Hp} {p : Addr} {o : HO} (h : H p = none) : Same H (upd H p o) := fun b u q => by
  rw [upd_ne (ne_of_none q h)]
  exact q
theorem But.upd {t : Addr} {H H1 : Hp} {o : HO} (b : But t H H1) : But t H (upd H1 t o) := fun c u n h => by
  rw [upd_ne n]
  exact b c u n h

/-! ### the tape -/
def tk (c : Addr) (a l se sa : Int) : List (Key × V) := [(.inr "cells", .ref c), (.inr "at", .int a), (.inr "left", .int l), (.inr "seed", .int se), (.inr "salt", .int sa)]
structure TkAt (H : Hp) (t c : Addr) (cs : List Int) (a l se sa : Int) : Prop where
  d : H t = some (.dK (tk c a l se sa))
  cl : H c = some (.lst (cs.map V.int))
  cp : ∀ x ∈ cs, 0 ≤ x
  a0 : 0 ≤ a
  l0 : 0 ≤ l
  s0 : 0 ≤ se
  s1 : se < 2147483647
/-- a tape stands at t -/
def Tp (H : Hp) (t c : Addr) : Prop := ∃ cs a l se sa, TkAt H t c cs a l se sa
theorem TkAt.ne {H : Hp} {t c : Addr} {cs : List Int} {a l se sa : Int} (z : TkAt H t c cs a l se sa) : c ≠ t := ne_of z.cl z.d (by intro q; cases q)
theorem Tp.same {H H' : Hp} {t c : Addr} (s : Same H H') : Tp H t c → Tp H' t c := fun ⟨cs, a, l, se, sa, z⟩ => ⟨cs, a, l, se, sa, s _ _ z.d, s _ _ z.cl, z.cp, z.a0, z.l0, z.s0, z.s1⟩
theorem Tp.ne {H : Hp} {t c b : Addr} (z : Tp H t c) {o : HO} (h : H b = some o) (hn : ∀ kvs, o ≠ .dK kvs) : b ≠ t := by
  obtain ⟨cs, a, l, se, sa, z⟩ := z
  exact ne_of h z.d (hn _)
theorem Tp.nt {H : Hp} {t c b : Addr} (z : Tp H t c) (h : H b = none) : t ≠ b := by
  obtain ⟨cs, a, l, se, sa, z⟩ := z
  exact ne_of_none z.d h
theorem Tp.nc {H : Hp} {t c b : Addr} (z : Tp H t c) (h : H b = none) : c ≠ b := by
  obtain ⟨cs, a, l, se, sa, z⟩ := z
  exact ne_of_none z.cl h
theorem Tp.upd {H : Hp} {t c b : Addr} {o : HO} (z : Tp H t c) (h1 : t ≠ b) (h2 : c ≠ b) : Tp (upd H b o) t c := by
  obtain ⟨cs, a, l, se, sa, z⟩ := z
  exact ⟨cs, a, l, se, sa, by rw [upd_ne h1]; exact z.d, by rw [upd_ne h2]; exact z.cl, z.cp, z.a0, z.l0, z.s0, z.s1⟩
theorem Tp.new {H : Hp} {t c b : Addr} {o : HO} (z : Tp H t c) (h : H b = none) : Tp (L2.upd H b o) t c := z.upd (z.nt h) (z.nc h)
section
variable {c : Addr} {a l se sa v : Int}
theorem g_cells : valV (tk c a l se sa) (.inr "cells") = some (.ref c) := by kernel_rfl
theorem g_at : valV (tk c a l se sa) (.inr "at") = some (.int a) := by kernel_rfl
theorem g_left : valV (tk c a l se sa) (.inr "left") = some (.int l) := by kernel_rfl
theorem g_seed : valV (tk c a l se sa) (.inr "seed") = some (.int se) := by kernel_rfl
theorem g_salt : valV (tk c a l se sa) (.inr "salt") = some (.int sa) := by kernel_rfl
theorem p_at : putK (tk c a l se sa) (.inr "at") (.int v) = tk c v l se sa := by kernel_rfl
theorem p_left : putK (tk c a l se sa) (.inr "left") (.int v) = tk c a v se sa := by kernel_rfl
theorem p_salt : putK (tk c a l se sa) (.inr "salt") (.int v) = tk c a l se v := by kernel_rfl
theorem tk_len : (tk c a l se sa).length < sizeLine := by
  show 5 < sizeLine
  decide
end
section
variable {H : Hp} {t c : Addr} {cs : List Int} {a l se sa v : Int}
theorem TkAt.dg (z : TkAt H t c cs a l se sa) {k : Key} {x : V} (h : valV (tk c a l se sa) k = some x) : DGet H t (kV k) (some x) := h ▸ DGet.k z.d
theorem TkAt.sAt (z : TkAt H t c cs a l se sa) (hv : 0 ≤ v) : TkAt (upd H t (.dK (tk c v l se sa))) t c cs v l se sa :=
  ⟨upd_same, by rw [upd_ne z.ne]; exact z.cl, z.cp, hv, z.l0, z.s0, z.s1⟩
theorem TkAt.sLeft (z : TkAt H t c cs a l se sa) (hv : 0 ≤ v) : TkAt (upd H t (.dK (tk c a v se sa))) t c cs a v se sa :=
  ⟨upd_same, by rw [upd_ne z.ne]; exact z.cl, z.cp, z.a0, hv, z.s0, z.s1⟩
theorem TkAt.sSalt (z : TkAt H t c cs a l se sa) : TkAt (upd H t (.dK (tk c a l se v))) t c cs a l se v :=
  ⟨upd_same, by rw [upd_ne z.ne]; exact z.cl, z.cp, z.a0, z.l0, z.s0, z.s1⟩
theorem TkAt.pAt (z : TkAt H t c cs a l se sa) : DPut H t (.str "at") (.int v) (upd H t (.dK (tk c v l se sa))) := p_at (c := c) (a := a) (l := l) (se := se) (sa := sa) (v := v) ▸ DPut.k (k := .inr "at") z.d tk_len
theorem TkAt.pLeft (z : TkAt H t c cs a l se sa) : DPut H t (.str "left") (.int v) (upd H t (.dK (tk c a v se sa))) := p_left (c := c) (a := a) (l := l) (se := se) (sa := sa) (v := v) ▸ DPut.k (k := .inr "left") z.d tk_len
theorem TkAt.pSalt (z : TkAt H t c cs a l se sa) : DPut H t (.str "salt") (.int v) (upd H t (.dK (tk c a l se v))) := p_salt (c := c) (a := a) (l := l) (se := se) (sa := sa) (v := v) ▸ DPut.k (k := .inr "salt") z.d tk_len
end

/-! ### texts -/
/-- a sign that may stand in a text -/
def okc (c : Nat) : Bool := c == 10 || (decide (32 ≤ c) && decide (c ≤ 126) && c != 37)
def OkT (z : Str) : Prop := ∀ c ∈ z.cps.toList, okc c = true
def okT (z : Str) : Bool := z.cps.toList.all okc
theorem OkT.of {z : Str} (h : okT z = true) : OkT z := List.all_eq_true.mp h
theorem OkT.append {x y : Str} (a : OkT x) (b : OkT y) : OkT (x ++ y) := fun c h => by
  rw [show (x ++ y).cps.toList = x.cps.toList ++ y.cps.toList from TL.tl_append x y] at h
  rcases List.mem_append.mp h with h | h
  · exact a c h
  · exact b c h
theorem joinL_nil : ∀ l : List (List Nat), TL.joinL [] l = l.flatten
  | [] => rfl
  | [p] => by simp [TL.joinL]
  | p :: q :: r => by
    show p ++ ([] ++ TL.joinL [] (q :: r)) = _
    rw [joinL_nil (q :: r), List.nil_append] <;> rfl
theorem tl_join0 (y : Str) (hy : TL.tl y = []) (l : List Str) : TL.tl (Txt.join y l) = (l.map TL.tl).flatten := by
  rw [TL.join_eq, TL.tl_join, hy, joinL_nil]
theorem OkT.join {y : Str} (hy : TL.tl y = []) {l : List Str} (h : ∀ z ∈ l, OkT z) : OkT (Txt.join y l) := fun c hc => by
  rw [show (Txt.join y l).cps.toList = (l.map TL.tl).flatten from tl_join0 y hy l] at hc
  obtain ⟨m, hm, hc⟩ := List.mem_flatten.mp hc
  obtain ⟨z, hz, rfl⟩ := List.mem_map.mp hm
  exact h z hz c hc
theorem sum_len_le {n : Nat} : ∀ {l : List Str}, (∀ z ∈ l, z.length ≤ n) → (l.map (·.length)).sum ≤ n * l.length
  | [], _ => by simp
  | z :: r, h => by
    have ih := sum_len_le (l := r) fun y hy => h y (List.mem_cons_of_mem _ hy)
    have h0 := h z List.mem_cons_self
    rw [List.map_cons, List.sum_cons, List.length_cons, Nat.mul_add]
    omega
theorem flat_len : ∀ l : List Str, ((l.map TL.tl).flatten).length = (l.map (·.length)).sum
  | [] => rfl
  | z :: r => by
    rw [List.map_cons, List.flatten_cons, List.length_append, flat_len r, List.map_cons, List.sum_cons, TL.len_tl z]
theorem join_len (y : Str) (hy : TL.tl y = []) (l : List Str) : (Txt.join y l).length = (l.map (·.length)).sum := by
  rw [TL.len_tl, tl_join0 y hy, flat_len]
theorem small {n : Nat} (h : n ≤ 1000000) : n ≤ sizeLine := Nat.le_trans h (by decide)

/-! ### data that are equal -/
def sca : V → Bool
  | .non => true
  | .bl _ => true
  | .int _ => true
  | .str _ => true
  | _ => false
def Al (H : Hp) : Nat → V → V → Prop
  | 0, _, _ => False
  | n + 1, x, y => (x = y ∧ sca x = true) ∨
    (∃ a b xs ys, x = .ref a ∧ y = .ref b ∧ H a = some (.tup xs) ∧ H b = some (.tup ys) ∧ xs.length = ys.length ∧ xs.length ≤ 1000000 ∧ ∀ (i : Nat) (u v : V), xs[i]? = some u → ys[i]? = some v → Al H n u v) ∨
    (∃ a b xs ys, x = .ref a ∧ y = .ref b ∧ H a = some (.lst xs) ∧ H b = some (.lst ys) ∧ xs.length = ys.length ∧ xs.length ≤ 1000000 ∧ ∀ (i : Nat) (u v : V), xs[i]? = some u → ys[i]? = some v → Al H n u v)
theorem Al.sc {H : Hp} {n : Nat} {x : V} (h : sca x = true) : Al H (n + 1) x x := .inl ⟨rfl, h⟩
theorem Al.same {H H' : Hp} (s : Same H H') : ∀ {n : Nat} {x y : V}, Al H n x y → Al H' n x y
  | 0, _, _, h => h
  | n + 1, x, y, h => by
    rcases h with h | ⟨a, b, xs, ys, e1, e2, h1, h2, hl, hm, h⟩ | ⟨a, b, xs, ys, e1, e2, h1, h2, hl, hm, h⟩
    · exact .inl h
    · exact .inr (.inl ⟨a, b, xs, ys, e1, e2, s _ _ h1, s _ _ h2, hl, hm, fun i u v p q => Al.same s (h i u v p q)⟩)
    · exact .inr (.inr ⟨a, b, xs, ys, e1, e2, s _ _ h1, s _ _ h2, hl, hm, fun i u v p q => Al.same s (h i u v p q)⟩)
theorem Al.tup {H : Hp} {n : Nat} {a b : Addr} {xs ys : List V} (h1 : H a = some (.tup xs)) (h2 : H b = some (.tup ys)) (hl : xs.length = ys.length) (hm : xs.length ≤ 1000000) (h : ∀ (i : Nat) (u v : V), xs[i]? = some u → ys[i]? = some v → Al H n u v) : Al H (n + 1) (.ref a) (.ref b) :=
  .inr (.inl ⟨a, b, xs, ys, rfl, rfl, h1, h2, hl, hm, h⟩)
theorem Al.lst {H : Hp} {n : Nat} {a b : Addr} {xs ys : List V} (h1 : H a = some (.lst xs)) (h2 : H b = some (.lst ys)) (hl : xs.length = ys.length) (hm : xs.length ≤ 1000000) (h : ∀ (i : Nat) (u v : V), xs[i]? = some u → ys[i]? = some v → Al H n u v) : Al H (n + 1) (.ref a) (.ref b) :=
  .inr (.inr ⟨a, b, xs, ys, rfl, rfl, h1, h2, hl, hm, h⟩)
/-- two tuples (lists) of the same plain values -/
theorem al_eq {H : Hp} {n : Nat} {xs : List V} (h : xs.all sca = true) : ∀ (i : Nat) (u v : V), xs[i]? = some u → xs[i]? = some v → Al H (n + 1) u v := fun i u v p q => by
  have e : u = v := Option.some.inj (p.symm.trans q)
  subst e
  exact Al.sc (List.all_eq_true.mp h u (List.mem_of_getElem? p))

/-! ### tests -/
theorem iteP {p A B : Prop} [Decidable p] (hp : p) (h : A) : if decide p = true then A else B := by
  rw [if_pos (decide_eq_true hp)]
  exact h
theorem iteN {p A B : Prop} [Decidable p] (hp : ¬ p) (h : B) : if decide p = true then A else B := by
  rw [if_neg (by rw [decide_eq_false hp]; exact Bool.false_ne_true)]
  exact h
theorem iteNN {p A B : Prop} [Decidable p] (hp : ¬ p) (h : A) : if (!decide p) = true then A else B := by
  rw [decide_eq_false hp]
  exact iteT h
theorem qP {p : Prop} [Decidable p] {Q : VK} {H : Hp} (hp : p) (h : Q (.bl true) H) : Q (.bl (decide p)) H := by
  rw [decide_eq_true hp]
  exact h
theorem none_left {P : Program} {w : World} {K : PySem.W.Frag} {mg : Str → Option Value} {base : Heap} {f : Addr} {fd : FuncData} {ps : List Str} {sp : Sp} (no : ∀ vs H Q E, ¬ sp vs H Q E) : FnOk P w K mg base CX0 0 f fd ps sp :=
  ⟨fun vs H Q E h => absurd h (no vs H Q E), fun A outer s H args us vs Q E _ _ _ _ h => absurd h (no vs H Q E)⟩

/-! ### promises of the law's own helpers -/
def spTape (K : PySem.W.Frag) : Sp := fun vs H Q _ => ∃ (a : Addr) (ns : List Int), vs = [.ref a] ∧ SqL K H a (ns.map V.int) ∧ ns.length ≤ 63 ∧ ∀ t c H', Same H H' → H t = none → H c = none → Tp H' t c → Q (.ref t) H'
def spTake : Sp := fun vs H Q _ => ∃ (t c : Addr) (n : Int), vs = [.ref t, .int n] ∧ Tp H t c ∧ 0 < n ∧ n < 1073741824 ∧ ∀ (r : Int) H', 0 ≤ r → r < n → But t H H' → Tp H' t c → Q (.int r) H'
def spIsInt : Sp := fun vs H Q _ => ∃ i : Int, vs = [.int i] ∧ Q (.bl true) H
def spSame (n : Nat) : Sp := fun vs H Q _ => ∃ x y, vs = [x, y] ∧ Al H n x y ∧ Q (.bl true) H
def spItems (n : Nat) : Sp := fun vs H Q _ => ∃ a b xs ys, vs = [.ref a, .ref b] ∧ ((H a = some (.tup xs) ∧ H b = some (.tup ys)) ∨ (H a = some (.lst xs) ∧ H b = some (.lst ys))) ∧ xs.length = ys.length ∧ xs.length ≤ 1000000 ∧
  (∀ (i : Nat) (u v : V), xs[i]? = some u → ys[i]? = some v → Al H n u v) ∧ Q (.bl true) H
def spSnippet : Sp := fun vs H Q _ => ∃ t c, vs = [.ref t] ∧ Tp H t c ∧ ∀ z H', OkT z → z.length ≤ 45 → But t H H' → Tp H' t c → Q (.str z) H'
def spChar : Sp := fun vs H Q _ => ∃ t c, vs = [.ref t] ∧ Tp H t c ∧ ∀ z H', OkT z → z.length = 1 → But t H H' → Tp H' t c → Q (.str z) H'
def spAny : Sp := fun vs H Q _ => ∃ (t c : Addr) (m : Nat), vs = [.ref t, .int m] ∧ Tp H t c ∧ m ≤ 100 ∧ ∀ z H', OkT z → z.length ≤ 45 * m → But t H H' → Tp H' t c → Q (.str z) H'

/-! ### a text walked sign by sign -/
theorem for_str {x : Str} {g : TG} {tb : TS} {D : Ends} {σ : L2.St} {H : Hp} (Pv : Nat → L2.St → Hp → Prop) (h0 : Pv 0 σ H)
    (hs : ∀ i c σ H, x.cps.toList[i]? = some c → Pv i σ H → g (.str ⟨#[c]⟩) σ H fun σ2 H2 => tb { D with nx := Pv (i + 1), ct := Pv (i + 1), bk := D.nx } σ2 H2) (hd : ∀ σ H, Pv x.cps.toList.length σ H → D.nx σ H) :
    ∃ W : Nat → Nat → L2.St → Hp → Prop, (∃ m, W 0 m σ H) ∧ ∀ i m σ H, W i m σ H →
      ((Its x).stop i H ∧ D.nx σ H) ∨ ((Its x).go i H ∧ ∃ Nx : L2.St → Hp → Prop, (∀ σ' H', Nx σ' H' → ∃ m', m' < m ∧ W (i + 1) m' σ' H') ∧ ∀ y H', (Its x).yld i H y H' → g y σ H' fun σ2 H2 => tb { D with nx := Nx, ct := Nx, bk := D.nx } σ2 H2) := by
  refine ⟨fun i m σ H => m = x.cps.toList.length - i ∧ i ≤ x.cps.toList.length ∧ Pv i σ H, ⟨x.cps.toList.length, by simp, Nat.zero_le _, h0⟩, ?_⟩
  rintro i m σ H ⟨rfl, hi, p⟩
  have hsz : x.cps.toList.length = x.cps.size := Array.length_toList
  by_cases hlt : i < x.cps.toList.length
  · refine .inr ⟨by show i < x.cps.size; omega, Pv (i + 1), fun σ' H' p' => ⟨x.cps.toList.length - (i + 1), by omega, rfl, hlt, p'⟩, fun y H' z => ?_⟩
    obtain ⟨e, c, hc, z⟩ := z
    subst e z
    exact hs i c σ _ (by rw [Array.getElem?_toList]; exact hc) p
  · have e : i = x.cps.toList.length := by omega
    subst e
    exact .inl ⟨by show x.cps.size ≤ _; omega, hd σ H p⟩
/-! ### a while by an invariant and a measure -/
theorem while_m {c : TT} {tb : TS} {D : Ends} {σ : L2.St} {H : Hp} (Pv : L2.St → Hp → Prop) (μ : L2.St → Hp → Nat) (h0 : Pv σ H)
    (hs : ∀ σ H, Pv σ H → c σ H fun b H1 => if b = true then ∃ N : L2.St → Hp → Prop, (∀ σ' H', N σ' H' → ∃ m', m' < μ σ H ∧ m' = μ σ' H' ∧ Pv σ' H') ∧ tb { D with nx := N, ct := N, bk := D.nx } σ H1 else D.nx σ H1) : tWhile c tb D σ H :=
  ⟨fun m σ H => m = μ σ H ∧ Pv σ H, ⟨_, rfl, h0⟩, fun m σ H h => by
    obtain ⟨rfl, p⟩ := h
    exact hs σ H p⟩
theorem wN {Pv : L2.St → Hp → Prop} {μ : L2.St → Hp → Nat} {k : Nat} {tb : TS} {D : Ends} {σ : L2.St} {H1 : Hp} (h : tb { D with nx := fun σ' H' => Pv σ' H' ∧ μ σ' H' < k, ct := fun σ' H' => Pv σ' H' ∧ μ σ' H' < k, bk := D.nx } σ H1) :
    ∃ N : L2.St → Hp → Prop, (∀ σ' H', N σ' H' → ∃ m', m' < k ∧ m' = μ σ' H' ∧ Pv σ' H') ∧ tb { D with nx := N, ct := N, bk := D.nx } σ H1 := ⟨_, fun _ _ n => ⟨_, n.2, rfl, n.1⟩, h⟩
def spLaw (K : PySem.W.Frag) : Sp := fun vs H Q _ => ∃ (a : Addr) (ns : List Int), vs = [.ref a] ∧ SqL K H a (ns.map V.int) ∧ ns.length ≤ 63 ∧ ∀ H', Q (.bl true) H'
end Sn

/-! Mathematics of texts: counting a sign, the last one, lines, cuts. -/
namespace Sn
open PySem PySem.Spec PyProof.Rows L2 PySem.StrLaws PySem.Builtin.Str TL
abbrev strL (l : List Nat) : Str := ⟨l.toArray⟩
/-! ### cuts -/
theorem tl_cut (z : Str) (lo hi : Option Int) : tl (cutS z lo hi) = ((tl z).drop (HT.sIx z.length 0 lo)).take (HT.sIx z.length z.length hi - HT.sIx z.length 0 lo) := rfl
theorem tl_cut_to (z : Str) (o : Nat) : tl (cutS z none (some (o : Int))) = (tl z).take o := by
  rw [tl_cut, HT.sIx_none, HT.sIx_nat, List.drop_zero, Nat.sub_zero, len_tl, List.take_eq_take_iff]
  omega
theorem tl_cut_from (z : Str) (o : Nat) : tl (cutS z (some (o : Int)) none) = (tl z).drop o := by
  rw [tl_cut, HT.sIx_none, HT.sIx_nat, len_tl]
  by_cases h : o ≤ (tl z).length
  · rw [Nat.min_eq_left h, List.take_of_length_le (by rw [List.length_drop] <;> omega)]
  · rw [Nat.min_eq_right (by omega), Nat.sub_self, List.take_zero, List.drop_eq_nil_of_le (by omega)]
theorem tl_cut_mid (z : Str) (a b : Nat) (h : a ≤ (tl z).length) : tl (cutS z (some (a : Int)) (some (b : Int))) = ((tl z).drop a).take (b - a) := by
  rw [tl_cut, HT.sIx_nat, HT.sIx_nat, len_tl, Nat.min_eq_left h, List.take_eq_take_iff, List.length_drop]
  omega
theorem len_eq (z : Str) : z.length = (tl z).length := len_tl z
/-! ### counting one sign -/
theorem drop_take_cons {l : List Nat} {a hi : Nat} (h : a < hi) (hl : hi ≤ l.length) : ∃ (h2 : a < l.length), (l.take hi).drop a = l[a] :: (l.take hi).drop (a + 1) := by
  have h2 : a < (l.take hi).length := by rw [List.length_take]; omega
  refine ⟨by omega, ?_⟩
  rw [List.drop_eq_getElem_cons h2, List.getElem_take]
theorem drop_take_nil {l : List Nat} {a hi : Nat} (h : hi ≤ a) : (l.take hi).drop a = [] := List.drop_eq_nil_of_le (by rw [List.length_take]; omega)
theorem occ_cnt (x : Str) (c hi limit : Nat) (hhi : hi ≤ (tl x).length) : ∀ (m a : Nat) (st : Array Nat × Nat), st.2 ≤ a → st.1.size + m ≤ limit → a + m = hi + 1 →
    (forIn (List.range' a m) st (occBody x ⟨#[c]⟩ hi limit)).run.fst.size = st.1.size + (((tl x).take hi).drop a).count c
  | 0, a, st, _, _, e => by
    rw [drop_take_nil (by omega)]
    rfl
  | m + 1, a, st, hf, hl, e => by
    have one : ∀ i, (i + (⟨#[c]⟩ : Str).length ≤ hi ∧ subAt x ⟨#[c]⟩ i = true) ↔ i < hi ∧ (tl x)[i]? = some c := fun i => by
      have k := subAt_one x c i
      have hx : x.length = (tl x).length := len_tl x
      have h1 : (⟨#[c]⟩ : Str).length = 1 := rfl
      constructor
      · intro h
        have z := k.mp ⟨by omega, h.2⟩
        exact ⟨by omega, z⟩
      · intro h
        have z := k.mpr h.2
        exact ⟨by omega, z.2⟩
    rw [List.range'_succ, List.forIn_cons]
    unfold occBody
    by_cases ha : a < hi
    · obtain ⟨h2, e2⟩ := drop_take_cons ha hhi
      rw [e2, List.count_cons]
      by_cases hc : (tl x)[a] = c
      · have k := (one a).mpr ⟨ha, by rw [List.getElem?_eq_getElem h2, hc]⟩
        rw [if_pos ⟨⟨⟨by omega, hf⟩, k.1⟩, k.2⟩]
        have ih := occ_cnt x c hi limit hhi m (a + 1) (st.1.push a, a + (⟨#[c]⟩ : Str).length) (Nat.le_refl _) (by show (st.1.push a).size + m ≤ limit; rw [Array.size_push]; omega) (by omega)
        have e3 : (st.1.push a).size = st.1.size + 1 := Array.size_push ..
        show (forIn (List.range' (a + 1) m) (st.1.push a, a + (⟨#[c]⟩ : Str).length) (occBody x ⟨#[c]⟩ hi limit)).run.fst.size = _
        rw [ih, e3, hc]
        simp
        omega
      · have k : ¬ ((((st.1.size < limit ∧ st.2 ≤ a) ∧ a + (⟨#[c]⟩ : Str).length ≤ hi) ∧ subAt x ⟨#[c]⟩ a = true)) := fun h => by
          have z := (one a).mp ⟨h.1.2, h.2⟩
          rw [List.getElem?_eq_getElem h2] at z
          exact hc (Option.some.inj z.2)
        rw [if_neg k]
        have ih := occ_cnt x c hi limit hhi m (a + 1) (st.1, st.2) (by show st.2 ≤ a + 1; omega) (by show st.1.size + m ≤ limit; omega) (by omega)
        show (forIn (List.range' (a + 1) m) (st.1, st.2) (occBody x ⟨#[c]⟩ hi limit)).run.fst.size = _
        rw [ih]
        have e4 : ((tl x)[a] == c) = false := beq_eq_false_iff_ne.mpr hc
        rw [e4, if_neg Bool.false_ne_true]
        rfl
    · have k : ¬ ((((st.1.size < limit ∧ st.2 ≤ a) ∧ a + (⟨#[c]⟩ : Str).length ≤ hi) ∧ subAt x ⟨#[c]⟩ a = true)) := fun h => by
        have z := (one a).mp ⟨h.1.2, h.2⟩
        omega
      rw [if_neg k]
      have em : m = 0 := by omega
      subst em
      rw [drop_take_nil (by omega)]
      rfl
theorem occ_count (x : Str) (c hi : Nat) (hhi : hi ≤ (tl x).length) : (occurrences x ⟨#[c]⟩ 0 hi (x.length + 1)).length = ((tl x).take hi).count c := by
  rw [occ_eq, Array.length_toList]
  have k := occ_cnt x c hi (x.length + 1) hhi (hi + 1 - 0) 0 (#[], 0) (Nat.le_refl _) (by show 0 + (hi + 1 - 0) ≤ x.length + 1; rw [len_tl]; omega) (by omega)
  rw [k, List.drop_zero]
  show 0 + _ = _
  omega
theorem count_all (x : Str) (c : Nat) : Txt.count x ⟨#[c]⟩ = (((tl x).count c : Nat) : Int) := by
  show (((occurrences x ⟨#[c]⟩ 0 x.length (x.length + 1)).length : Nat) : Int) = _
  rw [occ_count x c x.length (by rw [len_tl]; exact Nat.le_refl _), len_tl, List.take_length]
theorem toW (n o : Nat) (h : o ≤ n) : toIndexW n (o : Int) = o := by
  unfold toIndexW
  rw [if_neg (by omega)]
  omega
theorem fromI (n o : Nat) : fromIndex n (o : Int) = o := by
  unfold fromIndex
  rw [if_neg (by omega)]
  omega
theorem count_in (x : Str) (c o : Nat) (h : o ≤ (tl x).length) : Txt.countIn x ⟨#[c]⟩ 0 (o : Int) = ((((tl x).take o).count c : Nat) : Int) := by
  unfold Txt.countIn
  rw [toW _ _ (by rw [len_tl]; exact h), show fromIndex x.length 0 = 0 from fromI x.length 0, occ_count x c o h]
/-! ### the last newline -/
/-- how many signs stand behind the last c, k of them ahead -/
def colF (c k : Nat) : List Nat → Nat
  | [] => k
  | d :: r => if d = c then colF c 0 r else colF c (k + 1) r
theorem colF_snoc (c d : Nat) : ∀ (l : List Nat) (k : Nat), colF c k (l ++ [d]) = if d = c then 0 else colF c k l + 1
  | [], k => by
    show (if d = c then colF c 0 [] else colF c (k + 1) []) = _
    rfl
  | e :: r, k => by
    show (if e = c then colF c 0 (r ++ [d]) else colF c (k + 1) (r ++ [d])) = _
    rw [colF_snoc c d r 0, colF_snoc c d r (k + 1)]
    by_cases h : e = c
    · rw [if_pos h]
      show _ = if d = c then 0 else (if e = c then colF c 0 r else colF c (k + 1) r) + 1
      rw [if_pos h]
    · rw [if_neg h]
      show _ = if d = c then 0 else (if e = c then colF c 0 r else colF c (k + 1) r) + 1
      rw [if_neg h]
theorem colF_le (c : Nat) : ∀ (l : List Nat) (k : Nat), colF c k l ≤ k + l.length
  | [], k => Nat.le_refl _
  | e :: r, k => by
    show (if e = c then colF c 0 r else colF c (k + 1) r) ≤ k + (r.length + 1)
    have h0 := colF_le c r 0
    have h1 := colF_le c r (k + 1)
    split <;> omega
def valO : Option Nat → Nat
  | none => 0
  | some k => k + 1
theorem last_col (x : Str) (c hi : Nat) (hhi : hi ≤ (tl x).length) : ∀ (m a : Nat) (st : Option Nat), valO st ≤ a → a + m = hi + 1 → a ≤ hi →
    valO (forIn (List.range' a m) st (lastBody x ⟨#[c]⟩ hi)).run ≤ hi ∧ hi - valO (forIn (List.range' a m) st (lastBody x ⟨#[c]⟩ hi)).run = colF c (a - valO st) (((tl x).take hi).drop a)
  | 0, a, st, _, e, _ => by omega
  | m + 1, a, st, hf, e, hah => by
    have one : ∀ i, (i + (⟨#[c]⟩ : Str).length ≤ hi ∧ subAt x ⟨#[c]⟩ i = true) ↔ i < hi ∧ (tl x)[i]? = some c := fun i => by
      have k := subAt_one x c i
      have hx : x.length = (tl x).length := len_tl x
      have h1 : (⟨#[c]⟩ : Str).length = 1 := rfl
      constructor
      · intro h
        have z := k.mp ⟨by omega, h.2⟩
        exact ⟨by omega, z⟩
      · intro h
        have z := k.mpr h.2
        exact ⟨by omega, z.2⟩
    rw [List.range'_succ, List.forIn_cons]
    unfold lastBody
    by_cases ha : a < hi
    · obtain ⟨h2, e2⟩ := drop_take_cons ha hhi
      rw [e2]
      by_cases hc : (tl x)[a] = c
      · have k := (one a).mpr ⟨ha, by rw [List.getElem?_eq_getElem h2, hc]⟩
        rw [if_pos k]
        have ih := last_col x c hi hhi m (a + 1) (some a) (Nat.le_refl _) (by omega) (by omega)
        show valO (forIn (List.range' (a + 1) m) (some a) (lastBody x ⟨#[c]⟩ hi)).run ≤ hi ∧ hi - valO (forIn (List.range' (a + 1) m) (some a) (lastBody x ⟨#[c]⟩ hi)).run = if (tl x)[a] = c then _ else _
        rw [if_pos hc]
        have e5 : a + 1 - valO (some a) = 0 := by
          show a + 1 - (a + 1) = 0
          omega
        rw [e5] at ih
        exact ih
      · have k : ¬ (a + (⟨#[c]⟩ : Str).length ≤ hi ∧ subAt x ⟨#[c]⟩ a = true) := fun h => by
          have z := (one a).mp h
          rw [List.getElem?_eq_getElem h2] at z
          exact hc (Option.some.inj z.2)
        rw [if_neg k]
        have ih := last_col x c hi hhi m (a + 1) st (by omega) (by omega) (by omega)
        show valO (forIn (List.range' (a + 1) m) st (lastBody x ⟨#[c]⟩ hi)).run ≤ hi ∧ hi - valO (forIn (List.range' (a + 1) m) st (lastBody x ⟨#[c]⟩ hi)).run = if (tl x)[a] = c then _ else _
        rw [if_neg hc]
        have e5 : a + 1 - valO st = a - valO st + 1 := by omega
        rw [e5] at ih
        exact ih
    · have k : ¬ (a + (⟨#[c]⟩ : Str).length ≤ hi ∧ subAt x ⟨#[c]⟩ a = true) := fun h => by
        have z := (one a).mp h
        omega
      rw [if_neg k]
      have em : m = 0 := by omega
      subst em
      rw [drop_take_nil (by omega)]
      show valO st ≤ hi ∧ hi - valO st = a - valO st
      omega
/-- x.rfind(c, 0, o) + 1 is where the last line of x[:o] begins -/
theorem rfind_col (x : Str) (c o : Nat) (h : o ≤ (tl x).length) : ∃ b : Nat, Txt.rfindIn x ⟨#[c]⟩ 0 (o : Int) + 1 = (b : Int) ∧ b ≤ o ∧ o - b = colF c 0 ((tl x).take o) := by
  unfold Txt.rfindIn
  rw [toW _ _ (by rw [len_tl]; exact h), show fromIndex x.length 0 = 0 from fromI x.length 0, last_eq]
  have k := last_col x c o h (o + 1 - 0) 0 none (Nat.le_refl _) (by omega) (Nat.zero_le _)
  rw [List.drop_zero] at k
  refine ⟨_, ?_, k.1, k.2⟩
  cases (forIn (List.range' 0 (o + 1 - 0)) none (lastBody x ⟨#[c]⟩ o)).run with
  | none => rfl
  | some j => rfl
/-! ### lines -/
def rows (c : Nat) : List Nat → List Nat → List (List Nat)
  | acc, [] => [acc]
  | acc, d :: r => if d = c then acc :: rows c [] r else rows c (acc ++ [d]) r
theorem spl_rows (c : Nat) : ∀ (l acc : List Nat), spl [c] 0 acc l = rows c acc l
  | [], acc => by rw [spl_nil]; rfl
  | d :: r, acc => by
    by_cases h : d = c
    · have p : TL.pre [c] (d :: r) = true := by rw [h]; simp [TL.pre]
      rw [spl_hit p]
      show acc :: spl [c] 0 [] r = if d = c then _ else _
      rw [if_pos h, spl_rows c r []]
    · have p : TL.pre [c] (d :: r) = false := pre_of_head [] r h
      rw [spl_miss p, spl_rows c r (acc ++ [d])]
      show _ = if d = c then _ else _
      rw [if_neg h]
theorem split_rows (x : Str) (c : Nat) (hc : c < 256) : (Txt.split x ⟨#[c]⟩).map tl = rows c [] (tl x) := by
  rw [split_spl x ⟨#[c]⟩ (by show [c] ≠ []; simp) (kind_ok (by simp [hc]))]
  exact spl_rows c (tl x) []
theorem rows_len (c : Nat) : ∀ (l acc : List Nat), (rows c acc l).length = l.count c + 1
  | [], acc => rfl
  | d :: r, acc => by
    show (if d = c then acc :: rows c [] r else rows c (acc ++ [d]) r).length = _
    rw [List.count_cons]
    by_cases h : d = c
    · rw [if_pos h, List.length_cons, rows_len c r []]
      simp [h]
    · have h' : (d == c) = false := by simpa using h
      rw [if_neg h, rows_len c r]
      simp [h']
/-- the lengths of lines with their newlines -/
def lens (rs : List (List Nat)) : Nat := (rs.map fun r => r.length + 1).sum
theorem rows_at (c : Nat) : ∀ (l acc : List Nat) (o : Nat), o ≤ l.length → ∃ row, (rows c acc l)[(l.take o).count c]? = some row ∧ colF c acc.length (l.take o) ≤ row.length ∧
    lens ((rows c acc l).take ((l.take o).count c)) + colF c acc.length (l.take o) = acc.length + o
  | l, acc, 0, _ => by
    rw [List.take_zero]
    show ∃ row, (rows c acc l)[0]? = some row ∧ acc.length ≤ row.length ∧ lens ((rows c acc l).take 0) + acc.length = acc.length + 0
    have : ∀ (l acc : List Nat), ∃ row, (rows c acc l)[0]? = some row ∧ acc.length ≤ row.length := by
      intro l
      induction l with
      | nil => exact fun acc => ⟨acc, rfl, Nat.le_refl _⟩
      | cons d r ih =>
        intro acc
        show ∃ row, (if d = c then acc :: rows c [] r else rows c (acc ++ [d]) r)[0]? = some row ∧ _
        by_cases h : d = c
        · rw [if_pos h]
          exact ⟨acc, rfl, Nat.le_refl _⟩
        · rw [if_neg h]
          obtain ⟨row, h1, h2⟩ := ih (acc ++ [d])
          rw [List.length_append] at h2
          exact ⟨row, h1, by omega⟩
    obtain ⟨row, h1, h2⟩ := this l acc
    refine ⟨row, h1, h2, ?_⟩
    rw [List.take_zero]
    show 0 + acc.length = acc.length + 0
    omega
  | [], acc, o + 1, h => absurd h (by simp)
  | d :: r, acc, o + 1, h => by
    have ho : o ≤ r.length := by simpa using h
    rw [List.take_succ_cons, List.count_cons]
    by_cases e : d = c
    · subst e
      have ih := rows_at d r [] o ho
      obtain ⟨row, h1, h2, h3⟩ := ih
      have er : rows d acc (d :: r) = acc :: rows d [] r := by
        show (if d = d then _ else _) = _
        rw [if_pos rfl]
      have ec : colF d acc.length (d :: r.take o) = colF d 0 (r.take o) := by
        show (if d = d then _ else _) = _
        rw [if_pos rfl]
      rw [er, ec]
      simp only [beq_self_eq_true, if_true]
      refine ⟨row, by rw [List.getElem?_cons_succ]; exact h1, h2, ?_⟩
      rw [List.take_succ_cons]
      show (acc.length + 1) + lens _ + _ = _
      simp only [List.length_nil] at h3
      unfold lens at h3 ⊢
      omega
    · have er : rows c acc (d :: r) = rows c (acc ++ [d]) r := by
        show (if d = c then _ else _) = _
        rw [if_neg e]
      have ec : colF c acc.length (d :: r.take o) = colF c (acc.length + 1) (r.take o) := by
        show (if d = c then _ else _) = _
        rw [if_neg e]
      have eb : (d == c) = false := by simpa using e
      have ih := rows_at c r (acc ++ [d]) o ho
      rw [er, ec]
      simp only [eb, Bool.false_eq_true, if_false, Nat.add_zero]
      obtain ⟨row, h1, h2, h3⟩ := ih
      rw [List.length_append, List.length_singleton] at h2 h3
      exact ⟨row, h1, h2, by omega⟩
theorem join_lens (y : List Nat) (hy : y.length = 1) : ∀ rs : List (List Nat), rs ≠ [] → (joinL y rs).length + 1 = lens rs
  | [], h => absurd rfl h
  | [p], _ => by
    show p.length + 1 = (p.length + 1) + 0
    omega
  | p :: q :: r, _ => by
    show (p ++ (y ++ joinL y (q :: r))).length + 1 = (p.length + 1) + lens (q :: r)
    have ih := join_lens y hy (q :: r) (by simp)
    rw [List.length_append, List.length_append]
    omega
end Sn

/-! My own rules: three comparisons in a row, a text times a number, calls that may raise, isinstance in an except suite. -/
namespace Sn
open PySem PySem.Spec PyProof.Rows L2 TL
section
variable {X : Cx} {a b c d : Expr} {ta tb tc td : TE} {pos : Pos}
/-- a op1 b op2 c op3 d -/
def tChain3 (r r' r'' : R2) (ta tb tc td : TE) : TE := fun σ H Q => ta σ H fun x H1 => tb σ H1 fun y H2 => r x y H2 fun z H3 => ∃ k, z = .bl k ∧
  (if k = true then tc σ H3 fun w H4 => r' y w H4 fun z' H5 => ∃ k', z' = .bl k' ∧ (if k' = true then td σ H5 fun v H6 => r'' w v H6 Q else Q (.bl false) H5) else Q (.bl false) H3)
theorem pt_chain3 {op op' op'' : CmpOp} {r r' r'' : R2} (ho : OpR X (compareOp op) r) (ho' : OpR X (compareOp op') r') (ho'' : OpR X (compareOp op'') r'') (ha : PE X a ta) (hb : PE X b tb) (hc : PE X c tc) (hd : PE X d td)
    (hm : lastMarks [op, op', op''] [b, c, d] = false := by with_unfolding_all rfl) : PT X (.Compare a [op, op', op''] [b, c, d] pos) (tTest (tChain3 r r' r'' ta tb tc td)) := by
  refine ⟨fun pins s σ H Q I h => ?_⟩
  refine isTrue_chain (thn (ha.run pins s σ H _ I h) fun v s1 ⟨x, H1, I1, r1, q1⟩ => test_link (thn (hb.run pins s1 σ H1 _ I1 q1) fun u s2 ⟨y, H2, I2, r2, q2⟩ =>
    thn (ho pins s2 σ H2 x y v u _ I2 r1 r2 q2) fun e s3 ⟨z, H3, I3, r3, k, ez, q3⟩ => ?_)) hm
  subst ez
  cases r3
  refine wpAny_truthy_bool ?_
  cases k with
  | false =>
    obtain ⟨k', e', q'⟩ := q3
    cases e'
    exact ite_ff ⟨H3, I3, q'⟩
  | true =>
    refine ite_tt (test_link (thn (hc.run pins s3 σ H3 _ I3 q3) fun w' s4 ⟨z', H4, I4, r4, q4⟩ => thn (ho' pins s4 σ H4 y z' u w' _ I4 r2 r4 q4) fun d' s5 ⟨z2, H5, I5, r5, k2, e2, q5⟩ => ?_))
    subst e2
    cases r5
    refine wpAny_truthy_bool ?_
    cases k2 with
    | false =>
      obtain ⟨k', e', q'⟩ := q5
      cases e'
      exact ite_ff ⟨H5, I5, q'⟩
    | true =>
      refine ite_tt (test_last (thn (hd.run pins s5 σ H5 _ I5 q5) fun w2 s6 ⟨z6, H6, I6, r6, q6⟩ => thn (ho'' pins s6 σ H6 z' z6 w' w2 _ I6 r4 r6 q6) fun d' s7 ⟨z7, H7, I7, r7, k7, e7, q7⟩ => ?_))
      subst e7
      cases r7
      exact wpAny_truthy_bool ⟨H7, I7, q7⟩
/-- a text times a number -/
theorem op_mul_str : OpR X (binaryOp .Mult) (fun x y H Q => ∃ (z : Str) (n : Int), x = .str z ∧ y = .int n ∧ MulOk z n ∧ Q (.str (Txt.mul z n)) H) := by
  intro pins s σ H x y v u Q I rx ry h
  obtain ⟨z, n, rfl, rfl, hm, q⟩ := h
  obtain ⟨t, rfl⟩ := rx
  obtain ⟨t', rfl⟩ := ry
  exact SB.mul hm fun t' k => ⟨.str (Txt.mul z n), H, I.tok _, ⟨_, rfl⟩, q⟩
end
section
variable {X : Cx} {k j : Nat} {x : Str} {sp : Sp} {p pos : Pos} {e : Expr} {es : List Expr} {t : TA} {W : WX}
/-- a call within a try, what it lets out is the clause's -/
theorem pe_cS (c : Cal X.prog X.w X.K X.mg X.base (L2.CX X.prog X.w) k x sp) (hr : Room j X.A) (hk : k ≤ j) (tk : Takes X W) (ha : PA X (e :: es) t) (hg : Gl X x := by rfl)
    (hdb : (x == ("__debug__" : Str)) = false := by decide) (he : starEach (e :: es) X.env = (false, eval e X.env) :: starEach es X.env := by rfl) (hpl : (backTo pos (starEach es X.env)).any (·.1) = false := by rfl) :
    PE X (.Call (.Name x p) (e :: es) [] pos) (tCallS sp (WE W) t) := by
  obtain ⟨f, fd, ps, F, hm, kp, b⟩ := c.ex
  exact pe_callS F (hr.mono hk) hg hm kp b (fun σ => passAt tk σ) ha hdb he hpl
/-- isinstance(e, c), e what the suite holds; that it is of the class D is the reading's to say -/
theorem call_isX {D a : Addr} {oe : Obj} {cls : Value} {d : Option Addr} {pn : List (Addr × Obj)} (C : ExcC X.K D) (hz : Zc cls d oe) (hf : ∃ vs, oe.data = .fields vs) :
    CallR (X.suite a ((a, oe) :: pn)) (.builtin "isinstance") (fun xs H Q => cls = .ref D ∧ d = none ∧ rIsE X.K D a xs H Q) := by
  intro pins s σ H xs us Q I r h
  obtain ⟨rfl, rfl, h⟩ := h
  exact call_isE C hz hf pins s σ H xs us Q I r h
end

/-! ### edits -/
/-- the mirror of a joint edit: what stands from done on -/
def jgo (z : List Nat) : Nat → List (Int × Int × List Nat) → Option (List Nat)
  | done, [] => some (z.drop done)
  | done, (s, e, n) :: r => if (done : Int) ≤ s ∧ s ≤ e ∧ e ≤ (z.length : Int) ∧ n.all okc = true then (jgo z e.toNat r).map fun t => (z.drop done).take (s.toNat - done) ++ (n ++ t) else none
def joint (z : List Nat) (eds : List (Int × Int × List Nat)) : Option (List Nat) := match jgo z 0 eds with
  | some r => if r.length ≤ 4000 then some r else none
  | none => none
/-- a list of edits stands at le -/
def EdAt (H : Hp) (le : Addr) (eds : List (Int × Int × Str)) : Prop := ∃ rs : List Addr, H le = some (.lst (rs.map V.ref)) ∧ rs.length = eds.length ∧ ∀ (i : Nat) (r : Addr) (s e : Int) (n : Str), rs[i]? = some r → eds[i]? = some (s, e, n) → H r = some (.tup [.int s, .int e, .str n])
def edl (eds : List (Int × Int × Str)) : List (Int × Int × List Nat) := eds.map fun x => (x.1, x.2.1, tl x.2.2)
/-- the lengths of all new texts -/
def news (eds : List (Int × Int × Str)) : Nat := (eds.map fun x => x.2.2.length).sum
theorem EdAt.same {H H' : Hp} {le : Addr} {eds : List (Int × Int × Str)} (s : Same H H') : EdAt H le eds → EdAt H' le eds := fun ⟨rs, h1, h2, h3⟩ => ⟨rs, s _ _ h1, h2, fun i r a b n p q => s _ _ (h3 i r a b n p q)⟩
def spMay : Sp := fun vs H Q _ => ∃ z : Str, vs = [.str z] ∧ Q (.bl ((tl z).all okc)) H
def spIsText : Sp := fun vs H Q _ => ∃ z : Str, vs = [.str z] ∧ z.length ≤ 1000000 ∧ Q (.bl (decide (z.length ≤ 4000) && (tl z).all okc)) H
def spJoint (C : Addr) : Sp := fun vs H Q E => ∃ (z : Str) (le : Addr) (eds : List (Int × Int × Str)), vs = [.str z, .ref le] ∧ EdAt H le eds ∧ z.length ≤ 1000000 ∧ eds.length ≤ 1000 ∧ news eds ≤ 1000000 ∧
  (∀ r H', joint (tl z) (edl eds) = some r → Same H H' → Q (.str (strL r)) H') ∧ (∀ H', joint (tl z) (edl eds) = none → Same H H' → E (.ref C) none H')
def spEdit (C : Addr) : Sp := fun vs H Q E => ∃ (z : Str) (ed : Addr) (s e : Int) (n : Str), vs = [.str z, .ref ed] ∧ H ed = some (.tup [.int s, .int e, .str n]) ∧ z.length ≤ 1000000 ∧ n.length ≤ 1000000 ∧
  (∀ r H', joint (tl z) [(s, e, tl n)] = some r → Same H H' → Q (.str (strL r)) H') ∧ (∀ H', joint (tl z) [(s, e, tl n)] = none → Same H H' → E (.ref C) none H')
/-! ### signs in order -/
theorem le_one (a b : Nat) : (!decide ([b] < [a])) = decide (a ≤ b) := by
  have : ([b] < [a]) ↔ b < a := by
    constructor
    · intro h
      cases h with
      | rel h => exact h
      | cons h => cases h
    · exact fun h => .rel h
  by_cases h : b < a
  · rw [decide_eq_true (this.mpr h), decide_eq_false (by omega)]
    rfl
  · rw [decide_eq_false (fun k => h (this.mp k)), decide_eq_true (by omega)]
    rfl
/-! ### classes of errors, as the top has written them -/
theorem own_cls {K : PySem.W.Frag} {C S : Addr} (i : PySem.W.isClsIn K S = true) (t : PySem.W.typeIn K (.ref S) = some (.type "type")) (s : PySem.W.subIn K (.ref C) (.ref S) = some true) : PySem.W.kitCls K (.ref C) (.ref S) = some true := by
  have e2 : ((PySem.W.clsIn K S).isSome && PySem.W.typeIn K (.ref S) == some (.type "type")) = true := by
    have h2 : (PySem.W.clsIn K S).isSome = true := i
    rw [h2, t] <;> rfl
  show (if _ then _ else _) = _
  rw [if_pos e2]
  exact s
theorem exm_of {K : PySem.W.Frag} {S : Addr} (b : PySem.W.subIn K (.ref S) (.type "BaseException") = some true) (i : PySem.W.isClsIn K S = true) (t : PySem.W.typeIn K (.ref S) = some (.type "type")) (s : PySem.W.subIn K (.ref S) (.ref S) = some true) :
    PySem.W.exmOne K (.ref S) (.ref S) = some true := by
  have e1 : (PySem.W.subIn K (.ref S) (.type "BaseException") == some true) = true := by rw [b] <;> rfl
  show (if _ then _ else _) = _
  rw [if_pos e1]
  exact own_cls i t s
theorem kit_own {K : PySem.W.Frag} {C S : Addr} (i : PySem.W.isClsIn K S = true) (t : PySem.W.typeIn K (.ref S) = some (.type "type")) (s : PySem.W.subIn K (.ref C) (.ref S) = some true) : PySem.W.kitOne K (.ref C) (.ref S) = some true := by
  show (if _ then _ else _) = _
  split
  · rfl
  · exact own_cls i t s
theorem kit_blt {K : PySem.W.Frag} {C : Addr} {n : String} (m : PySem.W.kitMeta n = true) (s : PySem.W.subIn K (.ref C) (.type n) = some true) : PySem.W.kitOne K (.ref C) (.type n) = some true := by
  show (if _ then _ else (if _ then _ else _)) = _
  split
  · rfl
  · first
      | exact s
      | (rw [if_pos m]; exact s)
end Sn

/-! My own rules where an exception is handled: walks of lists, pairs taken apart, calls by name. -/
namespace Sn
open PySem PySem.Spec PyProof.Rows L2 TL HotX L2H
section
variable {prog : Program} {w : World} {A : Around} {E : Value → Shared → Prop} {s : Shared}
theorem list_end_hot {it l x1 : Addr} {i : Nat} {items : Array Value} {Q : Option Value → Shared → Prop} (hot : HotAt A x1 s.heap) (hit : s.heap.IsListIter it l i) (hl : s.heap.IsList l items) (hx : items[i]? = none)
    (hxi : x1 ≠ it) (hQ : ∀ h', (∀ b o, b ≠ it → s.heap.get? b = some o → h'.get? b = some o) → Q none { s with heap := h' }) : wpAny (model prog w) A (pyNext (.ref it)) Q E s := by
  obtain ⟨hh, o1, vs1, h1, d1, c1⟩ := hot
  obtain ⟨o, ho, hc, hd⟩ := id hit
  obtain ⟨ol, hol, _, nl, hdl⟩ := hl
  unfold pyNext
  refine wpAny_bind (wpAny_attempt (wpAny_callSpecial?_slot (name := Str.ofString "__next__") hit.typeIs slot_listiter_next
    (wpAny_call_entry slot_listiter_next hit.typeIs entry_listiter_next ?_ (args_listiter_next _))))
  show wpAny _ _ (field (.ref it) 0 >>= _) _ _ s
  refine wpAny_bind (wpAny_field ho hd (x := .ref l) rfl ?_)
  show wpAny _ _ (if (Value.ref l == Value.none) = true then _ else _) _ _ s
  rw [if_neg (show ¬ ((Value.ref l == Value.none) = true) from Bool.false_ne_true)]
  show wpAny _ _ (field (.ref it) 1 >>= _) _ _ s
  refine wpAny_bind (wpAny_field ho hd (x := .int i 0) rfl ?_)
  show wpAny _ _ (seqItems? (.ref l) >>= _) _ _ s
  refine wpAny_bind (wpAny_seqItems hol hdl ?_)
  simp only [Int.toNat_natCast, hx]
  refine wpAny_bind (wpAny_rule (wpAny_bind (wpAny_setField ho hd (by simp) ?_)))
  show wpAny _ _ (newExc (.type "StopIteration") [] >>= _) _ _ _
  refine wpAny_bind ?_
  simp only [newExc, newTuple]
  refine wpAny_bind (wpAny_newObj_type ?_ (by size_fits))
  refine wpAny_bind (m := firstArgMember _ _) (wpAny_of_eq (a := Value.none) (by first | rfl | (simp only [firstArgMember]; rfl)) ?_)
  refine wpAny_newObj_type ?_ (by size_fits)
  have hup : (s.heap.update it (Obj.mapFields (·.setIfInBounds 0 .none))).get? x1 = some o1 := by
    rw [Heap.get?_update_other _ _ (Ne.symm hxi)]
    exact h1
  refine raiseNew_hot ⟨hh, o1, vs1, Heap.get?_push_of_some _ (Heap.get?_push_of_some _ hup), d1, c1⟩ (Nat.ne_of_lt (Heap.lt_size (Heap.get?_push_of_some _ hup))) (Heap.get?_push_size _ rfl) rfl (by first | (simp; done) | (simp; omega) | (simp only [Array.size_append]; simp; omega)) ?_
  refine wpAny_bind (wpAny_isInstance (T := "StopIteration") (b := true) ⟨_, Heap.get?_update_self _ (Heap.get?_push_size _ rfl) rfl, rfl⟩ isSubtype_stop ?_)
  refine wpAny_pure (hQ _ fun b o hb e => ?_)
  have e2 : (s.heap.update it (Obj.mapFields (·.setIfInBounds 0 .none))).get? b = some o := by
    rw [Heap.get?_update_other _ _ (Ne.symm hb)]
    exact e
  rw [Heap.get?_update_other _ _ (Nat.ne_of_gt (Heap.lt_size (Heap.get?_push_of_some _ e2)))]
  exact Heap.get?_push_of_some _ (Heap.get?_push_of_some _ e2)
theorem tuple_end_hot {it l x1 : Addr} {i : Nat} {items : Array Value} {Q : Option Value → Shared → Prop} (hot : HotAt A x1 s.heap) (hit : s.heap.IsTupleIter it l i) (hl : s.heap.IsTuple l items) (hx : items[i]? = none)
    (hxi : x1 ≠ it) (hQ : ∀ h', (∀ b o, b ≠ it → s.heap.get? b = some o → h'.get? b = some o) → Q none { s with heap := h' }) : wpAny (model prog w) A (pyNext (.ref it)) Q E s := by
  obtain ⟨hh, o1, vs1, h1, d1, c1⟩ := hot
  obtain ⟨o, ho, hc, hd⟩ := id hit
  obtain ⟨ol, hol, _, nl, hdl⟩ := hl
  unfold pyNext
  refine wpAny_bind (wpAny_attempt (wpAny_callSpecial?_slot (name := Str.ofString "__next__") hit.typeIs F.slot_tuple_iterator_next
    (wpAny_call_entry F.slot_tuple_iterator_next hit.typeIs F.entry_tuple_iterator_next ?_ (F.args_tuple_iterator_next_1 _))))
  show wpAny _ _ (field (.ref it) 0 >>= _) _ _ s
  refine wpAny_bind (wpAny_field ho hd (x := .ref l) rfl ?_)
  show wpAny _ _ (if (Value.ref l == Value.none) = true then _ else _) _ _ s
  rw [if_neg (show ¬ ((Value.ref l == Value.none) = true) from Bool.false_ne_true)]
  show wpAny _ _ (field (.ref it) 1 >>= _) _ _ s
  refine wpAny_bind (wpAny_field ho hd (x := .int i 0) rfl ?_)
  show wpAny _ _ (seqItems? (.ref l) >>= _) _ _ s
  refine wpAny_bind (wpAny_seqItems hol hdl ?_)
  simp only [Int.toNat_natCast, hx]
  refine wpAny_bind (wpAny_rule (wpAny_bind (wpAny_setField ho hd (by simp) ?_)))
  show wpAny _ _ (newExc (.type "StopIteration") [] >>= _) _ _ _
  refine wpAny_bind ?_
  simp only [newExc, newTuple]
  refine wpAny_bind (wpAny_newObj_type ?_ (by size_fits))
  refine wpAny_bind (m := firstArgMember _ _) (wpAny_of_eq (a := Value.none) (by first | rfl | (simp only [firstArgMember]; rfl)) ?_)
  refine wpAny_newObj_type ?_ (by size_fits)
  have hup : (s.heap.update it (Obj.mapFields (·.setIfInBounds 0 .none))).get? x1 = some o1 := by
    rw [Heap.get?_update_other _ _ (Ne.symm hxi)]
    exact h1
  refine raiseNew_hot ⟨hh, o1, vs1, Heap.get?_push_of_some _ (Heap.get?_push_of_some _ hup), d1, c1⟩ (Nat.ne_of_lt (Heap.lt_size (Heap.get?_push_of_some _ hup))) (Heap.get?_push_size _ rfl) rfl (by first | (simp; done) | (simp; omega) | (simp only [Array.size_append]; simp; omega)) ?_
  refine wpAny_bind (wpAny_isInstance (T := "StopIteration") (b := true) ⟨_, Heap.get?_update_self _ (Heap.get?_push_size _ rfl) rfl, rfl⟩ isSubtype_stop ?_)
  refine wpAny_pure (hQ _ fun b o hb e => ?_)
  have e2 : (s.heap.update it (Obj.mapFields (·.setIfInBounds 0 .none))).get? b = some o := by
    rw [Heap.get?_update_other _ _ (Ne.symm hb)]
    exact e
  rw [Heap.get?_update_other _ _ (Nat.ne_of_gt (Heap.lt_size (Heap.get?_push_of_some _ e2)))]
  exact Heap.get?_push_of_some _ (Heap.get?_push_of_some _ e2)
theorem unpackItems_hot {t x1 : Addr} {items : Array Value} {Q : List Value → Shared → Prop} (hot : HotAt A x1 s.heap) (ht : s.heap.IsTuple t items)
    (hQ : ∀ h', Heap.ExtBut s.heap.objs.size s.heap h' → Q items.toList { s with heap := h' }) : wpAny (model prog w) A (unpackItems (.ref t) items.size none) Q E s := by
  obtain ⟨hh, o1, vs1, g1, d1, c1⟩ := hot
  have hlt : t ≠ s.heap.objs.size := by obtain ⟨o, ho, _⟩ := ht; exact Nat.ne_of_lt (Heap.lt_size ho)
  have hlx : x1 ≠ s.heap.objs.size := Nat.ne_of_lt (Heap.lt_size g1)
  unfold unpackItems
  refine wpAny_bind ?_
  · unfold notIterableAtAll
    refine wpAny_bind (wpAny_specialOf ht.typeIs F.slot_tuple_iter.lookup ?_)
    refine wpAny_pure ?_
    simp only [Bool.false_eq_true, if_false]
    refine wpAny_bind (wpAny_holding (wpAny_pyIter_tuple ht ?_))
    refine wpAny_bind (wpAny_holding (wpAny_draw_tuple hlt items.size 0 _ _ ⟨_, Heap.get?_push_size _ rfl, rfl, rfl⟩ (ht.push _) (by omega) fun h₁ hit₁ hs₁ => ?_))
    have hall : List.take items.size (List.drop 0 items.toList) = items.toList := by
      rw [List.drop_zero]; exact List.take_of_length_le (by simp)
    rw [hall]
    rw [if_neg (by simp)]
    have ht₁ : h₁.IsTuple t items := (ht.push _).extBut hs₁.extBut hlt
    have gx : h₁.get? x1 = some o1 := hs₁.extBut _ _ hlx (Heap.get?_push_of_some _ g1)
    refine wpAny_bind (wpAny_holding (tuple_end_hot ⟨hh, o1, vs1, gx, d1, c1⟩ hit₁ ht₁ (by simp) hlx fun h₂ he₂ => ?_))
    simp only [Option.isSome_none, Bool.false_eq_true, if_false]
    refine wpAny_pure (hQ h₂ fun b o hb e => he₂ b o hb (hs₁.extBut b o hb (Heap.get?_push_of_some _ e)))
theorem assign_Tuple_hot {env : Env} {elts : List Expr} {k : Nat} {pos : Pos} {t x1 : Addr} {items : Array Value} {Q : Unit → Shared → Prop} (hot : HotAt A x1 s.heap) (ht : s.heap.IsTuple t items)
    (hn : (assignEach elts env).length = items.size) (hstar : (assignEach elts env).findIdx? (·.1) = none)
    (h : ∀ h', Heap.ExtBut s.heap.objs.size s.heap h' → wpAny (model prog w) A (assignInOrder ((assignEach elts env).map (·.2)) items.toList) Q E { s with heap := h' }) :
    wpAny (model prog w) A (assign (.Tuple elts k pos) env (.ref t)) Q E s := by
  rw [arm_assign_Tuple]
  refine wpAny_bind (wpAny_standAt ?_)
  unfold unpack
  rw [hn, hstar]
  exact wpAny_bind (wpAny_holding (unpackItems_hot hot ht h))
end
section
variable {X : Cx} {pos : Pos}
theorem pg_tupH {es : List Expr} {k : Nat} {t : TGs} {n : Nat} (hc : HotC X) (h : PGs X es t)
    (hn : (assignEach es X.env).length = n := by rfl) (hst : (assignEach es X.env).findIdx? (·.1) = none := by rfl) : PG X (.Tuple es k pos) (gTup X.K n t) := by
  refine ⟨fun pins s σ H v u Q I r hw => ?_⟩
  obtain ⟨a, xs, e1, hq, hl, hw⟩ := hw
  subst e1
  cases r
  obtain ⟨its, rv, ht, hz⟩ := I.tuple hq
  obtain ⟨x1, hot⟩ := hc.at I
  refine assign_Tuple_hot hot ht (by simp [hn, ← hl, rv.length]) hst fun h' hx => ?_
  have I1 : Inv X pins σ H { s with heap := h' } := I.kept (t' := s.toks) fun b o e => hx b o (Nat.ne_of_lt (Heap.lt_size e)) e
  exact h.run pins _ σ H xs _ Q I1 (by simpa using rv) hw
end
theorem turn_listH {P : Program} {w : World} {K : PySem.W.Frag} {tg : Expr} (a it : Addr) : TurnH P w K tg (Itl K a) [it] it (fun i h => h.IsListIter it a i) where
  mem := by simp
  obj := fun i h st b hb => by
    have e : b = it := by simpa using hb
    subst e
    obtain ⟨o, e, c, d⟩ := st
    exact ⟨o, e, fun v z => by rw [d] at z; cases z⟩
  keep := fun i h h' st k => st.at fun o e => k it (by simp) o e
  item := by
    intro X hP hw hK hc i pins s σ H E I hf st hg
    subst hP hw hK
    obtain ⟨xs, x, hq, hx⟩ := hg
    obtain ⟨its, rv, p, hz⟩ := I.list hq
    obtain ⟨u, hu, ru⟩ := rv.get hx
    obtain ⟨f0, f1, f2, f3, f4, f5⟩ := hf it (by simp)
    refine wpAny_pyNext_list_item st p.isList (x := u) (by simpa using hu) fun h' st' sb => ?_
    have I1 : Inv X pins σ H { s with heap := h' } := I.turned (t' := s.toks) (fun b o hb e => (sb.2 b hb).trans e) f0 f1 f3 f4 f5
    obtain ⟨o, e, c, d⟩ := id st'
    exact ⟨u, rfl, go_of (s := { s with heap := h' }) e c d (by decide) ⟨x, H, I1, ru, ⟨rfl, fun ys hy => by rw [I.list_inj hy hq]; exact hx⟩, st', fun b hb => (hf b hb).1⟩⟩
  done := by
    intro X hP hw hK hc i pins s σ H E I hf st hg
    subst hP hw hK
    obtain ⟨xs, hq, hx⟩ := hg
    obtain ⟨its, rv, p, hz⟩ := I.list hq
    obtain ⟨f0, f1, f2, f3, f4, f5⟩ := hf it (by simp)
    have hl := rv.length
    obtain ⟨q, ⟨hh, v1, e1, c1⟩, hp⟩ := hc
    have P1 := I.pin q (List.mem_append_left _ hp)
    exact list_end_hot ⟨hh, q.2, v1, P1.1, e1, c1⟩ st p.isList (by simp; omega) (f5 q (List.mem_append_left _ hp)) fun h' eb => ⟨rfl, I.turned (t' := s.toks) (fun b o hb e => eb b o hb e) f0 f1 f3 f4 f5⟩
  self := fun _ _ _ _ _ st h => wpAny_pyIter_listiter st h
theorem pi_listH {X : Cx} {tg l : Expr} {tl : TE} (hl : PE X l tl) : PIH X tg l (iList X.K tl) := by
  refine ⟨fun pins s σ H R I h => ?_⟩
  refine thn (hl.run pins s σ H _ I h) fun v s1 ⟨x, H1, I1, r1, q1⟩ => ?_
  obtain ⟨a, e, ⟨xs, hq⟩, q⟩ := q1
  subst e
  cases r1
  obtain ⟨its, rv, p, hz⟩ := I1.list hq
  refine wpAny_pyIter_list p.isList ?_
  refine ⟨s1.heap.objs.size, [s1.heap.objs.size], _, _, H1, rfl, I1.kept (t' := s1.toks) fun b o e => Heap.get?_push_of_some _ e, turn_listH a _, ⟨_, Heap.get?_push_size _ rfl, rfl, rfl⟩, fun b hb => ?_, q⟩
  have e : b = s1.heap.objs.size := by simpa using hb
  subst e
  exact I1.fpOk (Nat.le_refl _) (I1.hok.fresh (Nat.le_refl _))
/-- a def that may be called by its name where an exception is handled -/
structure CalH (P : Program) (w : World) (K : PySem.W.Frag) (mg : Str → Option Value) (base : Heap) (k : Nat) (x : Str) (sp : Sp) : Prop where
  ex : ∃ (f : Addr) (fd : FuncData) (ps : List Str), FnH P w K mg base CX0 k f fd ps sp ∧ mg x = some (.ref f) ∧ PySem.W.keepIn K (.ref f) = true ∧ Binds K fd ps []
section
variable {X : Cx} {k j : Nat} {x : Str} {sp : Sp} {p pos : Pos} {e : Expr} {es : List Expr} {t : TA}
theorem pe_cH (c : CalH X.prog X.w X.K X.mg X.base k x sp) (hr : RoomH j X.A) (hk : k ≤ j) (hot : HotC X) (ha : PA X (e :: es) t) (hg : Gl X x := by rfl)
    (hdb : (x == ("__debug__" : Str)) = false := by decide) (he : starEach (e :: es) X.env = (false, eval e X.env) :: starEach es X.env := by rfl) (hpl : (backTo pos (starEach es X.env)).any (·.1) = false := by rfl) :
    PE X (.Call (.Name x p) (e :: es) [] pos) (tCallS sp (fun _ => E0) t) := by
  obtain ⟨f, fd, ps, F, hm, kp, b⟩ := c.ex
  exact pe_callH F (hr.mono hk) hot hg hm kp b (fun σ _ _ _ _ _ _ h => h.elim) ha hdb he hpl
end
section
variable {P : Program} {w : World} {K : PySem.W.Frag} {mg : Str → Option Value} {base : Heap}
/-- as Fun.ok, for a def that is called where an exception is handled -/
theorem okH {x qual : Str} {st : Stmt} {f : Addr} {fd : FuncData} {N ps : List Str} {k : Nat} {sp : Sp} (F : Fun K x qual st f fd) (S : FnScope N ps (defScope st)) (len : ∀ vs H Q E, sp vs H Q E → vs.length = ps.length)
    (hbody : ∀ (cdv : Value) (A : Around) (outer : List Env) (s : Shared) (H : Hp) (vs : List V) (Q : VK) (E : XK) (p : Addr × Obj), HotC (cxH CX0 P w K mg base N qual (defScope st) f cdv A outer s H E p).nox → RoomH k (A.deeper (envOfC qual (defScope st) s.heap.objs.size f cdv)) → sp vs H Q E →
      ∃ t, PSs (cxH CX0 P w K mg base N qual (defScope st) f cdv A outer s H E p).nox (defBody st) t ∧ t { nx := fun _ H' => Q .non H', rt := Q } (L2.start N vs) H) : FnH P w K mg base CX0 (k + 1) f fd ps sp := by
  obtain ⟨oc, od, kV, doc, pm, an, cdv, ct, osl, rfl, lk, hcd⟩ := F.ex
  refine fn_ofH lk hcd S len fun A outer s H vs Q E p hot hr hsp => ?_
  obtain ⟨t, h, q⟩ := hbody cdv A outer s H vs Q E p ⟨p, hot, List.mem_singleton.mpr rfl⟩ hr hsp
  exact ⟨t, h.nox, q⟩
/-- as Fun.okX, with the context of what is raised -/
theorem okXN {x qual : Str} {st : Stmt} {f : Addr} {fd : FuncData} {N ps : List Str} {k : Nat} {sp : Sp} (F : Fun K x qual st f fd) (S : FnScope N ps (defScope st)) (len : ∀ vs H Q E, sp vs H Q E → vs.length = ps.length)
    (hbody : ∀ (cdv : Value) (A : Around) (outer : List Env) (s : Shared) (H : Hp) (vs : List V) (Q : VK) (E : XK), Room k (A.deeper (envOfC qual (defScope st) s.heap.objs.size f cdv)) → sp vs H Q E →
      ∃ t, PSs (cxOf (L2N.CX P w) P w K mg base N qual (defScope st) f cdv A outer s H E) (defBody st) t ∧ t { nx := fun _ H' => Q .non H', rt := Q } (L2.start N vs) H) : FnOk P w K mg base (L2N.CX P w) (k + 1) f fd ps sp := by
  obtain ⟨oc, od, kV, doc, pm, an, cdv, ct, osl, rfl, lk, hcd⟩ := F.ex
  exact fn_of lk hcd S len fun A outer s H vs Q E hr hsp => hbody cdv A outer s H vs Q E hr hsp
theorem passLN {X : Cx} : Passes (L2N.CX X.prog X.w) X E0 := fun _ _ _ _ _ _ _ h => by
  obtain ⟨_, _, _, _, _, _, _, _, _, _, _, _, z⟩ := h
  exact z.elim
theorem takes0N {X : Cx} : L2N.Takes X (fun _ _ _ _ => False) := fun _ _ x => by
  obtain ⟨_, _, _, _, _, _, _, _, _, _, _, _, _, _, _, _, z⟩ := x
  exact z.elim
end
section
variable {X : Cx} {k j : Nat} {x : Str} {sp : Sp} {p pos : Pos} {e : Expr} {es : List Expr} {t : TA} {W : WX}
/-- a call within a try, what it lets out is the clause's -/
theorem pe_cSN (c : Cal X.prog X.w X.K X.mg X.base (L2N.CX X.prog X.w) k x sp) (hr : Room j X.A) (hk : k ≤ j) (tk : L2N.Takes X W) (ha : PA X (e :: es) t) (hg : Gl X x := by rfl)
    (hdb : (x == ("__debug__" : Str)) = false := by decide) (he : starEach (e :: es) X.env = (false, eval e X.env) :: starEach es X.env := by rfl) (hpl : (backTo pos (starEach es X.env)).any (·.1) = false := by rfl) :
    PE X (.Call (.Name x p) (e :: es) [] pos) (tCallS sp (WE W) t) := by
  obtain ⟨f, fd, ps, F, hm, kp, b⟩ := c.ex
  exact pe_callS F (hr.mono hk) hg hm kp b (fun σ => L2N.passAt tk σ) ha hdb he hpl
/-- the suite of an except clause bears what it handles -/
theorem hot_suite {a : Addr} {oe : Obj} {cls : Value} {d : Option Addr} {pn : List (Addr × Obj)} (hz : L2N.Zn cls d oe) (hf : ∃ vs, oe.data = .fields vs) : HotC (X.suite a ((a, oe) :: pn)) := by
  obtain ⟨vs, hd⟩ := hf
  exact ⟨(a, oe), ⟨rfl, vs, hd, hz.2.2 vs hd⟩, List.mem_cons_self⟩
theorem room_suite {a : Addr} {pn : List (Addr × Obj)} (hr : Room k X.A) : RoomH k (X.suite a pn).A := ⟨hr.dp, hr.un⟩
end
end Sn

namespace Sn
open PySem PySem.Spec PyProof.Rows L2 TL
/-! ### the text -/
def topS (i : Nat) : Stmt := PySem.Challenge.pw_samenames_k02_joint_edits.main.body.getD i (.Pass ⟨0, 0, 0, 0⟩)
/-- the built-in names that stand as they are -/
structure Nm (mg : Str → Option Value) : Prop where
  abs : mg "abs" = none
  int_ : mg "int" = none
  len : mg "len" = none
  range : mg "range" = none
  isinstance : mg "isinstance" = none
  bool_ : mg "bool" = none
  str_ : mg "str" = none
  tuple_ : mg "tuple" = none
  list_ : mg "list" = none
section
variable {P : Program} {w : World} {K : PySem.W.Frag} {mg : Str → Option Value} {base : Heap} {f : Addr} {fd : FuncData}
abbrev s_tape : Stmt := topS 10
abbrev N_tape : List Str := ["script", "cell", "cells", "seed"]
theorem sc_tape : FnScope N_tape ["script"] (defScope s_tape) := ⟨rfl, rfl, rfl, by decide +kernel, rfl, by decide +kernel, by decide +kernel⟩
theorem nonneg_abs (i : Int) : 0 ≤ (if i < 0 then -i else i) := by
  split <;> omega
theorem ok_tape (F : Fun K "_law_tape" "_law_tape" s_tape f fd) (T : Nm mg) : FnOk P w K mg base CX0 1 f fd ["script"] (spTape K) := by
  refine F.ok sc_tape (fun vs H Q E h => ?_) (fun cdv A outer s H vs Q E hr h => ?_)
  · obtain ⟨a, ns, rfl, _⟩ := h
    rfl
  obtain ⟨a, ns, rfl, hS, hl, q⟩ := h
  refine ⟨_, (pss_cons (ps_setLc (i := 2) (own := [(("cell" : Str), 1)]) (g := (gName 1)) (tt := tYes) (by rfl) sc_tape.nd rfl rfl (sw_true rfl rfl rfl (by decide +kernel)) (pi_list (pv 0)) (blkOk_by (N := N_tape) (sc := defScope s_tape) (by decide +kernel)) (fun _ _ _ _ _ => (pg_name (i := 1) sc_tape.nd rfl (Or.inl rfl))) (fun _ _ _ _ _ => pts_nil) (fun _ _ _ _ _ => (pe_callB call_abs (by rfl) T.abs (by decide +kernel) (pa_cons (pe_callTy call_int1 (by rfl) T.int_ (by decide +kernel) (pa_cons (pv 1) pa_nil)) pa_nil))))
    (pss_cons (ps_set (i := 3) sc_tape.nd rfl (Or.inl rfl) pe_int)
    (pss_cons (ps_for PassesOwn.never rfl (pi_list (pv 2)) (pg_name (i := 1) sc_tape.nd rfl (Or.inl rfl)) (pss_one (ps_set (i := 3) sc_tape.nd rfl (Or.inl rfl) (pe_op op_mod (pe_callTy call_int1 (by rfl) T.int_ (by decide +kernel) (pa_cons (pe_op op_add (pe_op op_mul (pv 3) pe_int) (pv 1)) pa_nil)) pe_int))))
    (pss_one (ps_ret (pe_disp (pps_cons pe_str (pv 2) (pps_cons pe_str pe_int (pps_cons pe_str pe_int (pps_cons pe_str (pv 3) (pps_cons pe_str pe_int pps_nil))))) (by rfl) (by rfl) (fun z => by cases z) (by decide))))))), ?_⟩
  -- cells
  refine ⟨_, rfl, a, rfl, ⟨_, hS⟩, fun D hD => ?_⟩
  have s1 : Same H (upd H D (.lst [])) := same_new hD
  refine lc_list (K := K) (a := a) (xs := ns.map V.int) (fun i H' => Same H H' ∧ ∃ cs : List Int, H' D = some (.lst (cs.map V.int)) ∧ cs.length = i ∧ ∀ x ∈ cs, 0 ≤ x)
    ⟨s1, [], upd_same, rfl, fun _ h => nomatch h⟩ (fun i H' _ h => h.1.seq hS) ?_ ?_
  · rintro i x H' hi ⟨sm, cs, hd, hc, hp⟩
    obtain ⟨u, rfl⟩ : ∃ u, x = V.int u := by
      rw [List.getElem?_map] at hi
      cases e : ns[i]? with
      | none => rw [e] at hi; cases hi
      | some u => rw [e] at hi; exact ⟨u, (Option.some.inj hi).symm⟩
    have hi2 : i < ns.length := by
      have z := (List.getElem?_eq_some_iff.mp hi).1
      rwa [List.length_map] at z
    refine ⟨rfl, ?_⟩
    refine ⟨_, rfl, .inl ⟨_, rfl, _, rfl, cs.map V.int, hd, ?_, ?_⟩⟩
    · rw [List.length_map]; exact Nat.lt_of_lt_of_le (show cs.length < 1000 by omega) (by decide)
    · refine ⟨fun b o e => ?_, cs ++ [if u < 0 then -u else u], ?_, by simp [hc], fun y hy => ?_⟩
      · rw [upd_ne (ne_of_none e hD)]; exact sm _ _ e
      · rw [upd_same, List.map_append] <;> rfl
      · rcases List.mem_append.mp hy with hy | hy
        · exact hp y hy
        · rw [List.mem_singleton.mp hy]; exact nonneg_abs u
  · rintro H1 ⟨sm, cs, hd, hc, hp⟩
    -- seed
    refine ⟨_, rfl, D, rfl, ⟨_, .inl (.inl hd)⟩, for_list (K := K) (a := D) (xs := cs.map V.int) (fun i σ H' => ∃ (v : Option V) (se : Int), σ = [some (.ref a), v, some (.ref D), some (.int se)] ∧ H' = H1 ∧ 0 ≤ se ∧ se < 2147483647)
      ⟨none, 7, rfl, rfl, by decide, by decide⟩ (fun i σ H' _ ⟨_, _, _, e, _⟩ => by rw [e]; exact .inl (.inl hd)) ?_ ?_⟩
    · rintro i x σ H' hi ⟨v, se, rfl, rfl, h0, h1⟩
      obtain ⟨u, rfl⟩ : ∃ u, x = V.int u := by
        rw [List.getElem?_map] at hi
        cases e : cs[i]? with
        | none => rw [e] at hi; cases hi
        | some u => rw [e] at hi; exact ⟨u, (Option.some.inj hi).symm⟩
      refine ⟨_, rfl, _, _, rfl, rfl, .inr ⟨by decide, by decide⟩, _, rfl, _, _, rfl, rfl, .inl ⟨_, rfl, _, _, rfl, rfl, (by show (0 : Int) < 2147483647; decide), ?_⟩⟩
      exact ⟨_, _, rfl, rfl, Int.emod_nonneg _ (by decide), Int.emod_lt_of_pos _ (by decide)⟩
    · rintro σ H' ⟨v, se, rfl, rfl, h0, h1⟩
      -- the dict
      intro t ht
      have hDt : D ≠ t := ne_of_none hd ht
      refine ⟨_, rfl, ?_⟩
      refine ⟨_, rfl, ?_⟩
      refine ⟨upd_same, tk D 0 0 se 0, rfl, (by show 5 ≤ 15; decide), ?_⟩
      rw [upd_upd]
      have e : mergeK [] (tk D 0 0 se 0) = tk D 0 0 se 0 := by kernel_rfl
      rw [e]
      exact q t D _ (fun b o z => by rw [upd_ne (ne_of_none (sm _ _ z) ht)]; exact sm _ _ z) (sm.free ht) hD
        ⟨cs, 0, 0, se, 0, upd_same, by rw [upd_ne hDt]; exact hd, hp, by decide, by decide, h0, h1⟩

abbrev s_take : Stmt := topS 11
abbrev N_take : List Str := ["tape", "many", "drawn", "mixed"]
theorem sc_take : FnScope N_take ["tape", "many"] (defScope s_take) := ⟨rfl, rfl, rfl, by decide +kernel, rfl, by decide +kernel, by decide +kernel⟩
theorem ok_take (F : Fun K "_law_take" "_law_take" s_take f fd) (T : Nm mg) : FnOk P w K mg base CX0 1 f fd ["tape", "many"] spTake := by
  refine F.ok sc_take (fun vs H Q E h => ?_) (fun cdv A outer s H vs Q E hr h => ?_)
  · obtain ⟨t, c, n, rfl, _⟩ := h
    rfl
  obtain ⟨t, c, n, rfl, ⟨cs, a, l, se, sa, z⟩, hn, hn2, q⟩ := h
  refine ⟨_, (C8.pss_cut (ps_if (PW.pt (pw_and (pt_cmpR op_eq (pe_dget (hu_of hr) (pv 0) pe_str (fun _ _ => rfl)) pe_int (nomark _)) (pw_and1 (pt_cmpR op_lt (pe_dget (hu_of hr) (pv 0) pe_str (fun _ _ => rfl)) (pe_callB call_len_seq (by rfl) T.len PySem.boot_len (pa_cons (pe_dget (hu_of hr) (pv 0) pe_str (fun _ _ => rfl)) pa_nil)) (nomark _))))) (pss_cons (ps_dput (hu_of hr) (pv 0) pe_str (pe_ix (r := rIxL K) ix_list (pe_dget (hu_of hr) (pv 0) pe_str (fun _ _ => rfl)) (pe_dget (hu_of hr) (pv 0) pe_str (fun _ _ => rfl)) (fun _ _ => rfl)) rfl)
    (pss_one (ps_dput (hu_of hr) (pv 0) pe_str (pe_op op_add (pe_dget (hu_of hr) (pv 0) pe_str (fun _ _ => rfl)) pe_int) rfl))) pss_nil)
    (pss_cons (ps_if (pt_cmpR op_gt (pe_dget (hu_of hr) (pv 0) pe_str (fun _ _ => rfl)) pe_int (nomark _)) (pss_cons (ps_set (i := 2) sc_take.nd rfl (Or.inl rfl) (pe_op op_mod (pe_callTy call_int1 (by rfl) T.int_ (by decide +kernel) (pa_cons (pe_dget (hu_of hr) (pv 0) pe_str (fun _ _ => rfl)) pa_nil)) (pv 1)))
    (pss_cons (ps_dput (hu_of hr) (pv 0) pe_str (pe_op op_fdiv (pe_dget (hu_of hr) (pv 0) pe_str (fun _ _ => rfl)) (pv 1)) rfl)
    (pss_one (ps_ret (pv 2))))) pss_nil)
    (pss_cons (ps_dput (hu_of hr) (pv 0) pe_str (pe_op op_add (pe_dget (hu_of hr) (pv 0) pe_str (fun _ _ => rfl)) pe_int) rfl)
    (pss_cons (ps_set (i := 3) sc_take.nd rfl (Or.inl rfl) (pe_op op_mod (pe_callTy call_int1 (by rfl) T.int_ (by decide +kernel) (pa_cons (pe_op op_add (pe_op op_mul (pe_dget (hu_of hr) (pv 0) pe_str (fun _ _ => rfl)) pe_int) (pe_op op_mul (pe_dget (hu_of hr) (pv 0) pe_str (fun _ _ => rfl)) pe_int)) pa_nil)) pe_int))
    (pss_cons (ps_set (i := 3) sc_take.nd rfl (Or.inl rfl) (pe_op op_mod (pe_callTy call_int1 (by rfl) T.int_ (by decide +kernel) (pa_cons (pe_op op_add (pe_op op_add (pe_op op_mul (pv 3) (pv 3)) (pe_op op_mul (pe_dget (hu_of hr) (pv 0) pe_str (fun _ _ => rfl)) pe_int)) pe_int) pa_nil)) pe_int))
    (pss_one (ps_ret (pe_op op_mod (pe_callTy call_int1 (by rfl) T.int_ (by decide +kernel) (pa_cons (pv 3) pa_nil)) (pv 1))))))))), ?_⟩
  -- if tape['left'] == 0 and tape['at'] < len(tape['cells'])
  refine ⟨fun σ H' => σ = L2.start N_take [.ref t, .int n] ∧ ∃ a l, But t H H' ∧ TkAt H' t c cs a l se sa, ?_, ?_⟩
  · refine ⟨_, rfl, t, _, rfl, z.dg g_left, rfl, _, rfl, ?_⟩
    refine ite2 (fun _ => ?_) (fun _ => iteF ⟨rfl, a, l, But.refl t H, z⟩)
    refine ⟨_, rfl, t, _, rfl, z.dg g_at, _, rfl, t, _, rfl, z.dg g_cells, c, _, rfl, .inl (.inl (.inl z.cl)), _, _, rfl, rfl, _, rfl, ?_⟩
    refine ite2 (fun ha => ?_) (fun _ => ⟨rfl, a, l, But.refl t H, z⟩)
    have ha : a < ((cs.map V.int).length : Int) := of_decide_eq_true ha
    rw [List.length_map] at ha
    have hj : a.toNat < cs.length := by have := z.a0; omega
    have ea : a = (a.toNat : Int) := by have := z.a0; omega
    have g1 : (cs.map V.int)[a.toNat]? = some (.int cs[a.toNat]) := by
      rw [List.getElem?_map, List.getElem?_eq_getElem hj] <;> rfl
    refine ⟨_, rfl, t, _, rfl, z.dg g_cells, _, rfl, t, _, rfl, z.dg g_at, c, _, _, _, rfl, rfl, .inl (.inl z.cl), at_of ea g1, _, rfl, t, _, rfl, z.pLeft, ?_⟩
    have z1 := z.sLeft (v := cs[a.toNat]) (z.cp _ (List.getElem_mem hj))
    refine ⟨_, rfl, t, _, rfl, z1.dg g_at, _, _, rfl, rfl, _, rfl, t, _, rfl, z1.pAt, ?_⟩
    exact ⟨rfl, _, _, ((But.refl t H).upd).upd, z1.sAt (by have := z.a0; omega)⟩
  rintro σ H1 ⟨rfl, a, l, bt, z⟩
  -- if tape['left'] > 0
  refine ⟨_, rfl, t, _, rfl, z.dg g_left, _, _, rfl, rfl, _, rfl, ?_⟩
  refine ite2 (fun hl => ?_) (fun _ => ?_)
  · have hl : 0 < l := of_decide_eq_true hl
    refine ⟨_, rfl, t, _, rfl, z.dg g_left, .inl ⟨_, rfl, _, rfl, _, _, rfl, rfl, hn, ?_⟩⟩
    refine ⟨_, rfl, t, _, rfl, z.dg g_left, _, rfl, _, _, rfl, rfl, ⟨hn, hn2⟩, _, rfl, t, _, rfl, z.pLeft, ?_⟩
    refine ⟨_, rfl, ?_⟩
    exact q _ _ (Int.emod_nonneg _ (by omega)) (Int.emod_lt_of_pos _ hn) bt.upd ⟨cs, a, _, se, sa, z.sLeft (Int.ediv_nonneg z.l0 (by omega))⟩
  · refine ⟨_, rfl, t, _, rfl, z.dg g_salt, _, _, rfl, rfl, _, rfl, t, _, rfl, z.pSalt, ?_⟩
    have z1 := z.sSalt (v := sa + 1)
    have b1 : But t H (upd H1 t (.dK (tk c a l se (sa + 1)))) := bt.upd
    generalize upd H1 t (.dK (tk c a l se (sa + 1))) = H2 at z1 b1 ⊢
    refine ⟨_, rfl, t, _, rfl, z1.dg g_seed, _, _, rfl, rfl, .inr ⟨by decide, by decide⟩, _, rfl, t, _, rfl, z1.dg g_salt, _, _, rfl, rfl, .inr ⟨by decide, by decide⟩, _, _, rfl, rfl, .inl ⟨_, rfl, _, _, rfl, rfl, (by show (0 : Int) < 2147483647; decide), ?_⟩⟩
    have hm := Int.emod_lt_of_pos (se * 48271 + (sa + 1) * 69621) (show (0 : Int) < 2147483647 by decide)
    have hm0 := Int.emod_nonneg (se * 48271 + (sa + 1) * 69621) (show (2147483647 : Int) ≠ 0 by decide)
    generalize (se * 48271 + (sa + 1) * 69621) % 2147483647 = mx at hm hm0 ⊢
    refine ⟨_, rfl, _, rfl, _, _, rfl, rfl, .inl ⟨by omega, by omega⟩, _, rfl, t, _, rfl, z1.dg g_salt, _, _, rfl, rfl, .inr ⟨by decide, by decide⟩, _, _, rfl, rfl, _, _, rfl, rfl, .inl ⟨_, rfl, _, _, rfl, rfl, (by show (0 : Int) < 2147483399; decide), ?_⟩⟩
    refine ⟨_, rfl, .inl ⟨_, rfl, _, rfl, _, _, rfl, rfl, hn, ?_⟩⟩
    exact q _ _ (Int.emod_nonneg _ (by omega)) (Int.emod_lt_of_pos _ hn) b1 ⟨cs, a, l, se, _, z1⟩

abbrev s_isInt : Stmt := topS 12
abbrev N_isInt : List Str := ["actual"]
theorem sc_isInt : FnScope N_isInt ["actual"] (defScope s_isInt) := ⟨rfl, rfl, rfl, by decide +kernel, rfl, by decide +kernel, by decide +kernel⟩
theorem ok_isInt (F : Fun K "_law_is_integer" "_law_is_integer" s_isInt f fd) (T : Nm mg) : FnOk P w K mg base CX0 1 f fd ["actual"] spIsInt := by
  refine F.ok sc_isInt (fun vs H Q E h => ?_) (fun cdv A outer s H vs Q E hr h => ?_)
  · obtain ⟨i, rfl, _⟩ := h
    rfl
  obtain ⟨i, rfl, q⟩ := h
  refine ⟨_, (pss_one (ps_ret (pe_and (pe_callB call_isi (by rfl) T.isinstance (by decide +kernel) (pa_cons (pv 0) (pa_cons (pe_bltn (v := .ty "int") (u := .type "int") (by rfl) T.int_ (by decide +kernel) rfl) pa_nil))) (pe_one (pe_not (pe_callB call_isi (by rfl) T.isinstance (by decide +kernel) (pa_cons (pv 0) (pa_cons (pe_bltn (v := .ty "bool") (u := .type "bool") (by rfl) T.bool_ (by decide +kernel) rfl) pa_nil)))))))), ?_⟩
  refine ⟨_, rfl, _, _, _, _, true, rfl, .ty _, .base (.int _), kit_ty (by decide +kernel), _, rfl, ?_⟩
  refine ⟨_, rfl, _, _, _, _, false, rfl, .ty _, .base (.int _), kit_ty (by decide +kernel), _, rfl, q⟩

abbrev s_sameItems : Stmt := topS 13
abbrev N_sameItems : List Str := ["actual", "expected", "k"]
theorem sc_sameItems : FnScope N_sameItems ["actual", "expected"] (defScope s_sameItems) := ⟨rfl, rfl, rfl, by decide +kernel, rfl, by decide +kernel, by decide +kernel⟩
theorem ok_items {n : Nat} (F : Fun K "_law_same_items" "_law_same_items" s_sameItems f fd) (T : Nm mg) (C_law_same : Cal P w K mg base CX0 (2 * n) "_law_same" (spSame n)) : FnOk P w K mg base CX0 (2 * n + 1) f fd ["actual", "expected"] (spItems n) := by
  refine F.ok sc_sameItems (fun vs H Q E h => ?_) (fun cdv A outer s H vs Q E hr h => ?_)
  · obtain ⟨a, b, xs, ys, rfl, _⟩ := h
    rfl
  obtain ⟨a, b, xs, ys, rfl, hs, hl, hm, al, q⟩ := h
  have sa : SqL K H a xs ∨ SqT K H a xs := hs.elim (fun h => .inr (.inl (.inl h.1))) fun h => .inl (.inl (.inl h.1))
  have sb : SqL K H b ys ∨ SqT K H b ys := hs.elim (fun h => .inr (.inl (.inl h.2))) fun h => .inl (.inl (.inl h.2))
  refine ⟨_, (pss_cons (ps_if (pt_cmpR op_ne (pe_callB call_len_seq (by rfl) T.len PySem.boot_len (pa_cons (pv 0) pa_nil)) (pe_callB call_len_seq (by rfl) T.len PySem.boot_len (pa_cons (pv 1) pa_nil)) (nomark _)) (pss_one (ps_ret pe_bl)) pss_nil)
    (pss_cons (ps_for PassesOwn.never rfl (pi_range1 (by rfl) T.range (pa_cons (pe_callB call_len_seq (by rfl) T.len PySem.boot_len (pa_cons (pv 1) pa_nil)) pa_nil)) (pg_name (i := 2) sc_sameItems.nd rfl (Or.inl rfl)) (pss_one (ps_if (pt_not (pt_val (pe_c C_law_same hr (by first | decide | omega) pass0 (pa_cons (pe_ix (r := rIx K) ix_seq (pv 0) (pv 2) (fun _ _ => rfl)) (pa_cons (pe_ix (r := rIx K) ix_seq (pv 1) (pv 2) (fun _ _ => rfl)) pa_nil))))) (pss_one (ps_ret pe_bl)) pss_nil)))
    (pss_one (ps_ret pe_bl)))), ?_⟩
  refine ⟨_, rfl, a, xs, rfl, sa, _, rfl, b, ys, rfl, sb, rfl, _, rfl, ?_⟩
  refine iteNS (by rw [hl]) ?_
  refine ⟨_, rfl, b, ys, rfl, sb, _, rfl, by omega, by omega, for_range (lo := 0) (n := ((ys.length : Nat) : Int).toNat) (fun i σ H' => H' = H ∧ ∃ v, σ = [some (.ref a), some (.ref b), v]) ⟨rfl, none, rfl⟩ ?_ ?_⟩
  · rintro i σ H' hi ⟨rfl, v, rfl⟩
    have hi1 : i < ys.length := by omega
    have hi2 : i < xs.length := by omega
    have ei : ((0 : Int) + (i : Nat)) = ((i : Nat) : Int) := Int.zero_add _
    have g1 := List.getElem?_eq_getElem hi2
    have g2 := List.getElem?_eq_getElem hi1
    refine ⟨_, rfl, _, rfl, ?_⟩
    have r1 : ∀ {Q' : VK}, Q' xs[i] H' → rIx K (.ref a) (.int (0 + (i : Nat))) H' Q' := fun {Q'} h => sa.elim (fun s => .inl ⟨a, xs, _, _, rfl, rfl, s, at_of ei g1, h⟩) fun s => .inr (.inl ⟨a, xs, _, _, rfl, rfl, s, at_of ei g1, h⟩)
    have r2 : ∀ {Q' : VK}, Q' ys[i] H' → rIx K (.ref b) (.int (0 + (i : Nat))) H' Q' := fun {Q'} h => sb.elim (fun s => .inl ⟨b, ys, _, _, rfl, rfl, s, at_of ei g2, h⟩) fun s => .inr (.inl ⟨b, ys, _, _, rfl, rfl, s, at_of ei g2, h⟩)
    refine r1 ⟨_, rfl, _, rfl, r2 ?_⟩
    refine ⟨_, _, rfl, al i _ _ g1 g2, _, rfl, ?_⟩
    exact ⟨rfl, _, rfl⟩
  · rintro σ H' ⟨rfl, v, rfl⟩
    exact q

abbrev s_same : Stmt := topS 14
abbrev N_same : List Str := ["actual", "expected", "key"]
theorem sc_same : FnScope N_same ["actual", "expected"] (defScope s_same) := ⟨rfl, rfl, rfl, by decide +kernel, rfl, by decide +kernel, by decide +kernel⟩
theorem ok_same {n : Nat} (F : Fun K "_law_same" "_law_same" s_same f fd) (T : Nm mg) (C_law_is_integer : Cal P w K mg base CX0 1 "_law_is_integer" spIsInt) (C_law_same_items : Cal P w K mg base CX0 (2 * n + 1) "_law_same_items" (spItems n)) :
    FnOk P w K mg base CX0 (2 * n + 2) f fd ["actual", "expected"] (spSame (n + 1)) := by
  refine F.ok sc_same (fun vs H Q E h => ?_) (fun cdv A outer s H vs Q E hr h => ?_)
  · obtain ⟨x, y, rfl, _⟩ := h
    rfl
  obtain ⟨x, y, rfl, al, q⟩ := h
  refine ⟨_, (pss_cons (ps_if (pt_cmpR op_isN (pv 1) pe_non (nomark _)) (pss_one (ps_ret (pe_cmpR op_isN (pv 0) pe_non (nomark _)))) pss_nil)
    (pss_cons (ps_if (pt_val (pe_callB call_isi (by rfl) T.isinstance (by decide +kernel) (pa_cons (pv 1) (pa_cons (pe_bltn (v := .ty "bool") (u := .type "bool") (by rfl) T.bool_ (by decide +kernel) rfl) pa_nil)))) (pss_one (ps_ret (pe_and (pe_callB call_isi (by rfl) T.isinstance (by decide +kernel) (pa_cons (pv 0) (pa_cons (pe_bltn (v := .ty "bool") (u := .type "bool") (by rfl) T.bool_ (by decide +kernel) rfl) pa_nil))) (pe_one (pe_cmpR op_eq (pv 0) (pv 1) (nomark _)))))) pss_nil)
    (pss_cons (ps_if (pt_val (pe_callB call_isi (by rfl) T.isinstance (by decide +kernel) (pa_cons (pv 1) (pa_cons (pe_bltn (v := .ty "int") (u := .type "int") (by rfl) T.int_ (by decide +kernel) rfl) pa_nil)))) (pss_one (ps_ret (pe_and (pe_c C_law_is_integer hr (by first | decide | omega) pass0 (pa_cons (pv 0) pa_nil)) (pe_one (pe_cmpR op_eq (pv 0) (pv 1) (nomark _)))))) pss_nil)
    (pss_cons (ps_if (pt_val (pe_callB call_isi (by rfl) T.isinstance (by decide +kernel) (pa_cons (pv 1) (pa_cons (pe_bltn (v := .ty "str") (u := .type "str") (by rfl) T.str_ (by decide +kernel) rfl) pa_nil)))) (pss_one (ps_ret (pe_and (pe_callB call_isi (by rfl) T.isinstance (by decide +kernel) (pa_cons (pv 0) (pa_cons (pe_bltn (v := .ty "str") (u := .type "str") (by rfl) T.str_ (by decide +kernel) rfl) pa_nil))) (pe_one (pe_cmpR op_eq (pv 0) (pv 1) (nomark _)))))) pss_nil)
    (pss_cons (ps_if (pt_val (pe_callB call_isi (by rfl) T.isinstance (by decide +kernel) (pa_cons (pv 1) (pa_cons (pe_bltn (v := .ty "tuple") (u := .type "tuple") (by rfl) T.tuple_ (by decide +kernel) rfl) pa_nil)))) (pss_one (ps_ret (pe_and (pe_callB call_isi (by rfl) T.isinstance (by decide +kernel) (pa_cons (pv 0) (pa_cons (pe_bltn (v := .ty "tuple") (u := .type "tuple") (by rfl) T.tuple_ (by decide +kernel) rfl) pa_nil))) (pe_one (pe_c C_law_same_items hr (by first | decide | omega) pass0 (pa_cons (pv 0) (pa_cons (pv 1) pa_nil))))))) pss_nil)
    (pss_cons (ps_if (pt_val (pe_callB call_isi (by rfl) T.isinstance (by decide +kernel) (pa_cons (pv 1) (pa_cons (pe_bltn (v := .ty "list") (u := .type "list") (by rfl) T.list_ (by decide +kernel) rfl) pa_nil)))) (pss_one (ps_ret (pe_and (pe_callB call_isi (by rfl) T.isinstance (by decide +kernel) (pa_cons (pv 0) (pa_cons (pe_bltn (v := .ty "list") (u := .type "list") (by rfl) T.list_ (by decide +kernel) rfl) pa_nil))) (pe_one (pe_c C_law_same_items hr (by first | decide | omega) pass0 (pa_cons (pv 0) (pa_cons (pv 1) pa_nil))))))) pss_nil)
    (pss_cons ps_never
    (pss_cons ps_never
    (pss_cons ps_never
    (pss_one ps_never)))))))))), ?_⟩
  rcases al with ⟨rfl, hx⟩ | ⟨a, b, xs, ys, rfl, rfl, ha, hb, hl, hm, al⟩ | ⟨a, b, xs, ys, rfl, rfl, ha, hb, hl, hm, al⟩
  · cases x with
    | non => exact ⟨_, rfl, rfl, _, rfl, iteP rfl ⟨_, rfl, rfl, qP rfl q⟩⟩
    | bl k =>
      refine ⟨_, rfl, rfl, _, rfl, iteN (fun z => nomatch z) ?_⟩
      refine ⟨_, rfl, _, _, _, _, true, rfl, .ty _, .base (.bl _), kit_ty (by decide +kernel), _, rfl, ?_⟩
      refine ⟨_, rfl, _, _, _, _, true, rfl, .ty _, .base (.bl _), kit_ty (by decide +kernel), _, rfl, ?_⟩
      exact ⟨_, rfl, _, rfl, rfl, qP rfl q⟩
    | int i =>
      refine ⟨_, rfl, rfl, _, rfl, iteN (fun z => nomatch z) ?_⟩
      refine ⟨_, rfl, _, _, _, _, false, rfl, .ty _, .base (.int _), kit_ty (by decide +kernel), _, rfl, ?_⟩
      refine ⟨_, rfl, _, _, _, _, true, rfl, .ty _, .base (.int _), kit_ty (by decide +kernel), _, rfl, ?_⟩
      refine ⟨_, rfl, i, rfl, _, rfl, ?_⟩
      exact ⟨_, rfl, _, rfl, rfl, qP rfl q⟩
    | str z =>
      refine ⟨_, rfl, rfl, _, rfl, iteN (fun z => nomatch z) ?_⟩
      refine ⟨_, rfl, _, _, _, _, false, rfl, .ty _, .base (.str _), kit_ty (by decide +kernel), _, rfl, ?_⟩
      refine ⟨_, rfl, _, _, _, _, false, rfl, .ty _, .base (.str _), kit_ty (by decide +kernel), _, rfl, ?_⟩
      refine ⟨_, rfl, _, _, _, _, true, rfl, .ty _, .base (.str _), kit_ty (by decide +kernel), _, rfl, ?_⟩
      refine ⟨_, rfl, _, _, _, _, true, rfl, .ty _, .base (.str _), kit_ty (by decide +kernel), _, rfl, ?_⟩
      exact ⟨_, rfl, _, rfl, rfl, qP rfl q⟩
    | byt z => cases hx
    | flt z => cases hx
    | ref z => cases hx
    | ty z => cases hx
  · refine ⟨_, rfl, rfl, _, rfl, iteN (fun z => nomatch z) ?_⟩
    refine ⟨_, rfl, _, _, _, _, false, rfl, .ty _, .base (.tup hb), kit_ty (by decide +kernel), _, rfl, ?_⟩
    refine ⟨_, rfl, _, _, _, _, false, rfl, .ty _, .base (.tup hb), kit_ty (by decide +kernel), _, rfl, ?_⟩
    refine ⟨_, rfl, _, _, _, _, false, rfl, .ty _, .base (.tup hb), kit_ty (by decide +kernel), _, rfl, ?_⟩
    refine ⟨_, rfl, _, _, _, _, true, rfl, .ty _, .base (.tup hb), kit_ty (by decide +kernel), _, rfl, ?_⟩
    refine ⟨_, rfl, _, _, _, _, true, rfl, .ty _, .base (.tup ha), kit_ty (by decide +kernel), _, rfl, ?_⟩
    exact ⟨_, rfl, _, rfl, a, b, xs, ys, rfl, .inl ⟨ha, hb⟩, hl, hm, al, q⟩
  · refine ⟨_, rfl, rfl, _, rfl, iteN (fun z => nomatch z) ?_⟩
    refine ⟨_, rfl, _, _, _, _, false, rfl, .ty _, .base (.lst hb), kit_ty (by decide +kernel), _, rfl, ?_⟩
    refine ⟨_, rfl, _, _, _, _, false, rfl, .ty _, .base (.lst hb), kit_ty (by decide +kernel), _, rfl, ?_⟩
    refine ⟨_, rfl, _, _, _, _, false, rfl, .ty _, .base (.lst hb), kit_ty (by decide +kernel), _, rfl, ?_⟩
    refine ⟨_, rfl, _, _, _, _, false, rfl, .ty _, .base (.lst hb), kit_ty (by decide +kernel), _, rfl, ?_⟩
    refine ⟨_, rfl, _, _, _, _, true, rfl, .ty _, .base (.lst hb), kit_ty (by decide +kernel), _, rfl, ?_⟩
    refine ⟨_, rfl, _, _, _, _, true, rfl, .ty _, .base (.lst ha), kit_ty (by decide +kernel), _, rfl, ?_⟩
    exact ⟨_, rfl, _, rfl, a, b, xs, ys, rfl, .inr ⟨ha, hb⟩, hl, hm, al, q⟩
theorem no_same0 : ∀ vs H Q E, ¬ spSame 0 vs H Q E := fun vs H Q E h => by
  obtain ⟨x, y, _, al, _⟩ := h
  exact al
/-- both, as deep as one likes -/
theorem both {f g : Addr} {fd gd : FuncData} (FS : Fun K "_law_same" "_law_same" s_same f fd) (bS : Binds K fd ["actual", "expected"] []) (mS : mg "_law_same" = some (.ref f)) (FI : Fun K "_law_same_items" "_law_same_items" s_sameItems g gd) (bI : Binds K gd ["actual", "expected"] []) (mI : mg "_law_same_items" = some (.ref g))
    (T : Nm mg) (C_law_is_integer : Cal P w K mg base CX0 1 "_law_is_integer" spIsInt) : ∀ n, Cal P w K mg base CX0 (2 * n) "_law_same" (spSame n)
  | 0 => ⟨f, fd, _, none_left no_same0, mS, FS.kp, bS⟩
  | n + 1 => ⟨f, fd, _, ok_same FS T C_law_is_integer ⟨g, gd, _, ok_items FI T (both FS bS mS FI bI mI T C_law_is_integer n), mI, FI.kp, bI⟩, mS, FS.kp, bS⟩

abbrev s_snippet : Stmt := topS 16
abbrev N_snippet : List Str := ["tape", "pieces", "k"]
theorem sc_snippet : FnScope N_snippet ["tape"] (defScope s_snippet) := ⟨rfl, rfl, rfl, by decide +kernel, rfl, by decide +kernel, by decide +kernel⟩
def pcs_snippet_1 : List Str := ["def ", "data ", "f", "x", "(", ")", ": Int", " = ", "1", " + ", "\n", "\n ", "#", " let x = ", " in ", ","]
def pcs_snippet_2 : List Str := ["\x69mport ", "a", "trait ", "impl ", " for ", "Bool", "if ", " then ", " else ", ".", "==", "[", "]", " "]
theorem pcs_ok : ((pcs_snippet_1 ++ pcs_snippet_2).all fun z => okT z && decide (z.length ≤ 9)) = true := by decide +kernel
theorem pcs_len : (pcs_snippet_1 ++ pcs_snippet_2).length = 30 := by decide +kernel
theorem ok_snippet (F : Fun K "_law_snippet" "_law_snippet" s_snippet f fd) (T : Nm mg) (C_law_take : Cal P w K mg base CX0 1 "_law_take" spTake) : FnOk P w K mg base CX0 2 f fd ["tape"] spSnippet := by
  refine F.ok sc_snippet (fun vs H Q E h => ?_) (fun cdv A outer s H vs Q E hr h => ?_)
  · obtain ⟨t, c, rfl, _⟩ := h
    rfl
  obtain ⟨t, c, rfl, z, q⟩ := h
  refine ⟨_, (pss_cons (ps_set (i := 1) sc_snippet.nd rfl (Or.inr rfl) (pe_lst (pa_strs pcs_snippet_1)))
    (pss_cons (ps_set (i := 1) sc_snippet.nd rfl (Or.inr rfl) (pe_op op_cat (pv 1) (pe_lst (pa_strs pcs_snippet_2))))
    (pss_one (ps_ret (pe_join pe_str (pe_lc (own := [(("k" : Str), 2)]) (g := (gName 2)) (tt := tYes) rfl sc_snippet.nd (pi_range1 (by rfl) T.range (pa_cons (pe_c C_law_take hr (by first | decide | omega) pass0 (pa_cons (pv 0) (pa_cons pe_int pa_nil))) pa_nil)) (blkOk_by (N := N_snippet) (sc := defScope s_snippet) (by decide +kernel)) (fun _ _ _ _ _ => (pg_name (i := 2) sc_snippet.nd rfl (Or.inl rfl))) (fun _ _ _ _ _ => pts_nil) (fun _ _ _ _ _ => (pe_ix (r := rIxL K) ix_list (pv 1) (pe_c C_law_take hr (by first | decide | omega) pass0 (pa_cons (pv 0) (pa_cons pe_int pa_nil))) (fun _ _ => rfl))))))))), ?_⟩
  refine ⟨(by show 16 ≤ sizeLine; decide), fun l1 n1 => ?_⟩
  refine ⟨_, rfl, (by show 14 ≤ sizeLine; decide), fun l2 n2 => ?_⟩
  have e1 : upd (upd H l1 (.lst (pcs_snippet_1.map V.str))) l2 (.lst (pcs_snippet_2.map V.str)) l1 = some (.lst (pcs_snippet_1.map V.str)) := by
    rw [upd_ne (ne_of_none upd_same n2), upd_same]
  refine ⟨l1, l2, _, _, rfl, rfl, e1, upd_same, (by show 30 ≤ sizeLine; decide), fun p np => ?_⟩
  have b1 : Same H (upd (upd (upd H l1 (.lst (pcs_snippet_1.map V.str))) l2 (.lst (pcs_snippet_2.map V.str))) p (.lst (pcs_snippet_1.map V.str ++ pcs_snippet_2.map V.str))) := ((same_new n1).trans (same_new n2)).trans (same_new np)
  have hp : upd (upd (upd H l1 (.lst (pcs_snippet_1.map V.str))) l2 (.lst (pcs_snippet_2.map V.str))) p (.lst (pcs_snippet_1.map V.str ++ pcs_snippet_2.map V.str)) p = some (.lst ((pcs_snippet_1 ++ pcs_snippet_2).map V.str)) := by
    rw [upd_same, List.map_append]
  generalize upd (upd (upd H l1 (.lst (pcs_snippet_1.map V.str))) l2 (.lst (pcs_snippet_2.map V.str))) p (.lst (pcs_snippet_1.map V.str ++ pcs_snippet_2.map V.str)) = H1 at b1 hp ⊢
  have z1 : Tp H1 t c := z.same b1
  refine ⟨⟨_, rfl⟩, _, rfl, t, c, 6, rfl, z1, by decide, by decide, fun r H2 h0 h6 b2 z2 => ⟨r, rfl, by omega, by omega, fun D hD => ?_⟩⟩
  have pt : p ≠ t := z1.ne hp (fun _ q => nomatch q)
  have hp2 := b2 _ _ pt hp
  refine lc_range (lo := 0) (n := r.toNat) (fun i H' => But t H H' ∧ Tp H' t c ∧ H' p = some (.lst ((pcs_snippet_1 ++ pcs_snippet_2).map V.str)) ∧ ∃ zs : List Str, H' D = some (.lst (zs.map V.str)) ∧ zs.length = i ∧ ∀ y ∈ zs, OkT y ∧ y.length ≤ 9)
    ⟨((But.of b1).trans b2).trans (.of (same_new hD)), z2.new hD, by rw [upd_ne (ne_of_none hp2 hD)]; exact hp2, [], upd_same, rfl, fun _ h => nomatch h⟩ ?_ ?_
  · rintro i H' hi ⟨b3, z3, hp3, zs, hd, hl, hz⟩
    refine ⟨rfl, ?_⟩
    refine ⟨_, rfl, _, rfl, t, c, 30, rfl, z3, by decide, by decide, fun r2 H4 g0 g1 b4 z4 => ?_⟩
    have hp4 := b4 _ _ pt hp3
    have hd4 := b4 _ _ (z3.ne hd (fun _ q => nomatch q)) hd
    have hj : r2.toNat < (pcs_snippet_1 ++ pcs_snippet_2).length := by rw [pcs_len]; omega
    have g : ((pcs_snippet_1 ++ pcs_snippet_2).map V.str)[r2.toNat]? = some (.str (pcs_snippet_1 ++ pcs_snippet_2)[r2.toNat]) := by
      rw [List.getElem?_map, List.getElem?_eq_getElem hj] <;> rfl
    have dt : D ≠ t := z4.ne hd4 (fun _ q => nomatch q)
    have dp : p ≠ D := ne_of_none hp2 hD
    have dc : c ≠ D := z2.nc hD
    refine ⟨p, _, r2, _, rfl, rfl, .inl (.inl hp4), at_of (by omega) g, zs.map V.str, hd4, ?_, ?_⟩
    · rw [List.length_map]; exact Nat.lt_of_lt_of_le (show zs.length < 1000 by omega) (by decide)
    · refine ⟨fun b o nb e => ?_, z4.upd dt.symm dc, by rw [upd_ne dp]; exact hp4, zs ++ [(pcs_snippet_1 ++ pcs_snippet_2)[r2.toNat]], ?_, by simp [hl], fun y hy => ?_⟩
      · have nD : b ≠ D := fun e2 => by
          rw [e2] at e
          have e3 := b2 _ _ dt (b1 _ _ e)
          rw [hD] at e3
          cases e3
        rw [upd_ne nD]
        exact b4 _ _ nb (b3 _ _ nb e)
      · rw [upd_same, List.map_append] <;> rfl
      · rcases List.mem_append.mp hy with hy | hy
        · exact hz y hy
        · rw [List.mem_singleton.mp hy]
          have k := List.all_eq_true.mp pcs_ok _ (List.getElem_mem hj)
          rw [Bool.and_eq_true, decide_eq_true_eq] at k
          exact ⟨OkT.of k.1, k.2⟩
  · rintro H' ⟨b3, z3, hp3, zs, hd, hl, hz⟩
    have sl := sum_len_le (n := 9) fun y hy => (hz y hy).2
    refine ⟨_, D, zs, rfl, rfl, .inl (.inl (.inl hd)), ?_, ?_⟩
    · show (zs.map (·.length)).sum + zs.length * 0 ≤ 16777216
      omega
    · exact q _ _ (OkT.join rfl fun y hy => (hz y hy).1) (by rw [join_len _ rfl]; omega) b3 z3

abbrev s_char : Stmt := topS 17
abbrev N_char : List Str := ["tape", "chars"]
theorem sc_char : FnScope N_char ["tape"] (defScope s_char) := ⟨rfl, rfl, rfl, by decide +kernel, rfl, by decide +kernel, by decide +kernel⟩
def chs : Str := (" !\"#$&'()*+,-./0123456789:;<=>?@ABCDEFGHIJKLMNOPQRSTUVWXYZ[\\]^" : Str) ++ ("_`abcdefghijklmnopqrstuvwxyz{|}~\n" : Str)
theorem chs_ok : okT chs = true := by decide +kernel
theorem chs_len : chs.length = 95 := by decide +kernel
theorem ok_char (F : Fun K "_law_char" "_law_char" s_char f fd) (T : Nm mg) (C_law_take : Cal P w K mg base CX0 1 "_law_take" spTake) : FnOk P w K mg base CX0 2 f fd ["tape"] spChar := by
  refine F.ok sc_char (fun vs H Q E h => ?_) (fun cdv A outer s H vs Q E hr h => ?_)
  · obtain ⟨t, c, rfl, _⟩ := h
    rfl
  obtain ⟨t, c, rfl, z, q⟩ := h
  refine ⟨_, (pss_cons (ps_set (i := 1) sc_char.nd rfl (Or.inl rfl) pe_str)
    (pss_cons (ps_set (i := 1) sc_char.nd rfl (Or.inl rfl) (pe_op op_add_str (pv 1) pe_str))
    (pss_one (ps_ret (pe_item_str (pv 1) (pe_c C_law_take hr (by first | decide | omega) pass0 (pa_cons (pv 0) (pa_cons pe_int pa_nil))) (fun _ _ => rfl)))))), ?_⟩
  refine ⟨_, rfl, _, _, rfl, rfl, (by decide +kernel), ?_⟩
  refine ⟨_, rfl, _, rfl, t, c, 95, rfl, z, by decide, by decide, fun r H1 h0 h1 b1 z1 => ?_⟩
  have hj : r.toNat < chs.cps.toList.length := by
    rw [← TL.len_tl chs, chs_len]
    omega
  have ha : r.toNat < chs.cps.size := by
    rw [Array.length_toList] at hj
    exact hj
  have g : chs.cps[r.toNat]? = some (chs.cps[r.toNat]) := Array.getElem?_eq_getElem ha
  refine ⟨chs, r, _, rfl, rfl, h0, by omega, (by rw [chs_len]; omega), g, ?_⟩
  refine q _ _ (fun y hy => ?_) rfl b1 z1
  have hy : y ∈ [chs.cps[r.toNat]] := hy
  rw [List.mem_singleton.mp hy]
  exact List.all_eq_true.mp chs_ok _ (by simp)

abbrev s_anyText : Stmt := topS 18
abbrev N_anyText : List Str := ["tape", "most", "parts", "k"]
theorem sc_anyText : FnScope N_anyText ["tape", "most"] (defScope s_anyText) := ⟨rfl, rfl, rfl, by decide +kernel, rfl, by decide +kernel, by decide +kernel⟩
theorem ok_any (F : Fun K "_law_any_text" "_law_any_text" s_anyText f fd) (T : Nm mg) (C_law_take : Cal P w K mg base CX0 1 "_law_take" spTake) (C_law_char : Cal P w K mg base CX0 2 "_law_char" spChar) (C_law_snippet : Cal P w K mg base CX0 2 "_law_snippet" spSnippet) :
    FnOk P w K mg base CX0 3 f fd ["tape", "most"] spAny := by
  refine F.ok sc_anyText (fun vs H Q E h => ?_) (fun cdv A outer s H vs Q E hr h => ?_)
  · obtain ⟨t, c, m, rfl, _⟩ := h
    rfl
  obtain ⟨t, c, m, rfl, z, hm, q⟩ := h
  refine ⟨_, (pss_cons (ps_set (i := 2) sc_anyText.nd rfl (Or.inl rfl) (pe_lst pa_nil))
    (pss_cons (ps_for PassesOwn.never rfl (pi_range1 (by rfl) T.range (pa_cons (pe_c C_law_take hr (by first | decide | omega) pass0 (pa_cons (pv 0) (pa_cons (pe_op op_add (pv 1) pe_int) pa_nil))) pa_nil)) (pg_name (i := 3) sc_anyText.nd rfl (Or.inl rfl)) (pss_one (ps_if (pt_cmpR op_eq (pe_c C_law_take hr (by first | decide | omega) pass0 (pa_cons (pv 0) (pa_cons pe_int pa_nil))) pe_int (nomark _)) (pss_one (ps_expr (pe_bm PySem.F.plainAttrs_list PySem.F.slot_list_append PySem.F.type_list_append mt_append (pv 2) (pa_cons (pe_c C_law_char hr (by first | decide | omega) pass0 (pa_cons (pv 0) pa_nil)) pa_nil)))) (pss_one (ps_expr (pe_bm PySem.F.plainAttrs_list PySem.F.slot_list_append PySem.F.type_list_append mt_append (pv 2) (pa_cons (pe_c C_law_snippet hr (by first | decide | omega) pass0 (pa_cons (pv 0) pa_nil)) pa_nil)))))))
    (pss_one (ps_ret (pe_join pe_str (pv 2)))))), ?_⟩
  refine ⟨Nat.zero_le _, fun L nL => ?_⟩
  have z1 : Tp (upd H L (.lst [])) t c := z.new nL
  have Lt : L ≠ t := (z.nt nL).symm
  have Lc : L ≠ c := (z.nc nL).symm
  refine ⟨_, rfl, _, rfl, _, _, rfl, rfl, t, c, _, rfl, z1, by omega, by omega, fun r H1 h0 h1 b1 z2 => ⟨r, rfl, by omega, by omega, ?_⟩⟩
  refine for_range (lo := 0) (n := r.toNat) (fun i σ H' => ∃ (v : Option V) (zs : List Str), σ = [some (.ref t), some (.int m), some (.ref L), v] ∧ But t H H' ∧ Tp H' t c ∧ H' L = some (.lst (zs.map V.str)) ∧ zs.length = i ∧ ∀ y ∈ zs, OkT y ∧ y.length ≤ 45)
    ⟨none, [], rfl, (But.of (same_new nL)).trans b1, z2, b1 _ _ Lt upd_same, rfl, fun _ h => nomatch h⟩ ?_ ?_
  · rintro i σ H' hi ⟨v, zs, rfl, b2, z3, hL, hl, hz⟩
    have go : ∀ (y : Str) (H4 : Hp), OkT y → y.length ≤ 45 → But t H' H4 → Tp H4 t c → ∃ (l : Addr) (xs : List V) (u : V), V.ref L = .ref l ∧ [V.str y] = [u] ∧ H4 l = some (.lst xs) ∧ xs.length < sizeLine ∧
        ∃ (v : Option V) (zs : List Str), [some (V.ref t), some (.int m), some (.ref L), some (.int (0 + (i : Nat)))] = [some (.ref t), some (.int m), some (.ref L), v] ∧ But t H (upd H4 l (.lst (xs ++ [u]))) ∧ Tp (upd H4 l (.lst (xs ++ [u]))) t c ∧ upd H4 l (.lst (xs ++ [u])) L = some (.lst (zs.map V.str)) ∧ zs.length = i + 1 ∧ ∀ y ∈ zs, OkT y ∧ y.length ≤ 45 := by
      intro y H4 oy ly b4 z4
      refine ⟨L, _, _, rfl, rfl, b4 _ _ Lt hL, ?_, _, zs ++ [y], rfl, fun b o nb e => ?_, z4.upd Lt.symm Lc.symm, ?_, by simp [hl], fun x hx => ?_⟩
      · rw [List.length_map]; exact Nat.lt_of_lt_of_le (show zs.length < 1000 by omega) (by decide)
      · rw [upd_ne (ne_of_none e nL)]
        exact b4 _ _ nb (b2 _ _ nb e)
      · rw [upd_same, List.map_append] <;> rfl
      · rcases List.mem_append.mp hx with hx | hx
        · exact hz x hx
        · rw [List.mem_singleton.mp hx]
          exact ⟨oy, ly⟩
    refine ⟨_, rfl, t, c, 3, rfl, z3, by decide, by decide, fun r2 H3 g0 g1 b3 z4 => ⟨rfl, _, rfl, ?_⟩⟩
    have hL3 := b3 _ _ Lt hL
    refine ite2 (fun _ => ?_) (fun _ => ?_)
    · refine ⟨_, rfl, .inl ⟨rfl, _, SqL.of hL3⟩, _, rfl, t, c, rfl, z4, fun y H4 oy ly b4 z5 => ?_⟩
      exact go y H4 oy (by omega) (b3.trans b4) z5
    · refine ⟨_, rfl, .inl ⟨rfl, _, SqL.of hL3⟩, _, rfl, t, c, rfl, z4, fun y H4 oy ly b4 z5 => ?_⟩
      exact go y H4 oy ly (b3.trans b4) z5
  · rintro σ H' ⟨v, zs, rfl, b2, z3, hL, hl, hz⟩
    have sl := sum_len_le (n := 45) fun y hy => (hz y hy).2
    have zl : zs.length ≤ m := by omega
    have zm : 45 * zs.length ≤ 45 * m := Nat.mul_le_mul_left _ zl
    refine ⟨⟨_, rfl⟩, _, rfl, _, L, zs, rfl, rfl, .inl (.inl (.inl hL)), ?_, ?_⟩
    · show (zs.map (·.length)).sum + zs.length * 0 ≤ 16777216
      omega
    · exact q _ _ (OkT.join rfl fun y hy => (hz y hy).1) (by rw [join_len _ rfl]; omega) b2 z3
end

end Sn

namespace Sn
open PySem PySem.Spec PyProof.Rows L2 TL
/-! ### the program's functions of edits -/
structure NmJ (K : PySem.W.Frag) (mg : Str → Option Value) (C : Addr) (tL tP : PySem.Tok) : Prop extends Nm mg where
  ord : mg "ord" = none
  g_LONGEST : mg "LONGEST" = some (.int 4000 tL)
  g_PERCENT : mg "PERCENT" = some (.int 37 tP)
  c_InvalidEdit : mg "InvalidEdit" = some (.ref C)
  xI : PySem.W.excIn K C [.type "ValueError", .type "Exception", .type "BaseException", .type "object"] "ValueError.__new__" = true
  kI : PySem.W.keepIn K (.ref C) = true
  bI : PySem.W.subIn K (.ref C) (.type "BaseException") = some true
  tI : PySem.W.typeIn K (.ref C) = some (.type "type")
  te : PySem.W.exmOne K (.ref C) (.ref C) = some true
abbrev NL : Str := ("\n" : Str)
theorem nl_eq : NL = ⟨#[10]⟩ := by decide +kernel
theorem sp_eq : (" " : Str) = ⟨#[32]⟩ := by decide +kernel
theorem til_eq : ("~" : Str) = ⟨#[126]⟩ := by decide +kernel
theorem str_one {c : Nat} : (V.str ⟨#[c]⟩ = V.str NL) ↔ c = 10 := by
  rw [nl_eq]
  constructor
  · intro h
    injection h with h
    injection h with h
    simpa using h
  · intro h
    rw [h]
theorem le_sg (a c : Nat) : (!decide ((⟨#[c]⟩ : Str).cps.toList < (⟨#[a]⟩ : Str).cps.toList)) = decide (a ≤ c) := le_one a c
theorem okc_iff (c : Nat) : okc c = true ↔ c = 10 ∨ (32 ≤ c ∧ c ≤ 126 ∧ c ≠ 37) := by
  unfold okc
  simp [and_assoc]
theorem nat_of {o : Int} (h : 0 ≤ o) : ∃ n : Nat, o = (n : Int) := ⟨o.toNat, by omega⟩
section
variable {P : Program} {w : World} {K : PySem.W.Frag} {mg : Str → Option Value} {base : Heap} {f : Addr} {fd : FuncData} {C : Addr} {tL tP : PySem.Tok}
abbrev s_may_stand : Stmt := topS 6
abbrev N_may_stand : List Str := ["characters", "sign"]
theorem sc_may_stand : FnScope N_may_stand ["characters"] (defScope s_may_stand) := ⟨rfl, rfl, rfl, by decide +kernel, rfl, by decide +kernel, by decide +kernel⟩
theorem ok_may_stand (F : Fun K "may_stand" "may_stand" s_may_stand f fd) (T : NmJ K mg C tL tP) : FnOk P w K mg base CX0 1 f fd ["characters"] spMay := by
  refine F.ok sc_may_stand (fun vs H Q E h => ?_) (fun cdv A outer s H vs Q E hr h => ?_)
  · obtain ⟨z, rfl, _⟩ := h
    rfl
  obtain ⟨z, rfl, q⟩ := h
  refine ⟨_, (pss_cons (ps_for PassesOwn.never rfl (pi_str (pv 0)) (pg_name (i := 1) sc_may_stand.nd rfl (Or.inl rfl)) (pss_cons (ps_if (PW.pt (pw_and (pt_cmpR op_ne (pv 1) pe_str (nomark _)) (pw_and1 (pt_not (pt_chain op_le_str op_le_str pe_str (pv 1) pe_str))))) (pss_one (ps_ret pe_bl)) pss_nil)
    (pss_one (ps_if (pt_cmpR op_eq (pe_callB call_ord (by rfl) T.ord (by decide +kernel) (pa_cons (pv 1) pa_nil)) (pe_glob (v := .int 37) (by rfl) T.g_PERCENT ⟨_, rfl⟩) (nomark _)) (pss_one (ps_ret pe_bl)) pss_nil))))
    (pss_one (ps_ret pe_bl))), ?_⟩
  refine ⟨_, rfl, z, rfl, for_str (x := z) (fun i σ H' => H' = H ∧ ∃ v, σ = [some (.str z), v] ∧ ((tl z).take i).all okc = true) ⟨rfl, none, rfl, by rw [List.take_zero]; rfl⟩ ?_ ?_⟩
  · rintro i c σ H' hi ⟨rfl, v, rfl, hk⟩
    have bad : okc c = false → Q (.bl false) H' := fun hc => by
      have e : (tl z).all okc = false := by
        rw [List.all_eq_false]
        exact ⟨c, List.mem_of_getElem? hi, by rw [hc]; exact Bool.false_ne_true⟩
      rw [e] at q
      exact q
    have good : okc c = true → ((tl z).take (i + 1)).all okc = true := fun hc => by
      rw [List.take_add_one, show (tl z)[i]? = some c from hi, List.all_append, hk]
      simp [hc]
    refine ⟨_, rfl, rfl, _, rfl, ?_⟩
    have rest : ¬ (c = 37 ∧ False) → (c = 10 ∨ 32 ≤ c ∧ c ≤ 126) → (c ≠ 37 → okc c = true) := fun _ h h37 => (okc_iff c).mpr (by omega)
    by_cases h10 : c = 10
    · refine iteNS (str_one.mpr h10) ?_
      refine ⟨_, rfl, _, rfl, rfl, rfl, _, rfl, ite2 (fun e => ?_) (fun e => ⟨rfl, _, rfl, good ((okc_iff c).mpr (.inl h10))⟩)⟩
      exact absurd (of_decide_eq_true e) (by rw [h10]; decide)
    · refine iteNN (fun k => h10 (str_one.mp k)) ?_
      refine ⟨_, rfl, _, _, rfl, rfl, _, rfl, ?_⟩
      rw [sp_eq, le_sg]
      by_cases h1 : 32 ≤ c
      · refine iteP h1 ?_
        refine ⟨_, _, rfl, rfl, _, rfl, ?_⟩
        rw [til_eq, le_sg]
        by_cases h2 : c ≤ 126
        · refine iteNS h2 ?_
          refine ⟨_, rfl, _, rfl, rfl, rfl, _, rfl, ite2 (fun e => ?_) (fun e => ?_)⟩
          · have e : V.int (c : Int) = V.int 37 := of_decide_eq_true e
            injection e with e
            refine bad ?_
            have : c = 37 := by omega
            rw [this]
            rfl
          · refine ⟨rfl, _, rfl, good ((okc_iff c).mpr (.inr ⟨h1, h2, fun k => e (decide_eq_true ?_)⟩))⟩
            rw [k]
            rfl
        · refine iteNN h2 ?_
          exact bad (Bool.eq_false_iff.mpr fun k => by have := (okc_iff c).mp k; omega)
      · refine iteN h1 ?_
        refine ⟨_, rfl, ?_⟩
        exact bad (Bool.eq_false_iff.mpr fun k => by have := (okc_iff c).mp k; omega)
  · rintro σ H' ⟨rfl, v, rfl, hk⟩
    rw [show List.take z.cps.toList.length (tl z) = tl z from List.take_length] at hk
    rw [hk] at q
    exact q
end

end Sn

namespace Sn
open PySem PySem.Spec PyProof.Rows L2 TL
section
variable {P : Program} {w : World} {K : PySem.W.Frag} {mg : Str → Option Value} {base : Heap} {f : Addr} {fd : FuncData} {C : Addr} {tL tP : PySem.Tok}
theorem jgo_cons (z : List Nat) (d : Nat) (s e : Int) (n : List Nat) (r : List (Int × Int × List Nat)) (h : (d : Int) ≤ s ∧ s ≤ e ∧ e ≤ (z.length : Int) ∧ n.all okc = true) :
    jgo z d ((s, e, n) :: r) = (jgo z e.toNat r).map fun t => (z.drop d).take (s.toNat - d) ++ (n ++ t) := by
  show (if _ then _ else _) = _
  rw [if_pos h]
theorem jgo_bad (z : List Nat) (d : Nat) (s e : Int) (n : List Nat) (r : List (Int × Int × List Nat)) (h : ¬ ((d : Int) ≤ s ∧ s ≤ e ∧ e ≤ (z.length : Int) ∧ n.all okc = true)) :
    jgo z d ((s, e, n) :: r) = none := by
  show (if _ then _ else _) = _
  rw [if_neg h]
theorem joint_none {z : List Nat} {l : List (Int × Int × List Nat)} (h : jgo z 0 l = none) : joint z l = none := by
  unfold joint
  rw [h]
theorem joint_some {z r : List Nat} {l : List (Int × Int × List Nat)} (h : jgo z 0 l = some r) : joint z l = if r.length ≤ 4000 then some r else none := by
  unfold joint
  rw [h]
theorem news_take {eds : List (Int × Int × Str)} {i : Nat} {s e : Int} {n : Str} (h : eds[i]? = some (s, e, n)) : news (eds.take (i + 1)) = news (eds.take i) + n.length := by
  unfold news
  rw [List.take_add_one, h, List.map_append, List.sum_append]
  rfl
theorem news_le (eds : List (Int × Int × Str)) (i : Nat) : news (eds.take i) ≤ news eds := by
  conv => rhs; rw [← List.take_append_drop i eds]
  unfold news
  rw [List.map_append, List.sum_append]
  omega
theorem cutS_len (z : Str) (a b : Nat) (h : a ≤ (tl z).length) : (cutS z (some (a : Int)) (some (b : Int))).length ≤ b - a := by
  rw [len_tl, tl_cut_mid z a b h, List.length_take]
  omega
theorem cutS_len_from (z : Str) (a : Nat) : (cutS z (some (a : Int)) none).length = (tl z).length - a := by
  rw [len_tl, tl_cut_from, List.length_drop]
abbrev s_apply_joint : Stmt := topS 7
abbrev N_apply_joint : List Str := ["text", "edits", "parts", "done", "start", "end", "new", "result"]
theorem sc_apply_joint : FnScope N_apply_joint ["text", "edits"] (defScope s_apply_joint) := ⟨rfl, rfl, rfl, by decide +kernel, rfl, by decide +kernel, by decide +kernel⟩
theorem ok_apply_joint (F : Fun K "apply_joint" "apply_joint" s_apply_joint f fd) (T : NmJ K mg C tL tP) (C_may_stand : Cal P w K mg base CX0 1 "may_stand" spMay) : FnOk P w K mg base (L2N.CX P w) 2 f fd ["text", "edits"] (spJoint C) := by
  refine okXN F sc_apply_joint (fun vs H Q E h => ?_) (fun cdv A outer s H vs Q E hr h => ?_)
  · obtain ⟨z, le, eds, rfl, _⟩ := h
    rfl
  obtain ⟨z, le, eds, rfl, ⟨rs, hle, hrl, hrs⟩, hz, hel, hnl, kQ, kE⟩ := h
  refine ⟨_, (pss_cons (ps_set (i := 2) sc_apply_joint.nd rfl (Or.inl rfl) (pe_lst pa_nil))
    (pss_cons (ps_set (i := 3) sc_apply_joint.nd rfl (Or.inl rfl) pe_int)
    (pss_cons (ps_for (passes_of rfl) rfl (pi_list (pv 1)) (pg_tup rfl (pgs_cons (pg_name (i := 4) sc_apply_joint.nd rfl (Or.inl rfl)) (pgs_cons (pg_name (i := 5) sc_apply_joint.nd rfl (Or.inl rfl)) (pgs_cons (pg_name (i := 6) sc_apply_joint.nd rfl (Or.inl rfl)) pgs_nil)))) (pss_cons (ps_if (pt_not (pt_chain3 op_le op_le op_le (pv 3) (pv 4) (pv 5) (pe_callB call_len_str (by rfl) T.len PySem.boot_len (pa_cons (pv 0) pa_nil)))) (pss_one (L2N.ps_raise rfl (L2N.takes_of rfl rfl rfl rfl) (L2N.pmk_own PySem.F.excBase_ValueError T.xI T.c_InvalidEdit T.kI (raises_own T.bI T.tI) rfl))) pss_nil)
    (pss_cons (ps_if (pt_not (pt_val (pe_c C_may_stand hr (by first | decide | omega) pass0 (pa_cons (pv 6) pa_nil)))) (pss_one (L2N.ps_raise rfl (L2N.takes_of rfl rfl rfl rfl) (L2N.pmk_own PySem.F.excBase_ValueError T.xI T.c_InvalidEdit T.kI (raises_own T.bI T.tI) rfl))) pss_nil)
    (pss_cons (ps_expr (pe_bm PySem.F.plainAttrs_list PySem.F.slot_list_append PySem.F.type_list_append mt_append (pv 2) (pa_cons (pe_slice sl_str (pv 0) (po_some (pv 3)) (po_some (pv 4))) pa_nil)))
    (pss_cons (ps_expr (pe_bm PySem.F.plainAttrs_list PySem.F.slot_list_append PySem.F.type_list_append mt_append (pv 2) (pa_cons (pv 6) pa_nil)))
    (pss_one (ps_set (i := 3) sc_apply_joint.nd rfl (Or.inl rfl) (pv 5))))))))
    (pss_cons (ps_expr (pe_bm PySem.F.plainAttrs_list PySem.F.slot_list_append PySem.F.type_list_append mt_append (pv 2) (pa_cons (pe_slice sl_str (pv 0) (po_some (pv 3)) po_none) pa_nil)))
    (pss_cons (ps_set (i := 7) sc_apply_joint.nd rfl (Or.inl rfl) (pe_join pe_str (pv 2)))
    (pss_cons (ps_if (pt_cmpR op_gt (pe_callB call_len_str (by rfl) T.len PySem.boot_len (pa_cons (pv 7) pa_nil)) (pe_glob (v := .int 4000) (by rfl) T.g_LONGEST ⟨_, rfl⟩) (nomark _)) (pss_one (L2N.ps_raise rfl (L2N.takes_of rfl rfl rfl rfl) (L2N.pmk_own PySem.F.excBase_ValueError T.xI T.c_InvalidEdit T.kI (raises_own T.bI T.tI) rfl))) pss_nil)
    (pss_one (ps_ret (pv 7))))))))), ?_⟩
  have hz' : (tl z).length ≤ 1000000 := by rw [← len_tl]; exact hz
  refine ⟨Nat.zero_le _, fun L nL => ?_⟩
  refine ⟨_, rfl, le, rfl, ⟨_, .inl (.inl (same_new nL _ _ hle))⟩, for_list (K := K) (a := le) (xs := rs.map V.ref) (fun i σ H' => ∃ (d : Nat) (ps : List Str) (v4 v5 v6 : Option V), σ = [some (.str z), some (.ref le), some (.ref L), some (.int (d : Int)), v4, v5, v6, none] ∧
      Same H H' ∧ H' L = some (.lst (ps.map V.str)) ∧ ps.length = 2 * i ∧ d ≤ (tl z).length ∧ (ps.map (·.length)).sum ≤ d + news (eds.take i) ∧ jgo (tl z) 0 (edl eds) = (jgo (tl z) d ((edl eds).drop i)).map fun t => (ps.map tl).flatten ++ t)
    ⟨0, [], none, none, none, rfl, same_new nL, upd_same, rfl, Nat.zero_le _, Nat.zero_le _, by rw [List.drop_zero]; simp⟩ (fun i σ H' _ ⟨_, _, _, _, _, _, sm, _⟩ => .inl (.inl (sm _ _ hle))) ?_ ?_⟩
  · rintro i x σ H' hi ⟨d, ps, v4, v5, v6, rfl, sm, hL, hpl, hd, hsum, hj⟩
    obtain ⟨r, hri, rfl⟩ : ∃ r, rs[i]? = some r ∧ x = V.ref r := by
      rw [List.getElem?_map] at hi
      cases e : rs[i]? with
      | none => rw [e] at hi; cases hi
      | some u => rw [e] at hi; exact ⟨u, rfl, (Option.some.inj hi).symm⟩
    have hi1 : i < eds.length := by
      rw [← hrl]
      exact (List.getElem?_eq_some_iff.mp hri).1
    obtain ⟨⟨st, en, nw⟩, hei⟩ : ∃ x, eds[i]? = some x := ⟨_, List.getElem?_eq_getElem hi1⟩
    have hr3 := sm _ _ (hrs i r st en nw hri hei)
    have hdrop : (edl eds).drop i = (st, en, tl nw) :: (edl eds).drop (i + 1) := by
      have h1 : i < (edl eds).length := by unfold edl; rw [List.length_map]; exact hi1
      have h2 : (edl eds)[i]? = some (st, en, tl nw) := by unfold edl; rw [List.getElem?_map, hei]; rfl
      rw [List.drop_eq_getElem_cons h1]
      congr 1
      exact Option.some.inj ((List.getElem?_eq_getElem h1).symm.trans h2)
    rw [hdrop] at hj
    have bad : ¬ ((d : Int) ≤ st ∧ st ≤ en ∧ en ≤ ((tl z).length : Int) ∧ (tl nw).all okc = true) → E (.ref C) none H' := fun hb => kE H' (joint_none (by rw [hj, jgo_bad _ _ _ _ _ _ hb]; rfl)) sm
    have hlen : z.length = (tl z).length := len_tl z
    refine ⟨r, _, rfl, .inl (.inl hr3), rfl, _, _, rfl, _, _, rfl, _, _, rfl, rfl, ?_⟩
    refine ⟨_, rfl, _, rfl, _, _, rfl, rfl, _, rfl, ?_⟩
    by_cases h1 : (d : Int) ≤ st
    rotate_left
    · exact iteN h1 ⟨_, rfl, bad fun k => h1 k.1⟩
    refine iteP h1 ⟨_, rfl, _, _, rfl, rfl, _, rfl, ?_⟩
    by_cases h2 : st ≤ en
    rotate_left
    · exact iteN h2 ⟨_, rfl, bad fun k => h2 k.2.1⟩
    refine iteP h2 ⟨_, rfl, z, rfl, small hz, _, _, rfl, rfl, _, rfl, ?_⟩
    by_cases h3 : en ≤ (z.length : Int)
    rotate_left
    · exact iteNN h3 (bad fun k => h3 (by omega))
    refine iteNS h3 ?_
    refine ⟨_, rfl, nw, rfl, _, rfl, ?_⟩
    by_cases h4 : (tl nw).all okc = true
    rotate_left
    · rw [Bool.eq_false_iff.mpr h4]
      exact bad fun k => h4 k.2.2.2
    rw [h4]
    obtain ⟨sn, rfl⟩ := nat_of (o := st) (by omega)
    obtain ⟨nn, rfl⟩ := nat_of (o := en) (by omega)
    have hn : nw.length ≤ news eds := by
      have k1 := news_take hei
      have k2 := news_le eds (i + 1)
      omega
    have c1 : (ps.map V.str).length < sizeLine := by
      rw [List.length_map]
      exact Nat.lt_of_le_of_lt (show ps.length ≤ 2000 by omega) (by decide)
    -- parts.append(text[done:start])
    refine ⟨_, rfl, .inl ⟨rfl, _, SqL.of hL⟩, _, rfl, _, rfl, _, rfl, _, rfl, _, rfl, z, rfl, small hz, L, _, _, rfl, rfl, hL, c1, ?_⟩
    -- parts.append(new)
    have e1 : upd H' L (.lst (ps.map V.str ++ [.str (cutS z (some (d : Int)) (some (sn : Int)))])) L = some (.lst ((ps ++ [cutS z (some (d : Int)) (some (sn : Int))]).map V.str)) := by
      rw [upd_same, List.map_append] <;> rfl
    have c2 : ((ps ++ [cutS z (some (d : Int)) (some (sn : Int))]).map V.str).length < sizeLine := by
      rw [List.length_map, List.length_append, List.length_singleton]
      exact Nat.lt_of_le_of_lt (show ps.length + 1 ≤ 2001 by omega) (by decide)
    refine ⟨_, rfl, .inl ⟨rfl, _, SqL.of e1⟩, _, rfl, L, _, _, rfl, rfl, e1, c2, ?_⟩
    -- done = end
    refine ⟨_, rfl, nn, ps ++ [cutS z (some (d : Int)) (some (sn : Int)), nw], _, _, _, rfl, fun b o eb => ?_, ?_, ?_, by omega, ?_, ?_⟩
    · have nb : b ≠ L := ne_of_none eb nL
      rw [upd_ne nb, upd_ne nb]
      exact sm _ _ eb
    · rw [upd_same, List.map_append, List.map_append, List.append_assoc] <;> rfl
    · rw [List.length_append]
      show ps.length + 2 = 2 * (i + 1)
      omega
    · rw [List.map_append, List.sum_append, news_take hei]
      have k := cutS_len z d sn hd
      show _ + ((cutS z (some (d : Int)) (some (sn : Int))).length + (nw.length + 0)) ≤ _
      omega
    · rw [hj, jgo_cons _ _ _ _ _ _ ⟨h1, h2, by omega, h4⟩, Option.map_map, Int.toNat_natCast, Int.toNat_natCast]
      refine congrArg (fun g => Option.map g _) (funext fun t => ?_)
      show (ps.map tl).flatten ++ (((tl z).drop d).take (sn - d) ++ (tl nw ++ t)) = ((ps ++ [cutS z (some (d : Int)) (some (sn : Int)), nw]).map tl).flatten ++ t
      rw [List.map_append, List.flatten_append]
      show _ = _ ++ (tl (cutS z (some (d : Int)) (some (sn : Int))) ++ (tl nw ++ [])) ++ t
      rw [tl_cut_mid z d sn hd, List.append_nil]
      simp only [List.append_assoc]
  · rintro σ H' ⟨d, ps, v4, v5, v6, rfl, sm, hL, hpl, hd, hsum, hj⟩
    rw [List.length_map, hrl] at hpl hj hsum
    have hdn : (edl eds).drop eds.length = [] := List.drop_eq_nil_of_le (by unfold edl; rw [List.length_map]; exact Nat.le_refl _)
    rw [List.take_length] at hsum
    have c1 : (ps.map V.str).length < sizeLine := by
      rw [List.length_map]
      exact Nat.lt_of_le_of_lt (show ps.length ≤ 2000 by omega) (by decide)
    -- parts.append(text[done:])
    refine ⟨_, rfl, .inl ⟨rfl, _, SqL.of hL⟩, _, rfl, _, rfl, _, rfl, z, rfl, small hz, L, _, _, rfl, rfl, hL, c1, ?_⟩
    have e1 : upd H' L (.lst (ps.map V.str ++ [.str (cutS z (some (d : Int)) none)])) L = some (.lst ((ps ++ [cutS z (some (d : Int)) none]).map V.str)) := by
      rw [upd_same, List.map_append] <;> rfl
    have s2 : Same H (upd H' L (.lst (ps.map V.str ++ [.str (cutS z (some (d : Int)) none)]))) := fun b o eb => by
      rw [upd_ne (ne_of_none eb nL)]
      exact sm _ _ eb
    have hlast := cutS_len_from z d
    have hsum2 : ((ps ++ [cutS z (some (d : Int)) none]).map (·.length)).sum ≤ 2000000 := by
      rw [List.map_append, List.sum_append]
      show _ + ((cutS z (some (d : Int)) none).length + 0) ≤ _
      omega
    have htl : tl (Txt.join ("" : Str) (ps ++ [cutS z (some (d : Int)) none])) = (ps.map tl).flatten ++ (tl z).drop d := by
      rw [tl_join0 _ rfl, List.map_append, List.flatten_append]
      show _ ++ (tl (cutS z (some (d : Int)) none) ++ []) = _
      rw [tl_cut_from, List.append_nil]
    have hj2 : jgo (tl z) 0 (edl eds) = some ((ps.map tl).flatten ++ (tl z).drop d) := by
      rw [hj, hdn]
      rfl
    have hjl := join_len ("" : Str) rfl (ps ++ [cutS z (some (d : Int)) none])
    -- result
    refine ⟨⟨_, rfl⟩, _, rfl, _, L, _, rfl, rfl, .inl (.inl (.inl e1)), ?_, ?_⟩
    · show ((ps ++ [cutS z (some (d : Int)) none]).map (·.length)).sum + (ps ++ [cutS z (some (d : Int)) none]).length * 0 ≤ 16777216
      omega
    generalize Txt.join ("" : Str) (ps ++ [cutS z (some (d : Int)) none]) = R at htl hjl ⊢
    have hRl : R.length = ((ps.map tl).flatten ++ (tl z).drop d).length := by rw [len_tl, htl]
    refine ⟨_, rfl, R, rfl, Nat.le_trans (show R.length ≤ 2000000 by omega) (by decide), _, _, rfl, rfl, _, rfl, ite2 (fun e => ?_) (fun e => ?_)⟩
    · have e : (4000 : Int) < (R.length : Int) := of_decide_eq_true e
      refine kE _ ?_ s2
      rw [joint_some hj2, if_neg (by omega)]
    · have e : ¬ (4000 : Int) < (R.length : Int) := fun k => e (decide_eq_true k)
      refine ⟨_, rfl, ?_⟩
      have er : R = strL ((ps.map tl).flatten ++ (tl z).drop d) := ext_tl htl
      rw [er]
      exact kQ _ _ (by rw [joint_some hj2, if_pos (by omega)]) s2
abbrev s_apply_edit : Stmt := topS 8
abbrev N_apply_edit : List Str := ["text", "edit"]
theorem sc_apply_edit : FnScope N_apply_edit ["text", "edit"] (defScope s_apply_edit) := ⟨rfl, rfl, rfl, by decide +kernel, rfl, by decide +kernel, by decide +kernel⟩
theorem ok_apply_edit (F : Fun K "apply_edit" "apply_edit" s_apply_edit f fd) (T : NmJ K mg C tL tP) (C_apply_joint : Cal P w K mg base (L2N.CX P w) 2 "apply_joint" (spJoint C)) : FnOk P w K mg base (L2N.CX P w) 3 f fd ["text", "edit"] (spEdit C) := by
  refine okXN F sc_apply_edit (fun vs H Q E h => ?_) (fun cdv A outer s H vs Q E hr h => ?_)
  · obtain ⟨z, ed, st, e, n, rfl, _⟩ := h
    rfl
  obtain ⟨z, ed, st, e, n, rfl, hed, hz, hn, kQ, kE⟩ := h
  refine ⟨_, (pss_one (ps_ret (pe_c C_apply_joint hr (by first | decide | omega) (L2N.passes_call (L2N.takes_of rfl rfl rfl rfl) (fun _ _ _ _ h => h)) (pa_cons (pv 0) (pa_cons (pe_lst (pa_cons (pv 1) pa_nil)) pa_nil))))), ?_⟩
  refine ⟨_, rfl, _, rfl, (by show 1 ≤ sizeLine; decide), fun L nL => ?_⟩
  have s1 : Same H (upd H L (.lst [.ref ed])) := same_new nL
  refine ⟨z, L, [(st, e, n)], rfl, ⟨[ed], upd_same, rfl, fun i r s' e' n' p q => ?_⟩, hz, (by show 1 ≤ 1000; decide), (by show n.length + 0 ≤ 1000000; omega), fun r H' hj sm => kQ r H' hj (s1.trans sm), fun H' hj sm => kE H' hj (s1.trans sm)⟩
  cases i with
  | zero =>
    cases p
    cases q
    exact s1 _ _ hed
  | succ i => cases p
end

end Sn

namespace Sn
open PySem PySem.Spec PyProof.Rows L2 TL
/-! ### one edit -/
/-- it fits -/
def Fits (z : List Nat) (s e : Int) (n : List Nat) : Prop := 0 ≤ s ∧ s ≤ e ∧ e ≤ (z.length : Int) ∧ n.all okc = true ∧ (z.length : Int) - (e - s) + n.length ≤ 4000
instance (z : List Nat) (s e : Int) (n : List Nat) : Decidable (Fits z s e n) := by unfold Fits; exact inferInstance
theorem joint_one (z : List Nat) (s e : Int) (n : List Nat) : joint z [(s, e, n)] = if Fits z s e n then some (z.take s.toNat ++ (n ++ z.drop e.toNat)) else none := by
  by_cases h : ((0 : Nat) : Int) ≤ s ∧ s ≤ e ∧ e ≤ (z.length : Int) ∧ n.all okc = true
  · have e1 : jgo z 0 [(s, e, n)] = some (z.take s.toNat ++ (n ++ z.drop e.toNat)) := by
      rw [jgo_cons _ _ _ _ _ _ h]
      rfl
    rw [joint_some e1]
    have hl : (z.take s.toNat ++ (n ++ z.drop e.toNat)).length = s.toNat + (n.length + (z.length - e.toNat)) := by
      rw [List.length_append, List.length_append, List.length_take, List.length_drop]
      omega
    by_cases h2 : Fits z s e n
    · rw [if_pos h2, if_pos (by have := h2.2.2.2.2; omega)]
    · rw [if_neg h2, if_neg fun k => h2 ⟨h.1, h.2.1, h.2.2.1, h.2.2.2, by omega⟩]
  · rw [joint_none (jgo_bad _ _ _ _ _ _ h), if_neg fun k => h ⟨k.1, k.2.1, k.2.2.1, k.2.2.2.1⟩]
theorem take_all {z : List Nat} {p : Nat → Bool} (h : z.all p = true) (k : Nat) : (z.take k).all p = true := List.all_eq_true.mpr fun x hx => List.all_eq_true.mp h x (List.mem_of_mem_take hx)
theorem drop_all {z : List Nat} {p : Nat → Bool} (h : z.all p = true) (k : Nat) : (z.drop k).all p = true := List.all_eq_true.mpr fun x hx => List.all_eq_true.mp h x (List.mem_of_mem_drop hx)
/-- the inverse of an edit gives the text back -/
theorem joint_back {z n : List Nat} {s e : Nat} (h : Fits z s e n) (hz : z.all okc = true) (hl : z.length ≤ 4000) :
    joint (z.take s ++ (n ++ z.drop e)) [((s : Int), (s : Int) + (n.length : Int), (z.drop s).take (e - s))] = some z := by
  obtain ⟨h1, h2, h3, h4, h5⟩ := h
  have l1 : (z.take s).length = s := by rw [List.length_take]; omega
  have l2 : (z.take s ++ (n ++ z.drop e)).length = s + (n.length + (z.length - e)) := by rw [List.length_append, List.length_append, l1, List.length_drop]
  have l3 : ((z.drop s).take (e - s)).length = e - s := by rw [List.length_take, List.length_drop]; omega
  have e1 : ((s : Int) + (n.length : Int)).toNat = s + n.length := by omega
  have d1 : (z.take s ++ (n ++ z.drop e)).drop (s + n.length) = z.drop e := by
    rw [← List.append_assoc]
    exact List.drop_left' (by rw [List.length_append, l1])
  have d2 : (z.take s ++ (n ++ z.drop e)).take s = z.take s := List.take_left' l1
  have d3 : z.take s ++ ((z.drop s).take (e - s) ++ z.drop e) = z := by
    have e3 : z.drop e = (z.drop s).drop (e - s) := by rw [List.drop_drop, show s + (e - s) = e by omega]
    rw [e3, List.take_append_drop, List.take_append_drop]
  rw [joint_one, if_pos ⟨h1, by omega, by omega, take_all (drop_all hz _) _, by omega⟩, e1, Int.toNat_natCast, d1, d2, d3]

end Sn

namespace Sn
open PySem PySem.Spec PyProof.Rows L2 TL
/-! ### copies -/
/-- equal data, none of which stands at an address of S -/
def AlS (S : Addr → Prop) (H : Hp) : Nat → V → V → Prop
  | 0, _, _ => False
  | n + 1, x, y => (x = y ∧ sca x = true) ∨
    (∃ a b xs ys, x = .ref a ∧ y = .ref b ∧ ¬ S a ∧ ¬ S b ∧ H a = some (.tup xs) ∧ H b = some (.tup ys) ∧ xs.length = ys.length ∧ xs.length ≤ 1000000 ∧ ∀ (i : Nat) (u v : V), xs[i]? = some u → ys[i]? = some v → AlS S H n u v) ∨
    (∃ a b xs ys, x = .ref a ∧ y = .ref b ∧ ¬ S a ∧ ¬ S b ∧ H a = some (.lst xs) ∧ H b = some (.lst ys) ∧ xs.length = ys.length ∧ xs.length ≤ 1000000 ∧ ∀ (i : Nat) (u v : V), xs[i]? = some u → ys[i]? = some v → AlS S H n u v)
/-- heaps that agree but at S -/
def SameS (S : Addr → Prop) (H H' : Hp) : Prop := ∀ b o, ¬ S b → H b = some o → H' b = some o
theorem AlS.same {S : Addr → Prop} {H H' : Hp} (s : SameS S H H') : ∀ {n : Nat} {x y : V}, AlS S H n x y → AlS S H' n x y
  | 0, _, _, h => h
  | n + 1, x, y, h => by
    rcases h with h | ⟨a, b, xs, ys, e1, e2, g1, g2, h1, h2, hl, hm, h⟩ | ⟨a, b, xs, ys, e1, e2, g1, g2, h1, h2, hl, hm, h⟩
    · exact .inl h
    · exact .inr (.inl ⟨a, b, xs, ys, e1, e2, g1, g2, s _ _ g1 h1, s _ _ g2 h2, hl, hm, fun i u v p q => AlS.same s (h i u v p q)⟩)
    · exact .inr (.inr ⟨a, b, xs, ys, e1, e2, g1, g2, s _ _ g1 h1, s _ _ g2 h2, hl, hm, fun i u v p q => AlS.same s (h i u v p q)⟩)
theorem AlS.al {S : Addr → Prop} {H : Hp} : ∀ {n : Nat} {x y : V}, AlS S H n x y → Al H n x y
  | 0, _, _, h => h
  | n + 1, x, y, h => by
    rcases h with h | ⟨a, b, xs, ys, e1, e2, g1, g2, h1, h2, hl, hm, h⟩ | ⟨a, b, xs, ys, e1, e2, g1, g2, h1, h2, hl, hm, h⟩
    · exact .inl h
    · exact .inr (.inl ⟨a, b, xs, ys, e1, e2, h1, h2, hl, hm, fun i u v p q => (h i u v p q).al⟩)
    · exact .inr (.inr ⟨a, b, xs, ys, e1, e2, h1, h2, hl, hm, fun i u v p q => (h i u v p q).al⟩)
theorem AlS.of {H : Hp} : ∀ {n : Nat} {x y : V}, Al H n x y → AlS (fun _ => False) H n x y
  | 0, _, _, h => h
  | n + 1, x, y, h => by
    rcases h with h | ⟨a, b, xs, ys, e1, e2, h1, h2, hl, hm, h⟩ | ⟨a, b, xs, ys, e1, e2, h1, h2, hl, hm, h⟩
    · exact .inl h
    · exact .inr (.inl ⟨a, b, xs, ys, e1, e2, id, id, h1, h2, hl, hm, fun i u v p q => .of (h i u v p q)⟩)
    · exact .inr (.inr ⟨a, b, xs, ys, e1, e2, id, id, h1, h2, hl, hm, fun i u v p q => .of (h i u v p q)⟩)
/-- a place that is free is none of the data's -/
theorem AlS.more {S : Addr → Prop} {H : Hp} {D : Addr} (hD : H D = none) : ∀ {n : Nat} {x y : V}, AlS S H n x y → AlS (fun a => S a ∨ a = D) H n x y
  | 0, _, _, h => h
  | n + 1, x, y, h => by
    have no : ∀ {a : Addr} {o : HO}, ¬ S a → H a = some o → ¬ (S a ∨ a = D) := fun {a o} g e k => k.elim g fun z => by rw [z, hD] at e; cases e
    rcases h with h | ⟨a, b, xs, ys, e1, e2, g1, g2, h1, h2, hl, hm, h⟩ | ⟨a, b, xs, ys, e1, e2, g1, g2, h1, h2, hl, hm, h⟩
    · exact .inl h
    · exact .inr (.inl ⟨a, b, xs, ys, e1, e2, no g1 h1, no g2 h2, h1, h2, hl, hm, fun i u v p q => AlS.more hD (h i u v p q)⟩)
    · exact .inr (.inr ⟨a, b, xs, ys, e1, e2, no g1 h1, no g2 h2, h1, h2, hl, hm, fun i u v p q => AlS.more hD (h i u v p q)⟩)
theorem AlS.less {S : Addr → Prop} {H : Hp} {D : Addr} : ∀ {n : Nat} {x y : V}, AlS (fun a => S a ∨ a = D) H n x y → AlS S H n x y
  | 0, _, _, h => h
  | n + 1, x, y, h => by
    rcases h with h | ⟨a, b, xs, ys, e1, e2, g1, g2, h1, h2, hl, hm, h⟩ | ⟨a, b, xs, ys, e1, e2, g1, g2, h1, h2, hl, hm, h⟩
    · exact .inl h
    · exact .inr (.inl ⟨a, b, xs, ys, e1, e2, fun k => g1 (.inl k), fun k => g2 (.inl k), h1, h2, hl, hm, fun i u v p q => AlS.less (h i u v p q)⟩)
    · exact .inr (.inr ⟨a, b, xs, ys, e1, e2, fun k => g1 (.inl k), fun k => g2 (.inl k), h1, h2, hl, hm, fun i u v p q => AlS.less (h i u v p q)⟩)
def spCopy (n : Nat) : Sp := fun vs H Q _ => ∃ x, vs = [x] ∧ Al H n x x ∧ ∀ y H', Same H H' → (∀ S : Addr → Prop, (∀ a, S a → H a ≠ none) → AlS S H n x x → AlS S H' n x y) → Q y H'
structure NmC (mg : Str → Option Value) : Prop extends Nm mg where
  dict_ : mg "dict" = none
section
variable {P : Program} {w : World} {K : PySem.W.Frag} {mg : Str → Option Value} {base : Heap} {f : Addr} {fd : FuncData}
/-- the items' copies in the list at D so far -/
structure CpI (H : Hp) (n : Nat) (xs : List V) (D : Addr) (i : Nat) (H' : Hp) : Prop where
  sm : Same H H'
  ex : ∃ ys : List V, H' D = some (.lst ys) ∧ ys.length = i ∧ ∀ S : Addr → Prop, (∀ a, S a → H a ≠ none) → ∀ (j : Nat) (u v : V), xs[j]? = some u → ys[j]? = some v → AlS S H n u u → AlS (fun a => S a ∨ a = D) H' n u v
theorem CpI.start {H : Hp} {n : Nat} {xs : List V} {D : Addr} (hD : H D = none) : CpI H n xs D 0 (upd H D (.lst [])) := ⟨same_new hD, [], upd_same, rfl, fun _ _ _ _ _ _ h _ => by simp at h⟩
theorem CpI.turn {H H3 H4 : Hp} {n i : Nat} {xs : List V} {D : Addr} {x y : V} (hD : H D = none) (c : CpI H n xs D i H3) (hx : xs[i]? = some x) (hm : xs.length ≤ 1000000) (s4 : Same H3 H4) (al : ∀ S : Addr → Prop, (∀ a, S a → H3 a ≠ none) → AlS S H3 n x x → AlS S H4 n x y) :
    ∃ acc, H4 D = some (.lst acc) ∧ acc.length < sizeLine ∧ CpI H n xs D (i + 1) (upd H4 D (.lst (acc ++ [y]))) := by
  obtain ⟨sm, ys, hd, hl, h⟩ := c
  have hi : i < xs.length := (List.getElem?_eq_some_iff.mp hx).1
  refine ⟨ys, s4 _ _ hd, Nat.lt_of_lt_of_le (show ys.length < 1000000 by omega) (by decide), fun b o e => ?_, ys ++ [y], upd_same, by simp [hl], fun S hS j u v hu hv hs => ?_⟩
  · rw [upd_ne (ne_of_none e hD)]
    exact s4 _ _ (sm _ _ e)
  · have up : SameS (fun a => S a ∨ a = D) H4 (upd H4 D (.lst (ys ++ [y]))) := fun b o nb e => by
      rw [upd_ne fun z => nb (.inr z)]
      exact e
    by_cases hj : j < i
    · rw [List.getElem?_append_left (by omega)] at hv
      exact ((h S hS j u v hu hv hs).same fun b o _ e => s4 _ _ e).same up
    · have hj2 : j = i := by
        have := (List.getElem?_eq_some_iff.mp hv).1
        rw [List.length_append, List.length_singleton] at this
        omega
      subst hj2
      have e1 : u = x := Option.some.inj (hu.symm.trans hx)
      subst e1
      rw [List.getElem?_append_right (by omega), hl, Nat.sub_self] at hv
      have e2 : y = v := Option.some.inj hv
      subst e2
      have k := al (fun a => S a ∨ a = D) (fun a ha => by
        rcases ha with ha | ha
        · cases e : H a with
          | none => exact absurd e (hS a ha)
          | some o =>
            rw [sm _ _ e]
            exact fun z => nomatch z
        · rw [ha, hd]
          exact fun z => nomatch z) ((hs.more hD).same fun b o _ e => sm _ _ e)
      exact k.same up
abbrev s_copy : Stmt := topS 15
abbrev N_copy : List Str := ["thing", "result", "key", "item"]
theorem sc_copy : FnScope N_copy ["thing"] (defScope s_copy) := ⟨rfl, rfl, rfl, by decide +kernel, rfl, by decide +kernel, by decide +kernel⟩
theorem ok_copy {n : Nat} (F : Fun K "_law_copy" "_law_copy" s_copy f fd) (T : Nm mg) (dict_ : mg "dict" = none) (C_law_copy : Cal P w K mg base CX0 n "_law_copy" (spCopy n)) : FnOk P w K mg base CX0 (n + 1) f fd ["thing"] (spCopy (n + 1)) := by
  refine F.ok sc_copy (fun vs H Q E h => ?_) (fun cdv A outer s H vs Q E hr h => ?_)
  · obtain ⟨x, rfl, _⟩ := h
    rfl
  obtain ⟨x, rfl, al, q⟩ := h
  have T : NmC mg := ⟨T, dict_⟩
  refine ⟨_, (pss_cons (ps_if (pt_val (pe_callB call_isi (by rfl) T.isinstance (by decide +kernel) (pa_cons (pv 0) (pa_cons (pe_bltn (v := .ty "list") (u := .type "list") (by rfl) T.list_ (by decide +kernel) rfl) pa_nil)))) (pss_one (ps_ret (pe_lc (own := [(("item" : Str), 3)]) (g := (gName 3)) (tt := tYes) rfl sc_copy.nd (pi_list (pv 0)) (blkOk_by (N := N_copy) (sc := defScope s_copy) (by decide +kernel)) (fun _ _ _ _ _ => (pg_name (i := 3) sc_copy.nd rfl (Or.inl rfl))) (fun _ _ _ _ _ => pts_nil) (fun _ _ _ _ _ => (pe_c C_law_copy hr (by first | decide | omega) pass0 (pa_cons (pv 3) pa_nil)))))) pss_nil)
    (pss_cons (ps_if (pt_val (pe_callB call_isi (by rfl) T.isinstance (by decide +kernel) (pa_cons (pv 0) (pa_cons (pe_bltn (v := .ty "tuple") (u := .type "tuple") (by rfl) T.tuple_ (by decide +kernel) rfl) pa_nil)))) (pss_one (ps_ret (pe_callTy call_tuple_of (by rfl) T.tuple_ (by decide +kernel) (pa_cons (pe_lc (own := [(("item" : Str), 3)]) (g := (gName 3)) (tt := tYes) rfl sc_copy.nd (pi_tup (pv 0)) (blkOk_by (N := N_copy) (sc := defScope s_copy) (by decide +kernel)) (fun _ _ _ _ _ => (pg_name (i := 3) sc_copy.nd rfl (Or.inl rfl))) (fun _ _ _ _ _ => pts_nil) (fun _ _ _ _ _ => (pe_c C_law_copy hr (by first | decide | omega) pass0 (pa_cons (pv 3) pa_nil)))) pa_nil)))) pss_nil)
    (pss_cons (ps_if (pt_val (pe_callB call_isi (by rfl) T.isinstance (by decide +kernel) (pa_cons (pv 0) (pa_cons (pe_bltn (v := .ty "dict") (u := .type "dict") (by rfl) T.dict_ (by decide +kernel) rfl) pa_nil)))) (pss_cons ps_never
    (pss_cons ps_never
    (pss_one ps_never))) pss_nil)
    (pss_one (ps_ret (pv 0)))))), ?_⟩
  rcases al with ⟨_, hx⟩ | ⟨a, b, xs, ys, rfl, e, ha, _, _, hm, al⟩ | ⟨a, b, xs, ys, rfl, e, ha, _, _, hm, al⟩
  · have fin : Q x H := q x H (Same.refl H) fun S _ _ => .inl ⟨rfl, hx⟩
    have ty : ∃ t : String, TyX K H x (.type t) ∧ kitB t "list" = some false ∧ kitB t "tuple" = some false ∧ kitB t "dict" = some false := by
      cases x with
      | non => exact ⟨_, .base .non, by decide +kernel, by decide +kernel, by decide +kernel⟩
      | bl k => exact ⟨_, .base (.bl k), by decide +kernel, by decide +kernel, by decide +kernel⟩
      | int k => exact ⟨_, .base (.int k), by decide +kernel, by decide +kernel, by decide +kernel⟩
      | str k => exact ⟨_, .base (.str k), by decide +kernel, by decide +kernel, by decide +kernel⟩
      | byt z => cases hx
      | flt z => cases hx
      | ref z => cases hx
      | ty z => cases hx
    obtain ⟨t, ty, k1, k2, k3⟩ := ty
    refine ⟨_, rfl, _, _, _, _, false, rfl, .ty _, ty, kit_ty k1, _, rfl, ?_⟩
    refine ⟨_, rfl, _, _, _, _, false, rfl, .ty _, ty, kit_ty k2, _, rfl, ?_⟩
    refine ⟨_, rfl, _, _, _, _, false, rfl, .ty _, ty, kit_ty k3, _, rfl, ?_⟩
    exact ⟨_, rfl, fin⟩
  · have e : b = a := by injection e with e; exact e.symm
    subst e
    have ey : xs = ys := by rename_i h _; exact by rw [ha] at h; injection h with h; injection h
    subst ey
    refine ⟨_, rfl, _, _, _, _, false, rfl, .ty _, .base (.tup ha), kit_ty (by decide +kernel), _, rfl, ?_⟩
    refine ⟨_, rfl, _, _, _, _, true, rfl, .ty _, .base (.tup ha), kit_ty (by decide +kernel), _, rfl, ?_⟩
    refine ⟨_, rfl, b, rfl, ⟨_, .inl (.inl ha)⟩, fun D hD => ?_⟩
    refine lc_tup (K := K) (a := b) (xs := xs) (fun i H' => CpI H n xs D i H') (CpI.start hD) (fun i H' _ h => .inl (.inl (h.sm _ _ ha))) ?_ ?_
    · intro i x H' hi c
      refine ⟨rfl, ?_⟩
      refine ⟨_, rfl, x, rfl, (al i x x hi hi).same c.sm, fun y H4 s4 al4 => ?_⟩
      exact CpI.turn hD c hi hm s4 al4
    · intro H' c
      obtain ⟨sm, zs, hd, hl, h⟩ := c
      refine ⟨D, zs, rfl, .inl ⟨.inl (.inl hd), fun T nT => ?_⟩⟩
      refine q _ _ (sm.trans (same_new nT)) fun S hS as => ?_
      rcases as with ⟨_, as⟩ | ⟨a1, b1, xs1, ys1, e1, e2, g1, g2, h1, h2, _, _, as⟩ | ⟨a1, b1, xs1, ys1, e1, e2, g1, g2, h1, h2, _, _, as⟩
      · cases as
      · injection e1 with e1
        subst e1
        injection e2 with e2
        subst e2
        rw [ha] at h1 h2
        injection h1 with h1
        injection h1 with h1
        subst h1
        injection h2 with h2
        injection h2 with h2
        subst h2
        have nS : ¬ S T := fun k => hS T k (sm.free nT)
        refine .inr (.inl ⟨b, T, xs, zs, rfl, rfl, g1, nS, same_new nT _ _ (sm _ _ ha), upd_same, hl.symm, hm, fun i u v hu hv => ?_⟩)
        exact ((h S hS i u v hu hv (as i u u hu hu)).less).same fun b o _ e => same_new nT _ _ e
      · injection e1 with e1
        subst e1
        rw [ha] at h1
        cases h1
  · have e : b = a := by injection e with e; exact e.symm
    subst e
    have ey : xs = ys := by rename_i h _; exact by rw [ha] at h; injection h with h; injection h
    subst ey
    refine ⟨_, rfl, _, _, _, _, true, rfl, .ty _, .base (.lst ha), kit_ty (by decide +kernel), _, rfl, ?_⟩
    refine ⟨_, rfl, b, rfl, ⟨_, .inl (.inl ha)⟩, fun D hD => ?_⟩
    refine lc_list (K := K) (a := b) (xs := xs) (fun i H' => CpI H n xs D i H') (CpI.start hD) (fun i H' _ h => .inl (.inl (h.sm _ _ ha))) ?_ ?_
    · intro i x H' hi c
      refine ⟨rfl, ?_⟩
      refine ⟨_, rfl, x, rfl, (al i x x hi hi).same c.sm, fun y H4 s4 al4 => ?_⟩
      exact CpI.turn hD c hi hm s4 al4
    · intro H' c
      obtain ⟨sm, zs, hd, hl, h⟩ := c
      refine q _ _ sm fun S hS as => ?_
      rcases as with ⟨_, as⟩ | ⟨a1, b1, xs1, ys1, e1, e2, g1, g2, h1, h2, _, _, as⟩ | ⟨a1, b1, xs1, ys1, e1, e2, g1, g2, h1, h2, _, _, as⟩
      · cases as
      · injection e1 with e1
        subst e1
        rw [ha] at h1
        cases h1
      · injection e1 with e1
        subst e1
        injection e2 with e2
        subst e2
        rw [ha] at h1 h2
        injection h1 with h1
        injection h1 with h1
        subst h1
        injection h2 with h2
        injection h2 with h2
        subst h2
        refine .inr (.inr ⟨b, D, xs, zs, rfl, rfl, g1, fun k => hS D k hD, sm _ _ ha, hd, hl.symm, hm, fun i u v hu hv => ?_⟩)
        exact (h S hS i u v hu hv (as i u u hu hu)).less
theorem no_copy0 : ∀ vs H Q E, ¬ spCopy 0 vs H Q E := fun vs H Q E h => by
  obtain ⟨x, _, al, _⟩ := h
  exact al
theorem copies {f : Addr} {fd : FuncData} (F : Fun K "_law_copy" "_law_copy" s_copy f fd) (b : Binds K fd ["thing"] []) (m : mg "_law_copy" = some (.ref f)) (T : Nm mg) (dict_ : mg "dict" = none) : ∀ n, Cal P w K mg base CX0 n "_law_copy" (spCopy n)
  | 0 => ⟨f, fd, _, none_left no_copy0, m, F.kp, b⟩
  | n + 1 => ⟨f, fd, _, ok_copy F T dict_ (copies F b m T dict_ n), m, F.kp, b⟩
end

end Sn

namespace Sn
open PySem PySem.Spec PyProof.Rows L2 TL
/-! ### joint edits, one by one from behind -/
abbrev stp (x : Int × Int × List Nat) (T : List Nat) : List Nat := T.take x.1.toNat ++ (x.2.2 ++ T.drop x.2.1.toNat)
theorem jgo_inv {z : List Nat} {d : Nat} {s e : Int} {n t : List Nat} {r : List (Int × Int × List Nat)} (h : jgo z d ((s, e, n) :: r) = some t) :
    ((d : Int) ≤ s ∧ s ≤ e ∧ e ≤ (z.length : Int) ∧ n.all okc = true) ∧ ∃ t', jgo z e.toNat r = some t' ∧ t = (z.drop d).take (s.toNat - d) ++ (n ++ t') := by
  by_cases c : (d : Int) ≤ s ∧ s ≤ e ∧ e ≤ (z.length : Int) ∧ n.all okc = true
  · rw [jgo_cons _ _ _ _ _ _ c] at h
    obtain ⟨t', h1, h2⟩ := Option.map_eq_some_iff.mp h
    exact ⟨c, t', h1, h2.symm⟩
  · rw [jgo_bad _ _ _ _ _ _ c] at h
    cases h
theorem jgo_fold {z : List Nat} : ∀ {l : List (Int × Int × List Nat)} {d : Nat} {t : List Nat}, d ≤ z.length → jgo z d l = some t → l.foldr stp z = z.take d ++ t
  | [], d, t, hd, h => by
    have e : z.drop d = t := Option.some.inj h
    rw [← e]
    exact (List.take_append_drop d z).symm
  | (s, e, n) :: r, d, t, hd, h => by
    obtain ⟨⟨c1, c2, c3, c4⟩, t', h1, h2⟩ := jgo_inv h
    have ih := jgo_fold (by omega) h1
    rw [List.foldr_cons, ih, h2]
    have l1 : (z.take e.toNat).length = e.toNat := by rw [List.length_take]; omega
    show (z.take e.toNat ++ t').take s.toNat ++ (n ++ (z.take e.toNat ++ t').drop e.toNat) = _
    rw [List.drop_left' l1, List.take_append_of_le_length (by omega), List.take_take, Nat.min_eq_left (by omega)]
    have e3 : z.take s.toNat = z.take d ++ (z.drop d).take (s.toNat - d) := by
      rw [← List.take_add, show d + (s.toNat - d) = s.toNat by omega]
    rw [e3, List.append_assoc]
def nsum (l : List (Int × Int × List Nat)) : Nat := (l.map fun x => x.2.2.length).sum
theorem jgo_len {z : List Nat} : ∀ {l : List (Int × Int × List Nat)} {d : Nat} {t : List Nat}, d ≤ z.length → jgo z d l = some t → d + t.length ≤ z.length + nsum l
  | [], d, t, hd, h => by
    have e : z.drop d = t := Option.some.inj h
    rw [← e, List.length_drop]
    omega
  | (s, e, n) :: r, d, t, hd, h => by
    obtain ⟨⟨c1, c2, c3, c4⟩, t', h1, h2⟩ := jgo_inv h
    have ih := jgo_len (by omega) h1
    have k : nsum ((s, e, n) :: r) = n.length + nsum r := rfl
    rw [h2, List.length_append, List.length_append, List.length_take, List.length_drop, k]
    omega
theorem jgo_drop {z : List Nat} : ∀ {l : List (Int × Int × List Nat)} {d : Nat} {t : List Nat} (j : Nat), d ≤ z.length → jgo z d l = some t → ∃ d' t', d' ≤ z.length ∧ jgo z d' (l.drop j) = some t'
  | l, d, t, 0, hd, h => ⟨d, t, hd, h⟩
  | [], d, t, j + 1, hd, h => ⟨d, t, hd, h⟩
  | (s, e, n) :: r, d, t, j + 1, hd, h => by
    obtain ⟨⟨c1, c2, c3, c4⟩, t', h1, h2⟩ := jgo_inv h
    exact jgo_drop j (by omega) h1
/-- in order, as the law looks at it -/
def inOrd (n : Int) : Int → List (Int × Int × Str) → Bool
  | _, [] => true
  | a, (s, e, _) :: r => decide (a ≤ s ∧ s ≤ e ∧ e ≤ n) && inOrd n e r
theorem inOrd_iff {z : List Nat} : ∀ {l : List (Int × Int × Str)} {d : Nat}, (∀ x ∈ l, (tl x.2.2).all okc = true) → (inOrd (z.length : Int) (d : Int) l = true ↔ jgo z d (edl l) ≠ none)
  | [], d, _ => ⟨fun _ k => (by cases k), fun _ => rfl⟩
  | (s, e, n) :: r, d, ok => by
    have o1 := ok (s, e, n) List.mem_cons_self
    show (decide ((d : Int) ≤ s ∧ s ≤ e ∧ e ≤ (z.length : Int)) && inOrd (z.length : Int) e r) = true ↔ jgo z d ((s, e, tl n) :: edl r) ≠ none
    by_cases c : (d : Int) ≤ s ∧ s ≤ e ∧ e ≤ (z.length : Int)
    · rw [decide_eq_true c, Bool.true_and, jgo_cons _ _ _ _ _ _ ⟨c.1, c.2.1, c.2.2, o1⟩]
      have ee : e = ((e.toNat : Nat) : Int) := by omega
      have ih := inOrd_iff (z := z) (l := r) (d := e.toNat) fun x hx => ok x (List.mem_cons_of_mem _ hx)
      rw [← ee] at ih
      rw [ih]
      cases jgo z e.toNat (edl r) with
      | none => simp
      | some t => simp
    · rw [decide_eq_false c, Bool.false_and, jgo_bad _ _ _ _ _ _ fun k => c ⟨k.1, k.2.1, k.2.2.1⟩]
      simp
def spInOrder : Sp := fun vs H Q _ => ∃ (z : Str) (le : Addr) (eds : List (Int × Int × Str)), vs = [.str z, .ref le] ∧ EdAt H le eds ∧ z.length ≤ 1000000 ∧ Q (.bl (inOrd ((tl z).length : Int) 0 eds)) H
theorem EdAt.but {H H' : Hp} {t c le : Addr} {eds : List (Int × Int × Str)} (tp : Tp H t c) (b : But t H H') : EdAt H le eds → EdAt H' le eds := fun ⟨rs, h1, h2, h3⟩ =>
  ⟨rs, b _ _ (tp.ne h1 fun _ q => nomatch q) h1, h2, fun i r s e n p q => b _ _ (tp.ne (h3 i r s e n p q) fun _ q => nomatch q) (h3 i r s e n p q)⟩
/-- one more edit at the end -/
theorem EdAt.push {H : Hp} {le r : Addr} {eds : List (Int × Int × Str)} {s e : Int} {n : Str} (h : EdAt H le eds) (hr : H r = none) : ∃ xs, upd H r (.tup [.int s, .int e, .str n]) le = some (.lst xs) ∧ xs.length = eds.length ∧
    EdAt (upd (upd H r (.tup [.int s, .int e, .str n])) le (.lst (xs ++ [.ref r]))) le (eds ++ [(s, e, n)]) := by
  obtain ⟨rs, h1, h2, h3⟩ := h
  have ne : le ≠ r := ne_of_none h1 hr
  refine ⟨rs.map V.ref, by rw [upd_ne ne]; exact h1, by rw [List.length_map]; exact h2, rs ++ [r], by rw [upd_same, List.map_append]; rfl, by simp [h2], fun i x s' e' n' p q => ?_⟩
  by_cases hi : i < rs.length
  · rw [List.getElem?_append_left hi] at p
    rw [List.getElem?_append_left (by omega)] at q
    have k := h3 i x s' e' n' p q
    rw [upd_ne (ne_of k h1 (by intro z; cases z)), upd_ne (ne_of_none k hr)]
    exact k
  · have hi2 : i = rs.length := by
      have := (List.getElem?_eq_some_iff.mp p).1
      rw [List.length_append, List.length_singleton] at this
      omega
    subst hi2
    rw [List.getElem?_append_right (Nat.le_refl _), Nat.sub_self] at p
    rw [List.getElem?_append_right (by omega), h2, Nat.sub_self] at q
    cases p
    cases q
    rw [upd_ne ne.symm, upd_same]
theorem EdAt.al {H : Hp} {le : Addr} {eds : List (Int × Int × Str)} (h : EdAt H le eds) (hl : eds.length ≤ 1000000) : Al H 4 (.ref le) (.ref le) := by
  obtain ⟨rs, h1, h2, h3⟩ := h
  refine Al.lst h1 h1 rfl (by rw [List.length_map, h2]; exact hl) fun i u v p q => ?_
  have e : u = v := Option.some.inj (p.symm.trans q)
  subst e
  rw [List.getElem?_map] at p
  cases er : rs[i]? with
  | none => rw [er] at p; cases p
  | some r =>
    rw [er] at p
    have e2 : u = V.ref r := (Option.some.inj p).symm
    subst e2
    have hi : i < eds.length := by
      rw [← h2]
      exact (List.getElem?_eq_some_iff.mp er).1
    have k := h3 i r eds[i].1 eds[i].2.1 eds[i].2.2 er (List.getElem?_eq_getElem hi)
    exact Al.tup k k rfl (by show 3 ≤ 1000000; decide) (al_eq (n := 1) rfl)
def edd (x : Int × Int × Str) : PyData := .tuple [.int x.1, .int x.2.1, .str x.2.2]
theorem dpAll {K : PySem.W.Frag} {H : Hp} : ∀ {rs : List Addr} {eds : List (Int × Int × Str)}, rs.length = eds.length → (∀ (i : Nat) (r : Addr) (s e : Int) (n : Str), rs[i]? = some r → eds[i]? = some (s, e, n) → H r = some (.tup [.int s, .int e, .str n])) → DpAll K H (rs.map V.ref) (eds.map edd)
  | [], [], _, _ => .nil
  | r :: rs, (s, e, n) :: eds, h, k => .cons (.tup (.inl (.inl (k 0 r s e n rfl rfl))) (.cons (.int s) (.cons (.int e) (.cons (.str n) .nil)))) (dpAll (by simpa using h) fun i => k (i + 1))
theorem EdAt.dp {K : PySem.W.Frag} {H : Hp} {le : Addr} {eds : List (Int × Int × Str)} (h : EdAt H le eds) : Dp K H (.ref le) (.list (eds.map edd)) := by
  obtain ⟨rs, h1, h2, h3⟩ := h
  exact .lst (.inl (.inl h1)) (dpAll h2 h3)
structure Nm2 (K : PySem.W.Frag) (mg : Str → Option Value) (C : Addr) (tL tP : PySem.Tok) : Prop extends NmJ K mg C tL tP where
  min : mg "min" = none
  max : mg "max" = none
  dict_ : mg "dict" = none
section
variable {P : Program} {w : World} {K : PySem.W.Frag} {mg : Str → Option Value} {base : Heap} {f : Addr} {fd : FuncData} {C : Addr} {tL tP : PySem.Tok}
abbrev s_inOrder : Stmt := topS 19
abbrev N_inOrder : List Str := ["text", "edits", "at", "start", "end", "new"]
theorem sc_inOrder : FnScope N_inOrder ["text", "edits"] (defScope s_inOrder) := ⟨rfl, rfl, rfl, by decide +kernel, rfl, by decide +kernel, by decide +kernel⟩
theorem ok_inOrder (F : Fun K "_law_in_order" "_law_in_order" s_inOrder f fd) (T : Nm mg) : FnOk P w K mg base CX0 1 f fd ["text", "edits"] spInOrder := by
  refine F.ok sc_inOrder (fun vs H Q E h => ?_) (fun cdv A outer s H vs Q E hr h => ?_)
  · obtain ⟨z, le, eds, rfl, _⟩ := h
    rfl
  obtain ⟨z, le, eds, rfl, ⟨rs, h1, h2, h3⟩, hz, q⟩ := h
  refine ⟨_, (pss_cons (ps_set (i := 2) sc_inOrder.nd rfl (Or.inl rfl) pe_int)
    (pss_cons (ps_for PassesOwn.never rfl (pi_list (pv 1)) (pg_tup rfl (pgs_cons (pg_name (i := 3) sc_inOrder.nd rfl (Or.inl rfl)) (pgs_cons (pg_name (i := 4) sc_inOrder.nd rfl (Or.inl rfl)) (pgs_cons (pg_name (i := 5) sc_inOrder.nd rfl (Or.inl rfl)) pgs_nil)))) (pss_cons (ps_if (PW.pt (pw_or (pt_cmpR op_lt (pv 3) (pv 2) (nomark _)) (pw_or (pt_cmpR op_lt (pv 4) (pv 3) (nomark _)) (pw_or1 (pt_cmpR op_gt (pv 4) (pe_callB call_len_str (by rfl) T.len PySem.boot_len (pa_cons (pv 0) pa_nil)) (nomark _)))))) (pss_one (ps_ret pe_bl)) pss_nil)
    (pss_one (ps_set (i := 2) sc_inOrder.nd rfl (Or.inl rfl) (pv 4)))))
    (pss_one (ps_ret pe_bl)))), ?_⟩
  have hzl := len_tl z
  refine ⟨_, rfl, le, rfl, ⟨_, .inl (.inl h1)⟩, for_list (K := K) (a := le) (xs := rs.map V.ref) (fun i σ H' => H' = H ∧ ∃ (a : Int) (v3 v4 v5 : Option V), σ = [some (.str z), some (.ref le), some (.int a), v3, v4, v5] ∧ inOrd ((tl z).length : Int) 0 eds = inOrd ((tl z).length : Int) a (eds.drop i))
    ⟨rfl, 0, none, none, none, rfl, by rw [List.drop_zero]⟩ (fun i σ H' _ ⟨e, _⟩ => by rw [e]; exact .inl (.inl h1)) ?_ ?_⟩
  · rintro i x σ H' hi ⟨rfl, a, v3, v4, v5, rfl, hj⟩
    obtain ⟨r, hri, rfl⟩ : ∃ r, rs[i]? = some r ∧ x = V.ref r := by
      rw [List.getElem?_map] at hi
      cases e : rs[i]? with
      | none => rw [e] at hi; cases hi
      | some u => rw [e] at hi; exact ⟨u, rfl, (Option.some.inj hi).symm⟩
    have hi1 : i < eds.length := by
      rw [← h2]
      exact (List.getElem?_eq_some_iff.mp hri).1
    have hd := List.drop_eq_getElem_cons hi1
    have hr := h3 i r eds[i].1 eds[i].2.1 eds[i].2.2 hri (List.getElem?_eq_getElem hi1)
    generalize eds[i] = ed at hd hr
    obtain ⟨st, en, nw⟩ := ed
    rw [hd] at hj
    have hj2 : inOrd ((tl z).length : Int) 0 eds = (decide (a ≤ st ∧ st ≤ en ∧ en ≤ ((tl z).length : Int)) && inOrd ((tl z).length : Int) en (eds.drop (i + 1))) := hj
    have bad : ¬ (a ≤ st ∧ st ≤ en ∧ en ≤ ((tl z).length : Int)) → Q (.bl false) H' := fun k => by
      rw [hj2, decide_eq_false k, Bool.false_and] at q
      exact q
    refine ⟨r, _, rfl, .inl (.inl hr), rfl, _, _, rfl, _, _, rfl, _, _, rfl, rfl, ?_⟩
    refine ⟨_, rfl, _, rfl, _, _, rfl, rfl, _, rfl, ite2 (fun c => bad fun k => ?_) (fun c1 => ?_)⟩
    · have := of_decide_eq_true c
      dsimp only at this
      omega
    refine ⟨_, rfl, _, rfl, _, _, rfl, rfl, _, rfl, ite2 (fun c => bad fun k => ?_) (fun c2 => ?_)⟩
    · have := of_decide_eq_true c
      dsimp only at this
      omega
    refine ⟨_, rfl, _, rfl, z, rfl, small hz, _, _, rfl, rfl, _, rfl, ite2 (fun c => bad fun k => ?_) (fun c3 => ?_)⟩
    · have := of_decide_eq_true c
      dsimp only at this
      omega
    have c1 : ¬ st < a := fun k => c1 (decide_eq_true k)
    have c2 : ¬ en < st := fun k => c2 (decide_eq_true k)
    have c3 : ¬ (z.length : Int) < en := fun k => c3 (decide_eq_true k)
    refine ⟨_, rfl, rfl, en, _, _, _, rfl, ?_⟩
    rw [hj2, decide_eq_true ⟨by omega, by omega, by omega⟩, Bool.true_and]
  · rintro σ H' ⟨rfl, a, v3, v4, v5, rfl, hj⟩
    rw [List.length_map, h2, List.drop_length] at hj
    rw [hj] at q
    exact q
end

end Sn

namespace Sn
open PySem PySem.Spec PyProof.Rows L2 TL
/-! ### the law's helpers, where an exception is handled -/
open L2H
section
variable {P : Program} {w : World} {K : PySem.W.Frag} {mg : Str → Option Value} {base : Heap} {f : Addr} {fd : FuncData}
theorem isIntH (F : Fun K "_law_is_integer" "_law_is_integer" s_isInt f fd) (T : Nm mg) : FnH P w K mg base CX0 1 f fd ["actual"] spIsInt := by
  refine okH F sc_isInt (fun vs H Q E h => ?_) (fun cdv A outer s H vs Q E p hot hr h => ?_)
  · obtain ⟨i, rfl, _⟩ := h
    rfl
  obtain ⟨i, rfl, q⟩ := h
  refine ⟨_, (pss_one (ps_ret (pe_and (pe_callB call_isi (by rfl) T.isinstance (by decide +kernel) (pa_cons (pv 0) (pa_cons (pe_bltn (v := .ty "int") (u := .type "int") (by rfl) T.int_ (by decide +kernel) rfl) pa_nil))) (pe_one (pe_not (pe_callB call_isi (by rfl) T.isinstance (by decide +kernel) (pa_cons (pv 0) (pa_cons (pe_bltn (v := .ty "bool") (u := .type "bool") (by rfl) T.bool_ (by decide +kernel) rfl) pa_nil)))))))), ?_⟩
  refine ⟨_, rfl, _, _, _, _, true, rfl, .ty _, .base (.int _), kit_ty (by decide +kernel), _, rfl, ?_⟩
  refine ⟨_, rfl, _, _, _, _, false, rfl, .ty _, .base (.int _), kit_ty (by decide +kernel), _, rfl, q⟩
theorem none_leftH {f : Addr} {fd : FuncData} {ps : List Str} {sp : Sp} (no : ∀ vs H Q E, ¬ sp vs H Q E) : FnH P w K mg base CX0 0 f fd ps sp :=
  ⟨fun vs H Q E h => absurd h (no vs H Q E), fun A outer s H args us vs Q E p _ _ _ _ _ _ h => absurd h (no vs H Q E)⟩
theorem itemsH {n : Nat} (F : Fun K "_law_same_items" "_law_same_items" s_sameItems f fd) (T : Nm mg) (H_law_same : CalH P w K mg base (2 * n) "_law_same" (spSame n)) : FnH P w K mg base CX0 (2 * n + 1) f fd ["actual", "expected"] (spItems n) := by
  refine okH F sc_sameItems (fun vs H Q E h => ?_) (fun cdv A outer s H vs Q E p hot hr h => ?_)
  · obtain ⟨a, b, xs, ys, rfl, _⟩ := h
    rfl
  obtain ⟨a, b, xs, ys, rfl, hs, hl, hm, al, q⟩ := h
  have sa : SqL K H a xs ∨ SqT K H a xs := hs.elim (fun h => .inr (.inl (.inl h.1))) fun h => .inl (.inl (.inl h.1))
  have sb : SqL K H b ys ∨ SqT K H b ys := hs.elim (fun h => .inr (.inl (.inl h.2))) fun h => .inl (.inl (.inl h.2))
  refine ⟨_, (pss_cons (ps_if (pt_cmpR op_ne (pe_callB call_len_seq (by rfl) T.len PySem.boot_len (pa_cons (pv 0) pa_nil)) (pe_callB call_len_seq (by rfl) T.len PySem.boot_len (pa_cons (pv 1) pa_nil)) (nomark _)) (pss_one (ps_ret pe_bl)) pss_nil)
    (pss_cons (ps_forH PassesOwn.never hot (pi_range1H (by rfl) T.range (pa_cons (pe_callB call_len_seq (by rfl) T.len PySem.boot_len (pa_cons (pv 1) pa_nil)) pa_nil)) (pg_name (i := 2) sc_sameItems.nd rfl (Or.inl rfl)) (pss_one (ps_if (pt_not (pt_val (pe_cH H_law_same hr (by first | decide | omega) hot (pa_cons (pe_ix (r := rIx K) ix_seq (pv 0) (pv 2) (fun _ _ => rfl)) (pa_cons (pe_ix (r := rIx K) ix_seq (pv 1) (pv 2) (fun _ _ => rfl)) pa_nil))))) (pss_one (ps_ret pe_bl)) pss_nil)))
    (pss_one (ps_ret pe_bl)))), ?_⟩
  refine ⟨_, rfl, a, xs, rfl, sa, _, rfl, b, ys, rfl, sb, rfl, _, rfl, ?_⟩
  refine iteNS (by rw [hl]) ?_
  refine ⟨_, rfl, b, ys, rfl, sb, _, rfl, by omega, by omega, for_range (lo := 0) (n := ((ys.length : Nat) : Int).toNat) (fun i σ H' => H' = H ∧ ∃ v, σ = [some (.ref a), some (.ref b), v]) ⟨rfl, none, rfl⟩ ?_ ?_⟩
  · rintro i σ H' hi ⟨rfl, v, rfl⟩
    have hi1 : i < ys.length := by omega
    have hi2 : i < xs.length := by omega
    have ei : ((0 : Int) + (i : Nat)) = ((i : Nat) : Int) := Int.zero_add _
    have g1 := List.getElem?_eq_getElem hi2
    have g2 := List.getElem?_eq_getElem hi1
    refine ⟨_, rfl, _, rfl, ?_⟩
    have r1 : ∀ {Q' : VK}, Q' xs[i] H' → rIx K (.ref a) (.int (0 + (i : Nat))) H' Q' := fun {Q'} h => sa.elim (fun s => .inl ⟨a, xs, _, _, rfl, rfl, s, at_of ei g1, h⟩) fun s => .inr (.inl ⟨a, xs, _, _, rfl, rfl, s, at_of ei g1, h⟩)
    have r2 : ∀ {Q' : VK}, Q' ys[i] H' → rIx K (.ref b) (.int (0 + (i : Nat))) H' Q' := fun {Q'} h => sb.elim (fun s => .inl ⟨b, ys, _, _, rfl, rfl, s, at_of ei g2, h⟩) fun s => .inr (.inl ⟨b, ys, _, _, rfl, rfl, s, at_of ei g2, h⟩)
    refine r1 ⟨_, rfl, _, rfl, r2 ?_⟩
    refine ⟨_, _, rfl, al i _ _ g1 g2, _, rfl, ?_⟩
    exact ⟨rfl, _, rfl⟩
  · rintro σ H' ⟨rfl, v, rfl⟩
    exact q
theorem sameH {n : Nat} (F : Fun K "_law_same" "_law_same" s_same f fd) (T : Nm mg) (H_law_is_integer : CalH P w K mg base 1 "_law_is_integer" spIsInt) (H_law_same_items : CalH P w K mg base (2 * n + 1) "_law_same_items" (spItems n)) :
    FnH P w K mg base CX0 (2 * n + 2) f fd ["actual", "expected"] (spSame (n + 1)) := by
  refine okH F sc_same (fun vs H Q E h => ?_) (fun cdv A outer s H vs Q E p hot hr h => ?_)
  · obtain ⟨x, y, rfl, _⟩ := h
    rfl
  obtain ⟨x, y, rfl, al, q⟩ := h
  refine ⟨_, (pss_cons (ps_if (pt_cmpR op_isN (pv 1) pe_non (nomark _)) (pss_one (ps_ret (pe_cmpR op_isN (pv 0) pe_non (nomark _)))) pss_nil)
    (pss_cons (ps_if (pt_val (pe_callB call_isi (by rfl) T.isinstance (by decide +kernel) (pa_cons (pv 1) (pa_cons (pe_bltn (v := .ty "bool") (u := .type "bool") (by rfl) T.bool_ (by decide +kernel) rfl) pa_nil)))) (pss_one (ps_ret (pe_and (pe_callB call_isi (by rfl) T.isinstance (by decide +kernel) (pa_cons (pv 0) (pa_cons (pe_bltn (v := .ty "bool") (u := .type "bool") (by rfl) T.bool_ (by decide +kernel) rfl) pa_nil))) (pe_one (pe_cmpR op_eq (pv 0) (pv 1) (nomark _)))))) pss_nil)
    (pss_cons (ps_if (pt_val (pe_callB call_isi (by rfl) T.isinstance (by decide +kernel) (pa_cons (pv 1) (pa_cons (pe_bltn (v := .ty "int") (u := .type "int") (by rfl) T.int_ (by decide +kernel) rfl) pa_nil)))) (pss_one (ps_ret (pe_and (pe_cH H_law_is_integer hr (by first | decide | omega) hot (pa_cons (pv 0) pa_nil)) (pe_one (pe_cmpR op_eq (pv 0) (pv 1) (nomark _)))))) pss_nil)
    (pss_cons (ps_if (pt_val (pe_callB call_isi (by rfl) T.isinstance (by decide +kernel) (pa_cons (pv 1) (pa_cons (pe_bltn (v := .ty "str") (u := .type "str") (by rfl) T.str_ (by decide +kernel) rfl) pa_nil)))) (pss_one (ps_ret (pe_and (pe_callB call_isi (by rfl) T.isinstance (by decide +kernel) (pa_cons (pv 0) (pa_cons (pe_bltn (v := .ty "str") (u := .type "str") (by rfl) T.str_ (by decide +kernel) rfl) pa_nil))) (pe_one (pe_cmpR op_eq (pv 0) (pv 1) (nomark _)))))) pss_nil)
    (pss_cons (ps_if (pt_val (pe_callB call_isi (by rfl) T.isinstance (by decide +kernel) (pa_cons (pv 1) (pa_cons (pe_bltn (v := .ty "tuple") (u := .type "tuple") (by rfl) T.tuple_ (by decide +kernel) rfl) pa_nil)))) (pss_one (ps_ret (pe_and (pe_callB call_isi (by rfl) T.isinstance (by decide +kernel) (pa_cons (pv 0) (pa_cons (pe_bltn (v := .ty "tuple") (u := .type "tuple") (by rfl) T.tuple_ (by decide +kernel) rfl) pa_nil))) (pe_one (pe_cH H_law_same_items hr (by first | decide | omega) hot (pa_cons (pv 0) (pa_cons (pv 1) pa_nil))))))) pss_nil)
    (pss_cons (ps_if (pt_val (pe_callB call_isi (by rfl) T.isinstance (by decide +kernel) (pa_cons (pv 1) (pa_cons (pe_bltn (v := .ty "list") (u := .type "list") (by rfl) T.list_ (by decide +kernel) rfl) pa_nil)))) (pss_one (ps_ret (pe_and (pe_callB call_isi (by rfl) T.isinstance (by decide +kernel) (pa_cons (pv 0) (pa_cons (pe_bltn (v := .ty "list") (u := .type "list") (by rfl) T.list_ (by decide +kernel) rfl) pa_nil))) (pe_one (pe_cH H_law_same_items hr (by first | decide | omega) hot (pa_cons (pv 0) (pa_cons (pv 1) pa_nil))))))) pss_nil)
    (pss_cons ps_never
    (pss_cons ps_never
    (pss_cons ps_never
    (pss_one ps_never)))))))))), ?_⟩
  rcases al with ⟨rfl, hx⟩ | ⟨a, b, xs, ys, rfl, rfl, ha, hb, hl, hm, al⟩ | ⟨a, b, xs, ys, rfl, rfl, ha, hb, hl, hm, al⟩
  · cases x with
    | non => exact ⟨_, rfl, rfl, _, rfl, iteP rfl ⟨_, rfl, rfl, qP rfl q⟩⟩
    | bl k =>
      refine ⟨_, rfl, rfl, _, rfl, iteN (fun z => nomatch z) ?_⟩
      refine ⟨_, rfl, _, _, _, _, true, rfl, .ty _, .base (.bl _), kit_ty (by decide +kernel), _, rfl, ?_⟩
      refine ⟨_, rfl, _, _, _, _, true, rfl, .ty _, .base (.bl _), kit_ty (by decide +kernel), _, rfl, ?_⟩
      exact ⟨_, rfl, _, rfl, rfl, qP rfl q⟩
    | int i =>
      refine ⟨_, rfl, rfl, _, rfl, iteN (fun z => nomatch z) ?_⟩
      refine ⟨_, rfl, _, _, _, _, false, rfl, .ty _, .base (.int _), kit_ty (by decide +kernel), _, rfl, ?_⟩
      refine ⟨_, rfl, _, _, _, _, true, rfl, .ty _, .base (.int _), kit_ty (by decide +kernel), _, rfl, ?_⟩
      refine ⟨_, rfl, i, rfl, _, rfl, ?_⟩
      exact ⟨_, rfl, _, rfl, rfl, qP rfl q⟩
    | str z =>
      refine ⟨_, rfl, rfl, _, rfl, iteN (fun z => nomatch z) ?_⟩
      refine ⟨_, rfl, _, _, _, _, false, rfl, .ty _, .base (.str _), kit_ty (by decide +kernel), _, rfl, ?_⟩
      refine ⟨_, rfl, _, _, _, _, false, rfl, .ty _, .base (.str _), kit_ty (by decide +kernel), _, rfl, ?_⟩
      refine ⟨_, rfl, _, _, _, _, true, rfl, .ty _, .base (.str _), kit_ty (by decide +kernel), _, rfl, ?_⟩
      refine ⟨_, rfl, _, _, _, _, true, rfl, .ty _, .base (.str _), kit_ty (by decide +kernel), _, rfl, ?_⟩
      exact ⟨_, rfl, _, rfl, rfl, qP rfl q⟩
    | byt z => cases hx
    | flt z => cases hx
    | ref z => cases hx
    | ty z => cases hx
  · refine ⟨_, rfl, rfl, _, rfl, iteN (fun z => nomatch z) ?_⟩
    refine ⟨_, rfl, _, _, _, _, false, rfl, .ty _, .base (.tup hb), kit_ty (by decide +kernel), _, rfl, ?_⟩
    refine ⟨_, rfl, _, _, _, _, false, rfl, .ty _, .base (.tup hb), kit_ty (by decide +kernel), _, rfl, ?_⟩
    refine ⟨_, rfl, _, _, _, _, false, rfl, .ty _, .base (.tup hb), kit_ty (by decide +kernel), _, rfl, ?_⟩
    refine ⟨_, rfl, _, _, _, _, true, rfl, .ty _, .base (.tup hb), kit_ty (by decide +kernel), _, rfl, ?_⟩
    refine ⟨_, rfl, _, _, _, _, true, rfl, .ty _, .base (.tup ha), kit_ty (by decide +kernel), _, rfl, ?_⟩
    exact ⟨_, rfl, _, rfl, a, b, xs, ys, rfl, .inl ⟨ha, hb⟩, hl, hm, al, q⟩
  · refine ⟨_, rfl, rfl, _, rfl, iteN (fun z => nomatch z) ?_⟩
    refine ⟨_, rfl, _, _, _, _, false, rfl, .ty _, .base (.lst hb), kit_ty (by decide +kernel), _, rfl, ?_⟩
    refine ⟨_, rfl, _, _, _, _, false, rfl, .ty _, .base (.lst hb), kit_ty (by decide +kernel), _, rfl, ?_⟩
    refine ⟨_, rfl, _, _, _, _, false, rfl, .ty _, .base (.lst hb), kit_ty (by decide +kernel), _, rfl, ?_⟩
    refine ⟨_, rfl, _, _, _, _, false, rfl, .ty _, .base (.lst hb), kit_ty (by decide +kernel), _, rfl, ?_⟩
    refine ⟨_, rfl, _, _, _, _, true, rfl, .ty _, .base (.lst hb), kit_ty (by decide +kernel), _, rfl, ?_⟩
    refine ⟨_, rfl, _, _, _, _, true, rfl, .ty _, .base (.lst ha), kit_ty (by decide +kernel), _, rfl, ?_⟩
    exact ⟨_, rfl, _, rfl, a, b, xs, ys, rfl, .inr ⟨ha, hb⟩, hl, hm, al, q⟩
/-- both, as deep as one likes, where an exception is handled -/
theorem bothH {f g : Addr} {fd gd : FuncData} (FS : Fun K "_law_same" "_law_same" s_same f fd) (bS : Binds K fd ["actual", "expected"] []) (mS : mg "_law_same" = some (.ref f)) (FI : Fun K "_law_same_items" "_law_same_items" s_sameItems g gd) (bI : Binds K gd ["actual", "expected"] []) (mI : mg "_law_same_items" = some (.ref g))
    (T : Nm mg) (H_law_is_integer : CalH P w K mg base 1 "_law_is_integer" spIsInt) : ∀ n, CalH P w K mg base (2 * n) "_law_same" (spSame n)
  | 0 => ⟨f, fd, _, none_leftH no_same0, mS, FS.kp, bS⟩
  | n + 1 => ⟨f, fd, _, sameH FS T H_law_is_integer ⟨g, gd, _, itemsH FI T (bothH FS bS mS FI bI mI T H_law_is_integer n), mI, FI.kp, bI⟩, mS, FS.kp, bS⟩
theorem inOrderH (F : Fun K "_law_in_order" "_law_in_order" s_inOrder f fd) (T : Nm mg) : FnH P w K mg base CX0 1 f fd ["text", "edits"] spInOrder := by
  refine okH F sc_inOrder (fun vs H Q E h => ?_) (fun cdv A outer s H vs Q E p hot hr h => ?_)
  · obtain ⟨z, le, eds, rfl, _⟩ := h
    rfl
  obtain ⟨z, le, eds, rfl, ⟨rs, h1, h2, h3⟩, hz, q⟩ := h
  refine ⟨_, (pss_cons (ps_set (i := 2) sc_inOrder.nd rfl (Or.inl rfl) pe_int)
    (pss_cons (ps_forH PassesOwn.never hot (pi_listH (pv 1)) (pg_tupH hot (pgs_cons (pg_name (i := 3) sc_inOrder.nd rfl (Or.inl rfl)) (pgs_cons (pg_name (i := 4) sc_inOrder.nd rfl (Or.inl rfl)) (pgs_cons (pg_name (i := 5) sc_inOrder.nd rfl (Or.inl rfl)) pgs_nil)))) (pss_cons (ps_if (PW.pt (pw_or (pt_cmpR op_lt (pv 3) (pv 2) (nomark _)) (pw_or (pt_cmpR op_lt (pv 4) (pv 3) (nomark _)) (pw_or1 (pt_cmpR op_gt (pv 4) (pe_callB call_len_str (by rfl) T.len PySem.boot_len (pa_cons (pv 0) pa_nil)) (nomark _)))))) (pss_one (ps_ret pe_bl)) pss_nil)
    (pss_one (ps_set (i := 2) sc_inOrder.nd rfl (Or.inl rfl) (pv 4)))))
    (pss_one (ps_ret pe_bl)))), ?_⟩
  have hzl := len_tl z
  refine ⟨_, rfl, le, rfl, ⟨_, .inl (.inl h1)⟩, for_list (K := K) (a := le) (xs := rs.map V.ref) (fun i σ H' => H' = H ∧ ∃ (a : Int) (v3 v4 v5 : Option V), σ = [some (.str z), some (.ref le), some (.int a), v3, v4, v5] ∧ inOrd ((tl z).length : Int) 0 eds = inOrd ((tl z).length : Int) a (eds.drop i))
    ⟨rfl, 0, none, none, none, rfl, by rw [List.drop_zero]⟩ (fun i σ H' _ ⟨e, _⟩ => by rw [e]; exact .inl (.inl h1)) ?_ ?_⟩
  · rintro i x σ H' hi ⟨rfl, a, v3, v4, v5, rfl, hj⟩
    obtain ⟨r, hri, rfl⟩ : ∃ r, rs[i]? = some r ∧ x = V.ref r := by
      rw [List.getElem?_map] at hi
      cases e : rs[i]? with
      | none => rw [e] at hi; cases hi
      | some u => rw [e] at hi; exact ⟨u, rfl, (Option.some.inj hi).symm⟩
    have hi1 : i < eds.length := by
      rw [← h2]
      exact (List.getElem?_eq_some_iff.mp hri).1
    have hd := List.drop_eq_getElem_cons hi1
    have hr := h3 i r eds[i].1 eds[i].2.1 eds[i].2.2 hri (List.getElem?_eq_getElem hi1)
    generalize eds[i] = ed at hd hr
    obtain ⟨st, en, nw⟩ := ed
    rw [hd] at hj
    have hj2 : inOrd ((tl z).length : Int) 0 eds = (decide (a ≤ st ∧ st ≤ en ∧ en ≤ ((tl z).length : Int)) && inOrd ((tl z).length : Int) en (eds.drop (i + 1))) := hj
    have bad : ¬ (a ≤ st ∧ st ≤ en ∧ en ≤ ((tl z).length : Int)) → Q (.bl false) H' := fun k => by
      rw [hj2, decide_eq_false k, Bool.false_and] at q
      exact q
    refine ⟨r, _, rfl, .inl (.inl hr), rfl, _, _, rfl, _, _, rfl, _, _, rfl, rfl, ?_⟩
    refine ⟨_, rfl, _, rfl, _, _, rfl, rfl, _, rfl, ite2 (fun c => bad fun k => ?_) (fun c1 => ?_)⟩
    · have := of_decide_eq_true c
      dsimp only at this
      omega
    refine ⟨_, rfl, _, rfl, _, _, rfl, rfl, _, rfl, ite2 (fun c => bad fun k => ?_) (fun c2 => ?_)⟩
    · have := of_decide_eq_true c
      dsimp only at this
      omega
    refine ⟨_, rfl, _, rfl, z, rfl, small hz, _, _, rfl, rfl, _, rfl, ite2 (fun c => bad fun k => ?_) (fun c3 => ?_)⟩
    · have := of_decide_eq_true c
      dsimp only at this
      omega
    have c1 : ¬ st < a := fun k => c1 (decide_eq_true k)
    have c2 : ¬ en < st := fun k => c2 (decide_eq_true k)
    have c3 : ¬ (z.length : Int) < en := fun k => c3 (decide_eq_true k)
    refine ⟨_, rfl, rfl, en, _, _, _, rfl, ?_⟩
    rw [hj2, decide_eq_true ⟨by omega, by omega, by omega⟩, Bool.true_and]
  · rintro σ H' ⟨rfl, a, v3, v4, v5, rfl, hj⟩
    rw [List.length_map, h2, List.drop_length] at hj
    rw [hj] at q
    exact q
end

end Sn

namespace Sn
open PySem PySem.Spec PyProof.Rows L2 TL
open L2H
theorem strOk_of {z : Str} (h : (tl z).all okc = true) : PyData.strOk z = true := by
  have k : ∀ c ∈ tl z, c ≤ 126 := fun c hc => by
    have := (okc_iff c).mp (List.all_eq_true.mp h c hc)
    omega
  show z.cps.all (fun c => decide (c < 0x110000)) = true
  rw [Array.all_eq_true']
  intro c hc
  have := k c (Array.mem_toList_iff.mpr hc)
  exact decide_eq_true (by omega)
theorem shaped_eds : ∀ {eds : List (Int × Int × Str)}, (∀ x ∈ eds, (tl x.2.2).all okc = true) → SeqAt.shaped (.list (eds.map edd)) = true := by
  intro eds h
  have c : ∀ {l : List (Int × Int × Str)}, (∀ x ∈ l, (tl x.2.2).all okc = true) → PyData.canLayAll0 (l.map edd) = true := by
    intro l
    induction l with
    | nil => exact fun _ => rfl
    | cons x r ih =>
      intro h
      have h1 := strOk_of (h x List.mem_cons_self)
      have h2 := ih fun y hy => h y (List.mem_cons_of_mem _ hy)
      show (PyData.canLay0 (edd x) && PyData.canLayAll0 (r.map edd)) = true
      rw [h2, Bool.and_true]
      show (true && (true && (PyData.strOk x.2.2 && true))) = true
      rw [h1]
      rfl
  have d : ∀ {l : List (Int × Int × Str)}, PyData.depthAll (l.map edd) ≤ 1 := by
    intro l
    induction l with
    | nil => exact Nat.zero_le _
    | cons x r ih =>
      show max (PyData.depth (edd x)) (PyData.depthAll (r.map edd)) ≤ 1
      have : PyData.depth (edd x) = 1 := rfl
      omega
  show (PyData.canLay0 (.list (eds.map edd)) && decide (PyData.depth (.list (eds.map edd)) ≤ 64)) = true
  have h1 : PyData.canLay0 (.list (eds.map edd)) = true := c h
  have h2 : PyData.depth (.list (eds.map edd)) ≤ 64 := by
    show PyData.depthAll (eds.map edd) + 1 ≤ 64
    have := d (l := eds)
    omega
  rw [h1, decide_eq_true h2]
  rfl
/-- edits as the law makes them -/
def Small (eds : List (Int × Int × Str)) : Prop := ∀ x ∈ eds, x.2.2.length ≤ 90 ∧ (tl x.2.2).all okc = true
theorem news_small : ∀ {eds : List (Int × Int × Str)}, Small eds → news eds ≤ 90 * eds.length
  | [], _ => Nat.le_refl _
  | x :: r, h => by
    have h1 := (h x List.mem_cons_self).1
    have h2 := news_small (eds := r) fun y hy => h y (List.mem_cons_of_mem _ hy)
    show x.2.2.length + news r ≤ 90 * (r.length + 1)
    omega
theorem nsum_edl (eds : List (Int × Int × Str)) : nsum (edl eds) = news eds := by
  unfold nsum edl news
  rw [List.map_map]
  refine congrArg List.sum (List.map_congr_left fun x _ => ?_)
  exact (len_tl x.2.2).symm
theorem ixN_of {n j : Nat} (h : j < n) : ixN n (j : Int) = some j := by
  unfold ixN
  rw [if_pos (by omega), if_pos (by omega)]
  rfl
theorem nsum_drop : ∀ (j : Nat) (l : List (Int × Int × List Nat)), nsum (l.drop j) ≤ nsum l
  | 0, l => Nat.le_refl _
  | j + 1, [] => Nat.le_refl _
  | j + 1, x :: r => by
    have ih := nsum_drop j r
    show nsum (r.drop j) ≤ x.2.2.length + nsum r
    omega
/-- one step from behind -/
theorem step_fit {z t n : List Nat} {l : List (Int × Int × List Nat)} {j : Nat} {s e : Int} (h : jgo z 0 l = some t) (hj : l[j]? = some (s, e, n)) (hs : z.length + nsum l ≤ 4000) :
    joint ((l.drop (j + 1)).foldr stp z) [(s, e, n)] = some ((l.drop j).foldr stp z) ∧ ((l.drop (j + 1)).foldr stp z).length ≤ 4000 := by
  obtain ⟨hjl, hje⟩ := List.getElem?_eq_some_iff.mp hj
  obtain ⟨d', t', hd', h'⟩ := jgo_drop j (Nat.zero_le _) h
  have ed := List.drop_eq_getElem_cons hjl
  rw [hje] at ed
  have n1 := nsum_drop j l
  rw [ed] at h' n1
  have n2 : nsum ((s, e, n) :: l.drop (j + 1)) = n.length + nsum (l.drop (j + 1)) := rfl
  obtain ⟨⟨c1, c2, c3, c4⟩, t2, h1, h2⟩ := jgo_inv h'
  have f1 := jgo_fold (by omega) h1
  have g1 := jgo_len (by omega) h1
  have lT : ((l.drop (j + 1)).foldr stp z).length = e.toNat + t2.length := by
    rw [f1, List.length_append, List.length_take]
    omega
  have fits : Fits ((l.drop (j + 1)).foldr stp z) s e n := ⟨by omega, c2, by omega, c4, by omega⟩
  refine ⟨?_, by omega⟩
  rw [joint_one, if_pos fits, ed]
  rfl
theorem EdAt.swap {H : Hp} {le : Addr} {a b : Int × Int × Str} {r : List (Int × Int × Str)} (h : EdAt H le (a :: b :: r)) : ∃ (x y : Addr) (xs : List V), H le = some (.lst (.ref x :: .ref y :: xs)) ∧
    (∀ H', (∀ q o, q ≠ le → H q = some o → H' q = some o) → H' le = some (.lst (.ref y :: .ref x :: xs)) → EdAt H' le (b :: a :: r)) := by
  obtain ⟨rs, h1, h2, h3⟩ := h
  match rs, h1, h2, h3 with
  | x :: y :: rs, h1, h2, h3 =>
    refine ⟨x, y, rs.map V.ref, h1, fun H' k kl => ⟨y :: x :: rs, kl, by simpa using h2, fun i q s e n p u => ?_⟩⟩
    have ne : ∀ {q : Addr} {s e : Int} {n : Str}, H q = some (.tup [.int s, .int e, .str n]) → q ≠ le := fun g => ne_of g h1 (by intro z; cases z)
    match i, p, u with
    | 0, p, u =>
      have g := h3 1 q s e n p u
      exact k _ _ (ne g) g
    | 1, p, u =>
      have g := h3 0 q s e n p u
      exact k _ _ (ne g) g
    | i + 2, p, u =>
      have g := h3 (i + 2) q s e n p u
      exact k _ _ (ne g) g
section
variable {P : Program} {w : World} {K : PySem.W.Frag} {mg : Str → Option Value} {base : Heap} {f : Addr} {fd : FuncData} {C : Addr} {tL tP : PySem.Tok}
abbrev s_law : Stmt := topS 20
abbrev N_law : List Str := ["script", "tape", "text", "edits", "at", "k", "start", "choice", "before", "actual", "expected"]
theorem sc_law : FnScope N_law ["script"] (defScope s_law) := ⟨rfl, rfl, rfl, by decide +kernel, rfl, by decide +kernel, by decide +kernel⟩
theorem ok_law (F : Fun K "law" "law" s_law f fd) (T : Nm2 K mg C tL tP) (C_law_tape : Cal P w K mg base CX0 1 "_law_tape" (spTape K)) (C_law_take : Cal P w K mg base CX0 1 "_law_take" spTake) (C_law_any_text : Cal P w K mg base CX0 3 "_law_any_text" spAny)
    (C_law_same : Cal P w K mg base CX0 8 "_law_same" (spSame 4)) (C_law_copy : Cal P w K mg base CX0 4 "_law_copy" (spCopy 4)) (C_law_in_order : Cal P w K mg base CX0 1 "_law_in_order" spInOrder)
    (H_law_in_order : CalH P w K mg base 1 "_law_in_order" spInOrder) (H_law_same : CalH P w K mg base 8 "_law_same" (spSame 4))
    (C_apply_joint : Cal P w K mg base (L2N.CX P w) 2 "apply_joint" (spJoint C)) (C_apply_edit : Cal P w K mg base (L2N.CX P w) 3 "apply_edit" (spEdit C)) :
    FnOk P w K mg base CX0 9 f fd ["script"] (spLaw K) := by
  refine F.ok sc_law (fun vs H Q E h => ?_) (fun cdv A outer s H vs Q E hr h => ?_)
  · obtain ⟨a, ns, rfl, _⟩ := h
    rfl
  obtain ⟨a, ns, rfl, hS, h63, q⟩ := h
  refine ⟨_, (pss_cons (ps_set (i := 1) sc_law.nd rfl (Or.inl rfl) (pe_c C_law_tape hr (by first | decide | omega) pass0 (pa_cons (pv 0) pa_nil)))
    (pss_cons (ps_set (i := 2) sc_law.nd rfl (Or.inl rfl) (pe_c C_law_any_text hr (by first | decide | omega) pass0 (pa_cons (pv 1) (pa_cons pe_int pa_nil))))
    (pss_cons (ps_set (i := 3) sc_law.nd rfl (Or.inl rfl) (pe_lst pa_nil))
    (pss_cons (ps_set (i := 4) sc_law.nd rfl (Or.inl rfl) pe_int)
    (pss_cons (ps_for PassesOwn.never rfl (pi_range1 (by rfl) T.range (pa_cons (pe_c C_law_take hr (by first | decide | omega) pass0 (pa_cons (pv 1) (pa_cons pe_int pa_nil))) pa_nil)) (pg_name (i := 5) sc_law.nd rfl (Or.inl rfl)) (pss_cons (ps_set (i := 6) sc_law.nd rfl (Or.inl rfl) (pe_callB (call_min2 rfl) (by rfl) T.min (by decide +kernel) (pa_cons (pe_callB call_len_str (by rfl) T.len PySem.boot_len (pa_cons (pv 2) pa_nil)) (pa_cons (pe_op op_add (pv 4) (pe_c C_law_take hr (by first | decide | omega) pass0 (pa_cons (pv 1) (pa_cons pe_int pa_nil)))) pa_nil))))
    (pss_cons (ps_set (i := 4) sc_law.nd rfl (Or.inl rfl) (pe_callB (call_min2 rfl) (by rfl) T.min (by decide +kernel) (pa_cons (pe_callB call_len_str (by rfl) T.len PySem.boot_len (pa_cons (pv 2) pa_nil)) (pa_cons (pe_op op_add (pv 6) (pe_c C_law_take hr (by first | decide | omega) pass0 (pa_cons (pv 1) (pa_cons pe_int pa_nil)))) pa_nil))))
    (pss_one (ps_expr (pe_bm PySem.F.plainAttrs_list PySem.F.slot_list_append PySem.F.type_list_append mt_append (pv 3) (pa_cons (pe_tup (pa_cons (pv 6) (pa_cons (pv 4) (pa_cons (pe_c C_law_any_text hr (by first | decide | omega) pass0 (pa_cons (pv 1) (pa_cons pe_int pa_nil))) pa_nil)))) pa_nil)))))))
    (pss_cons (ps_set (i := 7) sc_law.nd rfl (Or.inl rfl) (pe_c C_law_take hr (by first | decide | omega) pass0 (pa_cons (pv 1) (pa_cons pe_int pa_nil))))
    (C8.pss_cut (ps_if (PW.pt (pw_and (pt_cmpR op_eq (pv 7) pe_int (nomark _)) (pw_and1 (pt_cmpR op_gt (pe_callB call_len_seq (by rfl) T.len PySem.boot_len (pa_cons (pv 3) pa_nil)) pe_int (nomark _))))) (pss_one (ps_asg (pe_tup (pa_cons (pe_ix (r := rIxL K) ix_list (pv 3) pe_int (fun _ _ => rfl)) (pa_cons (pe_ix (r := rIxL K) ix_list (pv 3) pe_int (fun _ _ => rfl)) pa_nil))) (pg_tup rfl (pgs_cons (pg_sub (pv 3) pe_int set_list) (pgs_cons (pg_sub (pv 3) pe_int set_list) pgs_nil))))) pss_nil)
    (C8.pss_cut (ps_if (PW.pt (pw_and (pt_cmpR op_eq (pv 7) pe_int (nomark _)) (pw_and1 (pt_cmpR (op_neD hr.units) (pv 3) (pe_lst pa_nil) (nomark _))))) (pss_one (ps_expr (pe_bm PySem.F.plainAttrs_list PySem.F.slot_list_append PySem.F.type_list_append mt_append (pv 3) (pa_cons (pe_tup (pa_cons (pe_callB (call_max2 rfl) (by rfl) T.max (by decide +kernel) (pa_cons pe_int (pa_cons (pe_op op_sub (pe_ix (r := rIxT K) ix_tup (pe_ix (r := rIxL K) ix_list (pv 3) (pe_un un_neg pe_int) (fun _ _ => rfl)) pe_int (fun _ _ => rfl)) pe_int) pa_nil))) (pa_cons (pe_callB call_len_str (by rfl) T.len PySem.boot_len (pa_cons (pv 2) pa_nil)) (pa_cons pe_str pa_nil)))) pa_nil)))) pss_nil)
    (pss_cons (ps_set (i := 8) sc_law.nd rfl (Or.inl rfl) (pe_c C_law_copy hr (by first | decide | omega) pass0 (pa_cons (pv 3) pa_nil)))
    (pss_cons (ps_set (i := 9) sc_law.nd rfl (Or.inl rfl) pe_non)
    (pss_cons (L2N.ps_try_many rfl rfl takes0N (fun W pn xe tk _ => (pss_one (ps_set (i := 9) sc_law.nd rfl (Or.inl rfl) (pe_cSN C_apply_joint hr (by decide) tk (pa_cons (pv 2) (pa_cons (pv 3) pa_nil)))))) (.cons ⟨rfl, by decide, .inl T.c_InvalidEdit⟩ (fun a oe cls d pn hz hf => (pss_one (ps_ret (pe_and (pe_not (pe_cH H_law_in_order (room_suite hr) (by first | decide | omega) (hot_suite hz hf) (pa_cons (pv 2) (pa_cons (pv 3) pa_nil)))) (pe_one (pe_cH H_law_same (room_suite hr) (by first | decide | omega) (hot_suite hz hf) (pa_cons (pv 3) (pa_cons (pv 8) pa_nil)))))))) .nil))
    (pss_cons (ps_set (i := 10) sc_law.nd rfl (Or.inl rfl) (pv 2))
    (pss_cons (ps_for PassesOwn.never rfl (pi_range1 (by rfl) T.range (pa_cons (pe_callB call_len_seq (by rfl) T.len PySem.boot_len (pa_cons (pv 3) pa_nil)) pa_nil)) (pg_name (i := 5) sc_law.nd rfl (Or.inl rfl)) (pss_one (ps_set (i := 10) sc_law.nd rfl (Or.inl rfl) (pe_c C_apply_edit hr (by first | decide | omega) passLN (pa_cons (pv 10) (pa_cons (pe_ix (r := rIxL K) ix_list (pv 3) (pe_op op_sub (pe_op op_sub (pe_callB call_len_seq (by rfl) T.len PySem.boot_len (pa_cons (pv 3) pa_nil)) pe_int) (pv 5)) (fun _ _ => rfl)) pa_nil))))))
    (pss_one (ps_ret (pe_and (pe_c C_law_in_order hr (by first | decide | omega) pass0 (pa_cons (pv 2) (pa_cons (pv 3) pa_nil))) (pe_and (pe_c C_law_same hr (by first | decide | omega) pass0 (pa_cons (pv 9) (pa_cons (pv 10) pa_nil))) (pe_one (pe_c C_law_same hr (by first | decide | omega) pass0 (pa_cons (pv 3) (pa_cons (pv 8) pa_nil))))))))))))))))))))), ?_⟩
  refine ⟨_, rfl, a, ns, rfl, hS, h63, fun t c H1 s1 nt nc tp1 => ?_⟩
  refine ⟨_, rfl, t, c, 14, rfl, tp1, by omega, fun z H2 oz lz b2 tp2 => ?_⟩
  have hzl := len_tl z
  have oza : (tl z).all okc = true := List.all_eq_true.mpr oz
  refine ⟨Nat.zero_le _, fun L nL => ?_⟩
  have tp3 : Tp (upd H2 L (.lst [])) t c := tp2.new nL
  have ea0 : EdAt (upd H2 L (.lst [])) L [] := ⟨[], upd_same, rfl, fun i r s e n p _ => by simp at p⟩
  generalize upd H2 L (.lst []) = H3 at tp3 ea0 ⊢
  refine ⟨_, rfl, t, c, 6, rfl, tp3, by decide, by decide, fun r H4 r0 r6 b4 tp4 => ⟨r, rfl, by omega, by omega, ?_⟩⟩
  refine for_range (lo := 0) (n := r.toNat) (fun i σ H' => ∃ (at' : Int) (v5 v6 : Option V) (eds : List (Int × Int × Str)), σ = [some (.ref a), some (.ref t), some (.str z), some (.ref L), some (.int at'), v5, v6, none, none, none, none] ∧ Tp H' t c ∧ EdAt H' L eds ∧ eds.length = i ∧ Small eds)
    ⟨0, none, none, [], rfl, tp4, ea0.but tp3 b4, rfl, fun _ h => by simp at h⟩ ?_ ?_
  · rintro i σ H5 hi ⟨at', v5, v6, eds, rfl, tp5, ea, hl, sm⟩
    refine ⟨_, rfl, z, rfl, small (by omega), _, rfl, _, rfl, t, c, 4, rfl, tp5, by decide, by decide, fun r1 H6 g0 g1 b6 tp6 => ⟨_, _, rfl, rfl, _, _, rfl, ?_⟩⟩
    generalize (if at' + r1 < (z.length : Int) then at' + r1 else (z.length : Int)) = st
    refine ⟨_, rfl, z, rfl, small (by omega), _, rfl, _, rfl, t, c, 4, rfl, tp6, by decide, by decide, fun r2 H7 g2 g3 b7 tp7 => ⟨_, _, rfl, rfl, _, _, rfl, ?_⟩⟩
    generalize (if st + r2 < (z.length : Int) then st + r2 else (z.length : Int)) = en
    have ea7 := (ea.but tp5 b6).but tp6 b7
    obtain ⟨rs, hL, _⟩ := id ea7
    refine ⟨_, rfl, .inl ⟨rfl, _, SqL.of hL⟩, _, rfl, _, rfl, _, rfl, t, c, 2, rfl, tp7, by omega, fun n H8 on ln b8 tp8 => ⟨(by show 3 ≤ sizeLine; decide), fun p np => ?_⟩⟩
    have ea8 := ea7.but tp7 b8
    obtain ⟨xs, hx, hxl, ea9⟩ := ea8.push (s := st) (e := en) (n := n) np
    refine ⟨L, xs, _, rfl, rfl, hx, Nat.lt_of_le_of_lt (show xs.length ≤ 10 by omega) (by decide), ?_⟩
    have Lt : L ≠ t := by
      obtain ⟨rs8, hL8, _⟩ := ea8
      exact tp8.ne hL8 fun _ q => nomatch q
    have Lc : L ≠ c := (tp2.nc nL).symm
    refine ⟨_, _, _, eds ++ [(st, en, n)], rfl, (tp8.new np).upd Lt.symm Lc.symm, ea9, by simp [hl], fun x hx => ?_⟩
    rcases List.mem_append.mp hx with hx | hx
    · exact sm x hx
    · rw [List.mem_singleton.mp hx]
      exact ⟨ln, List.all_eq_true.mpr on⟩
  rintro σ H5 ⟨at', v5, v6, eds, rfl, tp5, ea, hl, sm⟩
  have hl : eds.length ≤ 5 := by omega
  -- choice
  refine ⟨_, rfl, t, c, 8, rfl, tp5, by decide, by decide, fun ch H6 c0 c8 b6 tp6 => ?_⟩
  have ea6 := ea.but tp5 b6
  -- swapped
  refine ⟨fun σ H' => ∃ eds : List (Int × Int × Str), σ = [some (.ref a), some (.ref t), some (.str z), some (.ref L), some (.int at'), v5, v6, some (.int ch), none, none, none] ∧ EdAt H' L eds ∧ eds.length ≤ 5 ∧ Small eds, ?_, ?_⟩
  · refine ⟨_, rfl, rfl, _, rfl, ite2 (fun _ => ?_) (fun _ => iteF ⟨eds, rfl, ea6, hl, sm⟩)⟩
    obtain ⟨rs6, hL6, hrl6, _⟩ := id ea6
    refine ⟨_, rfl, L, _, rfl, .inl (.inl (.inl hL6)), _, _, rfl, rfl, _, rfl, ite2 (fun k => ?_) (fun _ => ⟨eds, rfl, ea6, hl, sm⟩)⟩
    have k : ((rs6.map V.ref).length : Int) > 1 := of_decide_eq_true k
    rw [List.length_map, hrl6] at k
    match eds, hl, sm, ea6, k with
    | x1 :: x2 :: r6, hl, sm, ea6, k =>
      obtain ⟨u, v, xs, hx, sw⟩ := ea6.swap
      refine ⟨_, rfl, L, _, 1, _, rfl, rfl, .inl (.inl hx), atI_nat (j := 1) rfl, _, rfl, L, _, 0, _, rfl, rfl, .inl (.inl hx), atI_nat (j := 0) rfl, (by show 2 ≤ sizeLine; decide), fun p np => ?_⟩
      have nL2 : L ≠ p := ne_of_none hx np
      have h1 : upd H6 p (.tup [.ref v, .ref u]) L = some (.lst (.ref u :: .ref v :: xs)) := by rw [upd_ne nL2]; exact hx
      refine ⟨p, _, rfl, .inl (.inl upd_same), rfl, _, _, rfl, ?_⟩
      refine ⟨_, rfl, L, _, 0, 0, rfl, rfl, h1, ixN_of (j := 0) (Nat.succ_pos _), ?_⟩
      refine ⟨_, _, rfl, _, rfl, L, _, 1, 1, rfl, rfl, upd_same, ixN_of (j := 1) (Nat.succ_lt_succ (Nat.succ_pos _)), rfl, ?_⟩
      refine ⟨x2 :: x1 :: r6, rfl, sw _ (fun q o nq eq => ?_) upd_same, hl, fun x hx => ?_⟩
      · rw [upd_ne nq, upd_ne nq, upd_ne (ne_of_none eq np)]
        exact eq
      · rcases List.mem_cons.mp hx with hx | hx
        · exact sm x (hx ▸ List.mem_cons_of_mem _ List.mem_cons_self)
        · rcases List.mem_cons.mp hx with hx | hx
          · exact sm x (hx ▸ List.mem_cons_self)
          · exact sm x (List.mem_cons_of_mem _ (List.mem_cons_of_mem _ hx))
  clear ea6 ea hl sm
  rintro σ H7 ⟨eds, rfl, ea7, hl, sm⟩
  -- one more
  refine ⟨fun σ H' => ∃ eds : List (Int × Int × Str), σ = [some (.ref a), some (.ref t), some (.str z), some (.ref L), some (.int at'), v5, v6, some (.int ch), none, none, none] ∧ EdAt H' L eds ∧ eds.length ≤ 6 ∧ Small eds, ?_, ?_⟩
  · refine ⟨_, rfl, rfl, _, rfl, ite2 (fun _ => ?_) (fun _ => iteF ⟨eds, rfl, ea7, by omega, sm⟩)⟩
    refine ⟨_, rfl, Nat.zero_le _, fun p np => ?_⟩
    have ea8 := ea7.same (same_new (o := .lst []) np)
    have hp8 : upd H7 p (.lst []) p = some (.lst []) := upd_same
    generalize upd H7 p (.lst []) = H8 at ea8 hp8 ⊢
    refine ⟨.list (eds.map edd), .list [], ea8.dp, .lst (.inl (.inl hp8)) .nil, shaped_eds fun x hx => (sm x hx).2, rfl, _, rfl, ite2 (fun k => ?_) (fun _ => ⟨eds, rfl, ea8, by omega, sm⟩)⟩
    have hne : eds ≠ [] := fun e => by
      rw [e] at k
      cases k
    obtain ⟨rs8, hL8, hrl8, hrs8⟩ := id ea8
    have hpos : 0 < eds.length := List.length_pos_iff.mpr hne
    obtain ⟨r9, hr9⟩ : ∃ r9, rs8[rs8.length - 1]? = some r9 := ⟨_, List.getElem?_eq_getElem (by omega)⟩
    have hlast := hrs8 (rs8.length - 1) r9 eds[rs8.length - 1].1 eds[rs8.length - 1].2.1 eds[rs8.length - 1].2.2 hr9 (List.getElem?_eq_getElem (by omega))
    have hat : atI (rs8.map V.ref) (-1) = some (.ref r9) := by
      unfold atI ixN
      rw [if_neg (by omega), List.length_map, if_pos (by omega)]
      show (rs8.map V.ref)[((-1 : Int) + (rs8.length : Int)).toNat]? = _
      rw [show ((-1 : Int) + (rs8.length : Int)).toNat = rs8.length - 1 by omega, List.getElem?_map, hr9]
      rfl
    generalize eds[rs8.length - 1].2.1 = en9 at hlast
    refine ⟨_, rfl, .inl ⟨rfl, _, SqL.of hL8⟩, _, rfl, _, rfl, L, _, _, _, rfl, rfl, .inl (.inl hL8), hat, r9, _, 1, _, rfl, rfl, .inl (.inl hlast), rfl, _, _, rfl, rfl, _, _, rfl, _, rfl, z, rfl, small (by omega), (by show 3 ≤ sizeLine; decide), fun p2 np2 => ?_⟩
    obtain ⟨xs, hx, hxl, ea9⟩ := ea8.push (s := if en9 - 1 > 0 then en9 - 1 else 0) (e := (z.length : Int)) (n := ("" : Str)) np2
    refine ⟨L, xs, _, rfl, rfl, hx, Nat.lt_of_le_of_lt (show xs.length ≤ 10 by omega) (by decide), ?_⟩
    refine ⟨eds ++ [(if en9 - 1 > 0 then en9 - 1 else 0, (z.length : Int), ("" : Str))], rfl, ea9, by rw [List.length_append, List.length_singleton]; omega, fun x hx => ?_⟩
    rcases List.mem_append.mp hx with hx | hx
    · exact sm x hx
    · rw [List.mem_singleton.mp hx]
      exact ⟨Nat.zero_le _, rfl⟩
  clear ea7 hl sm
  rintro σ H8 ⟨eds, rfl, ea8, hl, sm⟩
  have news1 := news_small sm
  have ok1 : ∀ x ∈ eds, (tl x.2.2).all okc = true := fun x hx => (sm x hx).2
  have io := inOrd_iff (z := tl z) (d := 0) ok1
  have ns1 := nsum_edl eds
  -- before
  refine ⟨_, rfl, .ref L, rfl, ea8.al (by omega), fun y H9 s9 al9 => ?_⟩
  have aly := (al9 (fun _ => False) (fun _ k => k.elim) (.of (ea8.al (by omega)))).al
  clear al9
  have ea9 := ea8.same s9
  -- the joint edit
  refine ⟨_, rfl, _, rfl, z, L, eds, rfl, ea9, by omega, by omega, by omega, fun r H10 hr10 s10 => ?_, fun H10 hr10 s10 => ⟨true, T.te, fun _ ax hax => ?_, fun q => nomatch q⟩⟩
  rotate_left
  · have hio : inOrd ((tl z).length : Int) 0 eds = false := by
      cases hc : inOrd ((tl z).length : Int) 0 eds with
      | false => rfl
      | true =>
        have k := io.mp hc
        cases hj : jgo (tl z) 0 (edl eds) with
        | none => exact absurd hj k
        | some r =>
          have l1 := jgo_len (Nat.zero_le _) hj
          rw [joint_some hj, if_pos (by omega)] at hr10
          cases hr10
    refine ⟨_, rfl, _, rfl, z, L, eds, rfl, ea9.same s10, by omega, ?_⟩
    rw [hio]
    exact ⟨_, rfl, _, rfl, iteT ⟨_, rfl, _, rfl, _, _, rfl, aly.same s10, q _⟩⟩
  cases hj : jgo (tl z) 0 (edl eds) with
  | none =>
    rw [joint_none hj] at hr10
    cases hr10
  | some t0 =>
  have l1 := jgo_len (Nat.zero_le _) hj
  have er : r = t0 := by
    rw [joint_some hj, if_pos (by omega)] at hr10
    exact (Option.some.inj hr10).symm
  subst er
  have f0 := jgo_fold (Nat.zero_le _) hj
  rw [List.take_zero, List.nil_append] at f0
  have hio : inOrd ((tl z).length : Int) 0 eds = true := io.mpr (by rw [hj]; exact fun k => by cases k)
  have ea10 := ea9.same s10
  obtain ⟨rs, hL10, hrl, hrs⟩ := id ea10
  have edlen : (edl eds).length = eds.length := List.length_map _
  have hml : (rs.map V.ref).length = eds.length := by rw [List.length_map, hrl]
  refine ⟨_, rfl, ?_⟩
  refine ⟨_, rfl, L, _, rfl, .inl (.inl (.inl hL10)), _, rfl, by omega, by omega, for_range (lo := 0) (n := (((rs.map V.ref).length : Nat) : Int).toNat) (fun i σ H' => ∃ (v5 : Option V) (T0 : Str), σ = [some (.ref a), some (.ref t), some (.str z), some (.ref L), some (.int at'), v5, v6, some (.int ch), some y, some (.str (strL r)), some (.str T0)] ∧ Same H10 H' ∧ tl T0 = ((edl eds).drop (eds.length - i)).foldr stp (tl z))
    ⟨v5, z, rfl, fun _ _ h => h, by rw [Nat.sub_zero, ← edlen, List.drop_length]; rfl⟩ ?_ ?_⟩
  · rintro i σ H' hi ⟨v5', T0, rfl, s', hT⟩
    have hi1 : i < eds.length := by omega
    have hj1 : eds.length - 1 - i < eds.length := by omega
    obtain ⟨rj, hrj⟩ : ∃ rj, rs[eds.length - 1 - i]? = some rj := ⟨_, List.getElem?_eq_getElem (by omega)⟩
    have hgj : (rs.map V.ref)[eds.length - 1 - i]? = some (V.ref rj) := by rw [List.getElem?_map, hrj]; rfl
    have hoj := s' _ _ (hrs (eds.length - 1 - i) rj eds[eds.length - 1 - i].1 eds[eds.length - 1 - i].2.1 eds[eds.length - 1 - i].2.2 hrj (List.getElem?_eq_getElem hj1))
    have hej : (edl eds)[eds.length - 1 - i]? = some (eds[eds.length - 1 - i].1, eds[eds.length - 1 - i].2.1, tl eds[eds.length - 1 - i].2.2) := by
      unfold edl
      rw [List.getElem?_map, List.getElem?_eq_getElem hj1]
      rfl
    have hsm := (sm _ (List.getElem_mem hj1)).1
    obtain ⟨k1, k2⟩ := step_fit hj hej (by omega)
    rw [show eds.length - 1 - i + 1 = eds.length - i by omega, ← hT] at k1 k2
    generalize eds[eds.length - 1 - i] = ej at hoj hej hsm k1
    have hL' := s' _ _ hL10
    refine ⟨_, rfl, _, rfl, _, rfl, L, _, rfl, .inl (.inl (.inl hL')), _, _, rfl, rfl, _, rfl, _, _, rfl, rfl, L, _, _, _, rfl, rfl, .inl (.inl hL'), at_of (j := eds.length - 1 - i) (by omega) hgj, ?_⟩
    refine ⟨T0, rj, _, _, _, rfl, hoj, by rw [len_tl]; omega, by omega, fun r2 H2' hr2 s2 => ?_, fun H2' hr2 _ => ?_⟩
    rotate_left
    · rw [k1] at hr2
      cases hr2
    refine ⟨_, strL r2, rfl, s'.trans s2, ?_⟩
    have e2 : r2 = ((edl eds).drop (eds.length - 1 - i)).foldr stp (tl z) := by
      rw [k1] at hr2
      exact (Option.some.inj hr2).symm
    rw [show eds.length - (i + 1) = eds.length - 1 - i by omega, ← e2]
  rintro σ H11 ⟨v5', T0, rfl, s11, hT⟩
  rw [Int.toNat_natCast, hml, Nat.sub_self, List.drop_zero, f0] at hT
  have eT : strL r = T0 := ext_tl hT.symm
  rw [eT]
  refine ⟨_, rfl, _, rfl, z, L, eds, rfl, ea10.same s11, by omega, ?_⟩
  rw [hio]
  exact ⟨_, rfl, iteT ⟨_, rfl, _, rfl, _, _, rfl, Al.sc (n := 3) rfl, _, rfl, iteT ⟨_, rfl, _, rfl, _, _, rfl, (aly.same s10).same s11, q _⟩⟩⟩
end

end Sn

namespace Sn
open PySem PySem.Spec PyProof.Rows L2 TL
theorem all_mk {l : PySem.W.OpenLaw} {w : World} {K : PySem.W.Frag} {h : Heap} {mg : Str → Option Value} {fa f0 f1 f2 f3 f4 f5 f6 f7 f8 f9 f10 f11 f12 f13 : Addr}
    {od0 an0 od1 an1 od2 an2 od3 an3 od4 an4 od5 an5 od6 an6 od7 an7 od8 an8 od9 an9 od10 an10 od11 an11 od12 an12 od13 an13 : Option Addr} {sl0 sl1 sl2 sl3 sl4 sl5 sl6 sl7 sl8 sl9 sl10 sl11 sl12 sl13 : Array (Option Value)} {oc0 kV0 dc0 pm0 cd0 ct0 oc1 kV1 dc1 pm1 cd1 ct1 oc2 kV2 dc2 pm2 cd2 ct2 oc3 kV3 dc3 pm3 cd3 ct3 oc4 kV4 dc4 pm4 cd4 ct4 oc5 kV5 dc5 pm5 cd5 ct5 oc6 kV6 dc6 pm6 cd6 ct6 oc7 kV7 dc7 pm7 cd7 ct7 oc8 kV8 dc8 pm8 cd8 ct8 oc9 kV9 dc9 pm9 cd9 ct9 oc10 kV10 dc10 pm10 cd10 ct10 oc11 kV11 dc11 pm11 cd11 ct11 oc12 kV12 dc12 pm12 cd12 ct12 oc13 kV13 dc13 pm13 cd13 ct13 : Value}
    {C : Addr} {tL tP : PySem.Tok} (X : K.In h) (G : h.Ns mainGlobals mg) (hfa : mg "law" = some (.ref fa))
    (a0 : PySem.W.nsIn K mainGlobals "may_stand" = some (some (.ref f0)))
    (l0 : K.lookup f0 = some ⟨oc0, od0, .func (PySem.W.fnOf "may_stand" "may_stand" (defArgs s_may_stand) (defBody s_may_stand) (defScope s_may_stand) .none kV0 dc0 pm0 an0 cd0 ct0), sl0⟩)
    (c0 : PySem.W.codeIn K cd0 "may_stand" = true)
    (k0 : PySem.W.keepIn K (.ref f0) = true)
    (a1 : PySem.W.nsIn K mainGlobals "apply_joint" = some (some (.ref f1)))
    (l1 : K.lookup f1 = some ⟨oc1, od1, .func (PySem.W.fnOf "apply_joint" "apply_joint" (defArgs s_apply_joint) (defBody s_apply_joint) (defScope s_apply_joint) .none kV1 dc1 pm1 an1 cd1 ct1), sl1⟩)
    (c1 : PySem.W.codeIn K cd1 "apply_joint" = true)
    (k1 : PySem.W.keepIn K (.ref f1) = true)
    (a2 : PySem.W.nsIn K mainGlobals "apply_edit" = some (some (.ref f2)))
    (l2 : K.lookup f2 = some ⟨oc2, od2, .func (PySem.W.fnOf "apply_edit" "apply_edit" (defArgs s_apply_edit) (defBody s_apply_edit) (defScope s_apply_edit) .none kV2 dc2 pm2 an2 cd2 ct2), sl2⟩)
    (c2 : PySem.W.codeIn K cd2 "apply_edit" = true)
    (k2 : PySem.W.keepIn K (.ref f2) = true)
    (a3 : PySem.W.nsIn K mainGlobals "_law_tape" = some (some (.ref f3)))
    (l3 : K.lookup f3 = some ⟨oc3, od3, .func (PySem.W.fnOf "_law_tape" "_law_tape" (defArgs s_tape) (defBody s_tape) (defScope s_tape) .none kV3 dc3 pm3 an3 cd3 ct3), sl3⟩)
    (c3 : PySem.W.codeIn K cd3 "_law_tape" = true)
    (k3 : PySem.W.keepIn K (.ref f3) = true)
    (a4 : PySem.W.nsIn K mainGlobals "_law_take" = some (some (.ref f4)))
    (l4 : K.lookup f4 = some ⟨oc4, od4, .func (PySem.W.fnOf "_law_take" "_law_take" (defArgs s_take) (defBody s_take) (defScope s_take) .none kV4 dc4 pm4 an4 cd4 ct4), sl4⟩)
    (c4 : PySem.W.codeIn K cd4 "_law_take" = true)
    (k4 : PySem.W.keepIn K (.ref f4) = true)
    (a5 : PySem.W.nsIn K mainGlobals "_law_is_integer" = some (some (.ref f5)))
    (l5 : K.lookup f5 = some ⟨oc5, od5, .func (PySem.W.fnOf "_law_is_integer" "_law_is_integer" (defArgs s_isInt) (defBody s_isInt) (defScope s_isInt) .none kV5 dc5 pm5 an5 cd5 ct5), sl5⟩)
    (c5 : PySem.W.codeIn K cd5 "_law_is_integer" = true)
    (k5 : PySem.W.keepIn K (.ref f5) = true)
    (a6 : PySem.W.nsIn K mainGlobals "_law_same_items" = some (some (.ref f6)))
    (l6 : K.lookup f6 = some ⟨oc6, od6, .func (PySem.W.fnOf "_law_same_items" "_law_same_items" (defArgs s_sameItems) (defBody s_sameItems) (defScope s_sameItems) .none kV6 dc6 pm6 an6 cd6 ct6), sl6⟩)
    (c6 : PySem.W.codeIn K cd6 "_law_same_items" = true)
    (k6 : PySem.W.keepIn K (.ref f6) = true)
    (a7 : PySem.W.nsIn K mainGlobals "_law_same" = some (some (.ref f7)))
    (l7 : K.lookup f7 = some ⟨oc7, od7, .func (PySem.W.fnOf "_law_same" "_law_same" (defArgs s_same) (defBody s_same) (defScope s_same) .none kV7 dc7 pm7 an7 cd7 ct7), sl7⟩)
    (c7 : PySem.W.codeIn K cd7 "_law_same" = true)
    (k7 : PySem.W.keepIn K (.ref f7) = true)
    (a8 : PySem.W.nsIn K mainGlobals "_law_copy" = some (some (.ref f8)))
    (l8 : K.lookup f8 = some ⟨oc8, od8, .func (PySem.W.fnOf "_law_copy" "_law_copy" (defArgs s_copy) (defBody s_copy) (defScope s_copy) .none kV8 dc8 pm8 an8 cd8 ct8), sl8⟩)
    (c8 : PySem.W.codeIn K cd8 "_law_copy" = true)
    (k8 : PySem.W.keepIn K (.ref f8) = true)
    (a9 : PySem.W.nsIn K mainGlobals "_law_snippet" = some (some (.ref f9)))
    (l9 : K.lookup f9 = some ⟨oc9, od9, .func (PySem.W.fnOf "_law_snippet" "_law_snippet" (defArgs s_snippet) (defBody s_snippet) (defScope s_snippet) .none kV9 dc9 pm9 an9 cd9 ct9), sl9⟩)
    (c9 : PySem.W.codeIn K cd9 "_law_snippet" = true)
    (k9 : PySem.W.keepIn K (.ref f9) = true)
    (a10 : PySem.W.nsIn K mainGlobals "_law_char" = some (some (.ref f10)))
    (l10 : K.lookup f10 = some ⟨oc10, od10, .func (PySem.W.fnOf "_law_char" "_law_char" (defArgs s_char) (defBody s_char) (defScope s_char) .none kV10 dc10 pm10 an10 cd10 ct10), sl10⟩)
    (c10 : PySem.W.codeIn K cd10 "_law_char" = true)
    (k10 : PySem.W.keepIn K (.ref f10) = true)
    (a11 : PySem.W.nsIn K mainGlobals "_law_any_text" = some (some (.ref f11)))
    (l11 : K.lookup f11 = some ⟨oc11, od11, .func (PySem.W.fnOf "_law_any_text" "_law_any_text" (defArgs s_anyText) (defBody s_anyText) (defScope s_anyText) .none kV11 dc11 pm11 an11 cd11 ct11), sl11⟩)
    (c11 : PySem.W.codeIn K cd11 "_law_any_text" = true)
    (k11 : PySem.W.keepIn K (.ref f11) = true)
    (a12 : PySem.W.nsIn K mainGlobals "_law_in_order" = some (some (.ref f12)))
    (l12 : K.lookup f12 = some ⟨oc12, od12, .func (PySem.W.fnOf "_law_in_order" "_law_in_order" (defArgs s_inOrder) (defBody s_inOrder) (defScope s_inOrder) .none kV12 dc12 pm12 an12 cd12 ct12), sl12⟩)
    (c12 : PySem.W.codeIn K cd12 "_law_in_order" = true)
    (k12 : PySem.W.keepIn K (.ref f12) = true)
    (a13 : PySem.W.nsIn K mainGlobals "law" = some (some (.ref f13)))
    (l13 : K.lookup f13 = some ⟨oc13, od13, .func (PySem.W.fnOf "law" "law" (defArgs s_law) (defBody s_law) (defScope s_law) .none kV13 dc13 pm13 an13 cd13 ct13), sl13⟩)
    (c13 : PySem.W.codeIn K cd13 "law" = true)
    (k13 : PySem.W.keepIn K (.ref f13) = true)
    (z0 : PySem.W.nsIn K mainGlobals "abs" = some none)
    (z1 : PySem.W.nsIn K mainGlobals "int" = some none)
    (z2 : PySem.W.nsIn K mainGlobals "len" = some none)
    (z3 : PySem.W.nsIn K mainGlobals "range" = some none)
    (z4 : PySem.W.nsIn K mainGlobals "isinstance" = some none)
    (z5 : PySem.W.nsIn K mainGlobals "bool" = some none)
    (z6 : PySem.W.nsIn K mainGlobals "str" = some none)
    (z7 : PySem.W.nsIn K mainGlobals "tuple" = some none)
    (z8 : PySem.W.nsIn K mainGlobals "list" = some none)
    (z9 : PySem.W.nsIn K mainGlobals "min" = some none)
    (z10 : PySem.W.nsIn K mainGlobals "max" = some none)
    (z11 : PySem.W.nsIn K mainGlobals "ord" = some none)
    (z12 : PySem.W.nsIn K mainGlobals "dict" = some none)
    (gL : PySem.W.nsIn K mainGlobals "LONGEST" = some (some (.int 4000 tL)))
    (gP : PySem.W.nsIn K mainGlobals "PERCENT" = some (some (.int 37 tP)))
    (aC : PySem.W.nsIn K mainGlobals "InvalidEdit" = some (some (.ref C)))
    (xI : PySem.W.excIn K C [.type "ValueError", .type "Exception", .type "BaseException", .type "object"] "ValueError.__new__" = true)
    (kI : PySem.W.keepIn K (.ref C) = true)
    (bI : PySem.W.subIn K (.ref C) (.type "BaseException") = some true)
    (tI : PySem.W.typeIn K (.ref C) = some (.type "type"))
    (iC : PySem.W.isClsIn K C = true)
    (sC : PySem.W.subIn K (.ref C) (.ref C) = some true) :
    ∃ fd : FuncData, (∀ (s : Shared) (v : Value), BindsTo s fd ⟨[v], []⟩ [("script", v)]) ∧ ∀ base : Heap, K.In base → base.Ns mainGlobals mg → FnOk l.prog w K mg base CX0 9 fa fd ["script"] (spLaw K) := by
  have e := hfa.symm.trans (PySem.W.mg_of X G a13)
  cases e
  have F0 := fun_mk (st := s_may_stand) l0 c0 k0
  have b0 := F0.binds (ps := ["characters"]) fun _ _ _ _ _ _ us hl => match us, hl with | [_], _ => rfl
  have m0 := PySem.W.mg_of X G a0
  have F1 := fun_mk (st := s_apply_joint) l1 c1 k1
  have b1 := F1.binds (ps := ["text", "edits"]) fun _ _ _ _ _ _ us hl => match us, hl with | [_, _], _ => rfl
  have m1 := PySem.W.mg_of X G a1
  have F2 := fun_mk (st := s_apply_edit) l2 c2 k2
  have b2 := F2.binds (ps := ["text", "edit"]) fun _ _ _ _ _ _ us hl => match us, hl with | [_, _], _ => rfl
  have m2 := PySem.W.mg_of X G a2
  have F3 := fun_mk (st := s_tape) l3 c3 k3
  have b3 := F3.binds (ps := ["script"]) fun _ _ _ _ _ _ us hl => match us, hl with | [_], _ => rfl
  have m3 := PySem.W.mg_of X G a3
  have F4 := fun_mk (st := s_take) l4 c4 k4
  have b4 := F4.binds (ps := ["tape", "many"]) fun _ _ _ _ _ _ us hl => match us, hl with | [_, _], _ => rfl
  have m4 := PySem.W.mg_of X G a4
  have F5 := fun_mk (st := s_isInt) l5 c5 k5
  have b5 := F5.binds (ps := ["actual"]) fun _ _ _ _ _ _ us hl => match us, hl with | [_], _ => rfl
  have m5 := PySem.W.mg_of X G a5
  have F6 := fun_mk (st := s_sameItems) l6 c6 k6
  have b6 := F6.binds (ps := ["actual", "expected"]) fun _ _ _ _ _ _ us hl => match us, hl with | [_, _], _ => rfl
  have m6 := PySem.W.mg_of X G a6
  have F7 := fun_mk (st := s_same) l7 c7 k7
  have b7 := F7.binds (ps := ["actual", "expected"]) fun _ _ _ _ _ _ us hl => match us, hl with | [_, _], _ => rfl
  have m7 := PySem.W.mg_of X G a7
  have F8 := fun_mk (st := s_copy) l8 c8 k8
  have b8 := F8.binds (ps := ["thing"]) fun _ _ _ _ _ _ us hl => match us, hl with | [_], _ => rfl
  have m8 := PySem.W.mg_of X G a8
  have F9 := fun_mk (st := s_snippet) l9 c9 k9
  have b9 := F9.binds (ps := ["tape"]) fun _ _ _ _ _ _ us hl => match us, hl with | [_], _ => rfl
  have m9 := PySem.W.mg_of X G a9
  have F10 := fun_mk (st := s_char) l10 c10 k10
  have b10 := F10.binds (ps := ["tape"]) fun _ _ _ _ _ _ us hl => match us, hl with | [_], _ => rfl
  have m10 := PySem.W.mg_of X G a10
  have F11 := fun_mk (st := s_anyText) l11 c11 k11
  have b11 := F11.binds (ps := ["tape", "most"]) fun _ _ _ _ _ _ us hl => match us, hl with | [_, _], _ => rfl
  have m11 := PySem.W.mg_of X G a11
  have F12 := fun_mk (st := s_inOrder) l12 c12 k12
  have b12 := F12.binds (ps := ["text", "edits"]) fun _ _ _ _ _ _ us hl => match us, hl with | [_, _], _ => rfl
  have m12 := PySem.W.mg_of X G a12
  have F13 := fun_mk (st := s_law) l13 c13 k13
  refine ⟨PySem.W.fnOf "law" "law" (defArgs s_law) (defBody s_law) (defScope s_law) .none kV13 dc13 pm13 an13 cd13 ct13, fun s v => .of_eq rfl, fun base _ _ => ?_⟩
  have T : Nm2 K mg C tL tP := ⟨⟨⟨(PySem.W.mg_none_of X G z0), (PySem.W.mg_none_of X G z1), (PySem.W.mg_none_of X G z2), (PySem.W.mg_none_of X G z3), (PySem.W.mg_none_of X G z4), (PySem.W.mg_none_of X G z5), (PySem.W.mg_none_of X G z6), (PySem.W.mg_none_of X G z7), (PySem.W.mg_none_of X G z8)⟩, (PySem.W.mg_none_of X G z11), PySem.W.mg_of X G gL, PySem.W.mg_of X G gP, PySem.W.mg_of X G aC, xI, kI, bI, tI, exm_of bI iC tI sC⟩, (PySem.W.mg_none_of X G z9), (PySem.W.mg_none_of X G z10), (PySem.W.mg_none_of X G z12)⟩
  have C_law_tape : Cal l.prog w K mg base CX0 1 "_law_tape" (spTape K) := ⟨_, _, _, ok_tape F3 T.toNm, m3, F3.kp, b3⟩
  have C_law_take : Cal l.prog w K mg base CX0 1 "_law_take" spTake := ⟨_, _, _, ok_take F4 T.toNm, m4, F4.kp, b4⟩
  have C_law_is_integer : Cal l.prog w K mg base CX0 1 "_law_is_integer" spIsInt := ⟨_, _, _, ok_isInt F5 T.toNm, m5, F5.kp, b5⟩
  have C_law_same : Cal l.prog w K mg base CX0 8 "_law_same" (spSame 4) := both F7 b7 m7 F6 b6 m6 T.toNm C_law_is_integer 4
  have C_law_snippet : Cal l.prog w K mg base CX0 2 "_law_snippet" spSnippet := ⟨_, _, _, ok_snippet F9 T.toNm C_law_take, m9, F9.kp, b9⟩
  have C_law_char : Cal l.prog w K mg base CX0 2 "_law_char" spChar := ⟨_, _, _, ok_char F10 T.toNm C_law_take, m10, F10.kp, b10⟩
  have C_law_any_text : Cal l.prog w K mg base CX0 3 "_law_any_text" spAny := ⟨_, _, _, ok_any F11 T.toNm C_law_take C_law_char C_law_snippet, m11, F11.kp, b11⟩
  have C_may_stand : Cal l.prog w K mg base CX0 1 "may_stand" spMay := ⟨_, _, _, ok_may_stand F0 T.toNmJ, m0, F0.kp, b0⟩
  have C_apply_joint : Cal l.prog w K mg base (L2N.CX l.prog w) 2 "apply_joint" (spJoint C) := ⟨_, _, _, ok_apply_joint F1 T.toNmJ C_may_stand, m1, F1.kp, b1⟩
  have C_apply_edit : Cal l.prog w K mg base (L2N.CX l.prog w) 3 "apply_edit" (spEdit C) := ⟨_, _, _, ok_apply_edit F2 T.toNmJ C_apply_joint, m2, F2.kp, b2⟩
  have C_law_copy : Cal l.prog w K mg base CX0 4 "_law_copy" (spCopy 4) := copies F8 b8 m8 T.toNm T.dict_ 4
  have C_law_in_order : Cal l.prog w K mg base CX0 1 "_law_in_order" spInOrder := ⟨_, _, _, ok_inOrder F12 T.toNm, m12, F12.kp, b12⟩
  have H_law_is_integer : CalH l.prog w K mg base 1 "_law_is_integer" spIsInt := ⟨_, _, _, isIntH F5 T.toNm, m5, F5.kp, b5⟩
  have H_law_same : CalH l.prog w K mg base 8 "_law_same" (spSame 4) := bothH F7 b7 m7 F6 b6 m6 T.toNm H_law_is_integer 4
  have H_law_in_order : CalH l.prog w K mg base 1 "_law_in_order" spInOrder := ⟨_, _, _, inOrderH F12 T.toNm, m12, F12.kp, b12⟩
  exact ok_law F13 T C_law_tape C_law_take C_law_any_text C_law_same C_law_copy C_law_in_order H_law_in_order H_law_same C_apply_joint C_apply_edit
theorem walk {l : PySem.W.OpenLaw} {q : Program} {loose : List Str} {XP : (Str → Option Value) → Heap → Prop} {YP : World → Heap → Prop} {d : DefRec} {K : Params → PySem.W.Frag} (hn : l.most = some 63) (hdf : d.params.defaults = [])
    (hY : ∀ (w : World) (h : Heap), YP w h → (K w.params).In h)
    (F : ∀ (w : World) (mg : Str → Option Value) (fa : Addr) (h : Heap), (K w.params).In h → h.Ns mainGlobals mg → mg d.name = some (.ref fa) →
      ∃ fd : FuncData, (∀ (s : Shared) (u : Value), BindsTo s fd ⟨[u], []⟩ [("script", u)]) ∧ ∀ base : Heap, (K w.params).In base → base.Ns mainGlobals mg → FnOk l.prog w (K w.params) mg base CX0 9 fa fd ["script"] (spLaw (K w.params))) :
    PySem.W.WalkO q loose XP YP l.row.toRowW d [] (fun f vs => PySem.call f vs) :=
  L2.walk_of (n := 63) (k := 9) (x := "script") (CX := fun _ => CX0) (sp := fun w => spLaw (K w.params)) hn (by decide) hdf ⟨rfl, by decide, by decide⟩ hY F (fun _ _ a ns hl _ hS => ⟨a, ns, rfl, hS, hl, fun _ => rfl⟩) fun _ _ _ _ _ z => z
end Sn
open PySem PySem.W PyProof.Rows
set_option maxRecDepth 100000 in
set_option maxHeartbeats 0 in
theorem PySem.Challenge.cw_samenames_k02_joint_edits_holds : PySem.Challenge.rw_samenames_k02_joint_edits.Holds := by
  w_on; o_law; k_head; (case hw => w_witness2)
  k_fill
  refine Sn.walk (l := PySem.Challenge.rw_samenames_k02_joint_edits) rfl rfl (fun w h Y => PySem.W.kIn_of Y) ?F
  case F =>
    intro w mg fa h KX G hmg
    refine' Sn.all_mk KX G hmg ?a0 ?l0 ?c0 ?k0 ?a1 ?l1 ?c1 ?k1 ?a2 ?l2 ?c2 ?k2 ?a3 ?l3 ?c3 ?k3 ?a4 ?l4 ?c4 ?k4 ?a5 ?l5 ?c5 ?k5 ?a6 ?l6 ?c6 ?k6 ?a7 ?l7 ?c7 ?k7 ?a8 ?l8 ?c8 ?k8 ?a9 ?l9 ?c9 ?k9 ?a10 ?l10 ?c10 ?k10 ?a11 ?l11 ?c11 ?k11 ?a12 ?l12 ?c12 ?k12 ?a13 ?l13 ?c13 ?k13 ?z0 ?z1 ?z2 ?z3 ?z4 ?z5 ?z6 ?z7 ?z8 ?z9 ?z10 ?z11 ?z12 ?gL ?gP ?aC ?xI ?kI ?bI ?tI ?iC ?sC
    (case a0 => k_is)
    (case l0 => k_is)
    (case c0 => k_is)
    (case k0 => k_is)
    (case a1 => k_is)
    (case l1 => k_is)
    (case c1 => k_is)
    (case k1 => k_is)
    (case a2 => k_is)
    (case l2 => k_is)
    (case c2 => k_is)
    (case k2 => k_is)
    (case a3 => k_is)
    (case l3 => k_is)
    (case c3 => k_is)
    (case k3 => k_is)
    (case a4 => k_is)
    (case l4 => k_is)
    (case c4 => k_is)
    (case k4 => k_is)
    (case a5 => k_is)
    (case l5 => k_is)
    (case c5 => k_is)
    (case k5 => k_is)
    (case a6 => k_is)
    (case l6 => k_is)
    (case c6 => k_is)
    (case k6 => k_is)
    (case a7 => k_is)
    (case l7 => k_is)
    (case c7 => k_is)
    (case k7 => k_is)
    (case a8 => k_is)
    (case l8 => k_is)
    (case c8 => k_is)
    (case k8 => k_is)
    (case a9 => k_is)
    (case l9 => k_is)
    (case c9 => k_is)
    (case k9 => k_is)
    (case a10 => k_is)
    (case l10 => k_is)
    (case c10 => k_is)
    (case k10 => k_is)
    (case a11 => k_is)
    (case l11 => k_is)
    (case c11 => k_is)
    (case k11 => k_is)
    (case a12 => k_is)
    (case l12 => k_is)
    (case c12 => k_is)
    (case k12 => k_is)
    (case a13 => k_is)
    (case l13 => k_is)
    (case c13 => k_is)
    (case k13 => k_is)
    (case z0 => k_is)
    (case z1 => k_is)
    (case z2 => k_is)
    (case z3 => k_is)
    (case z4 => k_is)
    (case z5 => k_is)
    (case z6 => k_is)
    (case z7 => k_is)
    (case z8 => k_is)
    (case z9 => k_is)
    (case z10 => k_is)
    (case z11 => k_is)
    (case z12 => k_is)
    (case gL => k_is)
    (case gP => k_is)
    (case aC => k_is)
    (case xI => k_exc)
    (case kI => k_is)
    (case bI => k_is)
    (case tI => k_is)
    (case iC => k_is)
    (case sC => k_is)
