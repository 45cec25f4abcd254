import PyProof.Rows.All
import Wide.All
import OpenK.AllK
import Wide.FinOn
import PyProof.EqAt
import PyProof.EqKinds
import PyProof.TupleCall
import HandS.ForMost
import HandS.IsInst
import HandS.StrMore
import HandS.Codes
import HandS.Style
import HandS.Replace
import HandS.ReplaceLit
import KE.KDictZip
import KE.KDictList
import PyProof.ListNew
import HandS.Iter
import HandS.Conv
import PySem.Challenge.RW_samenames_k07_chunks_of_texts
set_option Elab.async false
set_option linter.all false
set_option maxRecDepth 100000
set_option maxHeartbeats 4000000
/-! My own words over the hand layer: calls by name, heaps but for one place, texts, data. -/
namespace Sn
open PySem PySem.Spec PyProof.Rows L2

/-- a def that may be called by its name -/
structure Cal (P : Program) (w : World) (K : PySem.W.Frag) (mg : Str → Option Value) (base : Heap) (CX : CXT) (k : Nat) (x : Str) (sp : Sp) : Prop where
  ex : ∃ (f : Addr) (fd : FuncData) (ps : List Str), FnOk P w K mg base CX k f fd ps sp ∧ mg x = some (.ref f) ∧ PySem.W.keepIn K (.ref f) = true ∧ Binds K fd ps []
section
variable {X : Cx} {k j : Nat} {x : Str} {sp : Sp} {p pos : Pos} {e : Expr} {es : List Expr} {t : TA} {CX : CXT} {E : XK}
theorem pe_c (c : Cal X.prog X.w X.K X.mg X.base CX k x sp) (hr : Room j X.A) (hk : k ≤ j) (hx : Passes CX X E) (ha : PA X (e :: es) t) (hg : Gl X x := by rfl)
    (hdb : (x == ("__debug__" : Str)) = false := by decide) (he : starEach (e :: es) X.env = (false, eval e X.env) :: starEach es X.env := by rfl) (hpl : (backTo pos (starEach es X.env)).any (·.1) = false := by rfl) :
    PE X (.Call (.Name x p) (e :: es) [] pos) (tCall sp [] E t) := by
  obtain ⟨f, fd, ps, F, hm, kp, b⟩ := c.ex
  exact pe_call F (hr.mono hk) hg hm kp b .nil hx ha hdb he hpl
end

/-! ### displays of many written texts -/
def strOf : Expr → Option Str
  | .Constant (.str x) _ _ => some x
  | _ => none
def strsOf : List Expr → Option (List Str)
  | [] => some []
  | e :: r => match strOf e, strsOf r with
    | some x, some l => some (x :: l)
    | _, _ => none
theorem starEach_strs {env : Env} : ∀ {es : List Expr} {l : List Str}, strsOf es = some l → ∀ {e : Expr} {x : Str}, strOf e = some x → starEach (e :: es) env = (false, eval e env) :: starEach es env := by
  intro es l h e x hx
  unfold strOf at hx
  split at hx
  · rfl
  · cases hx
theorem pa_strsL {X : Cx} : ∀ (es : List Expr) (l : List Str), strsOf es = some l → PA X es (fun _ H Q => Q (l.map V.str) H)
  | [], l, h => by
    have e : l = [] := (Option.some.inj h).symm
    subst e
    exact pa_nil
  | e :: r, l, h => by
    unfold strsOf at h
    split at h
    · rename_i x m hx hm
      have el : l = x :: m := (Option.some.inj h).symm
      subst el
      have q := pa_strsL (X := X) r m hm
      have hs := starEach_strs (env := X.env) hm hx
      unfold strOf at hx
      split at hx
      · rename_i x' j pos
        have ex : x' = x := Option.some.inj hx
        subst ex
        exact pa_cons (te := tC (.str x')) (t := fun _ H Q => Q (m.map V.str) H) pe_str q hs
      · cases hx
    · cases h
theorem pa_strs {X : Cx} {es : List Expr} (l : List Str) (h : strsOf es = some l := by rfl) : PA X es (fun _ H Q => Q (l.map V.str) H) := pa_strsL es l h

/-! ### heaps -/
/-- all that was tracked but the object at t is as it was -/
def But (t : Addr) (H H' : Hp) : Prop := ∀ b o, b ≠ t → H b = some o → H' b = some o
theorem But.refl (t : Addr) (H : Hp) : But t H H := fun _ _ _ h => h
theorem But.trans {t : Addr} {H H1 H2 : Hp} (a : But t H H1) (b : But t H1 H2) : But t H H2 := fun c o n h => b c o n (a c o n h)
theorem But.of {t : Addr} {H H' : Hp} (s : Same H H') : But t H H' := fun b o _ h => s b o h
theorem same_new {H : Hp} {p : Addr} {o : HO} (h : H p = none) : Same H (upd H p o) := fun b u q => by
  rw [upd_ne (ne_of_none q h)]
  exact q
theorem But.upd {t : Addr} {H H1 : Hp} {o : HO} (b : But t H H1) : But t H (upd H1 t o) := fun c u n h => by
  rw [upd_ne n]
  exact b c u n h

/-! ### the tape -/
def tk (c : Addr) (a l se sa : Int) : List (Key × V) := [(.inr "cells", .ref c), (.inr "at", .int a), (.inr "left", .int l), (.inr "seed", .int se), (.inr "salt", .int sa)]
structure TkAt (H : Hp) (t c : Addr) (cs : List Int) (a l se sa : Int) : Prop where
  d : H t = some (.dK (tk c a l se sa))
  cl : H c = some (.lst (cs.map V.int))
  cp : ∀ x ∈ cs, 0 ≤ x
  a0 : 0 ≤ a
  l0 : 0 ≤ l
  s0 : 0 ≤ se
  s1 : se < 2147483647
/-- a tape stands at t -/
def Tp (H : Hp) (t c : Addr) : Prop := ∃ cs a l se sa, TkAt H t c cs a l se sa
theorem TkAt.ne {H : Hp} {t c : Addr} {cs : List Int} {a l se sa : Int} (z : TkAt H t c cs a l se sa) : c ≠ t := ne_of z.cl z.d (by intro q; cases q)
theorem Tp.same {H H' : Hp} {t c : Addr} (s : Same H H') : Tp H t c → Tp H' t c := fun ⟨cs, a, l, se, sa, z⟩ => ⟨cs, a, l, se, sa, s _ _ z.d, s _ _ z.cl, z.cp, z.a0, z.l0, z.s0, z.s1⟩
theorem Tp.ne {H : Hp} {t c b : Addr} (z : Tp H t c) {o : HO} (h : H b = some o) (hn : ∀ kvs, o ≠ .dK kvs) : b ≠ t := by
  obtain ⟨cs, a, l, se, sa, z⟩ := z
  exact ne_of h z.d (hn _)
theorem Tp.nt {H : Hp} {t c b : Addr} (z : Tp H t c) (h : H b = none) : t ≠ b := by
  obtain ⟨cs, a, l, se, sa, z⟩ := z
  exact ne_of_none z.d h
theorem Tp.nc {H : Hp} {t c b : Addr} (z : Tp H t c) (h : H b = none) : c ≠ b := by
  obtain ⟨cs, a, l, se, sa, z⟩ := z
  exact ne_of_none z.cl h
theorem Tp.upd {H : Hp} {t c b : Addr} {o : HO} (z : Tp H t c) (h1 : t ≠ b) (h2 : c ≠ b) : Tp (upd H b o) t c := by
  obtain ⟨cs, a, l, se, sa, z⟩ := z
  exact ⟨cs, a, l, se, sa, by rw [upd_ne h1]; exact z.d, by rw [upd_ne h2]; exact z.cl, z.cp, z.a0, z.l0, z.s0, z.s1⟩
theorem Tp.new {H : Hp} {t c b : Addr} {o : HO} (z : Tp H t c) (h : H b = none) : Tp (L2.upd H b o) t c := z.upd (z.nt h) (z.nc h)
section
variable {c : Addr} {a l se sa v : Int}
theorem g_cells : valV (tk c a l se sa) (.inr "cells") = some (.ref c) := by kernel_rfl
theorem g_at : valV (tk c a l se sa) (.inr "at") = some (.int a) := by kernel_rfl
theorem g_left : valV (tk c a l se sa) (.inr "left") = some (.int l) := by kernel_rfl
theorem g_seed : valV (tk c a l se sa) (.inr "seed") = some (.int se) := by kernel_rfl
theorem g_salt : valV (tk c a l se sa) (.inr "salt") = some (.int sa) := by kernel_rfl
theorem p_at : putK (tk c a l se sa) (.inr "at") (.int v) = tk c v l se sa := by kernel_rfl
theorem p_left : putK (tk c a l se sa) (.inr "left") (.int v) = tk c a v se sa := by kernel_rfl
theorem p_salt : putK (tk c a l se sa) (.inr "salt") (.int v) = tk c a l se v := by kernel_rfl
theorem tk_len : (tk c a l se sa).length < sizeLine := by
  show 5 < sizeLine
  decide
end
section
variable {H : Hp} {t c : Addr} {cs : List Int} {a l se sa v : Int}
theorem TkAt.dg (z : TkAt H t c cs a l se sa) {k : Key} {x : V} (h : valV (tk c a l se sa) k = some x) : DGet H t (kV k) (some x) := h ▸ DGet.k z.d
theorem TkAt.sAt (z : TkAt H t c cs a l se sa) (hv : 0 ≤ v) : TkAt (upd H t (.dK (tk c v l se sa))) t c cs v l se sa :=
  ⟨upd_same, by rw [upd_ne z.ne]; exact z.cl, z.cp, hv, z.l0, z.s0, z.s1⟩
theorem TkAt.sLeft (z : TkAt H t c cs a l se sa) (hv : 0 ≤ v) : TkAt (upd H t (.dK (tk c a v se sa))) t c cs a v se sa :=
  ⟨upd_same, by rw [upd_ne z.ne]; exact z.cl, z.cp, z.a0, hv, z.s0, z.s1⟩
theorem TkAt.sSalt (z : TkAt H t c cs a l se sa) : TkAt (upd H t (.dK (tk c a l se v))) t c cs a l se v :=
  ⟨upd_same, by rw [upd_ne z.ne]; exact z.cl, z.cp, z.a0, z.l0, z.s0, z.s1⟩
theorem TkAt.pAt (z : TkAt H t c cs a l se sa) : DPut H t (.str "at") (.int v) (upd H t (.dK (tk c v l se sa))) := p_at (c := c) (a := a) (l := l) (se := se) (sa := sa) (v := v) ▸ DPut.k (k := .inr "at") z.d tk_len
theorem TkAt.pLeft (z : TkAt H t c cs a l se sa) : DPut H t (.str "left") (.int v) (upd H t (.dK (tk c a v se sa))) := p_left (c := c) (a := a) (l := l) (se := se) (sa := sa) (v := v) ▸ DPut.k (k := .inr "left") z.d tk_len
theorem TkAt.pSalt (z : TkAt H t c cs a l se sa) : DPut H t (.str "salt") (.int v) (upd H t (.dK (tk c a l se v))) := p_salt (c := c) (a := a) (l := l) (se := se) (sa := sa) (v := v) ▸ DPut.k (k := .inr "salt") z.d tk_len
end

/-! ### texts -/
/-- a sign that may stand in a text -/
def okc (c : Nat) : Bool := c == 10 || (decide (32 ≤ c) && decide (c ≤ 126) && c != 37)
def OkT (z : Str) : Prop := ∀ c ∈ z.cps.toList, okc c = true
def okT (z : Str) : Bool := z.cps.toList.all okc
theorem OkT.of {z : Str} (h : okT z = true) : OkT z := List.all_eq_true.mp h
theorem OkT.append {x y : Str} (a : OkT x) (b : OkT y) : OkT (x ++ y) := fun c h => by
  rw [show (x ++ y).cps.toList = x.cps.toList ++ y.cps.toList from TL.tl_append x y] at h
  rcases List.mem_append.mp h with h | h
  · exact a c h
  · exact b c h
theorem joinL_nil : ∀ l : List (List Nat), TL.joinL [] l = l.flatten
  | [] => rfl
  | [p] => by simp [TL.joinL]
  | p :: q :: r => by
    show p ++ ([] ++ TL.joinL [] (q :: r)) = _
    rw [joinL_nil (q :: r), List.nil_append] <;> rfl
theorem tl_join0 (y : Str) (hy : TL.tl y = []) (l : List Str) : TL.tl (Txt.join y l) = (l.map TL.tl).flatten := by
  rw [TL.join_eq, TL.tl_join, hy, joinL_nil]
theorem OkT.join {y : Str} (hy : TL.tl y = []) {l : List Str} (h : ∀ z ∈ l, OkT z) : OkT (Txt.join y l) := fun c hc => by
  rw [show (Txt.join y l).cps.toList = (l.map TL.tl).flatten from tl_join0 y hy l] at hc
  obtain ⟨m, hm, hc⟩ := List.mem_flatten.mp hc
  obtain ⟨z, hz, rfl⟩ := List.mem_map.mp hm
  exact h z hz c hc
theorem sum_len_le {n : Nat} : ∀ {l : List Str}, (∀ z ∈ l, z.length ≤ n) → (l.map (·.length)).sum ≤ n * l.length
  | [], _ => by simp
  | z :: r, h => by
    have ih := sum_len_le (l := r) fun y hy => h y (List.mem_cons_of_mem _ hy)
    have h0 := h z List.mem_cons_self
    rw [List.map_cons, List.sum_cons, List.length_cons, Nat.mul_add]
    omega
theorem flat_len : ∀ l : List Str, ((l.map TL.tl).flatten).length = (l.map (·.length)).sum
  | [] => rfl
  | z :: r => by
    rw [List.map_cons, List.flatten_cons, List.length_append, flat_len r, List.map_cons, List.sum_cons, TL.len_tl z]
theorem join_len (y : Str) (hy : TL.tl y = []) (l : List Str) : (Txt.join y l).length = (l.map (·.length)).sum := by
  rw [TL.len_tl, tl_join0 y hy, flat_len]
theorem small {n : Nat} (h : n ≤ 1000000) : n ≤ sizeLine := Nat.le_trans h (by decide)

/-! ### data that are equal -/
def sca : V → Bool
  | .non => true
  | .bl _ => true
  | .int _ => true
  | .str _ => true
  | _ => false
def Al (H : Hp) : Nat → V → V → Prop
  | 0, _, _ => False
  | n + 1, x, y => (x = y ∧ sca x = true) ∨
    (∃ a b xs ys, x = .ref a ∧ y = .ref b ∧ H a = some (.tup xs) ∧ H b = some (.tup ys) ∧ xs.length = ys.length ∧ xs.length ≤ 1000000 ∧ ∀ (i : Nat) (u v : V), xs[i]? = some u → ys[i]? = some v → Al H n u v) ∨
    (∃ a b xs ys, x = .ref a ∧ y = .ref b ∧ H a = some (.lst xs) ∧ H b = some (.lst ys) ∧ xs.length = ys.length ∧ xs.length ≤ 1000000 ∧ ∀ (i : Nat) (u v : V), xs[i]? = some u → ys[i]? = some v → Al H n u v)
theorem Al.sc {H : Hp} {n : Nat} {x : V} (h : sca x = true) : Al H (n + 1) x x := .inl ⟨rfl, h⟩
theorem Al.same {H H' : Hp} (s : Same H H') : ∀ {n : Nat} {x y : V}, Al H n x y → Al H' n x y
  | 0, _, _, h => h
  | n + 1, x, y, h => by
    rcases h with h | ⟨a, b, xs, ys, e1, e2, h1, h2, hl, hm, h⟩ | ⟨a, b, xs, ys, e1, e2, h1, h2, hl, hm, h⟩
    · exact .inl h
    · exact .inr (.inl ⟨a, b, xs, ys, e1, e2, s _ _ h1, s _ _ h2, hl, hm, fun i u v p q => Al.same s (h i u v p q)⟩)
    · exact .inr (.inr ⟨a, b, xs, ys, e1, e2, s _ _ h1, s _ _ h2, hl, hm, fun i u v p q => Al.same s (h i u v p q)⟩)
theorem Al.tup {H : Hp} {n : Nat} {a b : Addr} {xs ys : List V} (h1 : H a = some (.tup xs)) (h2 : H b = some (.tup ys)) (hl : xs.length = ys.length) (hm : xs.length ≤ 1000000) (h : ∀ (i : Nat) (u v : V), xs[i]? = some u → ys[i]? = some v → Al H n u v) : Al H (n + 1) (.ref a) (.ref b) :=
  .inr (.inl ⟨a, b, xs, ys, rfl, rfl, h1, h2, hl, hm, h⟩)
theorem Al.lst {H : Hp} {n : Nat} {a b : Addr} {xs ys : List V} (h1 : H a = some (.lst xs)) (h2 : H b = some (.lst ys)) (hl : xs.length = ys.length) (hm : xs.length ≤ 1000000) (h : ∀ (i : Nat) (u v : V), xs[i]? = some u → ys[i]? = some v → Al H n u v) : Al H (n + 1) (.ref a) (.ref b) :=
  .inr (.inr ⟨a, b, xs, ys, rfl, rfl, h1, h2, hl, hm, h⟩)
/-- two tuples (lists) of the same plain values -/
theorem al_eq {H : Hp} {n : Nat} {xs : List V} (h : xs.all sca = true) : ∀ (i : Nat) (u v : V), xs[i]? = some u → xs[i]? = some v → Al H (n + 1) u v := fun i u v p q => by
  have e : u = v := Option.some.inj (p.symm.trans q)
  subst e
  exact Al.sc (List.all_eq_true.mp h u (List.mem_of_getElem? p))

/-! ### tests -/
theorem iteP {p A B : Prop} [Decidable p] (hp : p) (h : A) : if decide p = true then A else B := by
  rw [if_pos (decide_eq_true hp)]
  exact h
theorem iteN {p A B : Prop} [Decidable p] (hp : ¬ p) (h : B) : if decide p = true then A else B := by
  rw [if_neg (by rw [decide_eq_false hp]; exact Bool.false_ne_true)]
  exact h
theorem iteNN {p A B : Prop} [Decidable p] (hp : ¬ p) (h : A) : if (!decide p) = true then A else B := by
  rw [decide_eq_false hp]
  exact iteT h
theorem qP {p : Prop} [Decidable p] {Q : VK} {H : Hp} (hp : p) (h : Q (.bl true) H) : Q (.bl (decide p)) H := by
  rw [decide_eq_true hp]
  exact h
theorem none_left {P : Program} {w : World} {K : PySem.W.Frag} {mg : Str → Option Value} {base : Heap} {f : Addr} {fd : FuncData} {ps : List Str} {sp : Sp} (no : ∀ vs H Q E, ¬ sp vs H Q E) : FnOk P w K mg base CX0 0 f fd ps sp :=
  ⟨fun vs H Q E h => absurd h (no vs H Q E), fun A outer s H args us vs Q E _ _ _ _ h => absurd h (no vs H Q E)⟩

/-! ### promises of the law's own helpers -/
def spTape (K : PySem.W.Frag) : Sp := fun vs H Q _ => ∃ (a : Addr) (ns : List Int), vs = [.ref a] ∧ SqL K H a (ns.map V.int) ∧ ns.length ≤ 63 ∧ ∀ t c H', Same H H' → H t = none → H c = none → Tp H' t c → Q (.ref t) H'
def spTake : Sp := fun vs H Q _ => ∃ (t c : Addr) (n : Int), vs = [.ref t, .int n] ∧ Tp H t c ∧ 0 < n ∧ n < 1073741824 ∧ ∀ (r : Int) H', 0 ≤ r → r < n → But t H H' → Tp H' t c → Q (.int r) H'
def spIsInt : Sp := fun vs H Q _ => ∃ i : Int, vs = [.int i] ∧ Q (.bl true) H
def spSame (n : Nat) : Sp := fun vs H Q _ => ∃ x y, vs = [x, y] ∧ Al H n x y ∧ Q (.bl true) H
def spItems (n : Nat) : Sp := fun vs H Q _ => ∃ a b xs ys, vs = [.ref a, .ref b] ∧ ((H a = some (.tup xs) ∧ H b = some (.tup ys)) ∨ (H a = some (.lst xs) ∧ H b = some (.lst ys))) ∧ xs.length = ys.length ∧ xs.length ≤ 1000000 ∧
  (∀ (i : Nat) (u v : V), xs[i]? = some u → ys[i]? = some v → Al H n u v) ∧ Q (.bl true) H
def spSnippet : Sp := fun vs H Q _ => ∃ t c, vs = [.ref t] ∧ Tp H t c ∧ ∀ z H', OkT z → z.length ≤ 45 → But t H H' → Tp H' t c → Q (.str z) H'
def spChar : Sp := fun vs H Q _ => ∃ t c, vs = [.ref t] ∧ Tp H t c ∧ ∀ z H', OkT z → z.length = 1 → But t H H' → Tp H' t c → Q (.str z) H'
def spAny : Sp := fun vs H Q _ => ∃ (t c : Addr) (m : Nat), vs = [.ref t, .int m] ∧ Tp H t c ∧ m ≤ 100 ∧ ∀ z H', OkT z → z.length ≤ 45 * m → But t H H' → Tp H' t c → Q (.str z) H'

/-! ### a text walked sign by sign -/
theorem for_str {x : Str} {g : TG} {tb : TS} {D : Ends} {σ : L2.St} {H : Hp} (Pv : Nat → L2.St → Hp → Prop) (h0 : Pv 0 σ H)
    (hs : ∀ i c σ H, x.cps.toList[i]? = some c → Pv i σ H → g (.str ⟨#[c]⟩) σ H fun σ2 H2 => tb { D with nx := Pv (i + 1), ct := Pv (i + 1), bk := D.nx } σ2 H2) (hd : ∀ σ H, Pv x.cps.toList.length σ H → D.nx σ H) :
    ∃ W : Nat → Nat → L2.St → Hp → Prop, (∃ m, W 0 m σ H) ∧ ∀ i m σ H, W i m σ H →
      ((Its x).stop i H ∧ D.nx σ H) ∨ ((Its x).go i H ∧ ∃ Nx : L2.St → Hp → Prop, (∀ σ' H', Nx σ' H' → ∃ m', m' < m ∧ W (i + 1) m' σ' H') ∧ ∀ y H', (Its x).yld i H y H' → g y σ H' fun σ2 H2 => tb { D with nx := Nx, ct := Nx, bk := D.nx } σ2 H2) := by
  refine ⟨fun i m σ H => m = x.cps.toList.length - i ∧ i ≤ x.cps.toList.length ∧ Pv i σ H, ⟨x.cps.toList.length, by simp, Nat.zero_le _, h0⟩, ?_⟩
  rintro i m σ H ⟨rfl, hi, p⟩
  have hsz : x.cps.toList.length = x.cps.size := Array.length_toList
  by_cases hlt : i < x.cps.toList.length
  · refine .inr ⟨by show i < x.cps.size; omega, Pv (i + 1), fun σ' H' p' => ⟨x.cps.toList.length - (i + 1), by omega, rfl, hlt, p'⟩, fun y H' z => ?_⟩
    obtain ⟨e, c, hc, z⟩ := z
    subst e z
    exact hs i c σ _ (by rw [Array.getElem?_toList]; exact hc) p
  · have e : i = x.cps.toList.length := by omega
    subst e
    exact .inl ⟨by show x.cps.size ≤ _; omega, hd σ H p⟩
/-! ### a while by an invariant and a measure -/
theorem while_m {c : TT} {tb : TS} {D : Ends} {σ : L2.St} {H : Hp} (Pv : L2.St → Hp → Prop) (μ : L2.St → Hp → Nat) (h0 : Pv σ H)
    (hs : ∀ σ H, Pv σ H → c σ H fun b H1 => if b = true then ∃ N : L2.St → Hp → Prop, (∀ σ' H', N σ' H' → ∃ m', m' < μ σ H ∧ m' = μ σ' H' ∧ Pv σ' H') ∧ tb { D with nx := N, ct := N, bk := D.nx } σ H1 else D.nx σ H1) : tWhile c tb D σ H :=
  ⟨fun m σ H => m = μ σ H ∧ Pv σ H, ⟨_, rfl, h0⟩, fun m σ H h => by
    obtain ⟨rfl, p⟩ := h
    exact hs σ H p⟩
theorem wN {Pv : L2.St → Hp → Prop} {μ : L2.St → Hp → Nat} {k : Nat} {tb : TS} {D : Ends} {σ : L2.St} {H1 : Hp} (h : tb { D with nx := fun σ' H' => Pv σ' H' ∧ μ σ' H' < k, ct := fun σ' H' => Pv σ' H' ∧ μ σ' H' < k, bk := D.nx } σ H1) :
    ∃ N : L2.St → Hp → Prop, (∀ σ' H', N σ' H' → ∃ m', m' < k ∧ m' = μ σ' H' ∧ Pv σ' H') ∧ tb { D with nx := N, ct := N, bk := D.nx } σ H1 := ⟨_, fun _ _ n => ⟨_, n.2, rfl, n.1⟩, h⟩
def spLaw (K : PySem.W.Frag) : Sp := fun vs H Q _ => ∃ (a : Addr) (ns : List Int), vs = [.ref a] ∧ SqL K H a (ns.map V.int) ∧ ns.length ≤ 63 ∧ ∀ H', Q (.bl true) H'
end Sn

/-! Mathematics of texts: counting a sign, the last one, lines, cuts. -/
namespace Sn
open PySem PySem.Spec PyProof.Rows L2 PySem.StrLaws PySem.Builtin.Str TL
abbrev strL (l : List Nat) : Str := ⟨l.toArray⟩
/-! ### cuts -/
theorem tl_cut (z : Str) (lo hi : Option Int) : tl (cutS z lo hi) = ((tl z).drop (HT.sIx z.length 0 lo)).take (HT.sIx z.length z.length hi - HT.sIx z.length 0 lo) := rfl
theorem tl_cut_to (z : Str) (o : Nat) : tl (cutS z none (some (o : Int))) = (tl z).take o := by
  rw [tl_cut, HT.sIx_none, HT.sIx_nat, List.drop_zero, Nat.sub_zero, len_tl, List.take_eq_take_iff]
  omega
theorem tl_cut_from (z : Str) (o : Nat) : tl (cutS z (some (o : Int)) none) = (tl z).drop o := by
  rw [tl_cut, HT.sIx_none, HT.sIx_nat, len_tl]
  by_cases h : o ≤ (tl z).length
  · rw [Nat.min_eq_left h, List.take_of_length_le (by rw [List.length_drop] <;> omega)]
  · rw [Nat.min_eq_right (by omega), Nat.sub_self, List.take_zero, List.drop_eq_nil_of_le (by omega)]
theorem tl_cut_mid (z : Str) (a b : Nat) (h : a ≤ (tl z).length) : tl (cutS z (some (a : Int)) (some (b : Int))) = ((tl z).drop a).take (b - a) := by
  rw [tl_cut, HT.sIx_nat, HT.sIx_nat, len_tl, Nat.min_eq_left h, List.take_eq_take_iff, List.length_drop]
  omega
theorem len_eq (z : Str) : z.length = (tl z).length := len_tl z
/-! ### counting one sign -/
theorem drop_take_cons {l : List Nat} {a hi : Nat} (h : a < hi) (hl : hi ≤ l.length) : ∃ (h2 : a < l.length), (l.take hi).drop a = l[a] :: (l.take hi).drop (a + 1) := by
  have h2 : a < (l.take hi).length := by rw [List.length_take]; omega
  refine ⟨by omega, ?_⟩
  rw [List.drop_eq_getElem_cons h2, List.getElem_take]
theorem drop_take_nil {l : List Nat} {a hi : Nat} (h : hi ≤ a) : (l.take hi).drop a = [] := List.drop_eq_nil_of_le (by rw [List.length_take]; omega)
theorem occ_cnt (x : Str) (c hi limit : Nat) (hhi : hi ≤ (tl x).length) : ∀ (m a : Nat) (st : Array Nat × Nat), st.2 ≤ a → st.1.size + m ≤ limit → a + m = hi + 1 →
    (forIn (List.range' a m) st (occBody x ⟨#[c]⟩ hi limit)).run.fst.size = st.1.size + (((tl x).take hi).drop a).count c
  | 0, a, st, _, _, e => by
    rw [drop_take_nil (by omega)]
    rfl
  | m + 1, a, st, hf, hl, e => by
    have one : ∀ i, (i + (⟨#[c]⟩ : Str).length ≤ hi ∧ subAt x ⟨#[c]⟩ i = true) ↔ i < hi ∧ (tl x)[i]? = some c := fun i => by
      have k := subAt_one x c i
      have hx : x.length = (tl x).length := len_tl x
      have h1 : (⟨#[c]⟩ : Str).length = 1 := rfl
      constructor
      · intro h
        have z := k.mp ⟨by omega, h.2⟩
        exact ⟨by omega, z⟩
      · intro h
        have z := k.mpr h.2
        exact ⟨by omega, z.2⟩
    rw [List.range'_succ, List.forIn_cons]
    unfold occBody
    by_cases ha : a < hi
    · obtain ⟨h2, e2⟩ := drop_take_cons ha hhi
      rw [e2, List.count_cons]
      by_cases hc : (tl x)[a] = c
      · have k := (one a).mpr ⟨ha, by rw [List.getElem?_eq_getElem h2, hc]⟩
        rw [if_pos ⟨⟨⟨by omega, hf⟩, k.1⟩, k.2⟩]
        have ih := occ_cnt x c hi limit hhi m (a + 1) (st.1.push a, a + (⟨#[c]⟩ : Str).length) (Nat.le_refl _) (by show (st.1.push a).size + m ≤ limit; rw [Array.size_push]; omega) (by omega)
        have e3 : (st.1.push a).size = st.1.size + 1 := Array.size_push ..
        show (forIn (List.range' (a + 1) m) (st.1.push a, a + (⟨#[c]⟩ : Str).length) (occBody x ⟨#[c]⟩ hi limit)).run.fst.size = _
        rw [ih, e3, hc]
        simp
        omega
      · have k : ¬ ((((st.1.size < limit ∧ st.2 ≤ a) ∧ a + (⟨#[c]⟩ : Str).length ≤ hi) ∧ subAt x ⟨#[c]⟩ a = true)) := fun h => by
          have z := (one a).mp ⟨h.1.2, h.2⟩
          rw [List.getElem?_eq_getElem h2] at z
          exact hc (Option.some.inj z.2)
        rw [if_neg k]
        have ih := occ_cnt x c hi limit hhi m (a + 1) (st.1, st.2) (by show st.2 ≤ a + 1; omega) (by show st.1.size + m ≤ limit; omega) (by omega)
        show (forIn (List.range' (a + 1) m) (st.1, st.2) (occBody x ⟨#[c]⟩ hi limit)).run.fst.size = _
        rw [ih]
        have e4 : ((tl x)[a] == c) = false := beq_eq_false_iff_ne.mpr hc
        rw [e4, if_neg Bool.false_ne_true]
        rfl
    · have k : ¬ ((((st.1.size < limit ∧ st.2 ≤ a) ∧ a + (⟨#[c]⟩ : Str).length ≤ hi) ∧ subAt x ⟨#[c]⟩ a = true)) := fun h => by
        have z := (one a).mp ⟨h.1.2, h.2⟩
        omega
      rw [if_neg k]
      have em : m = 0 := by omega
      subst em
      rw [drop_take_nil (by omega)]
      rfl
theorem occ_count (x : Str) (c hi : Nat) (hhi : hi ≤ (tl x).length) : (occurrences x ⟨#[c]⟩ 0 hi (x.length + 1)).length = ((tl x).take hi).count c := by
  rw [occ_eq, Array.length_toList]
  have k := occ_cnt x c hi (x.length + 1) hhi (hi + 1 - 0) 0 (#[], 0) (Nat.le_refl _) (by show 0 + (hi + 1 - 0) ≤ x.length + 1; rw [len_tl]; omega) (by omega)
  rw [k, List.drop_zero]
  show 0 + _ = _
  omega
theorem count_all (x : Str) (c : Nat) : Txt.count x ⟨#[c]⟩ = (((tl x).count c : Nat) : Int) := by
  show (((occurrences x ⟨#[c]⟩ 0 x.length (x.length + 1)).length : Nat) : Int) = _
  rw [occ_count x c x.length (by rw [len_tl]; exact Nat.le_refl _), len_tl, List.take_length]
theorem toW (n o : Nat) (h : o ≤ n) : toIndexW n (o : Int) = o := by
  unfold toIndexW
  rw [if_neg (by omega)]
  omega
theorem fromI (n o : Nat) : fromIndex n (o : Int) = o := by
  unfold fromIndex
  rw [if_neg (by omega)]
  omega
theorem count_in (x : Str) (c o : Nat) (h : o ≤ (tl x).length) : Txt.countIn x ⟨#[c]⟩ 0 (o : Int) = ((((tl x).take o).count c : Nat) : Int) := by
  unfold Txt.countIn
  rw [toW _ _ (by rw [len_tl]; exact h), show fromIndex x.length 0 = 0 from fromI x.length 0, occ_count x c o h]
/-! ### the last newline -/
/-- how many signs stand behind the last c, k of them ahead -/
def colF (c k : Nat) : List Nat → Nat
  | [] => k
  | d :: r => if d = c then colF c 0 r else colF c (k + 1) r
theorem colF_snoc (c d : Nat) : ∀ (l : List Nat) (k : Nat), colF c k (l ++ [d]) = if d = c then 0 else colF c k l + 1
  | [], k => by
    show (if d = c then colF c 0 [] else colF c (k + 1) []) = _
    rfl
  | e :: r, k => by
    show (if e = c then colF c 0 (r ++ [d]) else colF c (k + 1) (r ++ [d])) = _
    rw [colF_snoc c d r 0, colF_snoc c d r (k + 1)]
    by_cases h : e = c
    · rw [if_pos h]
      show _ = if d = c then 0 else (if e = c then colF c 0 r else colF c (k + 1) r) + 1
      rw [if_pos h]
    · rw [if_neg h]
      show _ = if d = c then 0 else (if e = c then colF c 0 r else colF c (k + 1) r) + 1
      rw [if_neg h]
theorem colF_le (c : Nat) : ∀ (l : List Nat) (k : Nat), colF c k l ≤ k + l.length
  | [], k => Nat.le_refl _
  | e :: r, k => by
    show (if e = c then colF c 0 r else colF c (k + 1) r) ≤ k + (r.length + 1)
    have h0 := colF_le c r 0
    have h1 := colF_le c r (k + 1)
    split <;> omega
def valO : Option Nat → Nat
  | none => 0
  | some k => k + 1
theorem last_col (x : Str) (c hi : Nat) (hhi : hi ≤ (tl x).length) : ∀ (m a : Nat) (st : Option Nat), valO st ≤ a → a + m = hi + 1 → a ≤ hi →
    valO (forIn (List.range' a m) st (lastBody x ⟨#[c]⟩ hi)).run ≤ hi ∧ hi - valO (forIn (List.range' a m) st (lastBody x ⟨#[c]⟩ hi)).run = colF c (a - valO st) (((tl x).take hi).drop a)
  | 0, a, st, _, e, _ => by omega
  | m + 1, a, st, hf, e, hah => by
    have one : ∀ i, (i + (⟨#[c]⟩ : Str).length ≤ hi ∧ subAt x ⟨#[c]⟩ i = true) ↔ i < hi ∧ (tl x)[i]? = some c := fun i => by
      have k := subAt_one x c i
      have hx : x.length = (tl x).length := len_tl x
      have h1 : (⟨#[c]⟩ : Str).length = 1 := rfl
      constructor
      · intro h
        have z := k.mp ⟨by omega, h.2⟩
        exact ⟨by omega, z⟩
      · intro h
        have z := k.mpr h.2
        exact ⟨by omega, z.2⟩
    rw [List.range'_succ, List.forIn_cons]
    unfold lastBody
    by_cases ha : a < hi
    · obtain ⟨h2, e2⟩ := drop_take_cons ha hhi
      rw [e2]
      by_cases hc : (tl x)[a] = c
      · have k := (one a).mpr ⟨ha, by rw [List.getElem?_eq_getElem h2, hc]⟩
        rw [if_pos k]
        have ih := last_col x c hi hhi m (a + 1) (some a) (Nat.le_refl _) (by omega) (by omega)
        show valO (forIn (List.range' (a + 1) m) (some a) (lastBody x ⟨#[c]⟩ hi)).run ≤ hi ∧ hi - valO (forIn (List.range' (a + 1) m) (some a) (lastBody x ⟨#[c]⟩ hi)).run = if (tl x)[a] = c then _ else _
        rw [if_pos hc]
        have e5 : a + 1 - valO (some a) = 0 := by
          show a + 1 - (a + 1) = 0
          omega
        rw [e5] at ih
        exact ih
      · have k : ¬ (a + (⟨#[c]⟩ : Str).length ≤ hi ∧ subAt x ⟨#[c]⟩ a = true) := fun h => by
          have z := (one a).mp h
          rw [List.getElem?_eq_getElem h2] at z
          exact hc (Option.some.inj z.2)
        rw [if_neg k]
        have ih := last_col x c hi hhi m (a + 1) st (by omega) (by omega) (by omega)
        show valO (forIn (List.range' (a + 1) m) st (lastBody x ⟨#[c]⟩ hi)).run ≤ hi ∧ hi - valO (forIn (List.range' (a + 1) m) st (lastBody x ⟨#[c]⟩ hi)).run = if (tl x)[a] = c then _ else _
        rw [if_neg hc]
        have e5 : a + 1 - valO st = a - valO st + 1 := by omega
        rw [e5] at ih
        exact ih
    · have k : ¬ (a + (⟨#[c]⟩ : Str).length ≤ hi ∧ subAt x ⟨#[c]⟩ a = true) := fun h => by
        have z := (one a).mp h
        omega
      rw [if_neg k]
      have em : m = 0 := by omega
      subst em
      rw [drop_take_nil (by omega)]
      show valO st ≤ hi ∧ hi - valO st = a - valO st
      omega
/-- x.rfind(c, 0, o) + 1 is where the last line of x[:o] begins -/
theorem rfind_col (x : Str) (c o : Nat) (h : o ≤ (tl x).length) : ∃ b : Nat, Txt.rfindIn x ⟨#[c]⟩ 0 (o : Int) + 1 = (b : Int) ∧ b ≤ o ∧ o - b = colF c 0 ((tl x).take o) := by
  unfold Txt.rfindIn
  rw [toW _ _ (by rw [len_tl]; exact h), show fromIndex x.length 0 = 0 from fromI x.length 0, last_eq]
  have k := last_col x c o h (o + 1 - 0) 0 none (Nat.le_refl _) (by omega) (Nat.zero_le _)
  rw [List.drop_zero] at k
  refine ⟨_, ?_, k.1, k.2⟩
  cases (forIn (List.range' 0 (o + 1 - 0)) none (lastBody x ⟨#[c]⟩ o)).run with
  | none => rfl
  | some j => rfl
/-! ### lines -/
def rows (c : Nat) : List Nat → List Nat → List (List Nat)
  | acc, [] => [acc]
  | acc, d :: r => if d = c then acc :: rows c [] r else rows c (acc ++ [d]) r
theorem spl_rows (c : Nat) : ∀ (l acc : List Nat), spl [c] 0 acc l = rows c acc l
  | [], acc => by rw [spl_nil]; rfl
  | d :: r, acc => by
    by_cases h : d = c
    · have p : TL.pre [c] (d :: r) = true := by rw [h]; simp [TL.pre]
      rw [spl_hit p]
      show acc :: spl [c] 0 [] r = if d = c then _ else _
      rw [if_pos h, spl_rows c r []]
    · have p : TL.pre [c] (d :: r) = false := pre_of_head [] r h
      rw [spl_miss p, spl_rows c r (acc ++ [d])]
      show _ = if d = c then _ else _
      rw [if_neg h]
theorem split_rows (x : Str) (c : Nat) (hc : c < 256) : (Txt.split x ⟨#[c]⟩).map tl = rows c [] (tl x) := by
  rw [split_spl x ⟨#[c]⟩ (by show [c] ≠ []; simp) (kind_ok (by simp [hc]))]
  exact spl_rows c (tl x) []
theorem rows_len (c : Nat) : ∀ (l acc : List Nat), (rows c acc l).length = l.count c + 1
  | [], acc => rfl
  | d :: r, acc => by
    show (if d = c then acc :: rows c [] r else rows c (acc ++ [d]) r).length = _
    rw [List.count_cons]
    by_cases h : d = c
    · rw [if_pos h, List.length_cons, rows_len c r []]
      simp [h]
    · have h' : (d == c) = false := by simpa using h
      rw [if_neg h, rows_len c r]
      simp [h']
/-- the lengths of lines with their newlines -/
def lens (rs : List (List Nat)) : Nat := (rs.map fun r => r.length + 1).sum
theorem rows_at (c : Nat) : ∀ (l acc : List Nat) (o : Nat), o ≤ l.length → ∃ row, (rows c acc l)[(l.take o).count c]? = some row ∧ colF c acc.length (l.take o) ≤ row.length ∧
    lens ((rows c acc l).take ((l.take o).count c)) + colF c acc.length (l.take o) = acc.length + o
  | l, acc, 0, _ => by
    rw [List.take_zero]
    show ∃ row, (rows c acc l)[0]? = some row ∧ acc.length ≤ row.length ∧ lens ((rows c acc l).take 0) + acc.length = acc.length + 0
    have : ∀ (l acc : List Nat), ∃ row, (rows c acc l)[0]? = some row ∧ acc.length ≤ row.length := by
      intro l
      induction l with
      | nil => exact fun acc => ⟨acc, rfl, Nat.le_refl _⟩
      | cons d r ih =>
        intro acc
        show ∃ row, (if d = c then acc :: rows c [] r else rows c (acc ++ [d]) r)[0]? = some row ∧ _
        by_cases h : d = c
        · rw [if_pos h]
          exact ⟨acc, rfl, Nat.le_refl _⟩
        · rw [if_neg h]
          obtain ⟨row, h1, h2⟩ := ih (acc ++ [d])
          rw [List.length_append] at h2
          exact ⟨row, h1, by omega⟩
    obtain ⟨row, h1, h2⟩ := this l acc
    refine ⟨row, h1, h2, ?_⟩
    rw [List.take_zero]
    show 0 + acc.length = acc.length + 0
    omega
  | [], acc, o + 1, h => absurd h (by simp)
  | d :: r, acc, o + 1, h => by
    have ho : o ≤ r.length := by simpa using h
    rw [List.take_succ_cons, List.count_cons]
    by_cases e : d = c
    · subst e
      have ih := rows_at d r [] o ho
      obtain ⟨row, h1, h2, h3⟩ := ih
      have er : rows d acc (d :: r) = acc :: rows d [] r := by
        show (if d = d then _ else _) = _
        rw [if_pos rfl]
      have ec : colF d acc.length (d :: r.take o) = colF d 0 (r.take o) := by
        show (if d = d then _ else _) = _
        rw [if_pos rfl]
      rw [er, ec]
      simp only [beq_self_eq_true, if_true]
      refine ⟨row, by rw [List.getElem?_cons_succ]; exact h1, h2, ?_⟩
      rw [List.take_succ_cons]
      show (acc.length + 1) + lens _ + _ = _
      simp only [List.length_nil] at h3
      unfold lens at h3 ⊢
      omega
    · have er : rows c acc (d :: r) = rows c (acc ++ [d]) r := by
        show (if d = c then _ else _) = _
        rw [if_neg e]
      have ec : colF c acc.length (d :: r.take o) = colF c (acc.length + 1) (r.take o) := by
        show (if d = c then _ else _) = _
        rw [if_neg e]
      have eb : (d == c) = false := by simpa using e
      have ih := rows_at c r (acc ++ [d]) o ho
      rw [er, ec]
      simp only [eb, Bool.false_eq_true, if_false, Nat.add_zero]
      obtain ⟨row, h1, h2, h3⟩ := ih
      rw [List.length_append, List.length_singleton] at h2 h3
      exact ⟨row, h1, h2, by omega⟩
theorem join_lens (y : List Nat) (hy : y.length = 1) : ∀ rs : List (List Nat), rs ≠ [] → (joinL y rs).length + 1 = lens rs
  | [], h => absurd rfl h
  | [p], _ => by
    show p.length + 1 = (p.length + 1) + 0
    omega
  | p :: q :: r, _ => by
    show (p ++ (y ++ joinL y (q :: r))).length + 1 = (p.length + 1) + lens (q :: r)
    have ih := join_lens y hy (q :: r) (by simp)
    rw [List.length_append, List.length_append]
    omega
end Sn

/-! Mathematics of tokens. -/
namespace Sn
open PySem PySem.Spec PyProof.Rows L2 TL PySem.StrLaws PySem.Builtin.Str
/-! ### runs -/
def run (p : Nat → Bool) (l : List Nat) (i : Nat) : Nat := i + ((l.drop i).takeWhile p).length
theorem run_step {p : Nat → Bool} {l : List Nat} {i c : Nat} (h : l[i]? = some c) (hp : p c = true) : run p l i = run p l (i + 1) := by
  obtain ⟨hi, e⟩ := List.getElem?_eq_some_iff.mp h
  unfold run
  rw [List.drop_eq_getElem_cons hi, e, List.takeWhile_cons, if_pos hp, List.length_cons]
  omega
theorem run_stop {p : Nat → Bool} {l : List Nat} {i c : Nat} (h : l[i]? = some c) (hp : p c = false) : run p l i = i := by
  obtain ⟨hi, e⟩ := List.getElem?_eq_some_iff.mp h
  unfold run
  rw [List.drop_eq_getElem_cons hi, e, List.takeWhile_cons, if_neg (by rw [hp]; exact Bool.false_ne_true)]
  rfl
theorem run_end {p : Nat → Bool} {l : List Nat} {i : Nat} (h : l.length ≤ i) : run p l i = i := by
  unfold run
  rw [List.drop_eq_nil_of_le h]
  rfl
theorem run_ge (p : Nat → Bool) (l : List Nat) (i : Nat) : i ≤ run p l i := Nat.le_add_right _ _
theorem run_le {p : Nat → Bool} {l : List Nat} {i : Nat} (h : i ≤ l.length) : run p l i ≤ l.length := by
  unfold run
  have := (List.takeWhile_prefix (l := l.drop i) p).length_le
  rw [List.length_drop] at this
  omega
theorem run_at {p : Nat → Bool} {l : List Nat} : ∀ (m i a : Nat), a = i + m → (∀ k c, i ≤ k → k < a → l[k]? = some c → p c = true) → a ≤ l.length → (∀ c, l[a]? = some c → p c = false) → run p l i = a
  | 0, i, a, e, _, hl, hs => by
    have e : a = i := e
    subst e
    cases h : l[a]? with
    | none => exact run_end (List.getElem?_eq_none_iff.mp h)
    | some c => exact run_stop h (hs c h)
  | m + 1, i, a, e, hr, hl, hs => by
    have hi : i < l.length := by omega
    have hg := List.getElem?_eq_getElem hi
    rw [run_step hg (hr i _ (Nat.le_refl _) (by omega) hg)]
    exact run_at m (i + 1) a (by omega) (fun k c h1 h2 h3 => hr k c (by omega) h2 h3) hl hs
theorem run_in {p : Nat → Bool} {l : List Nat} : ∀ (m i : Nat), l.length = i + m → ∀ k c, i ≤ k → k < run p l i → l[k]? = some c → p c = true
  | 0, i, e, k, c, h1, h2, h3 => by
    rw [run_end (by omega)] at h2
    omega
  | m + 1, i, e, k, c, h1, h2, h3 => by
    have hi : i < l.length := by omega
    have hg := List.getElem?_eq_getElem hi
    by_cases hp : p l[i] = true
    · rw [run_step hg hp] at h2
      by_cases hk : k = i
      · subst hk
        rw [hg] at h3
        rw [← Option.some.inj h3]
        exact hp
      · exact run_in m (i + 1) (by omega) k c (by omega) h2 h3
    · rw [run_stop hg (Bool.eq_false_iff.mpr hp)] at h2
      omega
/-! ### signs -/
def isL (c : Nat) : Bool := (decide (97 ≤ c) && decide (c ≤ 122)) || (decide (65 ≤ c) && decide (c ≤ 90))
def isD (c : Nat) : Bool := decide (48 ≤ c) && decide (c ≤ 57)
def isW (c : Nat) : Bool := isL c || (isD c || c == 95)
def wds : List Str := ["\x69mport", "data", "trait", "with", "impl", "for", "def", "let", "in", "if", "then", "else", "loop", "times", "do", "not", "and", "or", "True", "False"]
def sgs : Str := "()[],:.=<+-*/"
/-- x.find(c, o): the end of the run of other signs, or -1 -/
theorem find_run (x : Str) (c o : Nat) (ho : o ≤ (tl x).length) : Txt.find3 x ⟨#[c]⟩ (o : Int) = if run (fun d => d != c) (tl x) o < (tl x).length then ((run (fun d => d != c) (tl x) o : Nat) : Int) else -1 := by
  have hx : x.length = (tl x).length := len_tl x
  have one : ∀ i, At x ⟨#[c]⟩ x.length i ↔ (tl x)[i]? = some c := fun i => subAt_one x c i
  have hf : fromIndex x.length (o : Int) = o := fromI _ _
  have h3 : Txt.find3 x ⟨#[c]⟩ (o : Int) = (match occurrences x ⟨#[c]⟩ o x.length 1 with | k :: _ => (k : Int) | [] => -1) := by
    show (match occurrences x ⟨#[c]⟩ (fromIndex x.length (o : Int)) x.length 1 with | k :: _ => (k : Int) | [] => -1) = _
    rw [hf]
  rw [h3, occ_eq]
  rcases occ_first x ⟨#[c]⟩ x.length 1 (Nat.le_refl 1) (List.range' o (x.length + 1 - o)) o (fun i hi => (List.mem_range'_1.mp hi).1) with ⟨h0, hn⟩ | ⟨pre, a, post, e, h0, ha, hn⟩
  · rw [h0]
    have er : run (fun d => d != c) (tl x) o = (tl x).length := run_at ((tl x).length - o) o (tl x).length (by omega) (fun k d h1 h2 h4 => by
      have k2 := hn k (List.mem_range'_1.mpr ⟨h1, by omega⟩)
      rw [one, h4] at k2
      simpa using fun z : d = c => k2 (by rw [z])) (Nat.le_refl _) (fun d h => by
        rw [List.getElem?_eq_none (Nat.le_refl _)] at h
        cases h)
    rw [er, if_neg (Nat.lt_irrefl _)]
  · have hoa : o ≤ a ∧ a < o + (x.length + 1 - o) := List.mem_range'_1.mp (by rw [e]; simp)
    have hac := (one a).mp ha
    have hal := (List.getElem?_eq_some_iff.mp hac).1
    have hpre : ∀ k, o ≤ k → k < a → k ∈ pre := by
      intro k h1 h2
      have hm : k ∈ List.range' o (x.length + 1 - o) := List.mem_range'_1.mpr ⟨h1, by omega⟩
      rw [e] at hm
      rcases List.mem_append.mp hm with hm | hm
      · exact hm
      · have hs : (List.range' o (x.length + 1 - o)).Pairwise (· < ·) := by
          first
            | exact List.pairwise_lt_range'
            | simpa using List.pairwise_lt_range' (s := o) (n := x.length + 1 - o)
        rw [e] at hs
        have h5 := (List.pairwise_cons.mp (List.pairwise_append.mp hs).2.1).1
        rcases List.mem_cons.mp hm with hm | hm
        · omega
        · have := h5 k hm
          omega
    have er : run (fun d => d != c) (tl x) o = a := run_at (a - o) o a (by omega) (fun k d h1 h2 h4 => by
      have k2 := hn k (hpre k h1 h2)
      rw [one, h4] at k2
      simpa using fun z : d = c => k2 (by rw [z])) (by omega) (fun d h => by
        rw [hac] at h
        rw [← Option.some.inj h]
        simp)
    rw [er, if_pos hal]
    generalize (forIn (List.range' o (x.length + 1 - o)) ((#[] : Array Nat), o) (occBody x ⟨#[c]⟩ x.length 1)).run.fst = arr at h0
    have h1 : arr.toList[0]? = some a := by simpa using h0
    cases hL : arr.toList with
    | nil => rw [hL] at h1; cases h1
    | cons b t =>
      rw [hL] at h1
      have : b = a := Option.some.inj h1
      rw [this]
/-! ### tokens -/
abbrev Tok := Str × Nat × Nat
def tokC (l : List Nat) (i c : Nat) : Tok :=
  if isL c = true then (if inV (.str (strL ((l.drop i).take (run isW l i - i)))) (wds.map V.str) = true then "word" else "name", i, run isW l i)
  else if isD c = true then ("number", i, run isD l i)
  else if (l.drop i).take 2 = [61, 61] then ("sign", i, i + 2)
  else (if c ∈ tl sgs then "sign" else "wrong", i, i + 1)
theorem tok_end {l : List Nat} {i c : Nat} (h : l[i]? = some c) : i < (tokC l i c).2.2 ∧ (tokC l i c).2.2 ≤ l.length := by
  have hi := (List.getElem?_eq_some_iff.mp h).1
  unfold tokC
  by_cases h1 : isL c = true
  · rw [if_pos h1]
    have hw : isW c = true := by unfold isW; rw [h1]; rfl
    have := run_ge isW l (i + 1)
    have h4 := run_le (p := isW) (l := l) (i := i) (by omega)
    have := run_step h hw
    exact ⟨by show i < run isW l i; omega, h4⟩
  · rw [if_neg h1]
    by_cases h2 : isD c = true
    · rw [if_pos h2]
      have := run_ge isD l (i + 1)
      have h3 := run_le (p := isD) (l := l) (i := i) (by omega)
      have := run_step h h2
      exact ⟨by show i < run isD l i; omega, h3⟩
    · rw [if_neg h2]
      by_cases h3 : (l.drop i).take 2 = [61, 61]
      · rw [if_pos h3]
        have := congrArg List.length h3
        rw [List.length_take, List.length_drop] at this
        have e : ([61, 61] : List Nat).length = 2 := rfl
        exact ⟨by show i < i + 2; omega, by show i + 2 ≤ l.length; omega⟩
      · rw [if_neg h3]
        exact ⟨by show i < i + 1; omega, by show i + 1 ≤ l.length; omega⟩
/-- the tokens at the places of s, the first of which is a; none begins ahead of b; cm: in a comment -/
def scan (l : List Nat) : List Nat → Nat → Nat → Bool → List Tok
  | [], _, _, _ => []
  | c :: r, a, b, cm =>
    if a < b ∨ (cm = true ∧ c ≠ 10) ∨ c = 32 ∨ c = 10 then scan l r (a + 1) b (cm && c != 10)
    else if c = 35 then scan l r (a + 1) b true
    else tokC l a c :: scan l r (a + 1) (tokC l a c).2.2 false
theorem scan_behind (l : List Nat) : ∀ (s : List Nat) (a b : Nat) (cm : Bool), b ≤ a → scan l s a b cm = scan l s a 0 cm
  | [], _, _, _, _ => rfl
  | c :: r, a, b, cm, h => by
    show (if a < b ∨ _ then _ else _) = (if a < 0 ∨ _ then _ else _)
    have e : (a < b ∨ (cm = true ∧ c ≠ 10) ∨ c = 32 ∨ c = 10) ↔ (a < 0 ∨ (cm = true ∧ c ≠ 10) ∨ c = 32 ∨ c = 10) :=
      ⟨fun z => z.elim (fun k => absurd k (by omega)) .inr, fun z => z.elim (fun k => absurd k (by omega)) .inr⟩
    by_cases k : a < 0 ∨ (cm = true ∧ c ≠ 10) ∨ c = 32 ∨ c = 10
    · rw [if_pos (e.mpr k), if_pos k, scan_behind l r (a + 1) b _ (by omega)]
    · rw [if_neg fun z => k (e.mp z), if_neg k, scan_behind l r (a + 1) b _ (by omega)]
theorem scan_skip (l : List Nat) : ∀ (s : List Nat) (a b : Nat), a ≤ b → scan l s a b false = scan l (s.drop (b - a)) b 0 false
  | [], a, b, _ => by rw [List.drop_nil]; rfl
  | c :: r, a, b, h => by
    by_cases e : a = b
    · subst e
      rw [Nat.sub_self, List.drop_zero, scan_behind l (c :: r) a a false (Nat.le_refl _)]
    · show (if a < b ∨ _ then _ else _) = _
      rw [if_pos (.inl (by omega))]
      have e2 : b - a = (b - (a + 1)) + 1 := by omega
      rw [e2, List.drop_succ_cons]
      exact scan_skip l r (a + 1) b (by omega)
theorem scan_comment (l : List Nat) : ∀ (k : Nat) (s : List Nat) (a : Nat), (∀ j, j < k → s[j]? ≠ some 10) → (s[k]? = none ∨ s[k]? = some 10) → scan l s a 0 true = scan l (s.drop k) (a + k) 0 false
  | 0, s, a, _, h => by
    rw [List.drop_zero, Nat.add_zero]
    cases s with
    | nil => rfl
    | cons c r =>
      have hc : c = 10 := by
        rcases h with h | h
        · cases h
        · exact Option.some.inj h
      subst hc
      show (if _ then _ else _) = (if _ then _ else _)
      rw [if_pos (.inr (.inr (.inr rfl))), if_pos (.inr (.inr (.inr rfl)))]
      rfl
  | k + 1, [], a, _, _ => by rw [List.drop_nil]; rfl
  | k + 1, c :: r, a, hn, h => by
    have hc : c ≠ 10 := fun z => hn 0 (by omega) (by rw [z]; rfl)
    show (if _ then _ else _) = _
    rw [if_pos (.inr (.inl ⟨rfl, hc⟩)), List.drop_succ_cons]
    have e : (true && c != 10) = true := by simpa using hc
    rw [e, scan_comment l k r (a + 1) (fun j hj => hn (j + 1) (by omega)) h]
    congr 1
    omega
/-- the tokens that begin from a on, ahead of e -/
def toks (l : List Nat) (a e : Nat) : List Tok := scan l ((l.take e).drop a) a 0 false
theorem toks_end {l : List Nat} {a e : Nat} (h : e ≤ a) : toks l a e = [] := by
  unfold toks
  rw [drop_take_nil h]
  rfl
section
variable {l : List Nat} {a e c : Nat}
theorem toks_cons (he : e ≤ l.length) (ha : a < e) (hc : l[a]? = some c) : toks l a e = if c = 32 ∨ c = 10 then toks l (a + 1) e else if c = 35 then scan l ((l.take e).drop (a + 1)) (a + 1) 0 true else tokC l a c :: scan l ((l.take e).drop (a + 1)) (a + 1) (tokC l a c).2.2 false := by
  obtain ⟨h2, e2⟩ := drop_take_cons ha he
  have ec : l[a] = c := Option.some.inj ((List.getElem?_eq_getElem h2).symm.trans hc)
  unfold toks
  rw [e2, ec]
  show (if _ then _ else _) = _
  by_cases h : c = 32 ∨ c = 10
  · rw [if_pos (.inr (.inr h)), if_pos h]
    rfl
  · rw [if_neg (by rintro (z | ⟨z, _⟩ | z); · omega
                   · cases z
                   · exact h z), if_neg h]
theorem toks_blank (he : e ≤ l.length) (ha : a < e) (hc : l[a]? = some c) (h : c = 32 ∨ c = 10) : toks l a e = toks l (a + 1) e := by
  rw [toks_cons he ha hc, if_pos h]
theorem toks_note (he : e ≤ l.length) (ha : a < e) (hc : l[a]? = some 35) : toks l a e = toks l (run (fun d => d != 10) l a) e := by
  have r1 : run (fun d => d != 10) l a = run (fun d => d != 10) l (a + 1) := run_step hc rfl
  have r2 := run_ge (fun d => d != 10) l (a + 1)
  have r3 := run_le (p := fun d => d != 10) (l := l) (i := a) (by omega)
  rw [toks_cons he ha hc, if_neg (by decide), if_pos rfl]
  unfold toks
  generalize hJ : run (fun d => d != 10) l a = J at r1 r3 ⊢
  have hin : ∀ (k d : Nat), a ≤ k → k < J → l[k]? = some d → (d != 10) = true := fun k d h1 h2 h3 => run_in (p := fun d => d != 10) (l := l) (l.length - a) a (by omega) k d h1 (by rw [hJ]; exact h2) h3
  have gs : ∀ j, ((l.take e).drop (a + 1))[j]? = if a + 1 + j < e then l[a + 1 + j]? else none := fun j => by
    rw [List.getElem?_drop, List.getElem?_take]
  by_cases hJe : J < e
  · rw [scan_comment l (J - (a + 1)) ((l.take e).drop (a + 1)) (a + 1) ?_ ?_, List.drop_drop, show a + 1 + (J - (a + 1)) = J by omega]
    · intro j hj
      rw [gs, if_pos (by omega)]
      intro z
      have := hin (a + 1 + j) 10 (by omega) (by omega) z
      simp at this
    · rw [gs, if_pos (by omega), show a + 1 + (J - (a + 1)) = J by omega]
      cases h : l[J]? with
      | none => exact .inl rfl
      | some d =>
        refine .inr (congrArg some ?_)
        by_cases hd : d = 10
        · exact hd
        · have k1 := run_step (p := fun d => d != 10) h (by simpa using hd)
          have k2 := run_ge (fun d => d != 10) l (J + 1)
          have k3 : run (fun d => d != 10) l J = J := by
            have hJ2 : run (fun d => d != 10) l a = J := hJ
            unfold run at hJ2 ⊢
            have e1 : (l.drop a).dropWhile (fun d => d != 10) = l.drop J := by
              rw [← hJ2, ← List.drop_drop]
              conv => rhs; rw [← List.takeWhile_append_dropWhile (p := fun d => d != 10) (l := l.drop a)]
              rw [List.drop_left' (by rw [List.takeWhile_append_dropWhile])]
            have e2 : (l.drop J).takeWhile (fun d => d != 10) = [] := by
              rw [← e1]
              cases hw : (l.drop a).dropWhile (fun d => d != 10) with
              | nil => rfl
              | cons x t =>
                have := List.head?_dropWhile_not (fun d => d != 10) (l.drop a)
                rw [hw] at this
                simp at this
                rw [List.takeWhile_cons, if_neg]
                simpa using this
            rw [e2]
            rfl
          omega
  · have hJe2 : e ≤ J := by omega
    rw [drop_take_nil hJe2, scan_comment l ((l.take e).drop (a + 1)).length ((l.take e).drop (a + 1)) (a + 1) ?_ (.inl (List.getElem?_eq_none (Nat.le_refl _))), List.drop_length]
    · rfl
    · intro j hj
      rw [List.length_drop, List.length_take] at hj
      rw [gs, if_pos (by omega)]
      intro z
      have := hin (a + 1 + j) 10 (by omega) (by omega) z
      simp at this
theorem toks_tok (he : e ≤ l.length) (ha : a < e) (hc : l[a]? = some c) (h1 : ¬ (c = 32 ∨ c = 10)) (h2 : c ≠ 35) : toks l a e = tokC l a c :: toks l (tokC l a c).2.2 e := by
  rw [toks_cons he ha hc, if_neg h1, if_neg h2]
  have k := tok_end hc
  rw [scan_skip l _ (a + 1) (tokC l a c).2.2 (by omega), List.drop_drop]
  unfold toks
  rw [show a + 1 + ((tokC l a c).2.2 - (a + 1)) = (tokC l a c).2.2 by omega]
end
/-! ### a list of tuples -/
def LT (H : Hp) (p : Addr) (xss : List (List V)) : Prop := ∃ rs : List Addr, H p = some (.lst (rs.map V.ref)) ∧ rs.length = xss.length ∧ ∀ (i : Nat) (r : Addr) (xs : List V), rs[i]? = some r → xss[i]? = some xs → H r = some (.tup xs)
theorem LT.same {H H' : Hp} {p : Addr} {xss : List (List V)} (s : Same H H') : LT H p xss → LT H' p xss := fun ⟨rs, h1, h2, h3⟩ => ⟨rs, s _ _ h1, h2, fun i r xs a b => s _ _ (h3 i r xs a b)⟩
theorem LT.push {H : Hp} {p r : Addr} {xss : List (List V)} {xs : List V} (h : LT H p xss) (hr : H r = some (.tup xs)) : ∃ ys, H p = some (.lst ys) ∧ ys.length = xss.length ∧ LT (upd H p (.lst (ys ++ [.ref r]))) p (xss ++ [xs]) := by
  obtain ⟨rs, h1, h2, h3⟩ := h
  refine ⟨rs.map V.ref, h1, by rw [List.length_map]; exact h2, rs ++ [r], by rw [upd_same, List.map_append]; rfl, by simp [h2], fun i x ys a b => ?_⟩
  by_cases hi : i < rs.length
  · rw [List.getElem?_append_left hi] at a
    rw [List.getElem?_append_left (by omega)] at b
    have k := h3 i x ys a b
    rw [upd_ne (ne_of k h1 (by intro z; cases z))]
    exact k
  · have hi2 : i = rs.length := by
      have := (List.getElem?_eq_some_iff.mp a).1
      rw [List.length_append, List.length_singleton] at this
      omega
    subst hi2
    rw [List.getElem?_append_right (Nat.le_refl _), Nat.sub_self] at a
    rw [List.getElem?_append_right (by omega), h2, Nat.sub_self] at b
    cases a
    cases b
    rw [upd_ne (ne_of hr h1 (by intro z; cases z))]
    exact hr
theorem LT.al {H : Hp} {p q : Addr} {xss : List (List V)} (h : LT H p xss) (g : LT H q xss) (hl : xss.length ≤ 1000000) (hx : ∀ xs ∈ xss, xs.all sca = true ∧ xs.length ≤ 1000000) : Al H 4 (.ref p) (.ref q) := by
  obtain ⟨rs, h1, h2, h3⟩ := h
  obtain ⟨ts, g1, g2, g3⟩ := g
  refine Al.lst h1 g1 (by rw [List.length_map, List.length_map, h2, g2]) (by rw [List.length_map, h2]; exact hl) fun i u v a b => ?_
  rw [List.getElem?_map] at a b
  cases ea : rs[i]? with
  | none => rw [ea] at a; cases a
  | some r =>
    cases eb : ts[i]? with
    | none => rw [eb] at b; cases b
    | some t =>
      rw [ea] at a
      rw [eb] at b
      have e1 : u = V.ref r := (Option.some.inj a).symm
      have e2 : v = V.ref t := (Option.some.inj b).symm
      subst e1 e2
      have hi : i < xss.length := by
        rw [← h2]
        exact (List.getElem?_eq_some_iff.mp ea).1
      have k1 := h3 i r xss[i] ea (List.getElem?_eq_getElem hi)
      have k2 := g3 i t xss[i] eb (List.getElem?_eq_getElem hi)
      obtain ⟨s1, s2⟩ := hx _ (List.getElem_mem hi)
      exact Al.tup k1 k2 rfl s2 (al_eq (n := 1) s1)
def tkV (x : Tok) : List V := [.str x.1, .int (x.2.1 : Int), .int (x.2.2 : Int)]
theorem tkV_sca (ts : List Tok) : ∀ xs ∈ ts.map tkV, xs.all sca = true ∧ xs.length ≤ 1000000 := fun xs h => by
  obtain ⟨x, _, rfl⟩ := List.mem_map.mp h
  exact ⟨rfl, by show 3 ≤ 1000000; decide⟩
end Sn

/-! My own rules: replace of written texts behind a test against a written number. Mathematics of chunks. -/
namespace Sn
open PySem PySem.Spec PyProof.Rows L2 TL
section
variable {X : Cx} {a e : Expr} {ta te : TE} {pos cpos cp : Pos}
theorem pst_set {i : Nat} {x : Str} {pos' : Pos} (hN : X.N.Nodup) (hi : X.N[i]? = some x) (hx : Loc X.env.scope x) (he : PET X e te) (hs : swapsWith e (some (.Name x pos')) pos.line X.env = pure false := by rfl)
    (hf : X.fn x = true ∨ X.env.scope.names.lookup x = some .local := by first | exact .inl rfl | exact .inr rfl | assumption) : PST X (.Assign [.Name x pos'] e pos) (tAsg te (gName i)) := by
  intro pins s σ H D h0 I h
  refine wpAny_Assign_Name (thn (he pins s σ H _ h0 I h) fun v s1 ⟨y, H1, I1, r1, q1⟩ => store_ok I1 hN hi hx r1 (fun s2 I2 => ⟨_, H1, I2, q1⟩) hf) hs
theorem psst_one1 {st : Stmt} {t : TS} (h : PST X st t) : PSsT X [st] t := psst_cons h (PSsT.of pss_nil)
/-- a test against a written number: behind it a token is out -/
theorem ps_ifK {op : CmpOp} {r : R2} {n : Int} {j : Nat} {body orelse : List Stmt} {t u : TS} (ho : OpR X (compareOp op) r) (ha : PE X a ta) (hm : behindInMarks op (.Constant (.int n) j cp) = false) (hb : PSsT X body t) (hc : PSs X orelse u) :
    PS X (.If (.Compare a [op] [.Constant (.int n) j cp] cpos) body orelse pos) (tIfS (tTest (tOp r ta (tC (.int n)))) t u) := by
  refine ⟨fun pins s σ H D I h => ?_⟩
  refine wpAny_If (wpAny_isTrue_Compare1 (thn (ha.run pins s σ H _ I h) fun v s1 ⟨x, H1, I1, r1, q1⟩ => wpAny_Constant_int ?_) hm)
  refine wpAny_mono (PySem.wpAny_toks (ho pins { s1 with toks := s1.toks + 1 } σ H1 x (.int n) v _ _ (I1.tok _) r1 ⟨_, rfl⟩ q1)) (fun c s3 q => ?_) fun _ _ z => z.2
  obtain ⟨hk, z, H3, I3, r3, k, ez, q3⟩ := q
  subst ez
  cases r3
  have hk : s1.toks + 1 ≤ s3.toks := hk
  refine wpAny_truthy_bool ?_
  cases k with
  | true => exact hb pins s3 σ H3 D (by omega) I3 q3
  | false => exact hc.run pins s3 σ H3 D I3 q3
end
/-! ### lines of a text -/
abbrev NL : Str := ("\n" : Str)
theorem nl_eq : NL = ⟨#[10]⟩ := by decide +kernel
/-- the lines of a text -/
def rws (z : Str) : List (List Nat) := rows 10 [] (tl z)
theorem split_len (z : Str) : (Txt.split z NL).length = (rws z).length := by
  have k := congrArg List.length (split_rows z 10 (by decide))
  rw [List.length_map] at k
  rw [nl_eq]
  exact k
theorem split_at {z x : Str} {i : Nat} (h : (Txt.split z NL)[i]? = some x) : (rws z)[i]? = some (tl x) := by
  have k := split_rows z 10 (by decide)
  rw [nl_eq] at h
  unfold rws
  rw [← k, List.getElem?_map, h] <;> rfl
theorem rws_pos (z : Str) : 0 < (rws z).length := by
  unfold rws
  rw [rows_len]
  omega
theorem rws_le (z : Str) : (rws z).length ≤ (tl z).length + 1 := by
  unfold rws
  rw [rows_len]
  have := List.count_le_length (a := 10) (l := tl z)
  omega
theorem cutV_to (xs : List V) (o : Nat) : cutV xs none (some (o : Int)) = xs.take o := by
  unfold cutV
  rw [HT.sIx_none, HT.sIx_nat, List.drop_zero, Nat.sub_zero, List.take_eq_take_iff]
  omega
theorem cutV_from (xs : List V) (o : Nat) : cutV xs (some (o : Int)) none = xs.drop o := by
  unfold cutV
  rw [HT.sIx_none, HT.sIx_nat]
  rcases Nat.le_total o xs.length with h | h
  · rw [Nat.min_eq_left h, List.take_of_length_le (by rw [List.length_drop]; exact Nat.le_refl _)]
  · rw [Nat.min_eq_right h, Nat.sub_self, List.take_zero, List.drop_eq_nil_of_le h]
theorem row_le {z x : Str} {i : Nat} (h : (Txt.split z NL)[i]? = some x) : x.length ≤ (tl z).length := by
  have k := split_at h
  have : ∀ (l acc : List Nat) (i : Nat) (r : List Nat), (rows 10 acc l)[i]? = some r → r.length ≤ acc.length + l.length := by
    intro l
    induction l with
    | nil =>
      intro acc i r h
      cases i with
      | zero => rw [← Option.some.inj (show some acc = some r from h)]; exact Nat.le_add_right ..
      | succ i => cases h
    | cons d l ih =>
      intro acc i r h
      have h : (if d = 10 then acc :: rows 10 [] l else rows 10 (acc ++ [d]) l)[i]? = some r := h
      rw [List.length_cons]
      split at h
      · cases i with
        | zero => rw [← Option.some.inj (show some acc = some r from h)]; omega
        | succ i =>
          have z := ih [] i r h
          simp only [List.length_nil] at z
          omega
      · have z := ih _ i r h
        rw [List.length_append, List.length_singleton] at z
        omega
  have k2 := this _ _ _ _ k
  rw [len_tl x]
  simpa using k2
theorem s_sp7 : (" " : Str) = ⟨#[32]⟩ := by decide +kernel
theorem s_nl7 : ("\n" : Str) = ⟨#[10]⟩ := by decide +kernel
/-! ### where chunks begin -/
def beg (c : Nat) : Bool := c != 32 && c != 10
def stL : List Nat → Bool → Nat → List Nat
  | [], _, _ => []
  | c :: r, f, at_ => (if (f && beg c) = true then [at_] else []) ++ stL r (c == 10) (at_ + 1)
def lastf : List Nat → Bool → Bool
  | [], f => f
  | d :: r, _ => lastf r (d == 10)
theorem stL_snoc (c : Nat) : ∀ (l : List Nat) (f : Bool) (a : Nat), stL (l ++ [c]) f a = stL l f a ++ (if (lastf l f && beg c) = true then [a + l.length] else [])
  | [], f, a => by
    show (if (f && beg c) = true then [a] else []) ++ [] = [] ++ (if (f && beg c) = true then [a + 0] else [])
    simp
  | d :: r, f, a => by
    have ih := stL_snoc c r (d == 10) (a + 1)
    show (if (f && beg d) = true then [a] else []) ++ stL (r ++ [c]) (d == 10) (a + 1) = ((if (f && beg d) = true then [a] else []) ++ stL r (d == 10) (a + 1)) ++ (if (lastf r (d == 10) && beg c) = true then [a + (r.length + 1)] else [])
    rw [ih, List.append_assoc, show a + (r.length + 1) = a + 1 + r.length by omega]
theorem lastf_take : ∀ (l : List Nat) (i d : Nat) (f : Bool), l[i]? = some d → lastf (l.take (i + 1)) f = (d == 10)
  | [], i, d, f, h => by simp at h
  | e :: r, 0, d, f, h => by
    have : e = d := by simpa using h
    subst this
    rfl
  | e :: r, i + 1, d, f, h => by
    rw [List.take_succ_cons]
    exact lastf_take r i d (e == 10) (by simpa using h)
theorem stL_le : ∀ (l : List Nat) (f : Bool) (a : Nat), (stL l f a).length ≤ l.length
  | [], _, _ => Nat.le_refl _
  | c :: r, f, a => by
    have := stL_le r (c == 10) (a + 1)
    show ((if (f && beg c) = true then [a] else []) ++ stL r (c == 10) (a + 1)).length ≤ r.length + 1
    rw [List.length_append]
    split <;> simp <;> omega
/-- .. by lines -/
def rowSt : List (List Nat) → Nat → List Nat
  | [], _ => []
  | r :: rs, a => (if (r.head?.any fun c => c != 32) = true then [a] else []) ++ rowSt rs (a + r.length + 1)
theorem rowSt_rows : ∀ (l acc : List Nat) (a : Nat), (∀ c ∈ acc, c ≠ 10) → rowSt (rows 10 acc l) a = (match acc with
    | [] => stL l true a
    | c :: _ => (if (c != 32) = true then [a] else []) ++ stL l false (a + acc.length))
  | [], acc, a, h => by
    cases acc with
    | nil => rfl
    | cons c r => rfl
  | d :: r, acc, a, h => by
    show rowSt (if d = 10 then acc :: rows 10 [] r else rows 10 (acc ++ [d]) r) a = _
    by_cases hd : d = 10
    · subst hd
      rw [if_pos rfl]
      have ih := rowSt_rows r [] (a + acc.length + 1) (fun _ hc => nomatch hc)
      show (if (acc.head?.any fun c => c != 32) = true then [a] else []) ++ rowSt (rows 10 [] r) (a + acc.length + 1) = _
      rw [ih]
      cases acc with
      | nil =>
        show [] ++ stL r true (a + 0 + 1) = (if (true && beg 10) = true then [a] else []) ++ stL r (10 == 10) (a + 1)
        rfl
      | cons c q =>
        show (if (c != 32) = true then [a] else []) ++ stL r true (a + (c :: q).length + 1) = (if (c != 32) = true then [a] else []) ++ ((if (false && beg 10) = true then [a + (c :: q).length] else []) ++ stL r (10 == 10) (a + (c :: q).length + 1))
        rfl
    · rw [if_neg hd]
      have hd2 : (d == 10) = false := beq_eq_false_iff_ne.mpr hd
      have ih := rowSt_rows r (acc ++ [d]) a (fun c hc => by
        rcases List.mem_append.mp hc with hc | hc
        · exact h c hc
        · rw [List.mem_singleton.mp hc]; exact hd)
      rw [ih]
      cases acc with
      | nil =>
        show (if (d != 32) = true then [a] else []) ++ stL r false (a + 1) = (if (true && beg d) = true then [a] else []) ++ stL r (d == 10) (a + 1)
        have : (d != 10) = true := by simpa using hd
        rw [hd2]
        unfold beg
        rw [this, Bool.true_and, Bool.and_true]
      | cons c q =>
        show (if (c != 32) = true then [a] else []) ++ stL r false (a + (c :: (q ++ [d])).length) = (if (c != 32) = true then [a] else []) ++ ((if (false && beg d) = true then [a + (c :: q).length] else []) ++ stL r (d == 10) (a + (c :: q).length + 1))
        rw [hd2, show a + (c :: (q ++ [d])).length = a + (c :: q).length + 1 by simp; omega]
        rfl
theorem rowSt_snoc (r : List Nat) : ∀ (rs : List (List Nat)) (a : Nat), rowSt (rs ++ [r]) a = rowSt rs a ++ (if (r.head?.any fun c => c != 32) = true then [a + lens rs] else [])
  | [], a => by
    show (if (r.head?.any fun c => c != 32) = true then [a] else []) ++ [] = [] ++ (if (r.head?.any fun c => c != 32) = true then [a + 0] else [])
    simp
  | q :: rs, a => by
    have ih := rowSt_snoc r rs (a + q.length + 1)
    show (if (q.head?.any fun c => c != 32) = true then [a] else []) ++ rowSt (rs ++ [r]) (a + q.length + 1) = ((if (q.head?.any fun c => c != 32) = true then [a] else []) ++ rowSt rs (a + q.length + 1)) ++ _
    rw [ih, List.append_assoc, show a + lens (q :: rs) = a + q.length + 1 + lens rs by unfold lens; simp; omega]
theorem lens_snoc (rs : List (List Nat)) (r : List Nat) : lens (rs ++ [r]) = lens rs + (r.length + 1) := by
  unfold lens
  rw [List.map_append, List.sum_append]
  simp
theorem rowSt_len (l : List (List Nat)) (a : Nat) : (rowSt l a).length ≤ l.length := by
  induction l generalizing a with
  | nil => exact Nat.le_refl _
  | cons r rs ih =>
    have := ih (a + r.length + 1)
    show ((if (r.head?.any fun c => c != 32) = true then [a] else []) ++ rowSt rs (a + r.length + 1)).length ≤ rs.length + 1
    rw [List.length_append]
    split <;> simp <;> omega
/-- the chunks of a text, as pairs -/
def chV (l : List Nat) : List (List V) := List.zipWith (fun x y => [x, y]) ((stL l true 0).map fun n : Nat => V.int (n : Int)) ((((stL l true 0).map fun n : Nat => V.int (n : Int)).drop 1) ++ [V.int (l.length : Int)])
end Sn

/-! My own rule: list(zip(xs, ys)) of two lists. -/
namespace Sn
open PySem PySem.Spec PyProof.Rows L2
theorem zip_len0 : typeLookup (.type "zip") "__len__" = pure none := am_miss_of_fast (by decide +kernel)
theorem zip_hint0 : typeLookup (.type "zip") "__length_hint__" = pure none := am_miss_of_fast (by decide +kernel)
/-- the pairs made so far -/
structure ZMade (h0 : Heap) (xs ys : Array Value) (acc : List Addr) (h : Heap) : Prop where
  kp : ∀ b o, h0.get? b = some o → h.get? b = some o
  it : ∀ (j : Nat) (T : Addr), acc[j]? = some T → h0.objs.size ≤ T ∧ ∃ x y, xs[j]? = some x ∧ ys[j]? = some y ∧ IsPair h T x y
  up : acc.Pairwise (· < ·)
structure ZS (h0 : Heap) (S z TI TO i1 i2 l1 l2 : Addr) (xs ys : Array Value) (i : Nat) (acc : List Addr) (h : Heap) : Prop extends ZMade h0 xs ys acc h where
  ti : IsPair h TI (.ref i1) (.ref i2)
  g1 : h.IsListIter i1 l1 i
  g2 : h.IsListIter i2 l2 i
  zz : (IsZip h z TI TO .none ∧ ∃ a b, IsPair h TO a b) ∨ ∃ T f oT, IsZipHeld h z TI TO T f ∧ h.get? T = some oT ∧ T ≠ z ∧ T ≠ i1 ∧ T ≠ i2 ∧ T ≠ S
  ln : acc.length = i
  lo : TO < h.objs.size
  lt : ∀ T ∈ acc, T < h.objs.size ∧ T ≠ z ∧ T ≠ TO ∧ T ≠ i1 ∧ T ≠ i2 ∧ T ≠ S
structure ZFix (h0 : Heap) (S z TI TO i1 i2 l1 l2 : Addr) : Prop where
  D : ZipApart z TI TO i1 i2 l1 l2
  bz : h0.objs.size ≤ z
  bTO : h0.objs.size ≤ TO
  b1 : h0.objs.size ≤ i1
  b2 : h0.objs.size ≤ i2
  bS : h0.objs.size ≤ S
  Sz : z ≠ S
  STI : TI ≠ S
  STO : TO ≠ S
  S1 : i1 ≠ S
  S2 : i2 ≠ S
section
variable {h0 : Heap} {S z TI TO i1 i2 l1 l2 : Addr} {xs ys : Array Value} {i : Nat} {acc : List Addr} {h h' : Heap}
theorem ZMade.keep (m : ZMade h0 xs ys acc h) (kp : ∀ b o, h0.get? b = some o → h'.get? b = some o) (k : ∀ T ∈ acc, ∀ o, h.get? T = some o → h'.get? T = some o) : ZMade h0 xs ys acc h' :=
  ⟨kp, fun j T e => let ⟨a, x, y, hx, hy, p⟩ := m.it j T e; ⟨a, x, y, hx, hy, k T (List.mem_of_getElem? e) _ p⟩, m.up⟩
theorem ZS.at (Fx : ZFix h0 S z TI TO i1 i2 l1 l2) (Z : ZS h0 S z TI TO i1 i2 l1 l2 xs ys i acc h) (k : ∀ b o, b ≠ S → h.get? b = some o → h'.get? b = some o) (sz : h.objs.size ≤ h'.objs.size) : ZS h0 S z TI TO i1 i2 l1 l2 xs ys i acc h' where
  toZMade := Z.toZMade.keep (fun b o e => k b o (Nat.ne_of_lt (Nat.lt_of_lt_of_le (Heap.lt_size e) Fx.bS)) (Z.kp b o e)) fun T hT o e => k T o (Z.lt T hT).2.2.2.2.2 e
  ti := k _ _ Fx.STI Z.ti
  g1 := Z.g1.at fun o e => k _ o Fx.S1 e
  g2 := Z.g2.at fun o e => k _ o Fx.S2 e
  zz := by
    rcases Z.zz with ⟨a, b, c, d⟩ | ⟨T, f, oT, a, b, c, d, e, g⟩
    · exact .inl ⟨k _ _ Fx.Sz a, b, c, k _ _ Fx.STO d⟩
    · exact .inr ⟨T, f, oT, k _ _ Fx.Sz a, k _ _ g b, c, d, e, g⟩
  ln := Z.ln
  lo := Nat.lt_of_lt_of_le Z.lo sz
  lt := fun T hT => ⟨Nat.lt_of_lt_of_le (Z.lt T hT).1 sz, (Z.lt T hT).2⟩
theorem pw_snoc {l : List Addr} {a : Addr} (h : l.Pairwise (· < ·)) (k : ∀ b ∈ l, b < a) : (l ++ [a]).Pairwise (· < ·) :=
  List.pairwise_append.mpr ⟨h, List.pairwise_singleton _ _, fun b hb c hc => by rw [List.mem_singleton.mp hc]; exact k b hb⟩
/-- one more pair -/
theorem ZS.more {x y : Value} {T : Addr} (Z : ZS h0 S z TI TO i1 i2 l1 l2 xs ys i acc h) (Fx : ZFix h0 S z TI TO i1 i2 l1 l2) (eT : T = h.objs.size) (hS : S < h.objs.size) (hx : xs[i]? = some x) (hy : ys[i]? = some y) (hT : IsPair h' T x y) (sz : h'.objs.size = h.objs.size + 1)
    (k : ∀ b o, b ≠ z → b ≠ TO → b ≠ i1 → b ≠ i2 → h.get? b = some o → h'.get? b = some o) (g1 : h'.IsListIter i1 l1 (i + 1)) (g2 : h'.IsListIter i2 l2 (i + 1))
    (zz : ∃ T f oT, IsZipHeld h' z TI TO T f ∧ h'.get? T = some oT ∧ T ≠ z ∧ T ≠ i1 ∧ T ≠ i2 ∧ T ≠ S) : ZS h0 S z TI TO i1 i2 l1 l2 xs ys (i + 1) (acc ++ [T]) h' := by
  subst eT
  have lz : z < h.objs.size := by
    rcases Z.zz with ⟨a, _⟩ | ⟨_, _, _, a, _⟩
    · exact Heap.lt_size a
    · exact Heap.lt_size a
  have l1' : i1 < h.objs.size := let ⟨_, e, _⟩ := Z.g1; Heap.lt_size e
  have l2' : i2 < h.objs.size := let ⟨_, e, _⟩ := Z.g2; Heap.lt_size e
  have kp : ∀ b o, h0.get? b = some o → h'.get? b = some o := fun b o e => by
    have := Heap.lt_size e
    exact k b o (Nat.ne_of_lt (Nat.lt_of_lt_of_le this Fx.bz)) (Nat.ne_of_lt (Nat.lt_of_lt_of_le this Fx.bTO)) (Nat.ne_of_lt (Nat.lt_of_lt_of_le this Fx.b1)) (Nat.ne_of_lt (Nat.lt_of_lt_of_le this Fx.b2)) (Z.kp b o e)
  have m := Z.toZMade.keep kp fun T hT o e => k T o (Z.lt T hT).2.1 (Z.lt T hT).2.2.1 (Z.lt T hT).2.2.2.1 (Z.lt T hT).2.2.2.2.1 e
  have hle : h0.objs.size ≤ h.objs.size := Nat.le_of_lt (Nat.lt_of_le_of_lt Fx.bz lz)
  refine ⟨⟨kp, fun j T e => ?_, pw_snoc Z.up fun b hb => (Z.lt b hb).1⟩, k _ _ Fx.D.TIz Fx.D.TITO Fx.D.TIi1 Fx.D.TIi2 Z.ti, g1, g2, .inr zz, by rw [List.length_append, Z.ln]; rfl, by rw [sz]; exact Nat.lt_succ_of_lt Z.lo, fun T hT => ?_⟩
  · rcases Nat.lt_or_ge j acc.length with hj | hj
    · rw [List.getElem?_append_left hj] at e
      exact m.it j T e
    · rw [List.getElem?_append_right hj] at e
      cases q : j - acc.length with
      | zero =>
        rw [q] at e
        have ej : j = i := by have := Z.ln; omega
        cases e
        subst ej
        exact ⟨hle, x, y, hx, hy, hT⟩
      | succ q' => rw [q] at e; cases e
  · rcases List.mem_append.mp hT with hT | hT
    · have := Z.lt T hT
      exact ⟨by rw [sz]; exact Nat.lt_succ_of_lt this.1, this.2⟩
    · rw [List.mem_singleton.mp hT]
      exact ⟨by rw [sz]; exact Nat.lt_succ_self _, Nat.ne_of_gt lz, Nat.ne_of_gt Z.lo, Nat.ne_of_gt l1', Nat.ne_of_gt l2', Nat.ne_of_gt hS⟩
end
section
variable {prog : Program} {w : World} {A : Around} {R : Result → Shared → Prop} {h0 : Heap} {S z TI TO i1 i2 l1 l2 : Addr} {xs ys : Array Value}
abbrev LsAt (h : Heap) (S : Addr) (acc : List Addr) : Prop := ∃ c, h.get? S = some { cls := .type "list", dict := none, data := .seq (acc.map Value.ref).toArray c, slots := #[] }
/-- the list at S is filled -/
theorem zip_fill (s0 : Shared) (res : Value) (hh : A.handled = none) (Fx : ZFix h0 S z TI TO i1 i2 l1 l2) (L1 : h0.IsList l1 xs) (L2 : h0.IsList l2 ys) (hn : min xs.size ys.size ≤ 1000000)
    (hR : ∀ h' tk' acc', ZMade h0 xs ys acc' h' → acc'.length = min xs.size ys.size → LsAt h' S acc' → R (.ok (.ret res)) { s0 with heap := h', toks := tk' }) :
    ∀ (k i : Nat) (h : Heap) (tk : Nat) (acc : List Addr), min xs.size ys.size - i = k → i ≤ min xs.size ys.size → ZS h0 S z TI TO i1 i2 l1 l2 xs ys i acc h → LsAt h S acc →
      codeAny (model prog w) A (.builtin "list.extend.loop" ⟨[.ref S, .ref z, res], []⟩) R { s0 with heap := h, toks := tk } := by
  intro k
  induction k with
  | zero =>
    intro i h tk acc hk hi Z ⟨cc, hS⟩
    have ei : i = min xs.size ys.size := by omega
    subst ei
    refine codeAny_builtin F.entry_extend_loop (?_ : wpAny _ _ _ _ _ _)
    rw [Around.under_plainId F.plain_extend_loop _] ; show wpAny _ A.in1 (pyNext (.ref z) >>= _) _ _ _
    have hend : xs[min xs.size ys.size]? = none ∨ ys[min xs.size ys.size]? = none := by
      rcases Nat.le_total xs.size ys.size with q | q
      · exact .inl (Array.getElem?_eq_none (by rw [Nat.min_eq_left q]; exact Nat.le_refl _))
      · exact .inr (Array.getElem?_eq_none (by rw [Nat.min_eq_right q]; exact Nat.le_refl _))
    have hl1 : h.IsList l1 xs := L1.at fun o e => Z.kp _ o e
    have hl2 : h.IsList l2 ys := L2.at fun o e => Z.kp _ o e
    have go : ∀ h', (∀ b o, b ≠ z → b ≠ TO → b ≠ i1 → b ≠ i2 → h.get? b = some o → h'.get? b = some o) → R (.ok (.ret res)) { s0 with heap := h', toks := tk } := fun h' k => by
      refine hR h' tk acc (Z.toZMade.keep (fun b o e => ?_) fun T hT o e => k T o (Z.lt T hT).2.1 (Z.lt T hT).2.2.1 (Z.lt T hT).2.2.2.1 (Z.lt T hT).2.2.2.2.1 e) Z.ln ⟨cc, k S _ (Ne.symm Fx.Sz) (Ne.symm Fx.STO) (Ne.symm Fx.S1) (Ne.symm Fx.S2) hS⟩
      have := Heap.lt_size e
      exact k b o (Nat.ne_of_lt (Nat.lt_of_lt_of_le this Fx.bz)) (Nat.ne_of_lt (Nat.lt_of_lt_of_le this Fx.bTO)) (Nat.ne_of_lt (Nat.lt_of_lt_of_le this Fx.b1)) (Nat.ne_of_lt (Nat.lt_of_lt_of_le this Fx.b2)) (Z.kp b o e)
    refine wpAny_bind ?_
    rcases Z.zz with ⟨a, b, c, d⟩ | ⟨T, f, oT, a, b, c, d, e, g⟩
    · exact wpAny_pyNext_zip_end hh Fx.D a Z.ti d Z.g1 Z.g2 hl1 hl2 hend fun h' k => wpAny_pure (go h' k)
    · exact wpAny_pyNext_zip_end_held hh Fx.D a b Z.ti Z.g1 Z.g2 hl1 hl2 hend fun h' k => wpAny_pure (go h' fun b o h1 _ h3 h4 q => k b o h1 h3 h4 q)
  | succ k ih =>
    intro i h tk acc hk hi Z ⟨cc, hS⟩
    have hlt : i < min xs.size ys.size := by omega
    have ex := Array.getElem?_eq_getElem (Nat.lt_of_lt_of_le hlt (Nat.min_le_left ..))
    have ey := Array.getElem?_eq_getElem (Nat.lt_of_lt_of_le hlt (Nat.min_le_right ..))
    have hl1 : h.IsList l1 xs := L1.at fun o e => Z.kp _ o e
    have hl2 : h.IsList l2 ys := L2.at fun o e => Z.kp _ o e
    have hSl := Heap.lt_size hS
    refine codeAny_builtin F.entry_extend_loop (?_ : wpAny _ _ _ _ _ _)
    rw [Around.under_plainId F.plain_extend_loop _] ; show wpAny _ A.in1 (pyNext (.ref z) >>= _) _ _ _
    have go : ∀ h', ZS h0 S z TI TO i1 i2 l1 l2 xs ys (i + 1) (acc ++ [h.objs.size]) h' → LsAt h' S acc →
        wpAny (model prog w) A.in1 (updateSeq S (·.push (.ref h.objs.size)) >>= fun _ => again (.builtin "list.extend.loop" ⟨[.ref S, .ref z, res], []⟩))
          (fun fin s' => match fin with | .done f => R (.ok f) s' | .again c' => c'.quiet = true ∧ codeAny (model prog w) A c' R s') (fun e s' => R (.error e) s') { s0 with heap := h', toks := tk } := fun h' Z' ⟨c', hS'⟩ => by
      have hc : (acc.map Value.ref).toArray.size = i := by rw [List.size_toArray, List.length_map, Z.ln]
      refine wpAny_bind (wpAny_updateSeq hS' rfl (wpAny_pure ⟨plainId_quiet F.plain_extend_loop _, ih (i + 1) _ tk (acc ++ [h.objs.size]) (by omega) hlt (Z'.at Fx (fun b o hb q => (Heap.get?_update_other _ _ (Ne.symm hb)).trans q) ?_) ?_⟩) ?_ ?_)
      · exact Nat.le_of_eq (Heap.SameBut.update ..).1.symm
      · have q := Heap.get?_update_self (Obj.mapSeq (·.push (Value.ref h.objs.size))) hS' rfl
        have e2 : ((acc ++ [h.objs.size]).map Value.ref).toArray = (acc.map Value.ref).toArray.push (.ref h.objs.size) := by
          rw [List.map_append, List.push_toArray]
          rfl
        unfold LsAt
        rw [e2]
        exact ⟨_, q⟩
      · rw [hc, sizeLine_eq]; omega
      · show ((acc.map Value.ref).toArray.push _).size ≤ _
        rw [Array.size_push, hc, sizeLine_eq]; omega
    refine wpAny_bind ?_
    rcases Z.zz with ⟨a, b, c, d⟩ | ⟨T, f, oT, a, b, c, d, e, g⟩
    · refine wpAny_pyNext_zip_item Fx.D a Z.ti d Z.g1 Z.g2 hl1 hl2 ex ey fun h' a1 a2 a3 a4 a5 a6 k => go h' ?_ ⟨cc, k S _ (Ne.symm Fx.Sz) (Ne.symm Fx.STO) (Ne.symm Fx.S1) (Ne.symm Fx.S2) hS⟩
      have l0 : ∀ {c o}, h.get? c = some o → h.objs.size ≠ c := fun e => Nat.ne_of_gt (Heap.lt_size e)
      exact Z.more Fx rfl hSl ex ey a5 a6 k a3 a4 ⟨_, false, _, a1, a5, l0 a, (let ⟨_, e, _⟩ := Z.g1; l0 e), (let ⟨_, e, _⟩ := Z.g2; l0 e), l0 hS⟩
    · refine wpAny_pyNext_zip_item_held Fx.D a b Z.ti Z.g1 Z.g2 hl1 hl2 ex ey fun h' a1 a3 a4 a5 a6 k => go h' ?_ ⟨cc, k S _ (Ne.symm Fx.Sz) (Ne.symm Fx.S1) (Ne.symm Fx.S2) hS⟩
      exact Z.more Fx rfl hSl ex ey a5 a6 (fun b o h1 _ h3 h4 q => k b o h1 h3 h4 q) a3 a4 ⟨T, true, oT, a1, k _ _ c d e b, c, d, e, g⟩
end
section
variable {prog : Program} {w : World} {A : Around} {E : Value → Shared → Prop} {h0 : Heap} {z TI TO i1 i2 l1 l2 : Addr} {xs ys : Array Value}
theorem call_list_zip {s : Shared} {Q : Value → Shared → Prop} (hh : A.handled = none) (Fx : ZFix h0 s.heap.objs.size z TI TO i1 i2 l1 l2) (L1 : h0.IsList l1 xs) (L2 : h0.IsList l2 ys) (hn : min xs.size ys.size ≤ 1000000)
    (Z : ZS h0 s.heap.objs.size z TI TO i1 i2 l1 l2 xs ys 0 [] s.heap) (hz : IsZip s.heap z TI TO .none)
    (hQ : ∀ h' tk' acc', ZMade h0 xs ys acc' h' → acc'.length = min xs.size ys.size → LsAt h' s.heap.objs.size acc' → Q (.ref s.heap.objs.size) { s with heap := h', toks := tk' }) :
    wpAny (model prog w) A (call (.type "list") [.ref z]) Q E s := by
  refine callType_codes (Q₁ := fun obj s₁ => obj = .ref s.heap.objs.size ∧ s₁ = { s with heap := s.heap.push { cls := .type "list", data := .seq #[] } }) PySem.F.called_list (PySem.F.typeCall_list_1 _)
    PySem.F.entry_list_init (code_list_new _ ⟨rfl, rfl⟩) fun obj s₁ h₁ => ?_
  obtain ⟨rfl, rfl⟩ := h₁
  generalize hSe : s.heap.objs.size = S at *
  have hS0 : (s.heap.push { cls := .type "list", data := .seq #[] }).get? S = some { cls := .type "list", data := .seq #[] } := by rw [← hSe]; exact Heap.get?_push_size _ rfl
  have Z1 : ZS h0 S z TI TO i1 i2 l1 l2 xs ys 0 [] (s.heap.push { cls := .type "list", data := .seq #[] }) := Z.at Fx (fun b o _ e => Heap.get?_push_of_some _ e) (by rw [Heap.size_push]; exact Nat.le_succ _)
  have hz1 : IsZip (s.heap.push { cls := .type "list", data := .seq #[] }) z TI TO .none := Heap.get?_push_of_some _ hz
  generalize s.heap.push { cls := .type "list", data := .seq #[] } = h1 at *
  refine ⟨⟨_, hS0, rfl⟩, PySem.F.args_list_init_2 _ _, ?_⟩
  show wpAny _ A.in1.in1 (do let old ← Builtin.List.listItems (.ref S); Builtin.List.listUpdate (.ref S) (fun _ => #[]); letGo old.toList.reverse; Builtin.List.listExtendWith (.ref S) (.ref z) .none) _ _ _
  refine wpAny_bind (?_ : wpAny _ _ (Builtin.List.listItems (.ref S)) _ _ _)
  unfold Builtin.List.listItems
  refine wpAny_bind (wpAny_seqItems hS0 rfl (wpAny_pure (?_ : wpAny _ _ _ _ _ _)))
  show wpAny _ A.in1.in1 (updateSeq S (fun _ => #[]) >>= fun _ => letGo (#[] : Array Value).toList.reverse >>= fun _ => Builtin.List.listExtendWith (.ref S) (.ref z) .none) _ _ _
  refine wpAny_bind (wpAny_updateSeq hS0 rfl (wpAny_bind (wpAny_letGo ?_)))
  have hS2 := Heap.get?_update_self (Obj.mapSeq (fun _ => (#[] : Array Value))) hS0 rfl
  have Z2 := Z1.at Fx (h' := h1.update S (Obj.mapSeq (fun _ => (#[] : Array Value)))) (fun b o hb e => (Heap.get?_update_other _ _ (Ne.symm hb)).trans e) (Nat.le_of_eq (Heap.SameBut.update ..).1.symm)
  have hz2 : IsZip (h1.update S (Obj.mapSeq (fun _ => (#[] : Array Value)))) z TI TO .none := (Heap.get?_update_other _ _ (Ne.symm Fx.Sz)).trans hz1
  generalize h1.update S (Obj.mapSeq (fun _ => (#[] : Array Value))) = h2 at *
  unfold Builtin.List.listExtendWith
  refine wpAny_bind (wpAny_typeOf (T := "zip") ⟨_, hz2, rfl⟩ ?_)
  have e1 : Builtin.List.listSameRef (.ref S) (.ref z) = false := by simp [Builtin.List.listSameRef, Ne.symm Fx.Sz]
  have e2 : (Value.type "zip" == Value.type "list") = false := by decide
  have e3 : (Value.type "zip" == Value.type "tuple") = false := by decide
  simp only [e1, e2, e3, Bool.or_false, Bool.false_eq_true, if_false]
  refine wpAny_bind (wpAny_pyIter_zip hz2 (wpAny_bind (wpAny_holding ?_)))
  unfold Builtin.List.listLengthHint
  refine wpAny_bind (wpAny_specialOf (T := "zip") ⟨_, hz2, rfl⟩ zip_len0 (?_ : wpAny _ _ _ _ _ _))
  show wpAny _ A.in1.in1 (specialOf (Value.ref z) (Str.ofString "__length_hint__") >>= _) _ _ _
  refine wpAny_bind (wpAny_specialOf (T := "zip") ⟨_, hz2, rfl⟩ zip_hint0 (wpAny_pure ?_))
  show wpAny _ A.in1.in1 (rule "list.extend.makes-room" >>= fun _ => Builtin.List.listTouch (.ref S) >>= fun _ => again (.builtin "list.extend.loop" ⟨[.ref S, .ref z, .none], []⟩)) _ _ _
  refine wpAny_bind (wpAny_rule (wpAny_bind ?_))
  show wpAny _ _ (updateSeq S (·.push .none) >>= fun _ => updateSeq S (·.pop)) _ _ _
  refine wpAny_bind (wpAny_updateSeq hS2 rfl (?_ : wpAny _ _ _ _ _ _))
  have hS3 := Heap.get?_update_self (Obj.mapSeq (·.push Value.none)) hS2 rfl
  refine wpAny_updateSeq (hz := by seq_fits) hS3 rfl (wpAny_pure ⟨plainId_quiet F.plain_extend_loop _, ?_⟩)
  have hS4 := Heap.get?_update_self (Obj.mapSeq (·.pop)) hS3 rfl
  have k3 : ∀ b o, b ≠ S → h2.get? b = some o → ((h2.update S (Obj.mapSeq (·.push Value.none))).update S (Obj.mapSeq (·.pop))).get? b = some o := fun b o hb e =>
    (Heap.get?_update_other _ _ (Ne.symm hb)).trans ((Heap.get?_update_other _ _ (Ne.symm hb)).trans e)
  have sz3 : ((h2.update S (Obj.mapSeq (·.push Value.none))).update S (Obj.mapSeq (·.pop))).objs.size = h2.objs.size := (Heap.SameBut.update ..).1.trans (Heap.SameBut.update ..).1
  refine zip_fill s .none (A := A.in1) hh Fx L1 L2 hn (fun h' tk' acc' m hl hS' => ⟨rfl, hQ h' tk' acc' m hl hS'⟩) _ 0 _ _ [] rfl (Nat.zero_le _) (Z2.at Fx k3 (Nat.le_of_eq sz3.symm)) ⟨_, hS4⟩
end
end Sn

/-! My own rule: list(zip(xs, ys)) as an expression. -/
namespace Sn
open PySem PySem.Spec PyProof.Rows L2
/-- tuples laid at these places -/
def layT : List Addr → List (List V) → Hp → Hp
  | T :: r, t :: ts, H => layT r ts (upd H T (.tup t))
  | _, _, H => H
theorem layT_off : ∀ (acc : List Addr) (ts : List (List V)) (H : Hp) (b : Addr), b ∉ acc → layT acc ts H b = H b
  | [], ts, H, b, _ => by cases ts <;> rfl
  | T :: r, [], H, b, _ => rfl
  | T :: r, t :: ts, H, b, h => by
    have h1 : b ≠ T := fun e => h (by simp [e])
    have h2 : b ∉ r := fun e => h (by simp [e])
    show layT r ts (upd H T (.tup t)) b = _
    rw [layT_off r ts _ b h2, upd_ne h1]
theorem layT_at : ∀ (acc : List Addr) (ts : List (List V)) (H : Hp) (j : Nat) (T : Addr) (t : List V), acc.Pairwise (· < ·) → acc[j]? = some T → ts[j]? = some t → layT acc ts H T = some (.tup t)
  | [], _, _, _, _, _, _, h, _ => by simp at h
  | _ :: _, [], _, _, _, _, _, _, h => by simp at h
  | T :: r, t :: ts, H, 0, T', t', hp, h1, h2 => by
    have e1 : T = T' := by simpa using h1
    have e2 : t = t' := by simpa using h2
    subst e1 e2
    show layT r ts (upd H T (.tup t)) T = _
    rw [layT_off r ts _ T fun hm => Nat.lt_irrefl _ ((List.pairwise_cons.mp hp).1 T hm), upd_same]
  | T :: r, t :: ts, H, j + 1, T', t', hp, h1, h2 => layT_at r ts _ j T' t' (List.pairwise_cons.mp hp).2 (by simpa using h1) (by simpa using h2)
section
variable {X : Cx}
def tListZip (K : PySem.W.Frag) (ta : TA) : TE := fun σ H Q => ta σ H fun vs H1 => ∃ a b xs ys, vs = [.ref a, .ref b] ∧ SqL K H1 a xs ∧ SqL K H1 b ys ∧ min xs.length ys.length ≤ 1000000 ∧
  ∀ (S : Addr) (H2 : Hp), Same H1 H2 → H1 S = none → LT H2 S (List.zipWith (fun x y => [x, y]) xs ys) → Q (.ref S) H2
theorem pe_list_zip {e e2 : Expr} {ta : TA} {p p2 pos pos2 : Pos} (hc : X.calm = true) (hl : Gl X "list") (hml : X.mg "list" = none) (hg : Gl X "zip") (hm : X.mg "zip" = none) (ha : PA X [e, e2] ta)
    (hs : starEach [e, e2] X.env = (false, eval e X.env) :: starEach [e2] X.env := by rfl) (hpl : (backTo pos2 (starEach [e2] X.env)).any (·.1) = false := by rfl)
    (hs1 : starEach [.Call (.Name "zip" p2) [e, e2] [] pos2] X.env = (false, eval (.Call (.Name "zip" p2) [e, e2] [] pos2) X.env) :: starEach [] X.env := by rfl) :
    PE X (.Call (.Name "list" p) [.Call (.Name "zip" p2) [e, e2] [] pos2] [] pos) (tListZip X.K ta) := by
  refine ⟨fun pins s σ H Q I h => ?_⟩
  refine Call_ (ld_blt I hl hml boot_list (PyProof.Rows.callWith_type1 (args_cons (?_ : wpAny _ _ (eval (.Call (.Name "zip" p2) [e, e2] [] pos2) X.env) _ _ _) hs1) hs1))
  refine Call_ (ld_blt I hg hm PyProof.Rows.boot_zip (PyProof.Rows.callWith_type1 (thn (ha.run pos2 pins s σ H _ I h) fun us s1 ⟨vs, H1, I1, r1, q1⟩ => ?_) hs hpl))
  obtain ⟨a, b, xs, ys, ex, hqx, hqy, hmin, q⟩ := q1
  subst ex
  cases r1 with
  | cons r rr =>
  cases rr with
  | cons r' rr =>
  cases rr
  cases r
  cases r'
  obtain ⟨its, rv, p1, _⟩ := I1.list hqx
  obtain ⟨its2, rv2, p2', _⟩ := I1.list hqy
  have la : a < s1.heap.objs.size := p1.lt
  have lb : b < s1.heap.objs.size := p2'.lt
  have n1 := rv.length
  have n2 := rv2.length
  refine call_zip_2 p1.isList p2'.isList fun h' hz hTI hTO h1 h2 hsz hk => args_nil (?_ : wpAny _ _ _ _ _ _)
  have Fx : ZFix s1.heap h'.objs.size (s1.heap.objs.size + 4) (s1.heap.objs.size + 2) (s1.heap.objs.size + 3) s1.heap.objs.size (s1.heap.objs.size + 1) a b := by
    refine ⟨PySem.W.ktu_apart s1.heap.objs.size a b la lb, Nat.le_add_right _ _, Nat.le_add_right _ _, Nat.le_refl _, Nat.le_add_right _ _, ?_, ?_, ?_, ?_, ?_, ?_⟩
    · rw [hsz]; exact Nat.le_add_right _ _
    all_goals rw [hsz]
    · exact Nat.ne_of_lt (Nat.add_lt_add_left (by decide) _)
    · exact Nat.ne_of_lt (Nat.add_lt_add_left (by decide) _)
    · exact Nat.ne_of_lt (Nat.add_lt_add_left (by decide) _)
    · exact Nat.ne_of_lt (Nat.lt_add_of_pos_right (by decide))
    · exact Nat.ne_of_lt (Nat.add_lt_add_left (by decide) _)
  have Z : ZS s1.heap h'.objs.size (s1.heap.objs.size + 4) (s1.heap.objs.size + 2) (s1.heap.objs.size + 3) s1.heap.objs.size (s1.heap.objs.size + 1) a b its.toArray its2.toArray 0 [] h' :=
    { kp := hk, it := fun j T e => by simp at e, up := .nil, ti := hTI, g1 := h1, g2 := h2, zz := .inl ⟨hz, _, _, hTO⟩, ln := rfl, lo := Heap.lt_size hTO, lt := fun T hT => nomatch hT }
  have hmin' : min its.toArray.size its2.toArray.size = min xs.length ys.length := by rw [List.size_toArray, List.size_toArray, ← n1, ← n2]
  refine call_list_zip (s := { s1 with heap := h' }) (I1.ok.hd hc) Fx p1.isList p2'.isList (by rw [hmin']; exact hmin) Z hz fun hF tk acc m hl ⟨c, hS⟩ => ?_
  have hle : s1.heap.objs.size ≤ h'.objs.size := Fx.bS
  have nS : h'.objs.size ∉ acc := fun hm => by
    obtain ⟨j, hj⟩ := List.getElem?_of_mem hm
    obtain ⟨_, x, y, _, _, p⟩ := m.it j _ hj
    have p : hF.get? h'.objs.size = some _ := p
    rw [hS] at p
    have k2 := congrArg Obj.cls (Option.some.inj p)
    injection k2 with k2
    exact absurd k2 (by decide)
  have lw : (List.zipWith (fun x y : V => [x, y]) xs ys).length = acc.length := by rw [List.length_zipWith, hl, hmin']
  have fr1 : ∀ b, b ∈ acc → H1 b = none := fun b hb => by
    obtain ⟨j, hj⟩ := List.getElem?_of_mem hb
    exact I1.hok.fresh (m.it j _ hj).1
  have frS : H1 h'.objs.size = none := I1.hok.fresh hle
  -- the heap behind
  have off : ∀ b, b ∉ acc → b ≠ h'.objs.size → upd (layT acc (List.zipWith (fun x y => [x, y]) xs ys) H1) h'.objs.size (.lst (acc.map V.ref)) b = H1 b := fun b h3 h4 => by rw [upd_ne h4, layT_off _ _ _ _ h3]
  have at_ : ∀ (j : Nat) (T : Addr) (t : List V), acc[j]? = some T → (List.zipWith (fun x y => [x, y]) xs ys)[j]? = some t →
      upd (layT acc (List.zipWith (fun x y => [x, y]) xs ys) H1) h'.objs.size (.lst (acc.map V.ref)) T = some (.tup t) := fun j T t h3 h4 => by
    rw [upd_ne (fun e => nS (by rw [← e]; exact List.mem_of_getElem? h3)), layT_at acc _ H1 j T t m.up h3 h4]
  have stand : ∀ b o, H1 b = some o → upd (layT acc (List.zipWith (fun x y => [x, y]) xs ys) H1) h'.objs.size (.lst (acc.map V.ref)) b = some o := fun b o e => by
    rw [off b (fun hb => by rw [fr1 b hb] at e; cases e) fun hb => by rw [hb, frS] at e; cases e]
    exact e
  have here : upd (layT acc (List.zipWith (fun x y => [x, y]) xs ys) H1) h'.objs.size (.lst (acc.map V.ref)) h'.objs.size = some (.lst (acc.map V.ref)) := upd_same
  generalize upd (layT acc (List.zipWith (fun x y => [x, y]) xs ys) H1) h'.objs.size (.lst (acc.map V.ref)) = H2 at *
  have hsmall : acc.length ≤ sizeLine := by rw [← lw, List.length_zipWith]; exact Nat.le_trans hmin (by decide)
  have I2 : Inv X pins σ H2 { s1 with heap := hF, toks := tk } := by
    refine I1.un (t' := tk) ⟨fun b u q _ _ _ => m.kp b u q, fun b u q _ _ _ => ⟨u.slots, m.kp b u q⟩, fun b u q n _ => ?_, fun b u q _ => ⟨u, m.kp b u q⟩, fun b t q => stand b _ q, fun b u t q => stand b _ q, fun b ps q => ⟨#[], ?_⟩⟩ fun b o e => ?_
    · have lt := Heap.lt_size q
      rw [off b (fun hb => ?_) fun hb => ?_]
      · exact n
      · obtain ⟨j, hj⟩ := List.getElem?_of_mem hb
        exact Nat.lt_irrefl _ (Nat.lt_of_lt_of_le lt (m.it j _ hj).1)
      · exact Nat.lt_irrefl _ (Nat.lt_of_lt_of_le lt (hb ▸ hle))
    · rw [stand b _ q]; simp
    · by_cases hb : b = h'.objs.size
      · subst hb
        rw [here] at e
        cases e
        exact ⟨by rw [List.length_map]; exact hsmall, acc.map Value.ref, c, vals_refs _, hS⟩
      · by_cases hm : b ∈ acc
        · obtain ⟨j, hj⟩ := List.getElem?_of_mem hm
          obtain ⟨_, u, v, hu, hv, pr⟩ := m.it j _ hj
          have hjl : j < (List.zipWith (fun x y : V => [x, y]) xs ys).length := by rw [lw]; exact (List.getElem?_eq_some_iff.mp hj).1
          rw [List.length_zipWith] at hjl
          have hjx : j < xs.length := Nat.lt_of_lt_of_le hjl (Nat.min_le_left ..)
          have hjy : j < ys.length := Nat.lt_of_lt_of_le hjl (Nat.min_le_right ..)
          have et : (List.zipWith (fun x y : V => [x, y]) xs ys)[j]? = some [xs[j], ys[j]] := by
            rw [List.getElem?_zipWith, List.getElem?_eq_getElem hjx, List.getElem?_eq_getElem hjy]
          rw [at_ j b _ hj et] at e
          cases e
          obtain ⟨u', hu', ru⟩ := rv.get (List.getElem?_eq_getElem hjx)
          obtain ⟨v', hv', rv'⟩ := rv2.get (List.getElem?_eq_getElem hjy)
          have eu : u' = u := Option.some.inj (hu'.symm.trans (by simpa using hu))
          have ev : v' = v := Option.some.inj (hv'.symm.trans (by simpa using hv))
          subst eu ev
          exact ⟨by show 2 ≤ sizeLine; decide, [u', v'], .cons ru (.cons rv' .nil), ⟨_, pr, rfl, _, rfl⟩⟩
        · rw [off b hm hb] at e
          exact (I1.hok b o e).stay (fun x v _ q => m.kp x v q) (fun x q => stand x _ q) fun x t q => stand x _ q
  refine ⟨.ref h'.objs.size, H2, I2, rfl, q _ H2 (fun b o e => stand b o e) frS ⟨acc, here, lw.symm, fun i r t h3 h4 => at_ i r t h3 h4⟩⟩
end
end Sn

namespace Sn
open PySem PySem.Spec PyProof.Rows L2 TL
/-! ### the text -/
def topS (i : Nat) : Stmt := PySem.Challenge.pw_samenames_k07_chunks_of_texts.main.body.getD i (.Pass ⟨0, 0, 0, 0⟩)
/-- the built-in names that stand as they are -/
structure Nm (mg : Str → Option Value) : Prop where
  abs : mg "abs" = none
  int_ : mg "int" = none
  len : mg "len" = none
  range : mg "range" = none
  isinstance : mg "isinstance" = none
  bool_ : mg "bool" = none
  str_ : mg "str" = none
  tuple_ : mg "tuple" = none
  list_ : mg "list" = none
section
variable {P : Program} {w : World} {K : PySem.W.Frag} {mg : Str → Option Value} {base : Heap} {f : Addr} {fd : FuncData}
abbrev s_tape : Stmt := topS 3
abbrev N_tape : List Str := ["script", "cell", "cells", "seed"]
theorem sc_tape : FnScope N_tape ["script"] (defScope s_tape) := ⟨rfl, rfl, rfl, by decide +kernel, rfl, by decide +kernel, by decide +kernel⟩
theorem nonneg_abs (i : Int) : 0 ≤ (if i < 0 then -i else i) := by
  split <;> omega
theorem ok_tape (F : Fun K "_law_tape" "_law_tape" s_tape f fd) (T : Nm mg) : FnOk P w K mg base CX0 1 f fd ["script"] (spTape K) := by
  refine F.ok sc_tape (fun vs H Q E h => ?_) (fun cdv A outer s H vs Q E hr h => ?_)
  · obtain ⟨a, ns, rfl, _⟩ := h
    rfl
  obtain ⟨a, ns, rfl, hS, hl, q⟩ := h
  refine ⟨_, (pss_cons (ps_setLc (i := 2) (own := [(("cell" : Str), 1)]) (g := (gName 1)) (tt := tYes) (by rfl) sc_tape.nd rfl rfl (sw_true rfl rfl rfl (by decide +kernel)) (pi_list (pv 0)) (blkOk_by (N := N_tape) (sc := defScope s_tape) (by decide +kernel)) (fun _ _ _ _ _ => (pg_name (i := 1) sc_tape.nd rfl (Or.inl rfl))) (fun _ _ _ _ _ => pts_nil) (fun _ _ _ _ _ => (pe_callB call_abs (by rfl) T.abs (by decide +kernel) (pa_cons (pe_callTy call_int1 (by rfl) T.int_ (by decide +kernel) (pa_cons (pv 1) pa_nil)) pa_nil))))
    (pss_cons (ps_set (i := 3) sc_tape.nd rfl (Or.inl rfl) pe_int)
    (pss_cons (ps_for PassesOwn.never rfl (pi_list (pv 2)) (pg_name (i := 1) sc_tape.nd rfl (Or.inl rfl)) (pss_one (ps_set (i := 3) sc_tape.nd rfl (Or.inl rfl) (pe_op op_mod (pe_callTy call_int1 (by rfl) T.int_ (by decide +kernel) (pa_cons (pe_op op_add (pe_op op_mul (pv 3) pe_int) (pv 1)) pa_nil)) pe_int))))
    (pss_one (ps_ret (pe_disp (pps_cons pe_str (pv 2) (pps_cons pe_str pe_int (pps_cons pe_str pe_int (pps_cons pe_str (pv 3) (pps_cons pe_str pe_int pps_nil))))) (by rfl) (by rfl) (fun z => by cases z) (by decide))))))), ?_⟩
  -- cells
  refine ⟨_, rfl, a, rfl, ⟨_, hS⟩, fun D hD => ?_⟩
  have s1 : Same H (upd H D (.lst [])) := same_new hD
  refine lc_list (K := K) (a := a) (xs := ns.map V.int) (fun i H' => Same H H' ∧ ∃ cs : List Int, H' D = some (.lst (cs.map V.int)) ∧ cs.length = i ∧ ∀ x ∈ cs, 0 ≤ x)
    ⟨s1, [], upd_same, rfl, fun _ h => nomatch h⟩ (fun i H' _ h => h.1.seq hS) ?_ ?_
  · rintro i x H' hi ⟨sm, cs, hd, hc, hp⟩
    obtain ⟨u, rfl⟩ : ∃ u, x = V.int u := by
      rw [List.getElem?_map] at hi
      cases e : ns[i]? with
      | none => rw [e] at hi; cases hi
      | some u => rw [e] at hi; exact ⟨u, (Option.some.inj hi).symm⟩
    have hi2 : i < ns.length := by
      have z := (List.getElem?_eq_some_iff.mp hi).1
      rwa [List.length_map] at z
    refine ⟨rfl, ?_⟩
    refine ⟨_, rfl, .inl ⟨_, rfl, _, rfl, cs.map V.int, hd, ?_, ?_⟩⟩
    · rw [List.length_map]; exact Nat.lt_of_lt_of_le (show cs.length < 1000 by omega) (by decide)
    · refine ⟨fun b o e => ?_, cs ++ [if u < 0 then -u else u], ?_, by simp [hc], fun y hy => ?_⟩
      · rw [upd_ne (ne_of_none e hD)]; exact sm _ _ e
      · rw [upd_same, List.map_append] <;> rfl
      · rcases List.mem_append.mp hy with hy | hy
        · exact hp y hy
        · rw [List.mem_singleton.mp hy]; exact nonneg_abs u
  · rintro H1 ⟨sm, cs, hd, hc, hp⟩
    -- seed
    refine ⟨_, rfl, D, rfl, ⟨_, .inl (.inl hd)⟩, for_list (K := K) (a := D) (xs := cs.map V.int) (fun i σ H' => ∃ (v : Option V) (se : Int), σ = [some (.ref a), v, some (.ref D), some (.int se)] ∧ H' = H1 ∧ 0 ≤ se ∧ se < 2147483647)
      ⟨none, 7, rfl, rfl, by decide, by decide⟩ (fun i σ H' _ ⟨_, _, _, e, _⟩ => by rw [e]; exact .inl (.inl hd)) ?_ ?_⟩
    · rintro i x σ H' hi ⟨v, se, rfl, rfl, h0, h1⟩
      obtain ⟨u, rfl⟩ : ∃ u, x = V.int u := by
        rw [List.getElem?_map] at hi
        cases e : cs[i]? with
        | none => rw [e] at hi; cases hi
        | some u => rw [e] at hi; exact ⟨u, (Option.some.inj hi).symm⟩
      refine ⟨_, rfl, _, _, rfl, rfl, .inr ⟨by decide, by decide⟩, _, rfl, _, _, rfl, rfl, .inl ⟨_, rfl, _, _, rfl, rfl, (by show (0 : Int) < 2147483647; decide), ?_⟩⟩
      exact ⟨_, _, rfl, rfl, Int.emod_nonneg _ (by decide), Int.emod_lt_of_pos _ (by decide)⟩
    · rintro σ H' ⟨v, se, rfl, rfl, h0, h1⟩
      -- the dict
      intro t ht
      have hDt : D ≠ t := ne_of_none hd ht
      refine ⟨_, rfl, ?_⟩
      refine ⟨_, rfl, ?_⟩
      refine ⟨upd_same, tk D 0 0 se 0, rfl, (by show 5 ≤ 15; decide), ?_⟩
      rw [upd_upd]
      have e : mergeK [] (tk D 0 0 se 0) = tk D 0 0 se 0 := by kernel_rfl
      rw [e]
      exact q t D _ (fun b o z => by rw [upd_ne (ne_of_none (sm _ _ z) ht)]; exact sm _ _ z) (sm.free ht) hD
        ⟨cs, 0, 0, se, 0, upd_same, by rw [upd_ne hDt]; exact hd, hp, by decide, by decide, h0, h1⟩

abbrev s_take : Stmt := topS 4
abbrev N_take : List Str := ["tape", "many", "drawn", "mixed"]
theorem sc_take : FnScope N_take ["tape", "many"] (defScope s_take) := ⟨rfl, rfl, rfl, by decide +kernel, rfl, by decide +kernel, by decide +kernel⟩
theorem ok_take (F : Fun K "_law_take" "_law_take" s_take f fd) (T : Nm mg) : FnOk P w K mg base CX0 1 f fd ["tape", "many"] spTake := by
  refine F.ok sc_take (fun vs H Q E h => ?_) (fun cdv A outer s H vs Q E hr h => ?_)
  · obtain ⟨t, c, n, rfl, _⟩ := h
    rfl
  obtain ⟨t, c, n, rfl, ⟨cs, a, l, se, sa, z⟩, hn, hn2, q⟩ := h
  refine ⟨_, (C8.pss_cut (ps_if (PW.pt (pw_and (pt_cmpR op_eq (pe_dget (hu_of hr) (pv 0) pe_str (fun _ _ => rfl)) pe_int (nomark _)) (pw_and1 (pt_cmpR op_lt (pe_dget (hu_of hr) (pv 0) pe_str (fun _ _ => rfl)) (pe_callB call_len_seq (by rfl) T.len PySem.boot_len (pa_cons (pe_dget (hu_of hr) (pv 0) pe_str (fun _ _ => rfl)) pa_nil)) (nomark _))))) (pss_cons (ps_dput (hu_of hr) (pv 0) pe_str (pe_ix (r := rIxL K) ix_list (pe_dget (hu_of hr) (pv 0) pe_str (fun _ _ => rfl)) (pe_dget (hu_of hr) (pv 0) pe_str (fun _ _ => rfl)) (fun _ _ => rfl)) rfl)
    (pss_one (ps_dput (hu_of hr) (pv 0) pe_str (pe_op op_add (pe_dget (hu_of hr) (pv 0) pe_str (fun _ _ => rfl)) pe_int) rfl))) pss_nil)
    (pss_cons (ps_if (pt_cmpR op_gt (pe_dget (hu_of hr) (pv 0) pe_str (fun _ _ => rfl)) pe_int (nomark _)) (pss_cons (ps_set (i := 2) sc_take.nd rfl (Or.inl rfl) (pe_op op_mod (pe_callTy call_int1 (by rfl) T.int_ (by decide +kernel) (pa_cons (pe_dget (hu_of hr) (pv 0) pe_str (fun _ _ => rfl)) pa_nil)) (pv 1)))
    (pss_cons (ps_dput (hu_of hr) (pv 0) pe_str (pe_op op_fdiv (pe_dget (hu_of hr) (pv 0) pe_str (fun _ _ => rfl)) (pv 1)) rfl)
    (pss_one (ps_ret (pv 2))))) pss_nil)
    (pss_cons (ps_dput (hu_of hr) (pv 0) pe_str (pe_op op_add (pe_dget (hu_of hr) (pv 0) pe_str (fun _ _ => rfl)) pe_int) rfl)
    (pss_cons (ps_set (i := 3) sc_take.nd rfl (Or.inl rfl) (pe_op op_mod (pe_callTy call_int1 (by rfl) T.int_ (by decide +kernel) (pa_cons (pe_op op_add (pe_op op_mul (pe_dget (hu_of hr) (pv 0) pe_str (fun _ _ => rfl)) pe_int) (pe_op op_mul (pe_dget (hu_of hr) (pv 0) pe_str (fun _ _ => rfl)) pe_int)) pa_nil)) pe_int))
    (pss_cons (ps_set (i := 3) sc_take.nd rfl (Or.inl rfl) (pe_op op_mod (pe_callTy call_int1 (by rfl) T.int_ (by decide +kernel) (pa_cons (pe_op op_add (pe_op op_add (pe_op op_mul (pv 3) (pv 3)) (pe_op op_mul (pe_dget (hu_of hr) (pv 0) pe_str (fun _ _ => rfl)) pe_int)) pe_int) pa_nil)) pe_int))
    (pss_one (ps_ret (pe_op op_mod (pe_callTy call_int1 (by rfl) T.int_ (by decide +kernel) (pa_cons (pv 3) pa_nil)) (pv 1))))))))), ?_⟩
  -- if tape['left'] == 0 and tape['at'] < len(tape['cells'])
  refine ⟨fun σ H' => σ = L2.start N_take [.ref t, .int n] ∧ ∃ a l, But t H H' ∧ TkAt H' t c cs a l se sa, ?_, ?_⟩
  · refine ⟨_, rfl, t, _, rfl, z.dg g_left, rfl, _, rfl, ?_⟩
    refine ite2 (fun _ => ?_) (fun _ => iteF ⟨rfl, a, l, But.refl t H, z⟩)
    refine ⟨_, rfl, t, _, rfl, z.dg g_at, _, rfl, t, _, rfl, z.dg g_cells, c, _, rfl, .inl (.inl (.inl z.cl)), _, _, rfl, rfl, _, rfl, ?_⟩
    refine ite2 (fun ha => ?_) (fun _ => ⟨rfl, a, l, But.refl t H, z⟩)
    have ha : a < ((cs.map V.int).length : Int) := of_decide_eq_true ha
    rw [List.length_map] at ha
    have hj : a.toNat < cs.length := by have := z.a0; omega
    have ea : a = (a.toNat : Int) := by have := z.a0; omega
    have g1 : (cs.map V.int)[a.toNat]? = some (.int cs[a.toNat]) := by
      rw [List.getElem?_map, List.getElem?_eq_getElem hj] <;> rfl
    refine ⟨_, rfl, t, _, rfl, z.dg g_cells, _, rfl, t, _, rfl, z.dg g_at, c, _, _, _, rfl, rfl, .inl (.inl z.cl), at_of ea g1, _, rfl, t, _, rfl, z.pLeft, ?_⟩
    have z1 := z.sLeft (v := cs[a.toNat]) (z.cp _ (List.getElem_mem hj))
    refine ⟨_, rfl, t, _, rfl, z1.dg g_at, _, _, rfl, rfl, _, rfl, t, _, rfl, z1.pAt, ?_⟩
    exact ⟨rfl, _, _, ((But.refl t H).upd).upd, z1.sAt (by have := z.a0; omega)⟩
  rintro σ H1 ⟨rfl, a, l, bt, z⟩
  -- if tape['left'] > 0
  refine ⟨_, rfl, t, _, rfl, z.dg g_left, _, _, rfl, rfl, _, rfl, ?_⟩
  refine ite2 (fun hl => ?_) (fun _ => ?_)
  · have hl : 0 < l := of_decide_eq_true hl
    refine ⟨_, rfl, t, _, rfl, z.dg g_left, .inl ⟨_, rfl, _, rfl, _, _, rfl, rfl, hn, ?_⟩⟩
    refine ⟨_, rfl, t, _, rfl, z.dg g_left, _, rfl, _, _, rfl, rfl, ⟨hn, hn2⟩, _, rfl, t, _, rfl, z.pLeft, ?_⟩
    refine ⟨_, rfl, ?_⟩
    exact q _ _ (Int.emod_nonneg _ (by omega)) (Int.emod_lt_of_pos _ hn) bt.upd ⟨cs, a, _, se, sa, z.sLeft (Int.ediv_nonneg z.l0 (by omega))⟩
  · refine ⟨_, rfl, t, _, rfl, z.dg g_salt, _, _, rfl, rfl, _, rfl, t, _, rfl, z.pSalt, ?_⟩
    have z1 := z.sSalt (v := sa + 1)
    have b1 : But t H (upd H1 t (.dK (tk c a l se (sa + 1)))) := bt.upd
    generalize upd H1 t (.dK (tk c a l se (sa + 1))) = H2 at z1 b1 ⊢
    refine ⟨_, rfl, t, _, rfl, z1.dg g_seed, _, _, rfl, rfl, .inr ⟨by decide, by decide⟩, _, rfl, t, _, rfl, z1.dg g_salt, _, _, rfl, rfl, .inr ⟨by decide, by decide⟩, _, _, rfl, rfl, .inl ⟨_, rfl, _, _, rfl, rfl, (by show (0 : Int) < 2147483647; decide), ?_⟩⟩
    have hm := Int.emod_lt_of_pos (se * 48271 + (sa + 1) * 69621) (show (0 : Int) < 2147483647 by decide)
    have hm0 := Int.emod_nonneg (se * 48271 + (sa + 1) * 69621) (show (2147483647 : Int) ≠ 0 by decide)
    generalize (se * 48271 + (sa + 1) * 69621) % 2147483647 = mx at hm hm0 ⊢
    refine ⟨_, rfl, _, rfl, _, _, rfl, rfl, .inl ⟨by omega, by omega⟩, _, rfl, t, _, rfl, z1.dg g_salt, _, _, rfl, rfl, .inr ⟨by decide, by decide⟩, _, _, rfl, rfl, _, _, rfl, rfl, .inl ⟨_, rfl, _, _, rfl, rfl, (by show (0 : Int) < 2147483399; decide), ?_⟩⟩
    refine ⟨_, rfl, .inl ⟨_, rfl, _, rfl, _, _, rfl, rfl, hn, ?_⟩⟩
    exact q _ _ (Int.emod_nonneg _ (by omega)) (Int.emod_lt_of_pos _ hn) b1 ⟨cs, a, l, se, _, z1⟩

abbrev s_isInt : Stmt := topS 5
abbrev N_isInt : List Str := ["actual"]
theorem sc_isInt : FnScope N_isInt ["actual"] (defScope s_isInt) := ⟨rfl, rfl, rfl, by decide +kernel, rfl, by decide +kernel, by decide +kernel⟩
theorem ok_isInt (F : Fun K "_law_is_integer" "_law_is_integer" s_isInt f fd) (T : Nm mg) : FnOk P w K mg base CX0 1 f fd ["actual"] spIsInt := by
  refine F.ok sc_isInt (fun vs H Q E h => ?_) (fun cdv A outer s H vs Q E hr h => ?_)
  · obtain ⟨i, rfl, _⟩ := h
    rfl
  obtain ⟨i, rfl, q⟩ := h
  refine ⟨_, (pss_one (ps_ret (pe_and (pe_callB call_isi (by rfl) T.isinstance (by decide +kernel) (pa_cons (pv 0) (pa_cons (pe_bltn (v := .ty "int") (u := .type "int") (by rfl) T.int_ (by decide +kernel) rfl) pa_nil))) (pe_one (pe_not (pe_callB call_isi (by rfl) T.isinstance (by decide +kernel) (pa_cons (pv 0) (pa_cons (pe_bltn (v := .ty "bool") (u := .type "bool") (by rfl) T.bool_ (by decide +kernel) rfl) pa_nil)))))))), ?_⟩
  refine ⟨_, rfl, _, _, _, _, true, rfl, .ty _, .base (.int _), kit_ty (by decide +kernel), _, rfl, ?_⟩
  refine ⟨_, rfl, _, _, _, _, false, rfl, .ty _, .base (.int _), kit_ty (by decide +kernel), _, rfl, q⟩

abbrev s_sameItems : Stmt := topS 6
abbrev N_sameItems : List Str := ["actual", "expected", "k"]
theorem sc_sameItems : FnScope N_sameItems ["actual", "expected"] (defScope s_sameItems) := ⟨rfl, rfl, rfl, by decide +kernel, rfl, by decide +kernel, by decide +kernel⟩
theorem ok_items {n : Nat} (F : Fun K "_law_same_items" "_law_same_items" s_sameItems f fd) (T : Nm mg) (C_law_same : Cal P w K mg base CX0 (2 * n) "_law_same" (spSame n)) : FnOk P w K mg base CX0 (2 * n + 1) f fd ["actual", "expected"] (spItems n) := by
  refine F.ok sc_sameItems (fun vs H Q E h => ?_) (fun cdv A outer s H vs Q E hr h => ?_)
  · obtain ⟨a, b, xs, ys, rfl, _⟩ := h
    rfl
  obtain ⟨a, b, xs, ys, rfl, hs, hl, hm, al, q⟩ := h
  have sa : SqL K H a xs ∨ SqT K H a xs := hs.elim (fun h => .inr (.inl (.inl h.1))) fun h => .inl (.inl (.inl h.1))
  have sb : SqL K H b ys ∨ SqT K H b ys := hs.elim (fun h => .inr (.inl (.inl h.2))) fun h => .inl (.inl (.inl h.2))
  refine ⟨_, (pss_cons (ps_if (pt_cmpR op_ne (pe_callB call_len_seq (by rfl) T.len PySem.boot_len (pa_cons (pv 0) pa_nil)) (pe_callB call_len_seq (by rfl) T.len PySem.boot_len (pa_cons (pv 1) pa_nil)) (nomark _)) (pss_one (ps_ret pe_bl)) pss_nil)
    (pss_cons (ps_for PassesOwn.never rfl (pi_range1 (by rfl) T.range (pa_cons (pe_callB call_len_seq (by rfl) T.len PySem.boot_len (pa_cons (pv 1) pa_nil)) pa_nil)) (pg_name (i := 2) sc_sameItems.nd rfl (Or.inl rfl)) (pss_one (ps_if (pt_not (pt_val (pe_c C_law_same hr (by first | decide | omega) pass0 (pa_cons (pe_ix (r := rIx K) ix_seq (pv 0) (pv 2) (fun _ _ => rfl)) (pa_cons (pe_ix (r := rIx K) ix_seq (pv 1) (pv 2) (fun _ _ => rfl)) pa_nil))))) (pss_one (ps_ret pe_bl)) pss_nil)))
    (pss_one (ps_ret pe_bl)))), ?_⟩
  refine ⟨_, rfl, a, xs, rfl, sa, _, rfl, b, ys, rfl, sb, rfl, _, rfl, ?_⟩
  refine iteNS (by rw [hl]) ?_
  refine ⟨_, rfl, b, ys, rfl, sb, _, rfl, by omega, by omega, for_range (lo := 0) (n := ((ys.length : Nat) : Int).toNat) (fun i σ H' => H' = H ∧ ∃ v, σ = [some (.ref a), some (.ref b), v]) ⟨rfl, none, rfl⟩ ?_ ?_⟩
  · rintro i σ H' hi ⟨rfl, v, rfl⟩
    have hi1 : i < ys.length := by omega
    have hi2 : i < xs.length := by omega
    have ei : ((0 : Int) + (i : Nat)) = ((i : Nat) : Int) := Int.zero_add _
    have g1 := List.getElem?_eq_getElem hi2
    have g2 := List.getElem?_eq_getElem hi1
    refine ⟨_, rfl, _, rfl, ?_⟩
    have r1 : ∀ {Q' : VK}, Q' xs[i] H' → rIx K (.ref a) (.int (0 + (i : Nat))) H' Q' := fun {Q'} h => sa.elim (fun s => .inl ⟨a, xs, _, _, rfl, rfl, s, at_of ei g1, h⟩) fun s => .inr (.inl ⟨a, xs, _, _, rfl, rfl, s, at_of ei g1, h⟩)
    have r2 : ∀ {Q' : VK}, Q' ys[i] H' → rIx K (.ref b) (.int (0 + (i : Nat))) H' Q' := fun {Q'} h => sb.elim (fun s => .inl ⟨b, ys, _, _, rfl, rfl, s, at_of ei g2, h⟩) fun s => .inr (.inl ⟨b, ys, _, _, rfl, rfl, s, at_of ei g2, h⟩)
    refine r1 ⟨_, rfl, _, rfl, r2 ?_⟩
    refine ⟨_, _, rfl, al i _ _ g1 g2, _, rfl, ?_⟩
    exact ⟨rfl, _, rfl⟩
  · rintro σ H' ⟨rfl, v, rfl⟩
    exact q

abbrev s_same : Stmt := topS 7
abbrev N_same : List Str := ["actual", "expected", "key"]
theorem sc_same : FnScope N_same ["actual", "expected"] (defScope s_same) := ⟨rfl, rfl, rfl, by decide +kernel, rfl, by decide +kernel, by decide +kernel⟩
theorem ok_same {n : Nat} (F : Fun K "_law_same" "_law_same" s_same f fd) (T : Nm mg) (C_law_is_integer : Cal P w K mg base CX0 1 "_law_is_integer" spIsInt) (C_law_same_items : Cal P w K mg base CX0 (2 * n + 1) "_law_same_items" (spItems n)) :
    FnOk P w K mg base CX0 (2 * n + 2) f fd ["actual", "expected"] (spSame (n + 1)) := by
  refine F.ok sc_same (fun vs H Q E h => ?_) (fun cdv A outer s H vs Q E hr h => ?_)
  · obtain ⟨x, y, rfl, _⟩ := h
    rfl
  obtain ⟨x, y, rfl, al, q⟩ := h
  refine ⟨_, (pss_cons (ps_if (pt_cmpR op_isN (pv 1) pe_non (nomark _)) (pss_one (ps_ret (pe_cmpR op_isN (pv 0) pe_non (nomark _)))) pss_nil)
    (pss_cons (ps_if (pt_val (pe_callB call_isi (by rfl) T.isinstance (by decide +kernel) (pa_cons (pv 1) (pa_cons (pe_bltn (v := .ty "bool") (u := .type "bool") (by rfl) T.bool_ (by decide +kernel) rfl) pa_nil)))) (pss_one (ps_ret (pe_and (pe_callB call_isi (by rfl) T.isinstance (by decide +kernel) (pa_cons (pv 0) (pa_cons (pe_bltn (v := .ty "bool") (u := .type "bool") (by rfl) T.bool_ (by decide +kernel) rfl) pa_nil))) (pe_one (pe_cmpR op_eq (pv 0) (pv 1) (nomark _)))))) pss_nil)
    (pss_cons (ps_if (pt_val (pe_callB call_isi (by rfl) T.isinstance (by decide +kernel) (pa_cons (pv 1) (pa_cons (pe_bltn (v := .ty "int") (u := .type "int") (by rfl) T.int_ (by decide +kernel) rfl) pa_nil)))) (pss_one (ps_ret (pe_and (pe_c C_law_is_integer hr (by first | decide | omega) pass0 (pa_cons (pv 0) pa_nil)) (pe_one (pe_cmpR op_eq (pv 0) (pv 1) (nomark _)))))) pss_nil)
    (pss_cons (ps_if (pt_val (pe_callB call_isi (by rfl) T.isinstance (by decide +kernel) (pa_cons (pv 1) (pa_cons (pe_bltn (v := .ty "str") (u := .type "str") (by rfl) T.str_ (by decide +kernel) rfl) pa_nil)))) (pss_one (ps_ret (pe_and (pe_callB call_isi (by rfl) T.isinstance (by decide +kernel) (pa_cons (pv 0) (pa_cons (pe_bltn (v := .ty "str") (u := .type "str") (by rfl) T.str_ (by decide +kernel) rfl) pa_nil))) (pe_one (pe_cmpR op_eq (pv 0) (pv 1) (nomark _)))))) pss_nil)
    (pss_cons (ps_if (pt_val (pe_callB call_isi (by rfl) T.isinstance (by decide +kernel) (pa_cons (pv 1) (pa_cons (pe_bltn (v := .ty "tuple") (u := .type "tuple") (by rfl) T.tuple_ (by decide +kernel) rfl) pa_nil)))) (pss_one (ps_ret (pe_and (pe_callB call_isi (by rfl) T.isinstance (by decide +kernel) (pa_cons (pv 0) (pa_cons (pe_bltn (v := .ty "tuple") (u := .type "tuple") (by rfl) T.tuple_ (by decide +kernel) rfl) pa_nil))) (pe_one (pe_c C_law_same_items hr (by first | decide | omega) pass0 (pa_cons (pv 0) (pa_cons (pv 1) pa_nil))))))) pss_nil)
    (pss_cons (ps_if (pt_val (pe_callB call_isi (by rfl) T.isinstance (by decide +kernel) (pa_cons (pv 1) (pa_cons (pe_bltn (v := .ty "list") (u := .type "list") (by rfl) T.list_ (by decide +kernel) rfl) pa_nil)))) (pss_one (ps_ret (pe_and (pe_callB call_isi (by rfl) T.isinstance (by decide +kernel) (pa_cons (pv 0) (pa_cons (pe_bltn (v := .ty "list") (u := .type "list") (by rfl) T.list_ (by decide +kernel) rfl) pa_nil))) (pe_one (pe_c C_law_same_items hr (by first | decide | omega) pass0 (pa_cons (pv 0) (pa_cons (pv 1) pa_nil))))))) pss_nil)
    (pss_cons ps_never
    (pss_cons ps_never
    (pss_cons ps_never
    (pss_one ps_never)))))))))), ?_⟩
  rcases al with ⟨rfl, hx⟩ | ⟨a, b, xs, ys, rfl, rfl, ha, hb, hl, hm, al⟩ | ⟨a, b, xs, ys, rfl, rfl, ha, hb, hl, hm, al⟩
  · cases x with
    | non => exact ⟨_, rfl, rfl, _, rfl, iteP rfl ⟨_, rfl, rfl, qP rfl q⟩⟩
    | bl k =>
      refine ⟨_, rfl, rfl, _, rfl, iteN (fun z => nomatch z) ?_⟩
      refine ⟨_, rfl, _, _, _, _, true, rfl, .ty _, .base (.bl _), kit_ty (by decide +kernel), _, rfl, ?_⟩
      refine ⟨_, rfl, _, _, _, _, true, rfl, .ty _, .base (.bl _), kit_ty (by decide +kernel), _, rfl, ?_⟩
      exact ⟨_, rfl, _, rfl, rfl, qP rfl q⟩
    | int i =>
      refine ⟨_, rfl, rfl, _, rfl, iteN (fun z => nomatch z) ?_⟩
      refine ⟨_, rfl, _, _, _, _, false, rfl, .ty _, .base (.int _), kit_ty (by decide +kernel), _, rfl, ?_⟩
      refine ⟨_, rfl, _, _, _, _, true, rfl, .ty _, .base (.int _), kit_ty (by decide +kernel), _, rfl, ?_⟩
      refine ⟨_, rfl, i, rfl, _, rfl, ?_⟩
      exact ⟨_, rfl, _, rfl, rfl, qP rfl q⟩
    | str z =>
      refine ⟨_, rfl, rfl, _, rfl, iteN (fun z => nomatch z) ?_⟩
      refine ⟨_, rfl, _, _, _, _, false, rfl, .ty _, .base (.str _), kit_ty (by decide +kernel), _, rfl, ?_⟩
      refine ⟨_, rfl, _, _, _, _, false, rfl, .ty _, .base (.str _), kit_ty (by decide +kernel), _, rfl, ?_⟩
      refine ⟨_, rfl, _, _, _, _, true, rfl, .ty _, .base (.str _), kit_ty (by decide +kernel), _, rfl, ?_⟩
      refine ⟨_, rfl, _, _, _, _, true, rfl, .ty _, .base (.str _), kit_ty (by decide +kernel), _, rfl, ?_⟩
      exact ⟨_, rfl, _, rfl, rfl, qP rfl q⟩
    | byt z => cases hx
    | flt z => cases hx
    | ref z => cases hx
    | ty z => cases hx
  · refine ⟨_, rfl, rfl, _, rfl, iteN (fun z => nomatch z) ?_⟩
    refine ⟨_, rfl, _, _, _, _, false, rfl, .ty _, .base (.tup hb), kit_ty (by decide +kernel), _, rfl, ?_⟩
    refine ⟨_, rfl, _, _, _, _, false, rfl, .ty _, .base (.tup hb), kit_ty (by decide +kernel), _, rfl, ?_⟩
    refine ⟨_, rfl, _, _, _, _, false, rfl, .ty _, .base (.tup hb), kit_ty (by decide +kernel), _, rfl, ?_⟩
    refine ⟨_, rfl, _, _, _, _, true, rfl, .ty _, .base (.tup hb), kit_ty (by decide +kernel), _, rfl, ?_⟩
    refine ⟨_, rfl, _, _, _, _, true, rfl, .ty _, .base (.tup ha), kit_ty (by decide +kernel), _, rfl, ?_⟩
    exact ⟨_, rfl, _, rfl, a, b, xs, ys, rfl, .inl ⟨ha, hb⟩, hl, hm, al, q⟩
  · refine ⟨_, rfl, rfl, _, rfl, iteN (fun z => nomatch z) ?_⟩
    refine ⟨_, rfl, _, _, _, _, false, rfl, .ty _, .base (.lst hb), kit_ty (by decide +kernel), _, rfl, ?_⟩
    refine ⟨_, rfl, _, _, _, _, false, rfl, .ty _, .base (.lst hb), kit_ty (by decide +kernel), _, rfl, ?_⟩
    refine ⟨_, rfl, _, _, _, _, false, rfl, .ty _, .base (.lst hb), kit_ty (by decide +kernel), _, rfl, ?_⟩
    refine ⟨_, rfl, _, _, _, _, false, rfl, .ty _, .base (.lst hb), kit_ty (by decide +kernel), _, rfl, ?_⟩
    refine ⟨_, rfl, _, _, _, _, true, rfl, .ty _, .base (.lst hb), kit_ty (by decide +kernel), _, rfl, ?_⟩
    refine ⟨_, rfl, _, _, _, _, true, rfl, .ty _, .base (.lst ha), kit_ty (by decide +kernel), _, rfl, ?_⟩
    exact ⟨_, rfl, _, rfl, a, b, xs, ys, rfl, .inr ⟨ha, hb⟩, hl, hm, al, q⟩
theorem no_same0 : ∀ vs H Q E, ¬ spSame 0 vs H Q E := fun vs H Q E h => by
  obtain ⟨x, y, _, al, _⟩ := h
  exact al
/-- both, as deep as one likes -/
theorem both {f g : Addr} {fd gd : FuncData} (FS : Fun K "_law_same" "_law_same" s_same f fd) (bS : Binds K fd ["actual", "expected"] []) (mS : mg "_law_same" = some (.ref f)) (FI : Fun K "_law_same_items" "_law_same_items" s_sameItems g gd) (bI : Binds K gd ["actual", "expected"] []) (mI : mg "_law_same_items" = some (.ref g))
    (T : Nm mg) (C_law_is_integer : Cal P w K mg base CX0 1 "_law_is_integer" spIsInt) : ∀ n, Cal P w K mg base CX0 (2 * n) "_law_same" (spSame n)
  | 0 => ⟨f, fd, _, none_left no_same0, mS, FS.kp, bS⟩
  | n + 1 => ⟨f, fd, _, ok_same FS T C_law_is_integer ⟨g, gd, _, ok_items FI T (both FS bS mS FI bI mI T C_law_is_integer n), mI, FI.kp, bI⟩, mS, FS.kp, bS⟩

abbrev s_snippet : Stmt := topS 8
abbrev N_snippet : List Str := ["tape", "pieces", "k"]
theorem sc_snippet : FnScope N_snippet ["tape"] (defScope s_snippet) := ⟨rfl, rfl, rfl, by decide +kernel, rfl, by decide +kernel, by decide +kernel⟩
def pcs_snippet_1 : List Str := ["def ", "data ", "f", "x", "(", ")", ": Int", " = ", "1", " + ", "\n", "\n ", "#", " let x = ", " in ", ","]
def pcs_snippet_2 : List Str := ["\x69mport ", "a", "trait ", "impl ", " for ", "Bool", "if ", " then ", " else ", ".", "==", "[", "]", " "]
theorem pcs_ok : ((pcs_snippet_1 ++ pcs_snippet_2).all fun z => okT z && decide (z.length ≤ 9)) = true := by decide +kernel
theorem pcs_len : (pcs_snippet_1 ++ pcs_snippet_2).length = 30 := by decide +kernel
theorem ok_snippet (F : Fun K "_law_snippet" "_law_snippet" s_snippet f fd) (T : Nm mg) (C_law_take : Cal P w K mg base CX0 1 "_law_take" spTake) : FnOk P w K mg base CX0 2 f fd ["tape"] spSnippet := by
  refine F.ok sc_snippet (fun vs H Q E h => ?_) (fun cdv A outer s H vs Q E hr h => ?_)
  · obtain ⟨t, c, rfl, _⟩ := h
    rfl
  obtain ⟨t, c, rfl, z, q⟩ := h
  refine ⟨_, (pss_cons (ps_set (i := 1) sc_snippet.nd rfl (Or.inr rfl) (pe_lst (pa_strs pcs_snippet_1)))
    (pss_cons (ps_set (i := 1) sc_snippet.nd rfl (Or.inr rfl) (pe_op op_cat (pv 1) (pe_lst (pa_strs pcs_snippet_2))))
    (pss_one (ps_ret (pe_join pe_str (pe_lc (own := [(("k" : Str), 2)]) (g := (gName 2)) (tt := tYes) rfl sc_snippet.nd (pi_range1 (by rfl) T.range (pa_cons (pe_c C_law_take hr (by first | decide | omega) pass0 (pa_cons (pv 0) (pa_cons pe_int pa_nil))) pa_nil)) (blkOk_by (N := N_snippet) (sc := defScope s_snippet) (by decide +kernel)) (fun _ _ _ _ _ => (pg_name (i := 2) sc_snippet.nd rfl (Or.inl rfl))) (fun _ _ _ _ _ => pts_nil) (fun _ _ _ _ _ => (pe_ix (r := rIxL K) ix_list (pv 1) (pe_c C_law_take hr (by first | decide | omega) pass0 (pa_cons (pv 0) (pa_cons pe_int pa_nil))) (fun _ _ => rfl))))))))), ?_⟩
  refine ⟨(by show 16 ≤ sizeLine; decide), fun l1 n1 => ?_⟩
  refine ⟨_, rfl, (by show 14 ≤ sizeLine; decide), fun l2 n2 => ?_⟩
  have e1 : upd (upd H l1 (.lst (pcs_snippet_1.map V.str))) l2 (.lst (pcs_snippet_2.map V.str)) l1 = some (.lst (pcs_snippet_1.map V.str)) := by
    rw [upd_ne (ne_of_none upd_same n2), upd_same]
  refine ⟨l1, l2, _, _, rfl, rfl, e1, upd_same, (by show 30 ≤ sizeLine; decide), fun p np => ?_⟩
  have b1 : Same H (upd (upd (upd H l1 (.lst (pcs_snippet_1.map V.str))) l2 (.lst (pcs_snippet_2.map V.str))) p (.lst (pcs_snippet_1.map V.str ++ pcs_snippet_2.map V.str))) := ((same_new n1).trans (same_new n2)).trans (same_new np)
  have hp : upd (upd (upd H l1 (.lst (pcs_snippet_1.map V.str))) l2 (.lst (pcs_snippet_2.map V.str))) p (.lst (pcs_snippet_1.map V.str ++ pcs_snippet_2.map V.str)) p = some (.lst ((pcs_snippet_1 ++ pcs_snippet_2).map V.str)) := by
    rw [upd_same, List.map_append]
  generalize upd (upd (upd H l1 (.lst (pcs_snippet_1.map V.str))) l2 (.lst (pcs_snippet_2.map V.str))) p (.lst (pcs_snippet_1.map V.str ++ pcs_snippet_2.map V.str)) = H1 at b1 hp ⊢
  have z1 : Tp H1 t c := z.same b1
  refine ⟨⟨_, rfl⟩, _, rfl, t, c, 6, rfl, z1, by decide, by decide, fun r H2 h0 h6 b2 z2 => ⟨r, rfl, by omega, by omega, fun D hD => ?_⟩⟩
  have pt : p ≠ t := z1.ne hp (fun _ q => nomatch q)
  have hp2 := b2 _ _ pt hp
  refine lc_range (lo := 0) (n := r.toNat) (fun i H' => But t H H' ∧ Tp H' t c ∧ H' p = some (.lst ((pcs_snippet_1 ++ pcs_snippet_2).map V.str)) ∧ ∃ zs : List Str, H' D = some (.lst (zs.map V.str)) ∧ zs.length = i ∧ ∀ y ∈ zs, OkT y ∧ y.length ≤ 9)
    ⟨((But.of b1).trans b2).trans (.of (same_new hD)), z2.new hD, by rw [upd_ne (ne_of_none hp2 hD)]; exact hp2, [], upd_same, rfl, fun _ h => nomatch h⟩ ?_ ?_
  · rintro i H' hi ⟨b3, z3, hp3, zs, hd, hl, hz⟩
    refine ⟨rfl, ?_⟩
    refine ⟨_, rfl, _, rfl, t, c, 30, rfl, z3, by decide, by decide, fun r2 H4 g0 g1 b4 z4 => ?_⟩
    have hp4 := b4 _ _ pt hp3
    have hd4 := b4 _ _ (z3.ne hd (fun _ q => nomatch q)) hd
    have hj : r2.toNat < (pcs_snippet_1 ++ pcs_snippet_2).length := by rw [pcs_len]; omega
    have g : ((pcs_snippet_1 ++ pcs_snippet_2).map V.str)[r2.toNat]? = some (.str (pcs_snippet_1 ++ pcs_snippet_2)[r2.toNat]) := by
      rw [List.getElem?_map, List.getElem?_eq_getElem hj] <;> rfl
    have dt : D ≠ t := z4.ne hd4 (fun _ q => nomatch q)
    have dp : p ≠ D := ne_of_none hp2 hD
    have dc : c ≠ D := z2.nc hD
    refine ⟨p, _, r2, _, rfl, rfl, .inl (.inl hp4), at_of (by omega) g, zs.map V.str, hd4, ?_, ?_⟩
    · rw [List.length_map]; exact Nat.lt_of_lt_of_le (show zs.length < 1000 by omega) (by decide)
    · refine ⟨fun b o nb e => ?_, z4.upd dt.symm dc, by rw [upd_ne dp]; exact hp4, zs ++ [(pcs_snippet_1 ++ pcs_snippet_2)[r2.toNat]], ?_, by simp [hl], fun y hy => ?_⟩
      · have nD : b ≠ D := fun e2 => by
          rw [e2] at e
          have e3 := b2 _ _ dt (b1 _ _ e)
          rw [hD] at e3
          cases e3
        rw [upd_ne nD]
        exact b4 _ _ nb (b3 _ _ nb e)
      · rw [upd_same, List.map_append] <;> rfl
      · rcases List.mem_append.mp hy with hy | hy
        · exact hz y hy
        · rw [List.mem_singleton.mp hy]
          have k := List.all_eq_true.mp pcs_ok _ (List.getElem_mem hj)
          rw [Bool.and_eq_true, decide_eq_true_eq] at k
          exact ⟨OkT.of k.1, k.2⟩
  · rintro H' ⟨b3, z3, hp3, zs, hd, hl, hz⟩
    have sl := sum_len_le (n := 9) fun y hy => (hz y hy).2
    refine ⟨_, D, zs, rfl, rfl, .inl (.inl (.inl hd)), ?_, ?_⟩
    · show (zs.map (·.length)).sum + zs.length * 0 ≤ 16777216
      omega
    · exact q _ _ (OkT.join rfl fun y hy => (hz y hy).1) (by rw [join_len _ rfl]; omega) b3 z3

abbrev s_char : Stmt := topS 9
abbrev N_char : List Str := ["tape", "chars"]
theorem sc_char : FnScope N_char ["tape"] (defScope s_char) := ⟨rfl, rfl, rfl, by decide +kernel, rfl, by decide +kernel, by decide +kernel⟩
def chs : Str := (" !\"#$&'()*+,-./0123456789:;<=>?@ABCDEFGHIJKLMNOPQRSTUVWXYZ[\\]^" : Str) ++ ("_`abcdefghijklmnopqrstuvwxyz{|}~\n" : Str)
theorem chs_ok : okT chs = true := by decide +kernel
theorem chs_len : chs.length = 95 := by decide +kernel
theorem ok_char (F : Fun K "_law_char" "_law_char" s_char f fd) (T : Nm mg) (C_law_take : Cal P w K mg base CX0 1 "_law_take" spTake) : FnOk P w K mg base CX0 2 f fd ["tape"] spChar := by
  refine F.ok sc_char (fun vs H Q E h => ?_) (fun cdv A outer s H vs Q E hr h => ?_)
  · obtain ⟨t, c, rfl, _⟩ := h
    rfl
  obtain ⟨t, c, rfl, z, q⟩ := h
  refine ⟨_, (pss_cons (ps_set (i := 1) sc_char.nd rfl (Or.inl rfl) pe_str)
    (pss_cons (ps_set (i := 1) sc_char.nd rfl (Or.inl rfl) (pe_op op_add_str (pv 1) pe_str))
    (pss_one (ps_ret (pe_item_str (pv 1) (pe_c C_law_take hr (by first | decide | omega) pass0 (pa_cons (pv 0) (pa_cons pe_int pa_nil))) (fun _ _ => rfl)))))), ?_⟩
  refine ⟨_, rfl, _, _, rfl, rfl, (by decide +kernel), ?_⟩
  refine ⟨_, rfl, _, rfl, t, c, 95, rfl, z, by decide, by decide, fun r H1 h0 h1 b1 z1 => ?_⟩
  have hj : r.toNat < chs.cps.toList.length := by
    rw [← TL.len_tl chs, chs_len]
    omega
  have ha : r.toNat < chs.cps.size := by
    rw [Array.length_toList] at hj
    exact hj
  have g : chs.cps[r.toNat]? = some (chs.cps[r.toNat]) := Array.getElem?_eq_getElem ha
  refine ⟨chs, r, _, rfl, rfl, h0, by omega, (by rw [chs_len]; omega), g, ?_⟩
  refine q _ _ (fun y hy => ?_) rfl b1 z1
  have hy : y ∈ [chs.cps[r.toNat]] := hy
  rw [List.mem_singleton.mp hy]
  exact List.all_eq_true.mp chs_ok _ (by simp)

abbrev s_anyText : Stmt := topS 10
abbrev N_anyText : List Str := ["tape", "most", "parts", "k"]
theorem sc_anyText : FnScope N_anyText ["tape", "most"] (defScope s_anyText) := ⟨rfl, rfl, rfl, by decide +kernel, rfl, by decide +kernel, by decide +kernel⟩
theorem ok_any (F : Fun K "_law_any_text" "_law_any_text" s_anyText f fd) (T : Nm mg) (C_law_take : Cal P w K mg base CX0 1 "_law_take" spTake) (C_law_char : Cal P w K mg base CX0 2 "_law_char" spChar) (C_law_snippet : Cal P w K mg base CX0 2 "_law_snippet" spSnippet) :
    FnOk P w K mg base CX0 3 f fd ["tape", "most"] spAny := by
  refine F.ok sc_anyText (fun vs H Q E h => ?_) (fun cdv A outer s H vs Q E hr h => ?_)
  · obtain ⟨t, c, m, rfl, _⟩ := h
    rfl
  obtain ⟨t, c, m, rfl, z, hm, q⟩ := h
  refine ⟨_, (pss_cons (ps_set (i := 2) sc_anyText.nd rfl (Or.inl rfl) (pe_lst pa_nil))
    (pss_cons (ps_for PassesOwn.never rfl (pi_range1 (by rfl) T.range (pa_cons (pe_c C_law_take hr (by first | decide | omega) pass0 (pa_cons (pv 0) (pa_cons (pe_op op_add (pv 1) pe_int) pa_nil))) pa_nil)) (pg_name (i := 3) sc_anyText.nd rfl (Or.inl rfl)) (pss_one (ps_if (pt_cmpR op_eq (pe_c C_law_take hr (by first | decide | omega) pass0 (pa_cons (pv 0) (pa_cons pe_int pa_nil))) pe_int (nomark _)) (pss_one (ps_expr (pe_bm PySem.F.plainAttrs_list PySem.F.slot_list_append PySem.F.type_list_append mt_append (pv 2) (pa_cons (pe_c C_law_char hr (by first | decide | omega) pass0 (pa_cons (pv 0) pa_nil)) pa_nil)))) (pss_one (ps_expr (pe_bm PySem.F.plainAttrs_list PySem.F.slot_list_append PySem.F.type_list_append mt_append (pv 2) (pa_cons (pe_c C_law_snippet hr (by first | decide | omega) pass0 (pa_cons (pv 0) pa_nil)) pa_nil)))))))
    (pss_one (ps_ret (pe_join pe_str (pv 2)))))), ?_⟩
  refine ⟨Nat.zero_le _, fun L nL => ?_⟩
  have z1 : Tp (upd H L (.lst [])) t c := z.new nL
  have Lt : L ≠ t := (z.nt nL).symm
  have Lc : L ≠ c := (z.nc nL).symm
  refine ⟨_, rfl, _, rfl, _, _, rfl, rfl, t, c, _, rfl, z1, by omega, by omega, fun r H1 h0 h1 b1 z2 => ⟨r, rfl, by omega, by omega, ?_⟩⟩
  refine for_range (lo := 0) (n := r.toNat) (fun i σ H' => ∃ (v : Option V) (zs : List Str), σ = [some (.ref t), some (.int m), some (.ref L), v] ∧ But t H H' ∧ Tp H' t c ∧ H' L = some (.lst (zs.map V.str)) ∧ zs.length = i ∧ ∀ y ∈ zs, OkT y ∧ y.length ≤ 45)
    ⟨none, [], rfl, (But.of (same_new nL)).trans b1, z2, b1 _ _ Lt upd_same, rfl, fun _ h => nomatch h⟩ ?_ ?_
  · rintro i σ H' hi ⟨v, zs, rfl, b2, z3, hL, hl, hz⟩
    have go : ∀ (y : Str) (H4 : Hp), OkT y → y.length ≤ 45 → But t H' H4 → Tp H4 t c → ∃ (l : Addr) (xs : List V) (u : V), V.ref L = .ref l ∧ [V.str y] = [u] ∧ H4 l = some (.lst xs) ∧ xs.length < sizeLine ∧
        ∃ (v : Option V) (zs : List Str), [some (V.ref t), some (.int m), some (.ref L), some (.int (0 + (i : Nat)))] = [some (.ref t), some (.int m), some (.ref L), v] ∧ But t H (upd H4 l (.lst (xs ++ [u]))) ∧ Tp (upd H4 l (.lst (xs ++ [u]))) t c ∧ upd H4 l (.lst (xs ++ [u])) L = some (.lst (zs.map V.str)) ∧ zs.length = i + 1 ∧ ∀ y ∈ zs, OkT y ∧ y.length ≤ 45 := by
      intro y H4 oy ly b4 z4
      refine ⟨L, _, _, rfl, rfl, b4 _ _ Lt hL, ?_, _, zs ++ [y], rfl, fun b o nb e => ?_, z4.upd Lt.symm Lc.symm, ?_, by simp [hl], fun x hx => ?_⟩
      · rw [List.length_map]; exact Nat.lt_of_lt_of_le (show zs.length < 1000 by omega) (by decide)
      · rw [upd_ne (ne_of_none e nL)]
        exact b4 _ _ nb (b2 _ _ nb e)
      · rw [upd_same, List.map_append] <;> rfl
      · rcases List.mem_append.mp hx with hx | hx
        · exact hz x hx
        · rw [List.mem_singleton.mp hx]
          exact ⟨oy, ly⟩
    refine ⟨_, rfl, t, c, 3, rfl, z3, by decide, by decide, fun r2 H3 g0 g1 b3 z4 => ⟨rfl, _, rfl, ?_⟩⟩
    have hL3 := b3 _ _ Lt hL
    refine ite2 (fun _ => ?_) (fun _ => ?_)
    · refine ⟨_, rfl, .inl ⟨rfl, _, SqL.of hL3⟩, _, rfl, t, c, rfl, z4, fun y H4 oy ly b4 z5 => ?_⟩
      exact go y H4 oy (by omega) (b3.trans b4) z5
    · refine ⟨_, rfl, .inl ⟨rfl, _, SqL.of hL3⟩, _, rfl, t, c, rfl, z4, fun y H4 oy ly b4 z5 => ?_⟩
      exact go y H4 oy ly (b3.trans b4) z5
  · rintro σ H' ⟨v, zs, rfl, b2, z3, hL, hl, hz⟩
    have sl := sum_len_le (n := 45) fun y hy => (hz y hy).2
    have zl : zs.length ≤ m := by omega
    have zm : 45 * zs.length ≤ 45 * m := Nat.mul_le_mul_left _ zl
    refine ⟨⟨_, rfl⟩, _, rfl, _, L, zs, rfl, rfl, .inl (.inl (.inl hL)), ?_, ?_⟩
    · show (zs.map (·.length)).sum + zs.length * 0 ≤ 16777216
      omega
    · exact q _ _ (OkT.join rfl fun y hy => (hz y hy).1) (by rw [join_len _ rfl]; omega) b2 z3
end

end Sn

namespace Sn
open PySem PySem.Spec PyProof.Rows L2 TL
/-! ### chunks -/
structure Nm7 (mg : Str → Option Value) : Prop extends Nm mg where
  zip : mg "zip" = none
def spChunks : Sp := fun vs H Q _ => ∃ z : Str, vs = [.str z] ∧ z.length ≤ 100000 ∧ ∀ L H', Same H H' → H L = none → LT H' L (chV (tl z)) → Q (.ref L) H'
section
variable {P : Program} {w : World} {K : PySem.W.Frag} {mg : Str → Option Value} {base : Heap} {f : Addr} {fd : FuncData}
theorem head_sign {u : Str} {c : Nat} {r : List Nat} (h : tl u = c :: r) : u.cps[((0 : Int)).toNat]? = some c := by
  show u.cps[0]? = some c
  rw [← Array.getElem?_toList]
  show (tl u)[0]? = some c
  rw [h]
  rfl
abbrev s_chunks : Stmt := topS 1
abbrev N_chunks : List Str := ["text", "starts", "at", "line"]
theorem sc_chunks : FnScope N_chunks ["text"] (defScope s_chunks) := ⟨rfl, rfl, rfl, by decide +kernel, rfl, by decide +kernel, by decide +kernel⟩
theorem ok_chunks (F : Fun K "chunks" "chunks" s_chunks f fd) (T : Nm7 mg) : FnOk P w K mg base CX0 1 f fd ["text"] spChunks := by
  refine F.ok sc_chunks (fun vs H Q E h => ?_) (fun cdv A outer s H vs Q E hr h => ?_)
  · obtain ⟨z, rfl, _⟩ := h
    rfl
  obtain ⟨z, rfl, hz, q⟩ := h
  refine ⟨_, (pss_cons (ps_set (i := 1) sc_chunks.nd rfl (Or.inl rfl) (pe_lst pa_nil))
    (pss_cons (ps_set (i := 2) sc_chunks.nd rfl (Or.inl rfl) pe_int)
    (pss_cons (ps_for PassesOwn.never rfl (pi_list (pe_split (pv 0) pe_str)) (pg_name (i := 3) sc_chunks.nd rfl (Or.inl rfl)) (pss_cons (ps_if (PW.pt (pw_and (pt_truth (pv 3) (by intro _; rfl)) (pw_and1 (pt_cmpR op_ne (pe_item_str (pv 3) pe_int (fun _ _ => rfl)) pe_str (nomark _))))) (pss_one (ps_expr (pe_bm PySem.F.plainAttrs_list PySem.F.slot_list_append PySem.F.type_list_append mt_append (pv 1) (pa_cons (pv 2) pa_nil)))) pss_nil)
    (pss_one (ps_aug (i := 2) sc_chunks.nd rfl (Or.inl rfl) (pe_op op_add (pe_callB call_len_str (by rfl) T.len PySem.boot_len (pa_cons (pv 3) pa_nil)) pe_int) ip_add))))
    (pss_one (ps_ret (pe_list_zip rfl (by rfl) T.list_ (by rfl) T.zip (pa_cons (pv 1) (pa_cons (pe_op op_cat (pe_slice sl_list (pv 1) (po_some pe_int) po_none) (pe_lst (pa_cons (pe_callB call_len_str (by rfl) T.len PySem.boot_len (pa_cons (pv 0) pa_nil)) pa_nil))) pa_nil)))))))), ?_⟩
  have hz' : (tl z).length ≤ 100000 := by rw [← len_tl]; exact hz
  have hl := split_len z
  have hle := rws_le z
  refine ⟨Nat.zero_le _, fun D nD => ?_⟩
  have sD : Same H (upd H D (.lst [])) := same_new nD
  have hD : upd H D (.lst []) D = some (.lst []) := upd_same
  generalize upd H D (.lst []) = H1 at sD hD ⊢
  refine ⟨_, rfl, ⟨_, rfl⟩, z, NL, rfl, rfl, rfl, small (by omega), fun L nL => ?_⟩
  have LD : L ≠ D := (ne_of_none hD nL).symm
  have s1 : Same H (upd H1 L (.lst ((Txt.split z NL).map V.str))) := sD.trans (same_new nL)
  have hL : upd H1 L (.lst ((Txt.split z NL).map V.str)) L = some (.lst ((Txt.split z NL).map V.str)) := upd_same
  have hD1 := same_new (o := .lst ((Txt.split z NL).map V.str)) nL _ _ hD
  generalize upd H1 L (.lst ((Txt.split z NL).map V.str)) = H2 at s1 hL hD1 ⊢
  refine ⟨L, rfl, ⟨_, .inl (.inl hL)⟩, for_list (K := K) (a := L) (xs := (Txt.split z NL).map V.str) (fun i σ H' => ∃ v3, σ = [some (.str z), some (.ref D), some (.int ((lens ((rws z).take i) : Nat) : Int)), v3] ∧ Same H H' ∧ H' L = some (.lst ((Txt.split z NL).map V.str)) ∧
      H' D = some (.lst ((rowSt ((rws z).take i) 0).map fun n : Nat => V.int (n : Int)))) ⟨none, rfl, s1, hL, hD1⟩ (fun i σ H' _ ⟨_, _, _, h, _⟩ => .inl (.inl h)) ?_ ?_⟩
  · rintro i x σ H' hi ⟨v3, rfl, sm, hL', hD'⟩
    rw [List.getElem?_map] at hi
    cases e : (Txt.split z NL)[i]? with
    | none => rw [e] at hi; cases hi
    | some u =>
      rw [e] at hi
      have ex : x = V.str u := (Option.some.inj hi).symm
      subst ex
      have hr := split_at e
      have hu := row_le e
      have tk : (rws z).take (i + 1) = (rws z).take i ++ [tl u] := by rw [List.take_add_one, hr]; rfl
      have nx : ∀ H3, Same H H3 → H3 L = some (.lst ((Txt.split z NL).map V.str)) → H3 D = some (.lst ((rowSt ((rws z).take (i + 1)) 0).map fun n : Nat => V.int (n : Int))) →
          ∃ v3', [some (V.str z), some (.ref D), some (.int (((lens ((rws z).take i) : Nat) : Int) + (((u.length : Nat) : Int) + 1))), some (.str u)] = [some (.str z), some (.ref D), some (.int ((lens ((rws z).take (i + 1)) : Nat) : Int)), v3'] ∧ Same H H3 ∧
            H3 L = some (.lst ((Txt.split z NL).map V.str)) ∧ H3 D = some (.lst ((rowSt ((rws z).take (i + 1)) 0).map fun n : Nat => V.int (n : Int))) := fun H3 a b c => by
        refine ⟨some (.str u), ?_, a, b, c⟩
        rw [tk, lens_snoc, len_tl u]
        rfl
      have st : rowSt ((rws z).take (i + 1)) 0 = rowSt ((rws z).take i) 0 ++ (if ((tl u).head?.any fun c => c != 32) = true then [lens ((rws z).take i)] else []) := by
        rw [tk, rowSt_snoc, Nat.zero_add]
      have rl := rowSt_len ((rws z).take i) 0
      rw [List.length_take] at rl
      have skip : ((tl u).head?.any fun c => c != 32) = false → _ := fun hn => nx H' sm hL' (by rw [st, hn, hD']; simp)
      refine ⟨_, rfl, _, ⟨small (by omega), rfl⟩, ?_⟩
      cases ht : tl u with
      | nil =>
        have h0 : u.length = 0 := by rw [len_tl, ht]; rfl
        rw [h0]
        refine iteF ?_
        refine ⟨_, rfl, _, rfl, u, rfl, small (by omega), _, _, rfl, rfl, _, _, rfl, rfl, ?_⟩
        exact skip (by rw [ht]; rfl)
      | cons c r =>
        have h0 : u.length = r.length + 1 := by rw [len_tl, ht]; rfl
        have h1 : (((u.length : Nat) : Int) != 0) = true := by
          rw [h0]
          simp
          omega
        rw [h1]
        refine iteT ?_
        refine ⟨_, rfl, u, 0, c, rfl, rfl, Int.le_refl _, by decide, by omega, head_sign ht, rfl, _, rfl, ?_⟩
        have es : (V.str ⟨#[c]⟩ = V.str " ") ↔ c = 32 := by
          rw [show (" " : Str) = ⟨#[32]⟩ by decide +kernel]
          constructor
          · intro k
            injection k with k
            injection k with k
            simpa using k
          · intro k; rw [k]
        by_cases hc : c = 32
        · rw [decide_eq_true (es.mpr hc)]
          refine iteF ?_
          refine ⟨_, rfl, _, rfl, u, rfl, small (by omega), _, _, rfl, rfl, _, _, rfl, rfl, ?_⟩
          exact skip (by rw [ht, hc]; rfl)
        · rw [decide_eq_false (fun k => hc (es.mp k))]
          refine iteT ?_
          refine ⟨_, rfl, .inl ⟨rfl, _, SqL.of hD'⟩, _, rfl, D, _, _, rfl, rfl, hD', ?_, ?_⟩
          · rw [List.length_map]; exact Nat.lt_of_lt_of_le (show _ < 200000 by omega) (by decide)
          refine ⟨_, rfl, _, rfl, u, rfl, small (by omega), _, _, rfl, rfl, _, _, rfl, rfl, ?_⟩
          refine nx _ (fun b o e => by rw [upd_ne (ne_of_none e nD)]; exact sm _ _ e) (by rw [upd_ne LD]; exact hL') ?_
          rw [upd_same, st, ht]
          have : ((c :: r).head?.any fun c => c != 32) = true := by simp [hc]
          rw [this]
          simp
  · rintro σ H' ⟨v3, rfl, sm, hL', hD'⟩
    rw [List.length_map, hl, List.take_length] at hD' ⊢
    rw [show rowSt (rws z) 0 = stL (tl z) true 0 from rowSt_rows (tl z) [] 0 (fun _ hc => nomatch hc)] at hD'
    have sl := stL_le (tl z) true 0
    refine ⟨_, rfl, _, rfl, _, rfl, D, _, rfl, .inl (.inl hD'), fun D2 n2 => ?_⟩
    have sX : Same H (upd H' D2 (.lst (cutV ((stL (tl z) true 0).map fun n : Nat => V.int (n : Int)) (some 1) none))) := sm.trans (same_new n2)
    have hX : upd H' D2 (.lst (cutV ((stL (tl z) true 0).map fun n : Nat => V.int (n : Int)) (some 1) none)) D2 = some (.lst (((stL (tl z) true 0).map fun n : Nat => V.int (n : Int)).drop 1)) := by
      rw [upd_same]
      exact congrArg (fun l => some (HO.lst l)) (cutV_from _ 1)
    have hD2 := same_new (o := .lst (cutV ((stL (tl z) true 0).map fun n : Nat => V.int (n : Int)) (some 1) none)) n2 _ _ hD'
    generalize upd H' D2 (.lst (cutV ((stL (tl z) true 0).map fun n : Nat => V.int (n : Int)) (some 1) none)) = H3 at sX hX hD2 ⊢
    refine ⟨_, rfl, z, rfl, small (by omega), (by show 1 ≤ sizeLine; decide), fun D3 n3 => ?_⟩
    have s4 : Same H (upd H3 D3 (.lst [.int ((z.length : Nat) : Int)])) := sX.trans (same_new n3)
    have h4 : upd H3 D3 (.lst [.int ((z.length : Nat) : Int)]) D3 = some (.lst [.int ((z.length : Nat) : Int)]) := upd_same
    have hX4 := same_new (o := .lst [.int ((z.length : Nat) : Int)]) n3 _ _ hX
    have hD4 := same_new (o := .lst [.int ((z.length : Nat) : Int)]) n3 _ _ hD2
    generalize upd H3 D3 (.lst [.int ((z.length : Nat) : Int)]) = H4 at s4 h4 hX4 hD4 ⊢
    refine ⟨D2, D3, _, _, rfl, rfl, hX4, h4, small (by simp; omega), fun D5 n5 => ?_⟩
    have s5 := s4.trans (same_new (o := .lst (((stL (tl z) true 0).map fun n : Nat => V.int (n : Int)).drop 1 ++ [.int ((z.length : Nat) : Int)])) n5)
    have h5 : upd H4 D5 (.lst (((stL (tl z) true 0).map fun n : Nat => V.int (n : Int)).drop 1 ++ [.int ((z.length : Nat) : Int)])) D5 = _ := upd_same
    have hD5 := same_new (o := .lst (((stL (tl z) true 0).map fun n : Nat => V.int (n : Int)).drop 1 ++ [.int ((z.length : Nat) : Int)])) n5 _ _ hD4
    generalize upd H4 D5 (.lst (((stL (tl z) true 0).map fun n : Nat => V.int (n : Int)).drop 1 ++ [.int ((z.length : Nat) : Int)])) = H5 at s5 h5 hD5 ⊢
    refine ⟨D, D5, _, _, rfl, .inl (.inl hD5), .inl (.inl h5), by simp; omega, fun S H6 s6 nS lt => ?_⟩
    refine q S H6 (s5.trans s6) ?_ ?_
    · cases e : H S with
      | none => rfl
      | some o => rw [s5 _ _ e] at nS; cases nS
    · unfold chV
      rw [← len_tl z]
      exact lt
end

end Sn

namespace Sn
open PySem PySem.Spec PyProof.Rows L2 TL
/-! ### the law -/
section
variable {P : Program} {w : World} {K : PySem.W.Frag} {mg : Str → Option Value} {base : Heap} {f : Addr} {fd : FuncData}
theorem one7 {c d : Nat} {x : Str} (h : x = ⟨#[d]⟩) : (V.str ⟨#[c]⟩ = V.str x) ↔ c = d := by
  subst h
  constructor
  · intro h
    injection h with h
    injection h with h
    simpa using h
  · intro h
    rw [h]
theorem item7 {z : Str} {i c : Nat} (h : (tl z)[i]? = some c) (hz : z.length ≤ 1000000) : (0 : Int) ≤ (i : Int) ∧ (i : Int) < 2 ^ 63 ∧ (i : Int) < (z.length : Int) ∧ z.cps[((i : Int)).toNat]? = some c := by
  have := (List.getElem?_eq_some_iff.mp h).1
  have e := len_tl z
  refine ⟨by omega, by omega, by omega, ?_⟩
  rw [Int.toNat_natCast, ← Array.getElem?_toList]
  exact h
theorem chV_len (l : List Nat) : (chV l).length = (stL l true 0).length := by
  unfold chV
  rw [List.length_zipWith, List.length_append, List.length_drop, List.length_map, List.length_singleton]
  omega
theorem chV_at (l : List Nat) (k a : Nat) (h : (stL l true 0)[k]? = some a) : (chV l)[k]? = some [.int (a : Int), .int (((match (stL l true 0)[k + 1]? with | some b => b | none => l.length) : Nat) : Int)] := by
  unfold chV
  have hk := (List.getElem?_eq_some_iff.mp h).1
  rw [List.getElem?_zipWith, List.getElem?_map, h]
  cases e : (stL l true 0)[k + 1]? with
  | some b =>
    have hk2 := (List.getElem?_eq_some_iff.mp e).1
    rw [List.getElem?_append_left (by simp; omega), List.getElem?_drop, List.getElem?_map, Nat.add_comm 1 k, e]
    rfl
  | none =>
    have hk2 := List.getElem?_eq_none_iff.mp e
    rw [List.getElem?_append_right (by simp; omega)]
    have : k - (((stL l true 0).map fun n : Nat => V.int (n : Int)).drop 1).length = 0 := by simp; omega
    rw [this]
    rfl
theorem chV_sca (l : List Nat) : ∀ xs ∈ chV l, xs.all sca = true ∧ xs.length ≤ 1000000 := fun xs h => by
  obtain ⟨k, hk⟩ := List.getElem?_of_mem h
  have hl := (List.getElem?_eq_some_iff.mp hk).1
  rw [chV_len] at hl
  have := chV_at l k _ (List.getElem?_eq_getElem hl)
  rw [hk] at this
  rw [Option.some.inj this]
  exact ⟨rfl, by show 2 ≤ 1000000; decide⟩
abbrev s_law : Stmt := topS 11
abbrev N_law : List Str := ["script", "tape", "text", "starts", "at", "first", "expected", "k", "end"]
theorem sc_law : FnScope N_law ["script"] (defScope s_law) := ⟨rfl, rfl, rfl, by decide +kernel, rfl, by decide +kernel, by decide +kernel⟩
theorem ok_law (F : Fun K "law" "law" s_law f fd) (T : Nm7 mg) (C_law_tape : Cal P w K mg base CX0 1 "_law_tape" (spTape K)) (C_law_take : Cal P w K mg base CX0 1 "_law_take" spTake) (C_law_any_text : Cal P w K mg base CX0 3 "_law_any_text" spAny)
    (C_law_same : Cal P w K mg base CX0 8 "_law_same" (spSame 4)) (C_chunks : Cal P w K mg base CX0 1 "chunks" spChunks) :
    FnOk P w K mg base CX0 9 f fd ["script"] (spLaw K) := by
  refine F.ok sc_law (fun vs H Q E h => ?_) (fun cdv A outer s H vs Q E hr h => ?_)
  · obtain ⟨a, ns, rfl, _⟩ := h
    rfl
  obtain ⟨a, ns, rfl, hS, h63, q⟩ := h
  refine ⟨_, (pss_cons (ps_set (i := 1) sc_law.nd rfl (Or.inl rfl) (pe_c C_law_tape hr (by first | decide | omega) pass0 (pa_cons (pv 0) pa_nil)))
    (pss_cons (ps_set (i := 2) sc_law.nd rfl (Or.inl rfl) (pe_c C_law_any_text hr (by first | decide | omega) pass0 (pa_cons (pv 1) (pa_cons pe_int pa_nil))))
    (C8.pss_cut (ps_ifK op_eq (pe_c C_law_take hr (by first | decide | omega) pass0 (pa_cons (pv 1) (pa_cons pe_int pa_nil))) (by rfl) (psst_one1 (pst_set (i := 2) sc_law.nd rfl (.inl rfl) (CwR.pet_replC (pv 2)))) pss_nil)
    (pss_cons (ps_set (i := 3) sc_law.nd rfl (Or.inl rfl) (pe_lst pa_nil))
    (pss_cons (ps_for PassesOwn.never rfl (pi_range1 (by rfl) T.range (pa_cons (pe_callB call_len_str (by rfl) T.len PySem.boot_len (pa_cons (pv 2) pa_nil)) pa_nil)) (pg_name (i := 4) sc_law.nd rfl (Or.inl rfl)) (C8.pss_cut (ps_set (i := 5) sc_law.nd rfl (Or.inl rfl) (pe_or (pe_cmpR op_eq (pv 4) pe_int (nomark _)) (pe_one (pe_cmpR op_eq (pe_item_str (pv 2) (pe_op op_sub (pv 4) pe_int) (fun _ _ => rfl)) pe_str (nomark _)))))
    (pss_one (ps_if (PW.pt (pw_and (pt_val (pv 5)) (pw_and (pt_cmpR op_ne (pe_item_str (pv 2) (pv 4) (fun _ _ => rfl)) pe_str (nomark _)) (pw_and1 (pt_cmpR op_ne (pe_item_str (pv 2) (pv 4) (fun _ _ => rfl)) pe_str (nomark _)))))) (pss_one (ps_expr (pe_bm PySem.F.plainAttrs_list PySem.F.slot_list_append PySem.F.type_list_append mt_append (pv 3) (pa_cons (pv 4) pa_nil)))) pss_nil))))
    (pss_cons (ps_set (i := 6) sc_law.nd rfl (Or.inl rfl) (pe_lst pa_nil))
    (pss_cons (ps_for PassesOwn.never rfl (pi_range1 (by rfl) T.range (pa_cons (pe_callB call_len_seq (by rfl) T.len PySem.boot_len (pa_cons (pv 3) pa_nil)) pa_nil)) (pg_name (i := 7) sc_law.nd rfl (Or.inl rfl)) (pss_cons (ps_set (i := 8) sc_law.nd rfl (Or.inl rfl) (pe_callB call_len_str (by rfl) T.len PySem.boot_len (pa_cons (pv 2) pa_nil)))
    (C8.pss_cut (ps_if (pt_cmpR op_lt (pe_op op_add (pv 7) pe_int) (pe_callB call_len_seq (by rfl) T.len PySem.boot_len (pa_cons (pv 3) pa_nil)) (nomark _)) (pss_one (ps_set (i := 8) sc_law.nd rfl (Or.inl rfl) (pe_ix (r := rIxL K) ix_list (pv 3) (pe_op op_add (pv 7) pe_int) (fun _ _ => rfl)))) pss_nil)
    (pss_one (ps_expr (pe_bm PySem.F.plainAttrs_list PySem.F.slot_list_append PySem.F.type_list_append mt_append (pv 6) (pa_cons (pe_tup (pa_cons (pe_ix (r := rIxL K) ix_list (pv 3) (pv 7) (fun _ _ => rfl)) (pa_cons (pv 8) pa_nil))) pa_nil)))))))
    (pss_one (ps_ret (pe_c C_law_same hr (by first | decide | omega) pass0 (pa_cons (pe_c C_chunks hr (by first | decide | omega) pass0 (pa_cons (pv 2) pa_nil)) (pa_cons (pv 6) pa_nil)))))))))))), ?_⟩
  refine ⟨_, rfl, a, ns, rfl, hS, h63, fun t c H1 s1 nt nc tp1 => ?_⟩
  refine ⟨_, rfl, t, c, 22, rfl, tp1, by omega, fun z0 H2 oz lz b2 tp2 => ?_⟩
  refine ⟨fun σ H' => ∃ z : Str, σ = [some (.ref a), some (.ref t), some (.str z), none, none, none, none, none, none] ∧ z.length ≤ 100000, ?_, ?_⟩
  · refine ⟨_, rfl, t, c, 2, rfl, tp2, by decide, by decide, fun r H3 h0 h1 b3 tp3 => ⟨rfl, _, rfl, ?_⟩⟩
    refine ite2 (fun _ => ?_) (fun _ => ⟨z0, rfl, by omega⟩)
    have hb : (z0.length + 1) * ("\n " : Str).length = (z0.length + 1) * 2 := by
      rw [show ("\n " : Str).length = 2 by decide +kernel]
    refine ⟨_, rfl, z0, rfl, by rw [hb]; omega, _, rfl, ?_⟩
    have := TK.replace_len z0 " " "\n "
    rw [hb] at this
    omega
  rintro σ H3 ⟨z, rfl, lz⟩
  have hz : z.length = (tl z).length := len_tl z
  refine ⟨Nat.zero_le _, fun D nD => ?_⟩
  have hD : upd H3 D (.lst []) D = some (.lst []) := upd_same
  generalize upd H3 D (.lst []) = H4 at hD ⊢
  refine ⟨_, rfl, z, rfl, small (by omega), _, rfl, by omega, by omega, for_range (lo := 0) (n := ((z.length : Nat) : Int).toNat) (fun i σ H' => ∃ v4 v5, σ = [some (.ref a), some (.ref t), some (.str z), some (.ref D), v4, v5, none, none, none] ∧
      H' D = some (.lst ((stL ((tl z).take i) true 0).map fun n : Nat => V.int (n : Int)))) ⟨none, none, rfl, hD⟩ ?_ ?_⟩
  · rintro i σ H' hi ⟨v4, v5, rfl, hD'⟩
    have hi2 : i < (tl z).length := by omega
    have hc := List.getElem?_eq_getElem hi2
    generalize (tl z)[i] = ch at hc
    have ei : (0 : Int) + (i : Nat) = (i : Nat) := by omega
    rw [ei]
    have sn : stL ((tl z).take (i + 1)) true 0 = stL ((tl z).take i) true 0 ++ (if (lastf ((tl z).take i) true && beg ch) = true then [i] else []) := by
      rw [List.take_add_one, hc]
      show stL ((tl z).take i ++ [ch]) true 0 = _
      rw [stL_snoc, Nat.zero_add, List.length_take, Nat.min_eq_left (Nat.le_of_lt hi2)]
    have sl := stL_le ((tl z).take i) true 0
    rw [List.length_take] at sl
    refine ⟨fun σ H5 => ∃ b, b = lastf ((tl z).take i) true ∧ σ = [some (.ref a), some (.ref t), some (.str z), some (.ref D), some (.int (i : Int)), some (.bl b), none, none, none] ∧ H5 = H', ?_, ?_⟩
    · refine ⟨_, rfl, rfl, _, rfl, ?_⟩
      cases i with
      | zero => exact iteP rfl ⟨true, rfl, rfl, rfl⟩
      | succ j =>
        refine iteN (fun k => by injection k with k; omega) ?_
        have hj : j < (tl z).length := by omega
        have hd := List.getElem?_eq_getElem hj
        generalize (tl z)[j] = d at hd
        have ej : ((j + 1 : Nat) : Int) - 1 = (j : Nat) := by omega
        have q7 := item7 hd (by omega)
        refine ⟨_, rfl, _, rfl, _, _, rfl, rfl, z, _, d, rfl, rfl, by rw [ej]; exact q7.1, by rw [ej]; exact q7.2.1, by rw [ej]; exact q7.2.2.1, by rw [ej]; exact q7.2.2.2, rfl, _, ?_, rfl, rfl⟩
        rw [lastf_take (tl z) j d true hd]
        by_cases k : d = 10
        · rw [decide_eq_true ((one7 s_nl7).mpr k), k]
          rfl
        · rw [decide_eq_false (fun e => k ((one7 s_nl7).mp e))]
          exact (beq_eq_false_iff_ne.mpr k).symm
    rintro σ H5 ⟨b, hb, rfl, rfl⟩
    have q7 := item7 hc (by omega)
    have no : (lastf ((tl z).take i) true && beg ch) = false → H5 D = some (.lst ((stL ((tl z).take (i + 1)) true 0).map fun n : Nat => V.int (n : Int))) := fun k => by rw [sn, k, hD']; simp
    refine ⟨_, rfl, _, rfl, ?_⟩
    cases b with
    | false => exact iteF ⟨_, _, rfl, no (by rw [← hb]; rfl)⟩
    | true =>
      refine iteT ⟨_, rfl, _, rfl, z, _, ch, rfl, rfl, q7.1, q7.2.1, q7.2.2.1, q7.2.2.2, rfl, _, rfl, ?_⟩
      by_cases k1 : ch = 32
      · rw [decide_eq_true ((one7 s_sp7).mpr k1)]
        exact iteF ⟨_, _, rfl, no (by rw [← hb, k1]; rfl)⟩
      rw [decide_eq_false (fun e => k1 ((one7 s_sp7).mp e))]
      refine iteT ⟨_, rfl, _, rfl, z, _, ch, rfl, rfl, q7.1, q7.2.1, q7.2.2.1, q7.2.2.2, rfl, _, rfl, ?_⟩
      by_cases k2 : ch = 10
      · rw [decide_eq_true ((one7 s_nl7).mpr k2)]
        exact iteF ⟨_, _, rfl, no (by rw [← hb, k2]; rfl)⟩
      rw [decide_eq_false (fun e => k2 ((one7 s_nl7).mp e))]
      refine iteT ⟨_, rfl, .inl ⟨rfl, _, SqL.of hD'⟩, _, rfl, D, _, _, rfl, rfl, hD', ?_, _, _, rfl, ?_⟩
      · rw [List.length_map]; exact Nat.lt_of_lt_of_le (show _ < 200000 by omega) (by decide)
      · rw [upd_same, sn, ← hb]
        have : beg ch = true := by
          unfold beg
          simp [k1, k2]
        rw [this]
        simp
  · rintro σ H5 ⟨v4, v5, rfl, hD'⟩
    rw [hz, Int.toNat_natCast, List.take_length] at hD'
    have sl := stL_le (tl z) true 0
    refine ⟨Nat.zero_le _, fun X nX => ?_⟩
    have XD : D ≠ X := ne_of_none hD' nX
    have hX : LT (upd H5 X (.lst [])) X [] := ⟨[], upd_same, rfl, fun i r xs h => by simp at h⟩
    have hD6 := same_new (o := .lst []) nX _ _ hD'
    generalize upd H5 X (.lst []) = H6 at hX hD6 ⊢
    refine ⟨_, rfl, D, _, rfl, .inl (.inl (.inl hD6)), _, rfl, by omega, by simp; omega, for_range (lo := 0) (n := ((((stL (tl z) true 0).map fun n : Nat => V.int (n : Int)).length : Nat) : Int).toNat) (fun i σ H' => ∃ v4 v5 v7 v8, σ = [some (.ref a), some (.ref t), some (.str z), some (.ref D), v4, v5, some (.ref X), v7, v8] ∧
        H' D = some (.lst ((stL (tl z) true 0).map fun n : Nat => V.int (n : Int))) ∧ LT H' X ((chV (tl z)).take i)) ⟨_, _, none, none, rfl, hD6, hX⟩ ?_ ?_⟩
    · rintro i σ H' hi ⟨w4, w5, w7, w8, rfl, hD7, hX7⟩
      rw [List.length_map] at hi
      have hi2 : i < (stL (tl z) true 0).length := by omega
      have hk := List.getElem?_eq_getElem hi2
      generalize (stL (tl z) true 0)[i] = k0 at hk
      have ei : (0 : Int) + (i : Nat) = (i : Nat) := by omega
      rw [ei]
      have hrow := chV_at (tl z) i k0 hk
      have hmap : ((stL (tl z) true 0).map fun n : Nat => V.int (n : Int))[i]? = some (.int (k0 : Int)) := by rw [List.getElem?_map, hk]; rfl
      have tk : (chV (tl z)).take (i + 1) = (chV (tl z)).take i ++ [[.int (k0 : Int), .int (((match (stL (tl z) true 0)[i + 1]? with | some b => b | none => (tl z).length) : Nat) : Int)]] := by rw [List.take_add_one, hrow]; rfl
      have lX : ((chV (tl z)).take i).length ≤ 100000 := by rw [List.length_take, chV_len]; omega
      refine ⟨_, rfl, z, rfl, small (by omega), ?_⟩
      refine ⟨fun σ H8 => ∃ e : Nat, e = (match (stL (tl z) true 0)[i + 1]? with | some b => b | none => (tl z).length) ∧ σ = [some (.ref a), some (.ref t), some (.str z), some (.ref D), w4, w5, some (.ref X), some (.int (i : Int)), some (.int (e : Int))] ∧ H8 = H', ?_, ?_⟩
      · refine ⟨_, rfl, _, _, rfl, rfl, _, rfl, D, _, rfl, .inl (.inl (.inl hD7)), _, _, rfl, rfl, _, rfl, ?_⟩
        rw [List.length_map]
        by_cases k : i + 1 < (stL (tl z) true 0).length
        · refine iteP (by omega) ?_
          have h1 := List.getElem?_eq_getElem k
          generalize (stL (tl z) true 0)[i + 1] = b1 at h1
          have g1 : ((stL (tl z) true 0).map fun n : Nat => V.int (n : Int))[i + 1]? = some (.int (b1 : Int)) := by rw [List.getElem?_map, h1]; rfl
          refine ⟨_, rfl, _, rfl, _, _, rfl, rfl, D, _, _, _, rfl, rfl, .inl (.inl hD7), at_of (by omega) g1, b1, ?_, rfl, rfl⟩
          rw [h1]
        · refine iteN (by omega) ⟨(tl z).length, ?_, by rw [← hz]; rfl, rfl⟩
          rw [List.getElem?_eq_none (by omega)]
      rintro σ H8 ⟨e, he, rfl, rfl⟩
      rw [← he] at tk
      refine ⟨_, rfl, .inl ⟨rfl, _, SqL.of hX7.choose_spec.1⟩, _, rfl, _, rfl, D, _, _, _, rfl, rfl, .inl (.inl hD7), at_of rfl hmap, _, rfl, (by show 2 ≤ sizeLine; decide), fun T nT => ?_⟩
      have lt1 := hX7.same (same_new (o := .tup [.int (k0 : Int), .int (e : Int)]) nT)
      have hD8 := same_new (o := .tup [.int (k0 : Int), .int (e : Int)]) nT _ _ hD7
      have hT : upd H8 T (.tup [.int (k0 : Int), .int (e : Int)]) T = some (.tup [.int (k0 : Int), .int (e : Int)]) := upd_same
      generalize upd H8 T (.tup [.int (k0 : Int), .int (e : Int)]) = H9 at lt1 hD8 hT ⊢
      obtain ⟨ys, h1, h2, h3⟩ := lt1.push hT
      refine ⟨X, ys, _, rfl, rfl, h1, by rw [h2]; exact Nat.lt_of_lt_of_le (show _ < 200000 by omega) (by decide), _, _, _, _, rfl, by rw [upd_ne XD]; exact hD8, ?_⟩
      rw [tk]
      exact h3
    · rintro σ H' ⟨w4, w5, w7, w8, rfl, hD7, hX7⟩
      rw [List.length_map, Int.toNat_natCast, ← chV_len, List.take_length] at hX7
      refine ⟨_, rfl, z, rfl, by omega, fun L H9 s9 nL lt9 => ?_⟩
      refine ⟨_, rfl, _, _, rfl, lt9.al (hX7.same s9) (by rw [chV_len]; omega) (chV_sca _), q H9⟩
end

end Sn

namespace Sn
open PySem PySem.Spec PyProof.Rows L2 TL
theorem all_mk {l : PySem.W.OpenLaw} {w : World} {K : PySem.W.Frag} {h : Heap} {mg : Str → Option Value} {fa f0 f1 f2 f3 f4 f5 f6 f7 f8 f9 : Addr}
    {od0 an0 od1 an1 od2 an2 od3 an3 od4 an4 od5 an5 od6 an6 od7 an7 od8 an8 od9 an9 : Option Addr} {sl0 sl1 sl2 sl3 sl4 sl5 sl6 sl7 sl8 sl9 : Array (Option Value)} {oc0 kV0 dc0 pm0 cd0 ct0 oc1 kV1 dc1 pm1 cd1 ct1 oc2 kV2 dc2 pm2 cd2 ct2 oc3 kV3 dc3 pm3 cd3 ct3 oc4 kV4 dc4 pm4 cd4 ct4 oc5 kV5 dc5 pm5 cd5 ct5 oc6 kV6 dc6 pm6 cd6 ct6 oc7 kV7 dc7 pm7 cd7 ct7 oc8 kV8 dc8 pm8 cd8 ct8 oc9 kV9 dc9 pm9 cd9 ct9 : Value} (X : K.In h) (G : h.Ns mainGlobals mg) (hfa : mg "law" = some (.ref fa))
    (a0 : PySem.W.nsIn K mainGlobals "_law_tape" = some (some (.ref f0)))
    (l0 : K.lookup f0 = some ⟨oc0, od0, .func (PySem.W.fnOf "_law_tape" "_law_tape" (defArgs s_tape) (defBody s_tape) (defScope s_tape) .none kV0 dc0 pm0 an0 cd0 ct0), sl0⟩)
    (c0 : PySem.W.codeIn K cd0 "_law_tape" = true)
    (k0 : PySem.W.keepIn K (.ref f0) = true)
    (a1 : PySem.W.nsIn K mainGlobals "_law_take" = some (some (.ref f1)))
    (l1 : K.lookup f1 = some ⟨oc1, od1, .func (PySem.W.fnOf "_law_take" "_law_take" (defArgs s_take) (defBody s_take) (defScope s_take) .none kV1 dc1 pm1 an1 cd1 ct1), sl1⟩)
    (c1 : PySem.W.codeIn K cd1 "_law_take" = true)
    (k1 : PySem.W.keepIn K (.ref f1) = true)
    (a2 : PySem.W.nsIn K mainGlobals "_law_is_integer" = some (some (.ref f2)))
    (l2 : K.lookup f2 = some ⟨oc2, od2, .func (PySem.W.fnOf "_law_is_integer" "_law_is_integer" (defArgs s_isInt) (defBody s_isInt) (defScope s_isInt) .none kV2 dc2 pm2 an2 cd2 ct2), sl2⟩)
    (c2 : PySem.W.codeIn K cd2 "_law_is_integer" = true)
    (k2 : PySem.W.keepIn K (.ref f2) = true)
    (a3 : PySem.W.nsIn K mainGlobals "_law_same_items" = some (some (.ref f3)))
    (l3 : K.lookup f3 = some ⟨oc3, od3, .func (PySem.W.fnOf "_law_same_items" "_law_same_items" (defArgs s_sameItems) (defBody s_sameItems) (defScope s_sameItems) .none kV3 dc3 pm3 an3 cd3 ct3), sl3⟩)
    (c3 : PySem.W.codeIn K cd3 "_law_same_items" = true)
    (k3 : PySem.W.keepIn K (.ref f3) = true)
    (a4 : PySem.W.nsIn K mainGlobals "_law_same" = some (some (.ref f4)))
    (l4 : K.lookup f4 = some ⟨oc4, od4, .func (PySem.W.fnOf "_law_same" "_law_same" (defArgs s_same) (defBody s_same) (defScope s_same) .none kV4 dc4 pm4 an4 cd4 ct4), sl4⟩)
    (c4 : PySem.W.codeIn K cd4 "_law_same" = true)
    (k4 : PySem.W.keepIn K (.ref f4) = true)
    (a5 : PySem.W.nsIn K mainGlobals "_law_snippet" = some (some (.ref f5)))
    (l5 : K.lookup f5 = some ⟨oc5, od5, .func (PySem.W.fnOf "_law_snippet" "_law_snippet" (defArgs s_snippet) (defBody s_snippet) (defScope s_snippet) .none kV5 dc5 pm5 an5 cd5 ct5), sl5⟩)
    (c5 : PySem.W.codeIn K cd5 "_law_snippet" = true)
    (k5 : PySem.W.keepIn K (.ref f5) = true)
    (a6 : PySem.W.nsIn K mainGlobals "_law_char" = some (some (.ref f6)))
    (l6 : K.lookup f6 = some ⟨oc6, od6, .func (PySem.W.fnOf "_law_char" "_law_char" (defArgs s_char) (defBody s_char) (defScope s_char) .none kV6 dc6 pm6 an6 cd6 ct6), sl6⟩)
    (c6 : PySem.W.codeIn K cd6 "_law_char" = true)
    (k6 : PySem.W.keepIn K (.ref f6) = true)
    (a7 : PySem.W.nsIn K mainGlobals "_law_any_text" = some (some (.ref f7)))
    (l7 : K.lookup f7 = some ⟨oc7, od7, .func (PySem.W.fnOf "_law_any_text" "_law_any_text" (defArgs s_anyText) (defBody s_anyText) (defScope s_anyText) .none kV7 dc7 pm7 an7 cd7 ct7), sl7⟩)
    (c7 : PySem.W.codeIn K cd7 "_law_any_text" = true)
    (k7 : PySem.W.keepIn K (.ref f7) = true)
    (a8 : PySem.W.nsIn K mainGlobals "chunks" = some (some (.ref f8)))
    (l8 : K.lookup f8 = some ⟨oc8, od8, .func (PySem.W.fnOf "chunks" "chunks" (defArgs s_chunks) (defBody s_chunks) (defScope s_chunks) .none kV8 dc8 pm8 an8 cd8 ct8), sl8⟩)
    (c8 : PySem.W.codeIn K cd8 "chunks" = true)
    (k8 : PySem.W.keepIn K (.ref f8) = true)
    (a9 : PySem.W.nsIn K mainGlobals "law" = some (some (.ref f9)))
    (l9 : K.lookup f9 = some ⟨oc9, od9, .func (PySem.W.fnOf "law" "law" (defArgs s_law) (defBody s_law) (defScope s_law) .none kV9 dc9 pm9 an9 cd9 ct9), sl9⟩)
    (c9 : PySem.W.codeIn K cd9 "law" = true)
    (k9 : PySem.W.keepIn K (.ref f9) = true)
    (z0 : PySem.W.nsIn K mainGlobals "abs" = some none)
    (z1 : PySem.W.nsIn K mainGlobals "int" = some none)
    (z2 : PySem.W.nsIn K mainGlobals "len" = some none)
    (z3 : PySem.W.nsIn K mainGlobals "range" = some none)
    (z4 : PySem.W.nsIn K mainGlobals "isinstance" = some none)
    (z5 : PySem.W.nsIn K mainGlobals "bool" = some none)
    (z6 : PySem.W.nsIn K mainGlobals "str" = some none)
    (z7 : PySem.W.nsIn K mainGlobals "tuple" = some none)
    (z8 : PySem.W.nsIn K mainGlobals "list" = some none)
    (z9 : PySem.W.nsIn K mainGlobals "zip" = some none) :
    ∃ fd : FuncData, (∀ (s : Shared) (v : Value), BindsTo s fd ⟨[v], []⟩ [("script", v)]) ∧ ∀ base : Heap, K.In base → base.Ns mainGlobals mg → FnOk l.prog w K mg base CX0 9 fa fd ["script"] (spLaw K) := by
  have e := hfa.symm.trans (PySem.W.mg_of X G a9)
  cases e
  have F0 := fun_mk (st := s_tape) l0 c0 k0
  have b0 := F0.binds (ps := ["script"]) fun _ _ _ _ _ _ us hl => match us, hl with | [_], _ => rfl
  have m0 := PySem.W.mg_of X G a0
  have F1 := fun_mk (st := s_take) l1 c1 k1
  have b1 := F1.binds (ps := ["tape", "many"]) fun _ _ _ _ _ _ us hl => match us, hl with | [_, _], _ => rfl
  have m1 := PySem.W.mg_of X G a1
  have F2 := fun_mk (st := s_isInt) l2 c2 k2
  have b2 := F2.binds (ps := ["actual"]) fun _ _ _ _ _ _ us hl => match us, hl with | [_], _ => rfl
  have m2 := PySem.W.mg_of X G a2
  have F3 := fun_mk (st := s_sameItems) l3 c3 k3
  have b3 := F3.binds (ps := ["actual", "expected"]) fun _ _ _ _ _ _ us hl => match us, hl with | [_, _], _ => rfl
  have m3 := PySem.W.mg_of X G a3
  have F4 := fun_mk (st := s_same) l4 c4 k4
  have b4 := F4.binds (ps := ["actual", "expected"]) fun _ _ _ _ _ _ us hl => match us, hl with | [_, _], _ => rfl
  have m4 := PySem.W.mg_of X G a4
  have F5 := fun_mk (st := s_snippet) l5 c5 k5
  have b5 := F5.binds (ps := ["tape"]) fun _ _ _ _ _ _ us hl => match us, hl with | [_], _ => rfl
  have m5 := PySem.W.mg_of X G a5
  have F6 := fun_mk (st := s_char) l6 c6 k6
  have b6 := F6.binds (ps := ["tape"]) fun _ _ _ _ _ _ us hl => match us, hl with | [_], _ => rfl
  have m6 := PySem.W.mg_of X G a6
  have F7 := fun_mk (st := s_anyText) l7 c7 k7
  have b7 := F7.binds (ps := ["tape", "most"]) fun _ _ _ _ _ _ us hl => match us, hl with | [_, _], _ => rfl
  have m7 := PySem.W.mg_of X G a7
  have F8 := fun_mk (st := s_chunks) l8 c8 k8
  have b8 := F8.binds (ps := ["text"]) fun _ _ _ _ _ _ us hl => match us, hl with | [_], _ => rfl
  have m8 := PySem.W.mg_of X G a8
  have F9 := fun_mk (st := s_law) l9 c9 k9
  refine ⟨PySem.W.fnOf "law" "law" (defArgs s_law) (defBody s_law) (defScope s_law) .none kV9 dc9 pm9 an9 cd9 ct9, fun s v => .of_eq rfl, fun base _ _ => ?_⟩
  have T : Nm7 mg  := ⟨⟨(PySem.W.mg_none_of X G z0), (PySem.W.mg_none_of X G z1), (PySem.W.mg_none_of X G z2), (PySem.W.mg_none_of X G z3), (PySem.W.mg_none_of X G z4), (PySem.W.mg_none_of X G z5), (PySem.W.mg_none_of X G z6), (PySem.W.mg_none_of X G z7), (PySem.W.mg_none_of X G z8)⟩, (PySem.W.mg_none_of X G z9)⟩
  have C_law_tape : Cal l.prog w K mg base CX0 1 "_law_tape" (spTape K) := ⟨_, _, _, ok_tape F0 T.toNm, m0, F0.kp, b0⟩
  have C_law_take : Cal l.prog w K mg base CX0 1 "_law_take" spTake := ⟨_, _, _, ok_take F1 T.toNm, m1, F1.kp, b1⟩
  have C_law_is_integer : Cal l.prog w K mg base CX0 1 "_law_is_integer" spIsInt := ⟨_, _, _, ok_isInt F2 T.toNm, m2, F2.kp, b2⟩
  have C_law_same : Cal l.prog w K mg base CX0 8 "_law_same" (spSame 4) := both F4 b4 m4 F3 b3 m3 T.toNm C_law_is_integer 4
  have C_law_snippet : Cal l.prog w K mg base CX0 2 "_law_snippet" spSnippet := ⟨_, _, _, ok_snippet F5 T.toNm C_law_take, m5, F5.kp, b5⟩
  have C_law_char : Cal l.prog w K mg base CX0 2 "_law_char" spChar := ⟨_, _, _, ok_char F6 T.toNm C_law_take, m6, F6.kp, b6⟩
  have C_law_any_text : Cal l.prog w K mg base CX0 3 "_law_any_text" spAny := ⟨_, _, _, ok_any F7 T.toNm C_law_take C_law_char C_law_snippet, m7, F7.kp, b7⟩
  have C_chunks : Cal l.prog w K mg base CX0 1 "chunks" spChunks := ⟨_, _, _, ok_chunks F8 T, m8, F8.kp, b8⟩
  exact ok_law F9 T C_law_tape C_law_take C_law_any_text C_law_same C_chunks
theorem walk {l : PySem.W.OpenLaw} {q : Program} {loose : List Str} {XP : (Str → Option Value) → Heap → Prop} {YP : World → Heap → Prop} {d : DefRec} {K : Params → PySem.W.Frag} (hn : l.most = some 63) (hdf : d.params.defaults = [])
    (hY : ∀ (w : World) (h : Heap), YP w h → (K w.params).In h)
    (F : ∀ (w : World) (mg : Str → Option Value) (fa : Addr) (h : Heap), (K w.params).In h → h.Ns mainGlobals mg → mg d.name = some (.ref fa) →
      ∃ fd : FuncData, (∀ (s : Shared) (u : Value), BindsTo s fd ⟨[u], []⟩ [("script", u)]) ∧ ∀ base : Heap, (K w.params).In base → base.Ns mainGlobals mg → FnOk l.prog w (K w.params) mg base CX0 9 fa fd ["script"] (spLaw (K w.params))) :
    PySem.W.WalkO q loose XP YP l.row.toRowW d [] (fun f vs => PySem.call f vs) :=
  L2.walk_of (n := 63) (k := 9) (x := "script") (CX := fun _ => CX0) (sp := fun w => spLaw (K w.params)) hn (by decide) hdf ⟨rfl, by decide, by decide⟩ hY F (fun _ _ a ns hl _ hS => ⟨a, ns, rfl, hS, hl, fun _ => rfl⟩) fun _ _ _ _ _ z => z
end Sn
open PySem PySem.W PyProof.Rows
set_option maxRecDepth 100000 in
set_option maxHeartbeats 0 in
theorem PySem.Challenge.cw_samenames_k07_chunks_of_texts_holds : PySem.Challenge.rw_samenames_k07_chunks_of_texts.Holds := by
  w_on; o_law; k_head; (case hw => w_witness2)
  k_fill
  refine Sn.walk (l := PySem.Challenge.rw_samenames_k07_chunks_of_texts) rfl rfl (fun w h Y => PySem.W.kIn_of Y) ?F
  case F =>
    intro w mg fa h KX G hmg
    refine' Sn.all_mk KX G hmg ?a0 ?l0 ?c0 ?k0 ?a1 ?l1 ?c1 ?k1 ?a2 ?l2 ?c2 ?k2 ?a3 ?l3 ?c3 ?k3 ?a4 ?l4 ?c4 ?k4 ?a5 ?l5 ?c5 ?k5 ?a6 ?l6 ?c6 ?k6 ?a7 ?l7 ?c7 ?k7 ?a8 ?l8 ?c8 ?k8 ?a9 ?l9 ?c9 ?k9 ?z0 ?z1 ?z2 ?z3 ?z4 ?z5 ?z6 ?z7 ?z8 ?z9
    (case a0 => k_is)
    (case l0 => k_is)
    (case c0 => k_is)
    (case k0 => k_is)
    (case a1 => k_is)
    (case l1 => k_is)
    (case c1 => k_is)
    (case k1 => k_is)
    (case a2 => k_is)
    (case l2 => k_is)
    (case c2 => k_is)
    (case k2 => k_is)
    (case a3 => k_is)
    (case l3 => k_is)
    (case c3 => k_is)
    (case k3 => k_is)
    (case a4 => k_is)
    (case l4 => k_is)
    (case c4 => k_is)
    (case k4 => k_is)
    (case a5 => k_is)
    (case l5 => k_is)
    (case c5 => k_is)
    (case k5 => k_is)
    (case a6 => k_is)
    (case l6 => k_is)
    (case c6 => k_is)
    (case k6 => k_is)
    (case a7 => k_is)
    (case l7 => k_is)
    (case c7 => k_is)
    (case k7 => k_is)
    (case a8 => k_is)
    (case l8 => k_is)
    (case c8 => k_is)
    (case k8 => k_is)
    (case a9 => k_is)
    (case l9 => k_is)
    (case c9 => k_is)
    (case k9 => k_is)
    (case z0 => k_is)
    (case z1 => k_is)
    (case z2 => k_is)
    (case z3 => k_is)
    (case z4 => k_is)
    (case z5 => k_is)
    (case z6 => k_is)
    (case z7 => k_is)
    (case z8 => k_is)
    (case z9 => k_is)
