import PyProof.Rows.All
import Wide.All
import OpenK.AllK
import Wide.FinOn
import PyProof.EqAt
import PyProof.EqKinds
import PyProof.TupleCall
import HandS.ForMost
import HandS.IsInst
import HandS.StrMore
import HandS.Codes
import HandS.Style
import HandS.Defaults
import HandS.HeadEnd
import HandS.HeadHook1
import HandS.HeadHook2
import HandS.Head0
import HandS.Head1
import HandS.Head2
import KE.KStateDown
import HandS.Exc
import HandS.TryOnly
import HandS.TryMany
import HandS.WordsExc
import HandS.DictComp
import HandS.Walk
import HandS.WordsDict
import HandS.ExcOwn
import HandS.ExcIs
import HandS.ExcInit
import HandS.ExcField
import HandS.WrittenGet
import HandS.Conv
import HandS.DictTup
import HandS.TupLen
import HandS.Finally
import HandS.CallLocal
import HandS.CallSlots
import PyProof.DictMoreH
import HandS.Deep
import PySem.Challenge.RW_samenames_k29_undo_and_redo
set_option Elab.async false
set_option linter.all false
set_option maxRecDepth 100000
set_option maxHeartbeats 4000000
/-! My own words over the hand layer: calls by name, heaps but for one place, texts, data. -/
namespace Sn
open PySem PySem.Spec PyProof.Rows L2

/-- a def that may be called by its name -/
structure Cal (P : Program) (w : World) (K : PySem.W.Frag) (mg : Str → Option Value) (base : Heap) (CX : CXT) (k : Nat) (x : Str) (sp : Sp) : Prop where
  ex : ∃ (f : Addr) (fd : FuncData) (ps : List Str), FnOk P w K mg base CX k f fd ps sp ∧ mg x = some (.ref f) ∧ PySem.W.keepIn K (.ref f) = true ∧ Binds K fd ps []
section
variable {X : Cx} {k j : Nat} {x : Str} {sp : Sp} {p pos : Pos} {e : Expr} {es : List Expr} {t : TA} {CX : CXT} {E : XK}
theorem pe_c (c : Cal X.prog X.w X.K X.mg X.base CX k x sp) (hr : Room j X.A) (hk : k ≤ j) (hx : Passes CX X E) (ha : PA X (e :: es) t) (hg : Gl X x := by rfl)
    (hdb : (x == ("__debug__" : Str)) = false := by decide) (he : starEach (e :: es) X.env = (false, eval e X.env) :: starEach es X.env := by rfl) (hpl : (backTo pos (starEach es X.env)).any (·.1) = false := by rfl) :
    PE X (.Call (.Name x p) (e :: es) [] pos) (tCall sp [] E t) := by
  obtain ⟨f, fd, ps, F, hm, kp, b⟩ := c.ex
  exact pe_call F (hr.mono hk) hg hm kp b .nil hx ha hdb he hpl
end

/-! ### displays of many written texts -/
def strOf : Expr → Option Str
  | .Constant (.str x) _ _ => some x
  | _ => none
def strsOf : List Expr → Option (List Str)
  | [] => some []
  | e :: r => match strOf e, strsOf r with
    | some x, some l => some (x :: l)
    | _, _ => none
theorem starEach_strs {env : Env} : ∀ {es : List Expr} {l : List Str}, strsOf es = some l → ∀ {e : Expr} {x : Str}, strOf e = some x → starEach (e :: es) env = (false, eval e env) :: starEach es env := by
  intro es l h e x hx
  unfold strOf at hx
  split at hx
  · rfl
  · cases hx
theorem pa_strsL {X : Cx} : ∀ (es : List Expr) (l : List Str), strsOf es = some l → PA X es (fun _ H Q => Q (l.map V.str) H)
  | [], l, h => by
    have e : l = [] := (Option.some.inj h).symm
    subst e
    exact pa_nil
  | e :: r, l, h => by
    unfold strsOf at h
    split at h
    · rename_i x m hx hm
      have el : l = x :: m := (Option.some.inj h).symm
      subst el
      have q := pa_strsL (X := X) r m hm
      have hs := starEach_strs (env := X.env) hm hx
      unfold strOf at hx
      split at hx
      · rename_i x' j pos
        have ex : x' = x := Option.some.inj hx
        subst ex
        exact pa_cons (te := tC (.str x')) (t := fun _ H Q => Q (m.map V.str) H) pe_str q hs
      · cases hx
    · cases h
theorem pa_strs {X : Cx} {es : List Expr} (l : List Str) (h : strsOf es = some l := by rfl) : PA X es (fun _ H Q => Q (l.map V.str) H) := pa_strsL es l h

/-! ### heaps -/
/-- all that was tracked but the object at t is as it was -/
def But (t : Addr) (H H' : Hp) : Prop := ∀ b o, b ≠ t → H b = some o → H' b = some o
theorem But.refl (t : Addr) (H : Hp) : But t H H := fun _ _ _ h => h
theorem But.trans {t : Addr} {H H1 H2 : Hp} (a : But t H H1) (b : But t H1 H2) : But t H H2 := fun c o n h => b c o n (a c o n h)
theorem But.of {t : Addr} {H H' : Hp} (s : Same H H') : But t H H' := fun b o _ h => s b o h
theorem same_new {H : Hp} {p : Addr} {o : HO} (h : H p = none) : Same H (upd H p o) := fun b u q => by
  rw [upd_ne (ne_of_none q h)]
  exact q
theorem But.upd {t : Addr} {H H1 : Hp} {o : HO} (b : But t H H1) : But t H (upd H1 t o) := fun c u n h => by
  rw [upd_ne n]
  exact b c u n h

/-! ### the tape -/
def tk (c : Addr) (a l se sa : Int) : List (Key × V) := [(.inr "cells", .ref c), (.inr "at", .int a), (.inr "left", .int l), (.inr "seed", .int se), (.inr "salt", .int sa)]
structure TkAt (H : Hp) (t c : Addr) (cs : List Int) (a l se sa : Int) : Prop where
  d : H t = some (.dK (tk c a l se sa))
  cl : H c = some (.lst (cs.map V.int))
  cp : ∀ x ∈ cs, 0 ≤ x
  a0 : 0 ≤ a
  l0 : 0 ≤ l
  s0 : 0 ≤ se
  s1 : se < 2147483647
/-- a tape stands at t -/
def Tp (H : Hp) (t c : Addr) : Prop := ∃ cs a l se sa, TkAt H t c cs a l se sa
theorem TkAt.ne {H : Hp} {t c : Addr} {cs : List Int} {a l se sa : Int} (z : TkAt H t c cs a l se sa) : c ≠ t := ne_of z.cl z.d (by intro q; cases q)
theorem Tp.same {H H' : Hp} {t c : Addr} (s : Same H H') : Tp H t c → Tp H' t c := fun ⟨cs, a, l, se, sa, z⟩ => ⟨cs, a, l, se, sa, s _ _ z.d, s _ _ z.cl, z.cp, z.a0, z.l0, z.s0, z.s1⟩
theorem Tp.ne {H : Hp} {t c b : Addr} (z : Tp H t c) {o : HO} (h : H b = some o) (hn : ∀ kvs, o ≠ .dK kvs) : b ≠ t := by
  obtain ⟨cs, a, l, se, sa, z⟩ := z
  exact ne_of h z.d (hn _)
theorem Tp.nt {H : Hp} {t c b : Addr} (z : Tp H t c) (h : H b = none) : t ≠ b := by
  obtain ⟨cs, a, l, se, sa, z⟩ := z
  exact ne_of_none z.d h
theorem Tp.nc {H : Hp} {t c b : Addr} (z : Tp H t c) (h : H b = none) : c ≠ b := by
  obtain ⟨cs, a, l, se, sa, z⟩ := z
  exact ne_of_none z.cl h
theorem Tp.upd {H : Hp} {t c b : Addr} {o : HO} (z : Tp H t c) (h1 : t ≠ b) (h2 : c ≠ b) : Tp (upd H b o) t c := by
  obtain ⟨cs, a, l, se, sa, z⟩ := z
  exact ⟨cs, a, l, se, sa, by rw [upd_ne h1]; exact z.d, by rw [upd_ne h2]; exact z.cl, z.cp, z.a0, z.l0, z.s0, z.s1⟩
theorem Tp.new {H : Hp} {t c b : Addr} {o : HO} (z : Tp H t c) (h : H b = none) : Tp (L2.upd H b o) t c := z.upd (z.nt h) (z.nc h)
section
variable {c : Addr} {a l se sa v : Int}
theorem g_cells : valV (tk c a l se sa) (.inr "cells") = some (.ref c) := by kernel_rfl
theorem g_at : valV (tk c a l se sa) (.inr "at") = some (.int a) := by kernel_rfl
theorem g_left : valV (tk c a l se sa) (.inr "left") = some (.int l) := by kernel_rfl
theorem g_seed : valV (tk c a l se sa) (.inr "seed") = some (.int se) := by kernel_rfl
theorem g_salt : valV (tk c a l se sa) (.inr "salt") = some (.int sa) := by kernel_rfl
theorem p_at : putK (tk c a l se sa) (.inr "at") (.int v) = tk c v l se sa := by kernel_rfl
theorem p_left : putK (tk c a l se sa) (.inr "left") (.int v) = tk c a v se sa := by kernel_rfl
theorem p_salt : putK (tk c a l se sa) (.inr "salt") (.int v) = tk c a l se v := by kernel_rfl
theorem tk_len : (tk c a l se sa).length < sizeLine := by
  show 5 < sizeLine
  decide
end
section
variable {H : Hp} {t c : Addr} {cs : List Int} {a l se sa v : Int}
theorem TkAt.dg (z : TkAt H t c cs a l se sa) {k : Key} {x : V} (h : valV (tk c a l se sa) k = some x) : DGet H t (kV k) (some x) := h ▸ DGet.k z.d
theorem TkAt.sAt (z : TkAt H t c cs a l se sa) (hv : 0 ≤ v) : TkAt (upd H t (.dK (tk c v l se sa))) t c cs v l se sa :=
  ⟨upd_same, by rw [upd_ne z.ne]; exact z.cl, z.cp, hv, z.l0, z.s0, z.s1⟩
theorem TkAt.sLeft (z : TkAt H t c cs a l se sa) (hv : 0 ≤ v) : TkAt (upd H t (.dK (tk c a v se sa))) t c cs a v se sa :=
  ⟨upd_same, by rw [upd_ne z.ne]; exact z.cl, z.cp, z.a0, hv, z.s0, z.s1⟩
theorem TkAt.sSalt (z : TkAt H t c cs a l se sa) : TkAt (upd H t (.dK (tk c a l se v))) t c cs a l se v :=
  ⟨upd_same, by rw [upd_ne z.ne]; exact z.cl, z.cp, z.a0, z.l0, z.s0, z.s1⟩
theorem TkAt.pAt (z : TkAt H t c cs a l se sa) : DPut H t (.str "at") (.int v) (upd H t (.dK (tk c v l se sa))) := p_at (c := c) (a := a) (l := l) (se := se) (sa := sa) (v := v) ▸ DPut.k (k := .inr "at") z.d tk_len
theorem TkAt.pLeft (z : TkAt H t c cs a l se sa) : DPut H t (.str "left") (.int v) (upd H t (.dK (tk c a v se sa))) := p_left (c := c) (a := a) (l := l) (se := se) (sa := sa) (v := v) ▸ DPut.k (k := .inr "left") z.d tk_len
theorem TkAt.pSalt (z : TkAt H t c cs a l se sa) : DPut H t (.str "salt") (.int v) (upd H t (.dK (tk c a l se v))) := p_salt (c := c) (a := a) (l := l) (se := se) (sa := sa) (v := v) ▸ DPut.k (k := .inr "salt") z.d tk_len
end

/-! ### texts -/
/-- a sign that may stand in a text -/
def okc (c : Nat) : Bool := c == 10 || (decide (32 ≤ c) && decide (c ≤ 126) && c != 37)
def OkT (z : Str) : Prop := ∀ c ∈ z.cps.toList, okc c = true
def okT (z : Str) : Bool := z.cps.toList.all okc
theorem OkT.of {z : Str} (h : okT z = true) : OkT z := List.all_eq_true.mp h
theorem OkT.append {x y : Str} (a : OkT x) (b : OkT y) : OkT (x ++ y) := fun c h => by
  rw [show (x ++ y).cps.toList = x.cps.toList ++ y.cps.toList from TL.tl_append x y] at h
  rcases List.mem_append.mp h with h | h
  · exact a c h
  · exact b c h
theorem joinL_nil : ∀ l : List (List Nat), TL.joinL [] l = l.flatten
  | [] => rfl
  | [p] => by simp [TL.joinL]
  | p :: q :: r => by
    show p ++ ([] ++ TL.joinL [] (q :: r)) = _
    rw [joinL_nil (q :: r), List.nil_append] <;> rfl
theorem tl_join0 (y : Str) (hy : TL.tl y = []) (l : List Str) : TL.tl (Txt.join y l) = (l.map TL.tl).flatten := by
  rw [TL.join_eq, TL.tl_join, hy, joinL_nil]
theorem OkT.join {y : Str} (hy : TL.tl y = []) {l : List Str} (h : ∀ z ∈ l, OkT z) : OkT (Txt.join y l) := fun c hc => by
  rw [show (Txt.join y l).cps.toList = (l.map TL.tl).flatten from tl_join0 y hy l] at hc
  obtain ⟨m, hm, hc⟩ := List.mem_flatten.mp hc
  obtain ⟨z, hz, rfl⟩ := List.mem_map.mp hm
  exact h z hz c hc
theorem sum_len_le {n : Nat} : ∀ {l : List Str}, (∀ z ∈ l, z.length ≤ n) → (l.map (·.length)).sum ≤ n * l.length
  | [], _ => by simp
  | z :: r, h => by
    have ih := sum_len_le (l := r) fun y hy => h y (List.mem_cons_of_mem _ hy)
    have h0 := h z List.mem_cons_self
    rw [List.map_cons, List.sum_cons, List.length_cons, Nat.mul_add]
    omega
theorem flat_len : ∀ l : List Str, ((l.map TL.tl).flatten).length = (l.map (·.length)).sum
  | [] => rfl
  | z :: r => by
    rw [List.map_cons, List.flatten_cons, List.length_append, flat_len r, List.map_cons, List.sum_cons, TL.len_tl z]
theorem join_len (y : Str) (hy : TL.tl y = []) (l : List Str) : (Txt.join y l).length = (l.map (·.length)).sum := by
  rw [TL.len_tl, tl_join0 y hy, flat_len]
theorem small {n : Nat} (h : n ≤ 1000000) : n ≤ sizeLine := Nat.le_trans h (by decide)

/-! ### data that are equal -/
def sca : V → Bool
  | .non => true
  | .bl _ => true
  | .int _ => true
  | .str _ => true
  | _ => false
def Al (H : Hp) : Nat → V → V → Prop
  | 0, _, _ => False
  | n + 1, x, y => (x = y ∧ sca x = true) ∨
    (∃ a b xs ys, x = .ref a ∧ y = .ref b ∧ H a = some (.tup xs) ∧ H b = some (.tup ys) ∧ xs.length = ys.length ∧ xs.length ≤ 1000000 ∧ ∀ (i : Nat) (u v : V), xs[i]? = some u → ys[i]? = some v → Al H n u v) ∨
    (∃ a b xs ys, x = .ref a ∧ y = .ref b ∧ H a = some (.lst xs) ∧ H b = some (.lst ys) ∧ xs.length = ys.length ∧ xs.length ≤ 1000000 ∧ ∀ (i : Nat) (u v : V), xs[i]? = some u → ys[i]? = some v → Al H n u v)
theorem Al.sc {H : Hp} {n : Nat} {x : V} (h : sca x = true) : Al H (n + 1) x x := .inl ⟨rfl, h⟩
theorem Al.same {H H' : Hp} (s : Same H H') : ∀ {n : Nat} {x y : V}, Al H n x y → Al H' n x y
  | 0, _, _, h => h
  | n + 1, x, y, h => by
    rcases h with h | ⟨a, b, xs, ys, e1, e2, h1, h2, hl, hm, h⟩ | ⟨a, b, xs, ys, e1, e2, h1, h2, hl, hm, h⟩
    · exact .inl h
    · exact .inr (.inl ⟨a, b, xs, ys, e1, e2, s _ _ h1, s _ _ h2, hl, hm, fun i u v p q => Al.same s (h i u v p q)⟩)
    · exact .inr (.inr ⟨a, b, xs, ys, e1, e2, s _ _ h1, s _ _ h2, hl, hm, fun i u v p q => Al.same s (h i u v p q)⟩)
theorem Al.tup {H : Hp} {n : Nat} {a b : Addr} {xs ys : List V} (h1 : H a = some (.tup xs)) (h2 : H b = some (.tup ys)) (hl : xs.length = ys.length) (hm : xs.length ≤ 1000000) (h : ∀ (i : Nat) (u v : V), xs[i]? = some u → ys[i]? = some v → Al H n u v) : Al H (n + 1) (.ref a) (.ref b) :=
  .inr (.inl ⟨a, b, xs, ys, rfl, rfl, h1, h2, hl, hm, h⟩)
theorem Al.lst {H : Hp} {n : Nat} {a b : Addr} {xs ys : List V} (h1 : H a = some (.lst xs)) (h2 : H b = some (.lst ys)) (hl : xs.length = ys.length) (hm : xs.length ≤ 1000000) (h : ∀ (i : Nat) (u v : V), xs[i]? = some u → ys[i]? = some v → Al H n u v) : Al H (n + 1) (.ref a) (.ref b) :=
  .inr (.inr ⟨a, b, xs, ys, rfl, rfl, h1, h2, hl, hm, h⟩)
/-- two tuples (lists) of the same plain values -/
theorem al_eq {H : Hp} {n : Nat} {xs : List V} (h : xs.all sca = true) : ∀ (i : Nat) (u v : V), xs[i]? = some u → xs[i]? = some v → Al H (n + 1) u v := fun i u v p q => by
  have e : u = v := Option.some.inj (p.symm.trans q)
  subst e
  exact Al.sc (List.all_eq_true.mp h u (List.mem_of_getElem? p))

/-! ### tests -/
theorem iteP {p A B : Prop} [Decidable p] (hp : p) (h : A) : if decide p = true then A else B := by
  rw [if_pos (decide_eq_true hp)]
  exact h
theorem iteN {p A B : Prop} [Decidable p] (hp : ¬ p) (h : B) : if decide p = true then A else B := by
  rw [if_neg (by rw [decide_eq_false hp]; exact Bool.false_ne_true)]
  exact h
theorem iteNN {p A B : Prop} [Decidable p] (hp : ¬ p) (h : A) : if (!decide p) = true then A else B := by
  rw [decide_eq_false hp]
  exact iteT h
theorem qP {p : Prop} [Decidable p] {Q : VK} {H : Hp} (hp : p) (h : Q (.bl true) H) : Q (.bl (decide p)) H := by
  rw [decide_eq_true hp]
  exact h
theorem none_left {P : Program} {w : World} {K : PySem.W.Frag} {mg : Str → Option Value} {base : Heap} {f : Addr} {fd : FuncData} {ps : List Str} {sp : Sp} (no : ∀ vs H Q E, ¬ sp vs H Q E) : FnOk P w K mg base CX0 0 f fd ps sp :=
  ⟨fun vs H Q E h => absurd h (no vs H Q E), fun A outer s H args us vs Q E _ _ _ _ h => absurd h (no vs H Q E)⟩

/-! ### promises of the law's own helpers -/
def spTape (K : PySem.W.Frag) : Sp := fun vs H Q _ => ∃ (a : Addr) (ns : List Int), vs = [.ref a] ∧ SqL K H a (ns.map V.int) ∧ ns.length ≤ 63 ∧ ∀ t c H', Same H H' → H t = none → H c = none → Tp H' t c → Q (.ref t) H'
def spTake : Sp := fun vs H Q _ => ∃ (t c : Addr) (n : Int), vs = [.ref t, .int n] ∧ Tp H t c ∧ 0 < n ∧ n < 1073741824 ∧ ∀ (r : Int) H', 0 ≤ r → r < n → But t H H' → Tp H' t c → Q (.int r) H'
def spIsInt : Sp := fun vs H Q _ => ∃ i : Int, vs = [.int i] ∧ Q (.bl true) H
def spSame (n : Nat) : Sp := fun vs H Q _ => ∃ x y, vs = [x, y] ∧ Al H n x y ∧ Q (.bl true) H
def spItems (n : Nat) : Sp := fun vs H Q _ => ∃ a b xs ys, vs = [.ref a, .ref b] ∧ ((H a = some (.tup xs) ∧ H b = some (.tup ys)) ∨ (H a = some (.lst xs) ∧ H b = some (.lst ys))) ∧ xs.length = ys.length ∧ xs.length ≤ 1000000 ∧
  (∀ (i : Nat) (u v : V), xs[i]? = some u → ys[i]? = some v → Al H n u v) ∧ Q (.bl true) H
def spSnippet : Sp := fun vs H Q _ => ∃ t c, vs = [.ref t] ∧ Tp H t c ∧ ∀ z H', OkT z → z.length ≤ 45 → But t H H' → Tp H' t c → Q (.str z) H'
def spChar : Sp := fun vs H Q _ => ∃ t c, vs = [.ref t] ∧ Tp H t c ∧ ∀ z H', OkT z → z.length = 1 → But t H H' → Tp H' t c → Q (.str z) H'
def spAny : Sp := fun vs H Q _ => ∃ (t c : Addr) (m : Nat), vs = [.ref t, .int m] ∧ Tp H t c ∧ m ≤ 100 ∧ ∀ z H', OkT z → z.length ≤ 45 * m → But t H H' → Tp H' t c → Q (.str z) H'

/-! ### a text walked sign by sign -/
theorem for_str {x : Str} {g : TG} {tb : TS} {D : Ends} {σ : L2.St} {H : Hp} (Pv : Nat → L2.St → Hp → Prop) (h0 : Pv 0 σ H)
    (hs : ∀ i c σ H, x.cps.toList[i]? = some c → Pv i σ H → g (.str ⟨#[c]⟩) σ H fun σ2 H2 => tb { D with nx := Pv (i + 1), ct := Pv (i + 1), bk := D.nx } σ2 H2) (hd : ∀ σ H, Pv x.cps.toList.length σ H → D.nx σ H) :
    ∃ W : Nat → Nat → L2.St → Hp → Prop, (∃ m, W 0 m σ H) ∧ ∀ i m σ H, W i m σ H →
      ((Its x).stop i H ∧ D.nx σ H) ∨ ((Its x).go i H ∧ ∃ Nx : L2.St → Hp → Prop, (∀ σ' H', Nx σ' H' → ∃ m', m' < m ∧ W (i + 1) m' σ' H') ∧ ∀ y H', (Its x).yld i H y H' → g y σ H' fun σ2 H2 => tb { D with nx := Nx, ct := Nx, bk := D.nx } σ2 H2) := by
  refine ⟨fun i m σ H => m = x.cps.toList.length - i ∧ i ≤ x.cps.toList.length ∧ Pv i σ H, ⟨x.cps.toList.length, by simp, Nat.zero_le _, h0⟩, ?_⟩
  rintro i m σ H ⟨rfl, hi, p⟩
  have hsz : x.cps.toList.length = x.cps.size := Array.length_toList
  by_cases hlt : i < x.cps.toList.length
  · refine .inr ⟨by show i < x.cps.size; omega, Pv (i + 1), fun σ' H' p' => ⟨x.cps.toList.length - (i + 1), by omega, rfl, hlt, p'⟩, fun y H' z => ?_⟩
    obtain ⟨e, c, hc, z⟩ := z
    subst e z
    exact hs i c σ _ (by rw [Array.getElem?_toList]; exact hc) p
  · have e : i = x.cps.toList.length := by omega
    subst e
    exact .inl ⟨by show x.cps.size ≤ _; omega, hd σ H p⟩
/-! ### a while by an invariant and a measure -/
theorem while_m {c : TT} {tb : TS} {D : Ends} {σ : L2.St} {H : Hp} (Pv : L2.St → Hp → Prop) (μ : L2.St → Hp → Nat) (h0 : Pv σ H)
    (hs : ∀ σ H, Pv σ H → c σ H fun b H1 => if b = true then ∃ N : L2.St → Hp → Prop, (∀ σ' H', N σ' H' → ∃ m', m' < μ σ H ∧ m' = μ σ' H' ∧ Pv σ' H') ∧ tb { D with nx := N, ct := N, bk := D.nx } σ H1 else D.nx σ H1) : tWhile c tb D σ H :=
  ⟨fun m σ H => m = μ σ H ∧ Pv σ H, ⟨_, rfl, h0⟩, fun m σ H h => by
    obtain ⟨rfl, p⟩ := h
    exact hs σ H p⟩
theorem wN {Pv : L2.St → Hp → Prop} {μ : L2.St → Hp → Nat} {k : Nat} {tb : TS} {D : Ends} {σ : L2.St} {H1 : Hp} (h : tb { D with nx := fun σ' H' => Pv σ' H' ∧ μ σ' H' < k, ct := fun σ' H' => Pv σ' H' ∧ μ σ' H' < k, bk := D.nx } σ H1) :
    ∃ N : L2.St → Hp → Prop, (∀ σ' H', N σ' H' → ∃ m', m' < k ∧ m' = μ σ' H' ∧ Pv σ' H') ∧ tb { D with nx := N, ct := N, bk := D.nx } σ H1 := ⟨_, fun _ _ n => ⟨_, n.2, rfl, n.1⟩, h⟩
def spLaw (K : PySem.W.Frag) : Sp := fun vs H Q _ => ∃ (a : Addr) (ns : List Int), vs = [.ref a] ∧ SqL K H a (ns.map V.int) ∧ ns.length ≤ 63 ∧ ∀ H', Q (.bl true) H'
end Sn

/-! Mathematics of texts: counting a sign, the last one, lines, cuts. -/
namespace Sn
open PySem PySem.Spec PyProof.Rows L2 PySem.StrLaws PySem.Builtin.Str TL
abbrev strL (l : List Nat) : Str := ⟨l.toArray⟩
/-! ### cuts -/
theorem tl_cut (z : Str) (lo hi : Option Int) : tl (cutS z lo hi) = ((tl z).drop (HT.sIx z.length 0 lo)).take (HT.sIx z.length z.length hi - HT.sIx z.length 0 lo) := rfl
theorem tl_cut_to (z : Str) (o : Nat) : tl (cutS z none (some (o : Int))) = (tl z).take o := by
  rw [tl_cut, HT.sIx_none, HT.sIx_nat, List.drop_zero, Nat.sub_zero, len_tl, List.take_eq_take_iff]
  omega
theorem tl_cut_from (z : Str) (o : Nat) : tl (cutS z (some (o : Int)) none) = (tl z).drop o := by
  rw [tl_cut, HT.sIx_none, HT.sIx_nat, len_tl]
  by_cases h : o ≤ (tl z).length
  · rw [Nat.min_eq_left h, List.take_of_length_le (by rw [List.length_drop] <;> omega)]
  · rw [Nat.min_eq_right (by omega), Nat.sub_self, List.take_zero, List.drop_eq_nil_of_le (by omega)]
theorem tl_cut_mid (z : Str) (a b : Nat) (h : a ≤ (tl z).length) : tl (cutS z (some (a : Int)) (some (b : Int))) = ((tl z).drop a).take (b - a) := by
  rw [tl_cut, HT.sIx_nat, HT.sIx_nat, len_tl, Nat.min_eq_left h, List.take_eq_take_iff, List.length_drop]
  omega
theorem len_eq (z : Str) : z.length = (tl z).length := len_tl z
/-! ### counting one sign -/
theorem drop_take_cons {l : List Nat} {a hi : Nat} (h : a < hi) (hl : hi ≤ l.length) : ∃ (h2 : a < l.length), (l.take hi).drop a = l[a] :: (l.take hi).drop (a + 1) := by
  have h2 : a < (l.take hi).length := by rw [List.length_take]; omega
  refine ⟨by omega, ?_⟩
  rw [List.drop_eq_getElem_cons h2, List.getElem_take]
theorem drop_take_nil {l : List Nat} {a hi : Nat} (h : hi ≤ a) : (l.take hi).drop a = [] := List.drop_eq_nil_of_le (by rw [List.length_take]; omega)
theorem occ_cnt (x : Str) (c hi limit : Nat) (hhi : hi ≤ (tl x).length) : ∀ (m a : Nat) (st : Array Nat × Nat), st.2 ≤ a → st.1.size + m ≤ limit → a + m = hi + 1 →
    (forIn (List.range' a m) st (occBody x ⟨#[c]⟩ hi limit)).run.fst.size = st.1.size + (((tl x).take hi).drop a).count c
  | 0, a, st, _, _, e => by
    rw [drop_take_nil (by omega)]
    rfl
  | m + 1, a, st, hf, hl, e => by
    have one : ∀ i, (i + (⟨#[c]⟩ : Str).length ≤ hi ∧ subAt x ⟨#[c]⟩ i = true) ↔ i < hi ∧ (tl x)[i]? = some c := fun i => by
      have k := subAt_one x c i
      have hx : x.length = (tl x).length := len_tl x
      have h1 : (⟨#[c]⟩ : Str).length = 1 := rfl
      constructor
      · intro h
        have z := k.mp ⟨by omega, h.2⟩
        exact ⟨by omega, z⟩
      · intro h
        have z := k.mpr h.2
        exact ⟨by omega, z.2⟩
    rw [List.range'_succ, List.forIn_cons]
    unfold occBody
    by_cases ha : a < hi
    · obtain ⟨h2, e2⟩ := drop_take_cons ha hhi
      rw [e2, List.count_cons]
      by_cases hc : (tl x)[a] = c
      · have k := (one a).mpr ⟨ha, by rw [List.getElem?_eq_getElem h2, hc]⟩
        rw [if_pos ⟨⟨⟨by omega, hf⟩, k.1⟩, k.2⟩]
        have ih := occ_cnt x c hi limit hhi m (a + 1) (st.1.push a, a + (⟨#[c]⟩ : Str).length) (Nat.le_refl _) (by show (st.1.push a).size + m ≤ limit; rw [Array.size_push]; omega) (by omega)
        have e3 : (st.1.push a).size = st.1.size + 1 := Array.size_push ..
        show (forIn (List.range' (a + 1) m) (st.1.push a, a + (⟨#[c]⟩ : Str).length) (occBody x ⟨#[c]⟩ hi limit)).run.fst.size = _
        rw [ih, e3, hc]
        simp
        omega
      · have k : ¬ ((((st.1.size < limit ∧ st.2 ≤ a) ∧ a + (⟨#[c]⟩ : Str).length ≤ hi) ∧ subAt x ⟨#[c]⟩ a = true)) := fun h => by
          have z := (one a).mp ⟨h.1.2, h.2⟩
          rw [List.getElem?_eq_getElem h2] at z
          exact hc (Option.some.inj z.2)
        rw [if_neg k]
        have ih := occ_cnt x c hi limit hhi m (a + 1) (st.1, st.2) (by show st.2 ≤ a + 1; omega) (by show st.1.size + m ≤ limit; omega) (by omega)
        show (forIn (List.range' (a + 1) m) (st.1, st.2) (occBody x ⟨#[c]⟩ hi limit)).run.fst.size = _
        rw [ih]
        have e4 : ((tl x)[a] == c) = false := beq_eq_false_iff_ne.mpr hc
        rw [e4, if_neg Bool.false_ne_true]
        rfl
    · have k : ¬ ((((st.1.size < limit ∧ st.2 ≤ a) ∧ a + (⟨#[c]⟩ : Str).length ≤ hi) ∧ subAt x ⟨#[c]⟩ a = true)) := fun h => by
        have z := (one a).mp ⟨h.1.2, h.2⟩
        omega
      rw [if_neg k]
      have em : m = 0 := by omega
      subst em
      rw [drop_take_nil (by omega)]
      rfl
theorem occ_count (x : Str) (c hi : Nat) (hhi : hi ≤ (tl x).length) : (occurrences x ⟨#[c]⟩ 0 hi (x.length + 1)).length = ((tl x).take hi).count c := by
  rw [occ_eq, Array.length_toList]
  have k := occ_cnt x c hi (x.length + 1) hhi (hi + 1 - 0) 0 (#[], 0) (Nat.le_refl _) (by show 0 + (hi + 1 - 0) ≤ x.length + 1; rw [len_tl]; omega) (by omega)
  rw [k, List.drop_zero]
  show 0 + _ = _
  omega
theorem count_all (x : Str) (c : Nat) : Txt.count x ⟨#[c]⟩ = (((tl x).count c : Nat) : Int) := by
  show (((occurrences x ⟨#[c]⟩ 0 x.length (x.length + 1)).length : Nat) : Int) = _
  rw [occ_count x c x.length (by rw [len_tl]; exact Nat.le_refl _), len_tl, List.take_length]
theorem toW (n o : Nat) (h : o ≤ n) : toIndexW n (o : Int) = o := by
  unfold toIndexW
  rw [if_neg (by omega)]
  omega
theorem fromI (n o : Nat) : fromIndex n (o : Int) = o := by
  unfold fromIndex
  rw [if_neg (by omega)]
  omega
theorem count_in (x : Str) (c o : Nat) (h : o ≤ (tl x).length) : Txt.countIn x ⟨#[c]⟩ 0 (o : Int) = ((((tl x).take o).count c : Nat) : Int) := by
  unfold Txt.countIn
  rw [toW _ _ (by rw [len_tl]; exact h), show fromIndex x.length 0 = 0 from fromI x.length 0, occ_count x c o h]
/-! ### the last newline -/
/-- how many signs stand behind the last c, k of them ahead -/
def colF (c k : Nat) : List Nat → Nat
  | [] => k
  | d :: r => if d = c then colF c 0 r else colF c (k + 1) r
theorem colF_snoc (c d : Nat) : ∀ (l : List Nat) (k : Nat), colF c k (l ++ [d]) = if d = c then 0 else colF c k l + 1
  | [], k => by
    show (if d = c then colF c 0 [] else colF c (k + 1) []) = _
    rfl
  | e :: r, k => by
    show (if e = c then colF c 0 (r ++ [d]) else colF c (k + 1) (r ++ [d])) = _
    rw [colF_snoc c d r 0, colF_snoc c d r (k + 1)]
    by_cases h : e = c
    · rw [if_pos h]
      show _ = if d = c then 0 else (if e = c then colF c 0 r else colF c (k + 1) r) + 1
      rw [if_pos h]
    · rw [if_neg h]
      show _ = if d = c then 0 else (if e = c then colF c 0 r else colF c (k + 1) r) + 1
      rw [if_neg h]
theorem colF_le (c : Nat) : ∀ (l : List Nat) (k : Nat), colF c k l ≤ k + l.length
  | [], k => Nat.le_refl _
  | e :: r, k => by
    show (if e = c then colF c 0 r else colF c (k + 1) r) ≤ k + (r.length + 1)
    have h0 := colF_le c r 0
    have h1 := colF_le c r (k + 1)
    split <;> omega
def valO : Option Nat → Nat
  | none => 0
  | some k => k + 1
theorem last_col (x : Str) (c hi : Nat) (hhi : hi ≤ (tl x).length) : ∀ (m a : Nat) (st : Option Nat), valO st ≤ a → a + m = hi + 1 → a ≤ hi →
    valO (forIn (List.range' a m) st (lastBody x ⟨#[c]⟩ hi)).run ≤ hi ∧ hi - valO (forIn (List.range' a m) st (lastBody x ⟨#[c]⟩ hi)).run = colF c (a - valO st) (((tl x).take hi).drop a)
  | 0, a, st, _, e, _ => by omega
  | m + 1, a, st, hf, e, hah => by
    have one : ∀ i, (i + (⟨#[c]⟩ : Str).length ≤ hi ∧ subAt x ⟨#[c]⟩ i = true) ↔ i < hi ∧ (tl x)[i]? = some c := fun i => by
      have k := subAt_one x c i
      have hx : x.length = (tl x).length := len_tl x
      have h1 : (⟨#[c]⟩ : Str).length = 1 := rfl
      constructor
      · intro h
        have z := k.mp ⟨by omega, h.2⟩
        exact ⟨by omega, z⟩
      · intro h
        have z := k.mpr h.2
        exact ⟨by omega, z.2⟩
    rw [List.range'_succ, List.forIn_cons]
    unfold lastBody
    by_cases ha : a < hi
    · obtain ⟨h2, e2⟩ := drop_take_cons ha hhi
      rw [e2]
      by_cases hc : (tl x)[a] = c
      · have k := (one a).mpr ⟨ha, by rw [List.getElem?_eq_getElem h2, hc]⟩
        rw [if_pos k]
        have ih := last_col x c hi hhi m (a + 1) (some a) (Nat.le_refl _) (by omega) (by omega)
        show valO (forIn (List.range' (a + 1) m) (some a) (lastBody x ⟨#[c]⟩ hi)).run ≤ hi ∧ hi - valO (forIn (List.range' (a + 1) m) (some a) (lastBody x ⟨#[c]⟩ hi)).run = if (tl x)[a] = c then _ else _
        rw [if_pos hc]
        have e5 : a + 1 - valO (some a) = 0 := by
          show a + 1 - (a + 1) = 0
          omega
        rw [e5] at ih
        exact ih
      · have k : ¬ (a + (⟨#[c]⟩ : Str).length ≤ hi ∧ subAt x ⟨#[c]⟩ a = true) := fun h => by
          have z := (one a).mp h
          rw [List.getElem?_eq_getElem h2] at z
          exact hc (Option.some.inj z.2)
        rw [if_neg k]
        have ih := last_col x c hi hhi m (a + 1) st (by omega) (by omega) (by omega)
        show valO (forIn (List.range' (a + 1) m) st (lastBody x ⟨#[c]⟩ hi)).run ≤ hi ∧ hi - valO (forIn (List.range' (a + 1) m) st (lastBody x ⟨#[c]⟩ hi)).run = if (tl x)[a] = c then _ else _
        rw [if_neg hc]
        have e5 : a + 1 - valO st = a - valO st + 1 := by omega
        rw [e5] at ih
        exact ih
    · have k : ¬ (a + (⟨#[c]⟩ : Str).length ≤ hi ∧ subAt x ⟨#[c]⟩ a = true) := fun h => by
        have z := (one a).mp h
        omega
      rw [if_neg k]
      have em : m = 0 := by omega
      subst em
      rw [drop_take_nil (by omega)]
      show valO st ≤ hi ∧ hi - valO st = a - valO st
      omega
/-- x.rfind(c, 0, o) + 1 is where the last line of x[:o] begins -/
theorem rfind_col (x : Str) (c o : Nat) (h : o ≤ (tl x).length) : ∃ b : Nat, Txt.rfindIn x ⟨#[c]⟩ 0 (o : Int) + 1 = (b : Int) ∧ b ≤ o ∧ o - b = colF c 0 ((tl x).take o) := by
  unfold Txt.rfindIn
  rw [toW _ _ (by rw [len_tl]; exact h), show fromIndex x.length 0 = 0 from fromI x.length 0, last_eq]
  have k := last_col x c o h (o + 1 - 0) 0 none (Nat.le_refl _) (by omega) (Nat.zero_le _)
  rw [List.drop_zero] at k
  refine ⟨_, ?_, k.1, k.2⟩
  cases (forIn (List.range' 0 (o + 1 - 0)) none (lastBody x ⟨#[c]⟩ o)).run with
  | none => rfl
  | some j => rfl
/-! ### lines -/
def rows (c : Nat) : List Nat → List Nat → List (List Nat)
  | acc, [] => [acc]
  | acc, d :: r => if d = c then acc :: rows c [] r else rows c (acc ++ [d]) r
theorem spl_rows (c : Nat) : ∀ (l acc : List Nat), spl [c] 0 acc l = rows c acc l
  | [], acc => by rw [spl_nil]; rfl
  | d :: r, acc => by
    by_cases h : d = c
    · have p : TL.pre [c] (d :: r) = true := by rw [h]; simp [TL.pre]
      rw [spl_hit p]
      show acc :: spl [c] 0 [] r = if d = c then _ else _
      rw [if_pos h, spl_rows c r []]
    · have p : TL.pre [c] (d :: r) = false := pre_of_head [] r h
      rw [spl_miss p, spl_rows c r (acc ++ [d])]
      show _ = if d = c then _ else _
      rw [if_neg h]
theorem split_rows (x : Str) (c : Nat) (hc : c < 256) : (Txt.split x ⟨#[c]⟩).map tl = rows c [] (tl x) := by
  rw [split_spl x ⟨#[c]⟩ (by show [c] ≠ []; simp) (kind_ok (by simp [hc]))]
  exact spl_rows c (tl x) []
theorem rows_len (c : Nat) : ∀ (l acc : List Nat), (rows c acc l).length = l.count c + 1
  | [], acc => rfl
  | d :: r, acc => by
    show (if d = c then acc :: rows c [] r else rows c (acc ++ [d]) r).length = _
    rw [List.count_cons]
    by_cases h : d = c
    · rw [if_pos h, List.length_cons, rows_len c r []]
      simp [h]
    · have h' : (d == c) = false := by simpa using h
      rw [if_neg h, rows_len c r]
      simp [h']
/-- the lengths of lines with their newlines -/
def lens (rs : List (List Nat)) : Nat := (rs.map fun r => r.length + 1).sum
theorem rows_at (c : Nat) : ∀ (l acc : List Nat) (o : Nat), o ≤ l.length → ∃ row, (rows c acc l)[(l.take o).count c]? = some row ∧ colF c acc.length (l.take o) ≤ row.length ∧
    lens ((rows c acc l).take ((l.take o).count c)) + colF c acc.length (l.take o) = acc.length + o
  | l, acc, 0, _ => by
    rw [List.take_zero]
    show ∃ row, (rows c acc l)[0]? = some row ∧ acc.length ≤ row.length ∧ lens ((rows c acc l).take 0) + acc.length = acc.length + 0
    have : ∀ (l acc : List Nat), ∃ row, (rows c acc l)[0]? = some row ∧ acc.length ≤ row.length := by
      intro l
      induction l with
      | nil => exact fun acc => ⟨acc, rfl, Nat.le_refl _⟩
      | cons d r ih =>
        intro acc
        show ∃ row, (if d = c then acc :: rows c [] r else rows c (acc ++ [d]) r)[0]? = some row ∧ _
        by_cases h : d = c
        · rw [if_pos h]
          exact ⟨acc, rfl, Nat.le_refl _⟩
        · rw [if_neg h]
          obtain ⟨row, h1, h2⟩ := ih (acc ++ [d])
          rw [List.length_append] at h2
          exact ⟨row, h1, by omega⟩
    obtain ⟨row, h1, h2⟩ := this l acc
    refine ⟨row, h1, h2, ?_⟩
    rw [List.take_zero]
    show 0 + acc.length = acc.length + 0
    omega
  | [], acc, o + 1, h => absurd h (by simp)
  | d :: r, acc, o + 1, h => by
    have ho : o ≤ r.length := by simpa using h
    rw [List.take_succ_cons, List.count_cons]
    by_cases e : d = c
    · subst e
      have ih := rows_at d r [] o ho
      obtain ⟨row, h1, h2, h3⟩ := ih
      have er : rows d acc (d :: r) = acc :: rows d [] r := by
        show (if d = d then _ else _) = _
        rw [if_pos rfl]
      have ec : colF d acc.length (d :: r.take o) = colF d 0 (r.take o) := by
        show (if d = d then _ else _) = _
        rw [if_pos rfl]
      rw [er, ec]
      simp only [beq_self_eq_true, if_true]
      refine ⟨row, by rw [List.getElem?_cons_succ]; exact h1, h2, ?_⟩
      rw [List.take_succ_cons]
      show (acc.length + 1) + lens _ + _ = _
      simp only [List.length_nil] at h3
      unfold lens at h3 ⊢
      omega
    · have er : rows c acc (d :: r) = rows c (acc ++ [d]) r := by
        show (if d = c then _ else _) = _
        rw [if_neg e]
      have ec : colF c acc.length (d :: r.take o) = colF c (acc.length + 1) (r.take o) := by
        show (if d = c then _ else _) = _
        rw [if_neg e]
      have eb : (d == c) = false := by simpa using e
      have ih := rows_at c r (acc ++ [d]) o ho
      rw [er, ec]
      simp only [eb, Bool.false_eq_true, if_false, Nat.add_zero]
      obtain ⟨row, h1, h2, h3⟩ := ih
      rw [List.length_append, List.length_singleton] at h2 h3
      exact ⟨row, h1, h2, by omega⟩
theorem join_lens (y : List Nat) (hy : y.length = 1) : ∀ rs : List (List Nat), rs ≠ [] → (joinL y rs).length + 1 = lens rs
  | [], h => absurd rfl h
  | [p], _ => by
    show p.length + 1 = (p.length + 1) + 0
    omega
  | p :: q :: r, _ => by
    show (p ++ (y ++ joinL y (q :: r))).length + 1 = (p.length + 1) + lens (q :: r)
    have ih := join_lens y hy (q :: r) (by simp)
    rw [List.length_append, List.length_append]
    omega
end Sn

/-! Mathematics of tokens. -/
namespace Sn
open PySem PySem.Spec PyProof.Rows L2 TL PySem.StrLaws PySem.Builtin.Str
/-! ### runs -/
def run (p : Nat → Bool) (l : List Nat) (i : Nat) : Nat := i + ((l.drop i).takeWhile p).length
theorem run_step {p : Nat → Bool} {l : List Nat} {i c : Nat} (h : l[i]? = some c) (hp : p c = true) : run p l i = run p l (i + 1) := by
  obtain ⟨hi, e⟩ := List.getElem?_eq_some_iff.mp h
  unfold run
  rw [List.drop_eq_getElem_cons hi, e, List.takeWhile_cons, if_pos hp, List.length_cons]
  omega
theorem run_stop {p : Nat → Bool} {l : List Nat} {i c : Nat} (h : l[i]? = some c) (hp : p c = false) : run p l i = i := by
  obtain ⟨hi, e⟩ := List.getElem?_eq_some_iff.mp h
  unfold run
  rw [List.drop_eq_getElem_cons hi, e, List.takeWhile_cons, if_neg (by rw [hp]; exact Bool.false_ne_true)]
  rfl
theorem run_end {p : Nat → Bool} {l : List Nat} {i : Nat} (h : l.length ≤ i) : run p l i = i := by
  unfold run
  rw [List.drop_eq_nil_of_le h]
  rfl
theorem run_ge (p : Nat → Bool) (l : List Nat) (i : Nat) : i ≤ run p l i := Nat.le_add_right _ _
theorem run_le {p : Nat → Bool} {l : List Nat} {i : Nat} (h : i ≤ l.length) : run p l i ≤ l.length := by
  unfold run
  have := (List.takeWhile_prefix (l := l.drop i) p).length_le
  rw [List.length_drop] at this
  omega
theorem run_at {p : Nat → Bool} {l : List Nat} : ∀ (m i a : Nat), a = i + m → (∀ k c, i ≤ k → k < a → l[k]? = some c → p c = true) → a ≤ l.length → (∀ c, l[a]? = some c → p c = false) → run p l i = a
  | 0, i, a, e, _, hl, hs => by
    have e : a = i := e
    subst e
    cases h : l[a]? with
    | none => exact run_end (List.getElem?_eq_none_iff.mp h)
    | some c => exact run_stop h (hs c h)
  | m + 1, i, a, e, hr, hl, hs => by
    have hi : i < l.length := by omega
    have hg := List.getElem?_eq_getElem hi
    rw [run_step hg (hr i _ (Nat.le_refl _) (by omega) hg)]
    exact run_at m (i + 1) a (by omega) (fun k c h1 h2 h3 => hr k c (by omega) h2 h3) hl hs
theorem run_in {p : Nat → Bool} {l : List Nat} : ∀ (m i : Nat), l.length = i + m → ∀ k c, i ≤ k → k < run p l i → l[k]? = some c → p c = true
  | 0, i, e, k, c, h1, h2, h3 => by
    rw [run_end (by omega)] at h2
    omega
  | m + 1, i, e, k, c, h1, h2, h3 => by
    have hi : i < l.length := by omega
    have hg := List.getElem?_eq_getElem hi
    by_cases hp : p l[i] = true
    · rw [run_step hg hp] at h2
      by_cases hk : k = i
      · subst hk
        rw [hg] at h3
        rw [← Option.some.inj h3]
        exact hp
      · exact run_in m (i + 1) (by omega) k c (by omega) h2 h3
    · rw [run_stop hg (Bool.eq_false_iff.mpr hp)] at h2
      omega
/-! ### signs -/
def isL (c : Nat) : Bool := (decide (97 ≤ c) && decide (c ≤ 122)) || (decide (65 ≤ c) && decide (c ≤ 90))
def isD (c : Nat) : Bool := decide (48 ≤ c) && decide (c ≤ 57)
def isW (c : Nat) : Bool := isL c || (isD c || c == 95)
def wds : List Str := ["\x69mport", "data", "trait", "with", "impl", "for", "def", "let", "in", "if", "then", "else", "loop", "times", "do", "not", "and", "or", "True", "False"]
def sgs : Str := "()[],:.=<+-*/"
/-- x.find(c, o): the end of the run of other signs, or -1 -/
theorem find_run (x : Str) (c o : Nat) (ho : o ≤ (tl x).length) : Txt.find3 x ⟨#[c]⟩ (o : Int) = if run (fun d => d != c) (tl x) o < (tl x).length then ((run (fun d => d != c) (tl x) o : Nat) : Int) else -1 := by
  have hx : x.length = (tl x).length := len_tl x
  have one : ∀ i, At x ⟨#[c]⟩ x.length i ↔ (tl x)[i]? = some c := fun i => subAt_one x c i
  have hf : fromIndex x.length (o : Int) = o := fromI _ _
  have h3 : Txt.find3 x ⟨#[c]⟩ (o : Int) = (match occurrences x ⟨#[c]⟩ o x.length 1 with | k :: _ => (k : Int) | [] => -1) := by
    show (match occurrences x ⟨#[c]⟩ (fromIndex x.length (o : Int)) x.length 1 with | k :: _ => (k : Int) | [] => -1) = _
    rw [hf]
  rw [h3, occ_eq]
  rcases occ_first x ⟨#[c]⟩ x.length 1 (Nat.le_refl 1) (List.range' o (x.length + 1 - o)) o (fun i hi => (List.mem_range'_1.mp hi).1) with ⟨h0, hn⟩ | ⟨pre, a, post, e, h0, ha, hn⟩
  · rw [h0]
    have er : run (fun d => d != c) (tl x) o = (tl x).length := run_at ((tl x).length - o) o (tl x).length (by omega) (fun k d h1 h2 h4 => by
      have k2 := hn k (List.mem_range'_1.mpr ⟨h1, by omega⟩)
      rw [one, h4] at k2
      simpa using fun z : d = c => k2 (by rw [z])) (Nat.le_refl _) (fun d h => by
        rw [List.getElem?_eq_none (Nat.le_refl _)] at h
        cases h)
    rw [er, if_neg (Nat.lt_irrefl _)]
  · have hoa : o ≤ a ∧ a < o + (x.length + 1 - o) := List.mem_range'_1.mp (by rw [e]; simp)
    have hac := (one a).mp ha
    have hal := (List.getElem?_eq_some_iff.mp hac).1
    have hpre : ∀ k, o ≤ k → k < a → k ∈ pre := by
      intro k h1 h2
      have hm : k ∈ List.range' o (x.length + 1 - o) := List.mem_range'_1.mpr ⟨h1, by omega⟩
      rw [e] at hm
      rcases List.mem_append.mp hm with hm | hm
      · exact hm
      · have hs : (List.range' o (x.length + 1 - o)).Pairwise (· < ·) := by
          first
            | exact List.pairwise_lt_range'
            | simpa using List.pairwise_lt_range' (s := o) (n := x.length + 1 - o)
        rw [e] at hs
        have h5 := (List.pairwise_cons.mp (List.pairwise_append.mp hs).2.1).1
        rcases List.mem_cons.mp hm with hm | hm
        · omega
        · have := h5 k hm
          omega
    have er : run (fun d => d != c) (tl x) o = a := run_at (a - o) o a (by omega) (fun k d h1 h2 h4 => by
      have k2 := hn k (hpre k h1 h2)
      rw [one, h4] at k2
      simpa using fun z : d = c => k2 (by rw [z])) (by omega) (fun d h => by
        rw [hac] at h
        rw [← Option.some.inj h]
        simp)
    rw [er, if_pos hal]
    generalize (forIn (List.range' o (x.length + 1 - o)) ((#[] : Array Nat), o) (occBody x ⟨#[c]⟩ x.length 1)).run.fst = arr at h0
    have h1 : arr.toList[0]? = some a := by simpa using h0
    cases hL : arr.toList with
    | nil => rw [hL] at h1; cases h1
    | cons b t =>
      rw [hL] at h1
      have : b = a := Option.some.inj h1
      rw [this]
/-! ### tokens -/
abbrev Tok := Str × Nat × Nat
def tokC (l : List Nat) (i c : Nat) : Tok :=
  if isL c = true then (if inV (.str (strL ((l.drop i).take (run isW l i - i)))) (wds.map V.str) = true then "word" else "name", i, run isW l i)
  else if isD c = true then ("number", i, run isD l i)
  else if (l.drop i).take 2 = [61, 61] then ("sign", i, i + 2)
  else (if c ∈ tl sgs then "sign" else "wrong", i, i + 1)
theorem tok_end {l : List Nat} {i c : Nat} (h : l[i]? = some c) : i < (tokC l i c).2.2 ∧ (tokC l i c).2.2 ≤ l.length := by
  have hi := (List.getElem?_eq_some_iff.mp h).1
  unfold tokC
  by_cases h1 : isL c = true
  · rw [if_pos h1]
    have hw : isW c = true := by unfold isW; rw [h1]; rfl
    have := run_ge isW l (i + 1)
    have h4 := run_le (p := isW) (l := l) (i := i) (by omega)
    have := run_step h hw
    exact ⟨by show i < run isW l i; omega, h4⟩
  · rw [if_neg h1]
    by_cases h2 : isD c = true
    · rw [if_pos h2]
      have := run_ge isD l (i + 1)
      have h3 := run_le (p := isD) (l := l) (i := i) (by omega)
      have := run_step h h2
      exact ⟨by show i < run isD l i; omega, h3⟩
    · rw [if_neg h2]
      by_cases h3 : (l.drop i).take 2 = [61, 61]
      · rw [if_pos h3]
        have := congrArg List.length h3
        rw [List.length_take, List.length_drop] at this
        have e : ([61, 61] : List Nat).length = 2 := rfl
        exact ⟨by show i < i + 2; omega, by show i + 2 ≤ l.length; omega⟩
      · rw [if_neg h3]
        exact ⟨by show i < i + 1; omega, by show i + 1 ≤ l.length; omega⟩
/-- the tokens at the places of s, the first of which is a; none begins ahead of b; cm: in a comment -/
def scan (l : List Nat) : List Nat → Nat → Nat → Bool → List Tok
  | [], _, _, _ => []
  | c :: r, a, b, cm =>
    if a < b ∨ (cm = true ∧ c ≠ 10) ∨ c = 32 ∨ c = 10 then scan l r (a + 1) b (cm && c != 10)
    else if c = 35 then scan l r (a + 1) b true
    else tokC l a c :: scan l r (a + 1) (tokC l a c).2.2 false
theorem scan_behind (l : List Nat) : ∀ (s : List Nat) (a b : Nat) (cm : Bool), b ≤ a → scan l s a b cm = scan l s a 0 cm
  | [], _, _, _, _ => rfl
  | c :: r, a, b, cm, h => by
    show (if a < b ∨ _ then _ else _) = (if a < 0 ∨ _ then _ else _)
    have e : (a < b ∨ (cm = true ∧ c ≠ 10) ∨ c = 32 ∨ c = 10) ↔ (a < 0 ∨ (cm = true ∧ c ≠ 10) ∨ c = 32 ∨ c = 10) :=
      ⟨fun z => z.elim (fun k => absurd k (by omega)) .inr, fun z => z.elim (fun k => absurd k (by omega)) .inr⟩
    by_cases k : a < 0 ∨ (cm = true ∧ c ≠ 10) ∨ c = 32 ∨ c = 10
    · rw [if_pos (e.mpr k), if_pos k, scan_behind l r (a + 1) b _ (by omega)]
    · rw [if_neg fun z => k (e.mp z), if_neg k, scan_behind l r (a + 1) b _ (by omega)]
theorem scan_skip (l : List Nat) : ∀ (s : List Nat) (a b : Nat), a ≤ b → scan l s a b false = scan l (s.drop (b - a)) b 0 false
  | [], a, b, _ => by rw [List.drop_nil]; rfl
  | c :: r, a, b, h => by
    by_cases e : a = b
    · subst e
      rw [Nat.sub_self, List.drop_zero, scan_behind l (c :: r) a a false (Nat.le_refl _)]
    · show (if a < b ∨ _ then _ else _) = _
      rw [if_pos (.inl (by omega))]
      have e2 : b - a = (b - (a + 1)) + 1 := by omega
      rw [e2, List.drop_succ_cons]
      exact scan_skip l r (a + 1) b (by omega)
theorem scan_comment (l : List Nat) : ∀ (k : Nat) (s : List Nat) (a : Nat), (∀ j, j < k → s[j]? ≠ some 10) → (s[k]? = none ∨ s[k]? = some 10) → scan l s a 0 true = scan l (s.drop k) (a + k) 0 false
  | 0, s, a, _, h => by
    rw [List.drop_zero, Nat.add_zero]
    cases s with
    | nil => rfl
    | cons c r =>
      have hc : c = 10 := by
        rcases h with h | h
        · cases h
        · exact Option.some.inj h
      subst hc
      show (if _ then _ else _) = (if _ then _ else _)
      rw [if_pos (.inr (.inr (.inr rfl))), if_pos (.inr (.inr (.inr rfl)))]
      rfl
  | k + 1, [], a, _, _ => by rw [List.drop_nil]; rfl
  | k + 1, c :: r, a, hn, h => by
    have hc : c ≠ 10 := fun z => hn 0 (by omega) (by rw [z]; rfl)
    show (if _ then _ else _) = _
    rw [if_pos (.inr (.inl ⟨rfl, hc⟩)), List.drop_succ_cons]
    have e : (true && c != 10) = true := by simpa using hc
    rw [e, scan_comment l k r (a + 1) (fun j hj => hn (j + 1) (by omega)) h]
    congr 1
    omega
/-- the tokens that begin from a on, ahead of e -/
def toks (l : List Nat) (a e : Nat) : List Tok := scan l ((l.take e).drop a) a 0 false
theorem toks_end {l : List Nat} {a e : Nat} (h : e ≤ a) : toks l a e = [] := by
  unfold toks
  rw [drop_take_nil h]
  rfl
section
variable {l : List Nat} {a e c : Nat}
theorem toks_cons (he : e ≤ l.length) (ha : a < e) (hc : l[a]? = some c) : toks l a e = if c = 32 ∨ c = 10 then toks l (a + 1) e else if c = 35 then scan l ((l.take e).drop (a + 1)) (a + 1) 0 true else tokC l a c :: scan l ((l.take e).drop (a + 1)) (a + 1) (tokC l a c).2.2 false := by
  obtain ⟨h2, e2⟩ := drop_take_cons ha he
  have ec : l[a] = c := Option.some.inj ((List.getElem?_eq_getElem h2).symm.trans hc)
  unfold toks
  rw [e2, ec]
  show (if _ then _ else _) = _
  by_cases h : c = 32 ∨ c = 10
  · rw [if_pos (.inr (.inr h)), if_pos h]
    rfl
  · rw [if_neg (by rintro (z | ⟨z, _⟩ | z); · omega
                   · cases z
                   · exact h z), if_neg h]
theorem toks_blank (he : e ≤ l.length) (ha : a < e) (hc : l[a]? = some c) (h : c = 32 ∨ c = 10) : toks l a e = toks l (a + 1) e := by
  rw [toks_cons he ha hc, if_pos h]
theorem toks_note (he : e ≤ l.length) (ha : a < e) (hc : l[a]? = some 35) : toks l a e = toks l (run (fun d => d != 10) l a) e := by
  have r1 : run (fun d => d != 10) l a = run (fun d => d != 10) l (a + 1) := run_step hc rfl
  have r2 := run_ge (fun d => d != 10) l (a + 1)
  have r3 := run_le (p := fun d => d != 10) (l := l) (i := a) (by omega)
  rw [toks_cons he ha hc, if_neg (by decide), if_pos rfl]
  unfold toks
  generalize hJ : run (fun d => d != 10) l a = J at r1 r3 ⊢
  have hin : ∀ (k d : Nat), a ≤ k → k < J → l[k]? = some d → (d != 10) = true := fun k d h1 h2 h3 => run_in (p := fun d => d != 10) (l := l) (l.length - a) a (by omega) k d h1 (by rw [hJ]; exact h2) h3
  have gs : ∀ j, ((l.take e).drop (a + 1))[j]? = if a + 1 + j < e then l[a + 1 + j]? else none := fun j => by
    rw [List.getElem?_drop, List.getElem?_take]
  by_cases hJe : J < e
  · rw [scan_comment l (J - (a + 1)) ((l.take e).drop (a + 1)) (a + 1) ?_ ?_, List.drop_drop, show a + 1 + (J - (a + 1)) = J by omega]
    · intro j hj
      rw [gs, if_pos (by omega)]
      intro z
      have := hin (a + 1 + j) 10 (by omega) (by omega) z
      simp at this
    · rw [gs, if_pos (by omega), show a + 1 + (J - (a + 1)) = J by omega]
      cases h : l[J]? with
      | none => exact .inl rfl
      | some d =>
        refine .inr (congrArg some ?_)
        by_cases hd : d = 10
        · exact hd
        · have k1 := run_step (p := fun d => d != 10) h (by simpa using hd)
          have k2 := run_ge (fun d => d != 10) l (J + 1)
          have k3 : run (fun d => d != 10) l J = J := by
            have hJ2 : run (fun d => d != 10) l a = J := hJ
            unfold run at hJ2 ⊢
            have e1 : (l.drop a).dropWhile (fun d => d != 10) = l.drop J := by
              rw [← hJ2, ← List.drop_drop]
              conv => rhs; rw [← List.takeWhile_append_dropWhile (p := fun d => d != 10) (l := l.drop a)]
              rw [List.drop_left' (by rw [List.takeWhile_append_dropWhile])]
            have e2 : (l.drop J).takeWhile (fun d => d != 10) = [] := by
              rw [← e1]
              cases hw : (l.drop a).dropWhile (fun d => d != 10) with
              | nil => rfl
              | cons x t =>
                have := List.head?_dropWhile_not (fun d => d != 10) (l.drop a)
                rw [hw] at this
                simp at this
                rw [List.takeWhile_cons, if_neg]
                simpa using this
            rw [e2]
            rfl
          omega
  · have hJe2 : e ≤ J := by omega
    rw [drop_take_nil hJe2, scan_comment l ((l.take e).drop (a + 1)).length ((l.take e).drop (a + 1)) (a + 1) ?_ (.inl (List.getElem?_eq_none (Nat.le_refl _))), List.drop_length]
    · rfl
    · intro j hj
      rw [List.length_drop, List.length_take] at hj
      rw [gs, if_pos (by omega)]
      intro z
      have := hin (a + 1 + j) 10 (by omega) (by omega) z
      simp at this
theorem toks_tok (he : e ≤ l.length) (ha : a < e) (hc : l[a]? = some c) (h1 : ¬ (c = 32 ∨ c = 10)) (h2 : c ≠ 35) : toks l a e = tokC l a c :: toks l (tokC l a c).2.2 e := by
  rw [toks_cons he ha hc, if_neg h1, if_neg h2]
  have k := tok_end hc
  rw [scan_skip l _ (a + 1) (tokC l a c).2.2 (by omega), List.drop_drop]
  unfold toks
  rw [show a + 1 + ((tokC l a c).2.2 - (a + 1)) = (tokC l a c).2.2 by omega]
end
/-! ### a list of tuples -/
def LT (H : Hp) (p : Addr) (xss : List (List V)) : Prop := ∃ rs : List Addr, H p = some (.lst (rs.map V.ref)) ∧ rs.length = xss.length ∧ ∀ (i : Nat) (r : Addr) (xs : List V), rs[i]? = some r → xss[i]? = some xs → H r = some (.tup xs)
theorem LT.same {H H' : Hp} {p : Addr} {xss : List (List V)} (s : Same H H') : LT H p xss → LT H' p xss := fun ⟨rs, h1, h2, h3⟩ => ⟨rs, s _ _ h1, h2, fun i r xs a b => s _ _ (h3 i r xs a b)⟩
theorem LT.push {H : Hp} {p r : Addr} {xss : List (List V)} {xs : List V} (h : LT H p xss) (hr : H r = some (.tup xs)) : ∃ ys, H p = some (.lst ys) ∧ ys.length = xss.length ∧ LT (upd H p (.lst (ys ++ [.ref r]))) p (xss ++ [xs]) := by
  obtain ⟨rs, h1, h2, h3⟩ := h
  refine ⟨rs.map V.ref, h1, by rw [List.length_map]; exact h2, rs ++ [r], by rw [upd_same, List.map_append]; rfl, by simp [h2], fun i x ys a b => ?_⟩
  by_cases hi : i < rs.length
  · rw [List.getElem?_append_left hi] at a
    rw [List.getElem?_append_left (by omega)] at b
    have k := h3 i x ys a b
    rw [upd_ne (ne_of k h1 (by intro z; cases z))]
    exact k
  · have hi2 : i = rs.length := by
      have := (List.getElem?_eq_some_iff.mp a).1
      rw [List.length_append, List.length_singleton] at this
      omega
    subst hi2
    rw [List.getElem?_append_right (Nat.le_refl _), Nat.sub_self] at a
    rw [List.getElem?_append_right (by omega), h2, Nat.sub_self] at b
    cases a
    cases b
    rw [upd_ne (ne_of hr h1 (by intro z; cases z))]
    exact hr
theorem LT.al {H : Hp} {p q : Addr} {xss : List (List V)} (h : LT H p xss) (g : LT H q xss) (hl : xss.length ≤ 1000000) (hx : ∀ xs ∈ xss, xs.all sca = true ∧ xs.length ≤ 1000000) : Al H 4 (.ref p) (.ref q) := by
  obtain ⟨rs, h1, h2, h3⟩ := h
  obtain ⟨ts, g1, g2, g3⟩ := g
  refine Al.lst h1 g1 (by rw [List.length_map, List.length_map, h2, g2]) (by rw [List.length_map, h2]; exact hl) fun i u v a b => ?_
  rw [List.getElem?_map] at a b
  cases ea : rs[i]? with
  | none => rw [ea] at a; cases a
  | some r =>
    cases eb : ts[i]? with
    | none => rw [eb] at b; cases b
    | some t =>
      rw [ea] at a
      rw [eb] at b
      have e1 : u = V.ref r := (Option.some.inj a).symm
      have e2 : v = V.ref t := (Option.some.inj b).symm
      subst e1 e2
      have hi : i < xss.length := by
        rw [← h2]
        exact (List.getElem?_eq_some_iff.mp ea).1
      have k1 := h3 i r xss[i] ea (List.getElem?_eq_getElem hi)
      have k2 := g3 i t xss[i] eb (List.getElem?_eq_getElem hi)
      obtain ⟨s1, s2⟩ := hx _ (List.getElem_mem hi)
      exact Al.tup k1 k2 rfl s2 (al_eq (n := 1) s1)
def tkV (x : Tok) : List V := [.str x.1, .int (x.2.1 : Int), .int (x.2.2 : Int)]
theorem tkV_sca (ts : List Tok) : ∀ xs ∈ ts.map tkV, xs.all sca = true ∧ xs.length ≤ 1000000 := fun xs h => by
  obtain ⟨x, _, rfl⟩ := List.mem_map.mp h
  exact ⟨rfl, by show 3 ≤ 1000000; decide⟩
end Sn

/-! My own: facts of a head as truths that are computed: ints and texts of the module, its tuple of words. -/
namespace Sn
open PySem PySem.Spec PyProof.Rows L2 TL
def tokOf : Option (Option Value) → PySem.Tok
  | some (some (.int _ t)) => t
  | some (some (.str _ t)) => t
  | _ => default
def isI (o : Option (Option Value)) (i : Int) : Bool := match o with
  | some (some (.int j _)) => decide (j = i)
  | _ => false
def isS (o : Option (Option Value)) (x : Str) : Bool := match o with
  | some (some (.str y _)) => decide (y = x)
  | _ => false
theorem isI_ok {o : Option (Option Value)} {i : Int} (h : isI o i = true) : o = some (some (.int i (tokOf o))) := by
  unfold isI at h
  split at h
  · rename_i j t
    have e : j = i := of_decide_eq_true h
    subst e
    rfl
  · cases h
theorem isS_ok {o : Option (Option Value)} {x : Str} (h : isS o x = true) : o = some (some (.str x (tokOf o))) := by
  unfold isS at h
  split at h
  · rename_i y t
    have e : y = x := of_decide_eq_true h
    subst e
    rfl
  · cases h
/-- a written tuple of these texts -/
def tupB (K : PySem.W.Frag) (a : Addr) (xs : List Str) : Bool := match K.lookup a with
  | some ⟨.type c, _, .seq its _, _⟩ => decide (c = "tuple") && (decide (its.size ≤ sizeLine) && He.relAll (xs.map V.str) its.toList)
  | _ => false
theorem tupB_ok {K : PySem.W.Frag} {a : Addr} {xs : List Str} (h : tupB K a xs = true) : ∃ (o : Obj) (its : Array Value) (n : Nat), K.lookup a = some o ∧ o.cls = .type "tuple" ∧ o.data = .seq its n ∧ its.size ≤ sizeLine ∧ Vals (xs.map V.str) its.toList := by
  unfold tupB at h
  split at h
  · rename_i c od its n sl e
    obtain ⟨h1, h2⟩ := Bool.and_eq_true_iff.mp h
    obtain ⟨h2, h3⟩ := Bool.and_eq_true_iff.mp h2
    exact ⟨_, its, n, e, congrArg Value.type (of_decide_eq_true h1), rfl, of_decide_eq_true h2, He.relAll_ok h3⟩
  · cases h
end Sn

namespace Sn
open PySem PySem.Spec PyProof.Rows L2 TL
/-! ### the head: facts by my own hook -/
def topH (i : Nat) : Stmt := PySem.Challenge.pw_samenames_k29_undo_and_redo.main.body.getD i (.Pass ⟨0, 0, 0, 0⟩)
abbrev RH : PySem.W.OpenRow := PySem.W.OpenLaw.row PySem.Challenge.rw_samenames_k29_undo_and_redo
abbrev qvH : Program := PySem.W.view RH.prog [123]
def hnm0 : List Str := [("_wall" : Str), ("ServerError" : Str), ("InvalidEdit" : Str), ("UnknownFile" : Str), ("FileExists" : Str), ("NothingToUndo" : Str), ("Cancelled" : Str), ("CyclicKey" : Str), ("SyntaxProblem" : Str), ("LONGEST" : Str), ("PERCENT" : Str), ("may_stand" : Str), ("is_text" : Str), ("apply_joint" : Str), ("apply_edit" : Str), ("line_end" : Str), ("WORDS" : Str), ("SIGNS" : Str), ("NUMBERS" : Str), ("is_letter" : Str)]
def hnm1 : List Str := [("is_digit" : Str), ("word_end" : Str), ("digits_end" : Str), ("token_at" : Str), ("tokens_between" : Str), ("tokens" : Str), ("is_name" : Str), ("number_value" : Str), ("problems_of" : Str), ("occurrences_of" : Str), ("kinds_of" : Str), ("chunks" : Str), ("MOST_TOKENS" : Str), ("DEEPEST" : Str), ("RANKS" : Str), ("LOWEST" : Str), ("NEGATION" : Str), ("COMPARISON" : Str), ("HIGHEST" : Str), ("Reader" : Str)]
def hnm2 : List Str := [("read_item" : Str), ("SORTS" : Str), ("cut_text" : Str), ("chunk_text" : Str), ("read_chunk" : Str), ("head_of" : Str), ("introduced" : Str), ("is_other_module" : Str), ("scope_rows" : Str), ("find_declared" : Str), ("sort_of_symbol" : Str), ("is_void" : Str), ("INT" : Str), ("BOOL" : Str), ("UNKNOWN" : Str), ("FIELDS" : Str), ("kind_of" : Str), ("target_of" : Str), ("meanings" : Str), ("signature_of" : Str)]
def hnm3 : List Str := [("bound_trait" : Str), ("impl_of" : Str), ("all_impls" : Str), ("role_of" : Str), ("result_of" : Str), ("INSIDE" : Str), ("children" : Str), ("nodes" : Str), ("called" : Str), ("steps_of" : Str), ("needs_of" : Str), ("finished" : Str), ("circles_among" : Str), ("all_cyclic" : Str), ("in_circle" : Str), ("results_below" : Str), ("PARTS" : Str), ("WHOLE" : Str), ("evaluated" : Str), ("Judge" : Str)]
def hnm4 : List Str := [("prepare_def" : Str), ("prepare_impl" : Str), ("judge_chunk" : Str), ("Run" : Str), ("Keeper" : Str), ("FITTING" : Str), ("BUILTINS" : Str), ("Naming" : Str), ("placed" : Str), ("parameters" : Str), ("names_of" : Str), ("of_program" : Str), ("of_module" : Str), ("of_part" : Str), ("compute" : Str), ("MOST_MODULES" : Str), ("Server" : Str), ("_law_tape" : Str), ("_law_take" : Str), ("_law_is_integer" : Str)]
def hnm5 : List Str := [("_law_same_items" : Str), ("_law_same" : Str), ("_law_snippet" : Str), ("_law_edit_of" : Str), ("_law_do" : Str), ("_law_expected" : Str), ("_law_act" : Str)]
def hnames : List Str := hnm0 ++ hnm1 ++ hnm2 ++ hnm3 ++ hnm4 ++ hnm5
def fn_0 : He.FnD := ⟨("may_stand", none), "may_stand", "may_stand", defArgs (topH 13), defBody (topH 13), defScope (topH 13)⟩
def fn_1 : He.FnD := ⟨("is_text", none), "is_text", "is_text", defArgs (topH 14), defBody (topH 14), defScope (topH 14)⟩
def fn_2 : He.FnD := ⟨("apply_joint", none), "apply_joint", "apply_joint", defArgs (topH 15), defBody (topH 15), defScope (topH 15)⟩
def fn_3 : He.FnD := ⟨("apply_edit", none), "apply_edit", "apply_edit", defArgs (topH 16), defBody (topH 16), defScope (topH 16)⟩
def fn_4 : He.FnD := ⟨("line_end", none), "line_end", "line_end", defArgs (topH 17), defBody (topH 17), defScope (topH 17)⟩
def fn_5 : He.FnD := ⟨("is_letter", none), "is_letter", "is_letter", defArgs (topH 22), defBody (topH 22), defScope (topH 22)⟩
def fn_6 : He.FnD := ⟨("is_digit", none), "is_digit", "is_digit", defArgs (topH 23), defBody (topH 23), defScope (topH 23)⟩
def fn_7 : He.FnD := ⟨("word_end", none), "word_end", "word_end", defArgs (topH 24), defBody (topH 24), defScope (topH 24)⟩
def fn_8 : He.FnD := ⟨("digits_end", none), "digits_end", "digits_end", defArgs (topH 25), defBody (topH 25), defScope (topH 25)⟩
def fn_9 : He.FnD := ⟨("token_at", none), "token_at", "token_at", defArgs (topH 26), defBody (topH 26), defScope (topH 26)⟩
def fn_10 : He.FnD := ⟨("tokens_between", none), "tokens_between", "tokens_between", defArgs (topH 27), defBody (topH 27), defScope (topH 27)⟩
def fn_11 : He.FnD := ⟨("tokens", none), "tokens", "tokens", defArgs (topH 28), defBody (topH 28), defScope (topH 28)⟩
def fn_12 : He.FnD := ⟨("is_name", none), "is_name", "is_name", defArgs (topH 29), defBody (topH 29), defScope (topH 29)⟩
def fn_13 : He.FnD := ⟨("_law_tape", none), "_law_tape", "_law_tape", defArgs (topH 113), defBody (topH 113), defScope (topH 113)⟩
def fn_14 : He.FnD := ⟨("_law_take", none), "_law_take", "_law_take", defArgs (topH 114), defBody (topH 114), defScope (topH 114)⟩
def fn_15 : He.FnD := ⟨("_law_is_integer", none), "_law_is_integer", "_law_is_integer", defArgs (topH 115), defBody (topH 115), defScope (topH 115)⟩
def fn_16 : He.FnD := ⟨("_law_same_items", none), "_law_same_items", "_law_same_items", defArgs (topH 116), defBody (topH 116), defScope (topH 116)⟩
def fn_17 : He.FnD := ⟨("_law_same", none), "_law_same", "_law_same", defArgs (topH 117), defBody (topH 117), defScope (topH 117)⟩
def fn_18 : He.FnD := ⟨("_law_snippet", none), "_law_snippet", "_law_snippet", defArgs (topH 118), defBody (topH 118), defScope (topH 118)⟩
def fn_19 : He.FnD := ⟨("_law_edit_of", none), "_law_edit_of", "_law_edit_of", defArgs (topH 119), defBody (topH 119), defScope (topH 119)⟩
def fn_20 : He.FnD := ⟨("_law_do", none), "_law_do", "_law_do", defArgs (topH 120), defBody (topH 120), defScope (topH 120)⟩
def fn_21 : He.FnD := ⟨("_law_expected", none), "_law_expected", "_law_expected", defArgs (topH 121), defBody (topH 121), defScope (topH 121)⟩
def fn_22 : He.FnD := ⟨("_law_act", none), "_law_act", "_law_act", defArgs (topH 122), defBody (topH 122), defScope (topH 122)⟩
def fn_23 : He.FnD := ⟨("law", none), "law", "law", defArgs (topH 123), defBody (topH 123), defScope (topH 123)⟩
def fn_24 : He.FnD := ⟨("Keeper", some "__init__"), "__init__", "Keeper.__init__", defArgs (inClass (topH 96) 0), defBody (inClass (topH 96) 0), defScope (inClass (topH 96) 0)⟩
def fn_25 : He.FnD := ⟨("Keeper", some "put"), "put", "Keeper.put", defArgs (inClass (topH 96) 1), defBody (inClass (topH 96) 1), defScope (inClass (topH 96) 1)⟩
def fn_26 : He.FnD := ⟨("Server", some "__init__"), "__init__", "Server.__init__", defArgs (inClass (topH 111) 0), defBody (inClass (topH 111) 0), defScope (inClass (topH 111) 0)⟩
def fn_27 : He.FnD := ⟨("Server", some "_put_modules"), "_put_modules", "Server._put_modules", defArgs (inClass (topH 111) 1), defBody (inClass (topH 111) 1), defScope (inClass (topH 111) 1)⟩
def fn_28 : He.FnD := ⟨("Server", some "_put_text"), "_put_text", "Server._put_text", defArgs (inClass (topH 111) 2), defBody (inClass (topH 111) 2), defScope (inClass (topH 111) 2)⟩
def fn_29 : He.FnD := ⟨("Server", some "_check"), "_check", "Server._check", defArgs (inClass (topH 111) 3), defBody (inClass (topH 111) 3), defScope (inClass (topH 111) 3)⟩
def fn_30 : He.FnD := ⟨("Server", some "program"), "program", "Server.program", defArgs (inClass (topH 111) 6), defBody (inClass (topH 111) 6), defScope (inClass (topH 111) 6)⟩
def fn_31 : He.FnD := ⟨("Server", some "open_file"), "open_file", "Server.open_file", defArgs (inClass (topH 111) 7), defBody (inClass (topH 111) 7), defScope (inClass (topH 111) 7)⟩
def fn_32 : He.FnD := ⟨("Server", some "edit"), "edit", "Server.edit", defArgs (inClass (topH 111) 9), defBody (inClass (topH 111) 9), defScope (inClass (topH 111) 9)⟩
def fn_33 : He.FnD := ⟨("Server", some "_step"), "_step", "Server._step", defArgs (inClass (topH 111) 10), defBody (inClass (topH 111) 10), defScope (inClass (topH 111) 10)⟩
def fn_34 : He.FnD := ⟨("Server", some "undo"), "undo", "Server.undo", defArgs (inClass (topH 111) 11), defBody (inClass (topH 111) 11), defScope (inClass (topH 111) 11)⟩
def fn_35 : He.FnD := ⟨("Server", some "redo"), "redo", "Server.redo", defArgs (inClass (topH 111) 12), defBody (inClass (topH 111) 12), defScope (inClass (topH 111) 12)⟩
def hfn0 : List He.FnD := [fn_0, fn_1, fn_2, fn_3, fn_4, fn_5, fn_6, fn_7, fn_8, fn_9, fn_10, fn_11]
def hfn1 : List He.FnD := [fn_12, fn_13, fn_14, fn_15, fn_16, fn_17, fn_18, fn_19, fn_20, fn_21, fn_22, fn_23]
def hfn2 : List He.FnD := [fn_24, fn_25, fn_26, fn_27, fn_28, fn_29, fn_30, fn_31, fn_32, fn_33, fn_34, fn_35]
def hfn : List He.FnD := hfn0 ++ hfn1 ++ hfn2
def hB0 (K : PySem.W.Frag) : Bool := (fun (aF : Addr) (CK : Addr) (CR : Addr) (CC : Addr) (CE : Addr) (CU : Addr) (CN : Addr) (CS : Addr) (CV : Addr) (aW : Addr) (tL : PySem.Tok) (tP : PySem.Tok) (tM : PySem.Tok) (tS : PySem.Tok) => decide (PySem.W.nsIn K mainGlobals "may_stand" = some (some (.ref (He.fAd K fn_0.at_)))) && (decide (PySem.W.keepIn K (.ref (He.fAd K fn_0.at_)) = true) && (decide (PySem.W.nsIn K mainGlobals "is_text" = some (some (.ref (He.fAd K fn_1.at_)))) && (decide (PySem.W.keepIn K (.ref (He.fAd K fn_1.at_)) = true) && (decide (PySem.W.nsIn K mainGlobals "apply_joint" = some (some (.ref (He.fAd K fn_2.at_)))) && (decide (PySem.W.keepIn K (.ref (He.fAd K fn_2.at_)) = true) && (decide (PySem.W.nsIn K mainGlobals "apply_edit" = some (some (.ref (He.fAd K fn_3.at_)))) && (decide (PySem.W.keepIn K (.ref (He.fAd K fn_3.at_)) = true) && (decide (PySem.W.nsIn K mainGlobals "line_end" = some (some (.ref (He.fAd K fn_4.at_)))) && (decide (PySem.W.keepIn K (.ref (He.fAd K fn_4.at_)) = true) && (decide (PySem.W.nsIn K mainGlobals "is_letter" = some (some (.ref (He.fAd K fn_5.at_)))) && (decide (PySem.W.keepIn K (.ref (He.fAd K fn_5.at_)) = true))))))))))))) (He.ga K "compute") (He.ga K "Keeper") (He.ga K "Run") (He.ga K "Cancelled") (He.ga K "InvalidEdit") (He.ga K "UnknownFile") (He.ga K "NothingToUndo") (He.ga K "ServerError") (He.ga K "Server") (He.ga K "WORDS") (tokOf (PySem.W.nsIn K mainGlobals "LONGEST")) (tokOf (PySem.W.nsIn K mainGlobals "PERCENT")) (tokOf (PySem.W.nsIn K mainGlobals "MOST_MODULES")) (tokOf (PySem.W.nsIn K mainGlobals "SIGNS"))
theorem hB0_ok {K : PySem.W.Frag} (h : hB0 K = true) : (PySem.W.nsIn K mainGlobals "may_stand" = some (some (.ref (He.fAd K fn_0.at_)))) ∧ (PySem.W.keepIn K (.ref (He.fAd K fn_0.at_)) = true) ∧ (PySem.W.nsIn K mainGlobals "is_text" = some (some (.ref (He.fAd K fn_1.at_)))) ∧ (PySem.W.keepIn K (.ref (He.fAd K fn_1.at_)) = true) ∧ (PySem.W.nsIn K mainGlobals "apply_joint" = some (some (.ref (He.fAd K fn_2.at_)))) ∧ (PySem.W.keepIn K (.ref (He.fAd K fn_2.at_)) = true) ∧ (PySem.W.nsIn K mainGlobals "apply_edit" = some (some (.ref (He.fAd K fn_3.at_)))) ∧ (PySem.W.keepIn K (.ref (He.fAd K fn_3.at_)) = true) ∧ (PySem.W.nsIn K mainGlobals "line_end" = some (some (.ref (He.fAd K fn_4.at_)))) ∧ (PySem.W.keepIn K (.ref (He.fAd K fn_4.at_)) = true) ∧ (PySem.W.nsIn K mainGlobals "is_letter" = some (some (.ref (He.fAd K fn_5.at_)))) ∧ (PySem.W.keepIn K (.ref (He.fAd K fn_5.at_)) = true) := by
  have h : (decide (PySem.W.nsIn K mainGlobals "may_stand" = some (some (.ref (He.fAd K fn_0.at_)))) && (decide (PySem.W.keepIn K (.ref (He.fAd K fn_0.at_)) = true) && (decide (PySem.W.nsIn K mainGlobals "is_text" = some (some (.ref (He.fAd K fn_1.at_)))) && (decide (PySem.W.keepIn K (.ref (He.fAd K fn_1.at_)) = true) && (decide (PySem.W.nsIn K mainGlobals "apply_joint" = some (some (.ref (He.fAd K fn_2.at_)))) && (decide (PySem.W.keepIn K (.ref (He.fAd K fn_2.at_)) = true) && (decide (PySem.W.nsIn K mainGlobals "apply_edit" = some (some (.ref (He.fAd K fn_3.at_)))) && (decide (PySem.W.keepIn K (.ref (He.fAd K fn_3.at_)) = true) && (decide (PySem.W.nsIn K mainGlobals "line_end" = some (some (.ref (He.fAd K fn_4.at_)))) && (decide (PySem.W.keepIn K (.ref (He.fAd K fn_4.at_)) = true) && (decide (PySem.W.nsIn K mainGlobals "is_letter" = some (some (.ref (He.fAd K fn_5.at_)))) && (decide (PySem.W.keepIn K (.ref (He.fAd K fn_5.at_)) = true))))))))))))) = true := h
  obtain ⟨h0, h⟩ := Bool.and_eq_true_iff.mp h
  obtain ⟨h1, h⟩ := Bool.and_eq_true_iff.mp h
  obtain ⟨h2, h⟩ := Bool.and_eq_true_iff.mp h
  obtain ⟨h3, h⟩ := Bool.and_eq_true_iff.mp h
  obtain ⟨h4, h⟩ := Bool.and_eq_true_iff.mp h
  obtain ⟨h5, h⟩ := Bool.and_eq_true_iff.mp h
  obtain ⟨h6, h⟩ := Bool.and_eq_true_iff.mp h
  obtain ⟨h7, h⟩ := Bool.and_eq_true_iff.mp h
  obtain ⟨h8, h⟩ := Bool.and_eq_true_iff.mp h
  obtain ⟨h9, h⟩ := Bool.and_eq_true_iff.mp h
  obtain ⟨h10, h⟩ := Bool.and_eq_true_iff.mp h
  exact ⟨of_decide_eq_true h0, of_decide_eq_true h1, of_decide_eq_true h2, of_decide_eq_true h3, of_decide_eq_true h4, of_decide_eq_true h5, of_decide_eq_true h6, of_decide_eq_true h7, of_decide_eq_true h8, of_decide_eq_true h9, of_decide_eq_true h10, of_decide_eq_true h⟩
def hB1 (K : PySem.W.Frag) : Bool := (fun (aF : Addr) (CK : Addr) (CR : Addr) (CC : Addr) (CE : Addr) (CU : Addr) (CN : Addr) (CS : Addr) (CV : Addr) (aW : Addr) (tL : PySem.Tok) (tP : PySem.Tok) (tM : PySem.Tok) (tS : PySem.Tok) => decide (PySem.W.nsIn K mainGlobals "is_digit" = some (some (.ref (He.fAd K fn_6.at_)))) && (decide (PySem.W.keepIn K (.ref (He.fAd K fn_6.at_)) = true) && (decide (PySem.W.nsIn K mainGlobals "word_end" = some (some (.ref (He.fAd K fn_7.at_)))) && (decide (PySem.W.keepIn K (.ref (He.fAd K fn_7.at_)) = true) && (decide (PySem.W.nsIn K mainGlobals "digits_end" = some (some (.ref (He.fAd K fn_8.at_)))) && (decide (PySem.W.keepIn K (.ref (He.fAd K fn_8.at_)) = true) && (decide (PySem.W.nsIn K mainGlobals "token_at" = some (some (.ref (He.fAd K fn_9.at_)))) && (decide (PySem.W.keepIn K (.ref (He.fAd K fn_9.at_)) = true) && (decide (PySem.W.nsIn K mainGlobals "tokens_between" = some (some (.ref (He.fAd K fn_10.at_)))) && (decide (PySem.W.keepIn K (.ref (He.fAd K fn_10.at_)) = true) && (decide (PySem.W.nsIn K mainGlobals "tokens" = some (some (.ref (He.fAd K fn_11.at_)))) && (decide (PySem.W.keepIn K (.ref (He.fAd K fn_11.at_)) = true))))))))))))) (He.ga K "compute") (He.ga K "Keeper") (He.ga K "Run") (He.ga K "Cancelled") (He.ga K "InvalidEdit") (He.ga K "UnknownFile") (He.ga K "NothingToUndo") (He.ga K "ServerError") (He.ga K "Server") (He.ga K "WORDS") (tokOf (PySem.W.nsIn K mainGlobals "LONGEST")) (tokOf (PySem.W.nsIn K mainGlobals "PERCENT")) (tokOf (PySem.W.nsIn K mainGlobals "MOST_MODULES")) (tokOf (PySem.W.nsIn K mainGlobals "SIGNS"))
theorem hB1_ok {K : PySem.W.Frag} (h : hB1 K = true) : (PySem.W.nsIn K mainGlobals "is_digit" = some (some (.ref (He.fAd K fn_6.at_)))) ∧ (PySem.W.keepIn K (.ref (He.fAd K fn_6.at_)) = true) ∧ (PySem.W.nsIn K mainGlobals "word_end" = some (some (.ref (He.fAd K fn_7.at_)))) ∧ (PySem.W.keepIn K (.ref (He.fAd K fn_7.at_)) = true) ∧ (PySem.W.nsIn K mainGlobals "digits_end" = some (some (.ref (He.fAd K fn_8.at_)))) ∧ (PySem.W.keepIn K (.ref (He.fAd K fn_8.at_)) = true) ∧ (PySem.W.nsIn K mainGlobals "token_at" = some (some (.ref (He.fAd K fn_9.at_)))) ∧ (PySem.W.keepIn K (.ref (He.fAd K fn_9.at_)) = true) ∧ (PySem.W.nsIn K mainGlobals "tokens_between" = some (some (.ref (He.fAd K fn_10.at_)))) ∧ (PySem.W.keepIn K (.ref (He.fAd K fn_10.at_)) = true) ∧ (PySem.W.nsIn K mainGlobals "tokens" = some (some (.ref (He.fAd K fn_11.at_)))) ∧ (PySem.W.keepIn K (.ref (He.fAd K fn_11.at_)) = true) := by
  have h : (decide (PySem.W.nsIn K mainGlobals "is_digit" = some (some (.ref (He.fAd K fn_6.at_)))) && (decide (PySem.W.keepIn K (.ref (He.fAd K fn_6.at_)) = true) && (decide (PySem.W.nsIn K mainGlobals "word_end" = some (some (.ref (He.fAd K fn_7.at_)))) && (decide (PySem.W.keepIn K (.ref (He.fAd K fn_7.at_)) = true) && (decide (PySem.W.nsIn K mainGlobals "digits_end" = some (some (.ref (He.fAd K fn_8.at_)))) && (decide (PySem.W.keepIn K (.ref (He.fAd K fn_8.at_)) = true) && (decide (PySem.W.nsIn K mainGlobals "token_at" = some (some (.ref (He.fAd K fn_9.at_)))) && (decide (PySem.W.keepIn K (.ref (He.fAd K fn_9.at_)) = true) && (decide (PySem.W.nsIn K mainGlobals "tokens_between" = some (some (.ref (He.fAd K fn_10.at_)))) && (decide (PySem.W.keepIn K (.ref (He.fAd K fn_10.at_)) = true) && (decide (PySem.W.nsIn K mainGlobals "tokens" = some (some (.ref (He.fAd K fn_11.at_)))) && (decide (PySem.W.keepIn K (.ref (He.fAd K fn_11.at_)) = true))))))))))))) = true := h
  obtain ⟨h0, h⟩ := Bool.and_eq_true_iff.mp h
  obtain ⟨h1, h⟩ := Bool.and_eq_true_iff.mp h
  obtain ⟨h2, h⟩ := Bool.and_eq_true_iff.mp h
  obtain ⟨h3, h⟩ := Bool.and_eq_true_iff.mp h
  obtain ⟨h4, h⟩ := Bool.and_eq_true_iff.mp h
  obtain ⟨h5, h⟩ := Bool.and_eq_true_iff.mp h
  obtain ⟨h6, h⟩ := Bool.and_eq_true_iff.mp h
  obtain ⟨h7, h⟩ := Bool.and_eq_true_iff.mp h
  obtain ⟨h8, h⟩ := Bool.and_eq_true_iff.mp h
  obtain ⟨h9, h⟩ := Bool.and_eq_true_iff.mp h
  obtain ⟨h10, h⟩ := Bool.and_eq_true_iff.mp h
  exact ⟨of_decide_eq_true h0, of_decide_eq_true h1, of_decide_eq_true h2, of_decide_eq_true h3, of_decide_eq_true h4, of_decide_eq_true h5, of_decide_eq_true h6, of_decide_eq_true h7, of_decide_eq_true h8, of_decide_eq_true h9, of_decide_eq_true h10, of_decide_eq_true h⟩
def hB2 (K : PySem.W.Frag) : Bool := (fun (aF : Addr) (CK : Addr) (CR : Addr) (CC : Addr) (CE : Addr) (CU : Addr) (CN : Addr) (CS : Addr) (CV : Addr) (aW : Addr) (tL : PySem.Tok) (tP : PySem.Tok) (tM : PySem.Tok) (tS : PySem.Tok) => decide (PySem.W.nsIn K mainGlobals "is_name" = some (some (.ref (He.fAd K fn_12.at_)))) && (decide (PySem.W.keepIn K (.ref (He.fAd K fn_12.at_)) = true) && (decide (PySem.W.nsIn K mainGlobals "_law_tape" = some (some (.ref (He.fAd K fn_13.at_)))) && (decide (PySem.W.keepIn K (.ref (He.fAd K fn_13.at_)) = true) && (decide (PySem.W.nsIn K mainGlobals "_law_take" = some (some (.ref (He.fAd K fn_14.at_)))) && (decide (PySem.W.keepIn K (.ref (He.fAd K fn_14.at_)) = true) && (decide (PySem.W.nsIn K mainGlobals "_law_is_integer" = some (some (.ref (He.fAd K fn_15.at_)))) && (decide (PySem.W.keepIn K (.ref (He.fAd K fn_15.at_)) = true) && (decide (PySem.W.nsIn K mainGlobals "_law_same_items" = some (some (.ref (He.fAd K fn_16.at_)))) && (decide (PySem.W.keepIn K (.ref (He.fAd K fn_16.at_)) = true) && (decide (PySem.W.nsIn K mainGlobals "_law_same" = some (some (.ref (He.fAd K fn_17.at_)))) && (decide (PySem.W.keepIn K (.ref (He.fAd K fn_17.at_)) = true))))))))))))) (He.ga K "compute") (He.ga K "Keeper") (He.ga K "Run") (He.ga K "Cancelled") (He.ga K "InvalidEdit") (He.ga K "UnknownFile") (He.ga K "NothingToUndo") (He.ga K "ServerError") (He.ga K "Server") (He.ga K "WORDS") (tokOf (PySem.W.nsIn K mainGlobals "LONGEST")) (tokOf (PySem.W.nsIn K mainGlobals "PERCENT")) (tokOf (PySem.W.nsIn K mainGlobals "MOST_MODULES")) (tokOf (PySem.W.nsIn K mainGlobals "SIGNS"))
theorem hB2_ok {K : PySem.W.Frag} (h : hB2 K = true) : (PySem.W.nsIn K mainGlobals "is_name" = some (some (.ref (He.fAd K fn_12.at_)))) ∧ (PySem.W.keepIn K (.ref (He.fAd K fn_12.at_)) = true) ∧ (PySem.W.nsIn K mainGlobals "_law_tape" = some (some (.ref (He.fAd K fn_13.at_)))) ∧ (PySem.W.keepIn K (.ref (He.fAd K fn_13.at_)) = true) ∧ (PySem.W.nsIn K mainGlobals "_law_take" = some (some (.ref (He.fAd K fn_14.at_)))) ∧ (PySem.W.keepIn K (.ref (He.fAd K fn_14.at_)) = true) ∧ (PySem.W.nsIn K mainGlobals "_law_is_integer" = some (some (.ref (He.fAd K fn_15.at_)))) ∧ (PySem.W.keepIn K (.ref (He.fAd K fn_15.at_)) = true) ∧ (PySem.W.nsIn K mainGlobals "_law_same_items" = some (some (.ref (He.fAd K fn_16.at_)))) ∧ (PySem.W.keepIn K (.ref (He.fAd K fn_16.at_)) = true) ∧ (PySem.W.nsIn K mainGlobals "_law_same" = some (some (.ref (He.fAd K fn_17.at_)))) ∧ (PySem.W.keepIn K (.ref (He.fAd K fn_17.at_)) = true) := by
  have h : (decide (PySem.W.nsIn K mainGlobals "is_name" = some (some (.ref (He.fAd K fn_12.at_)))) && (decide (PySem.W.keepIn K (.ref (He.fAd K fn_12.at_)) = true) && (decide (PySem.W.nsIn K mainGlobals "_law_tape" = some (some (.ref (He.fAd K fn_13.at_)))) && (decide (PySem.W.keepIn K (.ref (He.fAd K fn_13.at_)) = true) && (decide (PySem.W.nsIn K mainGlobals "_law_take" = some (some (.ref (He.fAd K fn_14.at_)))) && (decide (PySem.W.keepIn K (.ref (He.fAd K fn_14.at_)) = true) && (decide (PySem.W.nsIn K mainGlobals "_law_is_integer" = some (some (.ref (He.fAd K fn_15.at_)))) && (decide (PySem.W.keepIn K (.ref (He.fAd K fn_15.at_)) = true) && (decide (PySem.W.nsIn K mainGlobals "_law_same_items" = some (some (.ref (He.fAd K fn_16.at_)))) && (decide (PySem.W.keepIn K (.ref (He.fAd K fn_16.at_)) = true) && (decide (PySem.W.nsIn K mainGlobals "_law_same" = some (some (.ref (He.fAd K fn_17.at_)))) && (decide (PySem.W.keepIn K (.ref (He.fAd K fn_17.at_)) = true))))))))))))) = true := h
  obtain ⟨h0, h⟩ := Bool.and_eq_true_iff.mp h
  obtain ⟨h1, h⟩ := Bool.and_eq_true_iff.mp h
  obtain ⟨h2, h⟩ := Bool.and_eq_true_iff.mp h
  obtain ⟨h3, h⟩ := Bool.and_eq_true_iff.mp h
  obtain ⟨h4, h⟩ := Bool.and_eq_true_iff.mp h
  obtain ⟨h5, h⟩ := Bool.and_eq_true_iff.mp h
  obtain ⟨h6, h⟩ := Bool.and_eq_true_iff.mp h
  obtain ⟨h7, h⟩ := Bool.and_eq_true_iff.mp h
  obtain ⟨h8, h⟩ := Bool.and_eq_true_iff.mp h
  obtain ⟨h9, h⟩ := Bool.and_eq_true_iff.mp h
  obtain ⟨h10, h⟩ := Bool.and_eq_true_iff.mp h
  exact ⟨of_decide_eq_true h0, of_decide_eq_true h1, of_decide_eq_true h2, of_decide_eq_true h3, of_decide_eq_true h4, of_decide_eq_true h5, of_decide_eq_true h6, of_decide_eq_true h7, of_decide_eq_true h8, of_decide_eq_true h9, of_decide_eq_true h10, of_decide_eq_true h⟩
def hB3 (K : PySem.W.Frag) : Bool := (fun (aF : Addr) (CK : Addr) (CR : Addr) (CC : Addr) (CE : Addr) (CU : Addr) (CN : Addr) (CS : Addr) (CV : Addr) (aW : Addr) (tL : PySem.Tok) (tP : PySem.Tok) (tM : PySem.Tok) (tS : PySem.Tok) => decide (PySem.W.nsIn K mainGlobals "_law_snippet" = some (some (.ref (He.fAd K fn_18.at_)))) && (decide (PySem.W.keepIn K (.ref (He.fAd K fn_18.at_)) = true) && (decide (PySem.W.nsIn K mainGlobals "_law_edit_of" = some (some (.ref (He.fAd K fn_19.at_)))) && (decide (PySem.W.keepIn K (.ref (He.fAd K fn_19.at_)) = true) && (decide (PySem.W.nsIn K mainGlobals "_law_do" = some (some (.ref (He.fAd K fn_20.at_)))) && (decide (PySem.W.keepIn K (.ref (He.fAd K fn_20.at_)) = true) && (decide (PySem.W.nsIn K mainGlobals "_law_expected" = some (some (.ref (He.fAd K fn_21.at_)))) && (decide (PySem.W.keepIn K (.ref (He.fAd K fn_21.at_)) = true) && (decide (PySem.W.nsIn K mainGlobals "_law_act" = some (some (.ref (He.fAd K fn_22.at_)))) && (decide (PySem.W.keepIn K (.ref (He.fAd K fn_22.at_)) = true) && (decide (PySem.W.nsIn K mainGlobals "law" = some (some (.ref (He.fAd K fn_23.at_)))) && (decide (PySem.W.keepIn K (.ref (He.fAd K fn_23.at_)) = true))))))))))))) (He.ga K "compute") (He.ga K "Keeper") (He.ga K "Run") (He.ga K "Cancelled") (He.ga K "InvalidEdit") (He.ga K "UnknownFile") (He.ga K "NothingToUndo") (He.ga K "ServerError") (He.ga K "Server") (He.ga K "WORDS") (tokOf (PySem.W.nsIn K mainGlobals "LONGEST")) (tokOf (PySem.W.nsIn K mainGlobals "PERCENT")) (tokOf (PySem.W.nsIn K mainGlobals "MOST_MODULES")) (tokOf (PySem.W.nsIn K mainGlobals "SIGNS"))
theorem hB3_ok {K : PySem.W.Frag} (h : hB3 K = true) : (PySem.W.nsIn K mainGlobals "_law_snippet" = some (some (.ref (He.fAd K fn_18.at_)))) ∧ (PySem.W.keepIn K (.ref (He.fAd K fn_18.at_)) = true) ∧ (PySem.W.nsIn K mainGlobals "_law_edit_of" = some (some (.ref (He.fAd K fn_19.at_)))) ∧ (PySem.W.keepIn K (.ref (He.fAd K fn_19.at_)) = true) ∧ (PySem.W.nsIn K mainGlobals "_law_do" = some (some (.ref (He.fAd K fn_20.at_)))) ∧ (PySem.W.keepIn K (.ref (He.fAd K fn_20.at_)) = true) ∧ (PySem.W.nsIn K mainGlobals "_law_expected" = some (some (.ref (He.fAd K fn_21.at_)))) ∧ (PySem.W.keepIn K (.ref (He.fAd K fn_21.at_)) = true) ∧ (PySem.W.nsIn K mainGlobals "_law_act" = some (some (.ref (He.fAd K fn_22.at_)))) ∧ (PySem.W.keepIn K (.ref (He.fAd K fn_22.at_)) = true) ∧ (PySem.W.nsIn K mainGlobals "law" = some (some (.ref (He.fAd K fn_23.at_)))) ∧ (PySem.W.keepIn K (.ref (He.fAd K fn_23.at_)) = true) := by
  have h : (decide (PySem.W.nsIn K mainGlobals "_law_snippet" = some (some (.ref (He.fAd K fn_18.at_)))) && (decide (PySem.W.keepIn K (.ref (He.fAd K fn_18.at_)) = true) && (decide (PySem.W.nsIn K mainGlobals "_law_edit_of" = some (some (.ref (He.fAd K fn_19.at_)))) && (decide (PySem.W.keepIn K (.ref (He.fAd K fn_19.at_)) = true) && (decide (PySem.W.nsIn K mainGlobals "_law_do" = some (some (.ref (He.fAd K fn_20.at_)))) && (decide (PySem.W.keepIn K (.ref (He.fAd K fn_20.at_)) = true) && (decide (PySem.W.nsIn K mainGlobals "_law_expected" = some (some (.ref (He.fAd K fn_21.at_)))) && (decide (PySem.W.keepIn K (.ref (He.fAd K fn_21.at_)) = true) && (decide (PySem.W.nsIn K mainGlobals "_law_act" = some (some (.ref (He.fAd K fn_22.at_)))) && (decide (PySem.W.keepIn K (.ref (He.fAd K fn_22.at_)) = true) && (decide (PySem.W.nsIn K mainGlobals "law" = some (some (.ref (He.fAd K fn_23.at_)))) && (decide (PySem.W.keepIn K (.ref (He.fAd K fn_23.at_)) = true))))))))))))) = true := h
  obtain ⟨h0, h⟩ := Bool.and_eq_true_iff.mp h
  obtain ⟨h1, h⟩ := Bool.and_eq_true_iff.mp h
  obtain ⟨h2, h⟩ := Bool.and_eq_true_iff.mp h
  obtain ⟨h3, h⟩ := Bool.and_eq_true_iff.mp h
  obtain ⟨h4, h⟩ := Bool.and_eq_true_iff.mp h
  obtain ⟨h5, h⟩ := Bool.and_eq_true_iff.mp h
  obtain ⟨h6, h⟩ := Bool.and_eq_true_iff.mp h
  obtain ⟨h7, h⟩ := Bool.and_eq_true_iff.mp h
  obtain ⟨h8, h⟩ := Bool.and_eq_true_iff.mp h
  obtain ⟨h9, h⟩ := Bool.and_eq_true_iff.mp h
  obtain ⟨h10, h⟩ := Bool.and_eq_true_iff.mp h
  exact ⟨of_decide_eq_true h0, of_decide_eq_true h1, of_decide_eq_true h2, of_decide_eq_true h3, of_decide_eq_true h4, of_decide_eq_true h5, of_decide_eq_true h6, of_decide_eq_true h7, of_decide_eq_true h8, of_decide_eq_true h9, of_decide_eq_true h10, of_decide_eq_true h⟩
def hB4 (K : PySem.W.Frag) : Bool := (fun (aF : Addr) (CK : Addr) (CR : Addr) (CC : Addr) (CE : Addr) (CU : Addr) (CN : Addr) (CS : Addr) (CV : Addr) (aW : Addr) (tL : PySem.Tok) (tP : PySem.Tok) (tM : PySem.Tok) (tS : PySem.Tok) => decide (PySem.W.findIn K (.ref CK) "__init__" = some (some (.ref (He.fAd K fn_24.at_)))) && (decide (PySem.W.isFn K (.ref (He.fAd K fn_24.at_)) = true) && (decide (PySem.W.keepIn K (.ref (He.fAd K fn_24.at_)) = true) && (decide (PySem.W.findIn K (.ref CK) "put" = some (some (.ref (He.fAd K fn_25.at_)))) && (decide (PySem.W.isFn K (.ref (He.fAd K fn_25.at_)) = true) && (decide (PySem.W.keepIn K (.ref (He.fAd K fn_25.at_)) = true) && (decide (PySem.W.findIn K (.ref CV) "__init__" = some (some (.ref (He.fAd K fn_26.at_)))) && (decide (PySem.W.isFn K (.ref (He.fAd K fn_26.at_)) = true) && (decide (PySem.W.keepIn K (.ref (He.fAd K fn_26.at_)) = true) && (decide (PySem.W.findIn K (.ref CV) "_put_modules" = some (some (.ref (He.fAd K fn_27.at_)))) && (decide (PySem.W.isFn K (.ref (He.fAd K fn_27.at_)) = true) && (decide (PySem.W.keepIn K (.ref (He.fAd K fn_27.at_)) = true))))))))))))) (He.ga K "compute") (He.ga K "Keeper") (He.ga K "Run") (He.ga K "Cancelled") (He.ga K "InvalidEdit") (He.ga K "UnknownFile") (He.ga K "NothingToUndo") (He.ga K "ServerError") (He.ga K "Server") (He.ga K "WORDS") (tokOf (PySem.W.nsIn K mainGlobals "LONGEST")) (tokOf (PySem.W.nsIn K mainGlobals "PERCENT")) (tokOf (PySem.W.nsIn K mainGlobals "MOST_MODULES")) (tokOf (PySem.W.nsIn K mainGlobals "SIGNS"))
theorem hB4_ok {K : PySem.W.Frag} (h : hB4 K = true) : (PySem.W.findIn K (.ref (He.ga K "Keeper")) "__init__" = some (some (.ref (He.fAd K fn_24.at_)))) ∧ (PySem.W.isFn K (.ref (He.fAd K fn_24.at_)) = true) ∧ (PySem.W.keepIn K (.ref (He.fAd K fn_24.at_)) = true) ∧ (PySem.W.findIn K (.ref (He.ga K "Keeper")) "put" = some (some (.ref (He.fAd K fn_25.at_)))) ∧ (PySem.W.isFn K (.ref (He.fAd K fn_25.at_)) = true) ∧ (PySem.W.keepIn K (.ref (He.fAd K fn_25.at_)) = true) ∧ (PySem.W.findIn K (.ref (He.ga K "Server")) "__init__" = some (some (.ref (He.fAd K fn_26.at_)))) ∧ (PySem.W.isFn K (.ref (He.fAd K fn_26.at_)) = true) ∧ (PySem.W.keepIn K (.ref (He.fAd K fn_26.at_)) = true) ∧ (PySem.W.findIn K (.ref (He.ga K "Server")) "_put_modules" = some (some (.ref (He.fAd K fn_27.at_)))) ∧ (PySem.W.isFn K (.ref (He.fAd K fn_27.at_)) = true) ∧ (PySem.W.keepIn K (.ref (He.fAd K fn_27.at_)) = true) := by
  have h : (decide (PySem.W.findIn K (.ref (He.ga K "Keeper")) "__init__" = some (some (.ref (He.fAd K fn_24.at_)))) && (decide (PySem.W.isFn K (.ref (He.fAd K fn_24.at_)) = true) && (decide (PySem.W.keepIn K (.ref (He.fAd K fn_24.at_)) = true) && (decide (PySem.W.findIn K (.ref (He.ga K "Keeper")) "put" = some (some (.ref (He.fAd K fn_25.at_)))) && (decide (PySem.W.isFn K (.ref (He.fAd K fn_25.at_)) = true) && (decide (PySem.W.keepIn K (.ref (He.fAd K fn_25.at_)) = true) && (decide (PySem.W.findIn K (.ref (He.ga K "Server")) "__init__" = some (some (.ref (He.fAd K fn_26.at_)))) && (decide (PySem.W.isFn K (.ref (He.fAd K fn_26.at_)) = true) && (decide (PySem.W.keepIn K (.ref (He.fAd K fn_26.at_)) = true) && (decide (PySem.W.findIn K (.ref (He.ga K "Server")) "_put_modules" = some (some (.ref (He.fAd K fn_27.at_)))) && (decide (PySem.W.isFn K (.ref (He.fAd K fn_27.at_)) = true) && (decide (PySem.W.keepIn K (.ref (He.fAd K fn_27.at_)) = true))))))))))))) = true := h
  obtain ⟨h0, h⟩ := Bool.and_eq_true_iff.mp h
  obtain ⟨h1, h⟩ := Bool.and_eq_true_iff.mp h
  obtain ⟨h2, h⟩ := Bool.and_eq_true_iff.mp h
  obtain ⟨h3, h⟩ := Bool.and_eq_true_iff.mp h
  obtain ⟨h4, h⟩ := Bool.and_eq_true_iff.mp h
  obtain ⟨h5, h⟩ := Bool.and_eq_true_iff.mp h
  obtain ⟨h6, h⟩ := Bool.and_eq_true_iff.mp h
  obtain ⟨h7, h⟩ := Bool.and_eq_true_iff.mp h
  obtain ⟨h8, h⟩ := Bool.and_eq_true_iff.mp h
  obtain ⟨h9, h⟩ := Bool.and_eq_true_iff.mp h
  obtain ⟨h10, h⟩ := Bool.and_eq_true_iff.mp h
  exact ⟨of_decide_eq_true h0, of_decide_eq_true h1, of_decide_eq_true h2, of_decide_eq_true h3, of_decide_eq_true h4, of_decide_eq_true h5, of_decide_eq_true h6, of_decide_eq_true h7, of_decide_eq_true h8, of_decide_eq_true h9, of_decide_eq_true h10, of_decide_eq_true h⟩
def hB5 (K : PySem.W.Frag) : Bool := (fun (aF : Addr) (CK : Addr) (CR : Addr) (CC : Addr) (CE : Addr) (CU : Addr) (CN : Addr) (CS : Addr) (CV : Addr) (aW : Addr) (tL : PySem.Tok) (tP : PySem.Tok) (tM : PySem.Tok) (tS : PySem.Tok) => decide (PySem.W.findIn K (.ref CV) "_put_text" = some (some (.ref (He.fAd K fn_28.at_)))) && (decide (PySem.W.isFn K (.ref (He.fAd K fn_28.at_)) = true) && (decide (PySem.W.keepIn K (.ref (He.fAd K fn_28.at_)) = true) && (decide (PySem.W.findIn K (.ref CV) "_check" = some (some (.ref (He.fAd K fn_29.at_)))) && (decide (PySem.W.isFn K (.ref (He.fAd K fn_29.at_)) = true) && (decide (PySem.W.keepIn K (.ref (He.fAd K fn_29.at_)) = true) && (decide (PySem.W.findIn K (.ref CV) "program" = some (some (.ref (He.fAd K fn_30.at_)))) && (decide (PySem.W.isFn K (.ref (He.fAd K fn_30.at_)) = true) && (decide (PySem.W.keepIn K (.ref (He.fAd K fn_30.at_)) = true) && (decide (PySem.W.findIn K (.ref CV) "open_file" = some (some (.ref (He.fAd K fn_31.at_)))) && (decide (PySem.W.isFn K (.ref (He.fAd K fn_31.at_)) = true) && (decide (PySem.W.keepIn K (.ref (He.fAd K fn_31.at_)) = true))))))))))))) (He.ga K "compute") (He.ga K "Keeper") (He.ga K "Run") (He.ga K "Cancelled") (He.ga K "InvalidEdit") (He.ga K "UnknownFile") (He.ga K "NothingToUndo") (He.ga K "ServerError") (He.ga K "Server") (He.ga K "WORDS") (tokOf (PySem.W.nsIn K mainGlobals "LONGEST")) (tokOf (PySem.W.nsIn K mainGlobals "PERCENT")) (tokOf (PySem.W.nsIn K mainGlobals "MOST_MODULES")) (tokOf (PySem.W.nsIn K mainGlobals "SIGNS"))
theorem hB5_ok {K : PySem.W.Frag} (h : hB5 K = true) : (PySem.W.findIn K (.ref (He.ga K "Server")) "_put_text" = some (some (.ref (He.fAd K fn_28.at_)))) ∧ (PySem.W.isFn K (.ref (He.fAd K fn_28.at_)) = true) ∧ (PySem.W.keepIn K (.ref (He.fAd K fn_28.at_)) = true) ∧ (PySem.W.findIn K (.ref (He.ga K "Server")) "_check" = some (some (.ref (He.fAd K fn_29.at_)))) ∧ (PySem.W.isFn K (.ref (He.fAd K fn_29.at_)) = true) ∧ (PySem.W.keepIn K (.ref (He.fAd K fn_29.at_)) = true) ∧ (PySem.W.findIn K (.ref (He.ga K "Server")) "program" = some (some (.ref (He.fAd K fn_30.at_)))) ∧ (PySem.W.isFn K (.ref (He.fAd K fn_30.at_)) = true) ∧ (PySem.W.keepIn K (.ref (He.fAd K fn_30.at_)) = true) ∧ (PySem.W.findIn K (.ref (He.ga K "Server")) "open_file" = some (some (.ref (He.fAd K fn_31.at_)))) ∧ (PySem.W.isFn K (.ref (He.fAd K fn_31.at_)) = true) ∧ (PySem.W.keepIn K (.ref (He.fAd K fn_31.at_)) = true) := by
  have h : (decide (PySem.W.findIn K (.ref (He.ga K "Server")) "_put_text" = some (some (.ref (He.fAd K fn_28.at_)))) && (decide (PySem.W.isFn K (.ref (He.fAd K fn_28.at_)) = true) && (decide (PySem.W.keepIn K (.ref (He.fAd K fn_28.at_)) = true) && (decide (PySem.W.findIn K (.ref (He.ga K "Server")) "_check" = some (some (.ref (He.fAd K fn_29.at_)))) && (decide (PySem.W.isFn K (.ref (He.fAd K fn_29.at_)) = true) && (decide (PySem.W.keepIn K (.ref (He.fAd K fn_29.at_)) = true) && (decide (PySem.W.findIn K (.ref (He.ga K "Server")) "program" = some (some (.ref (He.fAd K fn_30.at_)))) && (decide (PySem.W.isFn K (.ref (He.fAd K fn_30.at_)) = true) && (decide (PySem.W.keepIn K (.ref (He.fAd K fn_30.at_)) = true) && (decide (PySem.W.findIn K (.ref (He.ga K "Server")) "open_file" = some (some (.ref (He.fAd K fn_31.at_)))) && (decide (PySem.W.isFn K (.ref (He.fAd K fn_31.at_)) = true) && (decide (PySem.W.keepIn K (.ref (He.fAd K fn_31.at_)) = true))))))))))))) = true := h
  obtain ⟨h0, h⟩ := Bool.and_eq_true_iff.mp h
  obtain ⟨h1, h⟩ := Bool.and_eq_true_iff.mp h
  obtain ⟨h2, h⟩ := Bool.and_eq_true_iff.mp h
  obtain ⟨h3, h⟩ := Bool.and_eq_true_iff.mp h
  obtain ⟨h4, h⟩ := Bool.and_eq_true_iff.mp h
  obtain ⟨h5, h⟩ := Bool.and_eq_true_iff.mp h
  obtain ⟨h6, h⟩ := Bool.and_eq_true_iff.mp h
  obtain ⟨h7, h⟩ := Bool.and_eq_true_iff.mp h
  obtain ⟨h8, h⟩ := Bool.and_eq_true_iff.mp h
  obtain ⟨h9, h⟩ := Bool.and_eq_true_iff.mp h
  obtain ⟨h10, h⟩ := Bool.and_eq_true_iff.mp h
  exact ⟨of_decide_eq_true h0, of_decide_eq_true h1, of_decide_eq_true h2, of_decide_eq_true h3, of_decide_eq_true h4, of_decide_eq_true h5, of_decide_eq_true h6, of_decide_eq_true h7, of_decide_eq_true h8, of_decide_eq_true h9, of_decide_eq_true h10, of_decide_eq_true h⟩
def hB6 (K : PySem.W.Frag) : Bool := (fun (aF : Addr) (CK : Addr) (CR : Addr) (CC : Addr) (CE : Addr) (CU : Addr) (CN : Addr) (CS : Addr) (CV : Addr) (aW : Addr) (tL : PySem.Tok) (tP : PySem.Tok) (tM : PySem.Tok) (tS : PySem.Tok) => decide (PySem.W.findIn K (.ref CV) "edit" = some (some (.ref (He.fAd K fn_32.at_)))) && (decide (PySem.W.isFn K (.ref (He.fAd K fn_32.at_)) = true) && (decide (PySem.W.keepIn K (.ref (He.fAd K fn_32.at_)) = true) && (decide (PySem.W.findIn K (.ref CV) "_step" = some (some (.ref (He.fAd K fn_33.at_)))) && (decide (PySem.W.isFn K (.ref (He.fAd K fn_33.at_)) = true) && (decide (PySem.W.keepIn K (.ref (He.fAd K fn_33.at_)) = true) && (decide (PySem.W.findIn K (.ref CV) "undo" = some (some (.ref (He.fAd K fn_34.at_)))) && (decide (PySem.W.isFn K (.ref (He.fAd K fn_34.at_)) = true) && (decide (PySem.W.keepIn K (.ref (He.fAd K fn_34.at_)) = true) && (decide (PySem.W.findIn K (.ref CV) "redo" = some (some (.ref (He.fAd K fn_35.at_)))) && (decide (PySem.W.isFn K (.ref (He.fAd K fn_35.at_)) = true) && (decide (PySem.W.keepIn K (.ref (He.fAd K fn_35.at_)) = true))))))))))))) (He.ga K "compute") (He.ga K "Keeper") (He.ga K "Run") (He.ga K "Cancelled") (He.ga K "InvalidEdit") (He.ga K "UnknownFile") (He.ga K "NothingToUndo") (He.ga K "ServerError") (He.ga K "Server") (He.ga K "WORDS") (tokOf (PySem.W.nsIn K mainGlobals "LONGEST")) (tokOf (PySem.W.nsIn K mainGlobals "PERCENT")) (tokOf (PySem.W.nsIn K mainGlobals "MOST_MODULES")) (tokOf (PySem.W.nsIn K mainGlobals "SIGNS"))
theorem hB6_ok {K : PySem.W.Frag} (h : hB6 K = true) : (PySem.W.findIn K (.ref (He.ga K "Server")) "edit" = some (some (.ref (He.fAd K fn_32.at_)))) ∧ (PySem.W.isFn K (.ref (He.fAd K fn_32.at_)) = true) ∧ (PySem.W.keepIn K (.ref (He.fAd K fn_32.at_)) = true) ∧ (PySem.W.findIn K (.ref (He.ga K "Server")) "_step" = some (some (.ref (He.fAd K fn_33.at_)))) ∧ (PySem.W.isFn K (.ref (He.fAd K fn_33.at_)) = true) ∧ (PySem.W.keepIn K (.ref (He.fAd K fn_33.at_)) = true) ∧ (PySem.W.findIn K (.ref (He.ga K "Server")) "undo" = some (some (.ref (He.fAd K fn_34.at_)))) ∧ (PySem.W.isFn K (.ref (He.fAd K fn_34.at_)) = true) ∧ (PySem.W.keepIn K (.ref (He.fAd K fn_34.at_)) = true) ∧ (PySem.W.findIn K (.ref (He.ga K "Server")) "redo" = some (some (.ref (He.fAd K fn_35.at_)))) ∧ (PySem.W.isFn K (.ref (He.fAd K fn_35.at_)) = true) ∧ (PySem.W.keepIn K (.ref (He.fAd K fn_35.at_)) = true) := by
  have h : (decide (PySem.W.findIn K (.ref (He.ga K "Server")) "edit" = some (some (.ref (He.fAd K fn_32.at_)))) && (decide (PySem.W.isFn K (.ref (He.fAd K fn_32.at_)) = true) && (decide (PySem.W.keepIn K (.ref (He.fAd K fn_32.at_)) = true) && (decide (PySem.W.findIn K (.ref (He.ga K "Server")) "_step" = some (some (.ref (He.fAd K fn_33.at_)))) && (decide (PySem.W.isFn K (.ref (He.fAd K fn_33.at_)) = true) && (decide (PySem.W.keepIn K (.ref (He.fAd K fn_33.at_)) = true) && (decide (PySem.W.findIn K (.ref (He.ga K "Server")) "undo" = some (some (.ref (He.fAd K fn_34.at_)))) && (decide (PySem.W.isFn K (.ref (He.fAd K fn_34.at_)) = true) && (decide (PySem.W.keepIn K (.ref (He.fAd K fn_34.at_)) = true) && (decide (PySem.W.findIn K (.ref (He.ga K "Server")) "redo" = some (some (.ref (He.fAd K fn_35.at_)))) && (decide (PySem.W.isFn K (.ref (He.fAd K fn_35.at_)) = true) && (decide (PySem.W.keepIn K (.ref (He.fAd K fn_35.at_)) = true))))))))))))) = true := h
  obtain ⟨h0, h⟩ := Bool.and_eq_true_iff.mp h
  obtain ⟨h1, h⟩ := Bool.and_eq_true_iff.mp h
  obtain ⟨h2, h⟩ := Bool.and_eq_true_iff.mp h
  obtain ⟨h3, h⟩ := Bool.and_eq_true_iff.mp h
  obtain ⟨h4, h⟩ := Bool.and_eq_true_iff.mp h
  obtain ⟨h5, h⟩ := Bool.and_eq_true_iff.mp h
  obtain ⟨h6, h⟩ := Bool.and_eq_true_iff.mp h
  obtain ⟨h7, h⟩ := Bool.and_eq_true_iff.mp h
  obtain ⟨h8, h⟩ := Bool.and_eq_true_iff.mp h
  obtain ⟨h9, h⟩ := Bool.and_eq_true_iff.mp h
  obtain ⟨h10, h⟩ := Bool.and_eq_true_iff.mp h
  exact ⟨of_decide_eq_true h0, of_decide_eq_true h1, of_decide_eq_true h2, of_decide_eq_true h3, of_decide_eq_true h4, of_decide_eq_true h5, of_decide_eq_true h6, of_decide_eq_true h7, of_decide_eq_true h8, of_decide_eq_true h9, of_decide_eq_true h10, of_decide_eq_true h⟩
def hB7 (K : PySem.W.Frag) : Bool := (fun (aF : Addr) (CK : Addr) (CR : Addr) (CC : Addr) (CE : Addr) (CU : Addr) (CN : Addr) (CS : Addr) (CV : Addr) (aW : Addr) (tL : PySem.Tok) (tP : PySem.Tok) (tM : PySem.Tok) (tS : PySem.Tok) => decide (PySem.W.nsIn K mainGlobals "abs" = some none) && (decide (PySem.W.nsIn K mainGlobals "int" = some none) && (decide (PySem.W.nsIn K mainGlobals "len" = some none) && (decide (PySem.W.nsIn K mainGlobals "range" = some none) && (decide (PySem.W.nsIn K mainGlobals "isinstance" = some none) && (decide (PySem.W.nsIn K mainGlobals "bool" = some none) && (decide (PySem.W.nsIn K mainGlobals "str" = some none) && (decide (PySem.W.nsIn K mainGlobals "tuple" = some none) && (decide (PySem.W.nsIn K mainGlobals "list" = some none) && (decide (PySem.W.nsIn K mainGlobals "min" = some none) && (decide (PySem.W.nsIn K mainGlobals "ord" = some none) && (decide (PySem.W.nsIn K mainGlobals "dict" = some none))))))))))))) (He.ga K "compute") (He.ga K "Keeper") (He.ga K "Run") (He.ga K "Cancelled") (He.ga K "InvalidEdit") (He.ga K "UnknownFile") (He.ga K "NothingToUndo") (He.ga K "ServerError") (He.ga K "Server") (He.ga K "WORDS") (tokOf (PySem.W.nsIn K mainGlobals "LONGEST")) (tokOf (PySem.W.nsIn K mainGlobals "PERCENT")) (tokOf (PySem.W.nsIn K mainGlobals "MOST_MODULES")) (tokOf (PySem.W.nsIn K mainGlobals "SIGNS"))
theorem hB7_ok {K : PySem.W.Frag} (h : hB7 K = true) : (PySem.W.nsIn K mainGlobals "abs" = some none) ∧ (PySem.W.nsIn K mainGlobals "int" = some none) ∧ (PySem.W.nsIn K mainGlobals "len" = some none) ∧ (PySem.W.nsIn K mainGlobals "range" = some none) ∧ (PySem.W.nsIn K mainGlobals "isinstance" = some none) ∧ (PySem.W.nsIn K mainGlobals "bool" = some none) ∧ (PySem.W.nsIn K mainGlobals "str" = some none) ∧ (PySem.W.nsIn K mainGlobals "tuple" = some none) ∧ (PySem.W.nsIn K mainGlobals "list" = some none) ∧ (PySem.W.nsIn K mainGlobals "min" = some none) ∧ (PySem.W.nsIn K mainGlobals "ord" = some none) ∧ (PySem.W.nsIn K mainGlobals "dict" = some none) := by
  have h : (decide (PySem.W.nsIn K mainGlobals "abs" = some none) && (decide (PySem.W.nsIn K mainGlobals "int" = some none) && (decide (PySem.W.nsIn K mainGlobals "len" = some none) && (decide (PySem.W.nsIn K mainGlobals "range" = some none) && (decide (PySem.W.nsIn K mainGlobals "isinstance" = some none) && (decide (PySem.W.nsIn K mainGlobals "bool" = some none) && (decide (PySem.W.nsIn K mainGlobals "str" = some none) && (decide (PySem.W.nsIn K mainGlobals "tuple" = some none) && (decide (PySem.W.nsIn K mainGlobals "list" = some none) && (decide (PySem.W.nsIn K mainGlobals "min" = some none) && (decide (PySem.W.nsIn K mainGlobals "ord" = some none) && (decide (PySem.W.nsIn K mainGlobals "dict" = some none))))))))))))) = true := h
  obtain ⟨h0, h⟩ := Bool.and_eq_true_iff.mp h
  obtain ⟨h1, h⟩ := Bool.and_eq_true_iff.mp h
  obtain ⟨h2, h⟩ := Bool.and_eq_true_iff.mp h
  obtain ⟨h3, h⟩ := Bool.and_eq_true_iff.mp h
  obtain ⟨h4, h⟩ := Bool.and_eq_true_iff.mp h
  obtain ⟨h5, h⟩ := Bool.and_eq_true_iff.mp h
  obtain ⟨h6, h⟩ := Bool.and_eq_true_iff.mp h
  obtain ⟨h7, h⟩ := Bool.and_eq_true_iff.mp h
  obtain ⟨h8, h⟩ := Bool.and_eq_true_iff.mp h
  obtain ⟨h9, h⟩ := Bool.and_eq_true_iff.mp h
  obtain ⟨h10, h⟩ := Bool.and_eq_true_iff.mp h
  exact ⟨of_decide_eq_true h0, of_decide_eq_true h1, of_decide_eq_true h2, of_decide_eq_true h3, of_decide_eq_true h4, of_decide_eq_true h5, of_decide_eq_true h6, of_decide_eq_true h7, of_decide_eq_true h8, of_decide_eq_true h9, of_decide_eq_true h10, of_decide_eq_true h⟩
def hB8 (K : PySem.W.Frag) : Bool := (fun (aF : Addr) (CK : Addr) (CR : Addr) (CC : Addr) (CE : Addr) (CU : Addr) (CN : Addr) (CS : Addr) (CV : Addr) (aW : Addr) (tL : PySem.Tok) (tP : PySem.Tok) (tM : PySem.Tok) (tS : PySem.Tok) => decide (PySem.W.nsIn K mainGlobals "sorted" = some none) && (isI (PySem.W.nsIn K mainGlobals "LONGEST") 4000 && (isI (PySem.W.nsIn K mainGlobals "PERCENT") 37 && (isI (PySem.W.nsIn K mainGlobals "MOST_MODULES") 6 && (decide (PySem.W.nsIn K mainGlobals "WORDS" = some (some (.ref aW))) && (isS (PySem.W.nsIn K mainGlobals "SIGNS") "()[],:.=<+-*/" && (tupB K aW wds && (decide (PySem.W.nsIn K mainGlobals "compute" = some (some (.ref aF))) && (decide (PySem.W.nsIn K mainGlobals "Keeper" = some (some (.ref CK))) && (decide (PySem.W.nsIn K mainGlobals "Run" = some (some (.ref CR))) && (decide (PySem.W.nsIn K mainGlobals "Server" = some (some (.ref CV))) && (decide (PySem.W.nsIn K mainGlobals "ServerError" = some (some (.ref CS))))))))))))))) (He.ga K "compute") (He.ga K "Keeper") (He.ga K "Run") (He.ga K "Cancelled") (He.ga K "InvalidEdit") (He.ga K "UnknownFile") (He.ga K "NothingToUndo") (He.ga K "ServerError") (He.ga K "Server") (He.ga K "WORDS") (tokOf (PySem.W.nsIn K mainGlobals "LONGEST")) (tokOf (PySem.W.nsIn K mainGlobals "PERCENT")) (tokOf (PySem.W.nsIn K mainGlobals "MOST_MODULES")) (tokOf (PySem.W.nsIn K mainGlobals "SIGNS"))
theorem hB8_ok {K : PySem.W.Frag} (h : hB8 K = true) : (PySem.W.nsIn K mainGlobals "sorted" = some none) ∧ (PySem.W.nsIn K mainGlobals "LONGEST" = some (some (.int 4000 (tokOf (PySem.W.nsIn K mainGlobals "LONGEST"))))) ∧ (PySem.W.nsIn K mainGlobals "PERCENT" = some (some (.int 37 (tokOf (PySem.W.nsIn K mainGlobals "PERCENT"))))) ∧ (PySem.W.nsIn K mainGlobals "MOST_MODULES" = some (some (.int 6 (tokOf (PySem.W.nsIn K mainGlobals "MOST_MODULES"))))) ∧ (PySem.W.nsIn K mainGlobals "WORDS" = some (some (.ref (He.ga K "WORDS")))) ∧ (PySem.W.nsIn K mainGlobals "SIGNS" = some (some (.str "()[],:.=<+-*/" (tokOf (PySem.W.nsIn K mainGlobals "SIGNS"))))) ∧ (∃ (o : Obj) (its : Array Value) (n : Nat), K.lookup (He.ga K "WORDS") = some o ∧ o.cls = .type "tuple" ∧ o.data = .seq its n ∧ its.size ≤ sizeLine ∧ Vals (wds.map V.str) its.toList) ∧ (PySem.W.nsIn K mainGlobals "compute" = some (some (.ref (He.ga K "compute")))) ∧ (PySem.W.nsIn K mainGlobals "Keeper" = some (some (.ref (He.ga K "Keeper")))) ∧ (PySem.W.nsIn K mainGlobals "Run" = some (some (.ref (He.ga K "Run")))) ∧ (PySem.W.nsIn K mainGlobals "Server" = some (some (.ref (He.ga K "Server")))) ∧ (PySem.W.nsIn K mainGlobals "ServerError" = some (some (.ref (He.ga K "ServerError")))) := by
  have h : (decide (PySem.W.nsIn K mainGlobals "sorted" = some none) && (isI (PySem.W.nsIn K mainGlobals "LONGEST") 4000 && (isI (PySem.W.nsIn K mainGlobals "PERCENT") 37 && (isI (PySem.W.nsIn K mainGlobals "MOST_MODULES") 6 && (decide (PySem.W.nsIn K mainGlobals "WORDS" = some (some (.ref (He.ga K "WORDS")))) && (isS (PySem.W.nsIn K mainGlobals "SIGNS") "()[],:.=<+-*/" && (tupB K (He.ga K "WORDS") wds && (decide (PySem.W.nsIn K mainGlobals "compute" = some (some (.ref (He.ga K "compute")))) && (decide (PySem.W.nsIn K mainGlobals "Keeper" = some (some (.ref (He.ga K "Keeper")))) && (decide (PySem.W.nsIn K mainGlobals "Run" = some (some (.ref (He.ga K "Run")))) && (decide (PySem.W.nsIn K mainGlobals "Server" = some (some (.ref (He.ga K "Server")))) && (decide (PySem.W.nsIn K mainGlobals "ServerError" = some (some (.ref (He.ga K "ServerError")))))))))))))))) = true := h
  obtain ⟨h0, h⟩ := Bool.and_eq_true_iff.mp h
  obtain ⟨h1, h⟩ := Bool.and_eq_true_iff.mp h
  obtain ⟨h2, h⟩ := Bool.and_eq_true_iff.mp h
  obtain ⟨h3, h⟩ := Bool.and_eq_true_iff.mp h
  obtain ⟨h4, h⟩ := Bool.and_eq_true_iff.mp h
  obtain ⟨h5, h⟩ := Bool.and_eq_true_iff.mp h
  obtain ⟨h6, h⟩ := Bool.and_eq_true_iff.mp h
  obtain ⟨h7, h⟩ := Bool.and_eq_true_iff.mp h
  obtain ⟨h8, h⟩ := Bool.and_eq_true_iff.mp h
  obtain ⟨h9, h⟩ := Bool.and_eq_true_iff.mp h
  obtain ⟨h10, h⟩ := Bool.and_eq_true_iff.mp h
  exact ⟨of_decide_eq_true h0, isI_ok h1, isI_ok h2, isI_ok h3, of_decide_eq_true h4, isS_ok h5, tupB_ok h6, of_decide_eq_true h7, of_decide_eq_true h8, of_decide_eq_true h9, of_decide_eq_true h10, of_decide_eq_true h⟩
def hB9 (K : PySem.W.Frag) : Bool := (fun (aF : Addr) (CK : Addr) (CR : Addr) (CC : Addr) (CE : Addr) (CU : Addr) (CN : Addr) (CS : Addr) (CV : Addr) (aW : Addr) (tL : PySem.Tok) (tP : PySem.Tok) (tM : PySem.Tok) (tS : PySem.Tok) => decide (PySem.W.plainGet K CK Str.empty = true) && (decide (PySem.W.hasDictIn K CK = true) && (decide (PySem.W.plainOver K CK = true) && (decide (PySem.W.findIn K (.ref CK) "__setattr__" = some (some (.builtin "object.__setattr__"))) && (decide (PySem.W.makesIn K CK = true) && (decide (PySem.W.keepIn K (.ref CK) = true) && (decide (PySem.W.plainGet K CR Str.empty = true) && (decide (PySem.W.hasDictIn K CR = true) && (decide (PySem.W.plainOver K CR = true) && (decide (PySem.W.findIn K (.ref CR) "__setattr__" = some (some (.builtin "object.__setattr__"))) && (decide (PySem.W.makesIn K CR = true) && (decide (PySem.W.keepIn K (.ref CR) = true))))))))))))) (He.ga K "compute") (He.ga K "Keeper") (He.ga K "Run") (He.ga K "Cancelled") (He.ga K "InvalidEdit") (He.ga K "UnknownFile") (He.ga K "NothingToUndo") (He.ga K "ServerError") (He.ga K "Server") (He.ga K "WORDS") (tokOf (PySem.W.nsIn K mainGlobals "LONGEST")) (tokOf (PySem.W.nsIn K mainGlobals "PERCENT")) (tokOf (PySem.W.nsIn K mainGlobals "MOST_MODULES")) (tokOf (PySem.W.nsIn K mainGlobals "SIGNS"))
theorem hB9_ok {K : PySem.W.Frag} (h : hB9 K = true) : (PySem.W.plainGet K (He.ga K "Keeper") Str.empty = true) ∧ (PySem.W.hasDictIn K (He.ga K "Keeper") = true) ∧ (PySem.W.plainOver K (He.ga K "Keeper") = true) ∧ (PySem.W.findIn K (.ref (He.ga K "Keeper")) "__setattr__" = some (some (.builtin "object.__setattr__"))) ∧ (PySem.W.makesIn K (He.ga K "Keeper") = true) ∧ (PySem.W.keepIn K (.ref (He.ga K "Keeper")) = true) ∧ (PySem.W.plainGet K (He.ga K "Run") Str.empty = true) ∧ (PySem.W.hasDictIn K (He.ga K "Run") = true) ∧ (PySem.W.plainOver K (He.ga K "Run") = true) ∧ (PySem.W.findIn K (.ref (He.ga K "Run")) "__setattr__" = some (some (.builtin "object.__setattr__"))) ∧ (PySem.W.makesIn K (He.ga K "Run") = true) ∧ (PySem.W.keepIn K (.ref (He.ga K "Run")) = true) := by
  have h : (decide (PySem.W.plainGet K (He.ga K "Keeper") Str.empty = true) && (decide (PySem.W.hasDictIn K (He.ga K "Keeper") = true) && (decide (PySem.W.plainOver K (He.ga K "Keeper") = true) && (decide (PySem.W.findIn K (.ref (He.ga K "Keeper")) "__setattr__" = some (some (.builtin "object.__setattr__"))) && (decide (PySem.W.makesIn K (He.ga K "Keeper") = true) && (decide (PySem.W.keepIn K (.ref (He.ga K "Keeper")) = true) && (decide (PySem.W.plainGet K (He.ga K "Run") Str.empty = true) && (decide (PySem.W.hasDictIn K (He.ga K "Run") = true) && (decide (PySem.W.plainOver K (He.ga K "Run") = true) && (decide (PySem.W.findIn K (.ref (He.ga K "Run")) "__setattr__" = some (some (.builtin "object.__setattr__"))) && (decide (PySem.W.makesIn K (He.ga K "Run") = true) && (decide (PySem.W.keepIn K (.ref (He.ga K "Run")) = true))))))))))))) = true := h
  obtain ⟨h0, h⟩ := Bool.and_eq_true_iff.mp h
  obtain ⟨h1, h⟩ := Bool.and_eq_true_iff.mp h
  obtain ⟨h2, h⟩ := Bool.and_eq_true_iff.mp h
  obtain ⟨h3, h⟩ := Bool.and_eq_true_iff.mp h
  obtain ⟨h4, h⟩ := Bool.and_eq_true_iff.mp h
  obtain ⟨h5, h⟩ := Bool.and_eq_true_iff.mp h
  obtain ⟨h6, h⟩ := Bool.and_eq_true_iff.mp h
  obtain ⟨h7, h⟩ := Bool.and_eq_true_iff.mp h
  obtain ⟨h8, h⟩ := Bool.and_eq_true_iff.mp h
  obtain ⟨h9, h⟩ := Bool.and_eq_true_iff.mp h
  obtain ⟨h10, h⟩ := Bool.and_eq_true_iff.mp h
  exact ⟨of_decide_eq_true h0, of_decide_eq_true h1, of_decide_eq_true h2, of_decide_eq_true h3, of_decide_eq_true h4, of_decide_eq_true h5, of_decide_eq_true h6, of_decide_eq_true h7, of_decide_eq_true h8, of_decide_eq_true h9, of_decide_eq_true h10, of_decide_eq_true h⟩
def hB10 (K : PySem.W.Frag) : Bool := (fun (aF : Addr) (CK : Addr) (CR : Addr) (CC : Addr) (CE : Addr) (CU : Addr) (CN : Addr) (CS : Addr) (CV : Addr) (aW : Addr) (tL : PySem.Tok) (tP : PySem.Tok) (tM : PySem.Tok) (tS : PySem.Tok) => decide (PySem.W.plainGet K CV Str.empty = true) && (decide (PySem.W.hasDictIn K CV = true) && (decide (PySem.W.plainOver K CV = true) && (decide (PySem.W.findIn K (.ref CV) "__setattr__" = some (some (.builtin "object.__setattr__"))) && (decide (PySem.W.makesIn K CV = true) && (decide (PySem.W.keepIn K (.ref CV) = true) && (decide (PySem.W.findIn K (.ref CK) "_function" = some none) && (decide (PySem.W.findIn K (.ref CK) "_now" = some none) && (decide (PySem.W.findIn K (.ref CK) "_left" = some none) && (decide (PySem.W.findIn K (.ref CK) "_inputs" = some none) && (decide (PySem.W.findIn K (.ref CK) "_entries" = some none) && (decide (PySem.W.findIn K (.ref CK) "_runs" = some none))))))))))))) (He.ga K "compute") (He.ga K "Keeper") (He.ga K "Run") (He.ga K "Cancelled") (He.ga K "InvalidEdit") (He.ga K "UnknownFile") (He.ga K "NothingToUndo") (He.ga K "ServerError") (He.ga K "Server") (He.ga K "WORDS") (tokOf (PySem.W.nsIn K mainGlobals "LONGEST")) (tokOf (PySem.W.nsIn K mainGlobals "PERCENT")) (tokOf (PySem.W.nsIn K mainGlobals "MOST_MODULES")) (tokOf (PySem.W.nsIn K mainGlobals "SIGNS"))
theorem hB10_ok {K : PySem.W.Frag} (h : hB10 K = true) : (PySem.W.plainGet K (He.ga K "Server") Str.empty = true) ∧ (PySem.W.hasDictIn K (He.ga K "Server") = true) ∧ (PySem.W.plainOver K (He.ga K "Server") = true) ∧ (PySem.W.findIn K (.ref (He.ga K "Server")) "__setattr__" = some (some (.builtin "object.__setattr__"))) ∧ (PySem.W.makesIn K (He.ga K "Server") = true) ∧ (PySem.W.keepIn K (.ref (He.ga K "Server")) = true) ∧ (PySem.W.findIn K (.ref (He.ga K "Keeper")) "_function" = some none) ∧ (PySem.W.findIn K (.ref (He.ga K "Keeper")) "_now" = some none) ∧ (PySem.W.findIn K (.ref (He.ga K "Keeper")) "_left" = some none) ∧ (PySem.W.findIn K (.ref (He.ga K "Keeper")) "_inputs" = some none) ∧ (PySem.W.findIn K (.ref (He.ga K "Keeper")) "_entries" = some none) ∧ (PySem.W.findIn K (.ref (He.ga K "Keeper")) "_runs" = some none) := by
  have h : (decide (PySem.W.plainGet K (He.ga K "Server") Str.empty = true) && (decide (PySem.W.hasDictIn K (He.ga K "Server") = true) && (decide (PySem.W.plainOver K (He.ga K "Server") = true) && (decide (PySem.W.findIn K (.ref (He.ga K "Server")) "__setattr__" = some (some (.builtin "object.__setattr__"))) && (decide (PySem.W.makesIn K (He.ga K "Server") = true) && (decide (PySem.W.keepIn K (.ref (He.ga K "Server")) = true) && (decide (PySem.W.findIn K (.ref (He.ga K "Keeper")) "_function" = some none) && (decide (PySem.W.findIn K (.ref (He.ga K "Keeper")) "_now" = some none) && (decide (PySem.W.findIn K (.ref (He.ga K "Keeper")) "_left" = some none) && (decide (PySem.W.findIn K (.ref (He.ga K "Keeper")) "_inputs" = some none) && (decide (PySem.W.findIn K (.ref (He.ga K "Keeper")) "_entries" = some none) && (decide (PySem.W.findIn K (.ref (He.ga K "Keeper")) "_runs" = some none))))))))))))) = true := h
  obtain ⟨h0, h⟩ := Bool.and_eq_true_iff.mp h
  obtain ⟨h1, h⟩ := Bool.and_eq_true_iff.mp h
  obtain ⟨h2, h⟩ := Bool.and_eq_true_iff.mp h
  obtain ⟨h3, h⟩ := Bool.and_eq_true_iff.mp h
  obtain ⟨h4, h⟩ := Bool.and_eq_true_iff.mp h
  obtain ⟨h5, h⟩ := Bool.and_eq_true_iff.mp h
  obtain ⟨h6, h⟩ := Bool.and_eq_true_iff.mp h
  obtain ⟨h7, h⟩ := Bool.and_eq_true_iff.mp h
  obtain ⟨h8, h⟩ := Bool.and_eq_true_iff.mp h
  obtain ⟨h9, h⟩ := Bool.and_eq_true_iff.mp h
  obtain ⟨h10, h⟩ := Bool.and_eq_true_iff.mp h
  exact ⟨of_decide_eq_true h0, of_decide_eq_true h1, of_decide_eq_true h2, of_decide_eq_true h3, of_decide_eq_true h4, of_decide_eq_true h5, of_decide_eq_true h6, of_decide_eq_true h7, of_decide_eq_true h8, of_decide_eq_true h9, of_decide_eq_true h10, of_decide_eq_true h⟩
def hB11 (K : PySem.W.Frag) : Bool := (fun (aF : Addr) (CK : Addr) (CR : Addr) (CC : Addr) (CE : Addr) (CU : Addr) (CN : Addr) (CS : Addr) (CV : Addr) (aW : Addr) (tL : PySem.Tok) (tP : PySem.Tok) (tM : PySem.Tok) (tS : PySem.Tok) => decide (PySem.W.findIn K (.ref CK) "_asked" = some none) && (decide (PySem.W.findIn K (.ref CK) "_ended" = some none) && (decide (PySem.W.findIn K (.ref CR) "live" = some none) && (decide (PySem.W.findIn K (.ref CV) "_texts" = some none) && (decide (PySem.W.findIn K (.ref CV) "_keeper" = some none) && (decide (PySem.W.findIn K (.ref CV) "_done" = some none) && (decide (PySem.W.findIn K (.ref CV) "_undone" = some none) && (decide (PySem.W.nsIn K mainGlobals "InvalidEdit" = some (some (.ref CE))) && (decide (PySem.W.excIn K CE [.type "ValueError", .type "Exception", .type "BaseException", .type "object"] "ValueError.__new__" = true) && (decide (PySem.W.keepIn K (.ref CE) = true) && (decide (PySem.W.subIn K (.ref CE) (.type "BaseException") = some true) && (decide (PySem.W.typeIn K (.ref CE) = some (.type "type")))))))))))))) (He.ga K "compute") (He.ga K "Keeper") (He.ga K "Run") (He.ga K "Cancelled") (He.ga K "InvalidEdit") (He.ga K "UnknownFile") (He.ga K "NothingToUndo") (He.ga K "ServerError") (He.ga K "Server") (He.ga K "WORDS") (tokOf (PySem.W.nsIn K mainGlobals "LONGEST")) (tokOf (PySem.W.nsIn K mainGlobals "PERCENT")) (tokOf (PySem.W.nsIn K mainGlobals "MOST_MODULES")) (tokOf (PySem.W.nsIn K mainGlobals "SIGNS"))
theorem hB11_ok {K : PySem.W.Frag} (h : hB11 K = true) : (PySem.W.findIn K (.ref (He.ga K "Keeper")) "_asked" = some none) ∧ (PySem.W.findIn K (.ref (He.ga K "Keeper")) "_ended" = some none) ∧ (PySem.W.findIn K (.ref (He.ga K "Run")) "live" = some none) ∧ (PySem.W.findIn K (.ref (He.ga K "Server")) "_texts" = some none) ∧ (PySem.W.findIn K (.ref (He.ga K "Server")) "_keeper" = some none) ∧ (PySem.W.findIn K (.ref (He.ga K "Server")) "_done" = some none) ∧ (PySem.W.findIn K (.ref (He.ga K "Server")) "_undone" = some none) ∧ (PySem.W.nsIn K mainGlobals "InvalidEdit" = some (some (.ref (He.ga K "InvalidEdit")))) ∧ (PySem.W.excIn K (He.ga K "InvalidEdit") [.type "ValueError", .type "Exception", .type "BaseException", .type "object"] "ValueError.__new__" = true) ∧ (PySem.W.keepIn K (.ref (He.ga K "InvalidEdit")) = true) ∧ (PySem.W.subIn K (.ref (He.ga K "InvalidEdit")) (.type "BaseException") = some true) ∧ (PySem.W.typeIn K (.ref (He.ga K "InvalidEdit")) = some (.type "type")) := by
  have h : (decide (PySem.W.findIn K (.ref (He.ga K "Keeper")) "_asked" = some none) && (decide (PySem.W.findIn K (.ref (He.ga K "Keeper")) "_ended" = some none) && (decide (PySem.W.findIn K (.ref (He.ga K "Run")) "live" = some none) && (decide (PySem.W.findIn K (.ref (He.ga K "Server")) "_texts" = some none) && (decide (PySem.W.findIn K (.ref (He.ga K "Server")) "_keeper" = some none) && (decide (PySem.W.findIn K (.ref (He.ga K "Server")) "_done" = some none) && (decide (PySem.W.findIn K (.ref (He.ga K "Server")) "_undone" = some none) && (decide (PySem.W.nsIn K mainGlobals "InvalidEdit" = some (some (.ref (He.ga K "InvalidEdit")))) && (decide (PySem.W.excIn K (He.ga K "InvalidEdit") [.type "ValueError", .type "Exception", .type "BaseException", .type "object"] "ValueError.__new__" = true) && (decide (PySem.W.keepIn K (.ref (He.ga K "InvalidEdit")) = true) && (decide (PySem.W.subIn K (.ref (He.ga K "InvalidEdit")) (.type "BaseException") = some true) && (decide (PySem.W.typeIn K (.ref (He.ga K "InvalidEdit")) = some (.type "type")))))))))))))) = true := h
  obtain ⟨h0, h⟩ := Bool.and_eq_true_iff.mp h
  obtain ⟨h1, h⟩ := Bool.and_eq_true_iff.mp h
  obtain ⟨h2, h⟩ := Bool.and_eq_true_iff.mp h
  obtain ⟨h3, h⟩ := Bool.and_eq_true_iff.mp h
  obtain ⟨h4, h⟩ := Bool.and_eq_true_iff.mp h
  obtain ⟨h5, h⟩ := Bool.and_eq_true_iff.mp h
  obtain ⟨h6, h⟩ := Bool.and_eq_true_iff.mp h
  obtain ⟨h7, h⟩ := Bool.and_eq_true_iff.mp h
  obtain ⟨h8, h⟩ := Bool.and_eq_true_iff.mp h
  obtain ⟨h9, h⟩ := Bool.and_eq_true_iff.mp h
  obtain ⟨h10, h⟩ := Bool.and_eq_true_iff.mp h
  exact ⟨of_decide_eq_true h0, of_decide_eq_true h1, of_decide_eq_true h2, of_decide_eq_true h3, of_decide_eq_true h4, of_decide_eq_true h5, of_decide_eq_true h6, of_decide_eq_true h7, of_decide_eq_true h8, of_decide_eq_true h9, of_decide_eq_true h10, of_decide_eq_true h⟩
def hB12 (K : PySem.W.Frag) : Bool := (fun (aF : Addr) (CK : Addr) (CR : Addr) (CC : Addr) (CE : Addr) (CU : Addr) (CN : Addr) (CS : Addr) (CV : Addr) (aW : Addr) (tL : PySem.Tok) (tP : PySem.Tok) (tM : PySem.Tok) (tS : PySem.Tok) => decide (PySem.W.exmOne K (.ref CE) (.ref CE) = some true) && (decide (PySem.W.nsIn K mainGlobals "Cancelled" = some (some (.ref CC))) && (decide (PySem.W.excIn K CC [.type "ValueError", .type "Exception", .type "BaseException", .type "object"] "ValueError.__new__" = true) && (decide (PySem.W.keepIn K (.ref CC) = true) && (decide (PySem.W.subIn K (.ref CC) (.type "BaseException") = some true) && (decide (PySem.W.typeIn K (.ref CC) = some (.type "type")) && (decide (PySem.W.exmOne K (.ref CC) (.ref CC) = some true) && (decide (PySem.W.nsIn K mainGlobals "UnknownFile" = some (some (.ref CU))) && (decide (PySem.W.excIn K CU [.type "ValueError", .type "Exception", .type "BaseException", .type "object"] "ValueError.__new__" = true) && (decide (PySem.W.keepIn K (.ref CU) = true) && (decide (PySem.W.subIn K (.ref CU) (.type "BaseException") = some true) && (decide (PySem.W.typeIn K (.ref CU) = some (.type "type")))))))))))))) (He.ga K "compute") (He.ga K "Keeper") (He.ga K "Run") (He.ga K "Cancelled") (He.ga K "InvalidEdit") (He.ga K "UnknownFile") (He.ga K "NothingToUndo") (He.ga K "ServerError") (He.ga K "Server") (He.ga K "WORDS") (tokOf (PySem.W.nsIn K mainGlobals "LONGEST")) (tokOf (PySem.W.nsIn K mainGlobals "PERCENT")) (tokOf (PySem.W.nsIn K mainGlobals "MOST_MODULES")) (tokOf (PySem.W.nsIn K mainGlobals "SIGNS"))
theorem hB12_ok {K : PySem.W.Frag} (h : hB12 K = true) : (PySem.W.exmOne K (.ref (He.ga K "InvalidEdit")) (.ref (He.ga K "InvalidEdit")) = some true) ∧ (PySem.W.nsIn K mainGlobals "Cancelled" = some (some (.ref (He.ga K "Cancelled")))) ∧ (PySem.W.excIn K (He.ga K "Cancelled") [.type "ValueError", .type "Exception", .type "BaseException", .type "object"] "ValueError.__new__" = true) ∧ (PySem.W.keepIn K (.ref (He.ga K "Cancelled")) = true) ∧ (PySem.W.subIn K (.ref (He.ga K "Cancelled")) (.type "BaseException") = some true) ∧ (PySem.W.typeIn K (.ref (He.ga K "Cancelled")) = some (.type "type")) ∧ (PySem.W.exmOne K (.ref (He.ga K "Cancelled")) (.ref (He.ga K "Cancelled")) = some true) ∧ (PySem.W.nsIn K mainGlobals "UnknownFile" = some (some (.ref (He.ga K "UnknownFile")))) ∧ (PySem.W.excIn K (He.ga K "UnknownFile") [.type "ValueError", .type "Exception", .type "BaseException", .type "object"] "ValueError.__new__" = true) ∧ (PySem.W.keepIn K (.ref (He.ga K "UnknownFile")) = true) ∧ (PySem.W.subIn K (.ref (He.ga K "UnknownFile")) (.type "BaseException") = some true) ∧ (PySem.W.typeIn K (.ref (He.ga K "UnknownFile")) = some (.type "type")) := by
  have h : (decide (PySem.W.exmOne K (.ref (He.ga K "InvalidEdit")) (.ref (He.ga K "InvalidEdit")) = some true) && (decide (PySem.W.nsIn K mainGlobals "Cancelled" = some (some (.ref (He.ga K "Cancelled")))) && (decide (PySem.W.excIn K (He.ga K "Cancelled") [.type "ValueError", .type "Exception", .type "BaseException", .type "object"] "ValueError.__new__" = true) && (decide (PySem.W.keepIn K (.ref (He.ga K "Cancelled")) = true) && (decide (PySem.W.subIn K (.ref (He.ga K "Cancelled")) (.type "BaseException") = some true) && (decide (PySem.W.typeIn K (.ref (He.ga K "Cancelled")) = some (.type "type")) && (decide (PySem.W.exmOne K (.ref (He.ga K "Cancelled")) (.ref (He.ga K "Cancelled")) = some true) && (decide (PySem.W.nsIn K mainGlobals "UnknownFile" = some (some (.ref (He.ga K "UnknownFile")))) && (decide (PySem.W.excIn K (He.ga K "UnknownFile") [.type "ValueError", .type "Exception", .type "BaseException", .type "object"] "ValueError.__new__" = true) && (decide (PySem.W.keepIn K (.ref (He.ga K "UnknownFile")) = true) && (decide (PySem.W.subIn K (.ref (He.ga K "UnknownFile")) (.type "BaseException") = some true) && (decide (PySem.W.typeIn K (.ref (He.ga K "UnknownFile")) = some (.type "type")))))))))))))) = true := h
  obtain ⟨h0, h⟩ := Bool.and_eq_true_iff.mp h
  obtain ⟨h1, h⟩ := Bool.and_eq_true_iff.mp h
  obtain ⟨h2, h⟩ := Bool.and_eq_true_iff.mp h
  obtain ⟨h3, h⟩ := Bool.and_eq_true_iff.mp h
  obtain ⟨h4, h⟩ := Bool.and_eq_true_iff.mp h
  obtain ⟨h5, h⟩ := Bool.and_eq_true_iff.mp h
  obtain ⟨h6, h⟩ := Bool.and_eq_true_iff.mp h
  obtain ⟨h7, h⟩ := Bool.and_eq_true_iff.mp h
  obtain ⟨h8, h⟩ := Bool.and_eq_true_iff.mp h
  obtain ⟨h9, h⟩ := Bool.and_eq_true_iff.mp h
  obtain ⟨h10, h⟩ := Bool.and_eq_true_iff.mp h
  exact ⟨of_decide_eq_true h0, of_decide_eq_true h1, of_decide_eq_true h2, of_decide_eq_true h3, of_decide_eq_true h4, of_decide_eq_true h5, of_decide_eq_true h6, of_decide_eq_true h7, of_decide_eq_true h8, of_decide_eq_true h9, of_decide_eq_true h10, of_decide_eq_true h⟩
def hB13 (K : PySem.W.Frag) : Bool := (fun (aF : Addr) (CK : Addr) (CR : Addr) (CC : Addr) (CE : Addr) (CU : Addr) (CN : Addr) (CS : Addr) (CV : Addr) (aW : Addr) (tL : PySem.Tok) (tP : PySem.Tok) (tM : PySem.Tok) (tS : PySem.Tok) => decide (PySem.W.exmOne K (.ref CU) (.ref CU) = some true) && (decide (PySem.W.nsIn K mainGlobals "NothingToUndo" = some (some (.ref CN))) && (decide (PySem.W.excIn K CN [.type "ValueError", .type "Exception", .type "BaseException", .type "object"] "ValueError.__new__" = true) && (decide (PySem.W.keepIn K (.ref CN) = true) && (decide (PySem.W.subIn K (.ref CN) (.type "BaseException") = some true) && (decide (PySem.W.typeIn K (.ref CN) = some (.type "type")) && (decide (PySem.W.exmOne K (.ref CN) (.ref CN) = some true) && (decide (PySem.W.findIn K (.ref CN) "__getattribute__" = some (some (.builtin "BaseException.__getattribute__"))) && (decide (PySem.W.findIn K (.ref CN) "__getattr__" = some none) && (decide (PySem.W.hasDictIn K CN = true) && (decide (PySem.W.findIn K (.ref CN) "__class__" = some (some (.builtin "object.__class__"))) && (decide (PySem.W.specialIn K (.builtin "object.__class__") "__get__" = some (some (.builtin "getset_descriptor.__get__"))))))))))))))) (He.ga K "compute") (He.ga K "Keeper") (He.ga K "Run") (He.ga K "Cancelled") (He.ga K "InvalidEdit") (He.ga K "UnknownFile") (He.ga K "NothingToUndo") (He.ga K "ServerError") (He.ga K "Server") (He.ga K "WORDS") (tokOf (PySem.W.nsIn K mainGlobals "LONGEST")) (tokOf (PySem.W.nsIn K mainGlobals "PERCENT")) (tokOf (PySem.W.nsIn K mainGlobals "MOST_MODULES")) (tokOf (PySem.W.nsIn K mainGlobals "SIGNS"))
theorem hB13_ok {K : PySem.W.Frag} (h : hB13 K = true) : (PySem.W.exmOne K (.ref (He.ga K "UnknownFile")) (.ref (He.ga K "UnknownFile")) = some true) ∧ (PySem.W.nsIn K mainGlobals "NothingToUndo" = some (some (.ref (He.ga K "NothingToUndo")))) ∧ (PySem.W.excIn K (He.ga K "NothingToUndo") [.type "ValueError", .type "Exception", .type "BaseException", .type "object"] "ValueError.__new__" = true) ∧ (PySem.W.keepIn K (.ref (He.ga K "NothingToUndo")) = true) ∧ (PySem.W.subIn K (.ref (He.ga K "NothingToUndo")) (.type "BaseException") = some true) ∧ (PySem.W.typeIn K (.ref (He.ga K "NothingToUndo")) = some (.type "type")) ∧ (PySem.W.exmOne K (.ref (He.ga K "NothingToUndo")) (.ref (He.ga K "NothingToUndo")) = some true) ∧ (PySem.W.findIn K (.ref (He.ga K "NothingToUndo")) "__getattribute__" = some (some (.builtin "BaseException.__getattribute__"))) ∧ (PySem.W.findIn K (.ref (He.ga K "NothingToUndo")) "__getattr__" = some none) ∧ (PySem.W.hasDictIn K (He.ga K "NothingToUndo") = true) ∧ (PySem.W.findIn K (.ref (He.ga K "NothingToUndo")) "__class__" = some (some (.builtin "object.__class__"))) ∧ (PySem.W.specialIn K (.builtin "object.__class__") "__get__" = some (some (.builtin "getset_descriptor.__get__"))) := by
  have h : (decide (PySem.W.exmOne K (.ref (He.ga K "UnknownFile")) (.ref (He.ga K "UnknownFile")) = some true) && (decide (PySem.W.nsIn K mainGlobals "NothingToUndo" = some (some (.ref (He.ga K "NothingToUndo")))) && (decide (PySem.W.excIn K (He.ga K "NothingToUndo") [.type "ValueError", .type "Exception", .type "BaseException", .type "object"] "ValueError.__new__" = true) && (decide (PySem.W.keepIn K (.ref (He.ga K "NothingToUndo")) = true) && (decide (PySem.W.subIn K (.ref (He.ga K "NothingToUndo")) (.type "BaseException") = some true) && (decide (PySem.W.typeIn K (.ref (He.ga K "NothingToUndo")) = some (.type "type")) && (decide (PySem.W.exmOne K (.ref (He.ga K "NothingToUndo")) (.ref (He.ga K "NothingToUndo")) = some true) && (decide (PySem.W.findIn K (.ref (He.ga K "NothingToUndo")) "__getattribute__" = some (some (.builtin "BaseException.__getattribute__"))) && (decide (PySem.W.findIn K (.ref (He.ga K "NothingToUndo")) "__getattr__" = some none) && (decide (PySem.W.hasDictIn K (He.ga K "NothingToUndo") = true) && (decide (PySem.W.findIn K (.ref (He.ga K "NothingToUndo")) "__class__" = some (some (.builtin "object.__class__"))) && (decide (PySem.W.specialIn K (.builtin "object.__class__") "__get__" = some (some (.builtin "getset_descriptor.__get__"))))))))))))))) = true := h
  obtain ⟨h0, h⟩ := Bool.and_eq_true_iff.mp h
  obtain ⟨h1, h⟩ := Bool.and_eq_true_iff.mp h
  obtain ⟨h2, h⟩ := Bool.and_eq_true_iff.mp h
  obtain ⟨h3, h⟩ := Bool.and_eq_true_iff.mp h
  obtain ⟨h4, h⟩ := Bool.and_eq_true_iff.mp h
  obtain ⟨h5, h⟩ := Bool.and_eq_true_iff.mp h
  obtain ⟨h6, h⟩ := Bool.and_eq_true_iff.mp h
  obtain ⟨h7, h⟩ := Bool.and_eq_true_iff.mp h
  obtain ⟨h8, h⟩ := Bool.and_eq_true_iff.mp h
  obtain ⟨h9, h⟩ := Bool.and_eq_true_iff.mp h
  obtain ⟨h10, h⟩ := Bool.and_eq_true_iff.mp h
  exact ⟨of_decide_eq_true h0, of_decide_eq_true h1, of_decide_eq_true h2, of_decide_eq_true h3, of_decide_eq_true h4, of_decide_eq_true h5, of_decide_eq_true h6, of_decide_eq_true h7, of_decide_eq_true h8, of_decide_eq_true h9, of_decide_eq_true h10, of_decide_eq_true h⟩
def hB14 (K : PySem.W.Frag) : Bool := (fun (aF : Addr) (CK : Addr) (CR : Addr) (CC : Addr) (CE : Addr) (CU : Addr) (CN : Addr) (CS : Addr) (CV : Addr) (aW : Addr) (tL : PySem.Tok) (tP : PySem.Tok) (tM : PySem.Tok) (tS : PySem.Tok) => decide (PySem.W.takesIn K (.builtin "object.__class__") = some true) && (decide (PySem.W.mroIn K CN (.type "object") = some true) && (decide (PySem.W.kitOne K (.ref CN) (.ref CS) = some true) && (decide (PySem.W.exmOne K (.ref CE) (.ref CN) = some false) && (decide (PySem.W.exmOne K (.ref CU) (.ref CN) = some false) && (decide (PySem.W.exmOne K (.ref CU) (.ref CE) = some false) && (decide (CK ≠ CR) && (decide (CV ≠ CK))))))))) (He.ga K "compute") (He.ga K "Keeper") (He.ga K "Run") (He.ga K "Cancelled") (He.ga K "InvalidEdit") (He.ga K "UnknownFile") (He.ga K "NothingToUndo") (He.ga K "ServerError") (He.ga K "Server") (He.ga K "WORDS") (tokOf (PySem.W.nsIn K mainGlobals "LONGEST")) (tokOf (PySem.W.nsIn K mainGlobals "PERCENT")) (tokOf (PySem.W.nsIn K mainGlobals "MOST_MODULES")) (tokOf (PySem.W.nsIn K mainGlobals "SIGNS"))
theorem hB14_ok {K : PySem.W.Frag} (h : hB14 K = true) : (PySem.W.takesIn K (.builtin "object.__class__") = some true) ∧ (PySem.W.mroIn K (He.ga K "NothingToUndo") (.type "object") = some true) ∧ (PySem.W.kitOne K (.ref (He.ga K "NothingToUndo")) (.ref (He.ga K "ServerError")) = some true) ∧ (PySem.W.exmOne K (.ref (He.ga K "InvalidEdit")) (.ref (He.ga K "NothingToUndo")) = some false) ∧ (PySem.W.exmOne K (.ref (He.ga K "UnknownFile")) (.ref (He.ga K "NothingToUndo")) = some false) ∧ (PySem.W.exmOne K (.ref (He.ga K "UnknownFile")) (.ref (He.ga K "InvalidEdit")) = some false) ∧ ((He.ga K "Keeper") ≠ (He.ga K "Run")) ∧ ((He.ga K "Server") ≠ (He.ga K "Keeper")) := by
  have h : (decide (PySem.W.takesIn K (.builtin "object.__class__") = some true) && (decide (PySem.W.mroIn K (He.ga K "NothingToUndo") (.type "object") = some true) && (decide (PySem.W.kitOne K (.ref (He.ga K "NothingToUndo")) (.ref (He.ga K "ServerError")) = some true) && (decide (PySem.W.exmOne K (.ref (He.ga K "InvalidEdit")) (.ref (He.ga K "NothingToUndo")) = some false) && (decide (PySem.W.exmOne K (.ref (He.ga K "UnknownFile")) (.ref (He.ga K "NothingToUndo")) = some false) && (decide (PySem.W.exmOne K (.ref (He.ga K "UnknownFile")) (.ref (He.ga K "InvalidEdit")) = some false) && (decide ((He.ga K "Keeper") ≠ (He.ga K "Run")) && (decide ((He.ga K "Server") ≠ (He.ga K "Keeper")))))))))) = true := h
  obtain ⟨h0, h⟩ := Bool.and_eq_true_iff.mp h
  obtain ⟨h1, h⟩ := Bool.and_eq_true_iff.mp h
  obtain ⟨h2, h⟩ := Bool.and_eq_true_iff.mp h
  obtain ⟨h3, h⟩ := Bool.and_eq_true_iff.mp h
  obtain ⟨h4, h⟩ := Bool.and_eq_true_iff.mp h
  obtain ⟨h5, h⟩ := Bool.and_eq_true_iff.mp h
  obtain ⟨h6, h⟩ := Bool.and_eq_true_iff.mp h
  exact ⟨of_decide_eq_true h0, of_decide_eq_true h1, of_decide_eq_true h2, of_decide_eq_true h3, of_decide_eq_true h4, of_decide_eq_true h5, of_decide_eq_true h6, of_decide_eq_true h⟩
def hB (K : PySem.W.Frag) : List Bool := [hB0 K, hB1 K, hB2 K, hB3 K, hB4 K, hB5 K, hB6 K, hB7 K, hB8 K, hB9 K, hB10 K, hB11 K, hB12 K, hB13 K, hB14 K]
def hxs0 : List Str := [("may_stand" : Str), ("is_text" : Str), ("apply_joint" : Str), ("apply_edit" : Str), ("line_end" : Str), ("is_letter" : Str), ("is_digit" : Str), ("word_end" : Str), ("digits_end" : Str), ("token_at" : Str), ("tokens_between" : Str), ("tokens" : Str), ("is_name" : Str), ("_law_tape" : Str), ("_law_take" : Str), ("_law_is_integer" : Str), ("_law_same_items" : Str), ("_law_same" : Str), ("_law_snippet" : Str), ("_law_edit_of" : Str)]
def hxs1 : List Str := [("_law_do" : Str), ("_law_expected" : Str), ("_law_act" : Str), ("law" : Str), ("Keeper" : Str), ("Server" : Str), ("Run" : Str), ("InvalidEdit" : Str), ("UnknownFile" : Str), ("NothingToUndo" : Str), ("Cancelled" : Str), ("ServerError" : Str), ("compute" : Str), ("WORDS" : Str)]
def hxs : List Str := hxs0 ++ hxs1
def hms0 : List (Str × Str) := [(("Keeper" : Str), ("__init__" : Str)), (("Keeper" : Str), ("put" : Str)), (("Server" : Str), ("__init__" : Str)), (("Server" : Str), ("_put_modules" : Str)), (("Server" : Str), ("_put_text" : Str)), (("Server" : Str), ("_check" : Str)), (("Server" : Str), ("program" : Str)), (("Server" : Str), ("open_file" : Str)), (("Server" : Str), ("edit" : Str)), (("Server" : Str), ("_step" : Str)), (("Server" : Str), ("undo" : Str)), (("Server" : Str), ("redo" : Str))]
def hms : List (Str × Str) := hms0
def refsS (o : Obj) : List Addr := match o.data with
  | .func fd => He.refV fd.code
  | .cls cd => cd.ns :: cd.mro.flatMap He.refV
  | _ => []
def gre (g : Addr → Option Obj) (as : List Addr) : List Addr := as.flatMap fun a => match g a with
  | some o => refsS o
  | none => []
def hA1 (g : Addr → Option Obj) (xs : List Str) : List Addr := xs.map (He.ga (He.frG g [mainGlobals]))
def hA2 (g : Addr → Option Obj) (as : List Addr) : List Addr := mainGlobals :: (as ++ gre g as)
def hA3 (g : Addr → Option Obj) (K : PySem.W.Frag) (ms : List (Str × Str)) : List Addr := ms.map fun m => He.ma K (He.ga K m.1) m.2
def hA4 (g : Addr → Option Obj) (bs as : List Addr) : List Addr := as ++ (bs ++ gre g bs)
def hAdd (g : Addr → Option Obj) : List Addr := hA4 g (hA3 g (He.frG g (hA2 g (hA1 g hxs))) hms) (hA2 g (hA1 g hxs))
abbrev HAl : Type := Bool × Bool × List He.FnV
def hobs (K : PySem.W.Frag) : HAl := ((hB K).all id, hfn.all (fun d => (He.Fa.code d.at_ d.qual).ok K), hfn.map fun d => He.fnObs K d.at_)
def hval : HAl := (true, true, hfn.map He.FnD.val)
def HSays (K : PySem.W.Frag) : Prop := hobs K = hval
def hobsG (g : Addr → Option Obj) : HAl := hobs (He.frG g (hAdd g))
abbrev hk : PySem.W.Hook where
  α := HAl
  obs := fun s => hobsG s.heap.get?
  val := fun _ => hval
  says := fun _ h => ∃ K : PySem.W.Frag, K.In h ∧ HSays K
  of := fun _ _ z => Exists.intro _ (And.intro He.frG_in z)
  keeps := fun _ _ _ y z => y.elim fun K u => ⟨K, PySem.W.Frag.In.keeps u.1 z, u.2⟩
def hob (s : PySem.W.SharedT) : HAl := hobsG (HandSHeadRun.getT s)
theorem hob_eq (s : PySem.W.SharedT) : hob s = hk.obs s.abs := by
  have e : HandSHeadRun.getT s = s.abs.heap.get? := funext (HandSHeadRun.getT_eq s)
  show hobsG (HandSHeadRun.getT s) = hobsG s.abs.heap.get?
  rw [e]
theorem HSays.b {K : PySem.W.Frag} (c : HSays K) (i : Nat) {b : Bool} (h : (hB K)[i]? = some b) : b = true := by
  have c1 : (hB K).all id = true := congrArg (fun z : HAl => z.1) c
  exact List.all_eq_true.mp c1 b (List.mem_of_getElem? h)
theorem HSays.f {K : PySem.W.Frag} (c : HSays K) (i : Nat) {d : He.FnD} (h : hfn[i]? = some d) :
    ∃ oc od osl kV doc pm an cdv ct, K.lookup (He.fAd K d.at_) = some ⟨oc, od, .func (PySem.W.fnOf d.name d.qual d.params d.body d.scope .none kV doc pm an cdv ct), osl⟩ ∧ PySem.W.codeIn K cdv d.qual = true := by
  have c2 : hfn.all (fun d => (He.Fa.code d.at_ d.qual).ok K) = true := congrArg (fun z : HAl => z.2.1) c
  have c3 : hfn.map (fun d => He.fnObs K d.at_) = hfn.map He.FnD.val := congrArg (fun z : HAl => z.2.2) c
  have e2 : (hfn.map fun d => He.fnObs K d.at_)[i]? = (hfn.map He.FnD.val)[i]? := by rw [c3]
  simp only [List.getElem?_map, h] at e2
  exact He.fn_ok (Option.some.inj e2) (List.all_eq_true.mp c2 d (List.mem_of_getElem? h))
theorem hrun_false (w : World) : HandSHeadRun.RunEq RH qvH hk hob 14000 hnames (w.withFollow "special-get-raises" false) := by
  intro os
  kernel_rfl
theorem hrun_true (w : World) : HandSHeadRun.RunEq RH qvH hk hob 14000 hnames (w.withFollow "special-get-raises" true) := by
  intro os
  kernel_rfl
theorem hrun (w : World) : HandSHeadRun.RunEq RH qvH hk hob 14000 hnames w := PySem.W.byRow2 "special-get-raises" (P := fun w => HandSHeadRun.RunEq RH qvH hk hob 14000 hnames w) hrun_false hrun_true w

end Sn

/-! My own rule: several except clauses, any of them with a name. -/
namespace Sn
open PySem PySem.Spec PyProof.Rows L2
abbrev Sui : Type := Addr → Value → Option Addr → TS
/-- one clause: the class, the slot of its name, its suite -/
structure Cla where
  c : Value
  sl : Option Nat
  ts : Sui
def clrD (sl : Option Nat) (D : Ends) : Ends := match sl with
  | none => D
  | some i => { nx := fun σ H => D.nx (σ.set i none) H, rt := D.rt, bk := fun σ H => D.bk (σ.set i none) H, ct := fun σ H => D.ct (σ.set i none) H }
def putS (sl : Option Nat) (a : Addr) (σ : L2.St) : L2.St := match sl with
  | none => σ
  | some i => σ.set i (some (.ref a))
/-- what the clauses ask of an error of the body -/
def wCla (K : PySem.W.Frag) (Wo : WX) (D : Ends) : List Cla → WX
  | [] => Wo
  | k :: r => fun cls d σ H => ∃ b, PySem.W.exmOne K cls k.c = some b ∧ (b = true → ∀ a, H a = none → k.ts a cls d (clrD k.sl D) (putS k.sl a σ) H) ∧ (b = false → wCla K Wo D r cls d σ H)
def SuiOk (X : Cx) (su : List Stmt) (ts : Sui) : Prop := ∀ (a : Addr) (oe : Obj) (cls : Value) (d : Option Addr) (pn : List (Addr × Obj)), Zc cls d oe → (∃ vs, oe.data = .fields vs) → PSs (X.suite a ((a, oe) :: pn)) su (ts a cls d)
inductive ClaOk (X : Cx) : List ExceptHandler → List Cla → Prop
  | nil : ClaOk X [] []
  | one {x : Str} {c : Value} {ts : Sui} {b : Stmt} {su : List Stmt} {np p : Pos} {hds : List ExceptHandler} {l : List Cla} : Names X x c → SuiOk X (b :: su) ts → ClaOk X hds l → ClaOk X (.ExceptHandler (some (.Name x np)) none (b :: su) p :: hds) (⟨c, none, ts⟩ :: l)
  | as {x n : Str} {i : Nat} {c : Value} {ts : Sui} {b : Stmt} {su : List Stmt} {np p : Pos} {hds : List ExceptHandler} {l : List Cla} : X.N.Nodup → X.N[i]? = some n → X.env.kindOf n = some .local → Names X x c → SuiOk X (b :: su) ts → ClaOk X hds l →
      ClaOk X (.ExceptHandler (some (.Name x np)) (some n) (b :: su) p :: hds) (⟨c, some i, ts⟩ :: l)
/-- an error that was caught and stands on the ground -/
structure Got (X : Cx) (pins : List (Addr × Obj)) (σ : L2.St) (H : Hp) (a : Addr) (cls : Value) (d : Option Addr) (B : Heap) (sI s : Shared) : Prop where
  J : Inv X pins σ H sI
  nb : ∀ b o, sI.heap.get? b = some o → b ∉ frs X.stack → B.get? b = some o
  up : sI.heap.UpToSlots s.heap
  fl : HandSPX.FlyingZ B (X.env :: X.outer) a (Zc cls d) s.heap
  na : H a = none
  os : s.os = sI.os
  ag : AllBare s.gens
section
variable {X : Cx} {pins : List (Addr × Obj)} {σ : L2.St} {H : Hp} {a : Addr} {cls : Value} {d : Option Addr} {B : Heap} {sI s : Shared}
theorem Got.inv (g : Got X pins σ H a cls d B sI s) : Inv X pins σ H s := g.J.landed g.nb g.fl.1 g.up g.os g.ag
theorem Got.moved (g : Got X pins σ H a cls d B sI s) {h : Heap} (fl : HandSPX.FlyingZ B (X.env :: X.outer) a (Zc cls d) h) (up : s.heap.UpToSlots h) : Got X pins σ H a cls d B sI { s with heap := h } := ⟨g.J, g.nb, g.up.trans up, fl, g.na, g.os, g.ag⟩
theorem Got.off (g : Got X pins σ H a cls d B sI s) {oe : Obj} {vs : Array Value} (he : s.heap.get? a = some oe) (hd : oe.data = .fields vs) : a ∉ frs (X.env :: X.outer) := fun hm => by
  obtain ⟨_, o2, e2, hn⟩ := (g.fl.2.2.1).mem hm
  have eo : oe = o2 := Option.some.inj (he.symm.trans e2)
  exact hn vs (eo ▸ hd)
theorem Got.su (g : Got X pins σ H a cls d B sI s) (hf : X.env.frame = some X.env.locals) : ∃ oe vs, s.heap.get? a = some oe ∧ Zc cls d oe ∧ oe.data = .fields vs ∧ Inv (X.suite a ((a, oe) :: (X.pn ++ pins))) [] σ H s := by
  obtain ⟨oe, vs, he, hz, hd⟩ := g.fl.there
  have nf := g.off he hd
  refine ⟨oe, vs, he, hz, hd, g.inv.suite he hd g.na (fun z => nf ?_) fun hm => nf ?_⟩
  · exact List.mem_filterMap.mpr ⟨X.env, List.mem_cons_self, hf.trans (congrArg some z.symm)⟩
  · obtain ⟨e, h1, h2⟩ := List.mem_filterMap.mp hm
    exact List.mem_filterMap.mpr ⟨e, List.mem_cons_of_mem _ h1, h2⟩
/-- the test of a clause -/
theorem Got.test (g : Got X pins σ H a cls d B sI s) (hf : X.env.frame = some X.env.locals) {x : Str} {c : Value} {np : Pos} (hc : Names X x c) {Q : Value → Shared → Prop} {E : Value → Shared → Prop} (q : Q c s) :
    wpAny (model X.prog X.w) (X.A.mark (some (.ref a))) (eval (.Name x np) X.env) Q E s := by
  obtain ⟨oe, vs, he, hz, hd, S⟩ := g.su hf
  obtain ⟨g1, g2, h1 | ⟨h1, h2, h3⟩⟩ := hc
  · exact ld_glob (X := X.suite a ((a, oe) :: (X.pn ++ pins))) S g1 h1 q g2
  · exact ld_blt (X := X.suite a ((a, oe) :: (X.pn ++ pins))) S g1 h1 h2 q h3 g2
/-- the clauses, one after the other -/
theorem Got.handle {D : Ends} {Wo : WX} (hs : X.stack = X.env :: X.outer) (hf : X.env.frame = some X.env.locals) (ok : X.Ok) (tk : Takes X Wo) {hds : List ExceptHandler} {l : List Cla} (hk : ClaOk X hds l) :
    ∀ {s : Shared}, Got X pins σ H a cls d B sI s → wCla X.K Wo D l cls d σ H → wpAny (model X.prog X.w) X.A (handleBy (.ref a) X.env hds) (SP X pins D) X.xe s := by
  induction hk with
  | nil =>
    intro s g w
    refine wpAny_handleBy_nil ?_
    obtain ⟨_, _, _, oe, vs, T, _, _, he, _, hd, h1, _⟩ := id g.fl
    unfold PySem.passOn
    refine wpAny_bind (wpAny_field he hd h1 ?_)
    have nt : ¬ ((Value.ref T == Value.none) = true) := by simp
    rw [if_neg nt]
    have fin : wpAny (model X.prog X.w) X.A (setFlight (.ref a) X.env.frame) (fun _ z => wpAny (model X.prog X.w) X.A (throw (.ref a) : Sem Flow) (SP X pins D) X.xe z) X.xe s := by
      rw [hf]
      refine HandSPX.setFlight_upZ g.fl fun h hh up => wpAny_throw (tk _ _ ⟨a, B, sI, pins, σ, H, cls, d, rfl, g.J, g.nb, g.up.trans up, .inr (.inr ?_), g.na, g.os, g.ag, w⟩)
      rw [hs]
      exact hh
    first
      | exact wpAny_bind (wpAny_pure (wpAny_bind fin))
      | exact wpAny_bind fin
  | one hc hsu _ ih =>
    intro s g w
    obtain ⟨b, hb, yes, no⟩ := w
    refine wpAny_handleBy_cons (codeAny_handlers_test (g.test hf hc ?_)) (by intro q; cases q)
    obtain ⟨oe, vs, he, hz, hd, S⟩ := g.su hf
    have lk : PySem.W.Looks (model X.prog X.w) s.heap (typeOf (.ref a)) cls := fun A Q E s2 k q => wpAny_typeOf_ref (k _ _ he) (hz.1.symm ▸ q)
    refine (PySem.W.exm_one (M := model X.prog X.w) g.inv.kIn lk hb).here ?_
    cases b with
    | false => exact ih g (no rfl)
    | true =>
      refine codeAny_handlers_suite (HandSPX.lands_againZ g.fl fun h fl up => ?_)
      have g2 := g.moved fl up
      obtain ⟨oe2, vs2, he2, hz2, hd2, S2⟩ := g2.su hf
      refine wpAny_mono ((hsu a oe2 cls d (X.pn ++ pins) hz2 ⟨_, hd2⟩).run [] _ _ H _ S2 (yes rfl a g.na)) (fun f s6 r => ?_) fun _ _ z => False.elim z
      cases f with
      | ret u =>
        obtain ⟨v, σ6, H6, S6, r6, q6⟩ := r
        exact ⟨v, σ6, H6, S6.unsuite ok, r6, q6⟩
      | next => exact r.elim fun σ6 r => r.elim fun H6 r => ⟨σ6, H6, r.1.unsuite ok, r.2⟩
      | brk => exact r.elim fun σ6 r => r.elim fun H6 r => ⟨σ6, H6, r.1.unsuite ok, r.2⟩
      | cont => exact r.elim fun σ6 r => r.elim fun H6 r => ⟨σ6, H6, r.1.unsuite ok, r.2⟩
  | @as x n i c ts b0 su np p hds l hN hi hln hc hsu _ ih =>
    intro s g w
    obtain ⟨b, hb, yes, no⟩ := w
    refine wpAny_handleBy_cons (codeAny_handlers_test (g.test hf hc ?_)) (by intro q; cases q)
    obtain ⟨oe, vs, he, hz, hd, S⟩ := g.su hf
    have lk : PySem.W.Looks (model X.prog X.w) s.heap (typeOf (.ref a)) cls := fun A Q E s2 k q => wpAny_typeOf_ref (k _ _ he) (hz.1.symm ▸ q)
    refine (PySem.W.exm_one (M := model X.prog X.w) g.inv.kIn lk hb).here ?_
    cases b with
    | false => exact ih g (no rfl)
    | true =>
      refine codeAny_handlers_suite_as (HandSPX.lands_againZ g.fl fun h fl up => ?_)
      have g2 := g.moved fl up
      obtain ⟨oe2, vs2, he2, hz2, hd2, S2⟩ := g2.su hf
      have lc : Loc X.env.scope n := .inl hln
      refine store_ok (X := X.suite a ((a, oe2) :: (X.pn ++ pins))) (v := .ref a) S2 hN hi lc rfl (fun s5 S5 => ?_) (.inr hln)
      refine wpAny_mono ((hsu a oe2 cls d (X.pn ++ pins) hz2 ⟨_, hd2⟩).run [] s5 _ H _ S5 (yes rfl a g.na)) (fun f s6 r => ?_) fun _ _ z => False.elim z
      have out : ∀ {σ6 : L2.St} {H6 : Hp} {Q : Shared → Prop}, Inv (X.suite a ((a, oe2) :: (X.pn ++ pins))) [] σ6 H6 s6 → (∀ s7, Inv X pins (σ6.set i none) H6 s7 → Q s7) →
          wpAny (model X.prog X.w) X.A (do bindName X.env n .none; unbindBehindTheSuite X.env n p) (fun _ z => Q z) X.xe s6 := fun S6 hq => gone_ok (S6.unsuite ok) hN hi hln hq
      cases f with
      | ret u =>
        obtain ⟨v, σ6, H6, S6, r6, q6⟩ := r
        exact out S6 fun s7 J7 => ⟨v, _, H6, J7, r6, q6⟩
      | next => exact r.elim fun σ6 r => r.elim fun H6 r => out r.1 fun s7 J7 => ⟨_, _, J7, r.2⟩
      | brk => exact r.elim fun σ6 r => r.elim fun H6 r => out r.1 fun s7 J7 => ⟨_, _, J7, r.2⟩
      | cont => exact r.elim fun σ6 r => r.elim fun H6 r => out r.1 fun s7 J7 => ⟨_, _, J7, r.2⟩
end
section
variable {X : Cx} {body : List Stmt} {h₀ : ExceptHandler} {hds : List ExceptHandler} {l : List Cla} {pos : Pos} {tb : WX → TS} {Wo : WX}
/-- try: .. except A as e: .. except B: .. -/
theorem ps_tryC (hs : X.stack = X.env :: X.outer) (hf : X.env.frame = some X.env.locals) (tk : Takes X Wo)
    (hb : ∀ (W : WX) (pn : List (Addr × Obj)) (xe : Value → Shared → Prop), Takes (X.tr pn xe) W → PassesOwn (model X.prog X.w) X.A X.env xe → PSs (X.tr pn xe) body (tb W))
    (hh : ClaOk X (h₀ :: hds) l) : PS X (.Try body (h₀ :: hds) [] [] pos) (fun D σ H => tb (wCla X.K Wo D l) D σ H) := by
  refine ⟨fun pins s σ H D I h => ?_⟩
  have ok := I.ok
  have hfr : X.A.frames = some (X.env :: X.outer) := ok.frames.trans (congrArg some hs)
  refine wpAny_Try_except ?_
  let xe : Value → Shared → Prop := fun e s₁ => wpAny (model X.prog X.w) X.A (noteFrame e X.env) (fun _ s₂ => wpAny (model X.prog X.w) X.A (setFlight e none) (fun _ s₃ => wpAny (model X.prog X.w) X.A (handleBy e X.env (h₀ :: hds)) (SP X pins D) X.xe s₃) X.xe s₂) X.xe s₁
  have tkb : Takes (X.tr (X.pn ++ pins) xe) (wCla X.K Wo D l) := fun u s2 y => by
    obtain ⟨a, B, sI, pins', σ', H', cls, d, rfl, J', nb, up, sky, na, os, ag, w⟩ := y
    have sky2 : Sky B (X.env :: X.outer) a (Zc cls d) X.env.locals s2.heap := hs ▸ sky
    refine Sky.land Zc.steady hfr hf sky2 fun h3 fl3 up3 => ?_
    exact Got.handle hs hf ok tk hh ⟨J'.ofTry ok, nb, up.trans up3, fl3, na, os, ag⟩ w
  refine wpAny_mono ((hb (wCla X.K Wo D l) (X.pn ++ pins) xe tkb PassesOwn.looking).run [] s σ H D (I.toTry _) h) (fun f s1 r => ?_) fun e s1 he => he
  cases f with
  | ret u =>
    obtain ⟨v, σ6, H6, S6, r6, q6⟩ := r
    exact ⟨v, σ6, H6, S6.ofTry ok, r6, q6⟩
  | next => exact r.elim fun σ6 r => r.elim fun H6 r => wpAny_execs_nil ⟨σ6, H6, r.1.ofTry ok, r.2⟩
  | brk => exact r.elim fun σ6 r => r.elim fun H6 r => ⟨σ6, H6, r.1.ofTry ok, r.2⟩
  | cont => exact r.elim fun σ6 r => r.elim fun H6 r => ⟨σ6, H6, r.1.ofTry ok, r.2⟩
end
end Sn

/-! My own words: a dict comprehension over any walk. -/
namespace Sn
open PySem PySem.Spec PyProof.Rows L2
/-- {k: v for x in ..}, no test -/
theorem dc_walk {J : It} {n : Nat} {G : Hp → Prop} {Y : Nat → Hp → V → Hp → Prop} (w : Walk J n G Y) {g : TG} {tk tv : TE} {vs : List Nat} {σ : L2.St} {H1 : Hp} {D : Addr} {Qd : Hp → Prop} (Pv : Nat → Hp → Prop)
    (start : Pv 0 (upd H1 D (.dK []))) (hG : ∀ i H, i ≤ n → Pv i H → G H)
    (turn : ∀ i x H H', i < n → Pv i H → Y i H x H' → g x (wipe σ vs) H' fun σ2 H2 => wipe σ2 vs = wipe σ vs ∧ tk σ2 H2 fun y H4 => tv σ2 H4 fun z H5 => ∃ kvs k, y = kV k ∧ H5 D = some (.dK kvs) ∧ kvs.length < sizeLine ∧ Pv (i + 1) (upd H5 D (.dK (putK kvs k z))))
    (done : ∀ H, Pv n H → Qd H) :
    ∃ W : Nat → Nat → Hp → Prop, (∃ m, W 0 m (upd H1 D (.dK []))) ∧ ∀ i m H, W i m H → (J.stop i H ∧ Qd H) ∨ (J.go i H ∧ ∃ Nx : Hp → Prop, (∀ H', Nx H' → ∃ m', m' < m ∧ W (i + 1) m' H') ∧ ∀ x H', J.yld i H x H' → g x (wipe σ vs) H' fun σ2 H2 => wipe σ2 vs = wipe σ vs ∧ tYes σ2 H2 fun b H3 =>
      if b = true then tk σ2 H3 fun y H4 => tv σ2 H4 fun z H5 => ∃ kvs k, y = kV k ∧ H5 D = some (.dK kvs) ∧ kvs.length < sizeLine ∧ Nx (upd H5 D (.dK (putK kvs k z))) else Nx H3) := by
  refine ⟨fun i m H => m + i = n ∧ Pv i H, ⟨n, rfl, start⟩, fun i m H u => ?_⟩
  obtain ⟨hm, p⟩ := u
  have good := hG i H (by omega) p
  cases m with
  | zero =>
    have e : i = n := by omega
    subst e
    exact .inl ⟨w.stops H good, done H p⟩
  | succ m =>
    refine .inr ⟨w.goes i H (by omega) good, Pv (i + 1), fun H' p' => ⟨m, Nat.lt_succ_self m, by omega, p'⟩, fun x H' y => ?_⟩
    exact turn i x H H' (by omega) p (w.yields i H x H' (by omega) good y)
end Sn

/-! What a keeper does, for any keys and any function: a relation of steps (Run), its path (Un), what stays (Post), one turn of the path (turnA, turnB, turnC). -/
namespace Sn
abbrev Ky := List L2.Key
structure En (α : Type) where
  v : α
  d : List Ky
  c : Nat
  g : Nat
structure KS (α : Type) where
  now : Nat
  left : Option Nat
  inp : Ky → Option (α × Nat)
  en : Ky → Option (En α)
  done : List Ky
inductive Tr (α : Type) where
  | ret : α → Tr α
  | ask : Ky → (α → Prop) → (α → Tr α) → Tr α
def ups {β : Type} (f : Ky → Option β) (k : Ky) (v : β) : Ky → Option β := fun j => if j = k then some v else f j
theorem ups_at {β : Type} {f : Ky → Option β} {k : Ky} {v : β} : ups f k v k = some v := if_pos rfl
theorem ups_ne {β : Type} {f : Ky → Option β} {j k : Ky} {v : β} (h : j ≠ k) : ups f k v j = f j := if_neg h
theorem ups_self {β : Type} {f : Ky → Option β} {k : Ky} {v : β} (h : f k = some v) : ups f k v = f := by
  funext j
  by_cases c : j = k
  · rw [c, ups_at, h]
  · exact ups_ne c
section
variable {α : Type} [DecidableEq α]
def KS.look (S : KS α) (k : Ky) (e : En α) : KS α := { S with en := ups S.en k ⟨e.v, e.d, S.now, e.g⟩ }
def KS.dec (S : KS α) : KS α := { S with left := S.left.map fun n => n - 1 }
def KS.chgOf (S : KS α) (k : Ky) (v : α) : Nat := match S.en k with
  | some e => if e.v = v then e.g else S.now
  | none => S.now
def KS.keep (S : KS α) (k : Ky) (v : α) (as : List Ky) : KS α := { S with en := ups S.en k ⟨v, as, S.now, S.chgOf k v⟩, done := S.done ++ [k] }
def KS.chg (S : KS α) (k : Ky) : Option Nat := match S.inp k with
  | some x => some x.2
  | none => (S.en k).map En.g
def KS.val (S : KS α) (k : Ky) : Option α := match S.inp k with
  | some x => some x.1
  | none => (S.en k).map En.v
def addK (as : List Ky) (k : Ky) : List Ky := if as.any (fun x => decide (x = k)) = true then as else as ++ [k]
inductive Jg (α : Type) where
  | br : KS α → Ky → Jg α
  | rs : KS α → Ky → Nat → Jg α
  | lk : KS α → Ky → En α → List Ky → Jg α
  | rn : KS α → Ky → Jg α
  | ev : KS α → Tr α → List Ky → Jg α
inductive Ot (α : Type) where
  | ok : KS α → Ot α
  | no : KS α → Ot α
  | val : KS α → α → List Ky → Ot α
/-- live keys, how deep computations may still go, the size of it all -/
inductive Run (G : Ky → Prop) (comp : Ky → Tr α) : List Ky → Nat → Nat → Jg α → Ot α → Prop
  | b_in {L n S k x} : S.inp k = some x → Run G comp L (n + 1) 0 (.br S k) (.ok S)
  | b_now {L n S k e} : S.inp k = none → S.en k = some e → e.c = S.now → G k → Run G comp L (n + 1) 0 (.br S k) (.ok S)
  | b_rs {L n z S k o} : S.inp k = none → (∀ e, S.en k = some e → e.c ≠ S.now) → k ∉ L → G k → Run G comp (k :: L) (n + 1) z (.rs S k 0) o → Run G comp L (n + 1) (z + 2) (.br S k) o
  | r_now {L n S k i e} : S.en k = some e → e.c = S.now → Run G comp L n 0 (.rs S k i) (.ok S)
  | r_none {L n z S k i o} : S.en k = none → Run G comp L n z (.rn S k) o → Run G comp L n (z + 1) (.rs S k i) o
  | r_old {L n z S k i e o} : S.en k = some e → e.c ≠ S.now → Run G comp L n z (.lk S k e (e.d.drop i)) o → Run G comp L n (z + 1) (.rs S k i) o
  | l_nil {L n S k e} : Run G comp L n 0 (.lk S k e []) (.ok (S.look k e))
  | l_no {L n z S k e d ds S1} : Run G comp L n z (.br S d) (.no S1) → Run G comp L n (z + 1) (.lk S k e (d :: ds)) (.no S1)
  | l_chg {L n z1 z2 S k e d ds S1 g o} : Run G comp L n z1 (.br S d) (.ok S1) → S1.chg d = some g → e.c < g → Run G comp L n z2 (.rn S1 k) o → Run G comp L n (z1 + z2 + 1) (.lk S k e (d :: ds)) o
  | l_go {L n z1 z2 S k e d ds S1 g o} : Run G comp L n z1 (.br S d) (.ok S1) → S1.chg d = some g → g ≤ e.c → Run G comp L n z2 (.lk S1 k e ds) o → Run G comp L n (z1 + z2 + 1) (.lk S k e (d :: ds)) o
  | n_no {L n S k} : S.left = some 0 → Run G comp L n 1 (.rn S k) (.no S)
  | n_ok {L n z S k S1 v as} : S.left ≠ some 0 → G k → Run G comp L n z (.ev S.dec (comp k) []) (.val S1 v as) → Run G comp L (n + 1) (z + 3) (.rn S k) (.ok (S1.keep k v as))
  | n_fail {L n z S k S1} : S.left ≠ some 0 → G k → Run G comp L n z (.ev S.dec (comp k) []) (.no S1) → Run G comp L (n + 1) (z + 3) (.rn S k) (.no S1)
  | e_ret {L n S v as} : Run G comp L n 0 (.ev S (.ret v) as) (.val S v as)
  | e_ask {L n z1 z2 S d p f as S1 v o} : Run G comp L n z1 (.br S d) (.ok S1) → S1.val d = some v → p v → Run G comp L n z2 (.ev S1 (f v) (addK as d)) o → Run G comp L n (z1 + z2 + 2) (.ev S (.ask d p f) as) o
  | e_no {L n z S d p f as S1} : Run G comp L n z (.br S d) (.no S1) → Run G comp L n (z + 2) (.ev S (.ask d p f) as) (.no S1)
def Ot.st : Ot α → KS α
  | .ok S => S
  | .no S => S
  | .val S _ _ => S
/-- what stays -/
structure Lat (P : Ky → Prop) (S S' : KS α) : Prop where
  now : S'.now = S.now
  inp : S'.inp = S.inp
  en : ∀ x, P x → S'.en x = S.en x
  mono : ∀ x e, S.en x = some e → e.c = S.now → S'.en x = some e
theorem Lat.refl {P : Ky → Prop} {S : KS α} : Lat P S S := ⟨rfl, rfl, fun _ _ => rfl, fun _ _ h _ => h⟩
theorem Lat.trans {P : Ky → Prop} {S S1 S2 : KS α} (a : Lat P S S1) (b : Lat P S1 S2) : Lat P S S2 :=
  ⟨b.now.trans a.now, b.inp.trans a.inp, fun x h => (b.en x h).trans (a.en x h), fun x e h c => b.mono x e (a.mono x e h c) (c.trans a.now.symm)⟩
theorem Lat.imp {P P' : Ky → Prop} {S S1 : KS α} (a : Lat P S S1) (h : ∀ x, P' x → P x) : Lat P' S S1 := ⟨a.now, a.inp, fun x z => a.en x (h x z), a.mono⟩
def Rdy (S : KS α) (k : Ky) : Prop := (∃ x, S.inp k = some x) ∨ S.inp k = none ∧ ∃ e, S.en k = some e ∧ e.c = S.now
def Unc (S : KS α) (k : Ky) : Prop := ∀ e, S.en k = some e → e.c ≠ S.now
def Post (L : List Ky) : Jg α → Ot α → Prop
  | .br S k, o => Lat (· ∈ L) S o.st ∧ (∀ S', o = .ok S' → Rdy S' k) ∧ (∀ S' v as, o ≠ .val S' v as)
  | .ev S _ _, o => Lat (· ∈ L) S o.st ∧ ∀ S', o ≠ .ok S'
  | .rs S k _, o => k ∈ L → Unc S k → Lat (fun x => x ∈ L ∧ x ≠ k) S o.st ∧ (∀ S', o = .ok S' → ∃ e, S'.en k = some e ∧ e.c = S'.now) ∧ (∀ S' v as, o ≠ .val S' v as)
  | .lk S k e _, o => k ∈ L → Unc S k → Lat (fun x => x ∈ L ∧ x ≠ k) S o.st ∧ (∀ S', o = .ok S' → ∃ e, S'.en k = some e ∧ e.c = S'.now) ∧ (∀ S' v as, o ≠ .val S' v as)
  | .rn S k, o => k ∈ L → Unc S k → Lat (fun x => x ∈ L ∧ x ≠ k) S o.st ∧ (∀ S', o = .ok S' → ∃ e, S'.en k = some e ∧ e.c = S'.now) ∧ (∀ S' v as, o ≠ .val S' v as)
variable {G : Ky → Prop} {comp : Ky → Tr α}
theorem Unc.lat {P : Ky → Prop} {S S1 : KS α} {k : Ky} (u : Unc S k) (l : Lat P S S1) (h : P k) : Unc S1 k := fun e he => by
  rw [l.en k h] at he
  rw [l.now]
  exact u e he
theorem Lat.look {P : Ky → Prop} {S : KS α} {k : Ky} {e : En α} (u : Unc S k) (h : ¬ P k) : Lat P S (S.look k e) :=
  ⟨rfl, rfl, fun x hx => ups_ne fun z => h (z ▸ hx), fun x e' he hc => (ups_ne fun z => by subst z; exact u e' he hc).trans he⟩
theorem Lat.keep {P : Ky → Prop} {S : KS α} {k : Ky} {v : α} {as : List Ky} (u : Unc S k) (h : ¬ P k) : Lat P S (S.keep k v as) :=
  ⟨rfl, rfl, fun x hx => ups_ne fun z => h (z ▸ hx), fun x e' he hc => (ups_ne fun z => by subst z; exact u e' he hc).trans he⟩
theorem Run.post {L : List Ky} {n z : Nat} {J : Jg α} {o : Ot α} (h : Run G comp L n z J o) : Post L J o := by
  induction h with
  | b_in a => exact ⟨Lat.refl, fun S' e => by injection e with e; exact .inl ⟨_, e ▸ a⟩, fun _ _ _ e => nomatch e⟩
  | b_now a b c _ => exact ⟨Lat.refl, fun S' e => by injection e with e; subst e; exact .inr ⟨a, _, b, c⟩, fun _ _ _ e => nomatch e⟩
  | @b_rs L n z S k o a b c g r ih =>
    obtain ⟨l, q, nv⟩ := ih List.mem_cons_self b
    refine ⟨l.imp fun x hx => ⟨List.mem_cons_of_mem _ hx, fun z => c (z ▸ hx)⟩, fun S' e => .inr ⟨?_, q S' e⟩, nv⟩
    subst e
    have := l.inp
    rw [show S'.inp = S.inp from this]
    exact a
  | r_now a b => exact fun hk u => absurd b (u _ a)
  | r_none a r ih => exact fun hk u => ih hk u
  | r_old a b r ih => exact fun hk u => ih hk u
  | l_nil => exact fun hk u => ⟨Lat.look u fun z => z.2 rfl, fun S' e => by injection e with e; subst e; exact ⟨_, ups_at, rfl⟩, fun _ _ _ e => nomatch e⟩
  | l_no r ih => exact fun hk u => ⟨ih.1.imp fun x z => z.1, fun S' e => (nomatch e), fun _ _ _ e => nomatch e⟩
  | l_chg r a b r2 ih ih2 =>
    intro hk u
    have l1 := ih.1
    obtain ⟨l2, q, nv⟩ := ih2 hk (u.lat l1 hk)
    exact ⟨(l1.imp fun x z => z.1).trans l2, q, nv⟩
  | l_go r a b r2 ih ih2 =>
    intro hk u
    have l1 := ih.1
    obtain ⟨l2, q, nv⟩ := ih2 hk (u.lat l1 hk)
    exact ⟨(l1.imp fun x z => z.1).trans l2, q, nv⟩
  | n_no a => exact fun hk u => ⟨Lat.refl, fun S' e => (nomatch e), fun _ _ _ e => nomatch e⟩
  | @n_ok L n z S k S1 v as a g r ih =>
    intro hk u
    have l1 : Lat (· ∈ L) S S1 := ⟨ih.1.now, ih.1.inp, ih.1.en, ih.1.mono⟩
    have u1 := u.lat l1 hk
    exact ⟨(l1.imp fun x z => z.1).trans (Lat.keep u1 fun z => z.2 rfl), fun S' e => by injection e with e; subst e; exact ⟨_, ups_at, rfl⟩, fun _ _ _ e => nomatch e⟩
  | @n_fail L n z S k S1 a g r ih =>
    intro hk u
    have l1 : Lat (· ∈ L) S S1 := ⟨ih.1.now, ih.1.inp, ih.1.en, ih.1.mono⟩
    exact ⟨l1.imp fun x z => z.1, fun S' e => (nomatch e), fun _ _ _ e => nomatch e⟩
  | e_ret => exact ⟨Lat.refl, fun _ e => nomatch e⟩
  | e_ask r a _ r2 ih ih2 => exact ⟨ih.1.trans ih2.1, ih2.2⟩
  | e_no r ih => exact ⟨ih.1, fun _ e => nomatch e⟩
theorem Run.ask_inv {L : List Ky} {n z : Nat} {S : KS α} {d : Ky} {p : α → Prop} {f : α → Tr α} {as : List Ky} {out : Ot α} (h : Run G comp L n z (.ev S (.ask d p f) as) out) :
    ∃ z1 o1, z1 + 2 ≤ z ∧ Run G comp L n z1 (.br S d) o1 ∧ ((∃ S1 v z2, o1 = .ok S1 ∧ S1.val d = some v ∧ p v ∧ z1 + z2 + 2 ≤ z ∧ Run G comp L n z2 (.ev S1 (f v) (addK as d)) out) ∨ ∃ S1, o1 = .no S1 ∧ out = .no S1) := by
  cases h with
  | e_ask a b c e => exact ⟨_, _, by omega, a, .inl ⟨_, _, _, rfl, b, c, Nat.le_refl _, e⟩⟩
  | e_no a => exact ⟨_, _, Nat.le_refl _, a, .inr ⟨_, rfl, rfl⟩⟩
theorem Run.ret_inv {L : List Ky} {n z : Nat} {S : KS α} {v : α} {as : List Ky} {out : Ot α} (h : Run G comp L n z (.ev S (.ret v) as) out) : out = .val S v as := by
  cases h
  rfl
/-! ### one look at a key's step -/
def chkB (S : KS α) (k : Ky) : Bool := match S.en k with
  | some e => decide (e.c = S.now)
  | none => false
inductive Sc where
  | look
  | comp
  | push (d : Ky) (j : Nat)
def kscan (S : KS α) (c : Nat) : List Ky → Nat → Sc
  | [], _ => .look
  | d :: ds, j => if S.inp d = none ∧ chkB S d = false then .push d j else match S.chg d with
    | some g => if c < g then .comp else kscan S c ds (j + 1)
    | none => .look
theorem chkB_rdy {S : KS α} {d : Ky} (h : ¬ (S.inp d = none ∧ chkB S d = false)) : Rdy S d := by
  cases hi : S.inp d with
  | some x => exact .inl ⟨x, hi⟩
  | none =>
    refine .inr ⟨hi, ?_⟩
    have hc : chkB S d = true := by
      cases q : chkB S d with
      | true => rfl
      | false => exact absurd ⟨hi, q⟩ h
    unfold chkB at hc
    cases he : S.en d with
    | none =>
      rw [he] at hc
      cases hc
    | some e =>
      rw [he] at hc
      exact ⟨e, rfl, of_decide_eq_true hc⟩
theorem not_chkB {S : KS α} {d : Ky} (h : chkB S d = false) : Unc S d := fun e he z => by
  unfold chkB at h
  rw [he] at h
  exact absurd z (of_decide_eq_false h)
theorem Unc.chkB {S : KS α} {d : Ky} (h : Unc S d) : chkB S d = false := by
  unfold Sn.chkB
  cases he : S.en d with
  | none => rfl
  | some e => exact decide_eq_false (h e he)
/-- bringing what is there does nothing -/
theorem Run.rdy {L : List Ky} {n z : Nat} {S : KS α} {d : Ky} {o : Ot α} (r : Rdy S d) (h : Run G comp L n z (.br S d) o) : o = .ok S := by
  cases h with
  | b_in a => rfl
  | b_now a b c _ => rfl
  | b_rs a b c g q =>
    rcases r with ⟨x, e⟩ | ⟨_, e, he, hc⟩
    · rw [a] at e
      cases e
    · exact absurd hc (b e he)
theorem Rdy.run {L : List Ky} {n : Nat} {S : KS α} {d : Ky} (r : Rdy S d) (g : G d) : Run G comp L (n + 1) 0 (.br S d) (.ok S) := by
  rcases r with ⟨x, e⟩ | ⟨a, e, he, hc⟩
  · exact .b_in e
  · exact .b_now a he hc g
theorem scan_chg {S : KS α} {c : Nat} {d : Ky} {ds : List Ky} {j g : Nat} (h : ¬ (S.inp d = none ∧ chkB S d = false)) (hg : S.chg d = some g) : kscan S c (d :: ds) j = if c < g then .comp else kscan S c ds (j + 1) := by
  show (if S.inp d = none ∧ chkB S d = false then Sc.push d j else match S.chg d with
    | some g => if c < g then .comp else kscan S c ds (j + 1)
    | none => .look) = _
  rw [if_neg h, hg]
theorem Run.scanA {L : List Ky} {n : Nat} {S : KS α} {k : Ky} {e : En α} {o : Ot α} : ∀ {ds : List Ky} {z j : Nat}, Run G comp L n z (.lk S k e ds) o → kscan S e.c ds j = .comp → ∃ z1, z1 + 1 ≤ z ∧ Run G comp L n z1 (.rn S k) o
  | [], z, j, h, q => by cases q
  | d :: ds, z, j, h, q => by
    by_cases c : S.inp d = none ∧ chkB S d = false
    · have z : kscan S e.c (d :: ds) j = .push d j := if_pos c
      rw [z] at q
      cases q
    have r := chkB_rdy c
    cases h with
    | l_no a => exact absurd (a.rdy r) (fun z => nomatch z)
    | @l_chg _ _ z1 z2 _ _ _ _ _ S1 g _ a b f q2 =>
      have e1 := a.rdy r
      injection e1 with e1
      subst e1
      exact ⟨z2, by omega, q2⟩
    | @l_go _ _ z1 z2 _ _ _ _ _ S1 g _ a b f q2 =>
      have e1 := a.rdy r
      injection e1 with e1
      subst e1
      rw [scan_chg c b, if_neg (by omega)] at q
      obtain ⟨z3, h1, h2⟩ := scanA q2 q
      exact ⟨z3, by omega, h2⟩
theorem Run.scanC {L : List Ky} {n : Nat} {S : KS α} {k : Ky} {e : En α} {o : Ot α} : ∀ {ds : List Ky} {z j : Nat}, Run G comp L n z (.lk S k e ds) o → kscan S e.c ds j = .look → o = .ok (S.look k e)
  | [], z, j, h, q => by
    cases h
    rfl
  | d :: ds, z, j, h, q => by
    by_cases c : S.inp d = none ∧ chkB S d = false
    · have z : kscan S e.c (d :: ds) j = .push d j := if_pos c
      rw [z] at q
      cases q
    have r := chkB_rdy c
    cases h with
    | l_no a => exact absurd (a.rdy r) (fun z => nomatch z)
    | @l_chg _ _ z1 z2 _ _ _ _ _ S1 g _ a b f q2 =>
      have e1 := a.rdy r
      injection e1 with e1
      subst e1
      rw [scan_chg c b, if_pos f] at q
      cases q
    | @l_go _ _ z1 z2 _ _ _ _ _ S1 g _ a b f q2 =>
      have e1 := a.rdy r
      injection e1 with e1
      subst e1
      rw [scan_chg c b, if_neg (by omega)] at q
      exact scanC q2 q
theorem Run.scanB {L : List Ky} {n : Nat} {S : KS α} {k : Ky} {e : En α} {o : Ot α} {d : Ky} {j : Nat} : ∀ {ds : List Ky} {z i : Nat}, Run G comp L n z (.lk S k e ds) o → kscan S e.c ds i = .push d j → ds = e.d.drop i → ∃ ds' z', z' ≤ z ∧ e.d.drop j = d :: ds' ∧ Run G comp L n z' (.lk S k e (d :: ds')) o ∧ S.inp d = none ∧ chkB S d = false
  | [], z, i, h, q, _ => by cases q
  | d0 :: ds, z, i, h, q, hd => by
    by_cases c : S.inp d0 = none ∧ chkB S d0 = false
    · have z : kscan S e.c (d0 :: ds) i = .push d0 i := if_pos c
      rw [z] at q
      injection q with q1 q2
      subst q1 q2
      exact ⟨ds, _, Nat.le_refl _, hd.symm, h, c⟩
    have r := chkB_rdy c
    cases h with
    | l_no a => exact absurd (a.rdy r) (fun z => nomatch z)
    | @l_chg _ _ z1 z2 _ _ _ _ _ S1 g _ a b f q2 =>
      have e1 := a.rdy r
      injection e1 with e1
      subst e1
      rw [scan_chg c b, if_pos f] at q
      cases q
    | @l_go _ _ z1 z2 _ _ _ _ _ S1 g _ a b f q2 =>
      have e1 := a.rdy r
      injection e1 with e1
      subst e1
      rw [scan_chg c b, if_neg (by omega)] at q
      obtain ⟨ds', z', h1, h2⟩ := scanB q2 q (by rw [← List.tail_drop, ← hd]; rfl)
      exact ⟨ds', z', by omega, h2⟩
/-! ### the path -/
/-- what is left to be done for a path, its top first -/
def Unw (G : Ky → Prop) (comp : Ky → Tr α) (L : List Ky) (n : Nat) : List (Ky × Nat) → Nat → KS α → Ot α → Prop
  | [], _, S, o => o = .ok S
  | (k, i) :: r, z, S, o => ∃ z1 o1, Run G comp (k :: (r.map (·.1) ++ L)) n z1 (.rs S k i) o1 ∧
    ((∃ S1 z2, o1 = .ok S1 ∧ z1 + z2 + 1 ≤ z ∧ Unw G comp L n r z2 S1 o) ∨ ∃ S1, o1 = .no S1 ∧ z1 + 1 ≤ z ∧ o = .no S1)
theorem turnA {L : List Ky} {n z i : Nat} {S : KS α} {k : Ky} {r : List (Ky × Nat)} {o : Ot α} (h : Unw G comp L n ((k, i) :: r) z S o) (u : Unc S k) (q : S.en k = none ∨ ∃ e, S.en k = some e ∧ kscan S e.c (e.d.drop i) i = .comp) :
    ∃ z1 o1, Run G comp (k :: (r.map (·.1) ++ L)) n z1 (.rn S k) o1 ∧ ((∃ S1 z2, o1 = .ok S1 ∧ z1 + z2 + 2 ≤ z ∧ Unw G comp L n r z2 S1 o) ∨ ∃ S1, o1 = .no S1 ∧ z1 + 2 ≤ z ∧ o = .no S1) := by
  obtain ⟨z1, o1, h1, h2⟩ := h
  have key : ∃ z3, z3 + 1 ≤ z1 ∧ Run G comp (k :: (r.map (·.1) ++ L)) n z3 (.rn S k) o1 := by
    cases h1 with
    | r_now a b => exact absurd b (u _ a)
    | r_none a b => exact ⟨_, Nat.le_refl _, b⟩
    | r_old a b c =>
      rcases q with q | ⟨e, q1, q2⟩
      · rw [q] at a
        cases a
      rw [q1] at a
      cases a
      obtain ⟨z3, y, w⟩ := c.scanA q2
      exact ⟨z3, by omega, w⟩
  obtain ⟨z3, y, w⟩ := key
  refine ⟨z3, o1, w, ?_⟩
  rcases h2 with ⟨S1, z2, a, b, c⟩ | ⟨S1, a, b, c⟩
  · exact .inl ⟨S1, z2, a, by omega, c⟩
  · exact .inr ⟨S1, a, by omega, c⟩
theorem turnC {L : List Ky} {n z i : Nat} {S : KS α} {k : Ky} {r : List (Ky × Nat)} {o : Ot α} (h : Unw G comp L n ((k, i) :: r) z S o) (u : Unc S k) {e : En α} (q1 : S.en k = some e) (q2 : kscan S e.c (e.d.drop i) i = .look) : ∃ z2, z2 + 2 ≤ z ∧ Unw G comp L n r z2 (S.look k e) o := by
  obtain ⟨z1, o1, h1, h2⟩ := h
  cases h1 with
  | r_now a b => exact absurd b (u _ a)
  | r_none a b =>
    rw [q1] at a
    cases a
  | r_old a b c =>
    rw [q1] at a
    cases a
    have e1 := c.scanC q2
    subst e1
    rcases h2 with ⟨S1, z2, a, b, c⟩ | ⟨S1, a, b, c⟩
    · injection a with a
      subst a
      exact ⟨z2, by omega, c⟩
    · cases a
theorem turnD {L : List Ky} {n z i : Nat} {S : KS α} {k : Ky} {r : List (Ky × Nat)} {o : Ot α} (h : Unw G comp L n ((k, i) :: r) z S o) {e : En α} (q1 : S.en k = some e) (q2 : e.c = S.now) : ∃ z2, z2 + 1 ≤ z ∧ Unw G comp L n r z2 S o := by
  obtain ⟨z1, o1, h1, h2⟩ := h
  cases h1 with
  | r_now a b =>
    rcases h2 with ⟨S1, z2, a, b, c⟩ | ⟨S1, a, b, c⟩
    · injection a with a
      subst a
      exact ⟨z2, by omega, c⟩
    · cases a
  | r_none a b =>
    rw [q1] at a
    cases a
  | r_old a b c =>
    rw [q1] at a
    cases a
    exact absurd q2 b
theorem Unw.one {L : List Ky} {n z : Nat} {S : KS α} {k : Ky} {o : Ot α} (h : Run G comp (k :: L) n z (.rs S k 0) o) (hv : ∀ S' v as, o ≠ .val S' v as) : Unw G comp L n [(k, 0)] (z + 1) S o := by
  refine ⟨z, o, h, ?_⟩
  cases o with
  | ok S1 => exact .inl ⟨S1, 0, rfl, Nat.le_refl _, rfl⟩
  | no S1 => exact .inr ⟨S1, rfl, Nat.le_refl _, rfl⟩
  | val S' v as => exact absurd rfl (hv S' v as)
theorem unwB {L : List Ky} {n z z0 zb zo j : Nat} {S S1 : KS α} {k d : Ky} {r : List (Ky × Nat)} {o o1 : Ot α} (a : Run G comp (d :: k :: (r.map (·.1) ++ L)) n z0 (.rs S d 0) (.ok S1)) (b : Run G comp (k :: (r.map (·.1) ++ L)) n zb (.rs S1 k j) o1)
    (h : (∃ S2 z2, o1 = .ok S2 ∧ zo + z2 + 1 ≤ z ∧ Unw G comp L n r z2 S2 o) ∨ ∃ S2, o1 = .no S2 ∧ zo + 1 ≤ z ∧ o = .no S2) (hz : z0 + zb + 2 ≤ zo) : ∃ z2, z2 + 1 ≤ z ∧ Unw G comp L n ((d, 0) :: (k, j) :: r) z2 S o := by
  rcases h with ⟨S2, z2, h1, h2, h3⟩ | ⟨S2, h1, h2, h3⟩
  · exact ⟨z0 + (zb + z2 + 1) + 1, by omega, z0, _, a, .inl ⟨S1, zb + z2 + 1, rfl, Nat.le_refl _, zb, o1, b, .inl ⟨S2, z2, h1, Nat.le_refl _, h3⟩⟩⟩
  · exact ⟨z0 + (zb + 1) + 1, by omega, z0, _, a, .inl ⟨S1, zb + 1, rfl, Nat.le_refl _, zb, o1, b, .inr ⟨S2, h1, Nat.le_refl _, h3⟩⟩⟩
theorem turnB {L : List Ky} {n z i j : Nat} {S : KS α} {k d : Ky} {r : List (Ky × Nat)} {o : Ot α} (h : Unw G comp L n ((k, i) :: r) z S o) (u : Unc S k) {e : En α} (q1 : S.en k = some e) (q2 : kscan S e.c (e.d.drop i) i = .push d j) :
    (∃ z2, z2 + 1 ≤ z ∧ Unw G comp L n ((d, 0) :: (k, j) :: r) z2 S o) ∧ d ∉ k :: (r.map (·.1) ++ L) ∧ G d ∧ S.inp d = none ∧ Unc S d := by
  obtain ⟨z1, o1, h1, h2⟩ := h
  cases h1 with
  | r_now a b => exact absurd b (u _ a)
  | r_none a b =>
    rw [q1] at a
    cases a
  | r_old a b c =>
    rw [q1] at a
    cases a
    obtain ⟨ds', z', hz, hd, h3, hi, hc⟩ := c.scanB q2 rfl
    have nr : ¬ Rdy S d := fun z => by
      rcases z with ⟨x, y⟩ | ⟨_, e2, y1, y2⟩
      · rw [hi] at y
        cases y
      · exact not_chkB hc e2 y1 y2
    cases h3 with
    | @l_no _ _ z _ _ _ _ _ S1 a =>
      cases a with
      | b_rs a1 a2 a3 a4 a5 =>
        refine ⟨⟨_, ?_, _, _, a5, .inr ⟨_, rfl, Nat.le_refl _, ?_⟩⟩, a3, a4, hi, not_chkB hc⟩
        · rcases h2 with ⟨S1, z2, a, b, c⟩ | ⟨S1, a, b, c⟩
          · cases a
          · omega
        · rcases h2 with ⟨S1, z2, a, b, c⟩ | ⟨S1, a, b, c⟩
          · cases a
          · injection a with a
            subst a
            exact c
    | @l_chg _ _ z1 z2 _ _ _ _ _ S1 g _ a b f q3 =>
      cases a with
      | b_in y =>
        rw [hi] at y
        cases y
      | b_now _ y1 y2 _ => exact absurd y2 (not_chkB hc _ y1)
      | b_rs a1 a2 a3 a4 a5 =>
        obtain ⟨l, rd, _⟩ := a5.post List.mem_cons_self a2
        have ek : S1.en k = some e := (l.en k ⟨List.mem_cons_of_mem _ List.mem_cons_self, fun z => a3 (z ▸ List.mem_cons_self)⟩).trans q1
        have en : S1.now = S.now := l.now
        have rd1 : Rdy S1 d := .inr ⟨by rw [show S1.inp = S.inp from l.inp]; exact hi, rd S1 rfl⟩
        have back := Run.r_old (G := G) (comp := comp) (i := j) ek (by rw [en]; assumption) (by rw [hd]; exact Run.l_chg (rd1.run (G := G) (comp := comp) a4) b f q3)
        exact ⟨unwB a5 back h2 (by omega), a3, a4, hi, not_chkB hc⟩
    | @l_go _ _ z1 z2 _ _ _ _ _ S1 g _ a b f q3 =>
      cases a with
      | b_in y =>
        rw [hi] at y
        cases y
      | b_now _ y1 y2 _ => exact absurd y2 (not_chkB hc _ y1)
      | b_rs a1 a2 a3 a4 a5 =>
        obtain ⟨l, rd, _⟩ := a5.post List.mem_cons_self a2
        have ek : S1.en k = some e := (l.en k ⟨List.mem_cons_of_mem _ List.mem_cons_self, fun z => a3 (z ▸ List.mem_cons_self)⟩).trans q1
        have en : S1.now = S.now := l.now
        have rd1 : Rdy S1 d := .inr ⟨by rw [show S1.inp = S.inp from l.inp]; exact hi, rd S1 rfl⟩
        have back := Run.r_old (G := G) (comp := comp) (i := j) ek (by rw [en]; assumption) (by rw [hd]; exact Run.l_go (rd1.run (G := G) (comp := comp) a4) b f q3)
        exact ⟨unwB a5 back h2 (by omega), a3, a4, hi, not_chkB hc⟩
end
end Sn

/-! My own rules: three comparisons in a row, a text times a number, calls that may raise, isinstance in an except suite. -/
namespace Sn
open PySem PySem.Spec PyProof.Rows L2 TL
section
variable {X : Cx} {a b c d : Expr} {ta tb tc td : TE} {pos : Pos}
/-- a op1 b op2 c op3 d -/
def tChain3 (r r' r'' : R2) (ta tb tc td : TE) : TE := fun σ H Q => ta σ H fun x H1 => tb σ H1 fun y H2 => r x y H2 fun z H3 => ∃ k, z = .bl k ∧
  (if k = true then tc σ H3 fun w H4 => r' y w H4 fun z' H5 => ∃ k', z' = .bl k' ∧ (if k' = true then td σ H5 fun v H6 => r'' w v H6 Q else Q (.bl false) H5) else Q (.bl false) H3)
theorem pt_chain3 {op op' op'' : CmpOp} {r r' r'' : R2} (ho : OpR X (compareOp op) r) (ho' : OpR X (compareOp op') r') (ho'' : OpR X (compareOp op'') r'') (ha : PE X a ta) (hb : PE X b tb) (hc : PE X c tc) (hd : PE X d td)
    (hm : lastMarks [op, op', op''] [b, c, d] = false := by with_unfolding_all rfl) : PT X (.Compare a [op, op', op''] [b, c, d] pos) (tTest (tChain3 r r' r'' ta tb tc td)) := by
  refine ⟨fun pins s σ H Q I h => ?_⟩
  refine isTrue_chain (thn (ha.run pins s σ H _ I h) fun v s1 ⟨x, H1, I1, r1, q1⟩ => test_link (thn (hb.run pins s1 σ H1 _ I1 q1) fun u s2 ⟨y, H2, I2, r2, q2⟩ =>
    thn (ho pins s2 σ H2 x y v u _ I2 r1 r2 q2) fun e s3 ⟨z, H3, I3, r3, k, ez, q3⟩ => ?_)) hm
  subst ez
  cases r3
  refine wpAny_truthy_bool ?_
  cases k with
  | false =>
    obtain ⟨k', e', q'⟩ := q3
    cases e'
    exact ite_ff ⟨H3, I3, q'⟩
  | true =>
    refine ite_tt (test_link (thn (hc.run pins s3 σ H3 _ I3 q3) fun w' s4 ⟨z', H4, I4, r4, q4⟩ => thn (ho' pins s4 σ H4 y z' u w' _ I4 r2 r4 q4) fun d' s5 ⟨z2, H5, I5, r5, k2, e2, q5⟩ => ?_))
    subst e2
    cases r5
    refine wpAny_truthy_bool ?_
    cases k2 with
    | false =>
      obtain ⟨k', e', q'⟩ := q5
      cases e'
      exact ite_ff ⟨H5, I5, q'⟩
    | true =>
      refine ite_tt (test_last (thn (hd.run pins s5 σ H5 _ I5 q5) fun w2 s6 ⟨z6, H6, I6, r6, q6⟩ => thn (ho'' pins s6 σ H6 z' z6 w' w2 _ I6 r4 r6 q6) fun d' s7 ⟨z7, H7, I7, r7, k7, e7, q7⟩ => ?_))
      subst e7
      cases r7
      exact wpAny_truthy_bool ⟨H7, I7, q7⟩
/-- a text times a number -/
theorem op_mul_str : OpR X (binaryOp .Mult) (fun x y H Q => ∃ (z : Str) (n : Int), x = .str z ∧ y = .int n ∧ MulOk z n ∧ Q (.str (Txt.mul z n)) H) := by
  intro pins s σ H x y v u Q I rx ry h
  obtain ⟨z, n, rfl, rfl, hm, q⟩ := h
  obtain ⟨t, rfl⟩ := rx
  obtain ⟨t', rfl⟩ := ry
  exact SB.mul hm fun t' k => ⟨.str (Txt.mul z n), H, I.tok _, ⟨_, rfl⟩, q⟩
end
section
variable {X : Cx} {k j : Nat} {x : Str} {sp : Sp} {p pos : Pos} {e : Expr} {es : List Expr} {t : TA} {W : WX}
/-- a call within a try, what it lets out is the clause's -/
theorem pe_cS (c : Cal X.prog X.w X.K X.mg X.base (L2.CX X.prog X.w) k x sp) (hr : Room j X.A) (hk : k ≤ j) (tk : Takes X W) (ha : PA X (e :: es) t) (hg : Gl X x := by rfl)
    (hdb : (x == ("__debug__" : Str)) = false := by decide) (he : starEach (e :: es) X.env = (false, eval e X.env) :: starEach es X.env := by rfl) (hpl : (backTo pos (starEach es X.env)).any (·.1) = false := by rfl) :
    PE X (.Call (.Name x p) (e :: es) [] pos) (tCallS sp (WE W) t) := by
  obtain ⟨f, fd, ps, F, hm, kp, b⟩ := c.ex
  exact pe_callS F (hr.mono hk) hg hm kp b (fun σ => passAt tk σ) ha hdb he hpl
/-- isinstance(e, c), e what the suite holds; that it is of the class D is the reading's to say -/
theorem call_isX {D a : Addr} {oe : Obj} {cls : Value} {d : Option Addr} {pn : List (Addr × Obj)} (C : ExcC X.K D) (hz : Zc cls d oe) (hf : ∃ vs, oe.data = .fields vs) :
    CallR (X.suite a ((a, oe) :: pn)) (.builtin "isinstance") (fun xs H Q => cls = .ref D ∧ d = none ∧ rIsE X.K D a xs H Q) := by
  intro pins s σ H xs us Q I r h
  obtain ⟨rfl, rfl, h⟩ := h
  exact call_isE C hz hf pins s σ H xs us Q I r h
end

/-! ### edits -/
/-- the mirror of a joint edit: what stands from done on -/
def jgo (z : List Nat) : Nat → List (Int × Int × List Nat) → Option (List Nat)
  | done, [] => some (z.drop done)
  | done, (s, e, n) :: r => if (done : Int) ≤ s ∧ s ≤ e ∧ e ≤ (z.length : Int) ∧ n.all okc = true then (jgo z e.toNat r).map fun t => (z.drop done).take (s.toNat - done) ++ (n ++ t) else none
def joint (z : List Nat) (eds : List (Int × Int × List Nat)) : Option (List Nat) := match jgo z 0 eds with
  | some r => if r.length ≤ 4000 then some r else none
  | none => none
/-- a list of edits stands at le -/
def EdAt (H : Hp) (le : Addr) (eds : List (Int × Int × Str)) : Prop := ∃ rs : List Addr, H le = some (.lst (rs.map V.ref)) ∧ rs.length = eds.length ∧ ∀ (i : Nat) (r : Addr) (s e : Int) (n : Str), rs[i]? = some r → eds[i]? = some (s, e, n) → H r = some (.tup [.int s, .int e, .str n])
def edl (eds : List (Int × Int × Str)) : List (Int × Int × List Nat) := eds.map fun x => (x.1, x.2.1, tl x.2.2)
/-- the lengths of all new texts -/
def news (eds : List (Int × Int × Str)) : Nat := (eds.map fun x => x.2.2.length).sum
theorem EdAt.same {H H' : Hp} {le : Addr} {eds : List (Int × Int × Str)} (s : Same H H') : EdAt H le eds → EdAt H' le eds := fun ⟨rs, h1, h2, h3⟩ => ⟨rs, s _ _ h1, h2, fun i r a b n p q => s _ _ (h3 i r a b n p q)⟩
def spMay : Sp := fun vs H Q _ => ∃ z : Str, vs = [.str z] ∧ Q (.bl ((tl z).all okc)) H
def spIsText : Sp := fun vs H Q _ => ∃ z : Str, vs = [.str z] ∧ z.length ≤ 1000000 ∧ Q (.bl (decide (z.length ≤ 4000) && (tl z).all okc)) H
def spJoint (C : Addr) : Sp := fun vs H Q E => ∃ (z : Str) (le : Addr) (eds : List (Int × Int × Str)), vs = [.str z, .ref le] ∧ EdAt H le eds ∧ z.length ≤ 1000000 ∧ eds.length ≤ 1000 ∧ news eds ≤ 1000000 ∧
  (∀ r H', joint (tl z) (edl eds) = some r → Same H H' → Q (.str (strL r)) H') ∧ (∀ H', joint (tl z) (edl eds) = none → Same H H' → E (.ref C) none H')
def spEdit (C : Addr) : Sp := fun vs H Q E => ∃ (z : Str) (ed : Addr) (s e : Int) (n : Str), vs = [.str z, .ref ed] ∧ H ed = some (.tup [.int s, .int e, .str n]) ∧ z.length ≤ 1000000 ∧ n.length ≤ 1000000 ∧
  (∀ r H', joint (tl z) [(s, e, tl n)] = some r → Same H H' → Q (.str (strL r)) H') ∧ (∀ H', joint (tl z) [(s, e, tl n)] = none → Same H H' → E (.ref C) none H')
/-! ### signs in order -/
theorem le_one (a b : Nat) : (!decide ([b] < [a])) = decide (a ≤ b) := by
  have : ([b] < [a]) ↔ b < a := by
    constructor
    · intro h
      cases h with
      | rel h => exact h
      | cons h => cases h
    · exact fun h => .rel h
  by_cases h : b < a
  · rw [decide_eq_true (this.mpr h), decide_eq_false (by omega)]
    rfl
  · rw [decide_eq_false (fun k => h (this.mp k)), decide_eq_true (by omega)]
    rfl
/-! ### classes of errors, as the top has written them -/
theorem own_cls {K : PySem.W.Frag} {C S : Addr} (i : PySem.W.isClsIn K S = true) (t : PySem.W.typeIn K (.ref S) = some (.type "type")) (s : PySem.W.subIn K (.ref C) (.ref S) = some true) : PySem.W.kitCls K (.ref C) (.ref S) = some true := by
  have e2 : ((PySem.W.clsIn K S).isSome && PySem.W.typeIn K (.ref S) == some (.type "type")) = true := by
    have h2 : (PySem.W.clsIn K S).isSome = true := i
    rw [h2, t] <;> rfl
  show (if _ then _ else _) = _
  rw [if_pos e2]
  exact s
theorem exm_of {K : PySem.W.Frag} {S : Addr} (b : PySem.W.subIn K (.ref S) (.type "BaseException") = some true) (i : PySem.W.isClsIn K S = true) (t : PySem.W.typeIn K (.ref S) = some (.type "type")) (s : PySem.W.subIn K (.ref S) (.ref S) = some true) :
    PySem.W.exmOne K (.ref S) (.ref S) = some true := by
  have e1 : (PySem.W.subIn K (.ref S) (.type "BaseException") == some true) = true := by rw [b] <;> rfl
  show (if _ then _ else _) = _
  rw [if_pos e1]
  exact own_cls i t s
theorem kit_own {K : PySem.W.Frag} {C S : Addr} (i : PySem.W.isClsIn K S = true) (t : PySem.W.typeIn K (.ref S) = some (.type "type")) (s : PySem.W.subIn K (.ref C) (.ref S) = some true) : PySem.W.kitOne K (.ref C) (.ref S) = some true := by
  show (if _ then _ else _) = _
  split
  · rfl
  · exact own_cls i t s
theorem kit_blt {K : PySem.W.Frag} {C : Addr} {n : String} (m : PySem.W.kitMeta n = true) (s : PySem.W.subIn K (.ref C) (.type n) = some true) : PySem.W.kitOne K (.ref C) (.type n) = some true := by
  show (if _ then _ else (if _ then _ else _)) = _
  split
  · rfl
  · first
      | exact s
      | (rw [if_pos m]; exact s)
end Sn

/-! My own words: methods called by name, attributes, dicts of the module with get. -/
namespace Sn
open PySem PySem.Spec PyProof.Rows L2
section
variable {X : Cx} {e : Expr} {t t' : TE}
theorem PE.imp (h : PE X e t) (i : ∀ σ H Q, t' σ H Q → t σ H Q) : PE X e t' := ⟨fun pins s σ H Q I q => h.run pins s σ H Q I (i _ _ _ q)⟩
theorem PS.imp {st : Stmt} {u u' : TS} (h : PS X st u) (i : ∀ D σ H, u' D σ H → u D σ H) : PS X st u' := ⟨fun pins s σ H D I q => h.run pins s σ H D I (i _ _ _ q)⟩
def tUp (t : TE) : TE := fun σ H Q => ∃ Q' : VK, t σ H Q' ∧ ∀ v H1, Q' v H1 → Q v H1
theorem PE.up (h : PE X e t) : PE X e (tUp t) := ⟨fun pins s σ H Q I ⟨Q', a, b⟩ => thn (h.run pins s σ H Q' I a) fun v s1 ⟨x, H1, I1, r1, q1⟩ => ⟨x, H1, I1, r1, b _ _ q1⟩⟩
end
/-- a method that may be called by its name -/
structure CalM (P : Program) (w : World) (K : PySem.W.Frag) (mg : Str → Option Value) (base : Heap) (CX : CXT) (k : Nat) (C : Addr) (m : Str) (sp : Sp) : Prop where
  ex : ∃ (f : Addr) (fd : FuncData) (ps : List Str), FnOk P w K mg base CX k f fd ps sp ∧ Meth K C m f ∧ Binds K fd ps []
/-- an instance of the class at C with attributes of these names -/
def IsI (H : Hp) (C p : Addr) (ns : List Str) : Prop := ∃ dx fs, H p = some (.ins C dx fs) ∧ fs.map (·.1) = ns
theorem lookup_no : ∀ {fs : List (Str × V)} {ns : List Str} {m : Str}, fs.map (·.1) = ns → ns.contains m = false → fs.lookup m = none
  | [], _, _, _, _ => rfl
  | (n, v) :: r, _, m, h, hm => by
    subst h
    rw [List.map_cons, List.contains_cons, Bool.or_eq_false_iff] at hm
    rw [List.lookup_cons, hm.1]
    exact lookup_no rfl hm.2
def tMe (C : Addr) (ns : List Str) (sp : Sp) (E : XK) (ta : TE) (t : TA) : TE := fun σ H Q => ta σ H fun x H1 => ∃ p, x = .ref p ∧ IsI H1 C p ns ∧ t σ H1 fun vs H2 => sp (x :: vs) H2 Q E
section
variable {X : Cx} {k j : Nat} {C : Addr} {m : Str} {sp : Sp} {apos pos : Pos} {o e : Expr} {es : List Expr} {ta : TE} {t : TA} {CX : CXT} {E : XK} {pl : Sem Bool}
theorem pe_m (ns : List Str) (c : CalM X.prog X.w X.K X.mg X.base CX k C m sp) (cl : Cls X.K C) (hno : ns.contains m = false) (hr : Room j X.A) (hk : k ≤ j) (hx : Passes CX X E) (he : PE X o ta) (ha : PA X (e :: es) t)
    (hst : starEach (e :: es) X.env = (false, eval e X.env) :: starEach es X.env := by rfl) (hpl : (backTo pos (starEach es X.env)).any (·.1) = false := by rfl)
    (ht : eval (.Call (.Attribute o m apos) (e :: es) [] pos) X.env = (do
      let ov ← eval o X.env
      standAt apos.atName
      let (f, first) ← holding [ov] (getMethod ov m pl)
      callWith pos f first (backTo pos (starEach (e :: es) X.env)) (backToKw pos (keywordEach [] X.env))) := by rfl) :
    PE X (.Call (.Attribute o m apos) (e :: es) [] pos) (tMe C ns sp E ta t) := by
  obtain ⟨f, fd, ps, F, hm, b⟩ := c.ex
  refine PE.imp (pe_meth (PE.up he) cl hm F (hr.mono hk) b .nil hx ha hst hpl ht) fun σ H Q h => ⟨_, h, ?_⟩
  rintro v H1 ⟨p, rfl, ⟨dx, fs, hp, hn⟩, q⟩
  refine ⟨p, dx, fs, rfl, hp, lookup_no hn hno, ?_⟩
  simp only [List.append_nil]
  exact q
theorem pe_m0 (ns : List Str) (c : CalM X.prog X.w X.K X.mg X.base CX k C m sp) (cl : Cls X.K C) (hno : ns.contains m = false) (hr : Room j X.A) (hk : k ≤ j) (hx : Passes CX X E) (he : PE X o ta)
    (ht : eval (.Call (.Attribute o m apos) [] [] pos) X.env = (do
      let ov ← eval o X.env
      standAt apos.atName
      let (f, first) ← holding [ov] (getMethod ov m pl)
      callWith pos f first (backTo pos (starEach [] X.env)) (backToKw pos (keywordEach [] X.env))) := by rfl) :
    PE X (.Call (.Attribute o m apos) [] [] pos) (tMe C ns sp E ta tNil) := by
  obtain ⟨f, fd, ps, F, hm, b⟩ := c.ex
  refine PE.imp (pe_meth0 (PE.up he) cl hm F (hr.mono hk) b .nil hx ht) fun σ H Q h => ⟨_, h, ?_⟩
  rintro v H1 ⟨p, rfl, ⟨dx, fs, hp, hn⟩, q⟩
  refine ⟨p, dx, fs, rfl, hp, lookup_no hn hno, ?_⟩
  exact q
end
/-! ### a dict of the module: get with another value -/
section
variable {X : Cx}
/-- a written dict with text keys; what it has at a key -/
structure KdAt (K : PySem.W.Frag) (w : World) (a : Addr) : Prop where
  ex : ∃ es n, K.lookup a = some ⟨.type "dict", none, .dict es n, #[]⟩ ∧ PySem.W.KeysLit w.params es.toList
  low : (a == sysModules) = false
def KdGet (K : PySem.W.Frag) (a : Addr) (x : Str) (r : Option V) : Prop := ∃ u, PySem.W.nsIn K a x = some u ∧ RelO r u
theorem relO_getD {r : Option V} {u : Option Value} {v : V} {d : Value} (h : RelO r u) (k : RelV v d) : RelV (r.getD v) (u.getD d) := by
  cases r with
  | none =>
    cases u with
    | none => exact k
    | some u => exact h.elim
  | some r =>
    cases u with
    | none => exact h.elim
    | some u => exact h
def tKGet2 (K : PySem.W.Frag) (w : World) (td ty tx : TE) : TE := fun σ H Q => td σ H fun x H1 => ∃ a, x = .ref a ∧ KdAt K w a ∧ ty σ H1 fun y H2 => tx σ H2 fun z H3 => ∃ (s : Str) (r : Option V), y = .str s ∧ KdGet K a s r ∧ Q (r.getD z) H3
theorem pe_kget2 {o e f : Expr} {apos cpos : Pos} {td ty tx : TE} (ho : PE X o td) (he : PE X e ty) (hf : PE X f tx) (m : M2 X o "get" apos e f cpos) : PE X (.Call (.Attribute o "get" apos) [e, f] [] cpos) (tKGet2 X.K X.w td ty tx) := by
  refine ⟨fun pins s σ H Q I h => ?_⟩
  refine wpAny_Call_method m.base m.few m.line PySem.F.plainAttrs_dict PySem.F.slot_dict_get PySem.F.type_dict_get (thn (ho.run pins s σ H _ I h) fun u s1 ⟨x, H1, I1, rx, a, ex, ⟨⟨es, n, hl, hk⟩, low⟩, q1⟩ => ?_)
  subst ex
  obtain rfl : u = Value.ref a := rx
  have M0 := PySem.W.mapOf_K (prog := X.prog) (w := X.w) I1.kIn hl hk
  refine ⟨M0.typeIs, fun b q => ?_, ?_⟩
  · cases q
    exact ⟨_, I1.kIn _ _ hl, rfl⟩
  rw [m.trees]
  refine Calls.callWith_builtin rfl (Calls.evalArgs_plain (Calls.spliced_cons (thn (he.run pins s1 σ H1 _ I1 q1) fun iv s2 ⟨y, H2, I2, ry, q2⟩ =>
    Calls.spliced_cons (thn (hf.run pins s2 σ H2 _ I2 q2) fun fv s3 ⟨z, H3, I3, rz, x, r, ey, ⟨u0, e, ro⟩, q3⟩ => Calls.spliced_nil ?_))))
  subst ey
  obtain ⟨t, rfl⟩ := (show ∃ t, iv = Value.str x t from ry)
  have M3 := PySem.W.mapOf_K (prog := X.prog) (w := X.w) I3.kIn hl hk
  refine call_meetsIn PySem.F.slot_dict_get M3.typeIs PySem.F.entry_dict_get (PySem.F.args_dict_get_3 _ _ _) (meets_dict_get_default (strKind X.prog X.w) a (strKind_is X.prog X.w x t) low fv) ⟨_, M3, ?_⟩
  rw [PySem.W.find_K hl e]
  exact ⟨_, H3, I3.tok _, relO_getD ro rz, q3⟩
end
end Sn

/-! My own words for the keeper: tuple(d), del d[k] with tuple keys, methods and local defs called within a try, try .. finally. -/
namespace Sn
open PySem PySem.Spec PyProof.Rows L2 PySem.W
/-! ### tuple(d) -/
section
variable {prog : Program} {w : World} {A : Around} {E : Value → Shared → Prop} {s : Shared} {T : String} {r d : Addr} {n : Nat} {P : Nat → Value → Prop} {OK : Heap → Prop}
/-- the items that a dict gives, in a new tuple -/
def Gives (s : Shared) (P : Nat → Value → Prop) (n : Nat) (Q : Value → Shared → Prop) : Prop :=
  ∀ (h' : Heap) (tk : Nat) (acc : Array Value), (∀ b o, s.heap.get? b = some o → h'.get? b = some o) → ItemsOf P acc n → Q (.ref h'.objs.size) { s with heap := h'.push { cls := .type "tuple", data := .seq acc }, toks := tk }
theorem collect_kdl {Q : List Value → Shared → Prop} (k : KdlSrc prog w T r d n P OK) (hh : A.handled = none) (hok : OK s.heap) (hn : n ≤ sizeLine)
    (hQ : ∀ (h' : Heap) (tk : Nat) (acc : Array Value), (∀ b o, s.heap.get? b = some o → h'.get? b = some o) → ItemsOf P acc n → Q acc.toList { s with heap := h', toks := tk }) : wpAny (model prog w) A (collect (.ref r)) Q E s := by
  have lt := k.there _ hok
  unfold collect
  refine wpAny_bind (wpAny_runValue (codeAny_builtin F.entry_proto_collect ?_))
  rw [Around.under_plainId F.plain_proto_collect _]
  show wpAny _ A.in1 (newList [] >>= fun l => again (.builtin "list.__iadd__" ⟨[l, .ref r], []⟩)) _ _ s
  refine wpAny_bind (wpAny_newObj_type ?_)
  refine wpAny_pure ⟨plainId_quiet F.plain_list_iadd _, codeAny_builtin F.entry_list_iadd ?_⟩
  rw [Around.under_plainId F.plain_list_iadd _]
  have hS : (s.heap.push { cls := .type "list", data := .seq ([] : List Value).toArray }).get? s.heap.objs.size = some { cls := .type "list", data := .seq #[] } := Heap.get?_push_size _ rfl
  show wpAny _ A.in1 (Builtin.List.listExtendWith (.ref s.heap.objs.size) (.ref r) (.ref s.heap.objs.size)) _ _ _
  refine wpAny_mono (kdl_extend (A := A) (R := fun rr s' => rr = .ok (.ret (.ref s.heap.objs.size)) ∧ ∃ (h' : Heap) (tk : Nat) (acc : Array Value) (c' : Nat), s' = { s with heap := h', toks := tk } ∧
      (∀ b o, s.heap.get? b = some o → h'.get? b = some o) ∧ h'.get? s.heap.objs.size = some { cls := .type "list", dict := none, data := .seq acc c', slots := #[] } ∧ ItemsOf P acc n)
    (s := { s with heap := s.heap.push { cls := .type "list", data := .seq ([] : List Value).toArray } }) k hh (k.keep _ _ hok fun b _ o e => Heap.get?_push_of_some _ e) s.heap.objs.size (Nat.ne_of_gt lt.1) (Nat.ne_of_gt lt.2) (.ref s.heap.objs.size) _ hS
    (fun h' tk acc c' hk e hi => ⟨rfl, h', tk, acc, c', rfl, fun b o q => hk b o (Nat.ne_of_lt (Heap.lt_size q)) (Heap.get?_push_of_some _ q), e, hi⟩) hn) (fun fin s' h => ?_) (fun e s' h => ?_)
  · cases fin with
    | done f =>
      obtain ⟨e, h', tk, acc, c', rfl, hk, hS', hi⟩ := h
      cases e
      exact wpAny_bind (wpAny_load hS' (wpAny_pure (hQ h' tk acc hk hi)))
    | again c' =>
      refine ⟨h.1, codeAny_mono h.2 fun rr s'' hr' => ?_⟩
      obtain ⟨rfl, h', tk, acc, c', rfl, hk, hS', hi⟩ := hr'
      exact wpAny_bind (wpAny_load hS' (wpAny_pure (hQ h' tk acc hk hi)))
  · exact absurd h.1 (by simp)
theorem code_tuple_kdl {Q₁ : Value → Shared → Prop} (k : KdlSrc prog w T r d n P OK) (hh : A.handled = none) (hok : OK s.heap) (hn : n ≤ sizeLine) (h2 : (Value.type T == Value.type "tuple") = false) (h : Gives s P n Q₁) :
    codeAny (model prog w) A (.call (.builtin "tuple.__new__") ⟨[.type "tuple", .ref r], []⟩) (wants Q₁ E) s := by
  refine codeAny_of_tree ?_
  show wpAny _ A.in1 (do checkBuiltinCall "tuple.__new__" ⟨[.type "tuple", .ref r], []⟩; again (.builtin "tuple.__new__" ⟨[.type "tuple", .ref r], []⟩)) _ _ s
  refine wpAny_bind (wpAny_of_eq (F.newCall_tuple_1 _) (wpAny_pure ⟨plainId_quiet F.plain_tuple_new _, codeAny_builtin F.entry_tuple_new ?_⟩))
  rw [Around.under_plainId F.plain_tuple_new _]
  have a1 := sub_tuple_self
  have a2 := init_tuple_lookup
  have a3 := madeHere_tuple
  have a4 := k.type s hok
  have a5 : A.in1.handled = none := hh
  wp_walk using wpAny_typeOf a4, collect_kdl (A := A.in1) k a5 hok hn
  intro h' tk acc hk hacc
  show wpAny _ _ (Builtin.Tuple.tupleExact acc.toList.toArray >>= fun v => ret v) _ _ _
  unfold Builtin.Tuple.tupleExact
  refine wpAny_bind (wpAny_newObj_type ?_ (by show acc.toList.toArray.size ≤ sizeLine; simp only [Array.toArray_toList]; rw [hacc.1]; exact hn))
  refine wpAny_pure ?_
  have e : acc.toList.toArray = acc := by simp
  rw [e]
  exact h h' tk acc hk hacc
theorem tuple_kdl {Q : Value → Shared → Prop} (k : KdlSrc prog w T r d n P OK) (hh : A.handled = none) (hok : OK s.heap) (hn : n ≤ sizeLine) (h2 : (Value.type T == Value.type "tuple") = false) (h : Gives s P n Q) :
    wpAny (model prog w) A (call (.type "tuple") [.ref r]) Q E s := by
  refine callType_codes (Q₁ := fun obj s₁ => s₁.TypeIs obj "tuple" ∧ Q obj s₁) F.called_tuple (F.typeCall_tuple_1 _) F.entry_object_init
    (code_tuple_kdl (A := A.in1) k hh hok hn h2 fun h' tk acc hk hacc => ⟨⟨_, Heap.get?_push_size _ rfl, rfl⟩, h h' tk acc hk hacc⟩) fun obj s₁ h₁ => ?_
  exact ⟨h₁.1, F.args_object_init_2 obj _, object_init_meets F.called_tuple.init.lookup F.called_tuple.made (by decide) prog w A.in1 _ s₁ ⟨h₁.1, rfl, h₁.2⟩⟩
end
section
variable {X : Cx}
def rTupT : List V → Hp → VK → Prop := fun xs H Q => ∃ d kvs, xs = [V.ref d] ∧ L2.Rd H d (.dT kvs) ∧ ∀ p bs, H p = none → IsKeys H kvs bs → Q (.ref p) (upd H p (.tup (bs.map V.ref)))
theorem call_tuple_dT (hc : X.calm = true) : CallR X (.type "tuple") rTupT := by
  intro pins s σ H xs us Q I r h
  obtain ⟨d, kvs, rfl, hd, q⟩ := h
  obtain ⟨u, rfl, rx⟩ := r.one
  cases rx
  obtain ⟨z, hs, ks, pr, o, es, ep, ho, hx, hdt, he, hn⟩ := (show ObjOk X.prog X.w H s.heap d (.dT kvs) from hd.ok I.hok)
  have l1 : es.size = ks.length := size_of_entries he
  have l2 : kvs.length = ks.length := Paired.length pr
  refine tuple_kdl (kdl_raw hs hx hdt) (I.ok.hd hc) ho (by omega) (by decide) fun h' tk acc' kp it => ?_
  have ea : acc'.toList = ks.map fun x => Value.ref x.2.1 := by
    have hl : acc'.toList.length = ks.length := by rw [Array.length_toList, it.1]; exact l1
    apply List.ext_getElem?
    intro j
    rw [List.getElem?_map]
    cases hj : acc'.toList[j]? with
    | none =>
      have h1 := List.getElem?_eq_none_iff.mp hj
      rw [List.getElem?_eq_none (by omega)]
      all_goals rfl
    | some v =>
      obtain ⟨en, hen, hv⟩ := it.2 j v (by rw [← Array.getElem?_toList]; exact hj)
      have qe := entry_at he j
      rw [hen] at qe
      cases hb : ks[j]? with
      | none =>
        rw [hb] at qe
        exact nomatch (show some en = none from qe)
      | some b =>
        rw [hb] at qe
        have e2 : en = entryOfKey (tupleKind (mixKind X.prog X.w)) b := Option.some.inj qe
        rw [hv, e2]
        all_goals rfl
  have eb : acc'.toList = (ks.map fun x => x.2.1).map Value.ref := by rw [ea, List.map_map]; all_goals rfl
  have rv : Vals ((ks.map fun x => x.2.1).map V.ref) acc'.toList := by rw [eb]; exact vals_refs _
  have hz : ((ks.map fun x => x.2.1).map V.ref).length ≤ sizeLine := by rw [List.length_map, List.length_map]; omega
  have I1 : Inv X pins σ H { s with heap := h' } := I.kept (t' := s.toks) kp
  have I2 : Inv X pins σ (upd H h'.objs.size (.tup ((ks.map fun x => x.2.1).map V.ref))) { s with heap := h'.push { cls := .type "tuple", data := .seq acc' }, toks := tk } :=
    (I1.laid (t' := s.toks) (fun b o e => Heap.get?_push_of_some _ e) (Nat.le_refl _) (show ObjOk X.prog X.w _ _ _ (.tup ((ks.map fun x => x.2.1).map V.ref)) from ⟨hz, acc'.toList, rv, by rw [Array.toArray_toList]; exact IsTup.new _ _⟩)).tok tk
  exact ⟨.ref h'.objs.size, _, I2, rfl, q _ _ (I1.hok.fresh (Nat.le_refl _)) (isKeys_of pr)⟩
/-! ### del d[k] -/
def sDelT (td ty : TE) : TS := fun D σ H => td σ H fun x H1 => ty σ H1 fun y H2 => ∃ (a : Addr) (kvs : List (List L2.Key × V)) (k : List L2.Key) (b : Addr) (v : V), x = .ref a ∧ H2 a = some (.dT kvs) ∧ y = .ref b ∧ H2 b = some (.tup (k.map kV)) ∧ valV kvs k = some v ∧ D.nx σ (upd H2 a (.dT (dropK kvs k)))
theorem d_delT {A : Around} {Ex : Value → Shared → Prop} {pins : List (Addr × Obj)} {σ : L2.St} {H : Hp} {s : Shared} {Q : Unit → Shared → Prop} {a b : Addr} {kvs : List (List L2.Key × V)} {k : List L2.Key} {v : V} (hu : A.units + 1 < cLine) (I : Inv X pins σ H s) (ha : H a = some (.dT kvs)) (hb : H b = some (.tup (k.map kV))) (hv : valV kvs k = some v)
    (h : ∀ s', Inv X pins σ (upd H a (.dT (dropK kvs k))) s' → Q () s') : wpAny (model X.prog X.w) A (delItem (.ref a) (.ref b)) Q Ex s := by
  obtain ⟨z, hd, xs', rel, dd⟩ := dt_of I.hok ha
  have hz : xs'.length ≤ sizeLine := by rw [← Paired.length rel]; exact z
  have r := rel.val k
  rw [hv] at r
  cases hp : atKey xs' k with
  | none =>
    rw [hp] at r
    exact (show False from r).elim
  | some p =>
    refine wpAny_delItem_heap (knd := tupleKind (mixKind X.prog X.w)) (tupleKind_room_in1 hu) (key_of I.hok hb) hd dd hp (fun h' dd' hs => h _ ?_) hz
    obtain ⟨o, es, ep, hq, h2, h3, h4, _, h5⟩ := dd'
    have kd : KT H (dropK kvs k) (withoutH xs' k) := L2.DX.KT_drop k rel
    exact d_write I (by rw [ha]; exact True.intro) hs ⟨o, hq⟩ ⟨Nat.le_trans (dropK_le kvs k) z, hd, _, kd.keeps (fun c ys ec => (by rw [upd_ne (ne_of ec ha (fun z => nomatch z))]; exact ec)), o, es, ep, hq, h2, h3, h4, h5⟩
theorem ps_ddelT {o i : Expr} {td ty : TE} {tpos pos : Pos} (hu : X.A.units + 1 < cLine) (ho : PE X o td) (hi : PE X i ty) : PS X (.Delete [.Subscript o i tpos] pos) (sDelT td ty) := by
  refine ⟨fun pins s σ H D I h => ?_⟩
  refine wpAny_Delete (wpAny_deleteEach_cons (wpAny_delete_Subscript (thn (ho.run pins s σ H _ I h) fun u s1 ⟨x, H1, I1, rx, q1⟩ => thn (hi.run pins s1 σ H1 _ I1 q1) fun iv s2 ⟨y, H2, I2, ry, a, kvs, k, b, v, ex, e, ey, eb, l, q2⟩ => ?_)))
  subst ex ey
  obtain rfl : u = Value.ref a := rx
  obtain rfl : iv = Value.ref b := ry
  exact d_delT hu I2 e eb l fun s3 I3 => wpAny_deleteEach_nil ⟨σ, _, I3, q2⟩
end
/-! ### calls within a try: what is raised is wished for at the slots as they stand -/
def tMeS (C : Addr) (ns : List Str) (sp : Sp) (E : L2.St → XK) (ta : TE) (t : TA) : TE := fun σ H Q => ta σ H fun x H1 => ∃ p, x = .ref p ∧ IsI H1 C p ns ∧ t σ H1 fun vs H2 => sp (x :: vs) H2 Q (E σ)
def tCaS (i : Nat) (f : Addr) (sp : Sp) (E : L2.St → XK) (t : TA) : TE := fun σ H Q => σ[i]? = some (some (.ref f)) ∧ t σ H fun vs H1 => sp vs H1 Q (E σ)
section
variable {X : Cx} {k j i : Nat} {C f : Addr} {fd : FuncData} {ps : List Str} {m x : Str} {sp : Sp} {apos pos p : Pos} {o e : Expr} {es : List Expr} {ta : TE} {t : TA} {CX : CXT} {E : L2.St → XK} {pl : Sem Bool}
theorem pe_mS (ns : List Str) (c : CalM X.prog X.w X.K X.mg X.base CX k C m sp) (cl : Cls X.K C) (hno : ns.contains m = false) (hr : Room j X.A) (hk : k ≤ j) (hx : ∀ σ, PassesAt CX X σ (E σ)) (he : PE X o ta) (ha : PA X (e :: es) t)
    (hst : starEach (e :: es) X.env = (false, eval e X.env) :: starEach es X.env := by rfl) (hpl : (backTo pos (starEach es X.env)).any (·.1) = false := by rfl)
    (ht : eval (.Call (.Attribute o m apos) (e :: es) [] pos) X.env = (do
      let ov ← eval o X.env
      standAt apos.atName
      let (f, first) ← holding [ov] (getMethod ov m pl)
      callWith pos f first (backTo pos (starEach (e :: es) X.env)) (backToKw pos (keywordEach [] X.env))) := by rfl) :
    PE X (.Call (.Attribute o m apos) (e :: es) [] pos) (tMeS C ns sp E ta t) := by
  obtain ⟨f, fd, ps, F, hm, b⟩ := c.ex
  refine ⟨fun pins s σ H Q I h => ?_⟩
  refine PySem.W.methodCall_KW (pl := pl) (thn (he.run pins s σ H _ I h) fun u s1 ⟨x, H1, I1, rx, a, ex, ⟨dx, fs, hp, hn⟩, q⟩ => ?_) ht
  subst ex
  obtain rfl : u = Value.ref a := rx
  refine getmeth_ok I1 hp cl hm (lookup_no hn hno) ?_
  refine PySem.W.callWith_K (first := [.ref a]) (h₀ := X.base) I.ok.mod.kin hm.kp (thn (ha.run pos pins s1 σ H1 _ I1 q) fun us s2 ⟨vs, H2, I2, r, q2⟩ => ⟨I2.kIn, ?_⟩) hst hpl
  exact run_fnS (us := .ref a :: us) (vs := .ref a :: vs) F (hr.mono hk) b (hx σ) I2 (.cons rfl r) q2
theorem pe_mS0 (ns : List Str) (c : CalM X.prog X.w X.K X.mg X.base CX k C m sp) (cl : Cls X.K C) (hno : ns.contains m = false) (hr : Room j X.A) (hk : k ≤ j) (hx : ∀ σ, PassesAt CX X σ (E σ)) (he : PE X o ta)
    (ht : eval (.Call (.Attribute o m apos) [] [] pos) X.env = (do
      let ov ← eval o X.env
      standAt apos.atName
      let (f, first) ← holding [ov] (getMethod ov m pl)
      callWith pos f first (backTo pos (starEach [] X.env)) (backToKw pos (keywordEach [] X.env))) := by rfl) :
    PE X (.Call (.Attribute o m apos) [] [] pos) (tMeS C ns sp E ta tNil) := by
  obtain ⟨f, fd, ps, F, hm, b⟩ := c.ex
  refine ⟨fun pins s σ H Q I h => ?_⟩
  refine PySem.W.methodCall_KW (pl := pl) (thn (he.run pins s σ H _ I h) fun u s1 ⟨x, H1, I1, rx, a, ex, ⟨dx, fs, hp, hn⟩, q⟩ => ?_) ht
  subst ex
  obtain rfl : u = Value.ref a := rx
  refine getmeth_ok I1 hp cl hm (lookup_no hn hno) ?_
  exact PySem.W.callWith_K0 (first := [.ref a]) I1.kIn hm.kp (run_fnS (us := [.ref a]) (vs := [.ref a]) F (hr.mono hk) b (hx σ) I1 (.cons rfl .nil) q)
theorem pe_caS (F : FnOk X.prog X.w X.K X.mg X.base CX k f fd ps sp) (hr : Room j X.A) (hkj : k ≤ j) (hN : X.N[i]? = some x) (hv : Vis X.env.scope x) (hk : PySem.W.keepIn X.K (.ref f) = true) (hb : Binds X.K fd ps []) (hx : ∀ σ, PassesAt CX X σ (E σ)) (ha : PA X (e :: es) t)
    (hdb : (x == ("__debug__" : Str)) = false := by decide) (hcd : (x == ("__classdict__" : Str)) = false := by decide)
    (he : starEach (e :: es) X.env = (false, eval e X.env) :: starEach es X.env := by rfl) (hpl : (backTo pos (starEach es X.env)).any (·.1) = false := by rfl) : PE X (.Call (.Name x p) (e :: es) [] pos) (tCaS i f sp E t) := by
  refine ⟨fun pins s σ H Q I h => ?_⟩
  obtain ⟨hs, ht⟩ := h
  refine wpAny_Call_Name_kw (thn ((pe_var (pos := p) hN hv hdb hcd).run pins s σ H (fun v H1 => v = .ref f ∧ H1 = H) I ⟨.ref f, hs, rfl, rfl⟩) fun u s1 ⟨v, H1, I1, r1, q1⟩ => ?_)
  obtain ⟨rfl, rfl⟩ := q1
  cases r1
  refine PySem.W.callWith_K (h₀ := X.base) I.ok.mod.kin hk (thn (ha.run pos pins s1 σ _ _ I1 ht) fun us s2 ⟨vs, H2, I2, r, q⟩ => ⟨I2.kIn, ?_⟩) he hpl
  exact run_fnS F (hr.mono hkj) hb (hx σ) I2 r q
end
/-! ### try .. finally -/
/-- the body's reading with what is wished of its errors; then the suite, either way -/
def tFi (tb : WX → TS) (tf tfs : TS) (Wout : WX) : TS := fun D σ H => tb (wFin tfs Wout) { nx := fun σ1 H1 => tf D σ1 H1, rt := fun _ _ => False } σ H
section
variable {X : Cx} {body : List Stmt} {f₀ : Stmt} {fs : List Stmt} {pos : Pos} {tb : WX → TS} {tf tfs : TS} {Wout : WX}
theorem ps_fi (hs : X.stack = X.env :: X.outer) (hf : X.env.frame = some X.env.locals) (hex : X.ex = []) (tk : Takes X Wout)
    (hb : ∀ (W : WX) (pn : List (Addr × Obj)) (xe : Value → Shared → Prop), Takes (X.tr pn xe) W → PassesOwn (model X.prog X.w) X.A X.env xe → PSs (X.tr pn xe) body (tb W))
    (hfin : PSs X.nox (f₀ :: fs) tf) (hsu : ∀ (a : Addr) (pn : List (Addr × Obj)), PSs (X.suite a pn) (f₀ :: fs) tfs) : PS X (.Try body [] [] (f₀ :: fs) pos) (tFi tb tf tfs Wout) := by
  refine ⟨fun pins s σ H D I h => ?_⟩
  have ok := I.ok
  let xe : Value → Shared → Prop := fun x s₁ => wpAny (model X.prog X.w) X.A (noteFrame x X.env) (fun _ s₂ => FinallyRaised X.prog X.w X.A X.xe X.env (f₀ :: fs) (SP X pins D) x s₂) (FinallyRaised X.prog X.w X.A X.xe X.env (f₀ :: fs) (SP X pins D)) s₁
  have takes : Takes (X.tr (X.pn ++ pins) xe) (wFin tfs Wout) := fun u s' xx => fin_exc hs hf hex ok tk hsu xx
  have run := (hb (wFin tfs Wout) (X.pn ++ pins) xe takes PassesOwn.looking).run [] s σ H { nx := fun σ1 H1 => tf D σ1 H1, rt := fun _ _ => False } (I.toTry _) h
  refine wpAny_Try_finally (wpAny_mono run (fun g s1 z => ?_) fun x s1 hx => hx)
  cases g with
  | ret u =>
    obtain ⟨_, _, _, _, _, q⟩ := z
    exact q.elim
  | brk =>
    obtain ⟨_, _, _, q⟩ := z
    exact False.elim q
  | cont =>
    obtain ⟨_, _, _, q⟩ := z
    exact False.elim q
  | next =>
    obtain ⟨σ1, H1, J1, q1⟩ := z
    refine wpAny_execs_nil (wpAny_mono (hfin.run pins s1 σ1 H1 D ((J1.ofTry ok).wish _) q1) (fun g2 s2 q2 => ?_) fun _ _ e => False.elim e)
    have q3 : SP X pins D g2 s2 := q2.unwish
    cases g2 <;> exact q3
end
end Sn

/-! My own rules: a list compared with an empty one (the first part of Rt.lean, for laws that have no replace). -/
namespace Sn
open PySem PySem.Spec PyProof.Rows L2
theorem un65 {k : Nat} {A : Around} (r : Room k A) : A.units + 65 < cLine := by have := r.un; omega
/-- xs == [] -/
def rEqE : R2 := fun x y H Q => ∃ a b xs, x = .ref a ∧ y = .ref b ∧ H a = some (.lst xs) ∧ H b = some (.lst []) ∧ Q (.bl xs.isEmpty) H
def rNeE : R2 := fun x y H Q => ∃ a b xs, x = .ref a ∧ y = .ref b ∧ H a = some (.lst xs) ∧ H b = some (.lst []) ∧ Q (.bl (!xs.isEmpty)) H
section
variable {X : Cx}
theorem op_eqE (hu : X.A.units + 64 < cLine) : OpR X (compareOp .Eq) rEqE := by
  intro pins s σ H x y v u Q I rx ry h
  obtain ⟨a, b, xs, rfl, rfl, ha, hb, q⟩ := h
  cases rx
  cases ry
  obtain ⟨_, its, n, r, el, e⟩ := I.lstM ha
  obtain ⟨_, its2, n2, r2, el2, e2⟩ := I.lstM hb
  have hl : s.heap.IsList a its.toArray := ⟨_, e, rfl, _, rfl⟩
  have hl2 : s.heap.IsList b its2.toArray := ⟨_, e2, rfl, _, rfl⟩
  have z2 : its2 = [] := List.length_eq_zero_iff.mp (by rw [← el2]; rfl)
  subst z2
  have hu' : X.A.units < cLine := by omega
  cases its with
  | nil =>
    have z1 : xs = [] := List.length_eq_zero_iff.mp (by rw [el]; rfl)
    subst z1
    refine SeqAt.RcAt.lists (e := fun _ => true) hl hl2 rfl hu' (fun j h1 => absurd h1 (by simp)) _ _ _ _ ⟨.bl true, H, I, ?_, q⟩
    rfl
  | cons i its =>
    have z1 : xs.isEmpty = false := by
      cases xs with
      | nil => cases el
      | cons _ _ => rfl
    rw [z1] at q
    exact SeqAt.RcAt.lists_lengths hl hl2 (by simp) hu' _ _ _ _ ⟨.bl false, H, I, rfl, q⟩
theorem op_neE (hu : X.A.units + 64 < cLine) : OpR X (compareOp .NotEq) rNeE := by
  intro pins s σ H x y v u Q I rx ry h
  obtain ⟨a, b, xs, rfl, rfl, ha, hb, q⟩ := h
  cases rx
  cases ry
  obtain ⟨_, its, n, r, el, e⟩ := I.lstM ha
  obtain ⟨_, its2, n2, r2, el2, e2⟩ := I.lstM hb
  have hl : s.heap.IsList a its.toArray := ⟨_, e, rfl, _, rfl⟩
  have hl2 : s.heap.IsList b its2.toArray := ⟨_, e2, rfl, _, rfl⟩
  have z2 : its2 = [] := List.length_eq_zero_iff.mp (by rw [← el2]; rfl)
  subst z2
  have hu' : X.A.units < cLine := by omega
  cases its with
  | nil =>
    have z1 : xs = [] := List.length_eq_zero_iff.mp (by rw [el]; rfl)
    subst z1
    refine SeqAt.RcNeAt.lists (e := fun _ => true) hl hl2 rfl hu' (fun j h1 => absurd h1 (by simp)) _ _ _ _ ⟨.bl false, H, I, ?_, q⟩
    rfl
  | cons i its =>
    have z1 : xs.isEmpty = false := by
      cases xs with
      | nil => cases el
      | cons _ _ => rfl
    rw [z1] at q
    exact SeqAt.RcNeAt.lists_lengths hl hl2 (by simp) hu' _ _ _ _ ⟨.bl true, H, I, rfl, q⟩
end
end Sn

namespace Sn
open PySem PySem.Spec PyProof.Rows L2 TL
/-! ### the text -/
def topS (i : Nat) : Stmt := PySem.Challenge.pw_samenames_k29_undo_and_redo.main.body.getD i (.Pass ⟨0, 0, 0, 0⟩)
/-- the built-in names that stand as they are -/
structure Nm (mg : Str → Option Value) : Prop where
  abs : mg "abs" = none
  int_ : mg "int" = none
  len : mg "len" = none
  range : mg "range" = none
  isinstance : mg "isinstance" = none
  bool_ : mg "bool" = none
  str_ : mg "str" = none
  tuple_ : mg "tuple" = none
  list_ : mg "list" = none
section
variable {P : Program} {w : World} {K : PySem.W.Frag} {mg : Str → Option Value} {base : Heap} {f : Addr} {fd : FuncData}
abbrev s_tape : Stmt := topS 113
abbrev N_tape : List Str := ["script", "cell", "cells", "seed"]
theorem sc_tape : FnScope N_tape ["script"] (defScope s_tape) := ⟨rfl, rfl, rfl, by decide +kernel, rfl, by decide +kernel, by decide +kernel⟩
theorem nonneg_abs (i : Int) : 0 ≤ (if i < 0 then -i else i) := by
  split <;> omega
theorem ok_tape (F : Fun K "_law_tape" "_law_tape" s_tape f fd) (T : Nm mg) : FnOk P w K mg base CX0 1 f fd ["script"] (spTape K) := by
  refine F.ok sc_tape (fun vs H Q E h => ?_) (fun cdv A outer s H vs Q E hr h => ?_)
  · obtain ⟨a, ns, rfl, _⟩ := h
    rfl
  obtain ⟨a, ns, rfl, hS, hl, q⟩ := h
  refine ⟨_, (pss_cons (ps_setLc (i := 2) (own := [(("cell" : Str), 1)]) (g := (gName 1)) (tt := tYes) (by rfl) sc_tape.nd rfl rfl (sw_true rfl rfl rfl (by decide +kernel)) (pi_list (pv 0)) (blkOk_by (N := N_tape) (sc := defScope s_tape) (by decide +kernel)) (fun _ _ _ _ _ => (pg_name (i := 1) sc_tape.nd rfl (Or.inl rfl))) (fun _ _ _ _ _ => pts_nil) (fun _ _ _ _ _ => (pe_callB call_abs (by rfl) T.abs (by decide +kernel) (pa_cons (pe_callTy call_int1 (by rfl) T.int_ (by decide +kernel) (pa_cons (pv 1) pa_nil)) pa_nil))))
    (pss_cons (ps_set (i := 3) sc_tape.nd rfl (Or.inl rfl) pe_int)
    (pss_cons (ps_for PassesOwn.never rfl (pi_list (pv 2)) (pg_name (i := 1) sc_tape.nd rfl (Or.inl rfl)) (pss_one (ps_set (i := 3) sc_tape.nd rfl (Or.inl rfl) (pe_op op_mod (pe_callTy call_int1 (by rfl) T.int_ (by decide +kernel) (pa_cons (pe_op op_add (pe_op op_mul (pv 3) pe_int) (pv 1)) pa_nil)) pe_int))))
    (pss_one (ps_ret (pe_disp (pps_cons pe_str (pv 2) (pps_cons pe_str pe_int (pps_cons pe_str pe_int (pps_cons pe_str (pv 3) (pps_cons pe_str pe_int pps_nil))))) (by rfl) (by rfl) (fun z => by cases z) (by decide))))))), ?_⟩
  -- cells
  refine ⟨_, rfl, a, rfl, ⟨_, hS⟩, fun D hD => ?_⟩
  have s1 : Same H (upd H D (.lst [])) := same_new hD
  refine lc_list (K := K) (a := a) (xs := ns.map V.int) (fun i H' => Same H H' ∧ ∃ cs : List Int, H' D = some (.lst (cs.map V.int)) ∧ cs.length = i ∧ ∀ x ∈ cs, 0 ≤ x)
    ⟨s1, [], upd_same, rfl, fun _ h => nomatch h⟩ (fun i H' _ h => h.1.seq hS) ?_ ?_
  · rintro i x H' hi ⟨sm, cs, hd, hc, hp⟩
    obtain ⟨u, rfl⟩ : ∃ u, x = V.int u := by
      rw [List.getElem?_map] at hi
      cases e : ns[i]? with
      | none => rw [e] at hi; cases hi
      | some u => rw [e] at hi; exact ⟨u, (Option.some.inj hi).symm⟩
    have hi2 : i < ns.length := by
      have z := (List.getElem?_eq_some_iff.mp hi).1
      rwa [List.length_map] at z
    refine ⟨rfl, ?_⟩
    refine ⟨_, rfl, .inl ⟨_, rfl, _, rfl, cs.map V.int, hd, ?_, ?_⟩⟩
    · rw [List.length_map]; exact Nat.lt_of_lt_of_le (show cs.length < 1000 by omega) (by decide)
    · refine ⟨fun b o e => ?_, cs ++ [if u < 0 then -u else u], ?_, by simp [hc], fun y hy => ?_⟩
      · rw [upd_ne (ne_of_none e hD)]; exact sm _ _ e
      · rw [upd_same, List.map_append] <;> rfl
      · rcases List.mem_append.mp hy with hy | hy
        · exact hp y hy
        · rw [List.mem_singleton.mp hy]; exact nonneg_abs u
  · rintro H1 ⟨sm, cs, hd, hc, hp⟩
    -- seed
    refine ⟨_, rfl, D, rfl, ⟨_, .inl (.inl hd)⟩, for_list (K := K) (a := D) (xs := cs.map V.int) (fun i σ H' => ∃ (v : Option V) (se : Int), σ = [some (.ref a), v, some (.ref D), some (.int se)] ∧ H' = H1 ∧ 0 ≤ se ∧ se < 2147483647)
      ⟨none, 7, rfl, rfl, by decide, by decide⟩ (fun i σ H' _ ⟨_, _, _, e, _⟩ => by rw [e]; exact .inl (.inl hd)) ?_ ?_⟩
    · rintro i x σ H' hi ⟨v, se, rfl, rfl, h0, h1⟩
      obtain ⟨u, rfl⟩ : ∃ u, x = V.int u := by
        rw [List.getElem?_map] at hi
        cases e : cs[i]? with
        | none => rw [e] at hi; cases hi
        | some u => rw [e] at hi; exact ⟨u, (Option.some.inj hi).symm⟩
      refine ⟨_, rfl, _, _, rfl, rfl, .inr ⟨by decide, by decide⟩, _, rfl, _, _, rfl, rfl, .inl ⟨_, rfl, _, _, rfl, rfl, (by show (0 : Int) < 2147483647; decide), ?_⟩⟩
      exact ⟨_, _, rfl, rfl, Int.emod_nonneg _ (by decide), Int.emod_lt_of_pos _ (by decide)⟩
    · rintro σ H' ⟨v, se, rfl, rfl, h0, h1⟩
      -- the dict
      intro t ht
      have hDt : D ≠ t := ne_of_none hd ht
      refine ⟨_, rfl, ?_⟩
      refine ⟨_, rfl, ?_⟩
      refine ⟨upd_same, tk D 0 0 se 0, rfl, (by show 5 ≤ 15; decide), ?_⟩
      rw [upd_upd]
      have e : mergeK [] (tk D 0 0 se 0) = tk D 0 0 se 0 := by kernel_rfl
      rw [e]
      exact q t D _ (fun b o z => by rw [upd_ne (ne_of_none (sm _ _ z) ht)]; exact sm _ _ z) (sm.free ht) hD
        ⟨cs, 0, 0, se, 0, upd_same, by rw [upd_ne hDt]; exact hd, hp, by decide, by decide, h0, h1⟩

abbrev s_take : Stmt := topS 114
abbrev N_take : List Str := ["tape", "many", "drawn", "mixed"]
theorem sc_take : FnScope N_take ["tape", "many"] (defScope s_take) := ⟨rfl, rfl, rfl, by decide +kernel, rfl, by decide +kernel, by decide +kernel⟩
theorem ok_take (F : Fun K "_law_take" "_law_take" s_take f fd) (T : Nm mg) : FnOk P w K mg base CX0 1 f fd ["tape", "many"] spTake := by
  refine F.ok sc_take (fun vs H Q E h => ?_) (fun cdv A outer s H vs Q E hr h => ?_)
  · obtain ⟨t, c, n, rfl, _⟩ := h
    rfl
  obtain ⟨t, c, n, rfl, ⟨cs, a, l, se, sa, z⟩, hn, hn2, q⟩ := h
  refine ⟨_, (C8.pss_cut (ps_if (PW.pt (pw_and (pt_cmpR op_eq (pe_dget (hu_of hr) (pv 0) pe_str (fun _ _ => rfl)) pe_int (nomark _)) (pw_and1 (pt_cmpR op_lt (pe_dget (hu_of hr) (pv 0) pe_str (fun _ _ => rfl)) (pe_callB call_len_seq (by rfl) T.len PySem.boot_len (pa_cons (pe_dget (hu_of hr) (pv 0) pe_str (fun _ _ => rfl)) pa_nil)) (nomark _))))) (pss_cons (ps_dput (hu_of hr) (pv 0) pe_str (pe_ix (r := rIxL K) ix_list (pe_dget (hu_of hr) (pv 0) pe_str (fun _ _ => rfl)) (pe_dget (hu_of hr) (pv 0) pe_str (fun _ _ => rfl)) (fun _ _ => rfl)) rfl)
    (pss_one (ps_dput (hu_of hr) (pv 0) pe_str (pe_op op_add (pe_dget (hu_of hr) (pv 0) pe_str (fun _ _ => rfl)) pe_int) rfl))) pss_nil)
    (pss_cons (ps_if (pt_cmpR op_gt (pe_dget (hu_of hr) (pv 0) pe_str (fun _ _ => rfl)) pe_int (nomark _)) (pss_cons (ps_set (i := 2) sc_take.nd rfl (Or.inl rfl) (pe_op op_mod (pe_callTy call_int1 (by rfl) T.int_ (by decide +kernel) (pa_cons (pe_dget (hu_of hr) (pv 0) pe_str (fun _ _ => rfl)) pa_nil)) (pv 1)))
    (pss_cons (ps_dput (hu_of hr) (pv 0) pe_str (pe_op op_fdiv (pe_dget (hu_of hr) (pv 0) pe_str (fun _ _ => rfl)) (pv 1)) rfl)
    (pss_one (ps_ret (pv 2))))) pss_nil)
    (pss_cons (ps_dput (hu_of hr) (pv 0) pe_str (pe_op op_add (pe_dget (hu_of hr) (pv 0) pe_str (fun _ _ => rfl)) pe_int) rfl)
    (pss_cons (ps_set (i := 3) sc_take.nd rfl (Or.inl rfl) (pe_op op_mod (pe_callTy call_int1 (by rfl) T.int_ (by decide +kernel) (pa_cons (pe_op op_add (pe_op op_mul (pe_dget (hu_of hr) (pv 0) pe_str (fun _ _ => rfl)) pe_int) (pe_op op_mul (pe_dget (hu_of hr) (pv 0) pe_str (fun _ _ => rfl)) pe_int)) pa_nil)) pe_int))
    (pss_cons (ps_set (i := 3) sc_take.nd rfl (Or.inl rfl) (pe_op op_mod (pe_callTy call_int1 (by rfl) T.int_ (by decide +kernel) (pa_cons (pe_op op_add (pe_op op_add (pe_op op_mul (pv 3) (pv 3)) (pe_op op_mul (pe_dget (hu_of hr) (pv 0) pe_str (fun _ _ => rfl)) pe_int)) pe_int) pa_nil)) pe_int))
    (pss_one (ps_ret (pe_op op_mod (pe_callTy call_int1 (by rfl) T.int_ (by decide +kernel) (pa_cons (pv 3) pa_nil)) (pv 1))))))))), ?_⟩
  -- if tape['left'] == 0 and tape['at'] < len(tape['cells'])
  refine ⟨fun σ H' => σ = L2.start N_take [.ref t, .int n] ∧ ∃ a l, But t H H' ∧ TkAt H' t c cs a l se sa, ?_, ?_⟩
  · refine ⟨_, rfl, t, _, rfl, z.dg g_left, rfl, _, rfl, ?_⟩
    refine ite2 (fun _ => ?_) (fun _ => iteF ⟨rfl, a, l, But.refl t H, z⟩)
    refine ⟨_, rfl, t, _, rfl, z.dg g_at, _, rfl, t, _, rfl, z.dg g_cells, c, _, rfl, .inl (.inl (.inl z.cl)), _, _, rfl, rfl, _, rfl, ?_⟩
    refine ite2 (fun ha => ?_) (fun _ => ⟨rfl, a, l, But.refl t H, z⟩)
    have ha : a < ((cs.map V.int).length : Int) := of_decide_eq_true ha
    rw [List.length_map] at ha
    have hj : a.toNat < cs.length := by have := z.a0; omega
    have ea : a = (a.toNat : Int) := by have := z.a0; omega
    have g1 : (cs.map V.int)[a.toNat]? = some (.int cs[a.toNat]) := by
      rw [List.getElem?_map, List.getElem?_eq_getElem hj] <;> rfl
    refine ⟨_, rfl, t, _, rfl, z.dg g_cells, _, rfl, t, _, rfl, z.dg g_at, c, _, _, _, rfl, rfl, .inl (.inl z.cl), at_of ea g1, _, rfl, t, _, rfl, z.pLeft, ?_⟩
    have z1 := z.sLeft (v := cs[a.toNat]) (z.cp _ (List.getElem_mem hj))
    refine ⟨_, rfl, t, _, rfl, z1.dg g_at, _, _, rfl, rfl, _, rfl, t, _, rfl, z1.pAt, ?_⟩
    exact ⟨rfl, _, _, ((But.refl t H).upd).upd, z1.sAt (by have := z.a0; omega)⟩
  rintro σ H1 ⟨rfl, a, l, bt, z⟩
  -- if tape['left'] > 0
  refine ⟨_, rfl, t, _, rfl, z.dg g_left, _, _, rfl, rfl, _, rfl, ?_⟩
  refine ite2 (fun hl => ?_) (fun _ => ?_)
  · have hl : 0 < l := of_decide_eq_true hl
    refine ⟨_, rfl, t, _, rfl, z.dg g_left, .inl ⟨_, rfl, _, rfl, _, _, rfl, rfl, hn, ?_⟩⟩
    refine ⟨_, rfl, t, _, rfl, z.dg g_left, _, rfl, _, _, rfl, rfl, ⟨hn, hn2⟩, _, rfl, t, _, rfl, z.pLeft, ?_⟩
    refine ⟨_, rfl, ?_⟩
    exact q _ _ (Int.emod_nonneg _ (by omega)) (Int.emod_lt_of_pos _ hn) bt.upd ⟨cs, a, _, se, sa, z.sLeft (Int.ediv_nonneg z.l0 (by omega))⟩
  · refine ⟨_, rfl, t, _, rfl, z.dg g_salt, _, _, rfl, rfl, _, rfl, t, _, rfl, z.pSalt, ?_⟩
    have z1 := z.sSalt (v := sa + 1)
    have b1 : But t H (upd H1 t (.dK (tk c a l se (sa + 1)))) := bt.upd
    generalize upd H1 t (.dK (tk c a l se (sa + 1))) = H2 at z1 b1 ⊢
    refine ⟨_, rfl, t, _, rfl, z1.dg g_seed, _, _, rfl, rfl, .inr ⟨by decide, by decide⟩, _, rfl, t, _, rfl, z1.dg g_salt, _, _, rfl, rfl, .inr ⟨by decide, by decide⟩, _, _, rfl, rfl, .inl ⟨_, rfl, _, _, rfl, rfl, (by show (0 : Int) < 2147483647; decide), ?_⟩⟩
    have hm := Int.emod_lt_of_pos (se * 48271 + (sa + 1) * 69621) (show (0 : Int) < 2147483647 by decide)
    have hm0 := Int.emod_nonneg (se * 48271 + (sa + 1) * 69621) (show (2147483647 : Int) ≠ 0 by decide)
    generalize (se * 48271 + (sa + 1) * 69621) % 2147483647 = mx at hm hm0 ⊢
    refine ⟨_, rfl, _, rfl, _, _, rfl, rfl, .inl ⟨by omega, by omega⟩, _, rfl, t, _, rfl, z1.dg g_salt, _, _, rfl, rfl, .inr ⟨by decide, by decide⟩, _, _, rfl, rfl, _, _, rfl, rfl, .inl ⟨_, rfl, _, _, rfl, rfl, (by show (0 : Int) < 2147483399; decide), ?_⟩⟩
    refine ⟨_, rfl, .inl ⟨_, rfl, _, rfl, _, _, rfl, rfl, hn, ?_⟩⟩
    exact q _ _ (Int.emod_nonneg _ (by omega)) (Int.emod_lt_of_pos _ hn) b1 ⟨cs, a, l, se, _, z1⟩

abbrev s_isInt : Stmt := topS 115
abbrev N_isInt : List Str := ["actual"]
theorem sc_isInt : FnScope N_isInt ["actual"] (defScope s_isInt) := ⟨rfl, rfl, rfl, by decide +kernel, rfl, by decide +kernel, by decide +kernel⟩
theorem ok_isInt (F : Fun K "_law_is_integer" "_law_is_integer" s_isInt f fd) (T : Nm mg) : FnOk P w K mg base CX0 1 f fd ["actual"] spIsInt := by
  refine F.ok sc_isInt (fun vs H Q E h => ?_) (fun cdv A outer s H vs Q E hr h => ?_)
  · obtain ⟨i, rfl, _⟩ := h
    rfl
  obtain ⟨i, rfl, q⟩ := h
  refine ⟨_, (pss_one (ps_ret (pe_and (pe_callB call_isi (by rfl) T.isinstance (by decide +kernel) (pa_cons (pv 0) (pa_cons (pe_bltn (v := .ty "int") (u := .type "int") (by rfl) T.int_ (by decide +kernel) rfl) pa_nil))) (pe_one (pe_not (pe_callB call_isi (by rfl) T.isinstance (by decide +kernel) (pa_cons (pv 0) (pa_cons (pe_bltn (v := .ty "bool") (u := .type "bool") (by rfl) T.bool_ (by decide +kernel) rfl) pa_nil)))))))), ?_⟩
  refine ⟨_, rfl, _, _, _, _, true, rfl, .ty _, .base (.int _), kit_ty (by decide +kernel), _, rfl, ?_⟩
  refine ⟨_, rfl, _, _, _, _, false, rfl, .ty _, .base (.int _), kit_ty (by decide +kernel), _, rfl, q⟩

abbrev s_sameItems : Stmt := topS 116
abbrev N_sameItems : List Str := ["actual", "expected", "k"]
theorem sc_sameItems : FnScope N_sameItems ["actual", "expected"] (defScope s_sameItems) := ⟨rfl, rfl, rfl, by decide +kernel, rfl, by decide +kernel, by decide +kernel⟩
theorem ok_items {n : Nat} (F : Fun K "_law_same_items" "_law_same_items" s_sameItems f fd) (T : Nm mg) (C_law_same : Cal P w K mg base CX0 (2 * n) "_law_same" (spSame n)) : FnOk P w K mg base CX0 (2 * n + 1) f fd ["actual", "expected"] (spItems n) := by
  refine F.ok sc_sameItems (fun vs H Q E h => ?_) (fun cdv A outer s H vs Q E hr h => ?_)
  · obtain ⟨a, b, xs, ys, rfl, _⟩ := h
    rfl
  obtain ⟨a, b, xs, ys, rfl, hs, hl, hm, al, q⟩ := h
  have sa : SqL K H a xs ∨ SqT K H a xs := hs.elim (fun h => .inr (.inl (.inl h.1))) fun h => .inl (.inl (.inl h.1))
  have sb : SqL K H b ys ∨ SqT K H b ys := hs.elim (fun h => .inr (.inl (.inl h.2))) fun h => .inl (.inl (.inl h.2))
  refine ⟨_, (pss_cons (ps_if (pt_cmpR op_ne (pe_callB call_len_seq (by rfl) T.len PySem.boot_len (pa_cons (pv 0) pa_nil)) (pe_callB call_len_seq (by rfl) T.len PySem.boot_len (pa_cons (pv 1) pa_nil)) (nomark _)) (pss_one (ps_ret pe_bl)) pss_nil)
    (pss_cons (ps_for PassesOwn.never rfl (pi_range1 (by rfl) T.range (pa_cons (pe_callB call_len_seq (by rfl) T.len PySem.boot_len (pa_cons (pv 1) pa_nil)) pa_nil)) (pg_name (i := 2) sc_sameItems.nd rfl (Or.inl rfl)) (pss_one (ps_if (pt_not (pt_val (pe_c C_law_same hr (by first | decide | omega) pass0 (pa_cons (pe_ix (r := rIx K) ix_seq (pv 0) (pv 2) (fun _ _ => rfl)) (pa_cons (pe_ix (r := rIx K) ix_seq (pv 1) (pv 2) (fun _ _ => rfl)) pa_nil))))) (pss_one (ps_ret pe_bl)) pss_nil)))
    (pss_one (ps_ret pe_bl)))), ?_⟩
  refine ⟨_, rfl, a, xs, rfl, sa, _, rfl, b, ys, rfl, sb, rfl, _, rfl, ?_⟩
  refine iteNS (by rw [hl]) ?_
  refine ⟨_, rfl, b, ys, rfl, sb, _, rfl, by omega, by omega, for_range (lo := 0) (n := ((ys.length : Nat) : Int).toNat) (fun i σ H' => H' = H ∧ ∃ v, σ = [some (.ref a), some (.ref b), v]) ⟨rfl, none, rfl⟩ ?_ ?_⟩
  · rintro i σ H' hi ⟨rfl, v, rfl⟩
    have hi1 : i < ys.length := by omega
    have hi2 : i < xs.length := by omega
    have ei : ((0 : Int) + (i : Nat)) = ((i : Nat) : Int) := Int.zero_add _
    have g1 := List.getElem?_eq_getElem hi2
    have g2 := List.getElem?_eq_getElem hi1
    refine ⟨_, rfl, _, rfl, ?_⟩
    have r1 : ∀ {Q' : VK}, Q' xs[i] H' → rIx K (.ref a) (.int (0 + (i : Nat))) H' Q' := fun {Q'} h => sa.elim (fun s => .inl ⟨a, xs, _, _, rfl, rfl, s, at_of ei g1, h⟩) fun s => .inr (.inl ⟨a, xs, _, _, rfl, rfl, s, at_of ei g1, h⟩)
    have r2 : ∀ {Q' : VK}, Q' ys[i] H' → rIx K (.ref b) (.int (0 + (i : Nat))) H' Q' := fun {Q'} h => sb.elim (fun s => .inl ⟨b, ys, _, _, rfl, rfl, s, at_of ei g2, h⟩) fun s => .inr (.inl ⟨b, ys, _, _, rfl, rfl, s, at_of ei g2, h⟩)
    refine r1 ⟨_, rfl, _, rfl, r2 ?_⟩
    refine ⟨_, _, rfl, al i _ _ g1 g2, _, rfl, ?_⟩
    exact ⟨rfl, _, rfl⟩
  · rintro σ H' ⟨rfl, v, rfl⟩
    exact q

abbrev s_same : Stmt := topS 117
abbrev N_same : List Str := ["actual", "expected", "key"]
theorem sc_same : FnScope N_same ["actual", "expected"] (defScope s_same) := ⟨rfl, rfl, rfl, by decide +kernel, rfl, by decide +kernel, by decide +kernel⟩
theorem ok_same {n : Nat} (F : Fun K "_law_same" "_law_same" s_same f fd) (T : Nm mg) (C_law_is_integer : Cal P w K mg base CX0 1 "_law_is_integer" spIsInt) (C_law_same_items : Cal P w K mg base CX0 (2 * n + 1) "_law_same_items" (spItems n)) :
    FnOk P w K mg base CX0 (2 * n + 2) f fd ["actual", "expected"] (spSame (n + 1)) := by
  refine F.ok sc_same (fun vs H Q E h => ?_) (fun cdv A outer s H vs Q E hr h => ?_)
  · obtain ⟨x, y, rfl, _⟩ := h
    rfl
  obtain ⟨x, y, rfl, al, q⟩ := h
  refine ⟨_, (pss_cons (ps_if (pt_cmpR op_isN (pv 1) pe_non (nomark _)) (pss_one (ps_ret (pe_cmpR op_isN (pv 0) pe_non (nomark _)))) pss_nil)
    (pss_cons (ps_if (pt_val (pe_callB call_isi (by rfl) T.isinstance (by decide +kernel) (pa_cons (pv 1) (pa_cons (pe_bltn (v := .ty "bool") (u := .type "bool") (by rfl) T.bool_ (by decide +kernel) rfl) pa_nil)))) (pss_one (ps_ret (pe_and (pe_callB call_isi (by rfl) T.isinstance (by decide +kernel) (pa_cons (pv 0) (pa_cons (pe_bltn (v := .ty "bool") (u := .type "bool") (by rfl) T.bool_ (by decide +kernel) rfl) pa_nil))) (pe_one (pe_cmpR op_eq (pv 0) (pv 1) (nomark _)))))) pss_nil)
    (pss_cons (ps_if (pt_val (pe_callB call_isi (by rfl) T.isinstance (by decide +kernel) (pa_cons (pv 1) (pa_cons (pe_bltn (v := .ty "int") (u := .type "int") (by rfl) T.int_ (by decide +kernel) rfl) pa_nil)))) (pss_one (ps_ret (pe_and (pe_c C_law_is_integer hr (by first | decide | omega) pass0 (pa_cons (pv 0) pa_nil)) (pe_one (pe_cmpR op_eq (pv 0) (pv 1) (nomark _)))))) pss_nil)
    (pss_cons (ps_if (pt_val (pe_callB call_isi (by rfl) T.isinstance (by decide +kernel) (pa_cons (pv 1) (pa_cons (pe_bltn (v := .ty "str") (u := .type "str") (by rfl) T.str_ (by decide +kernel) rfl) pa_nil)))) (pss_one (ps_ret (pe_and (pe_callB call_isi (by rfl) T.isinstance (by decide +kernel) (pa_cons (pv 0) (pa_cons (pe_bltn (v := .ty "str") (u := .type "str") (by rfl) T.str_ (by decide +kernel) rfl) pa_nil))) (pe_one (pe_cmpR op_eq (pv 0) (pv 1) (nomark _)))))) pss_nil)
    (pss_cons (ps_if (pt_val (pe_callB call_isi (by rfl) T.isinstance (by decide +kernel) (pa_cons (pv 1) (pa_cons (pe_bltn (v := .ty "tuple") (u := .type "tuple") (by rfl) T.tuple_ (by decide +kernel) rfl) pa_nil)))) (pss_one (ps_ret (pe_and (pe_callB call_isi (by rfl) T.isinstance (by decide +kernel) (pa_cons (pv 0) (pa_cons (pe_bltn (v := .ty "tuple") (u := .type "tuple") (by rfl) T.tuple_ (by decide +kernel) rfl) pa_nil))) (pe_one (pe_c C_law_same_items hr (by first | decide | omega) pass0 (pa_cons (pv 0) (pa_cons (pv 1) pa_nil))))))) pss_nil)
    (pss_cons (ps_if (pt_val (pe_callB call_isi (by rfl) T.isinstance (by decide +kernel) (pa_cons (pv 1) (pa_cons (pe_bltn (v := .ty "list") (u := .type "list") (by rfl) T.list_ (by decide +kernel) rfl) pa_nil)))) (pss_one (ps_ret (pe_and (pe_callB call_isi (by rfl) T.isinstance (by decide +kernel) (pa_cons (pv 0) (pa_cons (pe_bltn (v := .ty "list") (u := .type "list") (by rfl) T.list_ (by decide +kernel) rfl) pa_nil))) (pe_one (pe_c C_law_same_items hr (by first | decide | omega) pass0 (pa_cons (pv 0) (pa_cons (pv 1) pa_nil))))))) pss_nil)
    (pss_cons ps_never
    (pss_cons ps_never
    (pss_cons ps_never
    (pss_one ps_never)))))))))), ?_⟩
  rcases al with ⟨rfl, hx⟩ | ⟨a, b, xs, ys, rfl, rfl, ha, hb, hl, hm, al⟩ | ⟨a, b, xs, ys, rfl, rfl, ha, hb, hl, hm, al⟩
  · cases x with
    | non => exact ⟨_, rfl, rfl, _, rfl, iteP rfl ⟨_, rfl, rfl, qP rfl q⟩⟩
    | bl k =>
      refine ⟨_, rfl, rfl, _, rfl, iteN (fun z => nomatch z) ?_⟩
      refine ⟨_, rfl, _, _, _, _, true, rfl, .ty _, .base (.bl _), kit_ty (by decide +kernel), _, rfl, ?_⟩
      refine ⟨_, rfl, _, _, _, _, true, rfl, .ty _, .base (.bl _), kit_ty (by decide +kernel), _, rfl, ?_⟩
      exact ⟨_, rfl, _, rfl, rfl, qP rfl q⟩
    | int i =>
      refine ⟨_, rfl, rfl, _, rfl, iteN (fun z => nomatch z) ?_⟩
      refine ⟨_, rfl, _, _, _, _, false, rfl, .ty _, .base (.int _), kit_ty (by decide +kernel), _, rfl, ?_⟩
      refine ⟨_, rfl, _, _, _, _, true, rfl, .ty _, .base (.int _), kit_ty (by decide +kernel), _, rfl, ?_⟩
      refine ⟨_, rfl, i, rfl, _, rfl, ?_⟩
      exact ⟨_, rfl, _, rfl, rfl, qP rfl q⟩
    | str z =>
      refine ⟨_, rfl, rfl, _, rfl, iteN (fun z => nomatch z) ?_⟩
      refine ⟨_, rfl, _, _, _, _, false, rfl, .ty _, .base (.str _), kit_ty (by decide +kernel), _, rfl, ?_⟩
      refine ⟨_, rfl, _, _, _, _, false, rfl, .ty _, .base (.str _), kit_ty (by decide +kernel), _, rfl, ?_⟩
      refine ⟨_, rfl, _, _, _, _, true, rfl, .ty _, .base (.str _), kit_ty (by decide +kernel), _, rfl, ?_⟩
      refine ⟨_, rfl, _, _, _, _, true, rfl, .ty _, .base (.str _), kit_ty (by decide +kernel), _, rfl, ?_⟩
      exact ⟨_, rfl, _, rfl, rfl, qP rfl q⟩
    | byt z => cases hx
    | flt z => cases hx
    | ref z => cases hx
    | ty z => cases hx
  · refine ⟨_, rfl, rfl, _, rfl, iteN (fun z => nomatch z) ?_⟩
    refine ⟨_, rfl, _, _, _, _, false, rfl, .ty _, .base (.tup hb), kit_ty (by decide +kernel), _, rfl, ?_⟩
    refine ⟨_, rfl, _, _, _, _, false, rfl, .ty _, .base (.tup hb), kit_ty (by decide +kernel), _, rfl, ?_⟩
    refine ⟨_, rfl, _, _, _, _, false, rfl, .ty _, .base (.tup hb), kit_ty (by decide +kernel), _, rfl, ?_⟩
    refine ⟨_, rfl, _, _, _, _, true, rfl, .ty _, .base (.tup hb), kit_ty (by decide +kernel), _, rfl, ?_⟩
    refine ⟨_, rfl, _, _, _, _, true, rfl, .ty _, .base (.tup ha), kit_ty (by decide +kernel), _, rfl, ?_⟩
    exact ⟨_, rfl, _, rfl, a, b, xs, ys, rfl, .inl ⟨ha, hb⟩, hl, hm, al, q⟩
  · refine ⟨_, rfl, rfl, _, rfl, iteN (fun z => nomatch z) ?_⟩
    refine ⟨_, rfl, _, _, _, _, false, rfl, .ty _, .base (.lst hb), kit_ty (by decide +kernel), _, rfl, ?_⟩
    refine ⟨_, rfl, _, _, _, _, false, rfl, .ty _, .base (.lst hb), kit_ty (by decide +kernel), _, rfl, ?_⟩
    refine ⟨_, rfl, _, _, _, _, false, rfl, .ty _, .base (.lst hb), kit_ty (by decide +kernel), _, rfl, ?_⟩
    refine ⟨_, rfl, _, _, _, _, false, rfl, .ty _, .base (.lst hb), kit_ty (by decide +kernel), _, rfl, ?_⟩
    refine ⟨_, rfl, _, _, _, _, true, rfl, .ty _, .base (.lst hb), kit_ty (by decide +kernel), _, rfl, ?_⟩
    refine ⟨_, rfl, _, _, _, _, true, rfl, .ty _, .base (.lst ha), kit_ty (by decide +kernel), _, rfl, ?_⟩
    exact ⟨_, rfl, _, rfl, a, b, xs, ys, rfl, .inr ⟨ha, hb⟩, hl, hm, al, q⟩
theorem no_same0 : ∀ vs H Q E, ¬ spSame 0 vs H Q E := fun vs H Q E h => by
  obtain ⟨x, y, _, al, _⟩ := h
  exact al
/-- both, as deep as one likes -/
theorem both {f g : Addr} {fd gd : FuncData} (FS : Fun K "_law_same" "_law_same" s_same f fd) (bS : Binds K fd ["actual", "expected"] []) (mS : mg "_law_same" = some (.ref f)) (FI : Fun K "_law_same_items" "_law_same_items" s_sameItems g gd) (bI : Binds K gd ["actual", "expected"] []) (mI : mg "_law_same_items" = some (.ref g))
    (T : Nm mg) (C_law_is_integer : Cal P w K mg base CX0 1 "_law_is_integer" spIsInt) : ∀ n, Cal P w K mg base CX0 (2 * n) "_law_same" (spSame n)
  | 0 => ⟨f, fd, _, none_left no_same0, mS, FS.kp, bS⟩
  | n + 1 => ⟨f, fd, _, ok_same FS T C_law_is_integer ⟨g, gd, _, ok_items FI T (both FS bS mS FI bI mI T C_law_is_integer n), mI, FI.kp, bI⟩, mS, FS.kp, bS⟩

abbrev s_snippet : Stmt := topS 118
abbrev N_snippet : List Str := ["tape", "pieces", "k"]
theorem sc_snippet : FnScope N_snippet ["tape"] (defScope s_snippet) := ⟨rfl, rfl, rfl, by decide +kernel, rfl, by decide +kernel, by decide +kernel⟩
def pcs_snippet_1 : List Str := ["def f9(", "data ", "f0", "x", "(", ")", ": Int", " = ", "1", " + ", "\n", "\n ", "# ", "(let x = ", " in ", ","]
def pcs_snippet_2 : List Str := ["\x69mport main: ", "a", "D0", "g0", "T0", "Bool", "if ", " then ", " else ", ".x", " == ", "f1(", "q", " "]
theorem pcs_ok : ((pcs_snippet_1 ++ pcs_snippet_2).all fun z => okT z && decide (z.length ≤ 13)) = true := by decide +kernel
theorem pcs_len : (pcs_snippet_1 ++ pcs_snippet_2).length = 30 := by decide +kernel
theorem ok_snippet (F : Fun K "_law_snippet" "_law_snippet" s_snippet f fd) (T : Nm mg) (C_law_take : Cal P w K mg base CX0 1 "_law_take" spTake) : FnOk P w K mg base CX0 2 f fd ["tape"] spSnippet := by
  refine F.ok sc_snippet (fun vs H Q E h => ?_) (fun cdv A outer s H vs Q E hr h => ?_)
  · obtain ⟨t, c, rfl, _⟩ := h
    rfl
  obtain ⟨t, c, rfl, z, q⟩ := h
  refine ⟨_, (pss_cons (ps_set (i := 1) sc_snippet.nd rfl (Or.inr rfl) (pe_lst (pa_strs pcs_snippet_1)))
    (pss_cons (ps_set (i := 1) sc_snippet.nd rfl (Or.inr rfl) (pe_op op_cat (pv 1) (pe_lst (pa_strs pcs_snippet_2))))
    (pss_one (ps_ret (pe_join pe_str (pe_lc (own := [(("k" : Str), 2)]) (g := (gName 2)) (tt := tYes) rfl sc_snippet.nd (pi_range1 (by rfl) T.range (pa_cons (pe_c C_law_take hr (by first | decide | omega) pass0 (pa_cons (pv 0) (pa_cons pe_int pa_nil))) pa_nil)) (blkOk_by (N := N_snippet) (sc := defScope s_snippet) (by decide +kernel)) (fun _ _ _ _ _ => (pg_name (i := 2) sc_snippet.nd rfl (Or.inl rfl))) (fun _ _ _ _ _ => pts_nil) (fun _ _ _ _ _ => (pe_ix (r := rIxL K) ix_list (pv 1) (pe_c C_law_take hr (by first | decide | omega) pass0 (pa_cons (pv 0) (pa_cons pe_int pa_nil))) (fun _ _ => rfl))))))))), ?_⟩
  refine ⟨(by show 16 ≤ sizeLine; decide), fun l1 n1 => ?_⟩
  refine ⟨_, rfl, (by show 14 ≤ sizeLine; decide), fun l2 n2 => ?_⟩
  have e1 : upd (upd H l1 (.lst (pcs_snippet_1.map V.str))) l2 (.lst (pcs_snippet_2.map V.str)) l1 = some (.lst (pcs_snippet_1.map V.str)) := by
    rw [upd_ne (ne_of_none upd_same n2), upd_same]
  refine ⟨l1, l2, _, _, rfl, rfl, e1, upd_same, (by show 30 ≤ sizeLine; decide), fun p np => ?_⟩
  have b1 : Same H (upd (upd (upd H l1 (.lst (pcs_snippet_1.map V.str))) l2 (.lst (pcs_snippet_2.map V.str))) p (.lst (pcs_snippet_1.map V.str ++ pcs_snippet_2.map V.str))) := ((same_new n1).trans (same_new n2)).trans (same_new np)
  have hp : upd (upd (upd H l1 (.lst (pcs_snippet_1.map V.str))) l2 (.lst (pcs_snippet_2.map V.str))) p (.lst (pcs_snippet_1.map V.str ++ pcs_snippet_2.map V.str)) p = some (.lst ((pcs_snippet_1 ++ pcs_snippet_2).map V.str)) := by
    rw [upd_same, List.map_append]
  generalize upd (upd (upd H l1 (.lst (pcs_snippet_1.map V.str))) l2 (.lst (pcs_snippet_2.map V.str))) p (.lst (pcs_snippet_1.map V.str ++ pcs_snippet_2.map V.str)) = H1 at b1 hp ⊢
  have z1 : Tp H1 t c := z.same b1
  refine ⟨⟨_, rfl⟩, _, rfl, t, c, 4, rfl, z1, by decide, by decide, fun r H2 h0 h6 b2 z2 => ⟨r, rfl, by omega, by omega, fun D hD => ?_⟩⟩
  have pt : p ≠ t := z1.ne hp (fun _ q => nomatch q)
  have hp2 := b2 _ _ pt hp
  refine lc_range (lo := 0) (n := r.toNat) (fun i H' => But t H H' ∧ Tp H' t c ∧ H' p = some (.lst ((pcs_snippet_1 ++ pcs_snippet_2).map V.str)) ∧ ∃ zs : List Str, H' D = some (.lst (zs.map V.str)) ∧ zs.length = i ∧ ∀ y ∈ zs, OkT y ∧ y.length ≤ 13)
    ⟨((But.of b1).trans b2).trans (.of (same_new hD)), z2.new hD, by rw [upd_ne (ne_of_none hp2 hD)]; exact hp2, [], upd_same, rfl, fun _ h => nomatch h⟩ ?_ ?_
  · rintro i H' hi ⟨b3, z3, hp3, zs, hd, hl, hz⟩
    refine ⟨rfl, ?_⟩
    refine ⟨_, rfl, _, rfl, t, c, 30, rfl, z3, by decide, by decide, fun r2 H4 g0 g1 b4 z4 => ?_⟩
    have hp4 := b4 _ _ pt hp3
    have hd4 := b4 _ _ (z3.ne hd (fun _ q => nomatch q)) hd
    have hj : r2.toNat < (pcs_snippet_1 ++ pcs_snippet_2).length := by rw [pcs_len]; omega
    have g : ((pcs_snippet_1 ++ pcs_snippet_2).map V.str)[r2.toNat]? = some (.str (pcs_snippet_1 ++ pcs_snippet_2)[r2.toNat]) := by
      rw [List.getElem?_map, List.getElem?_eq_getElem hj] <;> rfl
    have dt : D ≠ t := z4.ne hd4 (fun _ q => nomatch q)
    have dp : p ≠ D := ne_of_none hp2 hD
    have dc : c ≠ D := z2.nc hD
    refine ⟨p, _, r2, _, rfl, rfl, .inl (.inl hp4), at_of (by omega) g, zs.map V.str, hd4, ?_, ?_⟩
    · rw [List.length_map]; exact Nat.lt_of_lt_of_le (show zs.length < 1000 by omega) (by decide)
    · refine ⟨fun b o nb e => ?_, z4.upd dt.symm dc, by rw [upd_ne dp]; exact hp4, zs ++ [(pcs_snippet_1 ++ pcs_snippet_2)[r2.toNat]], ?_, by simp [hl], fun y hy => ?_⟩
      · have nD : b ≠ D := fun e2 => by
          rw [e2] at e
          have e3 := b2 _ _ dt (b1 _ _ e)
          rw [hD] at e3
          cases e3
        rw [upd_ne nD]
        exact b4 _ _ nb (b3 _ _ nb e)
      · rw [upd_same, List.map_append] <;> rfl
      · rcases List.mem_append.mp hy with hy | hy
        · exact hz y hy
        · rw [List.mem_singleton.mp hy]
          have k := List.all_eq_true.mp pcs_ok _ (List.getElem_mem hj)
          rw [Bool.and_eq_true, decide_eq_true_eq] at k
          exact ⟨OkT.of k.1, k.2⟩
  · rintro H' ⟨b3, z3, hp3, zs, hd, hl, hz⟩
    have sl := sum_len_le (n := 13) fun y hy => (hz y hy).2
    refine ⟨_, D, zs, rfl, rfl, .inl (.inl (.inl hd)), ?_, ?_⟩
    · show (zs.map (·.length)).sum + zs.length * 0 ≤ 16777216
      omega
    · exact q _ _ (OkT.join rfl fun y hy => (hz y hy).1) (by rw [join_len _ rfl]; omega) b3 z3

end

end Sn

namespace Sn
open PySem PySem.Spec PyProof.Rows L2 TL
/-! ### the program's functions of edits -/
structure NmJ (K : PySem.W.Frag) (mg : Str → Option Value) (C : Addr) (tL tP : PySem.Tok) : Prop extends Nm mg where
  ord : mg "ord" = none
  g_LONGEST : mg "LONGEST" = some (.int 4000 tL)
  g_PERCENT : mg "PERCENT" = some (.int 37 tP)
  c_InvalidEdit : mg "InvalidEdit" = some (.ref C)
  xI : PySem.W.excIn K C [.type "ValueError", .type "Exception", .type "BaseException", .type "object"] "ValueError.__new__" = true
  kI : PySem.W.keepIn K (.ref C) = true
  bI : PySem.W.subIn K (.ref C) (.type "BaseException") = some true
  tI : PySem.W.typeIn K (.ref C) = some (.type "type")
  te : PySem.W.exmOne K (.ref C) (.ref C) = some true
abbrev NL : Str := ("\n" : Str)
theorem nl_eq : NL = ⟨#[10]⟩ := by decide +kernel
theorem sp_eq : (" " : Str) = ⟨#[32]⟩ := by decide +kernel
theorem til_eq : ("~" : Str) = ⟨#[126]⟩ := by decide +kernel
theorem str_one {c : Nat} : (V.str ⟨#[c]⟩ = V.str NL) ↔ c = 10 := by
  rw [nl_eq]
  constructor
  · intro h
    injection h with h
    injection h with h
    simpa using h
  · intro h
    rw [h]
theorem le_sg (a c : Nat) : (!decide ((⟨#[c]⟩ : Str).cps.toList < (⟨#[a]⟩ : Str).cps.toList)) = decide (a ≤ c) := le_one a c
theorem okc_iff (c : Nat) : okc c = true ↔ c = 10 ∨ (32 ≤ c ∧ c ≤ 126 ∧ c ≠ 37) := by
  unfold okc
  simp [and_assoc]
theorem nat_of {o : Int} (h : 0 ≤ o) : ∃ n : Nat, o = (n : Int) := ⟨o.toNat, by omega⟩
section
variable {P : Program} {w : World} {K : PySem.W.Frag} {mg : Str → Option Value} {base : Heap} {f : Addr} {fd : FuncData} {C : Addr} {tL tP : PySem.Tok}
abbrev s_may_stand : Stmt := topS 13
abbrev N_may_stand : List Str := ["characters", "sign"]
theorem sc_may_stand : FnScope N_may_stand ["characters"] (defScope s_may_stand) := ⟨rfl, rfl, rfl, by decide +kernel, rfl, by decide +kernel, by decide +kernel⟩
theorem ok_may_stand (F : Fun K "may_stand" "may_stand" s_may_stand f fd) (T : NmJ K mg C tL tP) : FnOk P w K mg base CX0 1 f fd ["characters"] spMay := by
  refine F.ok sc_may_stand (fun vs H Q E h => ?_) (fun cdv A outer s H vs Q E hr h => ?_)
  · obtain ⟨z, rfl, _⟩ := h
    rfl
  obtain ⟨z, rfl, q⟩ := h
  refine ⟨_, (pss_cons (ps_for PassesOwn.never rfl (pi_str (pv 0)) (pg_name (i := 1) sc_may_stand.nd rfl (Or.inl rfl)) (pss_cons (ps_if (PW.pt (pw_and (pt_cmpR op_ne (pv 1) pe_str (nomark _)) (pw_and1 (pt_not (pt_chain op_le_str op_le_str pe_str (pv 1) pe_str))))) (pss_one (ps_ret pe_bl)) pss_nil)
    (pss_one (ps_if (pt_cmpR op_eq (pe_callB call_ord (by rfl) T.ord (by decide +kernel) (pa_cons (pv 1) pa_nil)) (pe_glob (v := .int 37) (by rfl) T.g_PERCENT ⟨_, rfl⟩) (nomark _)) (pss_one (ps_ret pe_bl)) pss_nil))))
    (pss_one (ps_ret pe_bl))), ?_⟩
  refine ⟨_, rfl, z, rfl, for_str (x := z) (fun i σ H' => H' = H ∧ ∃ v, σ = [some (.str z), v] ∧ ((tl z).take i).all okc = true) ⟨rfl, none, rfl, by rw [List.take_zero]; rfl⟩ ?_ ?_⟩
  · rintro i c σ H' hi ⟨rfl, v, rfl, hk⟩
    have bad : okc c = false → Q (.bl false) H' := fun hc => by
      have e : (tl z).all okc = false := by
        rw [List.all_eq_false]
        exact ⟨c, List.mem_of_getElem? hi, by rw [hc]; exact Bool.false_ne_true⟩
      rw [e] at q
      exact q
    have good : okc c = true → ((tl z).take (i + 1)).all okc = true := fun hc => by
      rw [List.take_add_one, show (tl z)[i]? = some c from hi, List.all_append, hk]
      simp [hc]
    refine ⟨_, rfl, rfl, _, rfl, ?_⟩
    have rest : ¬ (c = 37 ∧ False) → (c = 10 ∨ 32 ≤ c ∧ c ≤ 126) → (c ≠ 37 → okc c = true) := fun _ h h37 => (okc_iff c).mpr (by omega)
    by_cases h10 : c = 10
    · refine iteNS (str_one.mpr h10) ?_
      refine ⟨_, rfl, _, rfl, rfl, rfl, _, rfl, ite2 (fun e => ?_) (fun e => ⟨rfl, _, rfl, good ((okc_iff c).mpr (.inl h10))⟩)⟩
      exact absurd (of_decide_eq_true e) (by rw [h10]; decide)
    · refine iteNN (fun k => h10 (str_one.mp k)) ?_
      refine ⟨_, rfl, _, _, rfl, rfl, _, rfl, ?_⟩
      rw [sp_eq, le_sg]
      by_cases h1 : 32 ≤ c
      · refine iteP h1 ?_
        refine ⟨_, _, rfl, rfl, _, rfl, ?_⟩
        rw [til_eq, le_sg]
        by_cases h2 : c ≤ 126
        · refine iteNS h2 ?_
          refine ⟨_, rfl, _, rfl, rfl, rfl, _, rfl, ite2 (fun e => ?_) (fun e => ?_)⟩
          · have e : V.int (c : Int) = V.int 37 := of_decide_eq_true e
            injection e with e
            refine bad ?_
            have : c = 37 := by omega
            rw [this]
            rfl
          · refine ⟨rfl, _, rfl, good ((okc_iff c).mpr (.inr ⟨h1, h2, fun k => e (decide_eq_true ?_)⟩))⟩
            rw [k]
            rfl
        · refine iteNN h2 ?_
          exact bad (Bool.eq_false_iff.mpr fun k => by have := (okc_iff c).mp k; omega)
      · refine iteN h1 ?_
        refine ⟨_, rfl, ?_⟩
        exact bad (Bool.eq_false_iff.mpr fun k => by have := (okc_iff c).mp k; omega)
  · rintro σ H' ⟨rfl, v, rfl, hk⟩
    rw [show List.take z.cps.toList.length (tl z) = tl z from List.take_length] at hk
    rw [hk] at q
    exact q
end

end Sn

namespace Sn
open PySem PySem.Spec PyProof.Rows L2 TL
section
variable {P : Program} {w : World} {K : PySem.W.Frag} {mg : Str → Option Value} {base : Heap} {f : Addr} {fd : FuncData} {C : Addr} {tL tP : PySem.Tok}
theorem jgo_cons (z : List Nat) (d : Nat) (s e : Int) (n : List Nat) (r : List (Int × Int × List Nat)) (h : (d : Int) ≤ s ∧ s ≤ e ∧ e ≤ (z.length : Int) ∧ n.all okc = true) :
    jgo z d ((s, e, n) :: r) = (jgo z e.toNat r).map fun t => (z.drop d).take (s.toNat - d) ++ (n ++ t) := by
  show (if _ then _ else _) = _
  rw [if_pos h]
theorem jgo_bad (z : List Nat) (d : Nat) (s e : Int) (n : List Nat) (r : List (Int × Int × List Nat)) (h : ¬ ((d : Int) ≤ s ∧ s ≤ e ∧ e ≤ (z.length : Int) ∧ n.all okc = true)) :
    jgo z d ((s, e, n) :: r) = none := by
  show (if _ then _ else _) = _
  rw [if_neg h]
theorem joint_none {z : List Nat} {l : List (Int × Int × List Nat)} (h : jgo z 0 l = none) : joint z l = none := by
  unfold joint
  rw [h]
theorem joint_some {z r : List Nat} {l : List (Int × Int × List Nat)} (h : jgo z 0 l = some r) : joint z l = if r.length ≤ 4000 then some r else none := by
  unfold joint
  rw [h]
theorem news_take {eds : List (Int × Int × Str)} {i : Nat} {s e : Int} {n : Str} (h : eds[i]? = some (s, e, n)) : news (eds.take (i + 1)) = news (eds.take i) + n.length := by
  unfold news
  rw [List.take_add_one, h, List.map_append, List.sum_append]
  rfl
theorem news_le (eds : List (Int × Int × Str)) (i : Nat) : news (eds.take i) ≤ news eds := by
  conv => rhs; rw [← List.take_append_drop i eds]
  unfold news
  rw [List.map_append, List.sum_append]
  omega
theorem cutS_len (z : Str) (a b : Nat) (h : a ≤ (tl z).length) : (cutS z (some (a : Int)) (some (b : Int))).length ≤ b - a := by
  rw [len_tl, tl_cut_mid z a b h, List.length_take]
  omega
theorem cutS_len_from (z : Str) (a : Nat) : (cutS z (some (a : Int)) none).length = (tl z).length - a := by
  rw [len_tl, tl_cut_from, List.length_drop]
abbrev s_apply_joint : Stmt := topS 15
abbrev N_apply_joint : List Str := ["text", "edits", "parts", "done", "start", "end", "new", "result"]
theorem sc_apply_joint : FnScope N_apply_joint ["text", "edits"] (defScope s_apply_joint) := ⟨rfl, rfl, rfl, by decide +kernel, rfl, by decide +kernel, by decide +kernel⟩
theorem ok_apply_joint (F : Fun K "apply_joint" "apply_joint" s_apply_joint f fd) (T : NmJ K mg C tL tP) (C_may_stand : Cal P w K mg base CX0 1 "may_stand" spMay) : FnOk P w K mg base (L2.CX P w) 2 f fd ["text", "edits"] (spJoint C) := by
  refine F.okX sc_apply_joint (fun vs H Q E h => ?_) (fun cdv A outer s H vs Q E hr h => ?_)
  · obtain ⟨z, le, eds, rfl, _⟩ := h
    rfl
  obtain ⟨z, le, eds, rfl, ⟨rs, hle, hrl, hrs⟩, hz, hel, hnl, kQ, kE⟩ := h
  refine ⟨_, (pss_cons (ps_set (i := 2) sc_apply_joint.nd rfl (Or.inl rfl) (pe_lst pa_nil))
    (pss_cons (ps_set (i := 3) sc_apply_joint.nd rfl (Or.inl rfl) pe_int)
    (pss_cons (ps_for (passes_of rfl) rfl (pi_list (pv 1)) (pg_tup rfl (pgs_cons (pg_name (i := 4) sc_apply_joint.nd rfl (Or.inl rfl)) (pgs_cons (pg_name (i := 5) sc_apply_joint.nd rfl (Or.inl rfl)) (pgs_cons (pg_name (i := 6) sc_apply_joint.nd rfl (Or.inl rfl)) pgs_nil)))) (pss_cons (ps_if (pt_not (pt_chain3 op_le op_le op_le (pv 3) (pv 4) (pv 5) (pe_callB call_len_str (by rfl) T.len PySem.boot_len (pa_cons (pv 0) pa_nil)))) (pss_one (ps_raise rfl (takes_of rfl rfl rfl rfl) (pmk_own PySem.F.excBase_ValueError T.xI T.c_InvalidEdit T.kI (raises_own T.bI T.tI) rfl))) pss_nil)
    (pss_cons (ps_if (pt_not (pt_val (pe_c C_may_stand hr (by first | decide | omega) pass0 (pa_cons (pv 6) pa_nil)))) (pss_one (ps_raise rfl (takes_of rfl rfl rfl rfl) (pmk_own PySem.F.excBase_ValueError T.xI T.c_InvalidEdit T.kI (raises_own T.bI T.tI) rfl))) pss_nil)
    (pss_cons (ps_expr (pe_bm PySem.F.plainAttrs_list PySem.F.slot_list_append PySem.F.type_list_append mt_append (pv 2) (pa_cons (pe_slice sl_str (pv 0) (po_some (pv 3)) (po_some (pv 4))) pa_nil)))
    (pss_cons (ps_expr (pe_bm PySem.F.plainAttrs_list PySem.F.slot_list_append PySem.F.type_list_append mt_append (pv 2) (pa_cons (pv 6) pa_nil)))
    (pss_one (ps_set (i := 3) sc_apply_joint.nd rfl (Or.inl rfl) (pv 5))))))))
    (pss_cons (ps_expr (pe_bm PySem.F.plainAttrs_list PySem.F.slot_list_append PySem.F.type_list_append mt_append (pv 2) (pa_cons (pe_slice sl_str (pv 0) (po_some (pv 3)) po_none) pa_nil)))
    (pss_cons (ps_set (i := 7) sc_apply_joint.nd rfl (Or.inl rfl) (pe_join pe_str (pv 2)))
    (pss_cons (ps_if (pt_cmpR op_gt (pe_callB call_len_str (by rfl) T.len PySem.boot_len (pa_cons (pv 7) pa_nil)) (pe_glob (v := .int 4000) (by rfl) T.g_LONGEST ⟨_, rfl⟩) (nomark _)) (pss_one (ps_raise rfl (takes_of rfl rfl rfl rfl) (pmk_own PySem.F.excBase_ValueError T.xI T.c_InvalidEdit T.kI (raises_own T.bI T.tI) rfl))) pss_nil)
    (pss_one (ps_ret (pv 7))))))))), ?_⟩
  have hz' : (tl z).length ≤ 1000000 := by rw [← len_tl]; exact hz
  refine ⟨Nat.zero_le _, fun L nL => ?_⟩
  refine ⟨_, rfl, le, rfl, ⟨_, .inl (.inl (same_new nL _ _ hle))⟩, for_list (K := K) (a := le) (xs := rs.map V.ref) (fun i σ H' => ∃ (d : Nat) (ps : List Str) (v4 v5 v6 : Option V), σ = [some (.str z), some (.ref le), some (.ref L), some (.int (d : Int)), v4, v5, v6, none] ∧
      Same H H' ∧ H' L = some (.lst (ps.map V.str)) ∧ ps.length = 2 * i ∧ d ≤ (tl z).length ∧ (ps.map (·.length)).sum ≤ d + news (eds.take i) ∧ jgo (tl z) 0 (edl eds) = (jgo (tl z) d ((edl eds).drop i)).map fun t => (ps.map tl).flatten ++ t)
    ⟨0, [], none, none, none, rfl, same_new nL, upd_same, rfl, Nat.zero_le _, Nat.zero_le _, by rw [List.drop_zero]; simp⟩ (fun i σ H' _ ⟨_, _, _, _, _, _, sm, _⟩ => .inl (.inl (sm _ _ hle))) ?_ ?_⟩
  · rintro i x σ H' hi ⟨d, ps, v4, v5, v6, rfl, sm, hL, hpl, hd, hsum, hj⟩
    obtain ⟨r, hri, rfl⟩ : ∃ r, rs[i]? = some r ∧ x = V.ref r := by
      rw [List.getElem?_map] at hi
      cases e : rs[i]? with
      | none => rw [e] at hi; cases hi
      | some u => rw [e] at hi; exact ⟨u, rfl, (Option.some.inj hi).symm⟩
    have hi1 : i < eds.length := by
      rw [← hrl]
      exact (List.getElem?_eq_some_iff.mp hri).1
    obtain ⟨⟨st, en, nw⟩, hei⟩ : ∃ x, eds[i]? = some x := ⟨_, List.getElem?_eq_getElem hi1⟩
    have hr3 := sm _ _ (hrs i r st en nw hri hei)
    have hdrop : (edl eds).drop i = (st, en, tl nw) :: (edl eds).drop (i + 1) := by
      have h1 : i < (edl eds).length := by unfold edl; rw [List.length_map]; exact hi1
      have h2 : (edl eds)[i]? = some (st, en, tl nw) := by unfold edl; rw [List.getElem?_map, hei]; rfl
      rw [List.drop_eq_getElem_cons h1]
      congr 1
      exact Option.some.inj ((List.getElem?_eq_getElem h1).symm.trans h2)
    rw [hdrop] at hj
    have bad : ¬ ((d : Int) ≤ st ∧ st ≤ en ∧ en ≤ ((tl z).length : Int) ∧ (tl nw).all okc = true) → E (.ref C) none H' := fun hb => kE H' (joint_none (by rw [hj, jgo_bad _ _ _ _ _ _ hb]; rfl)) sm
    have hlen : z.length = (tl z).length := len_tl z
    refine ⟨r, _, rfl, .inl (.inl hr3), rfl, _, _, rfl, _, _, rfl, _, _, rfl, rfl, ?_⟩
    refine ⟨_, rfl, _, rfl, _, _, rfl, rfl, _, rfl, ?_⟩
    by_cases h1 : (d : Int) ≤ st
    rotate_left
    · exact iteN h1 ⟨_, rfl, bad fun k => h1 k.1⟩
    refine iteP h1 ⟨_, rfl, _, _, rfl, rfl, _, rfl, ?_⟩
    by_cases h2 : st ≤ en
    rotate_left
    · exact iteN h2 ⟨_, rfl, bad fun k => h2 k.2.1⟩
    refine iteP h2 ⟨_, rfl, z, rfl, small hz, _, _, rfl, rfl, _, rfl, ?_⟩
    by_cases h3 : en ≤ (z.length : Int)
    rotate_left
    · exact iteNN h3 (bad fun k => h3 (by omega))
    refine iteNS h3 ?_
    refine ⟨_, rfl, nw, rfl, _, rfl, ?_⟩
    by_cases h4 : (tl nw).all okc = true
    rotate_left
    · rw [Bool.eq_false_iff.mpr h4]
      exact bad fun k => h4 k.2.2.2
    rw [h4]
    obtain ⟨sn, rfl⟩ := nat_of (o := st) (by omega)
    obtain ⟨nn, rfl⟩ := nat_of (o := en) (by omega)
    have hn : nw.length ≤ news eds := by
      have k1 := news_take hei
      have k2 := news_le eds (i + 1)
      omega
    have c1 : (ps.map V.str).length < sizeLine := by
      rw [List.length_map]
      exact Nat.lt_of_le_of_lt (show ps.length ≤ 2000 by omega) (by decide)
    -- parts.append(text[done:start])
    refine ⟨_, rfl, .inl ⟨rfl, _, SqL.of hL⟩, _, rfl, _, rfl, _, rfl, _, rfl, _, rfl, z, rfl, small hz, L, _, _, rfl, rfl, hL, c1, ?_⟩
    -- parts.append(new)
    have e1 : upd H' L (.lst (ps.map V.str ++ [.str (cutS z (some (d : Int)) (some (sn : Int)))])) L = some (.lst ((ps ++ [cutS z (some (d : Int)) (some (sn : Int))]).map V.str)) := by
      rw [upd_same, List.map_append] <;> rfl
    have c2 : ((ps ++ [cutS z (some (d : Int)) (some (sn : Int))]).map V.str).length < sizeLine := by
      rw [List.length_map, List.length_append, List.length_singleton]
      exact Nat.lt_of_le_of_lt (show ps.length + 1 ≤ 2001 by omega) (by decide)
    refine ⟨_, rfl, .inl ⟨rfl, _, SqL.of e1⟩, _, rfl, L, _, _, rfl, rfl, e1, c2, ?_⟩
    -- done = end
    refine ⟨_, rfl, nn, ps ++ [cutS z (some (d : Int)) (some (sn : Int)), nw], _, _, _, rfl, fun b o eb => ?_, ?_, ?_, by omega, ?_, ?_⟩
    · have nb : b ≠ L := ne_of_none eb nL
      rw [upd_ne nb, upd_ne nb]
      exact sm _ _ eb
    · rw [upd_same, List.map_append, List.map_append, List.append_assoc] <;> rfl
    · rw [List.length_append]
      show ps.length + 2 = 2 * (i + 1)
      omega
    · rw [List.map_append, List.sum_append, news_take hei]
      have k := cutS_len z d sn hd
      show _ + ((cutS z (some (d : Int)) (some (sn : Int))).length + (nw.length + 0)) ≤ _
      omega
    · rw [hj, jgo_cons _ _ _ _ _ _ ⟨h1, h2, by omega, h4⟩, Option.map_map, Int.toNat_natCast, Int.toNat_natCast]
      refine congrArg (fun g => Option.map g _) (funext fun t => ?_)
      show (ps.map tl).flatten ++ (((tl z).drop d).take (sn - d) ++ (tl nw ++ t)) = ((ps ++ [cutS z (some (d : Int)) (some (sn : Int)), nw]).map tl).flatten ++ t
      rw [List.map_append, List.flatten_append]
      show _ = _ ++ (tl (cutS z (some (d : Int)) (some (sn : Int))) ++ (tl nw ++ [])) ++ t
      rw [tl_cut_mid z d sn hd, List.append_nil]
      simp only [List.append_assoc]
  · rintro σ H' ⟨d, ps, v4, v5, v6, rfl, sm, hL, hpl, hd, hsum, hj⟩
    rw [List.length_map, hrl] at hpl hj hsum
    have hdn : (edl eds).drop eds.length = [] := List.drop_eq_nil_of_le (by unfold edl; rw [List.length_map]; exact Nat.le_refl _)
    rw [List.take_length] at hsum
    have c1 : (ps.map V.str).length < sizeLine := by
      rw [List.length_map]
      exact Nat.lt_of_le_of_lt (show ps.length ≤ 2000 by omega) (by decide)
    -- parts.append(text[done:])
    refine ⟨_, rfl, .inl ⟨rfl, _, SqL.of hL⟩, _, rfl, _, rfl, _, rfl, z, rfl, small hz, L, _, _, rfl, rfl, hL, c1, ?_⟩
    have e1 : upd H' L (.lst (ps.map V.str ++ [.str (cutS z (some (d : Int)) none)])) L = some (.lst ((ps ++ [cutS z (some (d : Int)) none]).map V.str)) := by
      rw [upd_same, List.map_append] <;> rfl
    have s2 : Same H (upd H' L (.lst (ps.map V.str ++ [.str (cutS z (some (d : Int)) none)]))) := fun b o eb => by
      rw [upd_ne (ne_of_none eb nL)]
      exact sm _ _ eb
    have hlast := cutS_len_from z d
    have hsum2 : ((ps ++ [cutS z (some (d : Int)) none]).map (·.length)).sum ≤ 2000000 := by
      rw [List.map_append, List.sum_append]
      show _ + ((cutS z (some (d : Int)) none).length + 0) ≤ _
      omega
    have htl : tl (Txt.join ("" : Str) (ps ++ [cutS z (some (d : Int)) none])) = (ps.map tl).flatten ++ (tl z).drop d := by
      rw [tl_join0 _ rfl, List.map_append, List.flatten_append]
      show _ ++ (tl (cutS z (some (d : Int)) none) ++ []) = _
      rw [tl_cut_from, List.append_nil]
    have hj2 : jgo (tl z) 0 (edl eds) = some ((ps.map tl).flatten ++ (tl z).drop d) := by
      rw [hj, hdn]
      rfl
    have hjl := join_len ("" : Str) rfl (ps ++ [cutS z (some (d : Int)) none])
    -- result
    refine ⟨⟨_, rfl⟩, _, rfl, _, L, _, rfl, rfl, .inl (.inl (.inl e1)), ?_, ?_⟩
    · show ((ps ++ [cutS z (some (d : Int)) none]).map (·.length)).sum + (ps ++ [cutS z (some (d : Int)) none]).length * 0 ≤ 16777216
      omega
    generalize Txt.join ("" : Str) (ps ++ [cutS z (some (d : Int)) none]) = R at htl hjl ⊢
    have hRl : R.length = ((ps.map tl).flatten ++ (tl z).drop d).length := by rw [len_tl, htl]
    refine ⟨_, rfl, R, rfl, Nat.le_trans (show R.length ≤ 2000000 by omega) (by decide), _, _, rfl, rfl, _, rfl, ite2 (fun e => ?_) (fun e => ?_)⟩
    · have e : (4000 : Int) < (R.length : Int) := of_decide_eq_true e
      refine kE _ ?_ s2
      rw [joint_some hj2, if_neg (by omega)]
    · have e : ¬ (4000 : Int) < (R.length : Int) := fun k => e (decide_eq_true k)
      refine ⟨_, rfl, ?_⟩
      have er : R = strL ((ps.map tl).flatten ++ (tl z).drop d) := ext_tl htl
      rw [er]
      exact kQ _ _ (by rw [joint_some hj2, if_pos (by omega)]) s2
abbrev s_apply_edit : Stmt := topS 16
abbrev N_apply_edit : List Str := ["text", "edit"]
theorem sc_apply_edit : FnScope N_apply_edit ["text", "edit"] (defScope s_apply_edit) := ⟨rfl, rfl, rfl, by decide +kernel, rfl, by decide +kernel, by decide +kernel⟩
theorem ok_apply_edit (F : Fun K "apply_edit" "apply_edit" s_apply_edit f fd) (T : NmJ K mg C tL tP) (C_apply_joint : Cal P w K mg base (L2.CX P w) 2 "apply_joint" (spJoint C)) : FnOk P w K mg base (L2.CX P w) 3 f fd ["text", "edit"] (spEdit C) := by
  refine F.okX sc_apply_edit (fun vs H Q E h => ?_) (fun cdv A outer s H vs Q E hr h => ?_)
  · obtain ⟨z, ed, st, e, n, rfl, _⟩ := h
    rfl
  obtain ⟨z, ed, st, e, n, rfl, hed, hz, hn, kQ, kE⟩ := h
  refine ⟨_, (pss_one (ps_ret (pe_c C_apply_joint hr (by first | decide | omega) (passes_call (takes_of rfl rfl rfl rfl) (fun _ _ _ _ h => h)) (pa_cons (pv 0) (pa_cons (pe_lst (pa_cons (pv 1) pa_nil)) pa_nil))))), ?_⟩
  refine ⟨_, rfl, _, rfl, (by show 1 ≤ sizeLine; decide), fun L nL => ?_⟩
  have s1 : Same H (upd H L (.lst [.ref ed])) := same_new nL
  refine ⟨z, L, [(st, e, n)], rfl, ⟨[ed], upd_same, rfl, fun i r s' e' n' p q => ?_⟩, hz, (by show 1 ≤ 1000; decide), (by show n.length + 0 ≤ 1000000; omega), fun r H' hj sm => kQ r H' hj (s1.trans sm), fun H' hj sm => kE H' hj (s1.trans sm)⟩
  cases i with
  | zero =>
    cases p
    cases q
    exact s1 _ _ hed
  | succ i => cases p
end

end Sn

namespace Sn
open PySem PySem.Spec PyProof.Rows L2 TL
/-! ### one edit -/
/-- it fits -/
def Fits (z : List Nat) (s e : Int) (n : List Nat) : Prop := 0 ≤ s ∧ s ≤ e ∧ e ≤ (z.length : Int) ∧ n.all okc = true ∧ (z.length : Int) - (e - s) + n.length ≤ 4000
instance (z : List Nat) (s e : Int) (n : List Nat) : Decidable (Fits z s e n) := by unfold Fits; exact inferInstance
theorem joint_one (z : List Nat) (s e : Int) (n : List Nat) : joint z [(s, e, n)] = if Fits z s e n then some (z.take s.toNat ++ (n ++ z.drop e.toNat)) else none := by
  by_cases h : ((0 : Nat) : Int) ≤ s ∧ s ≤ e ∧ e ≤ (z.length : Int) ∧ n.all okc = true
  · have e1 : jgo z 0 [(s, e, n)] = some (z.take s.toNat ++ (n ++ z.drop e.toNat)) := by
      rw [jgo_cons _ _ _ _ _ _ h]
      rfl
    rw [joint_some e1]
    have hl : (z.take s.toNat ++ (n ++ z.drop e.toNat)).length = s.toNat + (n.length + (z.length - e.toNat)) := by
      rw [List.length_append, List.length_append, List.length_take, List.length_drop]
      omega
    by_cases h2 : Fits z s e n
    · rw [if_pos h2, if_pos (by have := h2.2.2.2.2; omega)]
    · rw [if_neg h2, if_neg fun k => h2 ⟨h.1, h.2.1, h.2.2.1, h.2.2.2, by omega⟩]
  · rw [joint_none (jgo_bad _ _ _ _ _ _ h), if_neg fun k => h ⟨k.1, k.2.1, k.2.2.1, k.2.2.2.1⟩]
theorem take_all {z : List Nat} {p : Nat → Bool} (h : z.all p = true) (k : Nat) : (z.take k).all p = true := List.all_eq_true.mpr fun x hx => List.all_eq_true.mp h x (List.mem_of_mem_take hx)
theorem drop_all {z : List Nat} {p : Nat → Bool} (h : z.all p = true) (k : Nat) : (z.drop k).all p = true := List.all_eq_true.mpr fun x hx => List.all_eq_true.mp h x (List.mem_of_mem_drop hx)
/-- the inverse of an edit gives the text back -/
theorem joint_back {z n : List Nat} {s e : Nat} (h : Fits z s e n) (hz : z.all okc = true) (hl : z.length ≤ 4000) :
    joint (z.take s ++ (n ++ z.drop e)) [((s : Int), (s : Int) + (n.length : Int), (z.drop s).take (e - s))] = some z := by
  obtain ⟨h1, h2, h3, h4, h5⟩ := h
  have l1 : (z.take s).length = s := by rw [List.length_take]; omega
  have l2 : (z.take s ++ (n ++ z.drop e)).length = s + (n.length + (z.length - e)) := by rw [List.length_append, List.length_append, l1, List.length_drop]
  have l3 : ((z.drop s).take (e - s)).length = e - s := by rw [List.length_take, List.length_drop]; omega
  have e1 : ((s : Int) + (n.length : Int)).toNat = s + n.length := by omega
  have d1 : (z.take s ++ (n ++ z.drop e)).drop (s + n.length) = z.drop e := by
    rw [← List.append_assoc]
    exact List.drop_left' (by rw [List.length_append, l1])
  have d2 : (z.take s ++ (n ++ z.drop e)).take s = z.take s := List.take_left' l1
  have d3 : z.take s ++ ((z.drop s).take (e - s) ++ z.drop e) = z := by
    have e3 : z.drop e = (z.drop s).drop (e - s) := by rw [List.drop_drop, show s + (e - s) = e by omega]
    rw [e3, List.take_append_drop, List.take_append_drop]
  rw [joint_one, if_pos ⟨h1, by omega, by omega, take_all (drop_all hz _) _, by omega⟩, e1, Int.toNat_natCast, d1, d2, d3]

end Sn

namespace Sn
open PySem PySem.Spec PyProof.Rows L2 TL
/-! ### the program's tokens -/
structure Nm5 (K : PySem.W.Frag) (mg : Str → Option Value) (aW : Addr) (tS : PySem.Tok) : Prop extends Nm mg where
  g_WORDS : mg "WORDS" = some (.ref aW)
  wt : ∃ (o : Obj) (its : Array Value) (n : Nat), K.lookup aW = some o ∧ o.cls = .type "tuple" ∧ o.data = .seq its n ∧ its.size ≤ sizeLine ∧ Vals (wds.map V.str) its.toList
  g_SIGNS : mg "SIGNS" = some (.str "()[],:.=<+-*/" tS)
def spLet (p : Nat → Bool) : Sp := fun vs H Q _ => ∃ c : Nat, vs = [.str ⟨#[c]⟩] ∧ Q (.bl (p c)) H
def spRun (p : Nat → Bool) : Sp := fun vs H Q _ => ∃ (z : Str) (i : Nat), vs = [.str z, .int (i : Int)] ∧ i ≤ (tl z).length ∧ z.length ≤ 1000000 ∧ Q (.int ((run p (tl z) i : Nat) : Int)) H
def spTokAt : Sp := fun vs H Q _ => ∃ (z : Str) (i c : Nat), vs = [.str z, .int (i : Int)] ∧ (tl z)[i]? = some c ∧ z.length ≤ 1000000 ∧ ∀ p H', Same H H' → H p = none → H' p = some (.tup (tkV (tokC (tl z) i c))) → Q (.ref p) H'
def spBetween : Sp := fun vs H Q _ => ∃ (z : Str) (s e : Nat), vs = [.str z, .int (s : Int), .int (e : Int)] ∧ e ≤ (tl z).length ∧ z.length ≤ 1000000 ∧ ∀ p H', Same H H' → H p = none → LT H' p ((toks (tl z) s e).map tkV) → Q (.ref p) H'
def spTokens : Sp := fun vs H Q _ => ∃ z : Str, vs = [.str z] ∧ z.length ≤ 1000000 ∧ ∀ p H', Same H H' → H p = none → LT H' p ((toks (tl z) 0 (tl z).length).map tkV) → Q (.ref p) H'
theorem le_sg5 (a c : Nat) : (!decide ((⟨#[c]⟩ : Str).cps.toList < (⟨#[a]⟩ : Str).cps.toList)) = decide (a ≤ c) := by
  have : (!decide ([c] < [a])) = decide (a ≤ c) := by
    have k : ([c] < [a]) ↔ c < a := by
      constructor
      · intro h
        cases h with
        | rel h => exact h
        | cons h => cases h
      · exact fun h => .rel h
    by_cases h : c < a
    · rw [decide_eq_true (k.mpr h), decide_eq_false (by omega)]
      rfl
    · rw [decide_eq_false (fun z => h (k.mp z)), decide_eq_true (by omega)]
      rfl
  exact this
theorem ge_sg5 (a c : Nat) : (!decide ((⟨#[a]⟩ : Str).cps.toList < (⟨#[c]⟩ : Str).cps.toList)) = decide (c ≤ a) := le_sg5 c a
theorem one5 {c d : Nat} : (V.str ⟨#[c]⟩ = V.str ⟨#[d]⟩) ↔ c = d := by
  constructor
  · intro h
    injection h with h
    injection h with h
    simpa using h
  · intro h
    rw [h]
theorem s_a : ("a" : Str) = ⟨#[97]⟩ := by decide +kernel
theorem s_z : ("z" : Str) = ⟨#[122]⟩ := by decide +kernel
theorem s_A : ("A" : Str) = ⟨#[65]⟩ := by decide +kernel
theorem s_Z : ("Z" : Str) = ⟨#[90]⟩ := by decide +kernel
theorem s_0 : ("0" : Str) = ⟨#[48]⟩ := by decide +kernel
theorem s_9 : ("9" : Str) = ⟨#[57]⟩ := by decide +kernel
theorem s_us : ("_" : Str) = ⟨#[95]⟩ := by decide +kernel
theorem s_sp : (" " : Str) = ⟨#[32]⟩ := by decide +kernel
theorem s_nl : ("\n" : Str) = ⟨#[10]⟩ := by decide +kernel
theorem s_ha : ("#" : Str) = ⟨#[35]⟩ := by decide +kernel
theorem s_eq2 : ("==" : Str) = ⟨#[61, 61]⟩ := by decide +kernel
theorem str_L {z : Str} {l : List Nat} : (V.str z = V.str ⟨l.toArray⟩) ↔ tl z = l := by
  constructor
  · intro h
    injection h with h
    rw [h]
  · intro h
    rw [← h]
theorem toNat_lt {l : List Nat} {i c : Nat} (h : l[i]? = some c) : i < l.length := (List.getElem?_eq_some_iff.mp h).1
/-- the sign at a place of a text, as the rules ask for it -/
theorem item_of {z : Str} {i c : Nat} (h : (tl z)[i]? = some c) (hz : z.length ≤ 1000000) : (0 : Int) ≤ (i : Int) ∧ (i : Int) < 2 ^ 63 ∧ (i : Int) < (z.length : Int) ∧ z.cps[((i : Int)).toNat]? = some c := by
  have := toNat_lt h
  have e := len_tl z
  refine ⟨by omega, by omega, by omega, ?_⟩
  rw [Int.toNat_natCast, ← Array.getElem?_toList]
  exact h
section
variable {P : Program} {w : World} {K : PySem.W.Frag} {mg : Str → Option Value} {base : Heap} {f : Addr} {fd : FuncData} {aW : Addr} {tS : PySem.Tok}
abbrev s_is_letter : Stmt := topS 22
abbrev N_is_letter : List Str := ["sign"]
theorem sc_is_letter : FnScope N_is_letter ["sign"] (defScope s_is_letter) := ⟨rfl, rfl, rfl, by decide +kernel, rfl, by decide +kernel, by decide +kernel⟩
theorem letter_read {c : Nat} {H : Hp} {Q : VK} {σ : L2.St} (hs : σ[0]? = some (some (.str ⟨#[c]⟩))) (q : Q (.bl (isL c)) H) :
    (tOrV (tChain (fun x y H Q => ∃ i j, x = .str i ∧ y = .str j ∧ Q (.bl (!decide (j.cps.toList < i.cps.toList))) H) (fun x y H Q => ∃ i j, x = .str i ∧ y = .str j ∧ Q (.bl (!decide (j.cps.toList < i.cps.toList))) H) (tC (.str "a")) (tVar 0) (tC (.str "z")))
      (tChain (fun x y H Q => ∃ i j, x = .str i ∧ y = .str j ∧ Q (.bl (!decide (j.cps.toList < i.cps.toList))) H) (fun x y H Q => ∃ i j, x = .str i ∧ y = .str j ∧ Q (.bl (!decide (j.cps.toList < i.cps.toList))) H) (tC (.str "A")) (tVar 0) (tC (.str "Z")))) σ H Q := by
  rw [s_a, s_z, s_A, s_Z]
  unfold isL at q
  have second : Q (.bl (decide (65 ≤ c) && decide (c ≤ 90))) H → (tChain (fun x y H Q => ∃ i j, x = .str i ∧ y = .str j ∧ Q (.bl (!decide (j.cps.toList < i.cps.toList))) H) (fun x y H Q => ∃ i j, x = .str i ∧ y = .str j ∧ Q (.bl (!decide (j.cps.toList < i.cps.toList))) H) (tC (.str ⟨#[65]⟩)) (tVar 0) (tC (.str ⟨#[90]⟩))) σ H Q := fun q => by
    refine ⟨_, hs, _, _, rfl, rfl, _, rfl, ?_⟩
    rw [le_sg5]
    by_cases h : 65 ≤ c
    · refine iteP h ⟨_, _, rfl, rfl, ?_⟩
      rw [ge_sg5]
      rw [decide_eq_true h, Bool.true_and] at q
      exact q
    · rw [decide_eq_false h, Bool.false_and] at q
      exact iteN h q
  refine ⟨_, hs, _, _, rfl, rfl, _, rfl, ?_⟩
  rw [le_sg5]
  by_cases h : 97 ≤ c
  · refine iteP h ⟨_, _, rfl, rfl, _, rfl, ?_⟩
    rw [ge_sg5]
    rw [decide_eq_true h, Bool.true_and] at q
    by_cases h2 : c ≤ 122
    · rw [decide_eq_true h2, Bool.true_or] at q
      exact iteP h2 q
    · rw [decide_eq_false h2, Bool.false_or] at q
      exact iteN h2 (second q)
  · rw [decide_eq_false h, Bool.false_and, Bool.false_or] at q
    exact iteN h ⟨_, rfl, second q⟩
theorem digit_read {c : Nat} {H : Hp} {Q : VK} {σ : L2.St} (hs : σ[0]? = some (some (.str ⟨#[c]⟩))) (q : Q (.bl (isD c)) H) :
    (tChain (fun x y H Q => ∃ i j, x = .str i ∧ y = .str j ∧ Q (.bl (!decide (j.cps.toList < i.cps.toList))) H) (fun x y H Q => ∃ i j, x = .str i ∧ y = .str j ∧ Q (.bl (!decide (j.cps.toList < i.cps.toList))) H) (tC (.str "0")) (tVar 0) (tC (.str "9"))) σ H Q := by
  rw [s_0, s_9]
  unfold isD at q
  refine ⟨_, hs, _, _, rfl, rfl, _, rfl, ?_⟩
  rw [le_sg5]
  by_cases h : 48 ≤ c
  · refine iteP h ⟨_, _, rfl, rfl, ?_⟩
    rw [ge_sg5]
    rw [decide_eq_true h, Bool.true_and] at q
    exact q
  · rw [decide_eq_false h, Bool.false_and] at q
    exact iteN h q
theorem ok_is_letter (F : Fun K "is_letter" "is_letter" s_is_letter f fd) : FnOk P w K mg base CX0 1 f fd ["sign"] (spLet isL) := by
  refine F.ok sc_is_letter (fun vs H Q E h => ?_) (fun cdv A outer s H vs Q E hr h => ?_)
  · obtain ⟨c, rfl, _⟩ := h
    rfl
  obtain ⟨c, rfl, q⟩ := h
  refine ⟨_, (pss_one (ps_ret (pe_or (pe_chain op_le_str op_le_str pe_str (pv 0) pe_str) (pe_one (pe_chain op_le_str op_le_str pe_str (pv 0) pe_str))))), ?_⟩
  exact letter_read rfl q
abbrev s_is_digit : Stmt := topS 23
abbrev N_is_digit : List Str := ["sign"]
theorem sc_is_digit : FnScope N_is_digit ["sign"] (defScope s_is_digit) := ⟨rfl, rfl, rfl, by decide +kernel, rfl, by decide +kernel, by decide +kernel⟩
theorem ok_is_digit (F : Fun K "is_digit" "is_digit" s_is_digit f fd) : FnOk P w K mg base CX0 1 f fd ["sign"] (spLet isD) := by
  refine F.ok sc_is_digit (fun vs H Q E h => ?_) (fun cdv A outer s H vs Q E hr h => ?_)
  · obtain ⟨c, rfl, _⟩ := h
    rfl
  obtain ⟨c, rfl, q⟩ := h
  refine ⟨_, (pss_one (ps_ret (pe_chain op_le_str op_le_str pe_str (pv 0) pe_str))), ?_⟩
  exact digit_read rfl q
abbrev s_line_end : Stmt := topS 17
abbrev N_line_end : List Str := ["text", "offset", "found"]
theorem sc_line_end : FnScope N_line_end ["text", "offset"] (defScope s_line_end) := ⟨rfl, rfl, rfl, by decide +kernel, rfl, by decide +kernel, by decide +kernel⟩
theorem ok_line_end (F : Fun K "line_end" "line_end" s_line_end f fd) (T : Nm5 K mg aW tS) : FnOk P w K mg base CX0 1 f fd ["text", "offset"] (spRun fun d => d != 10) := by
  refine F.ok sc_line_end (fun vs H Q E h => ?_) (fun cdv A outer s H vs Q E hr h => ?_)
  · obtain ⟨z, i, rfl, _⟩ := h
    rfl
  obtain ⟨z, i, rfl, hi, hz, q⟩ := h
  refine ⟨_, (pss_cons (ps_set (i := 2) sc_line_end.nd rfl (Or.inl rfl) (pe_bm PySem.F.plainAttrs_str PySem.F.slot_str_find PySem.F.type_str_find mt_find3 (pv 0) (pa_cons pe_str (pa_cons (pv 1) pa_nil))))
    (pss_one (ps_ret (pe_ifExp (pt_cmpR op_lt (pv 2) pe_int (nomark _)) (pe_callB call_len_str (by rfl) T.len PySem.boot_len (pa_cons (pv 0) pa_nil)) (pv 2))))), ?_⟩
  have e := len_tl z
  have k := run_le (p := fun d => d != 10) (l := tl z) hi
  refine ⟨_, rfl, rfl, _, rfl, z, ("\n" : Str), (i : Int), rfl, rfl, ?_⟩
  dsimp only
  rw [s_nl, find_run z 10 i hi]
  by_cases h : run (fun d => d != 10) (tl z) i < (tl z).length
  · rw [if_pos h]
    refine ⟨_, rfl, _, _, rfl, rfl, _, rfl, iteN (by omega) ⟨_, rfl, q⟩⟩
  · rw [if_neg h]
    refine ⟨_, rfl, _, _, rfl, rfl, _, rfl, iteP (by decide) ⟨_, rfl, z, rfl, small hz, ?_⟩⟩
    rw [e, show (tl z).length = run (fun d => d != 10) (tl z) i by omega]
    exact q
abbrev s_word_end : Stmt := topS 24
abbrev N_word_end : List Str := ["text", "start", "end"]
theorem sc_word_end : FnScope N_word_end ["text", "start"] (defScope s_word_end) := ⟨rfl, rfl, rfl, by decide +kernel, rfl, by decide +kernel, by decide +kernel⟩
theorem ok_word_end (F : Fun K "word_end" "word_end" s_word_end f fd) (T : Nm5 K mg aW tS) (C_is_letter : Cal P w K mg base CX0 1 "is_letter" (spLet isL)) (C_is_digit : Cal P w K mg base CX0 1 "is_digit" (spLet isD)) : FnOk P w K mg base CX0 2 f fd ["text", "start"] (spRun isW) := by
  refine F.ok sc_word_end (fun vs H Q E h => ?_) (fun cdv A outer s H vs Q E hr h => ?_)
  · obtain ⟨z, i, rfl, _⟩ := h
    rfl
  obtain ⟨z, i, rfl, hi, hz, q⟩ := h
  refine ⟨_, (pss_cons (ps_set (i := 2) sc_word_end.nd rfl (Or.inl rfl) (pv 1))
    (pss_cons (ps_while PassesOwn.never (PW.pt (pw_and (pt_cmpR op_lt (pv 2) (pe_callB call_len_str (by rfl) T.len PySem.boot_len (pa_cons (pv 0) pa_nil)) (nomark _)) (pw_and1 (PW.pt (pw_or (pt_val (pe_c C_is_letter hr (by first | decide | omega) pass0 (pa_cons (pe_item_str (pv 0) (pv 2) (fun _ _ => rfl)) pa_nil))) (pw_or (pt_val (pe_c C_is_digit hr (by first | decide | omega) pass0 (pa_cons (pe_item_str (pv 0) (pv 2) (fun _ _ => rfl)) pa_nil))) (pw_or1 (pt_cmpR op_eq (pe_item_str (pv 0) (pv 2) (fun _ _ => rfl)) pe_str (nomark _))))))))) (pss_one (ps_aug (i := 2) sc_word_end.nd rfl (Or.inl rfl) pe_int ip_add)))
    (pss_one (ps_ret (pv 2))))), ?_⟩
  have e := len_tl z
  refine ⟨_, rfl, while_m (fun σ H' => H' = H ∧ ∃ j : Nat, σ = [some (.str z), some (.int (i : Int)), some (.int (j : Int))] ∧ j ≤ (tl z).length ∧ run isW (tl z) i = run isW (tl z) j)
    (fun σ _ => match σ with | [_, _, some (.int j)] => (tl z).length - j.toNat | _ => 0) ⟨rfl, i, rfl, hi, rfl⟩ ?_⟩
  rintro σ H' ⟨rfl, j, rfl, hj, hr⟩
  have stop : run isW (tl z) j = j → Q (.int (j : Int)) H' := fun k => by
    rw [hr, k] at q
    exact q
  refine ⟨_, rfl, _, rfl, z, rfl, small hz, _, _, rfl, rfl, _, rfl, ?_⟩
  by_cases h : j < (tl z).length
  · refine iteP (show (j : Int) < (z.length : Int) by omega) ?_
    have hg := List.getElem?_eq_getElem h
    generalize (tl z)[j] = c at hg
    obtain ⟨i1, i2, i3, i4⟩ := item_of hg hz
    have again : isW c = true → H' = H' ∧ (∃ j' : Nat, [some (V.str z), some (.int (i : Int)), some (.int ((j : Int) + 1))] = [some (V.str z), some (.int (i : Int)), some (.int (j' : Int))] ∧ j' ≤ (tl z).length ∧ run isW (tl z) i = run isW (tl z) j') := fun hw =>
      ⟨rfl, j + 1, rfl, h, by rw [hr, run_step hg hw]⟩
    have less : (tl z).length - ((j : Int) + 1).toNat < (tl z).length - ((j : Int)).toNat := by omega
    refine ⟨_, rfl, _, rfl, z, (j : Int), c, rfl, rfl, i1, i2, i3, i4, c, rfl, _, rfl, ?_⟩
    by_cases w1 : isL c = true
    · rw [w1]
      refine wN ⟨_, rfl, _, _, rfl, rfl, ?_⟩
      exact ⟨again (by unfold isW; rw [w1]; rfl), less⟩
    rw [Bool.eq_false_iff.mpr w1]
    refine ⟨_, rfl, _, rfl, z, (j : Int), c, rfl, rfl, i1, i2, i3, i4, c, rfl, _, rfl, ?_⟩
    by_cases w2 : isD c = true
    · rw [w2]
      refine wN ⟨_, rfl, _, _, rfl, rfl, ?_⟩
      exact ⟨again (by unfold isW; rw [w2, Bool.true_or, Bool.or_true]), less⟩
    rw [Bool.eq_false_iff.mpr w2]
    refine ⟨_, rfl, _, rfl, z, (j : Int), c, rfl, rfl, i1, i2, i3, i4, rfl, _, rfl, ?_⟩
    rw [s_us]
    by_cases w3 : c = 95
    · refine iteP (one5.mpr w3) ?_
      refine wN ⟨_, rfl, _, _, rfl, rfl, ?_⟩
      exact ⟨again (by rw [w3]; rfl), less⟩
    · refine iteN (fun k => w3 (one5.mp k)) ?_
      refine ⟨_, rfl, stop (run_stop hg ?_)⟩
      unfold isW
      rw [Bool.eq_false_iff.mpr w1, Bool.eq_false_iff.mpr w2]
      simpa using w3
  · refine iteN (show ¬ (j : Int) < (z.length : Int) by omega) ?_
    exact ⟨_, rfl, stop (run_end (by omega))⟩
abbrev s_digits_end : Stmt := topS 25
abbrev N_digits_end : List Str := ["text", "start", "end"]
theorem sc_digits_end : FnScope N_digits_end ["text", "start"] (defScope s_digits_end) := ⟨rfl, rfl, rfl, by decide +kernel, rfl, by decide +kernel, by decide +kernel⟩
theorem ok_digits_end (F : Fun K "digits_end" "digits_end" s_digits_end f fd) (T : Nm5 K mg aW tS) (C_is_digit : Cal P w K mg base CX0 1 "is_digit" (spLet isD)) : FnOk P w K mg base CX0 2 f fd ["text", "start"] (spRun isD) := by
  refine F.ok sc_digits_end (fun vs H Q E h => ?_) (fun cdv A outer s H vs Q E hr h => ?_)
  · obtain ⟨z, i, rfl, _⟩ := h
    rfl
  obtain ⟨z, i, rfl, hi, hz, q⟩ := h
  refine ⟨_, (pss_cons (ps_set (i := 2) sc_digits_end.nd rfl (Or.inl rfl) (pv 1))
    (pss_cons (ps_while PassesOwn.never (PW.pt (pw_and (pt_cmpR op_lt (pv 2) (pe_callB call_len_str (by rfl) T.len PySem.boot_len (pa_cons (pv 0) pa_nil)) (nomark _)) (pw_and1 (pt_val (pe_c C_is_digit hr (by first | decide | omega) pass0 (pa_cons (pe_item_str (pv 0) (pv 2) (fun _ _ => rfl)) pa_nil)))))) (pss_one (ps_aug (i := 2) sc_digits_end.nd rfl (Or.inl rfl) pe_int ip_add)))
    (pss_one (ps_ret (pv 2))))), ?_⟩
  have e := len_tl z
  refine ⟨_, rfl, while_m (fun σ H' => H' = H ∧ ∃ j : Nat, σ = [some (.str z), some (.int (i : Int)), some (.int (j : Int))] ∧ j ≤ (tl z).length ∧ run isD (tl z) i = run isD (tl z) j)
    (fun σ _ => match σ with | [_, _, some (.int j)] => (tl z).length - j.toNat | _ => 0) ⟨rfl, i, rfl, hi, rfl⟩ ?_⟩
  rintro σ H' ⟨rfl, j, rfl, hj, hr⟩
  have stop : run isD (tl z) j = j → Q (.int (j : Int)) H' := fun k => by
    rw [hr, k] at q
    exact q
  refine ⟨_, rfl, _, rfl, z, rfl, small hz, _, _, rfl, rfl, _, rfl, ?_⟩
  by_cases h : j < (tl z).length
  · refine iteP (show (j : Int) < (z.length : Int) by omega) ?_
    have hg := List.getElem?_eq_getElem h
    generalize (tl z)[j] = c at hg
    obtain ⟨i1, i2, i3, i4⟩ := item_of hg hz
    refine ⟨_, rfl, _, rfl, z, (j : Int), c, rfl, rfl, i1, i2, i3, i4, c, rfl, _, rfl, ?_⟩
    by_cases w1 : isD c = true
    · rw [w1]
      refine wN ⟨_, rfl, _, _, rfl, rfl, ?_⟩
      exact ⟨⟨rfl, j + 1, rfl, h, by rw [hr, run_step hg w1]⟩, (by show (tl z).length - ((j : Int) + 1).toNat < (tl z).length - ((j : Int)).toNat; omega)⟩
    rw [Bool.eq_false_iff.mpr w1]
    exact ⟨_, rfl, stop (run_stop hg (Bool.eq_false_iff.mpr w1))⟩
  · refine iteN (show ¬ (j : Int) < (z.length : Int) by omega) ?_
    exact ⟨_, rfl, stop (run_end (by omega))⟩
end

end Sn

namespace Sn
open PySem PySem.Spec PyProof.Rows L2 TL
section
variable {P : Program} {w : World} {K : PySem.W.Frag} {mg : Str → Option Value} {base : Heap} {f : Addr} {fd : FuncData} {aW : Addr} {tS : PySem.Tok}
theorem tok_L {l : List Nat} {i c : Nat} (h : isL c = true) : tokC l i c = (if inV (.str (strL ((l.drop i).take (run isW l i - i)))) (wds.map V.str) = true then ("word" : Str) else ("name" : Str), i, run isW l i) := by
  unfold tokC
  rw [if_pos h]
theorem tok_D {l : List Nat} {i c : Nat} (h : isL c = false) (h2 : isD c = true) : tokC l i c = (("number" : Str), i, run isD l i) := by
  unfold tokC
  rw [h, if_neg Bool.false_ne_true, if_pos h2]
theorem tok_E {l : List Nat} {i c : Nat} (h : isL c = false) (h2 : isD c = false) (h3 : (l.drop i).take 2 = [61, 61]) : tokC l i c = (("sign" : Str), i, i + 2) := by
  unfold tokC
  rw [h, if_neg Bool.false_ne_true, h2, if_neg Bool.false_ne_true, if_pos h3]
theorem tok_S {l : List Nat} {i c : Nat} (h : isL c = false) (h2 : isD c = false) (h3 : ¬ (l.drop i).take 2 = [61, 61]) : tokC l i c = (if c ∈ tl sgs then ("sign" : Str) else ("wrong" : Str), i, i + 1) := by
  unfold tokC
  rw [h, if_neg Bool.false_ne_true, h2, if_neg Bool.false_ne_true, if_neg h3]
theorem cut_eq (z : Str) (i e : Nat) (h : i ≤ (tl z).length) : cutS z (some (i : Int)) (some (e : Int)) = strL (((tl z).drop i).take (e - i)) := ext_tl (tl_cut_mid z i e h)
theorem wds_flat : (wds.map V.str).all flatV = true := by decide +kernel
abbrev s_token_at : Stmt := topS 26
abbrev N_token_at : List Str := ["text", "start", "sign", "end"]
theorem sc_token_at : FnScope N_token_at ["text", "start"] (defScope s_token_at) := ⟨rfl, rfl, rfl, by decide +kernel, rfl, by decide +kernel, by decide +kernel⟩
theorem ok_token_at (F : Fun K "token_at" "token_at" s_token_at f fd) (T : Nm5 K mg aW tS) (C_is_letter : Cal P w K mg base CX0 1 "is_letter" (spLet isL)) (C_is_digit : Cal P w K mg base CX0 1 "is_digit" (spLet isD))
    (C_word_end : Cal P w K mg base CX0 2 "word_end" (spRun isW)) (C_digits_end : Cal P w K mg base CX0 2 "digits_end" (spRun isD)) : FnOk P w K mg base CX0 3 f fd ["text", "start"] spTokAt := by
  refine F.ok sc_token_at (fun vs H Q E h => ?_) (fun cdv A outer s H vs Q E hr h => ?_)
  · obtain ⟨z, i, c, rfl, _⟩ := h
    rfl
  obtain ⟨z, i, c, rfl, hc, hz, q⟩ := h
  refine ⟨_, (pss_cons (ps_set (i := 2) sc_token_at.nd rfl (Or.inl rfl) (pe_item_str (pv 0) (pv 1) (fun _ _ => rfl)))
    (pss_cons (ps_if (pt_val (pe_c C_is_letter hr (by first | decide | omega) pass0 (pa_cons (pv 2) pa_nil))) (pss_cons (ps_set (i := 3) sc_token_at.nd rfl (Or.inl rfl) (pe_c C_word_end hr (by first | decide | omega) pass0 (pa_cons (pv 0) (pa_cons (pv 1) pa_nil))))
    (pss_one (ps_ret (pe_tup (pa_cons (pe_ifExp (pt_cmpR op_in_seq (pe_slice sl_str (pv 0) (po_some (pv 1)) (po_some (pv 3))) (pe_glob (v := .ref aW) (by rfl) T.g_WORDS rfl) (by rfl)) pe_str pe_str) (pa_cons (pv 1) (pa_cons (pv 3) pa_nil))))))) pss_nil)
    (pss_cons (ps_if (pt_val (pe_c C_is_digit hr (by first | decide | omega) pass0 (pa_cons (pv 2) pa_nil))) (pss_one (ps_ret (pe_tup (pa_cons pe_str (pa_cons (pv 1) (pa_cons (pe_c C_digits_end hr (by first | decide | omega) pass0 (pa_cons (pv 0) (pa_cons (pv 1) pa_nil))) pa_nil)))))) pss_nil)
    (pss_cons (ps_if (pt_cmpR op_eq (pe_slice sl_str (pv 0) (po_some (pv 1)) (po_some (pe_op op_add (pv 1) pe_int))) pe_str (nomark _)) (pss_one (ps_ret (pe_tup (pa_cons pe_str (pa_cons (pv 1) (pa_cons (pe_op op_add (pv 1) pe_int) pa_nil)))))) pss_nil)
    (pss_one (ps_ret (pe_tup (pa_cons (pe_ifExp (pt_cmpR op_in_sign (pv 2) (pe_glob (v := .str "()[],:.=<+-*/") (by rfl) T.g_SIGNS ⟨_, rfl⟩) (by rfl)) pe_str pe_str) (pa_cons (pv 1) (pa_cons (pe_op op_add (pv 1) pe_int) pa_nil)))))))))), ?_⟩
  have e := len_tl z
  have hi := toNat_lt hc
  obtain ⟨i1, i2, i3, i4⟩ := item_of hc hz
  have fin : ∀ (x : Tok) (p : Addr), tokC (tl z) i c = x → H p = none → Q (.ref p) (upd H p (.tup (tkV x))) := fun x p ex np => q p _ (same_new np) np (by rw [upd_same, ex])
  refine ⟨_, rfl, _, rfl, z, (i : Int), c, rfl, rfl, i1, i2, i3, i4, ?_⟩
  refine ⟨_, rfl, c, rfl, _, rfl, ?_⟩
  by_cases w1 : isL c = true
  · rw [w1]
    refine ⟨_, rfl, _, rfl, z, i, rfl, by omega, hz, ?_⟩
    have r1 := run_ge isW (tl z) i
    refine ⟨_, rfl, _, rfl, _, rfl, _, rfl, _, rfl, z, rfl, small hz, aW, _, rfl, .inr (.inr T.wt), rfl, wds_flat, _, rfl, ?_⟩
    rw [cut_eq z i _ (by omega)]
    have ex := tok_L (l := tl z) (i := i) w1
    refine ite2 (fun k => ?_) (fun k => ?_)
    · have k : inV (.str (strL (((tl z).drop i).take (run isW (tl z) i - i)))) (wds.map V.str) = true := k
      rw [if_pos k] at ex
      exact ⟨_, rfl, _, rfl, (by show 3 ≤ sizeLine; decide), fun p np => fin _ p ex np⟩
    · have k : ¬ inV (.str (strL (((tl z).drop i).take (run isW (tl z) i - i)))) (wds.map V.str) = true := k
      rw [if_neg k] at ex
      exact ⟨_, rfl, _, rfl, (by show 3 ≤ sizeLine; decide), fun p np => fin _ p ex np⟩
  have w1 := Bool.eq_false_iff.mpr w1
  rw [w1]
  refine ⟨_, rfl, c, rfl, _, rfl, ?_⟩
  by_cases w2 : isD c = true
  · rw [w2]
    refine ⟨_, rfl, _, rfl, _, rfl, z, i, rfl, by omega, hz, (by show 3 ≤ sizeLine; decide), fun p np => fin _ p (tok_D w1 w2) np⟩
  have w2 := Bool.eq_false_iff.mpr w2
  rw [w2]
  refine ⟨_, rfl, _, rfl, _, rfl, _, rfl, _, _, rfl, rfl, _, rfl, z, rfl, small hz, rfl, _, rfl, ?_⟩
  dsimp only
  rw [show (i : Int) + 2 = ((i + 2 : Nat) : Int) by omega, cut_eq z i _ (by omega), show i + 2 - i = 2 by omega, s_eq2]
  by_cases w3 : ((tl z).drop i).take 2 = [61, 61]
  · refine iteP (str_L.mpr w3) ?_
    exact ⟨_, rfl, _, rfl, _, _, rfl, rfl, (by show 3 ≤ sizeLine; decide), fun p np => fin _ p (tok_E w1 w2 w3) np⟩
  · refine iteN (fun k => w3 (str_L.mp k)) ?_
    refine ⟨_, rfl, c, sgs, rfl, rfl, _, rfl, ?_⟩
    have ex := tok_S w1 w2 w3
    by_cases w4 : c ∈ tl sgs
    · rw [if_pos w4] at ex
      refine iteP w4 ?_
      exact ⟨_, rfl, _, rfl, _, _, rfl, rfl, (by show 3 ≤ sizeLine; decide), fun p np => fin _ p ex np⟩
    · rw [if_neg w4] at ex
      refine iteN w4 ?_
      exact ⟨_, rfl, _, rfl, _, _, rfl, rfl, (by show 3 ≤ sizeLine; decide), fun p np => fin _ p ex np⟩
theorem toks_len {l : List Nat} {a e : Nat} : (toks l a e).length ≤ e := by
  have k : ∀ (s : List Nat) (a b : Nat) (cm : Bool), (scan l s a b cm).length ≤ s.length := by
    intro s
    induction s with
    | nil => exact fun _ _ _ => Nat.le_refl _
    | cons c r ih =>
      intro a b cm
      show (if _ then _ else _ : List Tok).length ≤ r.length + 1
      split
      · exact Nat.le_succ_of_le (ih _ _ _)
      · split
        · exact Nat.le_succ_of_le (ih _ _ _)
        · exact Nat.succ_le_succ (ih _ _ _)
  have := k ((l.take e).drop a) a 0 false
  rw [List.length_drop, List.length_take] at this
  unfold toks
  omega
abbrev s_tokens_between : Stmt := topS 27
abbrev N_tokens_between : List Str := ["text", "start", "end", "found", "at", "token"]
theorem sc_tokens_between : FnScope N_tokens_between ["text", "start", "end"] (defScope s_tokens_between) := ⟨rfl, rfl, rfl, by decide +kernel, rfl, by decide +kernel, by decide +kernel⟩
theorem ok_tokens_between (F : Fun K "tokens_between" "tokens_between" s_tokens_between f fd) (T : Nm5 K mg aW tS) (C_line_end : Cal P w K mg base CX0 1 "line_end" (spRun fun d => d != 10)) (C_token_at : Cal P w K mg base CX0 3 "token_at" spTokAt) :
    FnOk P w K mg base CX0 4 f fd ["text", "start", "end"] spBetween := by
  refine F.ok sc_tokens_between (fun vs H Q E h => ?_) (fun cdv A outer s H vs Q E hr h => ?_)
  · obtain ⟨z, a0, e, rfl, _⟩ := h
    rfl
  obtain ⟨z, a0, e, rfl, he, hz, q⟩ := h
  refine ⟨_, (pss_cons (ps_set (i := 3) sc_tokens_between.nd rfl (Or.inl rfl) (pe_lst pa_nil))
    (pss_cons (ps_set (i := 4) sc_tokens_between.nd rfl (Or.inl rfl) (pv 1))
    (pss_cons (ps_while PassesOwn.never (pt_cmpR op_lt (pv 4) (pv 2) (nomark _)) (pss_one (ps_if (PW.pt (pw_or (pt_cmpR op_eq (pe_item_str (pv 0) (pv 4) (fun _ _ => rfl)) pe_str (nomark _)) (pw_or1 (pt_cmpR op_eq (pe_item_str (pv 0) (pv 4) (fun _ _ => rfl)) pe_str (nomark _))))) (pss_one (ps_aug (i := 4) sc_tokens_between.nd rfl (Or.inl rfl) pe_int ip_add)) (pss_one (ps_if (pt_cmpR op_eq (pe_item_str (pv 0) (pv 4) (fun _ _ => rfl)) pe_str (nomark _)) (pss_one (ps_set (i := 4) sc_tokens_between.nd rfl (Or.inl rfl) (pe_c C_line_end hr (by first | decide | omega) pass0 (pa_cons (pv 0) (pa_cons (pv 4) pa_nil))))) (pss_cons (ps_set (i := 5) sc_tokens_between.nd rfl (Or.inl rfl) (pe_c C_token_at hr (by first | decide | omega) pass0 (pa_cons (pv 0) (pa_cons (pv 4) pa_nil))))
    (pss_cons (ps_expr (pe_bm PySem.F.plainAttrs_list PySem.F.slot_list_append PySem.F.type_list_append mt_append (pv 3) (pa_cons (pv 5) pa_nil)))
    (pss_one (ps_set (i := 4) sc_tokens_between.nd rfl (Or.inl rfl) (pe_ix (r := rIxT K) ix_tup (pv 5) pe_int (fun _ _ => rfl)))))))))))
    (pss_one (ps_ret (pv 3)))))), ?_⟩
  have el := len_tl z
  refine ⟨Nat.zero_le _, fun L nL => ?_⟩
  refine ⟨_, rfl, while_m (fun σ H' => ∃ (a : Nat) (v5 : Option V) (pre : List Tok), σ = [some (.str z), some (.int (a0 : Int)), some (.int (e : Int)), some (.ref L), some (.int (a : Int)), v5] ∧ Same H H' ∧ LT H' L (pre.map tkV) ∧ toks (tl z) a0 e = pre ++ toks (tl z) a e)
    (fun σ _ => match σ with | [_, _, _, _, some (.int j), _] => e - j.toNat | _ => 0) ⟨a0, none, [], rfl, same_new nL, ⟨[], upd_same, rfl, fun _ _ _ h _ => by simp at h⟩, rfl⟩ ?_⟩
  rintro σ H1 ⟨a, v5, pre, rfl, sm, lt, ht⟩
  refine ⟨_, rfl, _, rfl, _, _, rfl, rfl, _, rfl, ?_⟩
  by_cases h : a < e
  rotate_left
  · refine iteN (by omega) ⟨_, rfl, ?_⟩
    rw [toks_end (l := tl z) (a := a) (e := e) (by omega), List.append_nil] at ht
    rw [← ht] at lt
    exact q L H1 sm nL lt
  refine iteP (by omega) ?_
  have hal : a < (tl z).length := by omega
  have hg := List.getElem?_eq_getElem hal
  generalize (tl z)[a] = c at hg
  obtain ⟨i1, i2, i3, i4⟩ := item_of hg hz
  refine wN ?_
  -- a blank
  have blank : (c = 32 ∨ c = 10) → (∃ (a' : Nat) (v5' : Option V) (pre' : List Tok), [some (V.str z), some (.int (a0 : Int)), some (.int (e : Int)), some (.ref L), some (.int ((a : Int) + 1)), v5] = [some (V.str z), some (.int (a0 : Int)), some (.int (e : Int)), some (.ref L), some (.int (a' : Int)), v5'] ∧
      Same H H1 ∧ LT H1 L (pre'.map tkV) ∧ toks (tl z) a0 e = pre' ++ toks (tl z) a' e) ∧ e - ((a : Int) + 1).toNat < e - ((a : Int)).toNat := fun hb =>
    ⟨⟨a + 1, v5, pre, rfl, sm, lt, by rw [ht, toks_blank he h hg hb]⟩, by omega⟩
  refine ⟨_, rfl, _, rfl, z, (a : Int), c, rfl, rfl, i1, i2, i3, i4, rfl, _, rfl, ?_⟩
  rw [s_sp, s_nl, s_ha]
  by_cases b1 : c = 32
  · refine iteP (one5.mpr b1) ?_
    exact ⟨_, rfl, _, _, rfl, rfl, blank (.inl b1)⟩
  refine iteN (fun k => b1 (one5.mp k)) ?_
  refine ⟨_, rfl, _, rfl, z, (a : Int), c, rfl, rfl, i1, i2, i3, i4, rfl, _, rfl, ?_⟩
  by_cases b2 : c = 10
  · refine iteP (one5.mpr b2) ?_
    exact ⟨_, rfl, _, _, rfl, rfl, blank (.inr b2)⟩
  refine iteN (fun k => b2 (one5.mp k)) ?_
  refine ⟨_, rfl, _, rfl, z, (a : Int), c, rfl, rfl, i1, i2, i3, i4, rfl, _, rfl, ?_⟩
  by_cases b3 : c = 35
  · refine iteP (one5.mpr b3) ?_
    subst b3
    refine ⟨_, rfl, _, rfl, z, a, rfl, by omega, hz, ?_⟩
    have r1 : run (fun d => d != 10) (tl z) a = run (fun d => d != 10) (tl z) (a + 1) := run_step hg rfl
    have r2 := run_ge (fun d => d != 10) (tl z) (a + 1)
    refine ⟨⟨run (fun d => d != 10) (tl z) a, v5, pre, rfl, sm, lt, by rw [ht, toks_note he h hg]⟩, ?_⟩
    show e - ((run (fun d => d != 10) (tl z) a : Nat) : Int).toNat < e - ((a : Int)).toNat
    omega
  refine iteN (fun k => b3 (one5.mp k)) ?_
  refine ⟨_, rfl, _, rfl, z, a, c, rfl, hg, hz, fun p H2 s2 np hp => ?_⟩
  obtain ⟨t1, t2⟩ := tok_end hg
  obtain ⟨ys, h1, h2, h3⟩ := (lt.same s2).push hp
  have plen : pre.length ≤ (toks (tl z) a0 e).length := by
    rw [ht, List.length_append]
    omega
  have tlen := toks_len (l := tl z) (a := a0) (e := e)
  have Lp : p ≠ L := ne_of hp h1 (by intro z; cases z)
  refine ⟨_, rfl, .inl ⟨rfl, _, SqL.of h1⟩, _, rfl, L, ys, _, rfl, rfl, h1, Nat.lt_of_le_of_lt (show ys.length ≤ 1000000 by rw [h2, List.length_map]; omega) (by decide), ?_⟩
  refine ⟨_, rfl, p, _, 2, _, rfl, rfl, .inl (.inl (by rw [upd_ne Lp]; exact hp)), rfl, ?_⟩
  refine ⟨⟨(tokC (tl z) a c).2.2, _, pre ++ [tokC (tl z) a c], rfl, fun b o eb => ?_, ?_, ?_⟩, ?_⟩
  · rw [upd_ne (ne_of_none eb nL)]
    exact s2 _ _ (sm _ _ eb)
  · rw [List.map_append]
    exact h3
  · rw [ht, toks_tok he h hg (fun k => k.elim b1 b2) b3, List.append_assoc]
    rfl
  · show e - ((((tokC (tl z) a c).2.2 : Nat) : Int)).toNat < e - ((a : Int)).toNat
    omega
/-- tokens, as data -/
def tokD (x : Tok) : PyData := .tuple [.str x.1, .int (x.2.1 : Int), .int (x.2.2 : Int)]
theorem lt_dpAll {H : Hp} : ∀ {rs : List Addr} {ts : List Tok}, rs.length = ts.length → (∀ (i : Nat) (r : Addr) (xs : List V), rs[i]? = some r → (ts.map tkV)[i]? = some xs → H r = some (.tup xs)) → DpAll K H (rs.map V.ref) (ts.map tokD)
  | [], [], _, _ => .nil
  | r :: rs, t :: ts, h, k => .cons (.tup (.inl (.inl (k 0 r (tkV t) rfl rfl))) (.cons (.str _) (.cons (.int _) (.cons (.int _) .nil)))) (lt_dpAll (by simpa using h) fun i => k (i + 1))
theorem lt_dp {H : Hp} {p : Addr} {ts : List Tok} (h : LT H p (ts.map tkV)) : Dp K H (.ref p) (.list (ts.map tokD)) := by
  obtain ⟨rs, h1, h2, h3⟩ := h
  exact .lst (.inl (.inl h1)) (lt_dpAll (by rw [h2, List.length_map]) h3)
theorem sort_ok (l : List Nat) (i c : Nat) : PyData.strOk (tokC l i c).1 = true := by
  have k1 : PyData.strOk ("word" : Str) = true := by decide +kernel
  have k2 : PyData.strOk ("name" : Str) = true := by decide +kernel
  have k3 : PyData.strOk ("number" : Str) = true := by decide +kernel
  have k4 : PyData.strOk ("sign" : Str) = true := by decide +kernel
  have k5 : PyData.strOk ("wrong" : Str) = true := by decide +kernel
  unfold tokC
  split
  · show PyData.strOk (if _ then _ else _) = true
    split <;> assumption
  · split
    · exact k3
    · split
      · exact k4
      · show PyData.strOk (if _ then _ else _) = true
        split <;> assumption
theorem toks_ok {l : List Nat} {a e : Nat} : ∀ x ∈ toks l a e, PyData.strOk x.1 = true := by
  have k : ∀ (s : List Nat) (a b : Nat) (cm : Bool), ∀ x ∈ scan l s a b cm, PyData.strOk x.1 = true := by
    intro s
    induction s with
    | nil => exact fun _ _ _ x h => nomatch h
    | cons c r ih =>
      intro a b cm x hx
      have hx : x ∈ (if a < b ∨ (cm = true ∧ c ≠ 10) ∨ c = 32 ∨ c = 10 then scan l r (a + 1) b (cm && c != 10) else if c = 35 then scan l r (a + 1) b true else tokC l a c :: scan l r (a + 1) (tokC l a c).2.2 false) := hx
      split at hx
      · exact ih _ _ _ x hx
      · split at hx
        · exact ih _ _ _ x hx
        · rcases List.mem_cons.mp hx with hx | hx
          · rw [hx]
            exact sort_ok l a c
          · exact ih _ _ _ x hx
  exact fun x hx => k _ _ _ _ x hx
theorem toks_shaped {ts : List Tok} (h : ∀ x ∈ ts, PyData.strOk x.1 = true) : SeqAt.shaped (.list (ts.map tokD)) = true := by
  have c : ∀ {l : List Tok}, (∀ x ∈ l, PyData.strOk x.1 = true) → PyData.canLayAll0 (l.map tokD) = true := by
    intro l
    induction l with
    | nil => exact fun _ => rfl
    | cons x r ih =>
      intro h
      have h1 := h x List.mem_cons_self
      have h2 := ih fun y hy => h y (List.mem_cons_of_mem _ hy)
      show (PyData.canLay0 (tokD x) && PyData.canLayAll0 (r.map tokD)) = true
      rw [h2, Bool.and_true]
      show (PyData.strOk x.1 && (true && (true && true))) = true
      rw [h1]
      rfl
  have d : ∀ {l : List Tok}, PyData.depthAll (l.map tokD) ≤ 1 := by
    intro l
    induction l with
    | nil => exact Nat.zero_le _
    | cons x r ih =>
      show max (PyData.depth (tokD x)) (PyData.depthAll (r.map tokD)) ≤ 1
      have : PyData.depth (tokD x) = 1 := rfl
      omega
  show (PyData.canLay0 (.list (ts.map tokD)) && decide (PyData.depth (.list (ts.map tokD)) ≤ 64)) = true
  have h1 : PyData.canLay0 (.list (ts.map tokD)) = true := c h
  have h2 : PyData.depth (.list (ts.map tokD)) ≤ 64 := by
    show PyData.depthAll (ts.map tokD) + 1 ≤ 64
    have := d (l := ts)
    omega
  rw [h1, decide_eq_true h2]
  rfl
/-- is it one name, and nothing else -/
def nameB (z : Str) : Bool := PyData.eqv (.list ((toks (tl z) 0 (tl z).length).map tokD)) (.list [.tuple [.str "name", .int 0, .int (z.length : Int)]])
def spIsName : Sp := fun vs H Q _ => ∃ z : Str, vs = [.str z] ∧ z.length ≤ 1000000 ∧ ∀ H', Same H H' → Q (.bl (nameB z)) H'
theorem name_shaped (n : Int) : SeqAt.shaped (.list [.tuple [.str "name", .int 0, .int n]]) = true := by
  have k2 : PyData.strOk ("name" : Str) = true := by decide +kernel
  show (((PyData.strOk ("name" : Str) && (true && (true && true))) && true) && decide (PyData.depth (.list [.tuple [.str "name", .int 0, .int n]]) ≤ 64)) = true
  rw [k2]
  rfl
end

end Sn

namespace Sn
open PySem PySem.Spec PyProof.Rows L2 TL
section
variable {P : Program} {w : World} {K : PySem.W.Frag} {mg : Str → Option Value} {base : Heap} {f : Addr} {fd : FuncData} {aW : Addr} {tS : PySem.Tok}
abbrev s_tokens : Stmt := topS 28
abbrev N_tokens : List Str := ["text"]
theorem sc_tokens : FnScope N_tokens ["text"] (defScope s_tokens) := ⟨rfl, rfl, rfl, by decide +kernel, rfl, by decide +kernel, by decide +kernel⟩
theorem ok_tokens (F : Fun K "tokens" "tokens" s_tokens f fd) (T : Nm5 K mg aW tS) (C_tokens_between : Cal P w K mg base CX0 4 "tokens_between" spBetween) : FnOk P w K mg base CX0 5 f fd ["text"] spTokens := by
  refine F.ok sc_tokens (fun vs H Q E h => ?_) (fun cdv A outer s H vs Q E hr h => ?_)
  · obtain ⟨z, rfl, _⟩ := h
    rfl
  obtain ⟨z, rfl, hz, q⟩ := h
  refine ⟨_, (pss_one (ps_ret (pe_c C_tokens_between hr (by first | decide | omega) pass0 (pa_cons (pv 0) (pa_cons pe_int (pa_cons (pe_callB call_len_str (by rfl) T.len PySem.boot_len (pa_cons (pv 0) pa_nil)) pa_nil)))))), ?_⟩
  have el := len_tl z
  refine ⟨_, rfl, _, rfl, z, rfl, small hz, z, 0, (tl z).length, by rw [el]; rfl, Nat.le_refl _, hz, q⟩
abbrev s_is_name : Stmt := topS 29
abbrev N_is_name : List Str := ["value"]
theorem sc_is_name : FnScope N_is_name ["value"] (defScope s_is_name) := ⟨rfl, rfl, rfl, by decide +kernel, rfl, by decide +kernel, by decide +kernel⟩
theorem ok_is_name (F : Fun K "is_name" "is_name" s_is_name f fd) (T : Nm mg) (C_tokens : Cal P w K mg base CX0 5 "tokens" spTokens) : FnOk P w K mg base CX0 6 f fd ["value"] spIsName := by
  refine F.ok sc_is_name (fun vs H Q E h => ?_) (fun cdv A outer s H vs Q E hr h => ?_)
  · obtain ⟨z, rfl, _⟩ := h
    rfl
  obtain ⟨z, rfl, hz, q⟩ := h
  refine ⟨_, (pss_one (ps_ret (pe_cmpR (op_eqD hr.units) (pe_c C_tokens hr (by first | decide | omega) pass0 (pa_cons (pv 0) pa_nil)) (pe_lst (pa_cons (pe_tup (pa_cons pe_str (pa_cons pe_int (pa_cons (pe_callB call_len_str (by rfl) T.len PySem.boot_len (pa_cons (pv 0) pa_nil)) pa_nil)))) pa_nil)) (nomark _)))), ?_⟩
  refine ⟨_, rfl, z, rfl, hz, fun p H1 s1 np lt => ?_⟩
  refine ⟨_, rfl, z, rfl, small hz, (by show 3 ≤ sizeLine; decide), fun r nr => ⟨(by show 1 ≤ sizeLine; decide), fun l nl => ?_⟩⟩
  have s2 := same_new (o := .tup [.str "name", .int 0, .int (z.length : Int)]) nr
  have s3 := same_new (o := .lst [.ref r]) nl
  refine ⟨_, .list [.tuple [.str "name", .int 0, .int (z.length : Int)]], lt_dp ((lt.same s2).same s3), .lst (.inl (.inl upd_same)) (.cons (.tup (.inl (.inl (s3 _ _ upd_same))) (.cons (.str _) (.cons (.int _) (.cons (.int _) .nil)))) .nil), toks_shaped toks_ok, name_shaped _, ?_⟩
  exact q _ ((s1.trans s2).trans s3)
end

end Sn

namespace Sn
open PySem PySem.Spec PyProof.Rows L2 TL
section
variable {P : Program} {w : World} {K : PySem.W.Frag} {mg : Str → Option Value} {base : Heap} {f : Addr} {fd : FuncData} {C : Addr} {tL tP : PySem.Tok}
abbrev s_is_text : Stmt := topS 14
abbrev N_is_text : List Str := ["value"]
theorem sc_is_text : FnScope N_is_text ["value"] (defScope s_is_text) := ⟨rfl, rfl, rfl, by decide +kernel, rfl, by decide +kernel, by decide +kernel⟩
theorem ok_is_text (F : Fun K "is_text" "is_text" s_is_text f fd) (T : NmJ K mg C tL tP) (C_may_stand : Cal P w K mg base CX0 1 "may_stand" spMay) : FnOk P w K mg base CX0 2 f fd ["value"] spIsText := by
  refine F.ok sc_is_text (fun vs H Q E h => ?_) (fun cdv A outer s H vs Q E hr h => ?_)
  · obtain ⟨z, rfl, _⟩ := h
    rfl
  obtain ⟨z, rfl, hz, q⟩ := h
  refine ⟨_, (pss_one (ps_ret (pe_and (pe_cmpR op_le (pe_callB call_len_str (by rfl) T.len PySem.boot_len (pa_cons (pv 0) pa_nil)) (pe_glob (v := .int 4000) (by rfl) T.g_LONGEST ⟨_, rfl⟩) (nomark _)) (pe_one (pe_c C_may_stand hr (by first | decide | omega) pass0 (pa_cons (pv 0) pa_nil)))))), ?_⟩
  refine ⟨_, rfl, z, rfl, small hz, _, _, rfl, rfl, _, rfl, ?_⟩
  by_cases h : z.length ≤ 4000
  · rw [decide_eq_true h, Bool.true_and] at q
    refine iteP (show (z.length : Int) ≤ 4000 by omega) ?_
    exact ⟨_, rfl, z, rfl, q⟩
  · rw [decide_eq_false h, Bool.false_and] at q
    refine iteN (show ¬ (z.length : Int) ≤ 4000 by omega) q
end

end Sn

namespace Sn
open PySem PySem.Spec PyProof.Rows L2 TL
/-! ### the keeper's attributes -/
abbrev ns_Keeper : List Str := ["_function", "_now", "_left", "_inputs", "_entries", "_runs", "_asked", "_ended"]
structure NmK (K : PySem.W.Frag) (mg : Str → Option Value) (aF CK CR CC : Addr) : Prop extends Nm mg where
  cl_Keeper : Cls K CK
  cl_Run : Cls K CR
  n_function : NoAttr K CK "_function"
  n_now : NoAttr K CK "_now"
  n_left : NoAttr K CK "_left"
  n_inputs : NoAttr K CK "_inputs"
  n_entries : NoAttr K CK "_entries"
  n_runs : NoAttr K CK "_runs"
  n_asked : NoAttr K CK "_asked"
  n_ended : NoAttr K CK "_ended"
  n_live : NoAttr K CR "live"
  mk_Keeper : mg "Keeper" = some (.ref CK)
  mk_Run : mg "Run" = some (.ref CR)
  c__law_compute : mg "compute" = some (.ref aF)
  c_Cancelled : mg "Cancelled" = some (.ref CC)
  bI : PySem.W.subIn K (.ref CC) (.type "BaseException") = some true
  tI : PySem.W.typeIn K (.ref CC) = some (.type "type")
  kI : PySem.W.keepIn K (.ref CC) = true
  xI : PySem.W.excIn K CC [.type "ValueError", .type "Exception", .type "BaseException", .type "object"] "ValueError.__new__" = true
  te : PySem.W.exmOne K (.ref CC) (.ref CC) = some true
structure KF where
  fn : V
  now : V
  left : V
  inp : V
  ent : V
  run : V
  asked : V
  ended : V
def kf (S : KF) : List (Str × V) := [("_function", S.fn), ("_now", S.now), ("_left", S.left), ("_inputs", S.inp), ("_entries", S.ent), ("_runs", S.run), ("_asked", S.asked), ("_ended", S.ended)]
theorem kf_function {S} : (kf S).lookup ("_function" : Str) = some S.fn := by kernel_rfl
theorem kf_now {S} : (kf S).lookup ("_now" : Str) = some S.now := by kernel_rfl
theorem kf_left {S} : (kf S).lookup ("_left" : Str) = some S.left := by kernel_rfl
theorem kf_inputs {S} : (kf S).lookup ("_inputs" : Str) = some S.inp := by kernel_rfl
theorem kf_entries {S} : (kf S).lookup ("_entries" : Str) = some S.ent := by kernel_rfl
theorem kf_runs {S} : (kf S).lookup ("_runs" : Str) = some S.run := by kernel_rfl
theorem kf_asked {S} : (kf S).lookup ("_asked" : Str) = some S.asked := by kernel_rfl
theorem kf_ended {S} : (kf S).lookup ("_ended" : Str) = some S.ended := by kernel_rfl
theorem kf_now' {S x} : putF "_now" x (kf S) = kf { S with now := x } := by kernel_rfl
theorem kf_asked' {S x} : putF "_asked" x (kf S) = kf { S with asked := x } := by kernel_rfl
theorem kf_left' {S x} : putF "_left" x (kf S) = kf { S with left := x } := by kernel_rfl
theorem kf_entries' {S x} : putF "_entries" x (kf S) = kf { S with ent := x } := by kernel_rfl
theorem kf_ended' {S x} : putF "_ended" x (kf S) = kf { S with ended := x } := by kernel_rfl
def KRaw (C : Addr) (H : Hp) (p : Addr) (S : KF) : Prop := ∃ dx, H p = some (.ins C dx (kf S))
theorem KRaw.isI {C : Addr} {H : Hp} {p : Addr} {S : KF} (h : KRaw C H p S) : IsI H C p ns_Keeper := let ⟨dx, e⟩ := h; ⟨dx, _, e, rfl⟩
section
variable {X : Cx} {C CR CE aF : Addr} {o v : Expr} {pos pos' : Pos} {ta tv : TE} {mg : Str → Option Value}
def tKf (C : Addr) (sel : KF → V) (ta : TE) : TE := fun σ H Q => ta σ H fun x H1 => ∃ p S, x = .ref p ∧ KRaw C H1 p S ∧ Q (sel S) H1
theorem pe_kf {f : Str} {sel : KF → V} (cl : Cls X.K C) (na : NoAttr X.K C f) (hl : ∀ S, (kf S).lookup f = some (sel S)) (he : PE X o ta) (hb : attributeBase o f X.env (eval o X.env) = eval o X.env) : PE X (.Attribute o f pos) (tKf C sel ta) := by
  refine PE.imp (pe_fld (PE.up he) hb) fun σ H Q h => ⟨_, h, ?_⟩
  rintro x H1 ⟨p, S, rfl, ⟨dx, e⟩, q⟩
  exact ⟨p, C, dx, _, _, rfl, e, cl, na, hl S, q⟩
theorem pe_k_function (T : NmK X.K mg aF C CR CE) (he : PE X o ta) (hb : attributeBase o "_function" X.env (eval o X.env) = eval o X.env := by rfl) : PE X (.Attribute o "_function" pos) (tKf C KF.fn ta) := pe_kf T.cl_Keeper T.n_function (fun _ => kf_function) he hb
theorem pe_k_now (T : NmK X.K mg aF C CR CE) (he : PE X o ta) (hb : attributeBase o "_now" X.env (eval o X.env) = eval o X.env := by rfl) : PE X (.Attribute o "_now" pos) (tKf C KF.now ta) := pe_kf T.cl_Keeper T.n_now (fun _ => kf_now) he hb
theorem pe_k_left (T : NmK X.K mg aF C CR CE) (he : PE X o ta) (hb : attributeBase o "_left" X.env (eval o X.env) = eval o X.env := by rfl) : PE X (.Attribute o "_left" pos) (tKf C KF.left ta) := pe_kf T.cl_Keeper T.n_left (fun _ => kf_left) he hb
theorem pe_k_inputs (T : NmK X.K mg aF C CR CE) (he : PE X o ta) (hb : attributeBase o "_inputs" X.env (eval o X.env) = eval o X.env := by rfl) : PE X (.Attribute o "_inputs" pos) (tKf C KF.inp ta) := pe_kf T.cl_Keeper T.n_inputs (fun _ => kf_inputs) he hb
theorem pe_k_entries (T : NmK X.K mg aF C CR CE) (he : PE X o ta) (hb : attributeBase o "_entries" X.env (eval o X.env) = eval o X.env := by rfl) : PE X (.Attribute o "_entries" pos) (tKf C KF.ent ta) := pe_kf T.cl_Keeper T.n_entries (fun _ => kf_entries) he hb
theorem pe_k_runs (T : NmK X.K mg aF C CR CE) (he : PE X o ta) (hb : attributeBase o "_runs" X.env (eval o X.env) = eval o X.env := by rfl) : PE X (.Attribute o "_runs" pos) (tKf C KF.run ta) := pe_kf T.cl_Keeper T.n_runs (fun _ => kf_runs) he hb
theorem pe_k_asked (T : NmK X.K mg aF C CR CE) (he : PE X o ta) (hb : attributeBase o "_asked" X.env (eval o X.env) = eval o X.env := by rfl) : PE X (.Attribute o "_asked" pos) (tKf C KF.asked ta) := pe_kf T.cl_Keeper T.n_asked (fun _ => kf_asked) he hb
theorem pe_k_ended (T : NmK X.K mg aF C CR CE) (he : PE X o ta) (hb : attributeBase o "_ended" X.env (eval o X.env) = eval o X.env := by rfl) : PE X (.Attribute o "_ended" pos) (tKf C KF.ended ta) := pe_kf T.cl_Keeper T.n_ended (fun _ => kf_ended) he hb
/-- self.f = e -/
def sKset (C : Addr) (u : KF → V → KF) (ta tv : TE) : TS := fun D σ H => tv σ H fun y H1 => ta σ H1 fun x H2 => ∃ p S, x = .ref p ∧ KRaw C H2 p S ∧ ∀ H', But p H2 H' → (∀ b, H2 b = none → H' b = none) → KRaw C H' p (u S y) → D.nx σ H'
theorem ps_kset {f : Str} {u : KF → V → KF} (cl : Cls X.K C) (na : NoAttr X.K C f) (hp : ∀ S x, putF f x (kf S) = kf (u S x)) (ha : PE X o ta) (hv : PE X v tv) (hs : swapsWith v (some (.Attribute o f pos')) pos.line X.env = pure false) : PS X (.Assign [.Attribute o f pos'] v pos) (sKset C u ta tv) := by
  refine PS.imp (ps_fld (PE.up ha) (PE.up hv) hs) fun D σ H h => ⟨_, h, ?_⟩
  intro y H1 h1
  refine ⟨_, h1, ?_⟩
  rintro x H2 ⟨p, S, rfl, ⟨dx, e⟩, q⟩
  refine ⟨p, C, dx, _, rfl, e, cl, na, (by show 8 < 1000; decide), q _ (But.refl _ _).upd (fun b hb => ?_) ⟨dx, ?_⟩⟩
  · rw [upd_ne (fun z => by rw [z, e] at hb; cases hb)]
    exact hb
  · rw [upd_same, hp]
theorem ps_k_asked (T : NmK X.K mg aF C CR CE) (ha : PE X o ta) (hv : PE X v tv) (hs : swapsWith v (some (.Attribute o "_asked" pos')) pos.line X.env = pure false := by rfl) : PS X (.Assign [.Attribute o "_asked" pos'] v pos) (sKset C (fun S y => { S with asked := y }) ta tv) := ps_kset T.cl_Keeper T.n_asked (fun _ _ => kf_asked') ha hv hs
theorem ps_k_left (T : NmK X.K mg aF C CR CE) (ha : PE X o ta) (hv : PE X v tv) (hs : swapsWith v (some (.Attribute o "_left" pos')) pos.line X.env = pure false := by rfl) : PS X (.Assign [.Attribute o "_left" pos'] v pos) (sKset C (fun S y => { S with left := y }) ta tv) := ps_kset T.cl_Keeper T.n_left (fun _ _ => kf_left') ha hv hs
theorem ps_k_entries (T : NmK X.K mg aF C CR CE) (ha : PE X o ta) (hv : PE X v tv) (hs : swapsWith v (some (.Attribute o "_entries" pos')) pos.line X.env = pure false := by rfl) : PS X (.Assign [.Attribute o "_entries" pos'] v pos) (sKset C (fun S y => { S with ent := y }) ta tv) := ps_kset T.cl_Keeper T.n_entries (fun _ _ => kf_entries') ha hv hs
theorem ps_k_ended (T : NmK X.K mg aF C CR CE) (ha : PE X o ta) (hv : PE X v tv) (hs : swapsWith v (some (.Attribute o "_ended" pos')) pos.line X.env = pure false := by rfl) : PS X (.Assign [.Attribute o "_ended" pos'] v pos) (sKset C (fun S y => { S with ended := y }) ta tv) := ps_kset T.cl_Keeper T.n_ended (fun _ _ => kf_ended') ha hv hs
/-- self._now += n, self._left -= n -/
def sKan (C : Addr) (i : Int) (ta : TE) : TS := fun D σ H => ta σ H fun x H1 => ∃ p S n, x = .ref p ∧ KRaw C H1 p S ∧ S.now = .int n ∧ ∀ H', But p H1 H' → KRaw C H' p { S with now := .int (n + i) } → D.nx σ H'
theorem ps_ka_now {i : Int} {j : Nat} {cp : Pos} (T : NmK X.K mg aF C CR CE) (he : PE X o ta) (_ : PE X (.Constant (.int i) j cp) (tC (.int i))) (hop : InOp X .Add rAdd) : PS X (.AugAssign (.Attribute o "_now" pos') .Add (.Constant (.int i) j cp) pos) (sKan C i ta) := by
  refine PS.imp (ps_fldaug (PE.up he) pe_int hop) fun D σ H h => ⟨_, h, ?_⟩
  rintro x H1 ⟨p, S, n, rfl, ⟨dx, e⟩, hn, q⟩
  refine ⟨p, C, dx, _, _, rfl, e, T.cl_Keeper, T.n_now, kf_now, n, i, hn, rfl, ?_⟩
  refine ⟨dx, _, e, (by show 8 < 1000; decide), q _ (But.refl _ _).upd ⟨dx, ?_⟩⟩
  rw [upd_same, kf_now']
def sKal (C : Addr) (i : Int) (ta : TE) : TS := fun D σ H => ta σ H fun x H1 => ∃ p S n, x = .ref p ∧ KRaw C H1 p S ∧ S.left = .int n ∧ ∀ H', But p H1 H' → (∀ b, H1 b = none → H' b = none) → KRaw C H' p { S with left := .int (n - i) } → D.nx σ H'
theorem ps_ka_left {i : Int} {j : Nat} {cp : Pos} (T : NmK X.K mg aF C CR CE) (he : PE X o ta) (_ : PE X (.Constant (.int i) j cp) (tC (.int i))) (hop : InOp X .Sub rSub) : PS X (.AugAssign (.Attribute o "_left" pos') .Sub (.Constant (.int i) j cp) pos) (sKal C i ta) := by
  refine PS.imp (ps_fldaug (PE.up he) pe_int hop) fun D σ H h => ⟨_, h, ?_⟩
  rintro x H1 ⟨p, S, n, rfl, ⟨dx, e⟩, hn, q⟩
  refine ⟨p, C, dx, _, _, rfl, e, T.cl_Keeper, T.n_left, kf_left, n, i, hn, rfl, ?_⟩
  refine ⟨dx, _, e, (by show 8 < 1000; decide), q _ (But.refl _ _).upd (fun b hb => ?_) ⟨dx, ?_⟩⟩
  · rw [upd_ne (fun z => by rw [z, e] at hb; cases hb)]
    exact hb
  · rw [upd_same, kf_left']
end
/-! ### objects by their class's name; xs[i] read for a store -/
structure CalO (P : Program) (w : World) (K : PySem.W.Frag) (mg : Str → Option Value) (base : Heap) (CX : CXT) (k : Nat) (C : Addr) (sp : Sp) : Prop where
  ex : ∃ (f : Addr) (fd : FuncData) (ps : List Str), FnOk P w K mg base CX k f fd ps sp ∧ Mk K C f ∧ Binds K fd ps []
theorem pe_mk {X : Cx} {x : Str} {C : Addr} {k j : Nat} {sp : Sp} {p pos : Pos} {e : Expr} {es : List Expr} {t : TA} {CX : CXT} {E : XK} (c : CalO X.prog X.w X.K X.mg X.base CX k C sp) (hr : Room j X.A) (hk : k + 1 ≤ j) (hm : X.mg x = some (.ref C)) (hx : Passes CX X E) (ha : PA X (e :: es) t) (hg : Gl X x := by rfl)
    (hdb : (x == ("__debug__" : Str)) = false := by decide) (he : starEach (e :: es) X.env = (false, eval e X.env) :: starEach es X.env := by rfl) (hpl : (backTo pos (starEach es X.env)).any (·.1) = false := by rfl) :
    PE X (.Call (.Name x p) (e :: es) [] pos) (tMake C sp [] E t) := by
  obtain ⟨f, fd, ps, F, M, b⟩ := c.ex
  exact pe_make M F (hr.mono hk) hg hm b .nil hx ha hdb he hpl
theorem pe_mk0 {X : Cx} {x : Str} {C : Addr} {k j : Nat} {sp : Sp} {p pos : Pos} {CX : CXT} {E : XK} (c : CalO X.prog X.w X.K X.mg X.base CX k C sp) (hr : Room j X.A) (hk : k + 1 ≤ j) (hm : X.mg x = some (.ref C)) (hx : Passes CX X E) (hg : Gl X x := by rfl)
    (hdb : (x == ("__debug__" : Str)) = false := by decide) : PE X (.Call (.Name x p) [] [] pos) (tMake C sp [] E tNil) := by
  obtain ⟨f, fd, ps, F, M, b⟩ := c.ex
  exact pe_make0 M F (hr.mono hk) hg hm b .nil hx hdb
def rGetL : V → V → Hp → VK → Prop := fun o i H Q => ∃ (p : Addr) (xs : List V) (k : Nat) (v : V), o = .ref p ∧ i = .int (k : Int) ∧ H p = some (.lst xs) ∧ xs[k]? = some v ∧ Q v H
theorem get_list {X : Cx} : PGet X rGetL := by
  intro pins s σ H o i ov iv Q I ro ri h
  obtain ⟨p, xs, k, v, rfl, rfl, hp, hk, q⟩ := h
  cases ro
  obtain ⟨t, rfl⟩ := ri
  obtain ⟨its, r, pl, hz⟩ := I.list (SqL.of hp)
  obtain ⟨w, ew, rw'⟩ := r.get hk
  have hl := (List.getElem?_eq_some_iff.mp hk).1
  have hn := line63
  exact wpAny_getItem_list (Q := fun r s' => EP X pins σ Q r s') pl.isList (by omega) (by omega) (by simpa using ew) ⟨v, H, I, rw', q⟩

end Sn

namespace Sn
open PySem PySem.Spec PyProof.Rows L2 TL
/-! ### the keeper in the heap, for any keys and values -/
structure Vl (α : Type) [DecidableEq α] where
  rp : Hp → V → α → Prop
  keep : ∀ {H H' : Hp} {v : V} {a : α}, (∀ b xs, H b = some (.tup xs) → H' b = some (.tup xs)) → rp H v a → rp H' v a
  dat : α → PyData
  dp : ∀ {K : PySem.W.Frag} {H : Hp} {v : V} {a : α}, rp H v a → Dp K H v (dat a)
  sh : ∀ a, SeqAt.shaped (dat a) = true
  eq : ∀ a b, PyData.eqv (dat a) (dat b) = decide (a = b)
def isK (H : Hp) (b : Addr) (k : Ky) : Prop := H b = some (.tup (k.map kV))
inductive Ks (H : Hp) : List Addr → List Ky → Prop
  | nil : Ks H [] []
  | cons {b : Addr} {k : Ky} {bs : List Addr} {ks : List Ky} : isK H b k → Ks H bs ks → Ks H (b :: bs) (k :: ks)
theorem Ks.keep {H H' : Hp} (f : ∀ b xs, H b = some (.tup xs) → H' b = some (.tup xs)) {bs : List Addr} {ks : List Ky} (h : Ks H bs ks) : Ks H' bs ks := by
  induction h with
  | nil => exact .nil
  | cons a _ ih => exact .cons (f _ _ a) ih
theorem Ks.snoc {H : Hp} {bs : List Addr} {ks : List Ky} {b : Addr} {k : Ky} (h : Ks H bs ks) (e : isK H b k) : Ks H (bs ++ [b]) (ks ++ [k]) := by
  induction h with
  | nil => exact .cons e .nil
  | cons a _ ih => exact .cons a ih
theorem Ks.get {H : Hp} {bs : List Addr} {ks : List Ky} (h : Ks H bs ks) : ∀ {j : Nat} {d : Ky}, ks[j]? = some d → ∃ b, bs[j]? = some b ∧ isK H b d := by
  induction h with
  | nil =>
    intro j d e
    simp at e
  | cons a _ ih =>
    intro j d e
    cases j with
    | zero =>
      simp at e
      subst e
      exact ⟨_, rfl, a⟩
    | succ j => exact ih (by simpa using e)
theorem Ks.len {H : Hp} {bs : List Addr} {ks : List Ky} (h : Ks H bs ks) : bs.length = ks.length := by
  induction h with
  | nil => rfl
  | cons _ _ ih => simp [ih]
structure KAd where
  i : Addr
  e : Addr
  r : Addr
  l : Addr
section
variable {α : Type} [DecidableEq α] (Vx : Vl α)
/-- the entry at p -/
def EntV (H : Hp) (p : Addr) (e : En α) : Prop :=
  ∃ v q bs, H p = some (.tup [v, .ref q, .int (e.c : Int), .int (e.g : Int)]) ∧ Vx.rp H v e.v ∧ H q = some (.tup (bs.map V.ref)) ∧ Ks H bs e.d
def lfV : Option Nat → V
  | none => .non
  | some n => .int (n : Int)
def kfo (aF : Addr) (A : KAd) (S : KS α) (av : V) : KF := ⟨.ref aF, .int (S.now : Int), lfV S.left, .ref A.i, .ref A.e, .ref A.r, av, .ref A.l⟩
def InpP (H : Hp) (d : Addr) (inp : Ky → Option (α × Nat)) (ni : Nat) : Prop := ∃ kvs : List (List L2.Key × V), H d = some (.dT kvs) ∧ kvs.length ≤ ni ∧ ∀ k, (valV kvs k = none ∧ inp k = none) ∨ ∃ p v a r, valV kvs k = some (.ref p) ∧ inp k = some (a, r) ∧ H p = some (.tup [v, .int ((r : Nat) : Int)]) ∧ Vx.rp H v a
def EntP (H : Hp) (d : Addr) (en : Ky → Option (En α)) (m : Nat) : Prop := ∃ kvs : List (List L2.Key × V), H d = some (.dT kvs) ∧ kvs.length ≤ m ∧ ∀ k, (valV kvs k = none ∧ en k = none) ∨ ∃ p e, valV kvs k = some (.ref p) ∧ en k = some e ∧ EntV Vx H p e
def RunP (H : Hp) (d : Addr) (rn : Ky → Option Addr) (m : Nat) : Prop := ∃ kvs : List (List L2.Key × V), H d = some (.dT kvs) ∧ kvs.length ≤ m ∧ ∀ k, valV kvs k = (rn k).map V.ref
def LiveP (CR : Addr) (H : Hp) (rn : Ky → Option Addr) (lv : List Ky) : Prop := ∀ k, (k ∈ lv → ∃ p dx, rn k = some p ∧ H p = some (.ins CR dx [("live", .bl true)])) ∧ (k ∉ lv → ∀ p, rn k = some p → ∃ dx, H p = some (.ins CR dx [("live", .bl false)]))
def EndP (H : Hp) (l : Addr) (done : List Ky) (m : Nat) : Prop := ∃ bs : List Addr, H l = some (.lst (bs.map V.ref)) ∧ bs.length ≤ m ∧ Ks H bs done
structure Kh (CK CR aF : Addr) (H : Hp) (o : Addr) (A : KAd) (S : KS α) (rn : Ky → Option Addr) (lv : List Ky) (av : V) (m ni : Nat) : Prop where
  raw : KRaw CK H o (kfo aF A S av)
  inp : InpP Vx H A.i S.inp ni
  ent : EntP Vx H A.e S.en m
  run : RunP H A.r rn m
  live : LiveP CR H rn lv
  ended : EndP H A.l S.done m
  d1 : A.i ≠ A.e
  d2 : A.i ≠ A.r
  d3 : A.e ≠ A.r
  ck : CK ≠ CR
end
/-- the objects that the keeper leans on -/
def Kob : HO → Prop
  | .ins _ _ _ => True
  | .dT _ => True
  | .tup _ => True
  | _ => False
theorem Kob.ne {H : Hp} {d b : Addr} {kvs : List (List L2.Key × V)} {u : HO} (hd : H d = some (.dT kvs)) (e : H b = some u) (n : ∀ kvs, u ≠ .dT kvs) : b ≠ d := fun z => by
  rw [z, hd] at e
  injection e with e
  exact n _ e.symm
section
variable {α : Type} [DecidableEq α] {Vx : Vl α}
variable {CK CR aF : Addr} {H H' : Hp} {o : Addr} {A : KAd} {S : KS α} {rn : Ky → Option Addr} {lv : List Ky} {av : V} {m ni : Nat}
abbrev FT (H H' : Hp) : Prop := ∀ b xs, H b = some (.tup xs) → H' b = some (.tup xs)
theorem EntV.keep {p : Addr} {e : En α} (f : FT H H') : EntV Vx H p e → EntV Vx H' p e := fun ⟨v, q, bs, h1, h2, h3, h4⟩ => ⟨v, q, bs, f _ _ h1, Vx.keep f h2, f _ _ h3, h4.keep f⟩
theorem InpP.keep {d : Addr} {inp : Ky → Option (α × Nat)} (f : FT H H') (g : ∀ kvs, H d = some (.dT kvs) → H' d = some (.dT kvs)) : InpP Vx H d inp ni → InpP Vx H' d inp ni := fun ⟨kvs, a, b, c⟩ =>
  ⟨kvs, g _ a, b, fun k => (c k).elim .inl fun ⟨p, v, a, r, x, y, z, w⟩ => .inr ⟨p, v, a, r, x, y, f _ _ z, Vx.keep f w⟩⟩
theorem EntP.keep {d : Addr} {en : Ky → Option (En α)} (f : FT H H') (g : ∀ kvs, H d = some (.dT kvs) → H' d = some (.dT kvs)) {m' : Nat} (hm : m ≤ m') : EntP Vx H d en m → EntP Vx H' d en m' := fun ⟨kvs, a, b, c⟩ =>
  ⟨kvs, g _ a, Nat.le_trans b hm, fun k => (c k).elim .inl fun ⟨p, e, x, y, z⟩ => .inr ⟨p, e, x, y, z.keep f⟩⟩
theorem RunP.keep {d : Addr} (g : ∀ kvs, H d = some (.dT kvs) → H' d = some (.dT kvs)) {m' : Nat} (hm : m ≤ m') : RunP H d rn m → RunP H' d rn m' := fun ⟨kvs, a, b, c⟩ => ⟨kvs, g _ a, Nat.le_trans b hm, c⟩
theorem LiveP.keep (g : ∀ p dx fs, H p = some (.ins CR dx fs) → H' p = some (.ins CR dx fs)) : LiveP CR H rn lv → LiveP CR H' rn lv := fun h k => ⟨fun hk => by
  obtain ⟨p, dx, a, b⟩ := (h k).1 hk
  exact ⟨p, dx, a, g _ _ _ b⟩, fun hk p hp => by
  obtain ⟨dx, b⟩ := (h k).2 hk p hp
  exact ⟨dx, g _ _ _ b⟩⟩
theorem EndP.keep {l : Addr} {done : List Ky} (f : FT H H') (g : ∀ vs, H l = some (.lst vs) → H' l = some (.lst vs)) {m' : Nat} (hm : m ≤ m') : EndP H l done m → EndP H' l done m' := fun ⟨bs, a, b, c⟩ => ⟨bs, g _ a, Nat.le_trans b hm, c.keep f⟩
theorem Kh.keep (h : Kh Vx CK CR aF H o A S rn lv av m ni) (f : ∀ b u, H b = some u → (b = A.l ∨ Kob u) → H' b = some u) : Kh Vx CK CR aF H' o A S rn lv av m ni := by
  have ft : FT H H' := fun b xs e => f _ _ e (.inr trivial)
  have fd : ∀ d kvs, H d = some (.dT kvs) → H' d = some (.dT kvs) := fun d kvs e => f _ _ e (.inr trivial)
  obtain ⟨dx, e⟩ := h.raw
  exact ⟨⟨dx, f _ _ e (.inr trivial)⟩, h.inp.keep ft (fd _), h.ent.keep ft (fd _) (Nat.le_refl _), h.run.keep (fd _) (Nat.le_refl _), h.live.keep (fun p dx fs e => f _ _ e (.inr trivial)), h.ended.keep ft (fun vs e => f _ _ e (.inl rfl)) (Nat.le_refl _), h.d1, h.d2, h.d3, h.ck⟩
theorem Kh.same (h : Kh Vx CK CR aF H o A S rn lv av m ni) (s : Same H H') : Kh Vx CK CR aF H' o A S rn lv av m ni := h.keep fun b u e _ => s b u e
theorem Kh.more {m' : Nat} (h : Kh Vx CK CR aF H o A S rn lv av m ni) (hm : m ≤ m') : Kh Vx CK CR aF H o A S rn lv av m' ni :=
  ⟨h.raw, h.inp, h.ent.keep (fun _ _ e => e) (fun _ e => e) hm, h.run.keep (fun _ e => e) hm, h.live, h.ended.keep (fun _ _ e => e) (fun _ e => e) hm, h.d1, h.d2, h.d3, h.ck⟩
theorem Kh.wider {n' : Nat} (h : Kh Vx CK CR aF H o A S rn lv av m ni) (hn : ni ≤ n') : Kh Vx CK CR aF H o A S rn lv av m n' := by
  obtain ⟨kv, a, b, c⟩ := h.inp
  exact ⟨h.raw, ⟨kv, a, Nat.le_trans b hn, c⟩, h.ent, h.run, h.live, h.ended, h.d1, h.d2, h.d3, h.ck⟩
/-- the keeper's own attributes change: what was asked, the revision, the limit -/
theorem Kh.self {S' : KS α} {y : V} (h : Kh Vx CK CR aF H o A S rn lv av m ni) (b : But o H H') (r : KRaw CK H' o (kfo aF A S' y)) (h1 : S'.inp = S.inp) (h2 : S'.en = S.en) (h3 : S'.done = S.done) : Kh Vx CK CR aF H' o A S' rn lv y m ni := by
  obtain ⟨dx, eo⟩ := h.raw
  have ne : ∀ {b u}, H b = some u → (∀ dx fs, u ≠ .ins CK dx fs) → b ≠ o := fun e n z => by
    rw [z, eo] at e
    injection e with e
    exact n _ _ e.symm
  have ft : FT H H' := fun c xs e => b _ _ (ne e fun _ _ z => nomatch z) e
  have fd : ∀ d kvs, H d = some (.dT kvs) → H' d = some (.dT kvs) := fun d kvs e => b _ _ (ne e fun _ _ z => nomatch z) e
  exact ⟨r, h1 ▸ h.inp.keep ft (fd _), h2 ▸ h.ent.keep ft (fd _) (Nat.le_refl _), h.run.keep (fd _) (Nat.le_refl _), h.live.keep (fun p dx fs e => b _ _ (ne e fun _ _ z => by injection z with z; exact h.ck z.symm) e), h3 ▸ h.ended.keep ft (fun vs e => b _ _ (ne e fun _ _ z => nomatch z) e) (Nat.le_refl _), h.d1, h.d2, h.d3, h.ck⟩
theorem Kh.ask {y : V} (h : Kh Vx CK CR aF H o A S rn lv av m ni) (b : But o H H') (r : KRaw CK H' o (kfo aF A S y)) : Kh Vx CK CR aF H' o A S rn lv y m ni := h.self b r rfl rfl rfl
theorem upd_st {d : Addr} {kvs k2 : List (List L2.Key × V)} (hd : H d = some (.dT kvs)) {b : Addr} {u : HO} (e : H b = some u) (n : ∀ kvs, u ≠ .dT kvs) : upd H d (.dT k2) b = some u := by
  rw [upd_ne (Kob.ne hd e n)]
  exact e
theorem upd_ft {d : Addr} {kvs k2 : List (List L2.Key × V)} (hd : H d = some (.dT kvs)) : FT H (upd H d (.dT k2)) := fun _ _ e => upd_st hd e fun _ z => nomatch z
theorem upd_fd {d d' : Addr} {k2 : List (List L2.Key × V)} (n : d' ≠ d) (kvs : List (List L2.Key × V)) (e : H d' = some (.dT kvs)) : upd H d (.dT k2) d' = some (.dT kvs) := by
  rw [upd_ne n]
  exact e
theorem Kh.put_inp {k : Ky} {p : Addr} {v : V} {a : α} {r : Nat} {kvs : List (List L2.Key × V)} (h : Kh Vx CK CR aF H o A S rn lv av m ni) (he : H A.i = some (.dT kvs)) (hp : H p = some (.tup [v, .int (r : Int)])) (hv : Vx.rp H v a) : Kh Vx CK CR aF (upd H A.i (.dT (putK kvs k (.ref p)))) o A { S with inp := ups S.inp k (a, r) } rn lv av m (ni + 1) := by
  have ft : FT H (upd H A.i (.dT (putK kvs k (.ref p)))) := upd_ft he
  refine ⟨?_, ?_, h.ent.keep ft (upd_fd h.d1.symm) (Nat.le_refl _), h.run.keep (upd_fd h.d2.symm) (Nat.le_refl _), h.live.keep (fun _ _ _ e => upd_st he e fun _ z => nomatch z), h.ended.keep ft (fun _ e => upd_st he e fun _ z => nomatch z) (Nat.le_refl _), h.d1, h.d2, h.d3, h.ck⟩
  · obtain ⟨dx, a⟩ := h.raw
    exact ⟨dx, upd_st he a fun _ z => nomatch z⟩
  · obtain ⟨k2, x1, x2, x3⟩ := h.inp
    rw [he] at x1
    cases x1
    refine ⟨_, upd_same, by have := length_putK kvs k (V.ref p); omega, fun j => ?_⟩
    by_cases hj : j = k
    · subst hj
      exact .inr ⟨p, v, a, r, by rw [valV_put, if_pos rfl], ups_at, ft _ _ hp, Vx.keep ft hv⟩
    · rw [valV_put, if_neg hj]
      rcases x3 j with ⟨x, y⟩ | ⟨p', v', a', r', x, y, z, w⟩
      · exact .inl ⟨x, (ups_ne hj).trans y⟩
      · exact .inr ⟨p', v', a', r', x, (ups_ne hj).trans y, ft _ _ z, Vx.keep ft w⟩
theorem Kh.put_ent {k : Ky} {p : Addr} {e : En α} {kvs : List (List L2.Key × V)} (h : Kh Vx CK CR aF H o A S rn lv av m ni) (he : H A.e = some (.dT kvs)) (hp : EntV Vx H p e) : Kh Vx CK CR aF (upd H A.e (.dT (putK kvs k (.ref p)))) o A { S with en := ups S.en k e } rn lv av (m + 1) ni := by
  have ft : FT H (upd H A.e (.dT (putK kvs k (.ref p)))) := upd_ft he
  refine ⟨?_, h.inp.keep ft (upd_fd h.d1), ?_, h.run.keep (upd_fd h.d3.symm) (Nat.le_succ _), h.live.keep (fun _ _ _ e => upd_st he e fun _ z => nomatch z), h.ended.keep ft (fun _ e => upd_st he e fun _ z => nomatch z) (Nat.le_succ _), h.d1, h.d2, h.d3, h.ck⟩
  · obtain ⟨dx, a⟩ := h.raw
    exact ⟨dx, upd_st he a fun _ z => nomatch z⟩
  · obtain ⟨k2, x1, x2, x3⟩ := h.ent
    rw [he] at x1
    cases x1
    refine ⟨_, upd_same, by have := length_putK kvs k (V.ref p); omega, fun j => ?_⟩
    by_cases hj : j = k
    · subst hj
      exact .inr ⟨p, e, by rw [valV_put, if_pos rfl], ups_at, hp.keep ft⟩
    · rw [valV_put, if_neg hj]
      rcases x3 j with ⟨x, y⟩ | ⟨p', e', x, y, z⟩
      · exact .inl ⟨x, (ups_ne hj).trans y⟩
      · exact .inr ⟨p', e', x, (ups_ne hj).trans y, z.keep ft⟩
theorem Kh.put_run {k : Ky} {p : Addr} {dx : Addr} {kvs : List (List L2.Key × V)} (h : Kh Vx CK CR aF H o A S rn lv av m ni) (he : H A.r = some (.dT kvs)) (hp : H p = some (.ins CR dx [("live", .bl true)])) : Kh Vx CK CR aF (upd H A.r (.dT (putK kvs k (.ref p)))) o A S (ups rn k p) (lv ++ [k]) av (m + 1) ni := by
  have ft : FT H (upd H A.r (.dT (putK kvs k (.ref p)))) := upd_ft he
  refine ⟨?_, h.inp.keep ft (upd_fd h.d2), h.ent.keep ft (upd_fd h.d3) (Nat.le_succ _), ?_, ?_, h.ended.keep ft (fun _ e => upd_st he e fun _ z => nomatch z) (Nat.le_succ _), h.d1, h.d2, h.d3, h.ck⟩
  · obtain ⟨dx, a⟩ := h.raw
    exact ⟨dx, upd_st he a fun _ z => nomatch z⟩
  · obtain ⟨k2, a, b, c⟩ := h.run
    rw [he] at a
    cases a
    refine ⟨_, upd_same, by have := length_putK kvs k (V.ref p); omega, fun j => ?_⟩
    by_cases hj : j = k
    · subst hj
      rw [valV_put, if_pos rfl, ups_at]
      rfl
    · rw [valV_put, if_neg hj, ups_ne hj]
      exact c j
  · refine fun j => ⟨fun hk => ?_, fun hk q hq => ?_⟩
    · by_cases hj : j = k
      · subst hj
        exact ⟨p, dx, ups_at, upd_st he hp fun _ z => nomatch z⟩
      · have : j ∈ lv := by
          rcases List.mem_append.mp hk with hk | hk
          · exact hk
          · exact absurd (List.mem_singleton.mp hk) hj
        obtain ⟨p', dx', a, c⟩ := (h.live j).1 this
        exact ⟨p', dx', by rw [ups_ne hj]; exact a, upd_st he c fun _ z => nomatch z⟩
    · have hj : j ≠ k := fun z => hk (List.mem_append.mpr (.inr (List.mem_singleton.mpr z)))
      rw [ups_ne hj] at hq
      obtain ⟨dx', c⟩ := (h.live j).2 (fun z => hk (List.mem_append.mpr (.inl z))) q hq
      exact ⟨dx', upd_st he c fun _ z => nomatch z⟩
theorem valV_dropK {κ : Type} [DecidableEq κ] (k j : κ) : ∀ kvs : List (κ × V), valV (dropK kvs k) j = if j = k then none else valV kvs j
  | [] => by split <;> rfl
  | p :: r => by
    have ih := valV_dropK k j r
    by_cases e : p.1 = k
    · have z : dropK (p :: r) k = dropK r k := List.filter_cons_of_neg (by simp [e])
      rw [z, ih]
      by_cases h : j = k
      · rw [if_pos h, if_pos h]
      · rw [if_neg h, if_neg h, valV_neg (fun z => h (z.symm.trans e))]
    · have z : dropK (p :: r) k = p :: dropK r k := List.filter_cons_of_pos (by simp [e])
      rw [z]
      by_cases h : p.1 = j
      · rw [valV_pos h, valV_pos h, if_neg (fun z => e (h.trans z))]
      · rw [valV_neg h, valV_neg h, ih]
def del {β : Type} (f : Ky → Option β) (k : Ky) : Ky → Option β := fun j => if j = k then none else f j
theorem Kh.drop_run {k : Ky} {kvs : List (List L2.Key × V)} (h : Kh Vx CK CR aF H o A S rn (lv ++ [k]) av m ni) (hk : k ∉ lv) (he : H A.r = some (.dT kvs)) : Kh Vx CK CR aF (upd H A.r (.dT (dropK kvs k))) o A S (del rn k) lv av m ni := by
  have ft : FT H (upd H A.r (.dT (dropK kvs k))) := upd_ft he
  refine ⟨?_, h.inp.keep ft (upd_fd h.d2), h.ent.keep ft (upd_fd h.d3) (Nat.le_refl _), ?_, ?_, h.ended.keep ft (fun _ e => upd_st he e fun _ z => nomatch z) (Nat.le_refl _), h.d1, h.d2, h.d3, h.ck⟩
  · obtain ⟨dx, a⟩ := h.raw
    exact ⟨dx, upd_st he a fun _ z => nomatch z⟩
  · obtain ⟨k2, a, b, c⟩ := h.run
    rw [he] at a
    cases a
    refine ⟨_, upd_same, Nat.le_trans (dropK_le kvs k) b, fun j => ?_⟩
    rw [valV_dropK]
    by_cases hj : j = k
    · subst hj
      rw [if_pos rfl, show del rn j j = none from if_pos rfl]
      rfl
    · rw [if_neg hj, show del rn k j = rn j from if_neg hj]
      exact c j
  · refine fun j => ⟨fun hl => ?_, fun hl q hq => ?_⟩
    · have hj : j ≠ k := fun z => hk (z ▸ hl)
      obtain ⟨p', dx', a, c⟩ := (h.live j).1 (List.mem_append.mpr (.inl hl))
      exact ⟨p', dx', by rw [show del rn k j = rn j from if_neg hj]; exact a, upd_st he c fun _ z => nomatch z⟩
    · by_cases hj : j = k
      · rw [show del rn k j = none from if_pos hj] at hq
        cases hq
      · rw [show del rn k j = rn j from if_neg hj] at hq
        obtain ⟨dx', c⟩ := (h.live j).2 (fun z => (List.mem_append.mp z).elim hl fun z => hj (List.mem_singleton.mp z)) q hq
        exact ⟨dx', upd_st he c fun _ z => nomatch z⟩
theorem Kh.drop_ent {k : Ky} {kvs : List (List L2.Key × V)} (h : Kh Vx CK CR aF H o A S rn lv av m ni) (he : H A.e = some (.dT kvs)) : Kh Vx CK CR aF (upd H A.e (.dT (dropK kvs k))) o A { S with en := del S.en k } rn lv av m ni := by
  have ft : FT H (upd H A.e (.dT (dropK kvs k))) := upd_ft he
  refine ⟨?_, h.inp.keep ft (upd_fd h.d1), ?_, h.run.keep (upd_fd h.d3.symm) (Nat.le_refl _), h.live.keep (fun _ _ _ e => upd_st he e fun _ z => nomatch z), h.ended.keep ft (fun _ e => upd_st he e fun _ z => nomatch z) (Nat.le_refl _), h.d1, h.d2, h.d3, h.ck⟩
  · obtain ⟨dx, a⟩ := h.raw
    exact ⟨dx, upd_st he a fun _ z => nomatch z⟩
  · obtain ⟨k2, a, b, c⟩ := h.ent
    rw [he] at a
    cases a
    refine ⟨_, upd_same, Nat.le_trans (dropK_le kvs k) b, fun j => ?_⟩
    rw [valV_dropK]
    by_cases hj : j = k
    · rw [if_pos hj]
      exact .inl ⟨rfl, if_pos hj⟩
    · rw [if_neg hj]
      rcases c j with ⟨x, y⟩ | ⟨p', e', x, y, z⟩
      · exact .inl ⟨x, (if_neg hj : del S.en k j = S.en j).trans y⟩
      · exact .inr ⟨p', e', x, (if_neg hj : del S.en k j = S.en j).trans y, z.keep ft⟩
theorem Kh.drop_inp {k : Ky} {kvs : List (List L2.Key × V)} (h : Kh Vx CK CR aF H o A S rn lv av m ni) (he : H A.i = some (.dT kvs)) : Kh Vx CK CR aF (upd H A.i (.dT (dropK kvs k))) o A { S with inp := del S.inp k } rn lv av m ni := by
  have ft : FT H (upd H A.i (.dT (dropK kvs k))) := upd_ft he
  refine ⟨?_, ?_, h.ent.keep ft (upd_fd h.d1.symm) (Nat.le_refl _), h.run.keep (upd_fd h.d2.symm) (Nat.le_refl _), h.live.keep (fun _ _ _ e => upd_st he e fun _ z => nomatch z), h.ended.keep ft (fun _ e => upd_st he e fun _ z => nomatch z) (Nat.le_refl _), h.d1, h.d2, h.d3, h.ck⟩
  · obtain ⟨dx, a⟩ := h.raw
    exact ⟨dx, upd_st he a fun _ z => nomatch z⟩
  · obtain ⟨k2, a, b, c⟩ := h.inp
    rw [he] at a
    cases a
    refine ⟨_, upd_same, Nat.le_trans (dropK_le kvs k) b, fun j => ?_⟩
    rw [valV_dropK]
    by_cases hj : j = k
    · rw [if_pos hj]
      exact .inl ⟨rfl, if_pos hj⟩
    · rw [if_neg hj]
      rcases c j with ⟨x, y⟩ | ⟨p', v', a', r', x, y, z, w⟩
      · exact .inl ⟨x, (if_neg hj : del S.inp k j = S.inp j).trans y⟩
      · exact .inr ⟨p', v', a', r', x, (if_neg hj : del S.inp k j = S.inp j).trans y, ft _ _ z, Vx.keep ft w⟩
theorem Kh.push {bs : List Addr} {b : Addr} {k : Ky} (h : Kh Vx CK CR aF H o A S rn lv av m ni) (hl : H A.l = some (.lst (bs.map V.ref))) (hk : Ks H bs S.done) (hb : isK H b k) (hm : bs.length ≤ m) : Kh Vx CK CR aF (upd H A.l (.lst (bs.map V.ref ++ [V.ref b]))) o A { S with done := S.done ++ [k] } rn lv av (m + 1) ni := by
  have st : ∀ {c u}, H c = some u → Kob u → upd H A.l (.lst (bs.map V.ref ++ [V.ref b])) c = some u := fun e' n => by
    rw [upd_ne (fun z => by rw [z, hl] at e'; injection e' with e'; rw [← e'] at n; exact n)]
    exact e'
  have ft : FT H (upd H A.l (.lst (bs.map V.ref ++ [V.ref b]))) := fun _ _ e => st e trivial
  have fd : ∀ d kvs, H d = some (.dT kvs) → upd H A.l (.lst (bs.map V.ref ++ [V.ref b])) d = some (.dT kvs) := fun _ _ e => st e trivial
  refine ⟨?_, h.inp.keep ft (fd _), h.ent.keep ft (fd _) (Nat.le_succ _), h.run.keep (fd _) (Nat.le_succ _), h.live.keep (fun _ _ _ e => st e trivial), ⟨bs ++ [b], by rw [List.map_append]; exact upd_same, by rw [List.length_append, List.length_singleton]; omega, (hk.snoc hb).keep ft⟩, h.d1, h.d2, h.d3, h.ck⟩
  obtain ⟨dx, a⟩ := h.raw
  exact ⟨dx, st a trivial⟩
/-- a run ends: the keys that it brought are not live any more -/
theorem Kh.stop {ps : List Ky} {pr dx : Addr} (h : Kh Vx CK CR aF H o A S rn (lv ++ ps) av m ni) (hp : H pr = some (.ins CR dx [("live", .bl true)])) (h1 : ∀ k ∈ ps, rn k = some pr) (h2 : ∀ k ∈ lv, rn k ≠ some pr) : Kh Vx CK CR aF (upd H pr (.ins CR dx [("live", .bl false)])) o A S rn lv av m ni := by
  have st : ∀ {b u}, H b = some u → (∀ dx fs, u ≠ .ins CR dx fs) → upd H pr (.ins CR dx [("live", .bl false)]) b = some u := fun e' n => by
    rw [upd_ne (fun z => by rw [z, hp] at e'; injection e' with e'; exact n _ _ e'.symm)]
    exact e'
  have ft : FT H (upd H pr (.ins CR dx [("live", .bl false)])) := fun b xs e' => st e' fun _ _ z => nomatch z
  have fd : ∀ d kvs, H d = some (.dT kvs) → upd H pr (.ins CR dx [("live", .bl false)]) d = some (.dT kvs) := fun _ _ e => st e fun _ _ z => nomatch z
  refine ⟨?_, h.inp.keep ft (fd _), h.ent.keep ft (fd _) (Nat.le_refl _), h.run.keep (fd _) (Nat.le_refl _), ?_, h.ended.keep ft (fun _ e => st e fun _ _ z => nomatch z) (Nat.le_refl _), h.d1, h.d2, h.d3, h.ck⟩
  · obtain ⟨dx, a⟩ := h.raw
    exact ⟨dx, st a fun _ _ z => by injection z with z; exact h.ck z⟩
  · refine fun j => ⟨fun hl => ?_, fun hl q hq => ?_⟩
    · obtain ⟨p', dx', a, c⟩ := (h.live j).1 (List.mem_append.mpr (.inl hl))
      exact ⟨p', dx', a, by rw [upd_ne (fun z => h2 j hl (by rw [a, z]))]; exact c⟩
    · have dec : (j ∈ ps) ∨ (j ∉ ps) := Classical.em _
      rcases dec with hj | hj
      · have e := h1 j hj
        rw [e] at hq
        cases hq
        exact ⟨dx, upd_same⟩
      · obtain ⟨dx', c⟩ := (h.live j).2 (fun z => (List.mem_append.mp z).elim hl hj) q hq
        refine ⟨dx', ?_⟩
        rw [upd_ne (fun z => by rw [z, hp] at c; injection c with c; injection c with _ _ c; exact absurd c (by decide))]
        exact c
theorem Kh.other {d : Addr} {kvs k2 : List (List L2.Key × V)} (h : Kh Vx CK CR aF H o A S rn lv av m ni) (hd : H d = some (.dT kvs)) (n1 : d ≠ A.i) (n2 : d ≠ A.e) (n3 : d ≠ A.r) : Kh Vx CK CR aF (upd H d (.dT k2)) o A S rn lv av m ni := by
  have ft : FT H (upd H d (.dT k2)) := upd_ft hd
  obtain ⟨dx, a⟩ := h.raw
  exact ⟨⟨dx, upd_st hd a fun _ z => nomatch z⟩, h.inp.keep ft (upd_fd n1.symm), h.ent.keep ft (upd_fd n2.symm) (Nat.le_refl _), h.run.keep (upd_fd n3.symm) (Nat.le_refl _), h.live.keep (fun _ _ _ e => upd_st hd e fun _ z => nomatch z), h.ended.keep ft (fun _ e => upd_st hd e fun _ z => nomatch z) (Nat.le_refl _), h.d1, h.d2, h.d3, h.ck⟩
/-- a frame for what an ask changes -/
def Fr (o : Addr) (A : KAd) (av : V) (H H' : Hp) : Prop := ∀ b u, H b = some u → b ≠ o → b ≠ A.e → b ≠ A.r → b ≠ A.l → V.ref b ≠ av → H' b = some u
end

end Sn

namespace Sn
open PySem PySem.Spec PyProof.Rows L2 TL
/-! ### the keeper's small methods -/
def spRunI (CR : Addr) : Sp := fun vs H Q _ => ∃ p dx, vs = [.ref p] ∧ H p = some (.ins CR dx []) ∧ Q .non (upd H p (.ins CR dx [("live", .bl true)]))
section
variable {α : Type} [DecidableEq α] (Vx : Vl α)
def KS0 : KS α := ⟨0, none, fun _ => none, fun _ => none, []⟩
def spKI (CK CR aF : Addr) : Sp := fun vs H Q _ => ∃ p dx, vs = [.ref p, .ref aF] ∧ CK ≠ CR ∧ H p = some (.ins CK dx []) ∧ ∀ H' A, (∀ b u, H b = some u → b ≠ p → H' b = some u) → H A.i = none → H A.e = none → H A.r = none → H A.l = none →
  Kh Vx CK CR aF H' p A KS0 (fun _ => none) [] .non 0 0 → Q .non H'
def spIC (CK CR aF : Addr) : Sp := fun vs H Q _ => ∃ o b A S rn lv av m ni k, vs = [.ref o, .ref b] ∧ Kh Vx CK CR aF H o A S rn lv av m ni ∧ isK H b k ∧ Q (.bl (chkB S k)) H
def spCh (CK CR aF : Addr) : Sp := fun vs H Q _ => ∃ o b A S rn lv av m ni k g, vs = [.ref o, .ref b] ∧ Kh Vx CK CR aF H o A S rn lv av m ni ∧ isK H b k ∧ S.chg k = some g ∧ Q (.int ((g : Nat) : Int)) H
def spBeg (CK CR CC aF : Addr) : Sp := fun vs H Q E => ∃ o A S rn lv av m ni, vs = [.ref o] ∧ Kh Vx CK CR aF H o A S rn lv av m ni ∧ (S.left = some 0 → E (.ref CC) none H) ∧
  (S.left ≠ some 0 → ∀ H' d, H d = none → But o H H' → H' d = some (.dT []) → Kh Vx CK CR aF H' o A S.dec rn lv (.ref d) m ni → Q .non H')
def spEnt (CK CR aF : Addr) : Sp := fun vs H Q E => ∃ o b pr dx A S rn lv av m ni k, vs = [.ref o, .ref b, .ref pr] ∧ Kh Vx CK CR aF H o A S rn lv av m ni ∧ isK H b k ∧ H pr = some (.ins CR dx [("live", .bl true)]) ∧ m < 16000000 ∧ k ∉ lv ∧
  ∀ H' st, (∀ b u, H b = some u → b ≠ A.r → H' b = some u) → H st = none → H' st = some (.lst [.ref b, .int 0]) → Kh Vx CK CR aF H' o A S (ups rn k pr) (lv ++ [k]) av (m + 1) ni → Q (.ref st) H'
end
theorem at_nat {xs : List V} {v : V} {i : Nat} (h : xs[i]? = some v) : atI xs (i : Int) = some v := at_of rfl h
theorem iteT' {c : Bool} {A B : Prop} (hc : c = true) (h : A) : if c = true then A else B := by
  rw [if_pos hc]
  exact h
theorem iteF' {c : Bool} {A B : Prop} (hc : c = false) (h : B) : if c = true then A else B := by
  rw [if_neg (by rw [hc]; decide)]
  exact h
theorem dec_nat {a b : Nat} : (decide (V.int (a : Int) = V.int (b : Int))) = decide (a = b) := by
  by_cases z : a = b
  · rw [decide_eq_true z, decide_eq_true (by rw [z])]
  · rw [decide_eq_false z, decide_eq_false (fun y => z (by injection y with y; omega))]
section
variable {α : Type} [DecidableEq α] {Vx : Vl α}
variable {P : Program} {w : World} {K : PySem.W.Frag} {mg : Str → Option Value} {base : Heap} {f : Addr} {fd : FuncData} {CK CR CC aF : Addr}
abbrev s_Run_init : Stmt := inClass (topS 95) 0
abbrev N_Run_init : List Str := ["self"]
theorem sc_Run_init : FnScope N_Run_init ["self"] (defScope s_Run_init) := ⟨rfl, rfl, rfl, by decide +kernel, rfl, by decide +kernel, by decide +kernel⟩
theorem ok_Run_init (F : Fun K "__init__" "Run.__init__" s_Run_init f fd) (T : NmK K mg aF CK CR CC) : FnOk P w K mg base CX0 1 f fd ["self"] (spRunI CR) := by
  refine F.ok sc_Run_init (fun vs H Q E h => ?_) (fun cdv A outer s H vs Q E hr h => ?_)
  · obtain ⟨p, dx, rfl, _⟩ := h
    rfl
  obtain ⟨p, dx, rfl, hp, q⟩ := h
  refine ⟨_, (pss_one (ps_fld (pv 0) pe_bl rfl)), ?_⟩
  exact ⟨_, rfl, p, CR, dx, _, rfl, hp, T.cl_Run, T.n_live, by decide, q⟩
abbrev s_K_is_checked : Stmt := inClass (topS 96) 12
abbrev N_K_is_checked : List Str := ["self", "key"]
theorem sc_K_is_checked : FnScope N_K_is_checked ["self", "key"] (defScope s_K_is_checked) := ⟨rfl, rfl, rfl, by decide +kernel, rfl, by decide +kernel, by decide +kernel⟩
theorem ok_is_checked (F : Fun K "_is_checked" "Keeper._is_checked" s_K_is_checked f fd) (T : NmK K mg aF CK CR CC) : FnOk P w K mg base CX0 1 f fd ["self", "key"] (spIC Vx CK CR aF) := by
  refine F.ok sc_K_is_checked (fun vs H Q E h => ?_) (fun cdv A outer s H vs Q E hr h => ?_)
  · obtain ⟨o, b, A, S, rn, lv, av, m, ni, k, rfl, _⟩ := h
    rfl
  obtain ⟨o, b, A, S, rn, lv, av, m, ni, k, rfl, kh, hb, q⟩ := h
  refine ⟨_, (pss_one (ps_ret (pe_and (pe_cmp (pc_din (hu_of hr) (pv 1) (pe_k_entries T (pv 0))) rfl) (pe_one (pe_cmpR op_eq (pe_ix (r := rIxT K) ix_tup (pe_dget (hu_of hr) (pe_k_entries T (pv 0)) (pv 1) (fun _ _ => rfl)) pe_int (fun _ _ => rfl)) (pe_k_now T (pv 0)) (nomark _)))))), ?_⟩
  unfold chkB at q
  obtain ⟨kvs, he, _, hs⟩ := kh.ent
  refine ⟨_, rfl, _, rfl, o, _, rfl, kh.raw, A.e, _, rfl, DGet.t he hb, ?_⟩
  rcases hs k with ⟨h1, h2⟩ | ⟨p, e, h1, h2, v, qq, bs, h3, _⟩
  · rw [h1]
    rw [h2] at q
    exact ⟨_, rfl, iteF q⟩
  · rw [h1]
    rw [h2] at q
    refine ⟨_, rfl, iteT ?_⟩
    refine ⟨_, rfl, o, _, rfl, kh.raw, _, rfl, A.e, _, rfl, ?_, p, _, _, _, rfl, rfl, .inl (.inl h3), at_nat (i := 2) rfl, _, rfl, o, _, rfl, kh.raw, rfl, ?_⟩
    · rw [← h1]
      exact DGet.t he hb
    show Q (.bl (decide (V.int (e.c : Int) = V.int (S.now : Int)))) H
    rw [dec_nat]
    exact q
abbrev s_K_changed : Stmt := inClass (topS 96) 13
abbrev N_K_changed : List Str := ["self", "key"]
theorem sc_K_changed : FnScope N_K_changed ["self", "key"] (defScope s_K_changed) := ⟨rfl, rfl, rfl, by decide +kernel, rfl, by decide +kernel, by decide +kernel⟩
theorem ok_changed (F : Fun K "_changed" "Keeper._changed" s_K_changed f fd) (T : NmK K mg aF CK CR CC) : FnOk P w K mg base CX0 1 f fd ["self", "key"] (spCh Vx CK CR aF) := by
  refine F.ok sc_K_changed (fun vs H Q E h => ?_) (fun cdv A outer s H vs Q E hr h => ?_)
  · obtain ⟨o, b, A, S, rn, lv, av, m, ni, k, g, rfl, _⟩ := h
    rfl
  obtain ⟨o, b, A, S, rn, lv, av, m, ni, k, g, rfl, kh, hb, hg, q⟩ := h
  refine ⟨_, (pss_cons (ps_if (pt_cmp (pc_din (hu_of hr) (pv 1) (pe_k_inputs T (pv 0)))) (pss_one (ps_ret (pe_ix (r := rIxT K) ix_tup (pe_dget (hu_of hr) (pe_k_inputs T (pv 0)) (pv 1) (fun _ _ => rfl)) pe_int (fun _ _ => rfl)))) pss_nil)
    (pss_one (ps_ret (pe_ix (r := rIxT K) ix_tup (pe_dget (hu_of hr) (pe_k_entries T (pv 0)) (pv 1) (fun _ _ => rfl)) pe_int (fun _ _ => rfl))))), ?_⟩
  unfold KS.chg at hg
  obtain ⟨kvi, hi, _, his⟩ := kh.inp
  obtain ⟨kvs, he, _, hs⟩ := kh.ent
  rcases his k with ⟨h1, h2⟩ | ⟨p, v, a, r, h1, h2, h3, _⟩
  · rw [h2] at hg
    have dn : DGet H A.i (.ref b) none := by
      rw [← h1]
      exact DGet.t hi hb
    rcases hs k with ⟨_, h4⟩ | ⟨p, e, h4, h5, v, qq, bs, h3, _⟩
    · rw [h4] at hg
      cases hg
    rw [h5] at hg
    injection hg with hg
    subst hg
    have dg : DGet H A.e (.ref b) (some (.ref p)) := by
      rw [← h4]
      exact DGet.t he hb
    refine ⟨_, rfl, _, rfl, o, _, rfl, kh.raw, A.i, _, rfl, dn, _, rfl, iteF ?_⟩
    exact ⟨_, rfl, o, _, rfl, kh.raw, _, rfl, A.e, _, rfl, dg, p, _, _, _, rfl, rfl, .inl (.inl h3), at_nat (i := 3) rfl, q⟩
  · rw [h2] at hg
    injection hg with hg
    subst hg
    have dg : DGet H A.i (.ref b) (some (.ref p)) := by
      rw [← h1]
      exact DGet.t hi hb
    refine ⟨_, rfl, _, rfl, o, _, rfl, kh.raw, A.i, _, rfl, dg, _, rfl, iteT ?_⟩
    exact ⟨_, rfl, o, _, rfl, kh.raw, _, rfl, A.i, _, rfl, dg, p, _, _, _, rfl, rfl, .inl (.inl h3), at_nat (i := 1) rfl, q⟩
abbrev s_K_begin : Stmt := inClass (topS 96) 14
abbrev N_K_begin : List Str := ["self"]
theorem sc_K_begin : FnScope N_K_begin ["self"] (defScope s_K_begin) := ⟨rfl, rfl, rfl, by decide +kernel, rfl, by decide +kernel, by decide +kernel⟩
theorem ok_begin (F : Fun K "_begin" "Keeper._begin" s_K_begin f fd) (T : NmK K mg aF CK CR CC) : FnOk P w K mg base (L2.CX P w) 1 f fd ["self"] (spBeg Vx CK CR CC aF) := by
  refine F.okX sc_K_begin (fun vs H Q E h => ?_) (fun cdv A outer s H vs Q E hr h => ?_)
  · obtain ⟨o, A, S, rn, lv, av, m, ni, rfl, _⟩ := h
    rfl
  obtain ⟨o, A, S, rn, lv, av, m, ni, rfl, kh, qe, q⟩ := h
  refine ⟨_, (pss_cons (ps_if (pt_cmpR op_eq (pe_k_left T (pv 0)) pe_int (nomark _)) (pss_one (ps_raise rfl (takes_of rfl rfl rfl rfl) (pmk_own PySem.F.excBase_ValueError T.xI T.c_Cancelled T.kI (raises_own T.bI T.tI) rfl))) pss_nil)
    (C8.pss_cut (ps_if (pt_cmpR op_notN (pe_k_left T (pv 0)) pe_non (nomark _)) (pss_one (ps_ka_left T (pv 0) pe_int in_sub)) pss_nil)
    (pss_one (ps_k_asked T (pv 0) pe_dnewT)))), ?_⟩
  obtain ⟨dx, eo⟩ := kh.raw
  have fin : ∀ (H1 : Hp) (S1 : KS α), But o H H1 → (∀ b, H1 b = none → H b = none) → Kh Vx CK CR aF H1 o A S1 rn lv av m ni → S1 = S.dec → S.left ≠ some 0 → ∀ d, H1 d = none → KRaw CK (upd H1 d (.dT [])) o (kfo aF A S1 av) ∧ ∀ H', But o (upd H1 d (.dT [])) H' → KRaw CK H' o { kfo aF A S1 av with asked := .ref d } → Q .non H' := fun H1 S1 b1 n1 k1 e1 hl d nd => by
    have s1 : Same H1 (upd H1 d (.dT [])) := same_new nd
    refine ⟨(k1.same s1).raw, fun H' b2 r2 => ?_⟩
    subst e1
    have kk := (k1.same s1).ask b2 r2
    obtain ⟨dx1, eo1⟩ := k1.raw
    exact q hl H' d (n1 d nd) ((b1.trans (But.of s1)).trans b2) (b2 _ _ (fun z => by rw [z, eo1] at nd; cases nd) upd_same) kk
  cases hl : S.left with
  | none =>
    refine ⟨_, rfl, o, _, rfl, kh.raw, (by show scal (lfV S.left) (V.int 0) = true; rw [hl]; rfl), _, rfl, ?_⟩
    show if decide (lfV S.left = V.int 0) = true then _ else _
    refine iteN (fun z => by rw [hl] at z; cases z) ?_
    refine ⟨fun σ H1 => σ = [some (.ref o)] ∧ H1 = H, ?_, ?_⟩
    · refine ⟨_, rfl, o, _, rfl, kh.raw, rfl, _, rfl, ?_⟩
      show if _ = true then _ else _
      refine iteF' (by show (!decide (lfV S.left = V.non)) = false; rw [hl]; rfl) ?_
      exact ⟨rfl, rfl⟩
    rintro σ H1 ⟨rfl, rfl⟩
    intro d nd
    have e1 : S = S.dec := by
      unfold KS.dec
      rw [hl]
      cases S
      cases hl
      rfl
    obtain ⟨r1, f1⟩ := fin H1 S (But.refl _ _) (fun _ z => z) kh e1 (by rw [hl]; exact fun z => nomatch z) d nd
    exact ⟨_, rfl, o, _, rfl, r1, fun H' b1 _ r2 => f1 H' b1 r2⟩
  | some n =>
    by_cases hn : n = 0
    · subst hn
      refine ⟨_, rfl, o, _, rfl, kh.raw, (by show scal (lfV S.left) (V.int 0) = true; rw [hl]; rfl), _, rfl, ?_⟩
      show if decide (lfV S.left = V.int 0) = true then _ else _
      exact iteP (by rw [hl]; rfl) (qe hl)
    · refine ⟨_, rfl, o, _, rfl, kh.raw, (by show scal (lfV S.left) (V.int 0) = true; rw [hl]; rfl), _, rfl, ?_⟩
      show if decide (lfV S.left = V.int 0) = true then _ else _
      refine iteN (fun z => by rw [hl] at z; injection z with z; exact hn (Int.ofNat.inj z)) ?_
      refine ⟨fun σ H1 => σ = [some (.ref o)] ∧ But o H H1 ∧ (∀ b, H1 b = none → H b = none) ∧ Kh Vx CK CR aF H1 o A S.dec rn lv av m ni, ?_, ?_⟩
      · refine ⟨_, rfl, o, _, rfl, kh.raw, rfl, _, rfl, ?_⟩
        show if _ = true then _ else _
        refine iteT' (by show (!decide (lfV S.left = V.non)) = true; rw [hl]; rfl) ?_
        refine ⟨_, rfl, o, _, (n : Int), rfl, kh.raw, (by show lfV S.left = _; rw [hl]; rfl), fun H1 b1 n1 r1 => ⟨rfl, b1, fun c hc => ?_, ?_⟩⟩
        · cases y : H c with
          | none => rfl
          | some u =>
            by_cases z : c = o
            · obtain ⟨dx1, eo1⟩ := r1
              rw [z, eo1] at hc
              cases hc
            · rw [b1 _ _ z y] at hc
              cases hc
        · refine kh.self b1 ?_ rfl rfl rfl
          have e : kfo aF A S.dec av = { kfo aF A S av with left := .int ((n : Int) - 1) } := by
            unfold kfo KS.dec
            rw [hl]
            show (⟨_, _, V.int ((n - 1 : Nat) : Int), _, _, _, _, _⟩ : KF) = _
            rw [show ((n - 1 : Nat) : Int) = (n : Int) - 1 by omega]
          rw [e]
          exact r1
      rintro σ H1 ⟨rfl, b1, n1, k1⟩
      intro d nd
      obtain ⟨r1, f1⟩ := fin H1 S.dec b1 n1 k1 rfl (by rw [hl]; exact fun z => hn (by injection z)) d nd
      exact ⟨_, rfl, o, _, rfl, r1, fun H' b1 _ r2 => f1 H' b1 r2⟩
abbrev s_K_entered : Stmt := inClass (topS 96) 10
abbrev N_K_entered : List Str := ["self", "key", "run"]
theorem sc_K_entered : FnScope N_K_entered ["self", "key", "run"] (defScope s_K_entered) := ⟨rfl, rfl, rfl, by decide +kernel, rfl, by decide +kernel, by decide +kernel⟩
theorem ok_entered (F : Fun K "_entered" "Keeper._entered" s_K_entered f fd) (T : NmK K mg aF CK CR CC) : FnOk P w K mg base CX0 1 f fd ["self", "key", "run"] (spEnt Vx CK CR aF) := by
  refine F.ok sc_K_entered (fun vs H Q E h => ?_) (fun cdv A outer s H vs Q E hr h => ?_)
  · obtain ⟨o, b, pr, dx, A, S, rn, lv, av, m, ni, k, rfl, _⟩ := h
    rfl
  obtain ⟨o, b, pr, dx, A, S, rn, lv, av, m, ni, k, rfl, kh, hb, hp, hm, hk, q⟩ := h
  refine ⟨_, (pss_cons (ps_if (PW.pt (pw_and (pt_cmp (pc_din (hu_of hr) (pv 1) (pe_k_runs T (pv 0)))) (pw_and1 (pt_val (pe_fld (pe_dget (hu_of hr) (pe_k_runs T (pv 0)) (pv 1) (fun _ _ => rfl)) rfl))))) (pss_one ps_never) pss_nil)
    (pss_cons (ps_dput (hu_of hr) (pe_k_runs T (pv 0)) (pv 1) (pv 2) rfl)
    (pss_one (ps_ret (pe_lst (pa_cons (pv 1) (pa_cons pe_int pa_nil))))))), ?_⟩
  obtain ⟨kvs, he, hlen, hs⟩ := kh.run
  have dg : DGet H A.r (.ref b) ((rn k).map V.ref) := by
    rw [← hs k]
    exact DGet.t he hb
  have fin : ∀ st, upd H A.r (.dT (putK kvs k (.ref pr))) st = none → Q (.ref st) (upd (upd H A.r (.dT (putK kvs k (.ref pr)))) st (.lst [.ref b, .int 0])) := fun st ns => by
    have k1 := kh.put_run (k := k) he hp
    have s1 : Same (upd H A.r (.dT (putK kvs k (.ref pr)))) (upd (upd H A.r (.dT (putK kvs k (.ref pr)))) st (.lst [.ref b, .int 0])) := same_new ns
    have ne : st ≠ A.r := fun z => by rw [z, upd_same] at ns; cases ns
    rw [upd_ne ne] at ns
    exact q _ st (fun c u e n => s1 _ _ (by rw [upd_ne n]; exact e)) ns upd_same (k1.same s1)
  refine ⟨_, rfl, _, rfl, o, _, rfl, kh.raw, A.r, _, rfl, dg, _, rfl, ?_⟩
  cases hr1 : rn k with
  | none =>
    refine iteF ?_
    refine ⟨_, rfl, _, rfl, o, _, rfl, kh.raw, _, rfl, A.r, _, rfl, DPut.t he hb (Nat.lt_of_le_of_lt hlen (by show m < 16777216; omega)), ?_⟩
    exact ⟨_, rfl, by show 2 ≤ sizeLine; decide, fin⟩
  | some p =>
    refine iteT ?_
    rw [hr1] at dg
    obtain ⟨dx', c⟩ := (kh.live k).2 hk p hr1
    refine ⟨_, rfl, o, _, rfl, kh.raw, _, rfl, A.r, _, rfl, dg, p, CR, dx', _, _, rfl, c, T.cl_Run, T.n_live, rfl, _, rfl, iteF ?_⟩
    refine ⟨_, rfl, _, rfl, o, _, rfl, kh.raw, _, rfl, A.r, _, rfl, DPut.t he hb (Nat.lt_of_le_of_lt hlen (by show m < 16777216; omega)), ?_⟩
    exact ⟨_, rfl, by show 2 ≤ sizeLine; decide, fin⟩
end

end Sn

namespace Sn
open PySem PySem.Spec PyProof.Rows L2 TL
/-! ### inputs; the keeper is made; limits; what was computed -/
section
variable {α : Type} [DecidableEq α] (Vx : Vl α)
def KS.put (S : KS α) (k : Ky) (v : α) : KS α := match S.inp k with
  | some (a, r) => if a = v then { S with inp := ups S.inp k (v, r), en := del S.en k } else { S with now := S.now + 1, inp := ups S.inp k (v, S.now + 1), en := del S.en k }
  | none => { S with now := S.now + 1, inp := ups S.inp k (v, S.now + 1), en := del S.en k }
def spPut (CK CR aF : Addr) : Sp := fun vs H Q _ => ∃ o b A S rn lv av m ni k vv v, vs = [.ref o, .ref b, vv] ∧ Kh Vx CK CR aF H o A S rn lv av m ni ∧ isK H b k ∧ Vx.rp H vv v ∧ ni < 1000000 ∧
  ∀ H', (∀ b u, H b = some u → b ≠ o → b ≠ A.i → b ≠ A.e → H' b = some u) → Kh Vx CK CR aF H' o A (S.put k v) rn lv av m (ni + 1) → Q .non H'
def spLim (CK CR aF : Addr) : Sp := fun vs H Q _ => ∃ o A S rn lv av m ni l, vs = [.ref o, lfV l] ∧ Kh Vx CK CR aF H o A S rn lv av m ni ∧
  ∀ H', But o H H' → Kh Vx CK CR aF H' o A { S with left := l } rn lv av m ni → Q .non H'
def spFor (CK CR aF : Addr) : Sp := fun vs H Q _ => ∃ o b A S rn lv av m ni k, vs = [.ref o, .ref b] ∧ Kh Vx CK CR aF H o A S rn lv av m ni ∧ isK H b k ∧
  ∀ H', But A.e H H' → Kh Vx CK CR aF H' o A { S with en := del S.en k } rn lv av m ni → Q .non H'
def spCom (CK CR aF : Addr) : Sp := fun vs H Q _ => ∃ o A S rn lv av m ni, vs = [.ref o] ∧ Kh Vx CK CR aF H o A S rn lv av m ni ∧
  ∀ H' l' bs, But o H H' → H l' = none → Kh Vx CK CR aF H' o { A with l := l' } { S with done := [] } rn lv av m ni → H' A.l = some (.lst (bs.map V.ref)) → Ks H' bs S.done → Q (.ref A.l) H'
end
theorem del_none {β : Type} {f : Ky → Option β} {k : Ky} (h : f k = none) : del f k = f := by
  funext j
  unfold del
  by_cases c : j = k
  · rw [if_pos c, c, h]
  · rw [if_neg c]
section
variable {α : Type} [DecidableEq α] {Vx : Vl α}
variable {P : Program} {w : World} {K : PySem.W.Frag} {mg : Str → Option Value} {base : Heap} {f : Addr} {fd : FuncData} {CK CR CC aF : Addr}
/-- an entry is dropped -/
theorem Kh.pop {H : Hp} {o : Addr} {A : KAd} {S : KS α} {rn : Ky → Option Addr} {lv : List Ky} {av : V} {m ni : Nat} {kve : List (List L2.Key × V)} {k : Ky} (kh : Kh Vx CK CR aF H o A S rn lv av m ni) (he : H A.e = some (.dT kve)) {Q : V → Hp → Prop}
    (q : ∀ v H', But A.e H H' → Kh Vx CK CR aF H' o A { S with en := del S.en k } rn lv av m ni → Q v H') : (∀ v, valV kve k = some v → Q v (upd H A.e (.dT (dropK kve k)))) ∧ (valV kve k = none → Q .non H) := by
  refine ⟨fun v _ => q v _ (But.refl _ _).upd (kh.drop_ent he), fun hn => q _ _ (But.refl _ _) ?_⟩
  obtain ⟨kv, x1, x2, x3⟩ := kh.ent
  rw [he] at x1
  cases x1
  have e : S.en k = none := by
    rcases x3 k with ⟨_, y⟩ | ⟨p, e, y, _⟩
    · exact y
    · rw [hn] at y
      cases y
  have e2 : ({ S with en := del S.en k } : KS α) = S := by rw [del_none e]
  rw [e2]
  exact kh
abbrev s_K_put : Stmt := inClass (topS 96) 1
abbrev N_K_put : List Str := ["self", "key", "value"]
theorem sc_K_put : FnScope N_K_put ["self", "key", "value"] (defScope s_K_put) := ⟨rfl, rfl, rfl, by decide +kernel, rfl, by decide +kernel, by decide +kernel⟩
theorem ok_put (F : Fun K "put" "Keeper.put" s_K_put f fd) (T : NmK K mg aF CK CR CC) : FnOk P w K mg base CX0 1 f fd ["self", "key", "value"] (spPut Vx CK CR aF) := by
  refine F.ok sc_K_put (fun vs H Q E h => ?_) (fun cdv A outer s H vs Q E hr h => ?_)
  · obtain ⟨o, b, A, S, rn, lv, av, m, ni, k, vv, v, rfl, _⟩ := h
    rfl
  obtain ⟨o, b, A, S, rn, lv, av, m, ni, k, vv, v, rfl, kh, hb, hv, hni, q⟩ := h
  refine ⟨_, (pss_cons (ps_expr (pe_bm PySem.F.plainAttrs_dict PySem.F.slot_dict_pop PySem.F.type_dict_pop (L2.DX.mt_popT (hu_of hr)) (pe_k_entries T (pv 0)) (pa_cons (pv 1) (pa_cons pe_non pa_nil))))
    (C8.pss_cut (ps_if (PW.pt (pw_and (pt_cmp (pc_din (hu_of hr) (pv 1) (pe_k_inputs T (pv 0)))) (pw_and1 (pt_cmpR (op_eqD hr.units) (pe_ix (r := rIxT K) ix_tup (pe_dget (hu_of hr) (pe_k_inputs T (pv 0)) (pv 1) (fun _ _ => rfl)) pe_int (fun _ _ => rfl)) (pv 2) (nomark _))))) (pss_cons (ps_dput (hu_of hr) (pe_k_inputs T (pv 0)) (pv 1) (pe_tup (pa_cons (pv 2) (pa_cons (pe_ix (r := rIxT K) ix_tup (pe_dget (hu_of hr) (pe_k_inputs T (pv 0)) (pv 1) (fun _ _ => rfl)) pe_int (fun _ _ => rfl)) pa_nil))) rfl)
    (pss_one ps_retN)) pss_nil)
    (pss_cons (ps_ka_now T (pv 0) pe_int in_add)
    (pss_one (ps_dput (hu_of hr) (pe_k_inputs T (pv 0)) (pv 1) (pe_tup (pa_cons (pv 2) (pa_cons (pe_k_now T (pv 0)) pa_nil))) rfl))))), ?_⟩
  obtain ⟨kve, he, _⟩ := kh.ent
  refine ⟨_, rfl, o, _, rfl, kh.raw, .inr (.inr (.inl ⟨rfl, .inr ⟨_, he⟩⟩)), _, rfl, A.e, kve, k, b, .non, rfl, rfl, he, hb, kh.pop he fun _ H1 b1 k1 => ?_⟩
  have hb1 : isK H1 b k := b1 _ _ (fun z => by have w : H b = some (.tup (k.map kV)) := hb; rw [z, he] at w; cases w) hb
  have hv1 : Vx.rp H1 vv v := Vx.keep (fun c xs z => b1 _ _ (fun y => by rw [y, he] at z; cases z) z) hv
  obtain ⟨kvi, hki, hlen, his⟩ := k1.inp
  have dgi := DGet.t hki hb1
  have hlt : kvi.length < sizeLine := Nat.lt_of_le_of_lt hlen (by show ni < 16777216; omega)
  refine ⟨fun σ H' => H' = H1 ∧ σ = [some (.ref o), some (.ref b), some vv] ∧ S.put k v = { S with now := S.now + 1, inp := ups S.inp k (v, S.now + 1), en := del S.en k }, ?_, ?_⟩
  · refine ⟨_, rfl, _, rfl, o, _, rfl, k1.raw, A.i, _, rfl, dgi, _, rfl, ?_⟩
    rcases his k with ⟨h1, h2⟩ | ⟨p, vg, g, r, h1, h2, h3, h4⟩
    · rw [h1]
      have h2 : S.inp k = none := h2
      exact iteF ⟨rfl, rfl, by unfold KS.put; rw [h2]⟩
    · have h2 : S.inp k = some (g, r) := h2
      rw [h1] at dgi ⊢
      refine iteT ?_
      refine ⟨_, rfl, o, _, rfl, k1.raw, _, rfl, A.i, _, rfl, dgi, p, _, _, _, rfl, rfl, .inl (.inl h3), at_nat (i := 0) rfl, _, rfl, _, _, Vx.dp h4, Vx.dp hv1, Vx.sh _, Vx.sh _, _, rfl, ?_⟩
      rw [Vx.eq]
      by_cases z : g = v
      · subst z
        refine iteP rfl ?_
        refine ⟨_, rfl, _, rfl, o, _, rfl, k1.raw, _, rfl, A.i, _, rfl, dgi, p, _, _, _, rfl, rfl, .inl (.inl h3), at_nat (i := 1) rfl, by show 2 ≤ sizeLine; decide, fun p2 np => ?_⟩
        have s2 := same_new (o := .tup [vv, .int ((r : Nat) : Int)]) np
        have k2 := k1.same s2
        have hp2 : upd H1 p2 (.tup [vv, .int ((r : Nat) : Int)]) p2 = some (.tup [vv, .int ((r : Nat) : Int)]) := upd_same
        have hki2 := s2 _ _ hki
        have k3 := k2.put_inp (k := k) hki2 hp2 (Vx.keep (fun _ _ z => s2 _ _ z) hv1)
        refine ⟨_, rfl, o, _, rfl, k2.raw, _, rfl, A.i, _, rfl, DPut.t hki2 (s2 _ _ hb1) hlt, ?_⟩
        have e3 : S.put k g = { S with inp := ups S.inp k (g, r), en := del S.en k } := by unfold KS.put; rw [h2]; exact if_pos rfl
        refine q _ (fun c u e y1 y2 y3 => by rw [upd_ne y2]; exact s2 _ _ (b1 _ _ y3 e)) ?_
        rw [e3]
        exact k3
      · exact iteN z ⟨rfl, rfl, by unfold KS.put; rw [h2]; exact if_neg z⟩
  rintro σ H' ⟨rfl, rfl, e3⟩
  refine ⟨_, rfl, o, _, (S.now : Int), rfl, k1.raw, rfl, fun H2 b2 r2 => ?_⟩
  have k2 : Kh Vx CK CR aF H2 o A { S with now := S.now + 1, en := del S.en k } rn lv av m ni := k1.self b2 r2 rfl rfl rfl
  obtain ⟨_, eo⟩ := k1.raw
  have hki2 := b2 _ _ (fun z => by rw [z, eo] at hki; cases hki) hki
  have hb2 : isK H2 b k := b2 _ _ (fun z => by have w : H' b = some (.tup (k.map kV)) := hb1; rw [z, eo] at w; cases w) hb1
  have hv2 : Vx.rp H2 vv v := Vx.keep (fun c xs z => b2 _ _ (fun y => by rw [y, eo] at z; cases z) z) hv1
  refine ⟨_, rfl, _, rfl, o, _, rfl, k2.raw, by show 2 ≤ sizeLine; decide, fun p2 np => ?_⟩
  have s2 := same_new (o := .tup [vv, (kfo aF A { S with now := S.now + 1, en := del S.en k } av).now]) np
  have k3 := k2.same s2
  have hp2 : upd H2 p2 (.tup [vv, (kfo aF A { S with now := S.now + 1, en := del S.en k } av).now]) p2 = some (.tup [vv, .int ((S.now + 1 : Nat) : Int)]) := upd_same
  have hki3 := s2 _ _ hki2
  have hb3 : isK _ b k := s2 _ _ hb2
  have hv3 := Vx.keep (fun _ _ z => s2 _ _ z) hv2
  generalize upd H2 p2 (.tup [vv, (kfo aF A { S with now := S.now + 1, en := del S.en k } av).now]) = H3 at s2 k3 hp2 hki3 hb3 hv3 ⊢
  have k4 := k3.put_inp (k := k) hki3 hp2 hv3
  refine ⟨_, rfl, o, _, rfl, k3.raw, _, rfl, A.i, _, rfl, DPut.t hki3 hb3 hlt, ?_⟩
  refine q _ (fun c u e y1 y2 y3 => by rw [upd_ne y2]; exact s2 _ _ (b2 _ _ y1 (b1 _ _ y3 e))) ?_
  rw [e3]
  exact k4
abbrev s_K_forget : Stmt := inClass (topS 96) 4
abbrev N_K_forget : List Str := ["self", "key"]
theorem sc_K_forget : FnScope N_K_forget ["self", "key"] (defScope s_K_forget) := ⟨rfl, rfl, rfl, by decide +kernel, rfl, by decide +kernel, by decide +kernel⟩
theorem ok_forget (F : Fun K "forget" "Keeper.forget" s_K_forget f fd) (T : NmK K mg aF CK CR CC) : FnOk P w K mg base CX0 1 f fd ["self", "key"] (spFor Vx CK CR aF) := by
  refine F.ok sc_K_forget (fun vs H Q E h => ?_) (fun cdv A outer s H vs Q E hr h => ?_)
  · obtain ⟨o, b, A, S, rn, lv, av, m, ni, k, rfl, _⟩ := h
    rfl
  obtain ⟨o, b, A, S, rn, lv, av, m, ni, k, rfl, kh, hb, q⟩ := h
  refine ⟨_, (pss_one (ps_expr (pe_bm PySem.F.plainAttrs_dict PySem.F.slot_dict_pop PySem.F.type_dict_pop (L2.DX.mt_popT (hu_of hr)) (pe_k_entries T (pv 0)) (pa_cons (pv 1) (pa_cons pe_non pa_nil))))), ?_⟩
  obtain ⟨kve, he, _⟩ := kh.ent
  exact ⟨_, rfl, o, _, rfl, kh.raw, .inr (.inr (.inl ⟨rfl, .inr ⟨_, he⟩⟩)), _, rfl, A.e, kve, k, b, .non, rfl, rfl, he, hb, kh.pop he fun _ H1 b1 k1 => q H1 b1 k1⟩
abbrev s_K_computed : Stmt := inClass (topS 96) 7
abbrev N_K_computed : List Str := ["self", "ended"]
theorem sc_K_computed : FnScope N_K_computed ["self"] (defScope s_K_computed) := ⟨rfl, rfl, rfl, by decide +kernel, rfl, by decide +kernel, by decide +kernel⟩
theorem ok_computed (F : Fun K "computed" "Keeper.computed" s_K_computed f fd) (T : NmK K mg aF CK CR CC) : FnOk P w K mg base CX0 1 f fd ["self"] (spCom Vx CK CR aF) := by
  refine F.ok sc_K_computed (fun vs H Q E h => ?_) (fun cdv A outer s H vs Q E hr h => ?_)
  · obtain ⟨o, A, S, rn, lv, av, m, ni, rfl, _⟩ := h
    rfl
  obtain ⟨o, A, S, rn, lv, av, m, ni, rfl, kh, q⟩ := h
  refine ⟨_, (pss_cons (ps_set (i := 1) sc_K_computed.nd rfl (Or.inl rfl) (pe_k_ended T (pv 0)))
    (pss_cons (ps_k_ended T (pv 0) (pe_lst pa_nil))
    (pss_one (ps_ret (pv 1))))), ?_⟩
  obtain ⟨bs, hl, hm, hk⟩ := kh.ended
  refine ⟨_, rfl, o, _, rfl, kh.raw, ?_⟩
  refine ⟨Nat.zero_le _, fun l nl => ?_⟩
  have s1 := same_new (o := .lst []) nl
  have k1 := kh.same s1
  have hl1 : upd H l (.lst []) l = some (.lst []) := upd_same
  refine ⟨_, rfl, o, _, rfl, k1.raw, fun H' b1 _ r1 => ?_⟩
  refine ⟨_, rfl, ?_⟩
  obtain ⟨dx, eo⟩ := k1.raw
  have ne : ∀ {b u}, upd H l (.lst []) b = some u → (∀ dx fs, u ≠ .ins CK dx fs) → b ≠ o := fun e n z => by
    rw [z, eo] at e
    injection e with e
    exact n _ _ e.symm
  have ft : FT (upd H l (.lst [])) H' := fun c xs e => b1 _ _ (ne e fun _ _ z => nomatch z) e
  have fd : ∀ d kvs, upd H l (.lst []) d = some (.dT kvs) → H' d = some (.dT kvs) := fun d kvs e => b1 _ _ (ne e fun _ _ z => nomatch z) e
  refine q H' l bs ((But.of s1).trans b1) nl ⟨r1, k1.inp.keep ft (fd _), k1.ent.keep ft (fd _) (Nat.le_refl _), k1.run.keep (fd _) (Nat.le_refl _), k1.live.keep (fun p dx fs e => b1 _ _ (ne e fun _ _ z => by injection z with z; exact kh.ck z.symm) e), ⟨[], b1 _ _ (ne hl1 fun _ _ z => nomatch z) hl1, Nat.zero_le _, .nil⟩, kh.d1, kh.d2, kh.d3, kh.ck⟩ ?_ ?_
  · exact b1 _ _ (ne (s1 _ _ hl) fun _ _ z => nomatch z) (s1 _ _ hl)
  · exact hk.keep fun c xs e => ft _ _ (s1 _ _ e)
abbrev s_K_init : Stmt := inClass (topS 96) 0
abbrev N_K_init : List Str := ["self", "compute"]
theorem sc_K_init : FnScope N_K_init ["self", "compute"] (defScope s_K_init) := ⟨rfl, rfl, rfl, by decide +kernel, rfl, by decide +kernel, by decide +kernel⟩
theorem ok_K_init (F : Fun K "__init__" "Keeper.__init__" s_K_init f fd) (T : NmK K mg aF CK CR CC) : FnOk P w K mg base CX0 1 f fd ["self", "compute"] (spKI Vx CK CR aF) := by
  refine F.ok sc_K_init (fun vs H Q E h => ?_) (fun cdv A outer s H vs Q E hr h => ?_)
  · obtain ⟨p, dx, rfl, _⟩ := h
    rfl
  obtain ⟨p, dx, rfl, ck, hp, q⟩ := h
  refine ⟨_, (pss_cons (ps_fld (pv 0) (pv 1) rfl)
    (pss_cons (ps_fld (pv 0) pe_int rfl)
    (pss_cons (ps_fld (pv 0) pe_non rfl)
    (pss_cons (ps_fld (pv 0) pe_dnewT rfl)
    (pss_cons (ps_fld (pv 0) pe_dnewT rfl)
    (pss_cons (ps_fld (pv 0) pe_dnewT rfl)
    (pss_cons (ps_fld (pv 0) pe_non rfl)
    (pss_one (ps_fld (pv 0) (pe_lst pa_nil) rfl))))))))), ?_⟩
  refine ⟨_, rfl, _, rfl, p, CK, dx, _, rfl, hp, T.cl_Keeper, T.n_function, by decide, ?_⟩
  refine ⟨_, rfl, p, CK, dx, _, rfl, upd_same, T.cl_Keeper, T.n_now, by show 1 < 1000; decide, ?_⟩
  refine ⟨_, rfl, p, CK, dx, _, rfl, upd_same, T.cl_Keeper, T.n_left, by show 2 < 1000; decide, ?_⟩
  rw [upd_upd, upd_upd]
  have fr : ∀ {fs} c u, H c = some u → c ≠ p → upd H p (.ins CK dx fs) c = some u := fun c u z y => by rw [upd_ne y]; exact z
  have none1 : ∀ {fs c}, upd H p (.ins CK dx fs) c = none → H c = none ∧ c ≠ p := fun {fs c} z => by
    by_cases y : c = p
    · rw [y, upd_same] at z
      cases z
    · rw [upd_ne y] at z
      exact ⟨z, y⟩
  intro i ni
  obtain ⟨ni0, nip⟩ := none1 ni
  refine ⟨_, rfl, p, CK, dx, _, rfl, (upd_ne nip.symm).trans upd_same, T.cl_Keeper, T.n_inputs, by show 3 < 1000; decide, ?_⟩
  intro e ne
  have nep : e ≠ p := fun z => by rw [z, upd_same] at ne; cases ne
  rw [upd_ne nep] at ne
  have nei : e ≠ i := fun z => by rw [z, upd_same] at ne; cases ne
  rw [upd_ne nei, upd_ne nep] at ne
  refine ⟨_, rfl, p, CK, dx, _, rfl, (upd_ne nep.symm).trans upd_same, T.cl_Keeper, T.n_entries, by show 4 < 1000; decide, ?_⟩
  intro r nr
  have nrp : r ≠ p := fun z => by rw [z, upd_same] at nr; cases nr
  rw [upd_ne nrp] at nr
  have nre : r ≠ e := fun z => by rw [z, upd_same] at nr; cases nr
  rw [upd_ne nre, upd_ne nrp] at nr
  have nri : r ≠ i := fun z => by rw [z, upd_same] at nr; cases nr
  rw [upd_ne nri, upd_ne nrp] at nr
  refine ⟨_, rfl, p, CK, dx, _, rfl, (upd_ne nrp.symm).trans upd_same, T.cl_Keeper, T.n_runs, by show 5 < 1000; decide, ?_⟩
  refine ⟨_, rfl, p, CK, dx, _, rfl, upd_same, T.cl_Keeper, T.n_asked, by show 6 < 1000; decide, ?_⟩
  rw [upd_upd]
  refine ⟨Nat.zero_le _, fun l nl => ?_⟩
  have nlp : l ≠ p := fun z => by rw [z, upd_same] at nl; cases nl
  rw [upd_ne nlp] at nl
  have nlr : l ≠ r := fun z => by rw [z, upd_same] at nl; cases nl
  rw [upd_ne nlr, upd_ne nlp] at nl
  have nle : l ≠ e := fun z => by rw [z, upd_same] at nl; cases nl
  rw [upd_ne nle, upd_ne nlp] at nl
  have nli : l ≠ i := fun z => by rw [z, upd_same] at nl; cases nl
  rw [upd_ne nli, upd_ne nlp] at nl
  refine ⟨_, rfl, p, CK, dx, _, rfl, (upd_ne nlp.symm).trans upd_same, T.cl_Keeper, T.n_ended, by show 7 < 1000; decide, ?_⟩
  refine q _ ⟨i, e, r, l⟩ (fun c u z y => ?_) ni0 ne nr nl ⟨⟨dx, upd_same⟩, ⟨[], ?_, Nat.le_refl _, fun _ => .inl ⟨rfl, rfl⟩⟩, ⟨[], ?_, Nat.le_refl _, fun _ => .inl ⟨rfl, rfl⟩⟩, ⟨[], ?_, Nat.le_refl _, fun _ => rfl⟩, fun k => ⟨fun z => absurd z (by simp), fun _ p z => by cases z⟩, ⟨[], ?_, Nat.le_refl _, .nil⟩, nei.symm, nri.symm, nre.symm, ck⟩
  · have c1 : c ≠ l := fun y => by rw [y, nl] at z; cases z
    have c2 : c ≠ r := fun y => by rw [y, nr] at z; cases z
    have c3 : c ≠ e := fun y => by rw [y, ne] at z; cases z
    have c4 : c ≠ i := fun y => by rw [y, ni0] at z; cases z
    rw [upd_ne y, upd_ne c1, upd_ne y, upd_ne c2, upd_ne y, upd_ne c3, upd_ne y, upd_ne c4, upd_ne y]
    exact z
  · show upd _ _ _ i = _
    rw [upd_ne nip, upd_ne nli.symm, upd_ne nip, upd_ne nri.symm, upd_ne nip, upd_ne nei.symm, upd_ne nip, upd_same]
  · show upd _ _ _ e = _
    rw [upd_ne nep, upd_ne nle.symm, upd_ne nep, upd_ne nre.symm, upd_ne nep, upd_same]
  · show upd _ _ _ r = _
    rw [upd_ne nrp, upd_ne nlr.symm, upd_ne nrp, upd_same]
  · show upd _ _ _ l = _
    rw [upd_ne nlp, upd_same]
    rfl
end

end Sn

namespace Sn
open PySem PySem.Spec PyProof.Rows L2 TL
/-! ### the server's attributes -/
abbrev ns_Server : List Str := ["_texts", "_keeper", "_done", "_undone"]
/-- an own class of errors -/
structure Err (K : PySem.W.Frag) (mg : Str → Option Value) (x : Str) (C : Addr) : Prop where
  c_x : mg x = some (.ref C)
  bI : PySem.W.subIn K (.ref C) (.type "BaseException") = some true
  tI : PySem.W.typeIn K (.ref C) = some (.type "type")
  kI : PySem.W.keepIn K (.ref C) = true
  xI : PySem.W.excIn K C [.type "ValueError", .type "Exception", .type "BaseException", .type "object"] "ValueError.__new__" = true
  te : PySem.W.exmOne K (.ref C) (.ref C) = some true
structure NmS (K : PySem.W.Frag) (mg : Str → Option Value) (aF CK CR CC CE CU CN CS CV aW : Addr) (tL tP tM tS : PySem.Tok) : Prop extends Nm mg where
  sorted : mg "sorted" = none
  dict_ : mg "dict" = none
  min : mg "min" = none
  J : NmJ K mg CE tL tP
  F5 : Nm5 K mg aW tS
  KK : NmK K mg aF CK CR CC
  U : Err K mg "UnknownFile" CU
  N : Err K mg "NothingToUndo" CN
  g_MOST_MODULES : mg "MOST_MODULES" = some (.int 6 tM)
  c_ServerError : mg "ServerError" = some (.ref CS)
  mk_Server : mg "Server" = some (.ref CV)
  cl_Server : Cls K CV
  n_texts : NoAttr K CV "_texts"
  n_keeper : NoAttr K CV "_keeper"
  n_done : NoAttr K CV "_done"
  n_undone : NoAttr K CV "_undone"
  exc : ExcC K CN
  kit : PySem.W.kitOne K (.ref CN) (.ref CS) = some true
  eEN : PySem.W.exmOne K (.ref CE) (.ref CN) = some false
  eUN : PySem.W.exmOne K (.ref CU) (.ref CN) = some false
  eUE : PySem.W.exmOne K (.ref CU) (.ref CE) = some false
  ckr : CK ≠ CR
  cvk : CV ≠ CK
section
variable {K : PySem.W.Frag} {mg : Str → Option Value} {aF CK CR CC CE CU CN CS CV aW : Addr} {tL tP tM tS : PySem.Tok}
theorem NmS.c_InvalidEdit (T : NmS K mg aF CK CR CC CE CU CN CS CV aW tL tP tM tS) : mg "InvalidEdit" = some (.ref CE) := T.J.c_InvalidEdit
theorem NmS.c_UnknownFile (T : NmS K mg aF CK CR CC CE CU CN CS CV aW tL tP tM tS) : mg "UnknownFile" = some (.ref CU) := T.U.c_x
theorem NmS.c_NothingToUndo (T : NmS K mg aF CK CR CC CE CU CN CS CV aW tL tP tM tS) : mg "NothingToUndo" = some (.ref CN) := T.N.c_x
theorem NmS.c_compute (T : NmS K mg aF CK CR CC CE CU CN CS CV aW tL tP tM tS) : mg "compute" = some (.ref aF) := T.KK.c__law_compute
theorem NmS.mk_Keeper (T : NmS K mg aF CK CR CC CE CU CN CS CV aW tL tP tM tS) : mg "Keeper" = some (.ref CK) := T.KK.mk_Keeper
theorem NmS.cl_Keeper (T : NmS K mg aF CK CR CC CE CU CN CS CV aW tL tP tM tS) : Cls K CK := T.KK.cl_Keeper
end
structure SF where
  tx : V
  kp : V
  dn : V
  un : V
def sf (S : SF) : List (Str × V) := [("_texts", S.tx), ("_keeper", S.kp), ("_done", S.dn), ("_undone", S.un)]
theorem sf_texts {S} : (sf S).lookup ("_texts" : Str) = some S.tx := by kernel_rfl
theorem sf_keeper {S} : (sf S).lookup ("_keeper" : Str) = some S.kp := by kernel_rfl
theorem sf_done {S} : (sf S).lookup ("_done" : Str) = some S.dn := by kernel_rfl
theorem sf_undone {S} : (sf S).lookup ("_undone" : Str) = some S.un := by kernel_rfl
theorem sf_done' {S x} : putF "_done" x (sf S) = sf { S with dn := x } := by kernel_rfl
theorem sf_undone' {S x} : putF "_undone" x (sf S) = sf { S with un := x } := by kernel_rfl
def SRaw (C : Addr) (H : Hp) (p : Addr) (S : SF) : Prop := ∃ dx, H p = some (.ins C dx (sf S))
theorem SRaw.isI {C : Addr} {H : Hp} {p : Addr} {S : SF} (h : SRaw C H p S) : IsI H C p ns_Server := let ⟨dx, e⟩ := h; ⟨dx, _, e, rfl⟩
section
variable {X : Cx} {C aF CK CR CC CE CU CN CS aW : Addr} {tL tP tM tS : PySem.Tok} {o v : Expr} {pos pos' : Pos} {ta tv : TE} {mg : Str → Option Value}
def tSf (C : Addr) (sel : SF → V) (ta : TE) : TE := fun σ H Q => ta σ H fun x H1 => ∃ p S, x = .ref p ∧ SRaw C H1 p S ∧ Q (sel S) H1
theorem pe_sf {f : Str} {sel : SF → V} (cl : Cls X.K C) (na : NoAttr X.K C f) (hl : ∀ S, (sf S).lookup f = some (sel S)) (he : PE X o ta) (hb : attributeBase o f X.env (eval o X.env) = eval o X.env) : PE X (.Attribute o f pos) (tSf C sel ta) := by
  refine PE.imp (pe_fld (PE.up he) hb) fun σ H Q h => ⟨_, h, ?_⟩
  rintro x H1 ⟨p, S, rfl, ⟨dx, e⟩, q⟩
  exact ⟨p, C, dx, _, _, rfl, e, cl, na, hl S, q⟩
theorem pe_s_texts (T : NmS X.K mg aF CK CR CC CE CU CN CS C aW tL tP tM tS) (he : PE X o ta) (hb : attributeBase o "_texts" X.env (eval o X.env) = eval o X.env := by rfl) : PE X (.Attribute o "_texts" pos) (tSf C SF.tx ta) := pe_sf T.cl_Server T.n_texts (fun _ => sf_texts) he hb
theorem pe_s_keeper (T : NmS X.K mg aF CK CR CC CE CU CN CS C aW tL tP tM tS) (he : PE X o ta) (hb : attributeBase o "_keeper" X.env (eval o X.env) = eval o X.env := by rfl) : PE X (.Attribute o "_keeper" pos) (tSf C SF.kp ta) := pe_sf T.cl_Server T.n_keeper (fun _ => sf_keeper) he hb
theorem pe_s_done (T : NmS X.K mg aF CK CR CC CE CU CN CS C aW tL tP tM tS) (he : PE X o ta) (hb : attributeBase o "_done" X.env (eval o X.env) = eval o X.env := by rfl) : PE X (.Attribute o "_done" pos) (tSf C SF.dn ta) := pe_sf T.cl_Server T.n_done (fun _ => sf_done) he hb
theorem pe_s_undone (T : NmS X.K mg aF CK CR CC CE CU CN CS C aW tL tP tM tS) (he : PE X o ta) (hb : attributeBase o "_undone" X.env (eval o X.env) = eval o X.env := by rfl) : PE X (.Attribute o "_undone" pos) (tSf C SF.un ta) := pe_sf T.cl_Server T.n_undone (fun _ => sf_undone) he hb
/-- self.f = e -/
def sSset (C : Addr) (u : SF → V → SF) (ta tv : TE) : TS := fun D σ H => tv σ H fun y H1 => ta σ H1 fun x H2 => ∃ p S, x = .ref p ∧ SRaw C H2 p S ∧ ∀ H', But p H2 H' → (∀ b, H2 b = none → H' b = none) → SRaw C H' p (u S y) → D.nx σ H'
theorem ps_sset {f : Str} {u : SF → V → SF} (cl : Cls X.K C) (na : NoAttr X.K C f) (hp : ∀ S x, putF f x (sf S) = sf (u S x)) (ha : PE X o ta) (hv : PE X v tv) (hs : swapsWith v (some (.Attribute o f pos')) pos.line X.env = pure false) : PS X (.Assign [.Attribute o f pos'] v pos) (sSset C u ta tv) := by
  refine PS.imp (ps_fld (PE.up ha) (PE.up hv) hs) fun D σ H h => ⟨_, h, ?_⟩
  intro y H1 h1
  refine ⟨_, h1, ?_⟩
  rintro x H2 ⟨p, S, rfl, ⟨dx, e⟩, q⟩
  refine ⟨p, C, dx, _, rfl, e, cl, na, (by show 4 < 1000; decide), q _ (But.refl _ _).upd (fun b hb => ?_) ⟨dx, ?_⟩⟩
  · rw [upd_ne (fun z => by rw [z, e] at hb; cases hb)]
    exact hb
  · rw [upd_same, hp]
theorem ps_s_done (T : NmS X.K mg aF CK CR CC CE CU CN CS C aW tL tP tM tS) (ha : PE X o ta) (hv : PE X v tv) (hs : swapsWith v (some (.Attribute o "_done" pos')) pos.line X.env = pure false := by rfl) : PS X (.Assign [.Attribute o "_done" pos'] v pos) (sSset C (fun S y => { S with dn := y }) ta tv) := ps_sset T.cl_Server T.n_done (fun _ _ => sf_done') ha hv hs
theorem ps_s_undone (T : NmS X.K mg aF CK CR CC CE CU CN CS C aW tL tP tM tS) (ha : PE X o ta) (hv : PE X v tv) (hs : swapsWith v (some (.Attribute o "_undone" pos')) pos.line X.env = pure false := by rfl) : PS X (.Assign [.Attribute o "_undone" pos'] v pos) (sSset C (fun S y => { S with un := y }) ta tv) := ps_sset T.cl_Server T.n_undone (fun _ _ => sf_undone') ha hv hs
end
/-! ### names of modules, texts, steps -/
def nm (i : Nat) : Str := ("m" : Str) ++ (toString (i : Int) : Str)
theorem nm_inj : ∀ i, i < 7 → ∀ j, j < 7 → nm i = nm j → i = j := by decide +kernel
theorem nm_no : ∀ i, i < 7 → nm i ≠ ("nowhere" : Str) := by decide +kernel
def tds : Nat → List Str → List (Key × V)
  | _, [] => []
  | i, z :: r => (.inr (nm i), .str z) :: tds (i + 1) r
theorem tds_len : ∀ (i : Nat) (ts : List Str), (tds i ts).length = ts.length
  | _, [] => rfl
  | i, z :: r => by
    show (tds (i + 1) r).length + 1 = _
    rw [tds_len]
    rfl
theorem tds_get : ∀ (ts : List Str) (i j : Nat), i + ts.length ≤ 7 → i ≤ j → j < 7 → valV (tds i ts) (.inr (nm j)) = (ts[j - i]?).map V.str
  | [], i, j, _, _, _ => by simp [tds, valV]
  | z :: r, i, j, h, hi, hj => by
    rw [List.length_cons] at h
    show valV ((Sum.inr (nm i), V.str z) :: tds (i + 1) r) (.inr (nm j)) = _
    by_cases c : i = j
    · subst c
      rw [Nat.sub_self]
      unfold valV
      rw [List.find?_cons_of_pos (by simp)]
      rfl
    · have ne : ¬ ((Sum.inr (nm i) : Key) = .inr (nm j)) := fun e => c (nm_inj i (by omega) j hj (Sum.inr.inj e))
      have ih := tds_get r (i + 1) j (by omega) (by omega) hj
      unfold valV at ih ⊢
      rw [List.find?_cons_of_neg (by simpa using ne), ih]
      have e : j - i = (j - (i + 1)) + 1 := by omega
      rw [e, List.getElem?_cons_succ]
theorem tds_no : ∀ (ts : List Str) (i : Nat) (x : Str), i + ts.length ≤ 7 → (∀ j, j < 7 → i ≤ j → j < i + ts.length → x ≠ nm j) → valV (tds i ts) (.inr x) = none
  | [], i, x, _, _ => rfl
  | z :: r, i, x, h, hx => by
    rw [List.length_cons] at h hx
    have ne : ¬ ((Sum.inr (nm i) : Key) = .inr x) := fun e => hx i (by omega) (Nat.le_refl _) (by omega) (Sum.inr.inj e).symm
    have ih := tds_no r (i + 1) x (by omega) fun j a b c => hx j a (by omega) (by omega)
    show valV ((Sum.inr (nm i), V.str z) :: tds (i + 1) r) (.inr x) = _
    unfold valV at ih ⊢
    rw [List.find?_cons_of_neg (by simpa using ne), ih]
theorem tds_any : ∀ (ts : List Str) (i j : Nat), i + ts.length ≤ 7 → j < 7 → ((tds i ts).any fun kv => decide (kv.1 = .inr (nm j))) = decide (i ≤ j ∧ j < i + ts.length)
  | [], i, j, _, _ => by
    rw [decide_eq_false (by simp)]
    rfl
  | z :: r, i, j, h, hj => by
    rw [List.length_cons] at h ⊢
    show (decide ((Sum.inr (nm i) : Key) = .inr (nm j)) || (tds (i + 1) r).any fun kv => decide (kv.1 = .inr (nm j))) = _
    rw [tds_any r (i + 1) j (by omega) hj]
    by_cases c : i = j
    · subst c
      rw [decide_eq_true rfl, Bool.true_or, decide_eq_true (by omega)]
    · have ne : ¬ ((Sum.inr (nm i) : Key) = .inr (nm j)) := fun e => c (nm_inj i (by omega) j hj (Sum.inr.inj e))
      rw [decide_eq_false ne, Bool.false_or]
      exact decide_eq_decide.mpr ⟨fun k => by omega, fun k => by omega⟩
theorem tds_map : ∀ (ts : List Str) (i j : Nat) (x : Str), i + ts.length ≤ 7 → j < 7 → (tds i ts).map (fun kv => if kv.1 = .inr (nm j) then (kv.1, V.str x) else kv) = if i ≤ j then tds i (ts.set (j - i) x) else tds i ts
  | [], i, j, x, _, _ => by
    rw [List.set_nil]
    split <;> rfl
  | z :: r, i, j, x, h, hj => by
    rw [List.length_cons] at h
    show (if (Sum.inr (nm i) : Key) = .inr (nm j) then (Sum.inr (nm i), V.str x) else (Sum.inr (nm i), V.str z)) :: (tds (i + 1) r).map _ = _
    rw [tds_map r (i + 1) j x (by omega) hj]
    by_cases c : i = j
    · subst c
      rw [if_pos rfl, if_neg (by omega), if_pos (Nat.le_refl _), Nat.sub_self]
      rfl
    · have ne : ¬ ((Sum.inr (nm i) : Key) = .inr (nm j)) := fun e => c (nm_inj i (by omega) j hj (Sum.inr.inj e))
      rw [if_neg ne]
      by_cases d : i ≤ j
      · rw [if_pos d, if_pos (by omega), show j - i = (j - (i + 1)) + 1 by omega]
        rfl
      · rw [if_neg d, if_neg (by omega)]
        rfl
theorem tds_put (ts : List Str) (j : Nat) (x : Str) (h : ts.length ≤ 7) (h2 : j < ts.length) : putK (tds 0 ts) (.inr (nm j)) (.str x) = tds 0 (ts.set j x) := by
  unfold putK
  rw [tds_any ts 0 j (by omega) (by omega), decide_eq_true (by omega), if_pos rfl, tds_map ts 0 j x (by omega) (by omega), if_pos (Nat.zero_le _), Nat.sub_zero]
theorem tds_snoc : ∀ (ts : List Str) (i : Nat) (x : Str), tds i (ts ++ [x]) = tds i ts ++ [(.inr (nm (i + ts.length)), .str x)]
  | [], i, x => rfl
  | z :: r, i, x => by
    show (_ :: tds (i + 1) (r ++ [x]) : List (Key × V)) = _
    rw [tds_snoc r (i + 1) x, List.length_cons, show i + 1 + r.length = i + (r.length + 1) by omega]
    rfl
theorem tds_new (ts : List Str) (x : Str) (h : ts.length < 7) : putK (tds 0 ts) (.inr (nm ts.length)) (.str x) = tds 0 (ts ++ [x]) := by
  unfold putK
  rw [tds_any ts 0 ts.length (by omega) h, decide_eq_false (by omega), if_neg Bool.false_ne_true, tds_snoc, Nat.zero_add]
theorem tds_keys : ∀ (ts : List Str) (i : Nat), (tds i ts).map (·.1) = ((List.range ts.length).map fun j => nm (i + j)).map Sum.inr
  | [], _ => rfl
  | z :: r, i => by
    show Sum.inr (nm i) :: (tds (i + 1) r).map (·.1) = _
    rw [tds_keys r (i + 1), List.length_cons, List.range_succ_eq_map]
    simp only [List.map_cons, List.map_map, Nat.add_zero]
    refine congrArg _ (List.map_congr_left fun a _ => ?_)
    show (Sum.inr (nm (i + 1 + a)) : Key) = .inr (nm (i + (a + 1)))
    rw [show i + 1 + a = i + (a + 1) by omega]
theorem tds_at (ts : List Str) {j : Nat} {x : Str} (h : ts.length ≤ 7) (hj : ts[j]? = some x) : valV (tds 0 ts) (.inr (nm j)) = some (.str x) := by
  have := (List.getElem?_eq_some_iff.mp hj).1
  rw [tds_get ts 0 j (by omega) (Nat.zero_le _) (by omega), Nat.sub_zero, hj]
  rfl
def nms (i n : Nat) : List Str := (List.range n).map fun j => nm (i + j)
/-- the sorted names of n modules -/
theorem nms_sorted : ∀ n, n < 7 → sortedS (nms 0 n) = true := by decide +kernel
theorem nms_nd : ∀ n, n < 7 → (nms 0 n).Nodup := by decide +kernel
theorem nms_len (n : Nat) : (nms 0 n).length = n := by unfold nms; simp
theorem nms_get {n j : Nat} (h : j < n) : (nms 0 n)[j]? = some (nm j) := by
  unfold nms
  rw [List.getElem?_map, List.getElem?_range h]
  simp
theorem nms_mem {n : Nat} {x : Str} (h : x ∈ nms 0 n) : ∃ j, j < n ∧ x = nm j := by
  unfold nms at h
  obtain ⟨j, hj, e⟩ := List.mem_map.mp h
  exact ⟨j, List.mem_range.mp hj, by rw [← e, Nat.zero_add]⟩
theorem nm_name : ∀ i, i < 7 → nameB (nm i) = true := by decide +kernel
theorem nm_len : ∀ i, i < 7 → (nm i).length = 2 := by decide +kernel
def leS (a b : Str) : Prop := ltCps b.cps.toList a.cps.toList = false
instance (a b : Str) : Decidable (leS a b) := inferInstanceAs (Decidable (_ = _))
theorem nm_tr : ∀ i, i < 7 → ∀ j, j < 7 → ∀ k, k < 7 → leS (nm i) (nm j) → leS (nm j) (nm k) → leS (nm i) (nm k) := by decide +kernel
theorem nm_as : ∀ i, i < 7 → ∀ j, j < 7 → leS (nm i) (nm j) → leS (nm j) (nm i) → i = j := by decide +kernel
theorem rising_pw : ∀ (l : List Str) (p : Str), (∀ x ∈ p :: l, ∃ j, j < 7 ∧ x = nm j) → risingS p l = true → (p :: l).Pairwise leS
  | [], p, _, _ => List.pairwise_singleton _ _
  | s :: r, p, hm, h => by
    have h2 : (!ltCps s.cps.toList p.cps.toList && risingS s r) = true := h
    obtain ⟨a, b⟩ := Bool.and_eq_true_iff.mp h2
    have a : leS p s := by simpa [leS] using a
    have ih := rising_pw r s (fun x hx => hm x (List.mem_cons_of_mem _ hx)) b
    refine List.pairwise_cons.mpr ⟨fun x hx => ?_, ih⟩
    rcases List.mem_cons.mp hx with rfl | hx2
    · exact a
    · have c := (List.pairwise_cons.mp ih).1 x hx2
      obtain ⟨i, hi, e1⟩ := hm p List.mem_cons_self
      obtain ⟨j, hj, e2⟩ := hm s (List.mem_cons_of_mem _ List.mem_cons_self)
      obtain ⟨k, hk, e3⟩ := hm x (List.mem_cons_of_mem _ (List.mem_cons_of_mem _ hx2))
      subst e1 e2 e3
      exact nm_tr i hi j hj k hk a c
theorem sorted_pw {l : List Str} (hm : ∀ x ∈ l, ∃ j, j < 7 ∧ x = nm j) (h : sortedS l = true) : l.Pairwise leS := by
  cases l with
  | nil => exact List.Pairwise.nil
  | cons p r => exact rising_pw r p hm h
theorem nms_of {ys : List Str} {n : Nat} (hn : n < 7) (p : ys.Perm (nms 0 n)) (h : sortedS ys = true) : ys = nms 0 n := by
  have hm2 : ∀ x ∈ nms 0 n, ∃ j, j < 7 ∧ x = nm j := fun x hx => let ⟨j, a, b⟩ := nms_mem hx; ⟨j, by omega, b⟩
  have hm : ∀ x ∈ ys, ∃ j, j < 7 ∧ x = nm j := fun x hx => hm2 x (p.mem_iff.mp hx)
  refine List.Perm.eq_of_pairwise (le := leS) (fun a b ha hb u v => ?_) (sorted_pw hm h) (sorted_pw hm2 (nms_sorted n hn)) p
  obtain ⟨i, hi, rfl⟩ := hm a ha
  obtain ⟨j, hj, rfl⟩ := hm2 b hb
  rw [nm_as i hi j hj u v]
/-! ### steps -/
structure Row where
  j : Nat
  b : Str
  a : Str
def spl (x : Str) (s e : Int) (z : Str) : Str := strL ((tl x).take s.toNat ++ (tl z ++ (tl x).drop e.toNat))
abbrev Ste : Type := List Str × List Row × List Row
inductive Act where
  | opn
  | und
  | red
  | edt (m : Str) (s e : Int) (z : Str)
/-- what a call answers, and what it leaves -/
inductive Go : Ste → Act → Str → Ste → Prop
  | opn {ts D U} : ts.length < 5 → Go (ts, D, U) .opn "done" (ts ++ [("" : Str)], [], [])
  | undN {ts U} : Go (ts, [], U) .und "nothing" (ts, [], U)
  | und {ts D U r} : Go (ts, D ++ [r], U) .und "done" (ts.set r.j r.b, D, U ++ [r])
  | redN {ts D} : Go (ts, D, []) .red "nothing" (ts, D, [])
  | red {ts D U r} : Go (ts, D, U ++ [r]) .red "done" (ts.set r.j r.a, D ++ [r], U)
  | unk {st m s e z} : (∀ j, j < st.1.length → m ≠ nm j) → Go st (.edt m s e z) "unknown" st
  | inv {st : Ste} {j x s e z} : st.1[j]? = some x → ¬ (0 ≤ s ∧ s ≤ e ∧ e ≤ ((tl x).length : Int)) → Go st (.edt (nm j) s e z) "invalid" st
  | edt {ts D U} {j x s e z} : ts[j]? = some x → (0 ≤ s ∧ s ≤ e ∧ e ≤ ((tl x).length : Int)) → Go (ts, D, U) (.edt (nm j) s e z) "done" (ts.set j (spl x s e z), D ++ [⟨j, x, spl x s e z⟩], [])
/-- a step fits: its module is there -/
def RowsIn (n : Nat) (R : List Row) : Prop := ∀ r ∈ R, r.j < n
/-- a call may be made: an edit's texts are small -/
def Fit (L : Nat) (n : Nat) : Act → Prop
  | .opn => n < 5
  | .edt m _ _ z => ((tl z).all okc && decide (z.length ≤ 100)) = true ∧ ((∃ j, j < n ∧ m = nm j) ∨ ∀ j, j < n → m ≠ nm j) ∧ L ≤ 3000
  | _ => True
theorem snoc_or {β : Type} (l : List β) : l = [] ∨ ∃ k x, l = k ++ [x] := by
  cases h : l.reverse with
  | nil => exact .inl (List.reverse_eq_nil_iff.mp h)
  | cons x r => exact .inr ⟨r.reverse, x, by rw [← List.reverse_reverse l, h, List.reverse_cons]⟩
theorem go_ex {st : Ste} {act : Act} {L : Nat} (h : Fit L st.1.length act) : ∃ res st', Go st act res st' := by
  obtain ⟨ts, D, U⟩ := st
  cases act with
  | opn => exact ⟨_, _, .opn h⟩
  | und =>
    rcases snoc_or D with rfl | ⟨k, x, rfl⟩
    · exact ⟨_, _, .undN⟩
    · exact ⟨_, _, .und⟩
  | red =>
    rcases snoc_or U with rfl | ⟨k, x, rfl⟩
    · exact ⟨_, _, .redN⟩
    · exact ⟨_, _, .red⟩
  | edt m s e z =>
    rcases h.2.1 with ⟨j, hj, rfl⟩ | hm
    · have hx : ts[j]? = some ts[j] := List.getElem?_eq_getElem hj
      by_cases c : 0 ≤ s ∧ s ≤ e ∧ e ≤ ((tl ts[j]).length : Int)
      · exact ⟨_, _, .edt hx c⟩
      · exact ⟨_, _, .inv hx c⟩
    · exact ⟨_, _, .unk hm⟩
/-- a text that may stand, of at most L signs -/
def Sm (L : Nat) (x : Str) : Prop := x.length ≤ L ∧ OkT x
theorem Sm.up {L : Nat} {x : Str} (h : Sm L x) : Sm (L + 100) x := ⟨Nat.le_add_right_of_le h.1, h.2⟩
theorem OkT.strOk {x : Str} (h : OkT x) : PyData.strOk x = true := by
  unfold PyData.strOk
  rw [← Array.all_toList]
  refine List.all_eq_true.mpr fun c hc => decide_eq_true ?_
  have := h c hc
  unfold okc at this
  simp at this
  omega
/-- all that a state holds is of modules that are there and not too long -/
structure OkSt (L : Nat) (st : Ste) : Prop where
  n2 : 1 ≤ st.1.length
  n5 : st.1.length ≤ 5
  tl : ∀ x ∈ st.1, Sm L x
  dj : ∀ r ∈ st.2.1, r.j < st.1.length ∧ Sm L r.a ∧ Sm L r.b
  uj : ∀ r ∈ st.2.2, r.j < st.1.length ∧ Sm L r.a ∧ Sm L r.b
theorem spl_len {x z : Str} {s e : Int} (h : 0 ≤ s ∧ s ≤ e ∧ e ≤ ((tl x).length : Int)) : (spl x s e z).length ≤ x.length + z.length := by
  rw [len_tl (spl x s e z), len_tl x, len_tl z]
  show ((TL.tl x).take s.toNat ++ (TL.tl z ++ (TL.tl x).drop e.toNat)).length ≤ _
  simp only [List.length_append, List.length_take, List.length_drop]
  omega
theorem spl_ok {x z : Str} {s e : Int} (hx : OkT x) (hz : OkT z) : OkT (spl x s e z) := fun c hc => by
  have hc : c ∈ (TL.tl x).take s.toNat ++ (TL.tl z ++ (TL.tl x).drop e.toNat) := hc
  rcases List.mem_append.mp hc with h | h
  · exact hx c (List.mem_of_mem_take h)
  rcases List.mem_append.mp h with h | h
  · exact hz c h
  · exact hx c (List.mem_of_mem_drop h)
theorem mem_set {ts : List Str} {j : Nat} {x y : Str} (h : y ∈ ts.set j x) : y ∈ ts ∨ y = x := List.mem_or_eq_of_mem_set h
theorem OkSt.up {L : Nat} {z : Ste} (o : OkSt L z) : OkSt (L + 100) z := ⟨o.n2, o.n5, fun x hx => (o.tl x hx).up, fun r hr => ⟨(o.dj r hr).1, (o.dj r hr).2.1.up, (o.dj r hr).2.2.up⟩, fun r hr => ⟨(o.uj r hr).1, (o.uj r hr).2.1.up, (o.uj r hr).2.2.up⟩⟩
theorem go_ok {st st' : Ste} {act : Act} {res : Str} {L : Nat} (g : Go st act res st') (o : OkSt L st) (f : Fit L st.1.length act) : OkSt (L + 100) st' := by
  cases g with
  | undN => exact o.up
  | redN => exact o.up
  | unk _ => exact o.up
  | inv _ _ => exact o.up
  | opn h =>
    refine ⟨by simp, by simp; omega, fun x hx => ?_, fun r hr => absurd hr (by simp), fun r hr => absurd hr (by simp)⟩
    rcases List.mem_append.mp hx with hx | hx
    · exact (o.tl x hx).up
    · rw [List.mem_singleton.mp hx]
      exact ⟨Nat.zero_le _, fun c hc => by cases hc⟩
  | und =>
    rename_i ts D U r
    have hr := o.dj r (by simp)
    refine OkSt.up ⟨by simpa using o.n2, by simpa using o.n5, fun x hx => (mem_set hx).elim (o.tl x) fun e => e ▸ hr.2.2, fun q hq => by simpa using o.dj q (List.mem_append_left _ hq), fun q hq => ?_⟩
    rcases List.mem_append.mp hq with hq | hq
    · simpa using o.uj q hq
    · rw [List.mem_singleton.mp hq]
      simpa using hr
  | red =>
    rename_i ts D U r
    have hr := o.uj r (by simp)
    refine OkSt.up ⟨by simpa using o.n2, by simpa using o.n5, fun x hx => (mem_set hx).elim (o.tl x) fun e => e ▸ hr.2.1, fun q hq => ?_, fun q hq => by simpa using o.uj q (List.mem_append_left _ hq)⟩
    rcases List.mem_append.mp hq with hq | hq
    · simpa using o.dj q hq
    · rw [List.mem_singleton.mp hq]
      simpa using hr
  | edt hx hc =>
    rename_i ts D U j x s e z
    have hz := Bool.and_eq_true_iff.mp f.1
    have hzl : z.length ≤ 100 := of_decide_eq_true hz.2
    have hxl := o.tl x (List.mem_of_getElem? hx)
    have hl := spl_len (z := z) hc
    have hs : Sm (L + 100) (spl x s e z) := ⟨by have := hxl.1; omega, spl_ok hxl.2 fun c hc => List.all_eq_true.mp hz.1 c hc⟩
    have hj := (List.getElem?_eq_some_iff.mp hx).1
    refine ⟨by simpa using o.n2, by simpa using o.n5, fun y hy => (mem_set hy).elim (fun h => (o.tl y h).up) fun e => e ▸ hs, fun q hq => ?_, fun r hr => absurd hr (by simp)⟩
    rcases List.mem_append.mp hq with hq | hq
    · have := o.up.dj q hq
      simpa using this
    · rw [List.mem_singleton.mp hq]
      exact ⟨by simpa using hj, hs, hxl.up⟩

end Sn

namespace Sn
open PySem PySem.Spec PyProof.Rows L2 TL
/-! ### the server in the heap -/
inductive Vt where
  | t (z : {z : Str // PyData.strOk z = true})
  | m (n : Fin 7)
deriving DecidableEq
def Vt.dat : Vt → PyData
  | .t z => .str z.1
  | .m n => .tuple ((nms 0 n.1).map PyData.str)
def Vt.rp (H : Hp) (v : V) : Vt → Prop
  | .t z => v = .str z.1
  | .m n => ∃ b, v = .ref b ∧ H b = some (.tup ((nms 0 n.1).map V.str))
theorem Vt.eqm : ∀ a b : Fin 7, PyData.eqv (Vt.dat (.m a)) (Vt.dat (.m b)) = decide (a = b) := by decide +kernel
theorem Vt.shm : ∀ a : Fin 7, SeqAt.shaped (Vt.dat (.m a)) = true := by decide +kernel
theorem dpall_strs {K : PySem.W.Frag} {H : Hp} : ∀ l : List Str, DpAll K H (l.map V.str) (l.map PyData.str)
  | [] => .nil
  | x :: r => .cons (.str x) (dpall_strs r)
def vS : Vl Vt where
  rp := Vt.rp
  keep := fun {H H' v a} f h => by
    cases a with
    | t z => exact h
    | m n =>
      obtain ⟨q, e, h⟩ := h
      exact ⟨q, e, f _ _ h⟩
  dat := Vt.dat
  dp := fun {K H v a} h => by
    cases a with
    | t z =>
      have h : v = .str z.1 := h
      subst h
      exact .str _
    | m n =>
      obtain ⟨q, rfl, h⟩ := h
      exact .tup (.inl (.inl h)) (dpall_strs _)
  sh := fun a => by
    cases a with
    | t z =>
      unfold SeqAt.shaped
      rw [Bool.and_eq_true]
      exact ⟨z.2, decide_eq_true (show 0 ≤ 64 by decide)⟩
    | m n => exact Vt.shm n
  eq := fun a b => by
    cases a with
    | t x => cases b with
      | t y =>
        show (x.1 == y.1) = _
        by_cases c : x = y
        · rw [c, decide_eq_true rfl]
          exact beq_self_eq_true _
        · rw [decide_eq_false (fun z => c (Vt.t.inj z))]
          exact beq_eq_false_iff_ne.mpr fun z => c (Subtype.ext z)
      | m y => rfl
    | m x => cases b with
      | t y => rfl
      | m y =>
        rw [Vt.eqm]
        by_cases c : x = y
        · rw [decide_eq_true c, decide_eq_true (congrArg Vt.m c)]
        · rw [decide_eq_false c, decide_eq_false (fun z => c (Vt.m.inj z))]
/-- the kind of an object -/
def kd : HO → Nat
  | .tup _ => 0
  | .frz _ _ => 1
  | .lst _ => 2
  | .dK _ => 3
  | .dT _ => 4
  | .ins _ _ _ => 5
  | _ => 6
theorem ne_kd {H : Hp} {a b : Addr} {u w : HO} (e : H b = some u) (z : H a = some w) (k : kd u ≠ kd w) : b ≠ a := fun x => by
  rw [x, z] at e
  cases e
  exact k rfl
/-! ### the server's parts -/
structure SA where
  s : Addr
  tx : Addr
  o : Addr
  k : KAd
  d : Addr
  u : Addr
/-- what is none of the server's -/
structure Off (A : SA) (b : Addr) : Prop where
  s : b ≠ A.s
  tx : b ≠ A.tx
  o : b ≠ A.o
  i : b ≠ A.k.i
  e : b ≠ A.k.e
  r : b ≠ A.k.r
  l : b ≠ A.k.l
  d : b ≠ A.d
  u : b ≠ A.u
def RowAt (H : Hp) (a : Addr) (r : Row) : Prop := ∃ q, H a = some (.tup [.ref q]) ∧ H q = some (.tup [.str (nm r.j), .str r.b, .str r.a])
inductive Rs (H : Hp) : List Addr → List Row → Prop
  | nil : Rs H [] []
  | snoc {as : List Addr} {R : List Row} {a : Addr} {r : Row} : Rs H as R → RowAt H a r → Rs H (as ++ [a]) (R ++ [r])
theorem RowAt.keep {H H' : Hp} (f : FT H H') {a : Addr} {r : Row} : RowAt H a r → RowAt H' a r := fun ⟨q, h1, h2⟩ => ⟨q, f _ _ h1, f _ _ h2⟩
theorem Rs.keep {H H' : Hp} (f : FT H H') {as : List Addr} {R : List Row} (h : Rs H as R) : Rs H' as R := by
  induction h with
  | nil => exact .nil
  | snoc _ r ih => exact .snoc ih (r.keep f)
theorem Rs.len {H : Hp} {as : List Addr} {R : List Row} (h : Rs H as R) : as.length = R.length := by
  induction h with
  | nil => rfl
  | snoc _ _ ih => simp [ih]
theorem Rs.nil' {H : Hp} {as : List Addr} (h : Rs H as []) : as = [] := List.length_eq_zero_iff.mp h.len
theorem Rs.last {H : Hp} {as : List Addr} {R : List Row} {r : Row} (h : Rs H as (R ++ [r])) : ∃ as' a, as = as' ++ [a] ∧ Rs H as' R ∧ RowAt H a r := by
  generalize e : R ++ [r] = R2 at h
  cases h with
  | nil => simp at e
  | snoc h1 h2 =>
    obtain ⟨e1, e2⟩ := List.append_inj' e rfl
    cases e2
    subst e1
    exact ⟨_, _, rfl, h1, h2⟩
structure Sv (CV CK CR aF : Addr) (H : Hp) (A : SA) (ts : List Str) (D U : List Row) (ni : Nat) : Prop where
  raw : SRaw CV H A.s ⟨.ref A.tx, .ref A.o, .ref A.d, .ref A.u⟩
  tx : H A.tx = some (.dK (tds 0 ts))
  kh : ∃ S, Kh vS CK CR aF H A.o A.k S (fun _ => none) [] .non 0 ni
  dn : ∃ as, H A.d = some (.lst (as.map V.ref)) ∧ Rs H as D
  un : ∃ as, H A.u = some (.lst (as.map V.ref)) ∧ Rs H as U
  du : A.d ≠ A.u
  dl : A.d ≠ A.k.l
  ul : A.u ≠ A.k.l
  ne : CV ≠ CK
section
variable {CV CK CR aF : Addr} {H H' : Hp} {A : SA} {ts : List Str} {D U : List Row} {ni : Nat}
theorem Sv.so (h : Sv CV CK CR aF H A ts D U ni) : A.s ≠ A.o := fun e => by
  obtain ⟨dx, h1⟩ := h.raw
  obtain ⟨S, k⟩ := h.kh
  obtain ⟨dy, h2⟩ := k.raw
  rw [e, h2] at h1
  cases h1
/-- what is told of the heap but for some places -/
theorem Sv.keep (h : Sv CV CK CR aF H A ts D U ni) (f : ∀ b u, H b = some u → (b = A.s ∨ b = A.tx ∨ b = A.d ∨ b = A.u ∨ b = A.k.l ∨ Kob u) → H' b = some u) : Sv CV CK CR aF H' A ts D U ni := by
  obtain ⟨dx, h1⟩ := h.raw
  obtain ⟨S, k⟩ := h.kh
  obtain ⟨as, d1, d2⟩ := h.dn
  obtain ⟨us, u1, u2⟩ := h.un
  have ft : FT H H' := fun b xs e => f _ _ e (by simp [Kob])
  exact ⟨⟨dx, f _ _ h1 (.inl rfl)⟩, f _ _ h.tx (by simp), ⟨S, k.keep fun b u e y => f b u e (by rcases y with y | y <;> simp [y])⟩, ⟨as, f _ _ d1 (by simp), d2.keep ft⟩, ⟨us, f _ _ u1 (by simp), u2.keep ft⟩, h.du, h.dl, h.ul, h.ne⟩
theorem Sv.same (h : Sv CV CK CR aF H A ts D U ni) (s : Same H H') : Sv CV CK CR aF H' A ts D U ni := h.keep fun b u e _ => s b u e
/-- another's list or dict changes -/
theorem Sv.but {d : Addr} {u : HO} (h : Sv CV CK CR aF H A ts D U ni) (b : But d H H') (o : Off A d) (hd : H d = some u) (hu : ¬ Kob u) : Sv CV CK CR aF H' A ts D U ni := h.keep fun c u' e y => b c u' (fun z => by
  subst z
  rw [hd] at e
  cases e
  rcases y with y | y | y | y | y | y
  · exact o.s y
  · exact o.tx y
  · exact o.d y
  · exact o.u y
  · exact o.l y
  · exact hu y) e
/-- what is none of the server's stays, and stays none of its -/
def Adv (A A' : SA) (H H' : Hp) : Prop := ∀ b u, H b = some u → Off A b → Off A' b ∧ H' b = some u
theorem Adv.refl (A : SA) (H : Hp) : Adv A A H H := fun _ _ e o => ⟨o, e⟩
theorem Adv.trans {A' A'' : SA} {H'' : Hp} (a : Adv A A' H H') (b : Adv A' A'' H' H'') : Adv A A'' H H'' := fun c u e o => b c u (a c u e o).2 (a c u e o).1
theorem Adv.same (s : Same H H') : Adv A A H H' := fun b u e o => ⟨o, s b u e⟩
theorem Sv.off (h : Sv CV CK CR aF H A ts D U ni) {b : Addr} {u : HO} (e : H b = some u) (hu : kd u < 2) : Off A b := by
  obtain ⟨dx, h1⟩ := h.raw
  obtain ⟨S, k⟩ := h.kh
  obtain ⟨as, d1, d2⟩ := h.dn
  obtain ⟨us, u1, u2⟩ := h.un
  obtain ⟨dy, k1⟩ := k.raw
  obtain ⟨_, k2, _⟩ := k.inp
  obtain ⟨_, k3, _⟩ := k.ent
  obtain ⟨_, k4, _⟩ := k.run
  obtain ⟨_, k5, _⟩ := k.ended
  have c : ∀ {a : Addr} {w : HO}, H a = some w → 1 < kd w → b ≠ a := fun z y => ne_kd e z (by omega)
  exact ⟨c h1 (Nat.le_of_ble_eq_true rfl), c h.tx (Nat.le_of_ble_eq_true rfl), c k1 (Nat.le_of_ble_eq_true rfl), c k2 (Nat.le_of_ble_eq_true rfl), c k3 (Nat.le_of_ble_eq_true rfl), c k4 (Nat.le_of_ble_eq_true rfl), c k5 (Nat.le_of_ble_eq_true rfl), c d1 (Nat.le_of_ble_eq_true rfl), c u1 (Nat.le_of_ble_eq_true rfl)⟩
theorem Sv.nil (h : Sv CV CK CR aF H A ts D U ni) {b : Addr} (e : H b = none) : Off A b := by
  obtain ⟨dx, h1⟩ := h.raw
  obtain ⟨S, k⟩ := h.kh
  obtain ⟨as, d1, d2⟩ := h.dn
  obtain ⟨us, u1, u2⟩ := h.un
  obtain ⟨dy, k1⟩ := k.raw
  obtain ⟨_, k2, _⟩ := k.inp
  obtain ⟨_, k3, _⟩ := k.ent
  obtain ⟨_, k4, _⟩ := k.run
  obtain ⟨_, k5, _⟩ := k.ended
  have c : ∀ {a : Addr} {w : HO}, H a = some w → b ≠ a := fun {a w} z x => by
    rw [x, z] at e
    cases e
  exact ⟨c h1, c h.tx, c k1, c k2, c k3, c k4, c k5, c d1, c u1⟩
/-- the keeper takes an input -/
theorem Sv.put {H' : Hp} {S' : KS Vt} {n' : Nat} (h : Sv CV CK CR aF H A ts D U ni) (f : ∀ b u, H b = some u → b ≠ A.o → b ≠ A.k.i → b ≠ A.k.e → H' b = some u) (k' : Kh vS CK CR aF H' A.o A.k S' (fun _ => none) [] .non 0 n') : Sv CV CK CR aF H' A ts D U n' ∧ Adv A A H H' := by
  obtain ⟨dx, h1⟩ := h.raw
  obtain ⟨S, k⟩ := h.kh
  obtain ⟨as, d1, d2⟩ := h.dn
  obtain ⟨us, u1, u2⟩ := h.un
  obtain ⟨dy, k1⟩ := k.raw
  obtain ⟨_, k2, _⟩ := k.inp
  obtain ⟨_, k3, _⟩ := k.ent
  have g : ∀ {b : Addr} {w : HO}, H b = some w → kd w < 4 → H' b = some w := fun {b w} e y => f b w e (ne_kd e k1 (show kd w ≠ 5 by omega)) (ne_kd e k2 (show kd w ≠ 4 by omega)) (ne_kd e k3 (show kd w ≠ 4 by omega))
  have ft : FT H H' := fun b xs e => g e (by decide : 0 < 4)
  have g1 : H' A.s = _ := f _ _ h1 h.so (fun z => by rw [z, k2] at h1; cases h1) fun z => by rw [z, k3] at h1; cases h1
  exact ⟨⟨⟨dx, g1⟩, g h.tx (by decide : 3 < 4), ⟨S', k'⟩, ⟨as, g d1 (by decide : 2 < 4), d2.keep ft⟩, ⟨us, g u1 (by decide : 2 < 4), u2.keep ft⟩, h.du, h.dl, h.ul, h.ne⟩, fun b u e o => ⟨o, f b u e o.o o.i o.e⟩⟩
/-- the dict of the texts is written, or locked -/
theorem Sv.texts {ts' : List Str} (h : Sv CV CK CR aF H A ts D U ni) : Sv CV CK CR aF (upd H A.tx (.dK (tds 0 ts'))) A ts' D U ni ∧ Adv A A H (upd H A.tx (.dK (tds 0 ts'))) := by
  obtain ⟨dx, h1⟩ := h.raw
  obtain ⟨S, k⟩ := h.kh
  obtain ⟨as, d1, d2⟩ := h.dn
  obtain ⟨us, u1, u2⟩ := h.un
  have g : ∀ {b : Addr} {w : HO}, H b = some w → kd w ≠ 3 → upd H A.tx (.dK (tds 0 ts')) b = some w := fun {b w} e y => (upd_ne (ne_kd e h.tx y)).trans e
  have ft : FT H (upd H A.tx (.dK (tds 0 ts'))) := fun b xs e => g e (by decide : 0 ≠ 3)
  obtain ⟨_, k5, _⟩ := k.ended
  refine ⟨⟨⟨dx, g h1 (by decide : 5 ≠ 3)⟩, upd_same, ⟨S, k.keep fun b u e y => g e ?_⟩, ⟨as, g d1 (by decide : 2 ≠ 3), d2.keep ft⟩, ⟨us, g u1 (by decide : 2 ≠ 3), u2.keep ft⟩, h.du, h.dl, h.ul, h.ne⟩, fun b u e o => ⟨o, by rw [upd_ne o.tx]; exact e⟩⟩
  rcases y with rfl | y
  · rw [k5] at e
    cases e
    exact (by decide : 2 ≠ 3)
  · cases u <;> first | exact (by decide : 0 ≠ 3) | exact (by decide : 4 ≠ 3) | exact (by decide : 5 ≠ 3) | exact y.elim
end
section
variable {CV CK CR aF : Addr} {H H' : Hp} {A : SA} {ts : List Str} {D U : List Row} {ni : Nat}
/-- the server's own dict changes, and a new list stands at l -/
theorem Sv.self {l d u : Addr} {D' U' : List Row} (h : Sv CV CK CR aF H A ts D U ni) (nl : H l = none) (b : But A.s (upd H l (.lst [])) H') (r : SRaw CV H' A.s ⟨.ref A.tx, .ref A.o, .ref d, .ref u⟩) (e : (d = l ∧ u = A.u ∧ D' = [] ∧ U' = U) ∨ (d = A.d ∧ u = l ∧ D' = D ∧ U' = [])) :
    Sv CV CK CR aF H' { A with d := d, u := u } ts D' U' ni ∧ Adv A { A with d := d, u := u } H H' := by
  obtain ⟨dx, h1⟩ := h.raw
  have off := h.nil nl
  have s1 := same_new (o := .lst []) nl
  have h0 := h.same s1
  have hl : upd H l (.lst []) l = some (.lst []) := upd_same
  obtain ⟨S, k⟩ := h0.kh
  obtain ⟨as, d1, d2⟩ := h0.dn
  obtain ⟨us, u1, u2⟩ := h0.un
  have g : ∀ {b : Addr} {w : HO}, upd H l (.lst []) b = some w → b ≠ A.s → H' b = some w := fun {c w} e y => b c w y e
  have n1 := ne_kd hl (s1 _ _ h1) (by show (2 : Nat) ≠ 5; decide)
  have ft : FT (upd H l (.lst [])) H' := fun b xs e => g e (ne_kd e (s1 _ _ h1) (by show (0 : Nat) ≠ 5; decide))
  have gd := g d1 (ne_kd d1 (s1 _ _ h1) (by show (2 : Nat) ≠ 5; decide))
  have gu := g u1 (ne_kd u1 (s1 _ _ h1) (by show (2 : Nat) ≠ 5; decide))
  have gx := g h0.tx (ne_kd h0.tx (s1 _ _ h1) (by show (3 : Nat) ≠ 5; decide))
  have k' : Kh vS CK CR aF H' A.o A.k S (fun _ => none) [] .non 0 ni := by
    obtain ⟨dy, k1⟩ := k.raw
    obtain ⟨_, k2, k3⟩ := k.inp
    obtain ⟨_, k4, k5⟩ := k.ended
    have so := h0.so
    refine ⟨⟨dy, g k1 so.symm⟩, k.inp.keep ft fun kvs e => g e (ne_kd e (s1 _ _ h1) (by show (4 : Nat) ≠ 5; decide)), k.ent.keep ft (fun kvs e => g e (ne_kd e (s1 _ _ h1) (by show (4 : Nat) ≠ 5; decide))) (Nat.le_refl _), k.run.keep (fun kvs e => g e (ne_kd e (s1 _ _ h1) (by show (4 : Nat) ≠ 5; decide))) (Nat.le_refl _), fun j => ⟨fun z => absurd z (by simp), fun _ p z => by cases z⟩,
      k.ended.keep ft (fun vs e => g e (ne_kd e (s1 _ _ h1) (by show (2 : Nat) ≠ 5; decide))) (Nat.le_refl _), k.d1, k.d2, k.d3, k.ck⟩
  have adv : ∀ {d' u' : Addr}, (d' = l ∨ d' = A.d) → (u' = l ∨ u' = A.u) → Adv A { A with d := d', u := u' } H H' := fun {d' u'} y1 y2 c w e o => by
    have nc : c ≠ l := ne_of_none e nl
    refine ⟨⟨o.s, o.tx, o.o, o.i, o.e, o.r, o.l, ?_, ?_⟩, g (s1 _ _ e) o.s⟩
    · rcases y1 with rfl | rfl
      · exact nc
      · exact o.d
    · rcases y2 with rfl | rfl
      · exact nc
      · exact o.u
  rcases e with ⟨rfl, rfl, rfl, rfl⟩ | ⟨rfl, rfl, rfl, rfl⟩
  · exact ⟨⟨r, gx, ⟨S, k'⟩, ⟨[], g hl n1, .nil⟩, ⟨us, gu, u2.keep ft⟩, off.u, off.l, h.ul, h.ne⟩, adv (.inl rfl) (.inr rfl)⟩
  · exact ⟨⟨r, gx, ⟨S, k'⟩, ⟨as, gd, d2.keep ft⟩, ⟨[], g hl n1, .nil⟩, off.d.symm, h.dl, off.l, h.ne⟩, adv (.inr rfl) (.inl rfl)⟩
end
/-! ### promises -/
def puT (ts : List Str) (j : Nat) (z : Str) : List Str := if j < ts.length then ts.set j z else ts ++ [z]
section
variable (CV CK CR aF : Addr)
def spPutT : Sp := fun vs H Q _ => ∃ A ts D U ni j z, vs = [.ref A.s, .str (nm j), .str z] ∧ Sv CV CK CR aF H A ts D U ni ∧ j ≤ ts.length ∧ ts.length ≤ 5 ∧ PyData.strOk z = true ∧ ni < 1000000 ∧ ∀ H', Adv A A H H' → Sv CV CK CR aF H' A (puT ts j z) D U (ni + 1) → Q .non H'
def spPutM : Sp := fun vs H Q _ => ∃ A ts D U ni, vs = [.ref A.s] ∧ Sv CV CK CR aF H A ts D U ni ∧ ts.length ≤ 6 ∧ ni < 1000000 ∧ ∀ H' A', A'.s = A.s → Adv A A' H H' → Sv CV CK CR aF H' A' ts [] [] (ni + 1) → Q .non H'
def spChk (CU : Addr) : Sp := fun vs H Q E => ∃ A ts D U ni m, vs = [.ref A.s, .str m] ∧ Sv CV CK CR aF H A ts D U ni ∧ ts.length ≤ 5 ∧ ((∃ j, j < ts.length ∧ m = nm j) → Q .non H) ∧ ((∀ j, j < ts.length → m ≠ nm j) → E (.ref CU) none H) ∧ ((∃ j, j < ts.length ∧ m = nm j) ∨ ∀ j, j < ts.length → m ≠ nm j)
def spProg : Sp := fun vs H Q _ => ∃ A ts D U ni, vs = [.ref A.s] ∧ Sv CV CK CR aF H A ts D U ni ∧ ts.length ≤ 5 ∧ ∀ p H', H p = none → Same H H' → H' p = some (.dK (tds 0 ts)) → Q (.ref p) H'
end
section
variable {P : Program} {w : World} {K : PySem.W.Frag} {mg : Str → Option Value} {base : Heap} {f : Addr} {fd : FuncData} {aF CK CR CC CE CU CN CS CV aW : Addr} {tL tP tM tS : PySem.Tok}
abbrev s_S_put_text : Stmt := inClass (topS 111) 2
abbrev N_S_put_text : List Str := ["self", "module", "text"]
theorem sc_S_put_text : FnScope N_S_put_text ["self", "module", "text"] (defScope s_S_put_text) := ⟨rfl, rfl, rfl, by decide +kernel, rfl, by decide +kernel, by decide +kernel⟩
theorem ok_put_text (F : Fun K "_put_text" "Server._put_text" s_S_put_text f fd) (T : NmS K mg aF CK CR CC CE CU CN CS CV aW tL tP tM tS) (C_Keeper_put : CalM P w K mg base CX0 1 CK "put" (spPut vS CK CR aF)) : FnOk P w K mg base CX0 2 f fd ["self", "module", "text"] (spPutT CV CK CR aF) := by
  refine F.ok sc_S_put_text (fun vs H Q E h => ?_) (fun cdv A outer s H vs Q E hr h => ?_)
  · obtain ⟨A, ts, D, U, ni, j, z, rfl, _⟩ := h
    rfl
  obtain ⟨A, ts, D, U, ni, j, z, rfl, sv, hj, h5, hz, hni, q⟩ := h
  refine ⟨_, (pss_cons (ps_dput (hu_of hr) (pe_s_texts T (pv 0)) (pv 1) (pv 2) rfl)
    (pss_one (ps_expr (pe_m ns_Keeper C_Keeper_put T.cl_Keeper (by decide) hr (by first | decide | omega) pass0 (pe_s_keeper T (pv 0)) (pa_cons (pe_tup (pa_cons pe_str (pa_cons (pv 1) pa_nil))) (pa_cons (pv 2) pa_nil)))))), ?_⟩
  have tl : (tds 0 ts).length < sizeLine := by rw [tds_len]; exact Nat.lt_of_le_of_lt h5 (by decide)
  refine ⟨_, rfl, _, rfl, A.s, _, rfl, sv.raw, _, rfl, A.tx, _, rfl, DPut.k (k := .inr (nm j)) sv.tx tl, ?_⟩
  have e1 : putK (tds 0 ts) (.inr (nm j)) (.str z) = tds 0 (puT ts j z) := by
    unfold puT
    by_cases c : j < ts.length
    · rw [if_pos c]
      exact tds_put ts j z (by omega) c
    · have : j = ts.length := by omega
      subst this
      rw [if_neg c]
      exact tds_new ts z (by omega)
  rw [e1]
  obtain ⟨sv1, a1⟩ := sv.texts (ts' := puT ts j z)
  generalize upd H A.tx (.dK (tds 0 (puT ts j z))) = H1 at sv1 a1 ⊢
  obtain ⟨S, k1⟩ := sv1.kh
  refine ⟨_, rfl, A.s, _, rfl, sv1.raw, A.o, rfl, k1.raw.isI, ?_⟩
  refine ⟨_, rfl, (by show 2 ≤ sizeLine; decide), fun p np => ?_⟩
  have s2 := same_new (o := .tup [.str "text", .str (nm j)]) np
  refine ⟨_, rfl, A.o, p, A.k, S, _, _, _, _, _, [.inr "text", .inr (nm j)], _, .t ⟨z, hz⟩, rfl, k1.same s2, upd_same, rfl, hni, fun H' fr k2 => ?_⟩
  obtain ⟨sv2, a2⟩ := (sv1.same s2).put fr k2
  exact q H' ((a1.trans (Adv.same s2)).trans a2) sv2
abbrev s_S_put_modules : Stmt := inClass (topS 111) 1
abbrev N_S_put_modules : List Str := ["self"]
theorem sc_S_put_modules : FnScope N_S_put_modules ["self"] (defScope s_S_put_modules) := ⟨rfl, rfl, rfl, by decide +kernel, rfl, by decide +kernel, by decide +kernel⟩
theorem ok_put_modules (F : Fun K "_put_modules" "Server._put_modules" s_S_put_modules f fd) (T : NmS K mg aF CK CR CC CE CU CN CS CV aW tL tP tM tS) (C_Keeper_put : CalM P w K mg base CX0 1 CK "put" (spPut vS CK CR aF)) : FnOk P w K mg base CX0 2 f fd ["self"] (spPutM CV CK CR aF) := by
  refine F.ok sc_S_put_modules (fun vs H Q E h => ?_) (fun cdv A outer s H vs Q E hr h => ?_)
  · obtain ⟨A, ts, D, U, ni, rfl, _⟩ := h
    rfl
  obtain ⟨A, ts, D, U, ni, rfl, sv, h6, hni, q⟩ := h
  refine ⟨_, (pss_cons (ps_expr (pe_m ns_Keeper C_Keeper_put T.cl_Keeper (by decide) hr (by first | decide | omega) pass0 (pe_s_keeper T (pv 0)) (pa_cons (pe_tup (pa_cons pe_str pa_nil)) (pa_cons (pe_callTy call_tuple_of (by rfl) T.tuple_ (by decide +kernel) (pa_cons (pe_callB (call_sortedD rfl) (by rfl) T.sorted (by decide +kernel) (pa_cons (pe_s_texts T (pv 0)) pa_nil)) pa_nil)) pa_nil))))
    (pss_cons (ps_s_done T (pv 0) (pe_lst pa_nil))
    (pss_one (ps_s_undone T (pv 0) (pe_lst pa_nil))))), ?_⟩
  obtain ⟨S, k1⟩ := sv.kh
  refine ⟨_, rfl, A.s, _, rfl, sv.raw, A.o, rfl, k1.raw.isI, ?_⟩
  refine ⟨(by show 1 ≤ sizeLine; decide), fun p np => ?_⟩
  have s2 := same_new (o := .tup [.str "modules"]) np
  have sv2 := sv.same s2
  have hp2 : upd H p (.tup [.str "modules"]) p = some (.tup [.str "modules"]) := upd_same
  generalize upd H p (.tup [.str "modules"]) = H2 at s2 sv2 hp2 ⊢
  refine ⟨_, rfl, A.s, _, rfl, sv2.raw, A.tx, tds 0 ts, nms 0 ts.length, rfl, .inl sv2.tx, tds_keys ts 0, by rw [nms_len]; omega, fun ys l pm so nl => ?_⟩
  have ey := nms_of (n := ts.length) (by omega) pm so
  subst ey
  have s3 := same_new (o := .lst ((nms 0 ts.length).map V.str)) nl
  refine ⟨l, _, rfl, .inl ⟨.inl (.inl upd_same), fun q2 nq => ?_⟩⟩
  have s4 := s3.trans (same_new (o := .tup ((nms 0 ts.length).map V.str)) nq)
  have hq : upd (upd H2 l (.lst ((nms 0 ts.length).map V.str))) q2 (.tup ((nms 0 ts.length).map V.str)) q2 = some (.tup ((nms 0 ts.length).map V.str)) := upd_same
  have sv4 := sv2.same s4
  generalize upd (upd H2 l (.lst ((nms 0 ts.length).map V.str))) q2 (.tup ((nms 0 ts.length).map V.str)) = H4 at s4 hq sv4 ⊢
  obtain ⟨S, k4⟩ := sv4.kh
  refine ⟨A.o, p, A.k, S, _, _, _, _, _, [.inr "modules"], _, .m ⟨ts.length, by omega⟩, rfl, k4, s4 _ _ hp2, ⟨q2, rfl, hq⟩, hni, fun H5 fr k5 => ?_⟩
  obtain ⟨sv5, a5⟩ := sv4.put fr k5
  have ad5 : Adv A A H H5 := ((Adv.same s2).trans (Adv.same s4)).trans a5
  clear fr k5 a5 sv4 s4 hq k4 s3 s2 sv2 hp2
  refine ⟨Nat.zero_le _, fun l1 n1 => ⟨_, rfl, A.s, _, rfl, (sv5.same (same_new n1)).raw, fun H6 b6 _ r6 => ?_⟩⟩
  obtain ⟨sv6, a6⟩ := sv5.self n1 b6 r6 (.inl ⟨rfl, rfl, rfl, rfl⟩)
  refine ⟨Nat.zero_le _, fun l2 n2 => ⟨_, rfl, A.s, _, rfl, (sv6.same (same_new n2)).raw, fun H7 b7 _ r7 => ?_⟩⟩
  obtain ⟨sv7, a7⟩ := sv6.self n2 b7 r7 (.inr ⟨rfl, rfl, rfl, rfl⟩)
  exact q H7 ⟨A.s, A.tx, A.o, A.k, l1, l2⟩ rfl ((ad5.trans a6).trans a7) sv7
abbrev s_S_check : Stmt := inClass (topS 111) 3
abbrev N_S_check : List Str := ["self", "module"]
theorem sc_S_check : FnScope N_S_check ["self", "module"] (defScope s_S_check) := ⟨rfl, rfl, rfl, by decide +kernel, rfl, by decide +kernel, by decide +kernel⟩
theorem ok_check (F : Fun K "_check" "Server._check" s_S_check f fd) (T : NmS K mg aF CK CR CC CE CU CN CS CV aW tL tP tM tS) : FnOk P w K mg base (L2.CX P w) 1 f fd ["self", "module"] (spChk CV CK CR aF CU) := by
  refine F.okX sc_S_check (fun vs H Q E h => ?_) (fun cdv A outer s H vs Q E hr h => ?_)
  · obtain ⟨A, ts, D, U, ni, m, rfl, _⟩ := h
    rfl
  obtain ⟨A, ts, D, U, ni, m, rfl, sv, h5, q, qe, or_⟩ := h
  refine ⟨_, (pss_one (ps_if (pt_cmp (pc_dnotin (hu_of hr) (pv 1) (pe_s_texts T (pv 0)))) (pss_one (ps_raise rfl (takes_of rfl rfl rfl rfl) (pmk_own PySem.F.excBase_ValueError T.U.xI T.U.c_x T.U.kI (raises_own T.U.bI T.U.tI) rfl))) pss_nil)), ?_⟩
  refine ⟨_, rfl, _, rfl, A.s, _, rfl, sv.raw, A.tx, _, rfl, DGet.k (k := .inr m) sv.tx, ?_⟩
  rcases or_ with ⟨j, hj, rfl⟩ | no
  · have hx := List.getElem?_eq_getElem hj
    rw [tds_at ts (by omega) hx]
    exact ⟨_, rfl, q ⟨j, hj, rfl⟩⟩
  · rw [tds_no ts 0 m (by omega) fun j _ _ h => no j (by omega)]
    exact ⟨_, rfl, qe no⟩
abbrev s_S_program : Stmt := inClass (topS 111) 6
abbrev N_S_program : List Str := ["self", "module"]
theorem sc_S_program : FnScope N_S_program ["self"] (defScope s_S_program) := ⟨rfl, rfl, rfl, by decide +kernel, rfl, by decide +kernel, by decide +kernel⟩
theorem ok_program (F : Fun K "program" "Server.program" s_S_program f fd) (T : NmS K mg aF CK CR CC CE CU CN CS CV aW tL tP tM tS) : FnOk P w K mg base CX0 1 f fd ["self"] (spProg CV CK CR aF) := by
  refine F.ok sc_S_program (fun vs H Q E h => ?_) (fun cdv A outer s H vs Q E hr h => ?_)
  · obtain ⟨A, ts, D, U, ni, rfl, _⟩ := h
    rfl
  obtain ⟨A, ts, D, U, ni, rfl, sv, h5, q⟩ := h
  refine ⟨_, (pss_one (ps_ret (pe_dc (own := [(("module" : Str), 1)]) (g := (gName 1)) (tt := tYes) rfl sc_S_program.nd (pi_list (pe_callB (call_sortedD rfl) (by rfl) T.sorted (by decide +kernel) (pa_cons (pe_s_texts T (pv 0)) pa_nil))) (blkOk_by (N := N_S_program) (sc := defScope s_S_program) (by decide +kernel)) (fun _ _ _ _ _ => (pg_name (i := 1) sc_S_program.nd rfl (Or.inl rfl))) (fun _ _ _ _ _ => pts_nil) (fun _ _ _ _ _ => (pv 1)) (fun _ _ _ _ _ => (pe_dget (hu_of hr) (pe_s_texts T (pv 0)) (pv 1) (fun _ _ => rfl)))))), ?_⟩
  refine ⟨_, rfl, A.s, _, rfl, sv.raw, A.tx, tds 0 ts, nms 0 ts.length, rfl, .inl sv.tx, tds_keys ts 0, by rw [nms_len]; omega, fun ys l pm so nl => ?_⟩
  have ey := nms_of (n := ts.length) (by omega) pm so
  subst ey
  have s1 := same_new (o := .lst ((nms 0 ts.length).map V.str)) nl
  have sv1 := sv.same s1
  have hl1 : upd H l (.lst ((nms 0 ts.length).map V.str)) l = some (.lst ((nms 0 ts.length).map V.str)) := upd_same
  generalize upd H l (.lst ((nms 0 ts.length).map V.str)) = H1 at s1 sv1 hl1 ⊢
  refine ⟨l, rfl, ⟨_, SqL.of hl1⟩, fun D nD => ?_⟩
  have ln : ((nms 0 ts.length).map V.str).length = ts.length := by rw [List.length_map, nms_len]
  refine dc_walk (walk_list (K := K) (a := l) (xs := (nms 0 ts.length).map V.str)) (fun i H' => Same H H' ∧ Same H1 H' ∧ H' D = some (.dK (tds 0 (ts.take i)))) ⟨s1.trans (same_new nD), same_new nD, upd_same⟩ (fun i H' _ p => SqL.of (p.2.1 _ _ hl1)) ?_ ?_
  · rintro i x H' H2 hi ⟨p1, p2, p3⟩ ⟨rfl, hx⟩
    rw [ln] at hi
    rw [List.getElem?_map, nms_get hi] at hx
    cases hx
    refine ⟨rfl, ?_⟩
    have sv2 := sv1.same p2
    have hx := List.getElem?_eq_getElem hi
    refine ⟨_, rfl, _, rfl, A.s, _, rfl, sv2.raw, _, rfl, A.tx, .str ts[i], rfl, ?_, tds 0 (ts.take i), .inr (nm i), rfl, p3, ?_, ?_, ?_, ?_⟩
    · have := DGet.k (k := .inr (nm i)) sv2.tx
      rw [tds_at ts (by omega) hx] at this
      exact this
    · rw [tds_len]
      exact Nat.lt_of_le_of_lt (show _ ≤ 5 by rw [List.length_take]; omega) (by decide)
    · exact fun b o e => by rw [upd_ne (ne_of_none (s1 _ _ e) nD)]; exact p1 _ _ e
    · exact fun b o e => by rw [upd_ne (ne_of_none e nD)]; exact p2 _ _ e
    · have e2 := tds_new (ts.take i) ts[i] (by rw [List.length_take]; omega)
      rw [List.length_take, Nat.min_eq_left (by omega)] at e2
      rw [upd_same, e2, List.take_succ, hx]
      rfl
  · rintro H' ⟨p1, p2, p3⟩
    rw [ln, List.take_length] at p3
    exact q D H' (s1.free nD) p1 p3
end

end Sn

namespace Sn
open PySem PySem.Spec PyProof.Rows L2 TL
/-! ### steps of the server -/
section
variable {CV CK CR aF : Addr} {H : Hp} {A : SA} {ts : List Str} {D U : List Row} {ni : Nat}
theorem Sv.setD {as' : List Addr} {D' : List Row} (h : Sv CV CK CR aF H A ts D U ni) (r : Rs H as' D') : Sv CV CK CR aF (upd H A.d (.lst (as'.map V.ref))) A ts D' U ni ∧ Adv A A H (upd H A.d (.lst (as'.map V.ref))) := by
  obtain ⟨dx, h1⟩ := h.raw
  obtain ⟨S, k⟩ := h.kh
  obtain ⟨as, d1, d2⟩ := h.dn
  obtain ⟨us, u1, u2⟩ := h.un
  have g : ∀ {b : Addr} {w : HO}, H b = some w → kd w ≠ 2 → upd H A.d (.lst (as'.map V.ref)) b = some w := fun e y => (upd_ne (ne_kd e d1 y)).trans e
  have ft : FT H (upd H A.d (.lst (as'.map V.ref))) := fun b xs e => g e (by show (0 : Nat) ≠ 2; decide)
  refine ⟨⟨⟨dx, g h1 (by show (5 : Nat) ≠ 2; decide)⟩, g h.tx (by show (3 : Nat) ≠ 2; decide), ⟨S, k.keep fun b u e y => ?_⟩, ⟨as', upd_same, r.keep ft⟩, ⟨us, (upd_ne h.du.symm).trans u1, u2.keep ft⟩, h.du, h.dl, h.ul, h.ne⟩, fun b u e o => ⟨o, (upd_ne o.d).trans e⟩⟩
  rcases y with rfl | y
  · exact (upd_ne h.dl.symm).trans e
  · refine g e ?_
    cases u <;> first | exact y.elim | exact Nat.ne_of_beq_eq_false rfl
theorem Sv.setU {as' : List Addr} {U' : List Row} (h : Sv CV CK CR aF H A ts D U ni) (r : Rs H as' U') : Sv CV CK CR aF (upd H A.u (.lst (as'.map V.ref))) A ts D U' ni ∧ Adv A A H (upd H A.u (.lst (as'.map V.ref))) := by
  obtain ⟨dx, h1⟩ := h.raw
  obtain ⟨S, k⟩ := h.kh
  obtain ⟨as, d1, d2⟩ := h.dn
  obtain ⟨us, u1, u2⟩ := h.un
  have g : ∀ {b : Addr} {w : HO}, H b = some w → kd w ≠ 2 → upd H A.u (.lst (as'.map V.ref)) b = some w := fun e y => (upd_ne (ne_kd e u1 y)).trans e
  have ft : FT H (upd H A.u (.lst (as'.map V.ref))) := fun b xs e => g e (by show (0 : Nat) ≠ 2; decide)
  refine ⟨⟨⟨dx, g h1 (by show (5 : Nat) ≠ 2; decide)⟩, g h.tx (by show (3 : Nat) ≠ 2; decide), ⟨S, k.keep fun b u e y => ?_⟩, ⟨as, (upd_ne h.du).trans d1, d2.keep ft⟩, ⟨as', upd_same, r.keep ft⟩, h.du, h.dl, h.ul, h.ne⟩, fun b u e o => ⟨o, (upd_ne o.u).trans e⟩⟩
  rcases y with rfl | y
  · exact (upd_ne h.ul.symm).trans e
  · refine g e ?_
    cases u <;> first | exact y.elim | exact Nat.ne_of_beq_eq_false rfl
theorem Sv.tup (h : Sv CV CK CR aF H A ts D U ni) {H' : Hp} {A' : SA} (a : Adv A A' H H') : FT H H' := fun b xs e => (a b _ e (h.off e (by show (0 : Nat) < 2; decide))).2
end
section
variable (CV CK CR aF : Addr)
def spStep : Sp := fun vs H Q _ => ∃ A ts D U ni l q j b a, vs = [.ref A.s, .ref l] ∧ Sv CV CK CR aF H A ts D U ni ∧ H l = some (.lst [.ref q]) ∧ Off A l ∧ H q = some (.tup [.str (nm j), .str b, .str a]) ∧ j < ts.length ∧ ts.length ≤ 5 ∧ PyData.strOk a = true ∧ ni < 1000000 ∧ D.length < 1000 ∧
  ∀ H' A', A'.s = A.s → Adv A A' H H' → Sv CV CK CR aF H' A' (ts.set j a) (D ++ [⟨j, b, a⟩]) [] (ni + 1) → Q .non H'
def spUndo (CN : Addr) : Sp := fun vs H Q E => ∃ A ts D U ni, vs = [.ref A.s] ∧ Sv CV CK CR aF H A ts D U ni ∧ ts.length ≤ 5 ∧ ni < 1000000 ∧ U.length < 1000 ∧ (D = [] → E (.ref CN) none H) ∧
  ∀ D' r, D = D' ++ [r] → r.j < ts.length ∧ PyData.strOk r.b = true ∧ ∀ H', Adv A A H H' → Sv CV CK CR aF H' A (ts.set r.j r.b) D' (U ++ [r]) (ni + 1) → Q .non H'
def spRedo (CN : Addr) : Sp := fun vs H Q E => ∃ A ts D U ni, vs = [.ref A.s] ∧ Sv CV CK CR aF H A ts D U ni ∧ ts.length ≤ 5 ∧ ni < 1000000 ∧ D.length < 1000 ∧ (U = [] → E (.ref CN) none H) ∧
  ∀ U' r, U = U' ++ [r] → r.j < ts.length ∧ PyData.strOk r.a = true ∧ ∀ H', Adv A A H H' → Sv CV CK CR aF H' A (ts.set r.j r.a) (D ++ [r]) U' (ni + 1) → Q .non H'
def spOpenF : Sp := fun vs H Q _ => ∃ A ts D U ni, vs = [.ref A.s, .str (nm ts.length), .str ("" : Str)] ∧ Sv CV CK CR aF H A ts D U ni ∧ ts.length < 5 ∧ ni < 900000 ∧
  ∀ H' A', A'.s = A.s → Adv A A' H H' → Sv CV CK CR aF H' A' (ts ++ [("" : Str)]) [] [] (ni + 2) → Q .non H'
def spEditS (CU CE : Addr) : Sp := fun vs H Q E => ∃ A ts D U ni m ed s e z, vs = [.ref A.s, .str m, .ref ed] ∧ Sv CV CK CR aF H A ts D U ni ∧ H ed = some (.tup [.int s, .int e, .str z]) ∧ ts.length ≤ 5 ∧ (∀ x ∈ ts, Sm 3000 x) ∧ z.length ≤ 100 ∧ OkT z ∧ ni < 1000000 ∧ D.length < 1000 ∧
  ((∀ j, j < ts.length → m ≠ nm j) → E (.ref CU) none H) ∧ ((∃ j, j < ts.length ∧ m = nm j) ∨ ∀ j, j < ts.length → m ≠ nm j) ∧
  ∀ j x, m = nm j → ts[j]? = some x → (¬ (0 ≤ s ∧ s ≤ e ∧ e ≤ ((tl x).length : Int)) → ∀ H', Same H H' → E (.ref CE) none H') ∧
    ((0 ≤ s ∧ s ≤ e ∧ e ≤ ((tl x).length : Int)) → ∀ H' A', A'.s = A.s → Adv A A' H H' → Sv CV CK CR aF H' A' (ts.set j (spl x s e z)) (D ++ [⟨j, x, spl x s e z⟩]) [] (ni + 1) → Q .non H')
end
section
variable {P : Program} {w : World} {K : PySem.W.Frag} {mg : Str → Option Value} {base : Heap} {f : Addr} {fd : FuncData} {aF CK CR CC CE CU CN CS CV aW : Addr} {tL tP tM tS : PySem.Tok}
abbrev s_S_step : Stmt := inClass (topS 111) 10
abbrev N_S_step : List Str := ["self", "rows", "module", "_", "after"]
theorem sc_S_step : FnScope N_S_step ["self", "rows"] (defScope s_S_step) := ⟨rfl, rfl, rfl, by decide +kernel, rfl, by decide +kernel, by decide +kernel⟩
theorem ok_step (F : Fun K "_step" "Server._step" s_S_step f fd) (T : NmS K mg aF CK CR CC CE CU CN CS CV aW tL tP tM tS) (C_Server__put_text : CalM P w K mg base CX0 2 CV "_put_text" (spPutT CV CK CR aF)) : FnOk P w K mg base CX0 3 f fd ["self", "rows"] (spStep CV CK CR aF) := by
  refine F.ok sc_S_step (fun vs H Q E h => ?_) (fun cdv A outer s H vs Q E hr h => ?_)
  · obtain ⟨A, ts, D, U, ni, l, q, j, b, a, rfl, _⟩ := h
    rfl
  obtain ⟨A, ts, D, U, ni, l, q, j, b, a, rfl, sv, hl, ol, hq, hj, h5, ha, hni, hD, Qq⟩ := h
  refine ⟨_, (pss_cons (ps_for PassesOwn.never rfl (pi_list (pv 1)) (pg_tup rfl (pgs_cons (pg_name (i := 2) sc_S_step.nd rfl (Or.inl rfl)) (pgs_cons (pg_name (i := 3) sc_S_step.nd rfl (Or.inl rfl)) (pgs_cons (pg_name (i := 4) sc_S_step.nd rfl (Or.inl rfl)) pgs_nil)))) (pss_one (ps_expr (pe_m ns_Server C_Server__put_text T.cl_Server (by decide) hr (by first | decide | omega) pass0 (pv 0) (pa_cons (pv 2) (pa_cons (pv 4) pa_nil))))))
    (pss_cons (ps_expr (pe_bm PySem.F.plainAttrs_list PySem.F.slot_list_append PySem.F.type_list_append mt_append (pe_s_done T (pv 0)) (pa_cons (pe_callTy call_tuple_of (by rfl) T.tuple_ (by decide +kernel) (pa_cons (pv 1) pa_nil)) pa_nil)))
    (pss_one (ps_s_undone T (pv 0) (pe_lst pa_nil))))), ?_⟩
  refine ⟨_, rfl, l, rfl, ⟨_, SqL.of hl⟩, for_list (K := K) (a := l) (xs := [.ref q]) (fun i σ H' => ∃ v2 v3 v4, σ = [some (.ref A.s), some (.ref l), v2, v3, v4] ∧ Adv A A H H' ∧ Sv CV CK CR aF H' A (if i = 0 then ts else ts.set j a) D U (ni + i)) ⟨none, none, none, rfl, Adv.refl _ _, sv⟩
    (fun i σ H' _ ⟨_, _, _, e, ad, _⟩ => SqL.of (ad _ _ hl ol).2) ?_ ?_⟩
  · rintro i x σ H1 hi ⟨v2, v3, v4, rfl, ad, sv1⟩
    cases i with
    | succ i => simp at hi
    | zero =>
      cases hi
      have hq1 := (ad _ _ hq (sv.off hq (by show (0 : Nat) < 2; decide))).2
      refine ⟨q, _, rfl, .inl (.inl hq1), rfl, _, _, rfl, _, _, rfl, _, _, rfl, rfl, ?_⟩
      refine ⟨_, rfl, A.s, rfl, sv1.raw.isI, _, rfl, _, rfl, A, ts, D, U, ni, j, a, rfl, sv1, Nat.le_of_lt hj, h5, ha, hni, fun H2 a2 sv2 => ?_⟩
      have e : puT ts j a = ts.set j a := if_pos hj
      rw [e] at sv2
      exact ⟨_, _, _, rfl, ad.trans a2, sv2⟩
  · rintro σ H1 ⟨v2, v3, v4, rfl, ad, sv1⟩
    have sv1 : Sv CV CK CR aF H1 A (ts.set j a) D U (ni + 1) := sv1
    obtain ⟨as, d1, d2⟩ := sv1.dn
    have hl1 := (ad _ _ hl ol).2
    have hq1 := (ad _ _ hq (sv.off hq (by show (0 : Nat) < 2; decide))).2
    refine ⟨_, rfl, A.s, _, rfl, sv1.raw, .inl ⟨rfl, _, SqL.of d1⟩, _, rfl, l, _, rfl, .inl ⟨.inl (.inl hl1), fun t nt => ?_⟩⟩
    have s2 := same_new (o := .tup [.ref q]) nt
    have sv2 := sv1.same s2
    have ht : upd H1 t (.tup [.ref q]) t = some (.tup [.ref q]) := upd_same
    have rt : RowAt (upd H1 t (.tup [.ref q])) t ⟨j, b, a⟩ := ⟨q, ht, s2 _ _ hq1⟩
    have dl2 := d2.len
    refine ⟨A.d, _, _, rfl, rfl, s2 _ _ d1, Nat.lt_of_le_of_lt (show _ ≤ 1000 by rw [List.length_map]; omega) (by decide), ?_⟩
    obtain ⟨sv3, a3⟩ := sv2.setD (.snoc (d2.keep fun _ _ e => s2 _ _ e) rt)
    rw [List.map_append] at sv3 a3
    have ad3 := (ad.trans (Adv.same s2)).trans a3
    refine ⟨Nat.zero_le _, fun l2 n2 => ⟨_, rfl, A.s, _, rfl, (sv3.same (same_new n2)).raw, fun H7 b7 _ r7 => ?_⟩⟩
    obtain ⟨sv7, a7⟩ := sv3.self n2 b7 r7 (.inr ⟨rfl, rfl, rfl, rfl⟩)
    exact Qq H7 ⟨A.s, A.tx, A.o, A.k, A.d, l2⟩ rfl (ad3.trans a7) sv7
abbrev s_S_undo : Stmt := inClass (topS 111) 11
abbrev N_S_undo : List Str := ["self", "rows", "module", "before", "_"]
theorem sc_S_undo : FnScope N_S_undo ["self"] (defScope s_S_undo) := ⟨rfl, rfl, rfl, by decide +kernel, rfl, by decide +kernel, by decide +kernel⟩
theorem ok_undo (F : Fun K "undo" "Server.undo" s_S_undo f fd) (T : NmS K mg aF CK CR CC CE CU CN CS CV aW tL tP tM tS) (C_Server__put_text : CalM P w K mg base CX0 2 CV "_put_text" (spPutT CV CK CR aF)) : FnOk P w K mg base (L2.CX P w) 3 f fd ["self"] (spUndo CV CK CR aF CN) := by
  refine F.okX sc_S_undo (fun vs H Q E h => ?_) (fun cdv A outer s H vs Q E hr h => ?_)
  · obtain ⟨A, ts, D, U, ni, rfl, _⟩ := h
    rfl
  obtain ⟨A, ts, D, U, ni, rfl, sv, h5, hni, hU, qe, q⟩ := h
  refine ⟨_, (pss_cons (ps_if (pt_not (pt_truth (pe_s_done T (pv 0)) (by intro _; rfl))) (pss_one (ps_raise rfl (takes_of rfl rfl rfl rfl) (pmk_own PySem.F.excBase_ValueError T.N.xI T.N.c_x T.N.kI (raises_own T.N.bI T.N.tI) rfl))) pss_nil)
    (pss_cons (ps_set (i := 1) sc_S_undo.nd rfl (Or.inl rfl) (pe_bm0 PySem.F.plainAttrs_list PySem.F.slot_list_pop PySem.F.type_list_pop mt_pop (pe_s_done T (pv 0))))
    (pss_cons (ps_for (passes_of rfl) rfl (pi_tup (pv 1)) (pg_tup rfl (pgs_cons (pg_name (i := 2) sc_S_undo.nd rfl (Or.inl rfl)) (pgs_cons (pg_name (i := 3) sc_S_undo.nd rfl (Or.inl rfl)) (pgs_cons (pg_name (i := 4) sc_S_undo.nd rfl (Or.inl rfl)) pgs_nil)))) (pss_one (ps_expr (pe_m ns_Server C_Server__put_text T.cl_Server (by decide) hr (by first | decide | omega) pass0 (pv 0) (pa_cons (pv 2) (pa_cons (pv 3) pa_nil))))))
    (pss_one (ps_expr (pe_bm PySem.F.plainAttrs_list PySem.F.slot_list_append PySem.F.type_list_append mt_append (pe_s_undone T (pv 0)) (pa_cons (pv 1) pa_nil))))))), ?_⟩
  obtain ⟨as, d1, d2⟩ := sv.dn
  refine ⟨_, rfl, A.s, _, rfl, sv.raw, _, .inl ⟨_, SqL.of d1, rfl⟩, ?_⟩
  rcases snoc_or D with rfl | ⟨D', r, rfl⟩
  · have ea := d2.nil'
    subst ea
    exact iteT (qe rfl)
  obtain ⟨as', t, rfl, d3, ⟨q0, r1, r2⟩⟩ := d2.last
  obtain ⟨hj, ok, qq⟩ := q D' r rfl
  refine iteF' (by simp) ?_
  refine ⟨_, rfl, A.s, _, rfl, sv.raw, .inl ⟨rfl, _, SqL.of d1⟩, A.d, _, .ref t, rfl, rfl, d1, by simp, ?_⟩
  have e1 : ((as' ++ [t]).map V.ref).dropLast = as'.map V.ref := by simp
  rw [e1]
  obtain ⟨sv1, a1⟩ := sv.setD d3
  generalize upd H A.d (.lst (as'.map V.ref)) = H1 at sv1 a1 ⊢
  have ht1 := sv.tup a1 _ _ r1
  refine ⟨_, rfl, t, rfl, ⟨_, .inl (.inl ht1)⟩, for_tup (K := K) (a := t) (xs := [.ref q0]) (fun i σ H' => ∃ v2 v3 v4, σ = [some (.ref A.s), some (.ref t), v2, v3, v4] ∧ Adv A A H1 H' ∧ Sv CV CK CR aF H' A (if i = 0 then ts else ts.set r.j r.b) D' U (ni + i)) ⟨none, none, none, rfl, Adv.refl _ _, sv1⟩
    (fun i σ H' _ ⟨_, _, _, e, ad, _⟩ => .inl (.inl (sv1.tup ad _ _ ht1))) ?_ ?_⟩
  · rintro i x σ H2 hi ⟨v2, v3, v4, rfl, ad, sv2⟩
    cases i with
    | succ i => simp at hi
    | zero =>
      cases hi
      have hq2 := sv1.tup ad _ _ (sv.tup a1 _ _ r2)
      refine ⟨q0, _, rfl, .inl (.inl hq2), rfl, _, _, rfl, _, _, rfl, _, _, rfl, rfl, ?_⟩
      refine ⟨_, rfl, A.s, rfl, sv2.raw.isI, _, rfl, _, rfl, A, ts, D', U, ni, r.j, r.b, rfl, sv2, Nat.le_of_lt hj, h5, ok, hni, fun H3 a3 sv3 => ?_⟩
      have e : puT ts r.j r.b = ts.set r.j r.b := if_pos hj
      rw [e] at sv3
      exact ⟨_, _, _, rfl, ad.trans a3, sv3⟩
  · rintro σ H2 ⟨v2, v3, v4, rfl, ad, sv2⟩
    have sv2 : Sv CV CK CR aF H2 A (ts.set r.j r.b) D' U (ni + 1) := sv2
    obtain ⟨us, u1, u2⟩ := sv2.un
    have ul := u2.len
    refine ⟨_, rfl, A.s, _, rfl, sv2.raw, .inl ⟨rfl, _, SqL.of u1⟩, _, rfl, A.u, _, _, rfl, rfl, u1, Nat.lt_of_le_of_lt (show _ ≤ 1000 by rw [List.length_map]; omega) (by decide), ?_⟩
    have rt : RowAt H2 t r := RowAt.keep (fun b xs e => sv1.tup ad _ _ (sv.tup a1 _ _ e)) ⟨q0, r1, r2⟩
    obtain ⟨sv3, a3⟩ := sv2.setU (.snoc u2 rt)
    rw [List.map_append] at sv3 a3
    exact qq _ ((a1.trans ad).trans a3) sv3
abbrev s_S_redo : Stmt := inClass (topS 111) 12
abbrev N_S_redo : List Str := ["self", "rows", "module", "_", "after"]
theorem sc_S_redo : FnScope N_S_redo ["self"] (defScope s_S_redo) := ⟨rfl, rfl, rfl, by decide +kernel, rfl, by decide +kernel, by decide +kernel⟩
theorem ok_redo (F : Fun K "redo" "Server.redo" s_S_redo f fd) (T : NmS K mg aF CK CR CC CE CU CN CS CV aW tL tP tM tS) (C_Server__put_text : CalM P w K mg base CX0 2 CV "_put_text" (spPutT CV CK CR aF)) : FnOk P w K mg base (L2.CX P w) 3 f fd ["self"] (spRedo CV CK CR aF CN) := by
  refine F.okX sc_S_redo (fun vs H Q E h => ?_) (fun cdv A outer s H vs Q E hr h => ?_)
  · obtain ⟨A, ts, D, U, ni, rfl, _⟩ := h
    rfl
  obtain ⟨A, ts, D, U, ni, rfl, sv, h5, hni, hD, qe, q⟩ := h
  refine ⟨_, (pss_cons (ps_if (pt_not (pt_truth (pe_s_undone T (pv 0)) (by intro _; rfl))) (pss_one (ps_raise rfl (takes_of rfl rfl rfl rfl) (pmk_own PySem.F.excBase_ValueError T.N.xI T.N.c_x T.N.kI (raises_own T.N.bI T.N.tI) rfl))) pss_nil)
    (pss_cons (ps_set (i := 1) sc_S_redo.nd rfl (Or.inl rfl) (pe_bm0 PySem.F.plainAttrs_list PySem.F.slot_list_pop PySem.F.type_list_pop mt_pop (pe_s_undone T (pv 0))))
    (pss_cons (ps_for (passes_of rfl) rfl (pi_tup (pv 1)) (pg_tup rfl (pgs_cons (pg_name (i := 2) sc_S_redo.nd rfl (Or.inl rfl)) (pgs_cons (pg_name (i := 3) sc_S_redo.nd rfl (Or.inl rfl)) (pgs_cons (pg_name (i := 4) sc_S_redo.nd rfl (Or.inl rfl)) pgs_nil)))) (pss_one (ps_expr (pe_m ns_Server C_Server__put_text T.cl_Server (by decide) hr (by first | decide | omega) pass0 (pv 0) (pa_cons (pv 2) (pa_cons (pv 4) pa_nil))))))
    (pss_one (ps_expr (pe_bm PySem.F.plainAttrs_list PySem.F.slot_list_append PySem.F.type_list_append mt_append (pe_s_done T (pv 0)) (pa_cons (pv 1) pa_nil))))))), ?_⟩
  obtain ⟨as, d1, d2⟩ := sv.un
  refine ⟨_, rfl, A.s, _, rfl, sv.raw, _, .inl ⟨_, SqL.of d1, rfl⟩, ?_⟩
  rcases snoc_or U with rfl | ⟨U', r, rfl⟩
  · have ea := d2.nil'
    subst ea
    exact iteT (qe rfl)
  obtain ⟨as', t, rfl, d3, ⟨q0, r1, r2⟩⟩ := d2.last
  obtain ⟨hj, ok, qq⟩ := q U' r rfl
  refine iteF' (by simp) ?_
  refine ⟨_, rfl, A.s, _, rfl, sv.raw, .inl ⟨rfl, _, SqL.of d1⟩, A.u, _, .ref t, rfl, rfl, d1, by simp, ?_⟩
  have e1 : ((as' ++ [t]).map V.ref).dropLast = as'.map V.ref := by simp
  rw [e1]
  obtain ⟨sv1, a1⟩ := sv.setU d3
  generalize upd H A.u (.lst (as'.map V.ref)) = H1 at sv1 a1 ⊢
  have ht1 := sv.tup a1 _ _ r1
  refine ⟨_, rfl, t, rfl, ⟨_, .inl (.inl ht1)⟩, for_tup (K := K) (a := t) (xs := [.ref q0]) (fun i σ H' => ∃ v2 v3 v4, σ = [some (.ref A.s), some (.ref t), v2, v3, v4] ∧ Adv A A H1 H' ∧ Sv CV CK CR aF H' A (if i = 0 then ts else ts.set r.j r.a) D U' (ni + i)) ⟨none, none, none, rfl, Adv.refl _ _, sv1⟩
    (fun i σ H' _ ⟨_, _, _, e, ad, _⟩ => .inl (.inl (sv1.tup ad _ _ ht1))) ?_ ?_⟩
  · rintro i x σ H2 hi ⟨v2, v3, v4, rfl, ad, sv2⟩
    cases i with
    | succ i => simp at hi
    | zero =>
      cases hi
      have hq2 := sv1.tup ad _ _ (sv.tup a1 _ _ r2)
      refine ⟨q0, _, rfl, .inl (.inl hq2), rfl, _, _, rfl, _, _, rfl, _, _, rfl, rfl, ?_⟩
      refine ⟨_, rfl, A.s, rfl, sv2.raw.isI, _, rfl, _, rfl, A, ts, D, U', ni, r.j, r.a, rfl, sv2, Nat.le_of_lt hj, h5, ok, hni, fun H3 a3 sv3 => ?_⟩
      have e : puT ts r.j r.a = ts.set r.j r.a := if_pos hj
      rw [e] at sv3
      exact ⟨_, _, _, rfl, ad.trans a3, sv3⟩
  · rintro σ H2 ⟨v2, v3, v4, rfl, ad, sv2⟩
    have sv2 : Sv CV CK CR aF H2 A (ts.set r.j r.a) D U' (ni + 1) := sv2
    obtain ⟨us, u1, u2⟩ := sv2.dn
    have ul := u2.len
    refine ⟨_, rfl, A.s, _, rfl, sv2.raw, .inl ⟨rfl, _, SqL.of u1⟩, _, rfl, A.d, _, _, rfl, rfl, u1, Nat.lt_of_le_of_lt (show _ ≤ 1000 by rw [List.length_map]; omega) (by decide), ?_⟩
    have rt : RowAt H2 t r := RowAt.keep (fun b xs e => sv1.tup ad _ _ (sv.tup a1 _ _ e)) ⟨q0, r1, r2⟩
    obtain ⟨sv3, a3⟩ := sv2.setD (.snoc u2 rt)
    rw [List.map_append] at sv3 a3
    exact qq _ ((a1.trans ad).trans a3) sv3
abbrev s_S_open_file : Stmt := inClass (topS 111) 7
abbrev N_S_open_file : List Str := ["self", "module", "text"]
theorem sc_S_open_file : FnScope N_S_open_file ["self", "module", "text"] (defScope s_S_open_file) := ⟨rfl, rfl, rfl, by decide +kernel, rfl, by decide +kernel, by decide +kernel⟩
theorem ok_open_file (F : Fun K "open_file" "Server.open_file" s_S_open_file f fd) (T : NmS K mg aF CK CR CC CE CU CN CS CV aW tL tP tM tS) (C_is_name : Cal P w K mg base CX0 6 "is_name" spIsName) (C_is_text : Cal P w K mg base CX0 2 "is_text" spIsText)
    (C_Server__put_text : CalM P w K mg base CX0 2 CV "_put_text" (spPutT CV CK CR aF)) (C_Server__put_modules : CalM P w K mg base CX0 2 CV "_put_modules" (spPutM CV CK CR aF)) : FnOk P w K mg base (L2.CX P w) 7 f fd ["self", "module", "text"] (spOpenF CV CK CR aF) := by
  refine F.okX sc_S_open_file (fun vs H Q E h => ?_) (fun cdv A outer s H vs Q E hr h => ?_)
  · obtain ⟨A, ts, D, U, ni, rfl, _⟩ := h
    rfl
  obtain ⟨A, ts, D, U, ni, rfl, sv, h5, hni, q⟩ := h
  refine ⟨_, (pss_cons (ps_if (pt_cmp (pc_din (hu_of hr) (pv 1) (pe_s_texts T (pv 0)))) (pss_one ps_never) pss_nil)
    (pss_cons (ps_if (PW.pt (pw_or (pt_not (pt_val (pe_c C_is_name hr (by first | decide | omega) pass0 (pa_cons (pv 1) pa_nil)))) (pw_or (pt_not (pt_val (pe_c C_is_text hr (by first | decide | omega) pass0 (pa_cons (pv 2) pa_nil)))) (pw_or1 (pt_cmpR op_eq (pe_callB call_lenD (by rfl) T.len PySem.boot_len (pa_cons (pe_s_texts T (pv 0)) pa_nil)) (pe_glob (v := .int 6) (by rfl) T.g_MOST_MODULES ⟨_, rfl⟩) (nomark _)))))) (pss_one ps_never) pss_nil)
    (pss_cons (ps_expr (pe_m ns_Server C_Server__put_text T.cl_Server (by decide) hr (by first | decide | omega) pass0 (pv 0) (pa_cons (pv 1) (pa_cons (pv 2) pa_nil))))
    (pss_one (ps_expr (pe_m0 ns_Server C_Server__put_modules T.cl_Server (by decide) hr (by first | decide | omega) pass0 (pv 0))))))), ?_⟩
  have no := tds_no ts 0 (nm ts.length) (by omega) fun j _ _ h e => by
    have := nm_inj _ (by omega) _ (by omega) e
    omega
  have dg := DGet.k (k := .inr (nm ts.length)) sv.tx
  rw [no] at dg
  refine ⟨_, rfl, _, rfl, A.s, _, rfl, sv.raw, A.tx, _, rfl, dg, _, rfl, iteF ?_⟩
  refine ⟨_, rfl, nm ts.length, rfl, by have := nm_len _ (show ts.length < 7 by omega); omega, fun H1 s1 => ?_⟩
  rw [nm_name _ (by omega)]
  refine ⟨_, rfl, iteF ?_⟩
  refine ⟨_, rfl, _, rfl, by decide, ?_⟩
  refine ⟨_, rfl, iteF ?_⟩
  have sv1 := sv.same s1
  refine ⟨_, rfl, A.s, _, rfl, sv1.raw, A.tx, _, rfl, sv1.tx, rfl, _, rfl, ?_⟩
  refine iteN (fun z => ?_) ?_
  · have z := V.int.inj z
    rw [tds_len] at z
    omega
  refine ⟨_, rfl, A.s, rfl, sv1.raw.isI, _, rfl, _, rfl, A, ts, D, U, ni, ts.length, _, rfl, sv1, Nat.le_refl _, by omega, by decide +kernel, by omega, fun H2 a2 sv2 => ?_⟩
  have e : puT ts ts.length "" = ts ++ [("" : Str)] := if_neg (Nat.lt_irrefl _)
  rw [e] at sv2
  refine ⟨_, rfl, A.s, rfl, sv2.raw.isI, A, _, D, U, ni + 1, rfl, sv2, by simp; omega, by omega, fun H3 A' eA a3 sv3 => ?_⟩
  exact q H3 A' eA (((Adv.same s1).trans a2).trans a3) sv3
abbrev s_S_edit : Stmt := inClass (topS 111) 9
abbrev N_S_edit : List Str := ["self", "module", "edit", "text"]
theorem sc_S_edit : FnScope N_S_edit ["self", "module", "edit"] (defScope s_S_edit) := ⟨rfl, rfl, rfl, by decide +kernel, rfl, by decide +kernel, by decide +kernel⟩
theorem ok_edit (F : Fun K "edit" "Server.edit" s_S_edit f fd) (T : NmS K mg aF CK CR CC CE CU CN CS CV aW tL tP tM tS) (C_Server__check : CalM P w K mg base (L2.CX P w) 1 CV "_check" (spChk CV CK CR aF CU)) (C_apply_edit : Cal P w K mg base (L2.CX P w) 3 "apply_edit" (spEdit CE))
    (C_Server__step : CalM P w K mg base CX0 3 CV "_step" (spStep CV CK CR aF)) : FnOk P w K mg base (L2.CX P w) 4 f fd ["self", "module", "edit"] (spEditS CV CK CR aF CU CE) := by
  refine F.okX sc_S_edit (fun vs H Q E h => ?_) (fun cdv A outer s H vs Q E hr h => ?_)
  · obtain ⟨A, ts, D, U, ni, m, ed, s, e, z, rfl, _⟩ := h
    rfl
  obtain ⟨A, ts, D, U, ni, m, ed, s, e, z, rfl, sv, hed, h5, sm, hz, oz, hni, hD, qu, or_, q⟩ := h
  refine ⟨_, (pss_cons (ps_expr (pe_m ns_Server C_Server__check T.cl_Server (by decide) hr (by first | decide | omega) (passes_call (takes_of rfl rfl rfl rfl) (fun _ _ _ _ h => h)) (pv 0) (pa_cons (pv 1) pa_nil)))
    (pss_cons (ps_set (i := 3) sc_S_edit.nd rfl (Or.inl rfl) (pe_c C_apply_edit hr (by first | decide | omega) (passes_call (takes_of rfl rfl rfl rfl) (fun _ _ _ _ h => h)) (pa_cons (pe_dget (hu_of hr) (pe_s_texts T (pv 0)) (pv 1) (fun _ _ => rfl)) (pa_cons (pv 2) pa_nil))))
    (pss_one (ps_expr (pe_m ns_Server C_Server__step T.cl_Server (by decide) hr (by first | decide | omega) pass0 (pv 0) (pa_cons (pe_lst (pa_cons (pe_tup (pa_cons (pv 1) (pa_cons (pe_dget (hu_of hr) (pe_s_texts T (pv 0)) (pv 1) (fun _ _ => rfl)) (pa_cons (pv 3) pa_nil)))) pa_nil)) pa_nil)))))), ?_⟩
  refine ⟨_, rfl, A.s, rfl, sv.raw.isI, _, rfl, A, ts, D, U, ni, m, rfl, sv, h5, fun ⟨j, hj, em⟩ => ?_, qu, or_⟩
  subst em
  have hx := List.getElem?_eq_getElem hj
  obtain ⟨q1, q2⟩ := q j _ rfl hx
  have hsm := sm _ (List.getElem_mem hj)
  generalize ts[j] = x at hx q1 q2 hsm
  have dg := DGet.k (k := .inr (nm j)) sv.tx
  rw [tds_at ts (by omega) hx] at dg
  refine ⟨_, rfl, A.s, _, rfl, sv.raw, _, rfl, A.tx, _, rfl, dg, _, rfl, x, ed, s, e, z, rfl, hed, by have := hsm.1; omega, by omega, fun r H1 hr s1 => ?_, fun H1 hn s1 => ?_⟩
  · rw [joint_one] at hr
    by_cases c : 0 ≤ s ∧ s ≤ e ∧ e ≤ ((tl x).length : Int)
    · have fits : Fits (tl x) s e (tl z) := by
        refine ⟨c.1, c.2.1, c.2.2, List.all_eq_true.mpr fun y hy => oz y hy, ?_⟩
        have h1 := hsm.1
        rw [len_tl x] at h1
        rw [len_tl z] at hz
        omega
      rw [if_pos fits] at hr
      cases hr
      have sv1 := sv.same s1
      have dg1 := DGet.k (k := .inr (nm j)) sv1.tx
      rw [tds_at ts (by omega) hx] at dg1
      refine ⟨_, rfl, A.s, rfl, sv1.raw.isI, _, rfl, _, rfl, A.s, _, rfl, sv1.raw, _, rfl, A.tx, _, rfl, dg1, _, rfl, by show 3 ≤ sizeLine; decide, fun p np => ⟨by show 1 ≤ sizeLine; decide, fun l nl => ?_⟩⟩
      have s2 := same_new (o := .tup [.str (nm j), .str x, .str (spl x s e z)]) np
      have hp : upd H1 p (.tup [.str (nm j), .str x, .str (spl x s e z)]) p = some (.tup [.str (nm j), .str x, .str (spl x s e z)]) := upd_same
      have sv2 := sv1.same s2
      have s3 := same_new (o := .lst [.ref p]) nl
      have sv3 := sv2.same s3
      have hp3 := s3 _ _ hp
      have ol := sv2.nil nl
      refine ⟨A, ts, D, U, ni, l, p, j, x, spl x s e z, rfl, sv3, upd_same, ol, hp3, hj, h5, (spl_ok hsm.2 oz).strOk, hni, hD, fun H4 A' eA a4 sv4 => ?_⟩
      exact q2 c H4 A' eA ((Adv.same ((s1.trans s2).trans s3)).trans a4) sv4
    · rw [if_neg (fun y => c ⟨y.1, y.2.1, y.2.2.1⟩)] at hr
      cases hr
  · refine q1 (fun c => ?_) H1 s1
    have fits : Fits (tl x) s e (tl z) := by
      refine ⟨c.1, c.2.1, c.2.2, List.all_eq_true.mpr fun y hy => oz y hy, ?_⟩
      have h1 := hsm.1
      rw [len_tl x] at h1
      rw [len_tl z] at hz
      omega
    rw [joint_one, if_pos fits] at hn
    cases hn
end

end Sn

namespace Sn
open PySem PySem.Spec PyProof.Rows L2 TL
/-! ### the server is made -/
def sf1 (D : Addr) : List (Str × V) := [("_texts", .ref D)]
def sf2 (D o : Addr) : List (Str × V) := [("_texts", .ref D), ("_keeper", .ref o)]
def sf3 (D o d : Addr) : List (Str × V) := [("_texts", .ref D), ("_keeper", .ref o), ("_done", .ref d)]
section
variable (CV CK CR aF : Addr)
def spSI : Sp := fun vs H Q _ => ∃ p dx tp ts, vs = [.ref p, .ref tp] ∧ H p = some (.ins CV dx []) ∧ H tp = some (.dK (tds 0 ts)) ∧ 1 ≤ ts.length ∧ ts.length ≤ 5 ∧ (∀ x ∈ ts, Sm 3000 x) ∧
  ∀ H' A ni, A.s = p → (∀ b u, H b = some u → b ≠ p → Off A b ∧ H' b = some u) → ni ≤ 10 → Sv CV CK CR aF H' A ts [] [] ni → Q .non H'
end
theorem DGet.fr {H : Hp} {a : Addr} {o : Obj} {kvs : List (Key × V)} {k : Key} (e : H a = some (.frz o (.dK kvs))) : DGet H a (kV k) (valV kvs k) := .inl ⟨kvs, k, .inr ⟨o, e⟩, rfl, rfl⟩
theorem tds_ith : ∀ (ts : List Str) (i j : Nat) (x : Str), ts[j]? = some x → (tds i ts)[j]? = some (.inr (nm (i + j)), .str x)
  | [], _, _, _, h => by simp at h
  | z :: r, i, 0, x, h => by
    cases h
    rfl
  | z :: r, i, j + 1, x, h => by
    show (tds (i + 1) r)[j]? = _
    rw [tds_ith r (i + 1) j x (by simpa using h), show i + 1 + j = i + (j + 1) by omega]
theorem Kh.away {CV CK CR aF p o dx : Addr} {fs : List (Str × V)} {A : KAd} {S : KS Vt} {ni : Nat} {H H' : Hp} (h : Kh vS CK CR aF H o A S (fun _ => none) [] .non 0 ni) (f : ∀ b u, H b = some u → b ≠ p → H' b = some u) (po : p ≠ o) (hp : H p = some (.ins CV dx fs)) : Kh vS CK CR aF H' o A S (fun _ => none) [] .non 0 ni := by
  have g : ∀ {b : Addr} {w : HO}, H b = some w → kd w ≠ 5 → H' b = some w := fun e y => f _ _ e (ne_kd e hp y)
  have ft : FT H H' := fun b xs e => g e (Nat.ne_of_beq_eq_false rfl)
  obtain ⟨dy, k1⟩ := h.raw
  exact ⟨⟨dy, f _ _ k1 po.symm⟩, h.inp.keep ft fun kvs e => g e (Nat.ne_of_beq_eq_false rfl), h.ent.keep ft (fun kvs e => g e (Nat.ne_of_beq_eq_false rfl)) (Nat.le_refl _), h.run.keep (fun kvs e => g e (Nat.ne_of_beq_eq_false rfl)) (Nat.le_refl _), fun j => ⟨fun z => absurd z (by simp), fun _ p z => by cases z⟩,
    h.ended.keep ft (fun vs e => g e (Nat.ne_of_beq_eq_false rfl)) (Nat.le_refl _), h.d1, h.d2, h.d3, h.ck⟩
section
variable {P : Program} {w : World} {K : PySem.W.Frag} {mg : Str → Option Value} {base : Heap} {f : Addr} {fd : FuncData} {aF CK CR CC CE CU CN CS CV aW : Addr} {tL tP tM tS : PySem.Tok}
abbrev s_S_init : Stmt := inClass (topS 111) 0
abbrev N_S_init : List Str := ["self", "program", "module"]
theorem sc_S_init : FnScope N_S_init ["self", "program"] (defScope s_S_init) := ⟨rfl, rfl, rfl, by decide +kernel, rfl, by decide +kernel, by decide +kernel⟩
theorem ok_S_init (F : Fun K "__init__" "Server.__init__" s_S_init f fd) (T : NmS K mg aF CK CR CC CE CU CN CS CV aW tL tP tM tS) (C_is_name : Cal P w K mg base CX0 6 "is_name" spIsName) (C_is_text : Cal P w K mg base CX0 2 "is_text" spIsText)
    (I_Keeper : CalO P w K mg base CX0 1 CK (spKI vS CK CR aF)) (C_Keeper_put : CalM P w K mg base CX0 1 CK "put" (spPut vS CK CR aF)) (C_Server__put_modules : CalM P w K mg base CX0 2 CV "_put_modules" (spPutM CV CK CR aF)) : FnOk P w K mg base CX0 7 f fd ["self", "program"] (spSI CV CK CR aF) := by
  refine F.ok sc_S_init (fun vs H Q E h => ?_) (fun cdv A outer s H vs Q E hr h => ?_)
  · obtain ⟨p, dx, tp, ts, rfl, _⟩ := h
    rfl
  obtain ⟨p, dx, tp, ts, rfl, hp, htp, h1, h5, sm, q⟩ := h
  refine ⟨_, (pss_cons (ps_if (pt_cmpR op_gt (pe_callB call_lenD (by rfl) T.len PySem.boot_len (pa_cons (pv 1) pa_nil)) (pe_glob (v := .int 6) (by rfl) T.g_MOST_MODULES ⟨_, rfl⟩) (nomark _)) (pss_one ps_never) pss_nil)
    (pss_cons (ps_lock (ps_for PassesOwn.never rfl (pi_keys (pv 1)) (pg_name (i := 2) sc_S_init.nd rfl (Or.inl rfl)) (pss_one (ps_if (PW.pt (pw_or (pt_not (pt_val (pe_c C_is_name hr (by first | decide | omega) pass0 (pa_cons (pv 2) pa_nil)))) (pw_or1 (pt_not (pt_val (pe_c C_is_text hr (by first | decide | omega) pass0 (pa_cons (pe_dget (hu_of hr) (pv 1) (pv 2) (fun _ _ => rfl)) pa_nil))))))) (pss_one ps_never) pss_nil))))
    (pss_cons (ps_fld (pv 0) (pe_lock (pe_dc (own := [(("module" : Str), 2)]) (g := (gName 2)) (tt := tYes) rfl sc_S_init.nd (pi_keys (pv 1)) (blkOk_by (N := N_S_init) (sc := defScope s_S_init) (by decide +kernel)) (fun _ _ _ _ _ => (pg_name (i := 2) sc_S_init.nd rfl (Or.inl rfl))) (fun _ _ _ _ _ => pts_nil) (fun _ _ _ _ _ => (pv 2)) (fun _ _ _ _ _ => (pe_dget (hu_of hr) (pv 1) (pv 2) (fun _ _ => rfl))))) rfl)
    (pss_cons (ps_fld (pv 0) (pe_mk I_Keeper hr (by first | decide | omega) T.mk_Keeper pass0 (pa_cons (pe_glob (v := .ref aF) (by rfl) T.c_compute rfl) pa_nil)) rfl)
    (pss_cons (ps_fld (pv 0) (pe_lst pa_nil) rfl)
    (pss_cons (ps_fld (pv 0) (pe_lst pa_nil) rfl)
    (pss_cons (ps_lock (ps_for PassesOwn.never rfl (pi_keys (pe_s_texts T (pv 0))) (pg_name (i := 2) sc_S_init.nd rfl (Or.inl rfl)) (pss_one (ps_expr (pe_m ns_Keeper C_Keeper_put T.cl_Keeper (by decide) hr (by first | decide | omega) pass0 (pe_s_keeper T (pv 0)) (pa_cons (pe_tup (pa_cons pe_str (pa_cons (pv 2) pa_nil))) (pa_cons (pe_dget (hu_of hr) (pe_s_texts T (pv 0)) (pv 2) (fun _ _ => rfl)) pa_nil)))))))
    (pss_one (ps_expr (pe_m0 ns_Server C_Server__put_modules T.cl_Server (by decide) hr (by first | decide | omega) pass0 (pv 0))))))))))), ?_⟩
  refine ⟨_, rfl, tp, _, rfl, htp, _, _, rfl, rfl, _, rfl, ?_⟩
  refine iteN (by rw [tds_len]; omega) ?_
  refine ⟨tp, _, htp, trivial, fun od => ?_⟩
  have hlk : upd H tp (.frz od (.dK (tds 0 ts))) tp = some (.frz od (.dK (tds 0 ts))) := upd_same
  refine ⟨_, rfl, tp, od, rfl, .inl ⟨_, hlk, ?_⟩⟩
  refine for_it walk_keys (fun i σ H' => Same (upd H tp (.frz od (.dK (tds 0 ts)))) H' ∧ ∃ v, σ = [some (.ref p), some (.ref tp), v]) ⟨fun _ _ e => e, none, rfl⟩ (fun i σ H' _ u => u.1 _ _ hlk) ?_ ?_
  · rintro i x σ H1 H2 hi ⟨s1, v, rfl⟩ ⟨rfl, k, y, hk, rfl⟩
    rw [tds_len] at hi
    have hx := List.getElem?_eq_getElem hi
    rw [tds_ith ts 0 i _ hx, Nat.zero_add] at hk
    cases hk
    have hxs := sm _ (List.getElem_mem hi)
    generalize ts[i] = x at hx hxs
    refine ⟨_, rfl, nm i, rfl, by have := nm_len i (by omega); omega, fun H3 s3 => ?_⟩
    rw [nm_name i (by omega)]
    refine ⟨_, rfl, iteF ?_⟩
    have s13 := s1.trans s3
    have dg : DGet H3 tp (kV (.inr (nm i))) (some (.str x)) := by
      have := DGet.fr (k := .inr (nm i)) (s13 _ _ hlk)
      rw [tds_at ts (by omega) hx] at this
      exact this
    refine ⟨_, rfl, _, rfl, tp, .str x, rfl, dg, x, rfl, by have := hxs.1; omega, ?_⟩
    have ok : (decide (x.length ≤ 4000) && (tl x).all okc) = true := by
      rw [Bool.and_eq_true]
      exact ⟨decide_eq_true (by have := hxs.1; omega), List.all_eq_true.mpr fun y hy => hxs.2 y hy⟩
    rw [ok]
    exact ⟨_, rfl, iteF ⟨s13, _, rfl⟩⟩
  · rintro σ H1 ⟨s1, v, rfl⟩
    refine ⟨s1 _ _ hlk, ?_⟩
    have s2 : Same H (upd H1 tp (.dK (tds 0 ts))) := fun b o e => by
      by_cases c : b = tp
      · rw [c] at e ⊢
        rw [upd_same, ← e, htp]
      · rw [upd_ne c]
        exact s1 _ _ ((upd_ne c).trans e)
    have htp2 : upd H1 tp (.dK (tds 0 ts)) tp = some (.dK (tds 0 ts)) := upd_same
    generalize upd H1 tp (.dK (tds 0 ts)) = H2 at s2 htp2 ⊢
    refine ⟨tp, _, htp2, trivial, fun od2 => ?_⟩
    have hl2 : upd H2 tp (.frz od2 (.dK (tds 0 ts))) tp = some (.frz od2 (.dK (tds 0 ts))) := upd_same
    refine ⟨_, rfl, tp, od2, rfl, .inl ⟨_, hl2, fun D nD => ?_⟩⟩
    have nD2 : H2 D = none := by
      have c : D ≠ tp := fun z => by rw [z, upd_same] at nD; cases nD
      rwa [upd_ne c] at nD
    refine dc_walk walk_keys (fun i H' => Same (upd H2 tp (.frz od2 (.dK (tds 0 ts)))) H' ∧ H' D = some (.dK (tds 0 (ts.take i)))) ⟨same_new nD, upd_same⟩ (fun i H' _ u => u.1 _ _ hl2) ?_ ?_
    · rintro i x H3 H4 hi ⟨p1, p2⟩ ⟨rfl, k, y, hk, rfl⟩
      rw [tds_len] at hi
      have hx := List.getElem?_eq_getElem hi
      rw [tds_ith ts 0 i _ hx, Nat.zero_add] at hk
      cases hk
      refine ⟨rfl, ?_⟩
      have dg : DGet H4 tp (kV (.inr (nm i))) (some (.str ts[i])) := by
        have := DGet.fr (k := .inr (nm i)) (p1 _ _ hl2)
        rw [tds_at ts (by omega) hx] at this
        exact this
      refine ⟨_, rfl, _, rfl, _, rfl, tp, _, rfl, dg, tds 0 (ts.take i), .inr (nm i), rfl, p2, ?_, ?_, ?_⟩
      · rw [tds_len]
        exact Nat.lt_of_le_of_lt (show _ ≤ 5 by rw [List.length_take]; omega) (by decide)
      · exact fun b o e => by rw [upd_ne (ne_of_none e nD)]; exact p1 _ _ e
      · have e2 := tds_new (ts.take i) ts[i] (by rw [List.length_take]; omega)
        rw [List.length_take, Nat.min_eq_left (by omega)] at e2
        rw [upd_same, e2, List.take_succ, hx]
        rfl
    rintro H3 ⟨p1, p2⟩
    rw [tds_len, List.take_length] at p2
    refine ⟨p1 _ _ hl2, ?_⟩
    have s3 : Same H2 (upd H3 tp (.dK (tds 0 ts))) := fun b o e => by
      by_cases c : b = tp
      · rw [c] at e ⊢
        rw [upd_same, ← e, htp2]
      · rw [upd_ne c]
        exact p1 _ _ ((upd_ne c).trans e)
    have hD3 : upd H3 tp (.dK (tds 0 ts)) D = some (.dK (tds 0 ts)) := by
      rw [upd_ne (ne_of_none htp2 nD2).symm]
      exact p2
    generalize upd H3 tp (.dK (tds 0 ts)) = H3' at s3 hD3 ⊢
    have hp3 := s3 _ _ (s2 _ _ hp)
    refine ⟨_, rfl, p, CV, dx, _, rfl, hp3, T.cl_Server, T.n_texts, by decide, ?_⟩
    have e4 : putF "_texts" (.ref D) [] = sf1 D := by kernel_rfl
    rw [e4]
    have hp4 : upd H3' p (.ins CV dx (sf1 D)) p = some (.ins CV dx (sf1 D)) := upd_same
    have f4 : ∀ b u, H3' b = some u → b ≠ p → upd H3' p (.ins CV dx (sf1 D)) b = some u := fun b u e c => (upd_ne c).trans e
    have n4 : ∀ b, upd H3' p (.ins CV dx (sf1 D)) b = none → H3' b = none := fun b e => by
      by_cases c : b = p
      · rw [c, upd_same] at e
        cases e
      · rwa [upd_ne c] at e
    generalize upd H3' p (.ins CV dx (sf1 D)) = H4 at hp4 f4 n4 ⊢
    have hD4 := f4 _ _ hD3 (ne_kd hD3 hp3 (Nat.ne_of_beq_eq_false rfl))
    refine fun o dy no ndy ney => ⟨o, dy, rfl, T.ckr, upd_same, fun H5 KA fr5 ni5 ne5 nr5 nl5 kh5 => ⟨rfl, ?_⟩⟩
    have fr : ∀ b u, H4 b = some u → upd (upd H4 dy (.own o)) o (.ins CK dy []) b = some u := fun b u e => by rw [upd_ne (ne_of_none e no), upd_ne (ne_of_none e ndy)]; exact e
    have f5 : ∀ b u, H4 b = some u → H5 b = some u := fun b u e => fr5 b u (fr b u e) (ne_of_none e no)
    have n5 : ∀ b, upd (upd H4 dy (.own o)) o (.ins CK dy []) b = none → H4 b = none := fun b e => by
      cases c : H4 b with
      | none => rfl
      | some u => rw [fr b u c] at e; cases e
    have hp5 := f5 _ _ hp4
    have hD5 := f5 _ _ hD4
    have po : p ≠ o := ne_of_none hp4 no
    have nDo : D ≠ o := ne_of_none hD4 no
    refine ⟨_, rfl, p, CV, dx, _, rfl, hp5, T.cl_Server, T.n_keeper, (by show 1 < 1000; decide), ?_⟩
    have e5 : putF "_keeper" (.ref o) (sf1 D) = (sf2 D o) := by kernel_rfl
    rw [e5]
    have f6 : ∀ b u, H5 b = some u → b ≠ p → upd H5 p (.ins CV dx (sf2 D o)) b = some u := fun b u e c => (upd_ne c).trans e
    have kh6 := kh5.away f6 po hp5
    have hp6 : upd H5 p (.ins CV dx (sf2 D o)) p = some (.ins CV dx (sf2 D o)) := upd_same
    have hD6 := f6 _ _ hD5 (ne_kd hD5 hp5 (Nat.ne_of_beq_eq_false rfl))
    generalize upd H5 p (.ins CV dx (sf2 D o)) = H6 at f6 kh6 hp6 hD6 ⊢
    refine ⟨Nat.zero_le _, fun d nd => ?_⟩
    have s7 := same_new (o := .lst []) nd
    refine ⟨_, rfl, p, CV, dx, _, rfl, s7 _ _ hp6, T.cl_Server, T.n_done, (by show 2 < 1000; decide), ?_⟩
    have e7 : putF "_done" (.ref d) (sf2 D o) = (sf3 D o d) := by kernel_rfl
    rw [e7]
    have f7 : ∀ b u, H6 b = some u → b ≠ p → upd (upd H6 d (.lst [])) p (.ins CV dx (sf3 D o d)) b = some u := fun b u e c => (upd_ne c).trans (s7 _ _ e)
    have kh7 := kh6.away f7 po hp6
    have hp7 : upd (upd H6 d (.lst [])) p (.ins CV dx (sf3 D o d)) p = some (.ins CV dx (sf3 D o d)) := upd_same
    have hD7 := f7 _ _ hD6 (ne_kd hD6 hp6 (Nat.ne_of_beq_eq_false rfl))
    have hd7 : upd (upd H6 d (.lst [])) p (.ins CV dx (sf3 D o d)) d = some (.lst []) := (upd_ne (ne_of_none hp6 nd).symm).trans upd_same
    generalize upd (upd H6 d (.lst [])) p (.ins CV dx (sf3 D o d)) = H7 at f7 kh7 hp7 hD7 hd7 ⊢
    refine ⟨Nat.zero_le _, fun u nu => ?_⟩
    have s8 := same_new (o := .lst []) nu
    refine ⟨_, rfl, p, CV, dx, _, rfl, s8 _ _ hp7, T.cl_Server, T.n_undone, (by show 3 < 1000; decide), ?_⟩
    have e8 : putF "_undone" (.ref u) (sf3 D o d) = sf ⟨.ref D, .ref o, .ref d, .ref u⟩ := by kernel_rfl
    rw [e8]
    have f8 : ∀ b w, H7 b = some w → b ≠ p → upd (upd H7 u (.lst [])) p (.ins CV dx (sf ⟨.ref D, .ref o, .ref d, .ref u⟩)) b = some w := fun b w e c => (upd_ne c).trans (s8 _ _ e)
    have kh8 := kh7.away f8 po hp7
    have hp8 : upd (upd H7 u (.lst [])) p (.ins CV dx (sf ⟨.ref D, .ref o, .ref d, .ref u⟩)) p = some (.ins CV dx (sf ⟨.ref D, .ref o, .ref d, .ref u⟩)) := upd_same
    have hD8 := f8 _ _ hD7 (ne_kd hD7 hp7 (Nat.ne_of_beq_eq_false rfl))
    have hd8 := f8 _ _ hd7 (ne_kd hd7 hp7 (Nat.ne_of_beq_eq_false rfl))
    have hu8 : upd (upd H7 u (.lst [])) p (.ins CV dx (sf ⟨.ref D, .ref o, .ref d, .ref u⟩)) u = some (.lst []) := (upd_ne (ne_of_none hp7 nu).symm).trans upd_same
    generalize upd (upd H7 u (.lst [])) p (.ins CV dx (sf ⟨.ref D, .ref o, .ref d, .ref u⟩)) = H8 at f8 kh8 hp8 hD8 hd8 hu8 ⊢
    -- the parts together
    have kl : ∃ vs, H6 KA.l = some (.lst vs) := by
      obtain ⟨_, k5, _⟩ := kh6.ended
      exact ⟨_, k5⟩
    obtain ⟨vl, hkl⟩ := kl
    have sv8 : Sv CV CK CR aF H8 ⟨p, D, o, KA, d, u⟩ ts [] [] 0 := ⟨⟨dx, hp8⟩, hD8, ⟨_, kh8⟩, ⟨[], hd8, .nil⟩, ⟨[], hu8, .nil⟩, ne_of_none hd7 nu, (ne_of_none hkl nd).symm, (ne_of_none (f7 _ _ hkl (ne_kd hkl hp6 (Nat.ne_of_beq_eq_false rfl))) nu).symm, T.cvk⟩
    have ad8 : ∀ b w, H b = some w → b ≠ p → Off ⟨p, D, o, KA, d, u⟩ b ∧ H8 b = some w := fun b w e c => by
      have g2 := s2 _ _ e
      have g4 := f4 _ _ (s3 _ _ g2) c
      have g6 := f6 _ _ (f5 _ _ g4) c
      have g7 := f7 _ _ g6 c
      exact ⟨⟨c, ne_of_none g2 nD2, ne_of_none g4 no, ne_of_none g4 (n5 _ ni5), ne_of_none g4 (n5 _ ne5), ne_of_none g4 (n5 _ nr5), ne_of_none g4 (n5 _ nl5), ne_of_none g6 nd, ne_of_none g7 nu⟩, f8 _ _ g7 c⟩
    clear f8 kh8 hp8 hD8 hd8 hu8 f7 kh7 hp7 hD7 hd7 f6 kh6 hp6 hD6 f5 fr5 kh5 fr n5 f4 n4 s8 s7
    obtain ⟨S0, k8⟩ := sv8.kh
    obtain ⟨dy8, ky8⟩ := k8.raw
    obtain ⟨dp8, hp8⟩ := sv8.raw
    have htx : H8 D = some (.dK (tds 0 ts)) := sv8.tx
    refine ⟨D, _, htx, trivial, fun od3 => ?_⟩
    have hlD : upd H8 D (.frz od3 (.dK (tds 0 ts))) D = some (.frz od3 (.dK (tds 0 ts))) := upd_same
    have fl : ∀ b w, H8 b = some w → b ≠ D → upd H8 D (.frz od3 (.dK (tds 0 ts))) b = some w := fun b w e c => (upd_ne c).trans e
    generalize upd H8 D (.frz od3 (.dK (tds 0 ts))) = Hl at hlD fl ⊢
    have kl8 : Kh vS CK CR aF Hl o KA S0 (fun _ => none) [] .non 0 0 := k8.keep fun b w e y => fl b w e fun z => by
      rcases y with y | y
      · obtain ⟨_, k5, _⟩ := k8.ended
        rw [y] at z
        rw [z, htx] at k5
        cases k5
      · rw [z, htx] at e
        cases e
        exact y
    have pl : Hl p = _ := fl _ _ hp8 (ne_kd hp8 htx (Nat.ne_of_beq_eq_false rfl))
    refine ⟨_, rfl, p, _, rfl, ⟨_, pl⟩, D, od3, rfl, .inl ⟨_, hlD, ?_⟩⟩
    obtain ⟨_, ki, _⟩ := kl8.inp
    obtain ⟨_, ke, _⟩ := kl8.ent
    obtain ⟨_, ko⟩ := kl8.raw
    have nlo : ∀ {b w}, Hl b = some w → kd w < 4 → b ≠ o ∧ b ≠ KA.i ∧ b ≠ KA.e := fun {b w} e y => ⟨ne_kd e ko (show kd w ≠ 5 by omega), ne_kd e ki (show kd w ≠ 4 by omega), ne_kd e ke (show kd w ≠ 4 by omega)⟩
    have npi : p ≠ KA.i ∧ p ≠ KA.e := ⟨ne_kd pl ki (Nat.ne_of_beq_eq_false rfl), ne_kd pl ke (Nat.ne_of_beq_eq_false rfl)⟩
    refine for_it walk_keys (fun i σ H' => (∃ v, σ = [some (.ref p), some (.ref tp), v]) ∧ (∀ b w, Hl b = some w → b ≠ o → b ≠ KA.i → b ≠ KA.e → H' b = some w) ∧ ∃ S, Kh vS CK CR aF H' o KA S (fun _ => none) [] .non 0 i) ⟨⟨_, rfl⟩, fun _ _ e _ _ _ => e, _, kl8⟩
      (fun i σ H' _ u => let ⟨a, b, c⟩ := nlo hlD (by show (1 : Nat) < 4; decide); u.2.1 _ _ hlD a b c) ?_ ?_
    · rintro i x σ H9 H10 hi ⟨⟨v, rfl⟩, fr, S, k9⟩ ⟨rfl, k, y, hk, rfl⟩
      rw [tds_len] at hi
      have hx := List.getElem?_eq_getElem hi
      rw [tds_ith ts 0 i _ hx, Nat.zero_add] at hk
      cases hk
      have hxs := sm _ (List.getElem_mem hi)
      generalize ts[i] = x at hx hxs
      have p9 := fr _ _ pl po npi.1 npi.2
      refine ⟨_, rfl, p, _, rfl, ⟨_, p9⟩, o, rfl, k9.raw.isI, ?_⟩
      refine ⟨_, rfl, (by show 2 ≤ sizeLine; decide), fun t nt => ?_⟩
      have s10 := same_new (o := .tup [.str "text", .str (nm i)]) nt
      have dg : DGet (upd H10 t (.tup [.str "text", .str (nm i)])) D (kV (.inr (nm i))) (some (.str x)) := by
        obtain ⟨a, b, c⟩ := nlo hlD (by show (1 : Nat) < 4; decide)
        have := DGet.fr (k := .inr (nm i)) (s10 _ _ (fr _ _ hlD a b c))
        rw [tds_at ts (by omega) hx] at this
        exact this
      refine ⟨_, rfl, p, _, rfl, ⟨_, s10 _ _ p9⟩, _, rfl, D, _, rfl, dg, ?_⟩
      refine ⟨o, t, KA, S, _, _, _, _, _, [.inr "text", .inr (nm i)], _, .t ⟨x, hxs.2.strOk⟩, rfl, k9.same s10, upd_same, rfl, by omega, fun H11 f11 k11 => ?_⟩
      exact ⟨⟨_, rfl⟩, fun b w e c1 c2 c3 => f11 _ _ (s10 _ _ (fr _ _ e c1 c2 c3)) c1 c2 c3, _, k11⟩
    · rintro σ H9 ⟨⟨v, rfl⟩, fr, S, k9⟩
      rw [tds_len] at k9
      have hD9 : H9 D = _ := let ⟨a, b, c⟩ := nlo hlD (by show (1 : Nat) < 4; decide); fr _ _ hlD a b c
      refine ⟨hD9, ?_⟩
      have f10 : ∀ b w, H8 b = some w → b ≠ o → b ≠ KA.i → b ≠ KA.e → upd H9 D (.dK (tds 0 ts)) b = some w := fun b w e c1 c2 c3 => by
        by_cases z : b = D
        · rw [z] at e ⊢
          rw [upd_same, ← e, htx]
        · rw [upd_ne z]
          exact fr _ _ (fl _ _ e z) c1 c2 c3
      have k10 : Kh vS CK CR aF (upd H9 D (.dK (tds 0 ts))) o KA S (fun _ => none) [] .non 0 ts.length := k9.keep fun b w e y => (upd_ne fun z => by
        rcases y with y | y
        · obtain ⟨_, k5, _⟩ := k9.ended
          rw [← y, z, hD9] at k5
          cases k5
        · rw [z, hD9] at e
          cases e
          exact y).trans e
      obtain ⟨sv10, a10⟩ := sv8.put f10 k10
      generalize upd H9 D (.dK (tds 0 ts)) = H11 at sv10 a10 ⊢
      refine ⟨_, rfl, p, rfl, sv10.raw.isI, ⟨p, D, o, KA, d, u⟩, ts, [], [], ts.length, rfl, sv10, by omega, by omega, fun H12 A' eA a12 sv12 => ?_⟩
      refine q H12 A' _ eA (fun b w e c => ?_) (by omega) sv12
      obtain ⟨o8, e8⟩ := ad8 b w e c
      obtain ⟨o10, e10⟩ := a10 b w e8 o8
      exact a12 b w e10 o10
end

end Sn

namespace Sn
open PySem PySem.Spec PyProof.Rows L2 TL
/-! ### equal dicts of texts -/
structure NmD (mg : Str → Option Value) : Prop extends Nm mg where
  dict_ : mg "dict" = none
def spSameD : Sp := fun vs H Q _ => ∃ a b ts, vs = [.ref a, .ref b] ∧ a ≠ b ∧ H a = some (.dK (tds 0 ts)) ∧ H b = some (.dK (tds 0 ts)) ∧ ts.length ≤ 5 ∧ ∀ H', Same H H' → Q (.bl true) H'
section
variable {P : Program} {w : World} {K : PySem.W.Frag} {mg : Str → Option Value} {base : Heap} {f : Addr} {fd : FuncData}
theorem ok_sameD (F : Fun K "_law_same" "_law_same" s_same f fd) (T : NmD mg) (C_law_is_integer : Cal P w K mg base CX0 1 "_law_is_integer" spIsInt) (C_law_same_items : Cal P w K mg base CX0 7 "_law_same_items" (spItems 3)) (C_law_same : Cal P w K mg base CX0 8 "_law_same" (spSame 4)) :
    FnOk P w K mg base CX0 9 f fd ["actual", "expected"] spSameD := by
  refine F.ok sc_same (fun vs H Q E h => ?_) (fun cdv A outer s H vs Q E hr h => ?_)
  · obtain ⟨a, b, ts, rfl, _⟩ := h
    rfl
  obtain ⟨a, b, ts, rfl, ab, ha, hb, h5, q⟩ := h
  refine ⟨_, (pss_cons (ps_if (pt_cmpR op_isN (pv 1) pe_non (nomark _)) (pss_one (ps_ret (pe_cmpR op_isN (pv 0) pe_non (nomark _)))) pss_nil)
    (pss_cons (ps_if (pt_val (pe_callB call_isi (by rfl) T.isinstance (by decide +kernel) (pa_cons (pv 1) (pa_cons (pe_bltn (v := .ty "bool") (u := .type "bool") (by rfl) T.bool_ (by decide +kernel) rfl) pa_nil)))) (pss_one (ps_ret (pe_and (pe_callB call_isi (by rfl) T.isinstance (by decide +kernel) (pa_cons (pv 0) (pa_cons (pe_bltn (v := .ty "bool") (u := .type "bool") (by rfl) T.bool_ (by decide +kernel) rfl) pa_nil))) (pe_one (pe_cmpR op_eq (pv 0) (pv 1) (nomark _)))))) pss_nil)
    (pss_cons (ps_if (pt_val (pe_callB call_isi (by rfl) T.isinstance (by decide +kernel) (pa_cons (pv 1) (pa_cons (pe_bltn (v := .ty "int") (u := .type "int") (by rfl) T.int_ (by decide +kernel) rfl) pa_nil)))) (pss_one (ps_ret (pe_and (pe_c C_law_is_integer hr (by first | decide | omega) pass0 (pa_cons (pv 0) pa_nil)) (pe_one (pe_cmpR op_eq (pv 0) (pv 1) (nomark _)))))) pss_nil)
    (pss_cons (ps_if (pt_val (pe_callB call_isi (by rfl) T.isinstance (by decide +kernel) (pa_cons (pv 1) (pa_cons (pe_bltn (v := .ty "str") (u := .type "str") (by rfl) T.str_ (by decide +kernel) rfl) pa_nil)))) (pss_one (ps_ret (pe_and (pe_callB call_isi (by rfl) T.isinstance (by decide +kernel) (pa_cons (pv 0) (pa_cons (pe_bltn (v := .ty "str") (u := .type "str") (by rfl) T.str_ (by decide +kernel) rfl) pa_nil))) (pe_one (pe_cmpR op_eq (pv 0) (pv 1) (nomark _)))))) pss_nil)
    (pss_cons (ps_if (pt_val (pe_callB call_isi (by rfl) T.isinstance (by decide +kernel) (pa_cons (pv 1) (pa_cons (pe_bltn (v := .ty "tuple") (u := .type "tuple") (by rfl) T.tuple_ (by decide +kernel) rfl) pa_nil)))) (pss_one (ps_ret (pe_and (pe_callB call_isi (by rfl) T.isinstance (by decide +kernel) (pa_cons (pv 0) (pa_cons (pe_bltn (v := .ty "tuple") (u := .type "tuple") (by rfl) T.tuple_ (by decide +kernel) rfl) pa_nil))) (pe_one (pe_c C_law_same_items hr (by first | decide | omega) pass0 (pa_cons (pv 0) (pa_cons (pv 1) pa_nil))))))) pss_nil)
    (pss_cons (ps_if (pt_val (pe_callB call_isi (by rfl) T.isinstance (by decide +kernel) (pa_cons (pv 1) (pa_cons (pe_bltn (v := .ty "list") (u := .type "list") (by rfl) T.list_ (by decide +kernel) rfl) pa_nil)))) (pss_one (ps_ret (pe_and (pe_callB call_isi (by rfl) T.isinstance (by decide +kernel) (pa_cons (pv 0) (pa_cons (pe_bltn (v := .ty "list") (u := .type "list") (by rfl) T.list_ (by decide +kernel) rfl) pa_nil))) (pe_one (pe_c C_law_same_items hr (by first | decide | omega) pass0 (pa_cons (pv 0) (pa_cons (pv 1) pa_nil))))))) pss_nil)
    (pss_cons (ps_if (PW.pt (pw_or (pt_not (pt_val (pe_callB call_isi (by rfl) T.isinstance (by decide +kernel) (pa_cons (pv 0) (pa_cons (pe_bltn (v := .ty "dict") (u := .type "dict") (by rfl) T.dict_ (by decide +kernel) rfl) pa_nil))))) (pw_or1 (pt_cmpR op_ne (pe_callB call_lenD (by rfl) T.len PySem.boot_len (pa_cons (pv 0) pa_nil)) (pe_callB call_lenD (by rfl) T.len PySem.boot_len (pa_cons (pv 1) pa_nil)) (nomark _))))) (pss_one (ps_ret pe_bl)) pss_nil)
    (pss_cons (ps_lock (ps_for PassesOwn.never rfl (pi_keys (pv 1)) (pg_name (i := 2) sc_same.nd rfl (Or.inl rfl)) (pss_one (ps_if (PW.pt (pw_or (pt_cmp (pc_dnotin (hu_of hr) (pv 2) (pv 0))) (pw_or1 (pt_not (pt_val (pe_c C_law_same hr (by first | decide | omega) pass0 (pa_cons (pe_dget (hu_of hr) (pv 0) (pv 2) (fun _ _ => rfl)) (pa_cons (pe_dget (hu_of hr) (pv 1) (pv 2) (fun _ _ => rfl)) pa_nil)))))))) (pss_one (ps_ret pe_bl)) pss_nil))))
    (pss_cons (ps_lock (ps_for PassesOwn.never rfl (pi_keys (pv 0)) (pg_name (i := 2) sc_same.nd rfl (Or.inl rfl)) (pss_one (ps_if (pt_val (pe_callB call_isi (by rfl) T.isinstance (by decide +kernel) (pa_cons (pv 2) (pa_cons (pe_bltn (v := .ty "bool") (u := .type "bool") (by rfl) T.bool_ (by decide +kernel) rfl) pa_nil)))) (pss_one (ps_ret pe_bl)) pss_nil))))
    (pss_one (ps_ret pe_bl))))))))))), ?_⟩
  refine ⟨_, rfl, rfl, _, rfl, iteN (fun z => nomatch z) ?_⟩
  refine ⟨_, rfl, _, _, _, _, false, rfl, .ty _, .base (.dK hb), kit_ty (by decide +kernel), _, rfl, ?_⟩
  refine ⟨_, rfl, _, _, _, _, false, rfl, .ty _, .base (.dK hb), kit_ty (by decide +kernel), _, rfl, ?_⟩
  refine ⟨_, rfl, _, _, _, _, false, rfl, .ty _, .base (.dK hb), kit_ty (by decide +kernel), _, rfl, ?_⟩
  refine ⟨_, rfl, _, _, _, _, false, rfl, .ty _, .base (.dK hb), kit_ty (by decide +kernel), _, rfl, ?_⟩
  refine ⟨_, rfl, _, _, _, _, false, rfl, .ty _, .base (.dK hb), kit_ty (by decide +kernel), _, rfl, ?_⟩
  refine ⟨_, rfl, _, _, _, _, true, rfl, .ty _, .base (.dK ha), kit_ty (by decide +kernel), _, rfl, ?_⟩
  refine ⟨_, rfl, a, _, rfl, ha, _, rfl, b, _, rfl, hb, rfl, _, rfl, ?_⟩
  refine iteNS rfl ?_
  refine ⟨b, _, hb, trivial, fun od => ?_⟩
  have hlb : upd H b (.frz od (.dK (tds 0 ts))) b = some (.frz od (.dK (tds 0 ts))) := upd_same
  have hla : upd H b (.frz od (.dK (tds 0 ts))) a = some (.dK (tds 0 ts)) := (upd_ne ab).trans ha
  have back : ∀ {H'}, upd H b (.frz od (.dK (tds 0 ts))) = H' → Same H (upd H' b (.dK (tds 0 ts))) := fun {H'} e c o k => by
    subst e
    rw [upd_upd]
    by_cases z : c = b
    · rw [z] at k ⊢
      rw [upd_same, ← k, hb]
    · rw [upd_ne z]
      exact k
  refine ⟨_, rfl, b, od, rfl, .inl ⟨_, hlb, ?_⟩⟩
  refine for_it walk_keys (fun i σ H' => (∃ v, σ = [some (.ref a), some (.ref b), v]) ∧ upd H b (.frz od (.dK (tds 0 ts))) = H') ⟨⟨_, rfl⟩, rfl⟩ (fun i σ H' _ u => u.2 ▸ hlb) ?_ ?_
  · rintro i x σ H1 H2 hi ⟨⟨v, rfl⟩, e⟩ ⟨rfl, k, y, hk, rfl⟩
    rw [tds_len] at hi
    have hx := List.getElem?_eq_getElem hi
    rw [tds_ith ts 0 i _ hx, Nat.zero_add] at hk
    cases hk
    have d1 : DGet H2 a (kV (.inr (nm i))) (some (.str ts[i])) := by
      have := DGet.k (k := .inr (nm i)) (e ▸ hla)
      rw [tds_at ts (by omega) hx] at this
      exact this
    have d2 : DGet H2 b (kV (.inr (nm i))) (some (.str ts[i])) := by
      have := DGet.fr (k := .inr (nm i)) (e ▸ hlb)
      rw [tds_at ts (by omega) hx] at this
      exact this
    refine ⟨_, rfl, _, rfl, a, _, rfl, d1, ?_⟩
    refine ⟨_, rfl, iteF ?_⟩
    refine ⟨_, rfl, _, rfl, a, _, rfl, d1, _, rfl, _, rfl, b, _, rfl, d2, _, _, rfl, Al.sc rfl, _, rfl, iteF ?_⟩
    exact ⟨⟨_, rfl⟩, e⟩
  · rintro σ H1 ⟨⟨v, rfl⟩, e⟩
    refine ⟨e ▸ hlb, ?_⟩
    have s2 := back e
    generalize upd H1 b (.dK (tds 0 ts)) = H2 at s2 ⊢
    have ha2 := s2 _ _ ha
    refine ⟨a, _, ha2, trivial, fun od2 => ?_⟩
    have hl2 : upd H2 a (.frz od2 (.dK (tds 0 ts))) a = some (.frz od2 (.dK (tds 0 ts))) := upd_same
    refine ⟨_, rfl, a, od2, rfl, .inl ⟨_, hl2, ?_⟩⟩
    refine for_it walk_keys (fun i σ H' => (∃ v, σ = [some (.ref a), some (.ref b), v]) ∧ upd H2 a (.frz od2 (.dK (tds 0 ts))) = H') ⟨⟨_, rfl⟩, rfl⟩ (fun i σ H' _ u => u.2 ▸ hl2) ?_ ?_
    · rintro i x σ H3 H4 hi ⟨⟨v, rfl⟩, e⟩ ⟨rfl, k, y, hk, rfl⟩
      rw [tds_len] at hi
      have hx := List.getElem?_eq_getElem hi
      rw [tds_ith ts 0 i _ hx, Nat.zero_add] at hk
      cases hk
      refine ⟨_, rfl, _, _, _, _, false, rfl, .ty _, .base (.str _), kit_ty (by decide +kernel), _, rfl, ?_⟩
      exact ⟨⟨_, rfl⟩, e⟩
    · rintro σ H3 ⟨⟨v, rfl⟩, e⟩
      refine ⟨e ▸ hl2, ?_⟩
      refine q _ fun c o k => ?_
      rw [← e, upd_upd]
      by_cases z : c = a
      · rw [z] at k ⊢
        rw [upd_same, ← k, ha]
      · rw [upd_ne z]
        exact s2 _ _ k
end
/-! ### the law's edits -/
def spEditOf : Sp := fun vs H Q _ => ∃ t c x, vs = [.ref t, .str x] ∧ Tp H t c ∧ x.length ≤ 100000 ∧ ∀ p s e z H', OkT z → z.length ≤ 45 → But t H H' → Tp H' t c → H p = none → H' p = some (.tup [.int s, .int e, .str z]) → Q (.ref p) H'
section
variable {P : Program} {w : World} {K : PySem.W.Frag} {mg : Str → Option Value} {base : Heap} {f : Addr} {fd : FuncData} {aF CK CR CC CE CU CN CS CV aW : Addr} {tL tP tM tS : PySem.Tok}
abbrev s_editOf : Stmt := topS 119
abbrev N_editOf : List Str := ["tape", "text", "start", "end"]
theorem sc_editOf : FnScope N_editOf ["tape", "text"] (defScope s_editOf) := ⟨rfl, rfl, rfl, by decide +kernel, rfl, by decide +kernel, by decide +kernel⟩
theorem ok_editOf (F : Fun K "_law_edit_of" "_law_edit_of" s_editOf f fd) (T : NmS K mg aF CK CR CC CE CU CN CS CV aW tL tP tM tS) (C_law_take : Cal P w K mg base CX0 1 "_law_take" spTake) (C_law_snippet : Cal P w K mg base CX0 2 "_law_snippet" spSnippet) : FnOk P w K mg base CX0 3 f fd ["tape", "text"] spEditOf := by
  refine F.ok sc_editOf (fun vs H Q E h => ?_) (fun cdv A outer s H vs Q E hr h => ?_)
  · obtain ⟨t, c, x, rfl, _⟩ := h
    rfl
  obtain ⟨t, c, x, rfl, tp, hx, q⟩ := h
  refine ⟨_, (pss_cons (ps_set (i := 2) sc_editOf.nd rfl (Or.inl rfl) (pe_c C_law_take hr (by first | decide | omega) pass0 (pa_cons (pv 0) (pa_cons (pe_op op_add (pe_callB call_len_str (by rfl) T.len PySem.boot_len (pa_cons (pv 1) pa_nil)) pe_int) pa_nil))))
    (pss_cons (ps_set (i := 3) sc_editOf.nd rfl (Or.inl rfl) (pe_callB (call_min2 rfl) (by rfl) T.min (by decide +kernel) (pa_cons (pe_callB call_len_str (by rfl) T.len PySem.boot_len (pa_cons (pv 1) pa_nil)) (pa_cons (pe_op op_add (pv 2) (pe_ix (r := rIxL K) ix_list (pe_lst (pa_cons pe_int (pa_cons pe_int (pa_cons pe_int (pa_cons pe_int (pa_cons pe_int pa_nil)))))) (pe_c C_law_take hr (by first | decide | omega) pass0 (pa_cons (pv 0) (pa_cons pe_int pa_nil))) (fun _ _ => rfl))) pa_nil))))
    (pss_one (ps_ret (pe_tup (pa_cons (pv 2) (pa_cons (pv 3) (pa_cons (pe_c C_law_snippet hr (by first | decide | omega) pass0 (pa_cons (pv 0) pa_nil)) pa_nil)))))))), ?_⟩
  have sx : x.length ≤ sizeLine := Nat.le_trans hx (by decide)
  refine ⟨_, rfl, _, rfl, x, rfl, sx, _, _, rfl, rfl, t, c, _, rfl, tp, by omega, by omega, fun r H1 r0 r1 b1 tp1 => ?_⟩
  refine ⟨_, rfl, x, rfl, sx, ?_⟩
  refine ⟨_, rfl, (by show 5 ≤ sizeLine; decide), fun l nl => ?_⟩
  have s2 := same_new (o := .lst [.int 0, .int 1, .int 2, .int 5, .int 12]) nl
  have hl : upd H1 l (.lst [.int 0, .int 1, .int 2, .int 5, .int 12]) l = some (.lst [.int 0, .int 1, .int 2, .int 5, .int 12]) := upd_same
  have tp2 := tp1.same s2
  generalize upd H1 l (.lst [.int 0, .int 1, .int 2, .int 5, .int 12]) = H2 at s2 hl tp2 ⊢
  refine ⟨_, rfl, t, c, 5, rfl, tp2, by decide, by decide, fun k H3 k0 k1 b3 tp3 => ?_⟩
  have lt : l ≠ t := tp2.ne hl fun _ z => nomatch z
  have hl3 := b3 _ _ lt hl
  have hv : ∀ n, n < 5 → ∃ v : Int, ([.int 0, .int 1, .int 2, .int 5, .int 12] : List V)[n]? = some (.int v) := fun n h => match n, h with
    | 0, _ => ⟨0, rfl⟩
    | 1, _ => ⟨1, rfl⟩
    | 2, _ => ⟨2, rfl⟩
    | 3, _ => ⟨5, rfl⟩
    | 4, _ => ⟨12, rfl⟩
    | n + 5, h => absurd h (by omega)
  obtain ⟨v, hv⟩ := hv k.toNat (by omega)
  refine ⟨l, _, k, .int v, rfl, rfl, .inl (.inl hl3), at_of (by omega) hv, _, _, rfl, rfl, _, _, rfl, ?_⟩
  refine ⟨_, rfl, _, rfl, _, rfl, t, c, rfl, tp3, fun z H4 oz lz b4 tp4 => ⟨(by show 3 ≤ sizeLine; decide), fun p np => ?_⟩⟩
  have b14 : But t H H4 := ((b1.trans (.of s2)).trans b3).trans b4
  refine q p _ _ z _ oz lz (b14.trans (.of (same_new np))) (tp4.new np) ?_ upd_same
  cases e : H p with
  | none => rfl
  | some o =>
    have pt : p ≠ t := fun y => by
      obtain ⟨_, _, _, _, _, z4⟩ := tp4
      rw [y, z4.d] at np
      cases np
    rw [b14 _ _ pt e] at np
    cases np
end
/-! ### what the law knows -/
def kn2 (p f : Addr) : List (Key × V) := [(.inr "past", .ref p), (.inr "future", .ref f)]
inductive Ds (O : Addr → Prop) (H : Hp) : List Addr → List (List Str) → Prop
  | nil : Ds O H [] []
  | snoc {as : List Addr} {P : List (List Str)} {a : Addr} {ts : List Str} : Ds O H as P → O a → 1 ≤ ts.length → H a = some (.dK (tds 0 ts)) → Ds O H (as ++ [a]) (P ++ [ts])
/-- a dict of texts -/
def isDc (u : HO) : Prop := ∃ ts, 1 ≤ ts.length ∧ u = .dK (tds 0 ts)
theorem Ds.keep {O O' : Addr → Prop} {H H' : Hp} (f : ∀ b u, H b = some u → O b → isDc u → O' b ∧ H' b = some u) {as : List Addr} {P : List (List Str)} (h : Ds O H as P) : Ds O' H' as P := by
  induction h with
  | nil => exact .nil
  | snoc _ o l e ih => exact .snoc ih (f _ _ e o ⟨_, l, rfl⟩).1 l (f _ _ e o ⟨_, l, rfl⟩).2
theorem Ds.len {O : Addr → Prop} {H : Hp} {as : List Addr} {P : List (List Str)} (h : Ds O H as P) : as.length = P.length := by
  induction h with
  | nil => rfl
  | snoc _ _ _ _ ih => simp [ih]
theorem Ds.last {O : Addr → Prop} {H : Hp} {as : List Addr} {P : List (List Str)} {ts : List Str} (h : Ds O H as (P ++ [ts])) : ∃ as' a, as = as' ++ [a] ∧ Ds O H as' P ∧ O a ∧ 1 ≤ ts.length ∧ H a = some (.dK (tds 0 ts)) := by
  generalize e : P ++ [ts] = R2 at h
  cases h with
  | nil => simp at e
  | snoc h1 h2 h3 h4 =>
    obtain ⟨e1, e2⟩ := List.append_inj' e rfl
    cases e2
    subst e1
    exact ⟨_, _, rfl, h1, h2, h3, h4⟩
theorem nm_past : (nm 0 : Str) ≠ "past" := by decide +kernel
theorem nm_cells : (nm 0 : Str) ≠ "cells" := by decide +kernel
theorem kn_dc {p f : Addr} : ¬ isDc (.dK (kn2 p f)) := fun ⟨ts, h, e⟩ => by
  cases ts with
  | nil => simp at h
  | cons z r =>
    injection e with e
    injection e with e _
    injection e with e _
    exact nm_past (Sum.inr.inj e).symm
theorem tk_dc {c : Addr} {a l se sa : Int} : ¬ isDc (.dK (tk c a l se sa)) := fun ⟨ts, h, e⟩ => by
  cases ts with
  | nil => simp at h
  | cons z r =>
    injection e with e
    injection e with e _
    injection e with e _
    exact nm_cells (Sum.inr.inj e).symm
theorem lst_dc {xs : List V} : ¬ isDc (.lst xs) := fun ⟨_, _, e⟩ => by cases e
structure Lk (O : Addr → Prop) (H : Hp) (kn p f : Addr) (P F : List (List Str)) : Prop where
  hn : H kn = some (.dK (kn2 p f))
  pp : ∃ as, H p = some (.lst (as.map V.ref)) ∧ Ds O H as P
  ff : ∃ as, H f = some (.lst (as.map V.ref)) ∧ Ds O H as F
  pf : p ≠ f
  ok : O kn
  op : O p
  of : O f
theorem Lk.keep {O O' : Addr → Prop} {H H' : Hp} {kn p f : Addr} {P F : List (List Str)} (h : Lk O H kn p f P F) (g : ∀ b u, H b = some u → O b → (b = kn ∨ b = p ∨ b = f ∨ isDc u) → O' b ∧ H' b = some u) : Lk O' H' kn p f P F := by
  obtain ⟨as, p1, p2⟩ := h.pp
  obtain ⟨bs, f1, f2⟩ := h.ff
  have k := g _ _ h.hn h.ok (.inl rfl)
  have kp := g _ _ p1 h.op (.inr (.inl rfl))
  have kf := g _ _ f1 h.of (.inr (.inr (.inl rfl)))
  exact ⟨k.2, ⟨as, kp.2, p2.keep fun b u e o d => g b u e o (.inr (.inr (.inr d)))⟩, ⟨bs, kf.2, f2.keep fun b u e o d => g b u e o (.inr (.inr (.inr d)))⟩, h.pf, k.1, kp.1, kf.1⟩
/-- what can be taken back, done again: the states -/
inductive Back : List Str → List Row → List (List Str) → Prop
  | nil {ts} : Back ts [] [ts]
  | snoc {ts D P r} : ts[r.j]? = some r.a → Back (ts.set r.j r.b) D P → Back ts (D ++ [r]) (P ++ [ts])
inductive Fwd : List Str → List Row → List (List Str) → Prop
  | nil {ts} : Fwd ts [] []
  | snoc {ts U F r} : ts[r.j]? = some r.b → Fwd (ts.set r.j r.a) U F → Fwd ts (U ++ [r]) (F ++ [ts.set r.j r.a])
theorem Back.last {ts : List Str} {D : List Row} {P : List (List Str)} (h : Back ts D P) : ∃ P', P = P' ++ [ts] := by
  cases h with
  | nil => exact ⟨[], rfl⟩
  | snoc _ _ => exact ⟨_, rfl⟩
theorem Back.nil' {ts : List Str} {P : List (List Str)} (h : Back ts [] P) : P = [ts] := by
  generalize e : ([] : List Row) = D at h
  cases h with
  | nil => rfl
  | snoc _ _ => simp at e
theorem Back.un {ts : List Str} {D : List Row} {P : List (List Str)} {r : Row} (h : Back ts (D ++ [r]) P) : ∃ P', P = P' ++ [ts] ∧ ts[r.j]? = some r.a ∧ Back (ts.set r.j r.b) D P' := by
  generalize e : D ++ [r] = D2 at h
  cases h with
  | nil => simp at e
  | snoc a b =>
    obtain ⟨e1, e2⟩ := List.append_inj' e rfl
    cases e2
    subst e1
    exact ⟨_, rfl, a, b⟩
theorem Fwd.nil' {ts : List Str} {F : List (List Str)} (h : Fwd ts [] F) : F = [] := by
  generalize e : ([] : List Row) = D at h
  cases h with
  | nil => rfl
  | snoc _ _ => simp at e
theorem Fwd.un {ts : List Str} {U : List Row} {F : List (List Str)} {r : Row} (h : Fwd ts (U ++ [r]) F) : ∃ F', F = F' ++ [ts.set r.j r.a] ∧ ts[r.j]? = some r.b ∧ Fwd (ts.set r.j r.a) U F' := by
  generalize e : U ++ [r] = D2 at h
  cases h with
  | nil => simp at e
  | snoc a b =>
    obtain ⟨e1, e2⟩ := List.append_inj' e rfl
    cases e2
    subst e1
    exact ⟨_, rfl, a, b⟩
theorem set_back {ts : List Str} {j : Nat} {a b : Str} (h : ts[j]? = some a) : (ts.set j b).set j a = ts := by
  rw [List.set_set]
  have hj := (List.getElem?_eq_some_iff.mp h)
  obtain ⟨hj, rfl⟩ := hj
  exact List.set_getElem_self hj
theorem set_get {ts : List Str} {j : Nat} {a b : Str} (h : ts[j]? = some a) : (ts.set j b)[j]? = some b := by
  have hj := (List.getElem?_eq_some_iff.mp h).1
  rw [List.getElem?_set_self hj]
def ActAt (H : Hp) (a : Addr) (n : Nat) : Act → Prop
  | .opn => H a = some (.tup [.str "open", .str (nm n)])
  | .und => H a = some (.tup [.str "undo", .str ""])
  | .red => H a = some (.tup [.str "redo", .str ""])
  | .edt m s e z => ∃ q, H a = some (.tup [.str "edit", .str m, .ref q]) ∧ H q = some (.tup [.int s, .int e, .str z])
theorem ActAt.keep {H H' : Hp} (f : FT H H') {a : Addr} {n : Nat} {act : Act} (h : ActAt H a n act) : ActAt H' a n act := by
  cases act with
  | opn => exact f _ _ h
  | und => exact f _ _ h
  | red => exact f _ _ h
  | edt m s e z =>
    obtain ⟨q, h1, h2⟩ := h
    exact ⟨q, f _ _ h1, f _ _ h2⟩

end Sn

namespace Sn
open PySem PySem.Spec PyProof.Rows L2 TL
/-! ### the law's calls -/
theorem Tp.ndc {H : Hp} {t c b : Addr} {u : HO} (z : Tp H t c) (e : H b = some u) (d : isDc u) : b ≠ t := fun y => by
  obtain ⟨_, _, _, _, _, z⟩ := z
  rw [y, z.d] at e
  cases e
  exact tk_dc d
theorem Tp.nkn {H : Hp} {t c b p f : Addr} (z : Tp H t c) (e : H b = some (.dK (kn2 p f))) : b ≠ t := fun y => by
  obtain ⟨_, _, _, _, _, z⟩ := z
  rw [y, z.d] at e
  cases e
theorem kn_past {p f : Addr} : valV (kn2 p f) (.inr "past") = some (.ref p) := by kernel_rfl
theorem kn_future {p f : Addr} : valV (kn2 p f) (.inr "future") = some (.ref f) := by kernel_rfl
theorem kn_past' {p f q : Addr} : putK (kn2 p f) (.inr "past") (.ref q) = kn2 q f := by kernel_rfl
theorem kn_future' {p f q : Addr} : putK (kn2 p f) (.inr "future") (.ref q) = kn2 p q := by kernel_rfl
theorem at_last {β : Type} {xs : List β} {x : β} : atI (xs ++ [x]) (-1) = some x := by
  unfold atI ixN
  have h0 : ¬ (0 : Int) ≤ -1 := by decide
  simp only [List.length_append, List.length_singleton, h0, if_false, Int.natCast_add, Int.natCast_one]
  have h1 : -(((xs.length : Int) + 1)) ≤ -1 := by omega
  have e : (-1 + ((xs.length : Int) + 1)).toNat = xs.length := by omega
  simp [h1, e]
theorem Lk.gp {O : Addr → Prop} {H : Hp} {kn p f : Addr} {P F : List (List Str)} (h : Lk O H kn p f P F) : DGet H kn (.str "past") (some (.ref p)) := kn_past (p := p) (f := f) ▸ DGet.k (k := .inr "past") h.hn
theorem Lk.gf {O : Addr → Prop} {H : Hp} {kn p f : Addr} {P F : List (List Str)} (h : Lk O H kn p f P F) : DGet H kn (.str "future") (some (.ref f)) := kn_future (p := p) (f := f) ▸ DGet.k (k := .inr "future") h.hn
def spAct : Sp := fun vs H Q _ => ∃ t c O kn p f P F ts, vs = [.ref t, .ref kn] ∧ Tp H t c ∧ Lk O H kn p f (P ++ [ts]) F ∧ 1 ≤ ts.length ∧ ts.length ≤ 5 ∧ (∀ x ∈ ts, x.length ≤ 3000) ∧
  ∀ a act H', But t H H' → Tp H' t c → ActAt H' a ts.length act → Fit 0 ts.length act → Q (.ref a) H'
section
variable {P : Program} {w : World} {K : PySem.W.Frag} {mg : Str → Option Value} {base : Heap} {f : Addr} {fd : FuncData} {aF CK CR CC CE CU CN CS CV aW : Addr} {tL tP tM tS : PySem.Tok}
abbrev s_l_act : Stmt := topS 122
abbrev N_l_act : List Str := ["tape", "known", "texts", "choice", "module", "text", "start", "end", "new"]
theorem sc_l_act : FnScope N_l_act ["tape", "known"] (defScope s_l_act) := ⟨rfl, rfl, rfl, by decide +kernel, rfl, by decide +kernel, by decide +kernel⟩
theorem ok_l_act (F : Fun K "_law_act" "_law_act" s_l_act f fd) (T : NmS K mg aF CK CR CC CE CU CN CS CV aW tL tP tM tS) (C_law_take : Cal P w K mg base CX0 1 "_law_take" spTake) (C_law_edit_of : Cal P w K mg base CX0 3 "_law_edit_of" spEditOf) : FnOk P w K mg base CX0 4 f fd ["tape", "known"] spAct := by
  refine F.ok sc_l_act (fun vs H Q E h => ?_) (fun cdv A outer s H vs Q E hr h => ?_)
  · obtain ⟨t, c, O, kn, p, f, P, F, ts, rfl, _⟩ := h
    rfl
  obtain ⟨t, c, O, kn, p, f, Ps, Fs, ts, rfl, tp, lk, h1, h5, hx, q⟩ := h
  refine ⟨_, (pss_cons (ps_set (i := 2) sc_l_act.nd rfl (Or.inl rfl) (pe_ix (r := rIxL K) ix_list (pe_dget (hu_of hr) (pv 1) pe_str (fun _ _ => rfl)) (pe_un un_neg pe_int) (fun _ _ => rfl)))
    (pss_cons (ps_set (i := 3) sc_l_act.nd rfl (Or.inl rfl) (pe_c C_law_take hr (by first | decide | omega) pass0 (pa_cons (pv 0) (pa_cons pe_int pa_nil))))
    (C8.pss_cut (ps_if (PW.pt (pw_and (pt_cmpR op_eq (pv 3) pe_int (nomark _)) (pw_and1 (pt_cmpR op_lt (pe_callB call_lenD (by rfl) T.len PySem.boot_len (pa_cons (pv 2) pa_nil)) pe_int (nomark _))))) (pss_one (ps_ret (pe_tup (pa_cons pe_str (pa_cons (pe_op op_add_str pe_str (pe_callTy call_str_int (by rfl) T.str_ (by decide +kernel) (pa_cons (pe_callB call_lenD (by rfl) T.len PySem.boot_len (pa_cons (pv 2) pa_nil)) pa_nil))) pa_nil))))) pss_nil)
    (C8.pss_cut (ps_if (pt_cmpR op_lt (pv 3) pe_int (nomark _)) (pss_one (ps_ret (pe_tup (pa_cons (pe_ix (r := rIxL K) ix_list (pe_lst (pa_cons pe_str (pa_cons pe_str pa_nil))) (pe_op op_fdiv (pe_c C_law_take hr (by first | decide | omega) pass0 (pa_cons (pv 0) (pa_cons pe_int pa_nil))) pe_int) (fun _ _ => rfl)) (pa_cons pe_str pa_nil))))) pss_nil)
    (pss_cons (ps_set (i := 4) sc_l_act.nd rfl (Or.inl rfl) (pe_ix (r := rIxL K) ix_list (pe_op op_cat (pe_callB (call_sortedD rfl) (by rfl) T.sorted (by decide +kernel) (pa_cons (pv 2) pa_nil)) (pe_lst (pa_cons pe_str pa_nil))) (pe_c C_law_take hr (by first | decide | omega) pass0 (pa_cons (pv 0) (pa_cons (pe_op op_add (pe_callB call_lenD (by rfl) T.len PySem.boot_len (pa_cons (pv 2) pa_nil)) pe_int) pa_nil))) (fun _ _ => rfl)))
    (pss_cons (ps_set (i := 5) sc_l_act.nd rfl (Or.inl rfl) (pe_dget2 (hu_of hr) (pv 2) (pv 4) pe_str ⟨rfl, rfl, rfl, rfl⟩))
    (pss_cons (ps_asg (pe_c C_law_edit_of hr (by first | decide | omega) pass0 (pa_cons (pv 0) (pa_cons (pv 5) pa_nil))) (pg_tup rfl (pgs_cons (pg_name (i := 6) sc_l_act.nd rfl (Or.inl rfl)) (pgs_cons (pg_name (i := 7) sc_l_act.nd rfl (Or.inl rfl)) (pgs_cons (pg_name (i := 8) sc_l_act.nd rfl (Or.inl rfl)) pgs_nil)))))
    (C8.pss_cut (ps_if (pt_cmpR op_eq (pe_c C_law_take hr (by first | decide | omega) pass0 (pa_cons (pv 0) (pa_cons pe_int pa_nil))) pe_int (nomark _)) (pss_one (ps_set (i := 7) sc_l_act.nd rfl (Or.inl rfl) (pe_op op_add (pe_callB call_len_str (by rfl) T.len PySem.boot_len (pa_cons (pv 5) pa_nil)) pe_int))) pss_nil)
    (pss_one (ps_ret (pe_tup (pa_cons pe_str (pa_cons (pv 4) (pa_cons (pe_tup (pa_cons (pv 6) (pa_cons (pv 7) (pa_cons (pv 8) pa_nil)))) pa_nil)))))))))))))), ?_⟩
  obtain ⟨as, p1, p2⟩ := lk.pp
  obtain ⟨as', a, rfl, d1, d2, d3, d4⟩ := p2.last
  have at1 : atI ((as' ++ [a]).map V.ref) (-1) = some (.ref a) := by
    rw [List.map_append]
    exact at_last
  refine ⟨_, rfl, kn, _, rfl, lk.gp, _, rfl, p, _, _, _, rfl, rfl, .inl (.inl p1), at1, ?_⟩
  refine ⟨_, rfl, t, c, 10, rfl, tp, by decide, by decide, fun r H1 r0 r1 b1 tp1 => ?_⟩
  have d41 := b1 _ _ (tp.ndc d4 ⟨_, d3, rfl⟩) d4
  have tl : (tds 0 ts).length = ts.length := tds_len 0 ts
  have open_ : ∀ {q0 : Addr} {H2 : Hp}, Same H1 H2 → H2 q0 = some (.tup [.str "open", .str (nm ts.length)]) → ts.length < 5 → Q (.ref q0) H2 := fun {q0 H2} s2 e l => q q0 .opn H2 (b1.trans (.of s2)) (tp1.same s2) e l
  refine ⟨fun σ H' => H' = H1 ∧ σ = [some (.ref t), some (.ref kn), some (.ref a), some (.int r), none, none, none, none, none], ?_, ?_⟩
  · refine ⟨_, rfl, rfl, _, rfl, ?_⟩
    refine ite2 (fun _ => ?_) (fun _ => iteF ⟨rfl, rfl⟩)
    refine ⟨_, rfl, a, _, rfl, d41, _, _, rfl, rfl, _, rfl, ?_⟩
    refine ite2 (fun c1 => ?_) (fun _ => ⟨rfl, rfl⟩)
    have c1 : ((tds 0 ts).length : Int) < 5 := of_decide_eq_true c1
    rw [tl] at c1
    refine ⟨_, rfl, a, _, rfl, d41, _, rfl, ?_, _, _, rfl, rfl, ?_, (by show 2 ≤ sizeLine; decide), fun q0 nq => ?_⟩
    · rw [tl]
      have : ∀ n, n < 5 → ((n : Nat) : Int).natAbs.log2 < 1920 := by decide
      exact this _ (by omega)
    · rw [tl]
      have : ∀ n, n < 5 → (("m" : Str).length + (toString ((n : Nat) : Int) : Str).length) = 2 := by decide +kernel
      rw [this _ (by omega)]
      decide
    · refine open_ (same_new nq) ?_ (by omega)
      rw [upd_same, tl]
      rfl
  rintro σ H' ⟨rfl, rfl⟩
  refine ⟨fun σ H2 => H2 = H' ∧ σ = [some (.ref t), some (.ref kn), some (.ref a), some (.int r), none, none, none, none, none], ?_, ?_⟩
  · refine ⟨_, rfl, _, _, rfl, rfl, _, rfl, ?_⟩
    refine ite2 (fun _ => ?_) (fun _ => ⟨rfl, rfl⟩)
    refine ⟨(by show 2 ≤ sizeLine; decide), fun l nl => ?_⟩
    have s2 := same_new (o := .lst [.str "undo", .str "redo"]) nl
    have hl : upd H' l (.lst [.str "undo", .str "redo"]) l = some (.lst [.str "undo", .str "redo"]) := upd_same
    have tp2 := tp1.same s2
    generalize upd H' l (.lst [.str "undo", .str "redo"]) = H2 at s2 hl tp2 ⊢
    refine ⟨_, rfl, t, c, 5, rfl, tp2, by decide, by decide, fun k H3 k0 k1 b3 tp3 => ?_⟩
    have hl3 := b3 _ _ (tp2.ne hl fun _ z => nomatch z) hl
    have bb := (b1.trans (.of s2)).trans b3
    refine ⟨_, _, rfl, rfl, ⟨by decide, by decide⟩, ?_⟩
    by_cases c3 : k < 3
    · refine ⟨l, _, _, .str "undo", rfl, rfl, .inl (.inl hl3), at_of (j := 0) (by show k / 3 = _; omega) rfl, (by show 2 ≤ sizeLine; decide), fun q0 nq => ?_⟩
      exact q q0 .und _ (bb.trans (.of (same_new nq))) (tp3.new nq) upd_same trivial
    · refine ⟨l, _, _, .str "redo", rfl, rfl, .inl (.inl hl3), at_of (j := 1) (by show k / 3 = _; omega) rfl, (by show 2 ≤ sizeLine; decide), fun q0 nq => ?_⟩
      exact q q0 .red _ (bb.trans (.of (same_new nq))) (tp3.new nq) upd_same trivial
  rintro σ H2 ⟨rfl, rfl⟩
  refine ⟨_, rfl, a, tds 0 ts, nms 0 ts.length, rfl, .inl d41, tds_keys ts 0, by rw [nms_len]; omega, fun ys l pm so nl => ?_⟩
  have ey := nms_of (n := ts.length) (by omega) pm so
  subst ey
  have s3 := same_new (o := .lst ((nms 0 ts.length).map V.str)) nl
  have hl3 : upd H2 l (.lst ((nms 0 ts.length).map V.str)) l = some (.lst ((nms 0 ts.length).map V.str)) := upd_same
  generalize upd H2 l (.lst ((nms 0 ts.length).map V.str)) = H3 at s3 hl3 ⊢
  refine ⟨(by show 1 ≤ sizeLine; decide), fun l2 n2 => ?_⟩
  have s4 := same_new (o := .lst [.str "nowhere"]) n2
  have hl4 : upd H3 l2 (.lst [.str "nowhere"]) l2 = some (.lst [.str "nowhere"]) := upd_same
  generalize upd H3 l2 (.lst [.str "nowhere"]) = H4 at s4 hl4 ⊢
  refine ⟨l, l2, _, _, rfl, rfl, s4 _ _ hl3, hl4, ?_, fun l5 n5 => ?_⟩
  · show ((nms 0 ts.length).map V.str).length + 1 ≤ _
    rw [List.length_map, nms_len]
    exact Nat.le_trans (show _ ≤ 6 by omega) (by decide)
  have s5 := same_new (o := .lst ((nms 0 ts.length).map V.str ++ [.str "nowhere"])) n5
  have hl5 : upd H4 l5 (.lst ((nms 0 ts.length).map V.str ++ [.str "nowhere"])) l5 = some (.lst ((nms 0 ts.length).map V.str ++ [.str "nowhere"])) := upd_same
  generalize upd H4 l5 (.lst ((nms 0 ts.length).map V.str ++ [.str "nowhere"])) = H5 at s5 hl5 ⊢
  have s25 := (s3.trans s4).trans s5
  have tp5 := tp1.same s25
  have d45 := s25 _ _ d41
  refine ⟨_, rfl, _, rfl, a, _, rfl, d45, _, _, rfl, rfl, t, c, _, rfl, tp5, by omega, by rw [tl]; omega, fun k H6 k0 k1 b6 tp6 => ?_⟩
  rw [tl] at k1
  have hl6 := b6 _ _ (tp5.ne hl5 fun _ z => nomatch z) hl5
  have d46 := b6 _ _ (tp5.ndc d45 ⟨_, d3, rfl⟩) d45
  have bb := (b1.trans (.of s25)).trans b6
  -- the module and its text
  have hm : ∃ (m x : Str), ((nms 0 ts.length).map V.str ++ [.str "nowhere"])[k.toNat]? = some (.str m) ∧ ((valV (tds 0 ts) (.inr m)).getD (.str "")) = .str x ∧ x.length ≤ 3000 ∧ ((∃ j, j < ts.length ∧ m = nm j) ∨ ∀ j, j < ts.length → m ≠ nm j) := by
    by_cases kc : k.toNat < ts.length
    · have hx1 := List.getElem?_eq_getElem kc
      refine ⟨nm k.toNat, ts[k.toNat], ?_, ?_, hx _ (List.getElem_mem kc), .inl ⟨_, kc, rfl⟩⟩
      · rw [List.getElem?_append_left (by rw [List.length_map, nms_len]; exact kc), List.getElem?_map, nms_get kc]
        rfl
      · rw [tds_at ts (by omega) hx1]
        rfl
    · refine ⟨"nowhere", "", ?_, ?_, Nat.zero_le _, .inr fun j hj e => nm_no j (by omega) e.symm⟩
      · have : k.toNat = ts.length := by omega
        rw [List.getElem?_append_right (by rw [List.length_map, nms_len]; omega), List.length_map, nms_len, this, Nat.sub_self]
        rfl
      · rw [tds_no ts 0 "nowhere" (by omega) fun j a _ _ e => nm_no j a e.symm]
        rfl
  obtain ⟨m, x, hm1, hm2, hx3, hmm⟩ := hm
  refine ⟨l5, _, _, _, rfl, rfl, .inl (.inl hl6), at_of (by omega) hm1, ?_⟩
  refine ⟨_, rfl, a, rfl, .inl ⟨_, .inl d46⟩, _, rfl, _, DGet.k (k := .inr m) d46, ?_⟩
  rw [hm2]
  refine ⟨_, rfl, _, rfl, t, c, x, rfl, tp6, by omega, fun p0 s0 e0 z H7 oz lz b7 tp7 np hp => ?_⟩
  refine ⟨p0, _, rfl, .inl (.inl hp), rfl, _, _, rfl, _, _, rfl, _, _, rfl, rfl, ?_⟩
  have b17 := bb.trans b7
  refine ⟨fun σ H' => ∃ e1, σ = [some (.ref t), some (.ref kn), some (.ref a), some (.int r), some (.str m), some (.str x), some (.int s0), some (.int e1), some (.str z)] ∧ But t H H' ∧ Tp H' t c, ?_, ?_⟩
  · refine ⟨_, rfl, t, c, 8, rfl, tp7, by decide, by decide, fun g H8 g0 g1 b8 tp8 => ⟨rfl, _, rfl, ?_⟩⟩
    refine ite2 (fun _ => ?_) (fun _ => ⟨_, rfl, b17.trans b8, tp8⟩)
    exact ⟨_, rfl, x, rfl, Nat.le_trans hx3 (by decide), _, _, rfl, rfl, _, rfl, b17.trans b8, tp8⟩
  rintro σ H9 ⟨e1, rfl, b9, tp9⟩
  refine ⟨_, rfl, _, rfl, _, rfl, _, rfl, (by show 3 ≤ sizeLine; decide), fun q1 n1 => ⟨(by show 3 ≤ sizeLine; decide), fun q2 n2 => ?_⟩⟩
  have s10 := same_new (o := .tup [.int s0, .int e1, .str z]) n1
  have h10 : upd H9 q1 (.tup [.int s0, .int e1, .str z]) q1 = some (.tup [.int s0, .int e1, .str z]) := upd_same
  have s11 := same_new (o := .tup [.str "edit", .str m, .ref q1]) n2
  refine q q2 (.edt m s0 e1 z) _ (b9.trans (.of (s10.trans s11))) (tp9.same (s10.trans s11)) ⟨q1, upd_same, s11 _ _ h10⟩ ⟨?_, hmm, Nat.zero_le _⟩
  rw [Bool.and_eq_true]
  exact ⟨List.all_eq_true.mpr fun y hy => oz y hy, decide_eq_true (by omega)⟩
end

end Sn

namespace Sn
open PySem PySem.Spec PyProof.Rows L2 TL
/-! ### a call of the server; what the law expects -/
section
variable (CV CK CR aF : Addr)
def spDo : Sp := fun vs H Q _ => ∃ A ts D U ni a act res st' L, vs = [.ref A.s, .ref a] ∧ Sv CV CK CR aF H A ts D U ni ∧ OkSt L (ts, D, U) ∧ L ≤ 3000 ∧ ActAt H a ts.length act ∧ Fit 0 ts.length act ∧ Go (ts, D, U) act res st' ∧ ni ≤ 1000 ∧ D.length < 900 ∧ U.length < 900 ∧
  ∀ H' A' ni', A'.s = A.s → Adv A A' H H' → Sv CV CK CR aF H' A' st'.1 st'.2.1 st'.2.2 ni' → ni' ≤ ni + 2 → Q (.str res) H'
end
section
variable {P : Program} {w : World} {K : PySem.W.Frag} {mg : Str → Option Value} {base : Heap} {f : Addr} {fd : FuncData} {aF CK CR CC CE CU CN CS CV aW : Addr} {tL tP tM tS : PySem.Tok}
abbrev s_l_do : Stmt := topS 120
abbrev N_l_do : List Str := ["server", "act", "e"]
theorem sc_l_do : FnScope N_l_do ["server", "act"] (defScope s_l_do) := ⟨rfl, rfl, rfl, by decide +kernel, rfl, by decide +kernel, by decide +kernel⟩
theorem ok_l_do (F : Fun K "_law_do" "_law_do" s_l_do f fd) (T : NmS K mg aF CK CR CC CE CU CN CS CV aW tL tP tM tS) (C_Server_edit : CalM P w K mg base (L2.CX P w) 4 CV "edit" (spEditS CV CK CR aF CU CE)) (C_Server_undo : CalM P w K mg base (L2.CX P w) 3 CV "undo" (spUndo CV CK CR aF CN))
    (C_Server_redo : CalM P w K mg base (L2.CX P w) 3 CV "redo" (spRedo CV CK CR aF CN)) (C_Server_open_file : CalM P w K mg base (L2.CX P w) 7 CV "open_file" (spOpenF CV CK CR aF)) : FnOk P w K mg base CX0 8 f fd ["server", "act"] (spDo CV CK CR aF) := by
  refine F.ok sc_l_do (fun vs H Q E h => ?_) (fun cdv A outer s H vs Q E hr h => ?_)
  · obtain ⟨A, ts, D, U, ni, a, act, res, st', L, rfl, _⟩ := h
    rfl
  obtain ⟨A, ts, D, U, ni, a, act, res, st', L, rfl, sv, ok, hL, ha, fit, go, hni, hD, hU, q⟩ := h
  refine ⟨_, (pss_cons (ps_tryC rfl rfl takes0 (fun W pn xe tk _ => (pss_one (ps_if (pt_cmpR op_eq (pe_ix (r := rIxT K) ix_tup (pv 1) pe_int (fun _ _ => rfl)) pe_str (nomark _)) (pss_one (ps_expr (pe_mS ns_Server C_Server_edit T.cl_Server (by decide) hr (by first | decide | omega) (fun σ => passAt tk σ) (pv 0) (pa_cons (pe_ix (r := rIxT K) ix_tup (pv 1) pe_int (fun _ _ => rfl)) (pa_cons (pe_ix (r := rIxT K) ix_tup (pv 1) pe_int (fun _ _ => rfl)) pa_nil))))) (pss_one (ps_if (pt_cmpR op_eq (pe_ix (r := rIxT K) ix_tup (pv 1) pe_int (fun _ _ => rfl)) pe_str (nomark _)) (pss_one (ps_expr (pe_mS0 ns_Server C_Server_undo T.cl_Server (by decide) hr (by first | decide | omega) (fun σ => passAt tk σ) (pv 0)))) (pss_one (ps_if (pt_cmpR op_eq (pe_ix (r := rIxT K) ix_tup (pv 1) pe_int (fun _ _ => rfl)) pe_str (nomark _)) (pss_one (ps_expr (pe_mS0 ns_Server C_Server_redo T.cl_Server (by decide) hr (by first | decide | omega) (fun σ => passAt tk σ) (pv 0)))) (pss_one (ps_expr (pe_mS ns_Server C_Server_open_file T.cl_Server (by decide) hr (by first | decide | omega) (fun σ => passAt tk σ) (pv 0) (pa_cons (pe_ix (r := rIxT K) ix_tup (pv 1) pe_int (fun _ _ => rfl)) (pa_cons pe_str pa_nil)))))))))))) (.as (i := 2) sc_l_do.nd rfl rfl ⟨rfl, by decide, .inl T.c_NothingToUndo⟩ (fun a oe cls d pn hz hf => (pss_one (ps_ret (pe_ifExp (pt_val (pe_callB (call_isX T.exc hz hf) (by rfl) T.isinstance (by decide +kernel) (pa_cons (pv 2) (pa_cons (pe_glob (v := .ref CS) (by rfl) T.c_ServerError rfl) pa_nil)))) pe_str pe_str)))) (.one ⟨rfl, by decide, .inl T.c_InvalidEdit⟩ (fun a oe cls d pn hz hf => (pss_one (ps_ret pe_str))) (.one ⟨rfl, by decide, .inl T.c_UnknownFile⟩ (fun a oe cls d pn hz hf => (pss_one (ps_ret pe_str))) .nil))))
    (pss_one (ps_ret pe_str))), ?_⟩
  have n5 : ts.length ≤ 5 := ok.n5
  cases go with
  | opn h5 =>
    have ha : H a = some (.tup [.str "open", .str (nm ts.length)]) := ha
    refine ⟨_, rfl, a, _, 0, _, rfl, rfl, .inl (.inl ha), rfl, rfl, _, rfl, iteN (by decide) ?_⟩
    refine ⟨_, rfl, a, _, 0, _, rfl, rfl, .inl (.inl ha), rfl, rfl, _, rfl, iteN (by decide) ?_⟩
    refine ⟨_, rfl, a, _, 0, _, rfl, rfl, .inl (.inl ha), rfl, rfl, _, rfl, iteN (by decide) ?_⟩
    exact ⟨_, rfl, A.s, rfl, sv.raw.isI, _, rfl, a, _, 1, _, rfl, rfl, .inl (.inl ha), rfl, A, ts, D, U, ni, rfl, sv, h5, by omega, fun H' A' eA ad sv' => q H' A' _ eA ad sv' (Nat.le_refl _)⟩
  | undN =>
    have ha : H a = some (.tup [.str "undo", .str ""]) := ha
    refine ⟨_, rfl, a, _, 0, _, rfl, rfl, .inl (.inl ha), rfl, rfl, _, rfl, iteN (by decide) ?_⟩
    refine ⟨_, rfl, a, _, 0, _, rfl, rfl, .inl (.inl ha), rfl, rfl, _, rfl, iteP rfl ?_⟩
    refine ⟨_, rfl, A.s, rfl, sv.raw.isI, A, ts, [], U, ni, rfl, sv, n5, by omega, by omega, fun _ => ?_, fun D' r e => absurd e (by simp)⟩
    refine ⟨true, T.N.te, fun _ x nx => ?_, fun z => nomatch z⟩
    refine ⟨_, rfl, rfl, rfl, .ref CS, .ref CS, true, rfl, fun u h => h, T.kit, _, rfl, iteT ?_⟩
    exact q H A _ rfl (Adv.refl _ _) sv (by omega)
  | und =>
    rename_i D r
    have ha : H a = some (.tup [.str "undo", .str ""]) := ha
    refine ⟨_, rfl, a, _, 0, _, rfl, rfl, .inl (.inl ha), rfl, rfl, _, rfl, iteN (by decide) ?_⟩
    refine ⟨_, rfl, a, _, 0, _, rfl, rfl, .inl (.inl ha), rfl, rfl, _, rfl, iteP rfl ?_⟩
    refine ⟨_, rfl, A.s, rfl, sv.raw.isI, A, ts, D ++ [r], U, ni, rfl, sv, n5, by omega, by omega, fun e => absurd e (by simp), fun D' r' e => ?_⟩
    obtain ⟨e1, e2⟩ := List.append_inj' e rfl
    cases e2
    subst e1
    have hr := ok.dj r (List.mem_append_right _ List.mem_cons_self)
    exact ⟨hr.1, hr.2.2.2.strOk, fun H' ad sv' => q H' A _ rfl ad sv' (by omega)⟩
  | redN =>
    have ha : H a = some (.tup [.str "redo", .str ""]) := ha
    refine ⟨_, rfl, a, _, 0, _, rfl, rfl, .inl (.inl ha), rfl, rfl, _, rfl, iteN (by decide) ?_⟩
    refine ⟨_, rfl, a, _, 0, _, rfl, rfl, .inl (.inl ha), rfl, rfl, _, rfl, iteN (by decide) ?_⟩
    refine ⟨_, rfl, a, _, 0, _, rfl, rfl, .inl (.inl ha), rfl, rfl, _, rfl, iteP rfl ?_⟩
    refine ⟨_, rfl, A.s, rfl, sv.raw.isI, A, ts, D, [], ni, rfl, sv, n5, by omega, by omega, fun _ => ?_, fun D' r e => absurd e (by simp)⟩
    refine ⟨true, T.N.te, fun _ x nx => ?_, fun z => nomatch z⟩
    refine ⟨_, rfl, rfl, rfl, .ref CS, .ref CS, true, rfl, fun u h => h, T.kit, _, rfl, iteT ?_⟩
    exact q H A _ rfl (Adv.refl _ _) sv (by omega)
  | red =>
    rename_i U r
    have ha : H a = some (.tup [.str "redo", .str ""]) := ha
    refine ⟨_, rfl, a, _, 0, _, rfl, rfl, .inl (.inl ha), rfl, rfl, _, rfl, iteN (by decide) ?_⟩
    refine ⟨_, rfl, a, _, 0, _, rfl, rfl, .inl (.inl ha), rfl, rfl, _, rfl, iteN (by decide) ?_⟩
    refine ⟨_, rfl, a, _, 0, _, rfl, rfl, .inl (.inl ha), rfl, rfl, _, rfl, iteP rfl ?_⟩
    refine ⟨_, rfl, A.s, rfl, sv.raw.isI, A, ts, D, U ++ [r], ni, rfl, sv, n5, by omega, by omega, fun e => absurd e (by simp), fun D' r' e => ?_⟩
    obtain ⟨e1, e2⟩ := List.append_inj' e rfl
    cases e2
    subst e1
    have hr := ok.uj r (List.mem_append_right _ List.mem_cons_self)
    exact ⟨hr.1, hr.2.1.2.strOk, fun H' ad sv' => q H' A _ rfl ad sv' (by omega)⟩
  | unk h =>
    rename_i m s0 e0 z
    obtain ⟨q0, ha, hq0⟩ := ha
    obtain ⟨f1, f2, _⟩ := fit
    obtain ⟨f1, f3⟩ := Bool.and_eq_true_iff.mp f1
    refine ⟨_, rfl, a, _, 0, _, rfl, rfl, .inl (.inl ha), rfl, rfl, _, rfl, iteP rfl ?_⟩
    refine ⟨_, rfl, A.s, rfl, sv.raw.isI, _, rfl, a, _, 1, _, rfl, rfl, .inl (.inl ha), rfl, _, rfl, a, _, 2, _, rfl, rfl, .inl (.inl ha), rfl, A, ts, D, U, ni, m, q0, s0, e0, z, rfl, sv, hq0, n5,
      fun x hx => ⟨Nat.le_trans (ok.tl x hx).1 hL, (ok.tl x hx).2⟩, of_decide_eq_true f3, fun y hy => List.all_eq_true.mp f1 y hy, by omega, by omega, fun _ => ?_, .inr h, fun j x em hx => absurd em (h j (List.getElem?_eq_some_iff.mp hx).1)⟩
    refine ⟨false, T.eUN, (fun z => nomatch z), fun _ => ⟨false, T.eUE, (fun z => nomatch z), fun _ => ⟨true, T.U.te, fun _ x nx => ?_, fun z => nomatch z⟩⟩⟩
    exact q H A _ rfl (Adv.refl _ _) sv (by omega)
  | inv hx hc =>
    rename_i j x s0 e0 z
    obtain ⟨q0, ha, hq0⟩ := ha
    obtain ⟨f1, f2, _⟩ := fit
    obtain ⟨f1, f3⟩ := Bool.and_eq_true_iff.mp f1
    have hj := (List.getElem?_eq_some_iff.mp hx).1
    refine ⟨_, rfl, a, _, 0, _, rfl, rfl, .inl (.inl ha), rfl, rfl, _, rfl, iteP rfl ?_⟩
    refine ⟨_, rfl, A.s, rfl, sv.raw.isI, _, rfl, a, _, 1, _, rfl, rfl, .inl (.inl ha), rfl, _, rfl, a, _, 2, _, rfl, rfl, .inl (.inl ha), rfl, A, ts, D, U, ni, nm j, q0, s0, e0, z, rfl, sv, hq0, n5,
      fun x hx => ⟨Nat.le_trans (ok.tl x hx).1 hL, (ok.tl x hx).2⟩, of_decide_eq_true f3, fun y hy => List.all_eq_true.mp f1 y hy, by omega, by omega, fun h => absurd rfl (h j hj), .inl ⟨j, hj, rfl⟩, fun i y em hy => ?_⟩
    have hi := (List.getElem?_eq_some_iff.mp hy).1
    have ei := nm_inj j (by have : j < ts.length := hj; omega) i (by omega) em
    subst ei
    have ey : y = x := Option.some.inj (hy.symm.trans hx)
    subst ey
    refine ⟨fun _ H1 s1 => ?_, fun c => absurd c hc⟩
    refine ⟨false, T.eEN, (fun z => nomatch z), fun _ => ⟨true, T.J.te, fun _ x nx => ?_, fun z => nomatch z⟩⟩
    exact q H1 A _ rfl (Adv.same s1) (sv.same s1) (by omega)
  | edt hx hc =>
    rename_i j x s0 e0 z
    obtain ⟨q0, ha, hq0⟩ := ha
    obtain ⟨f1, f2, _⟩ := fit
    obtain ⟨f1, f3⟩ := Bool.and_eq_true_iff.mp f1
    have hj := (List.getElem?_eq_some_iff.mp hx).1
    refine ⟨_, rfl, a, _, 0, _, rfl, rfl, .inl (.inl ha), rfl, rfl, _, rfl, iteP rfl ?_⟩
    refine ⟨_, rfl, A.s, rfl, sv.raw.isI, _, rfl, a, _, 1, _, rfl, rfl, .inl (.inl ha), rfl, _, rfl, a, _, 2, _, rfl, rfl, .inl (.inl ha), rfl, A, ts, D, U, ni, nm j, q0, s0, e0, z, rfl, sv, hq0, n5,
      fun x hx => ⟨Nat.le_trans (ok.tl x hx).1 hL, (ok.tl x hx).2⟩, of_decide_eq_true f3, fun y hy => List.all_eq_true.mp f1 y hy, by omega, by omega, fun h => absurd rfl (h j hj), .inl ⟨j, hj, rfl⟩, fun i y em hy => ?_⟩
    have hi := (List.getElem?_eq_some_iff.mp hy).1
    have ei := nm_inj j (by omega) i (by omega) em
    subst ei
    have ey : y = x := Option.some.inj (hy.symm.trans hx)
    subst ey
    exact ⟨fun c => absurd hc c, fun _ H' A' eA ad sv' => q H' A' _ eA ad sv' (by omega)⟩
end

end Sn

namespace Sn
open PySem PySem.Spec PyProof.Rows L2 TL
/-! ### what the law expects -/
section
variable {O : Addr → Prop} {H : Hp} {kn p f : Addr} {P F P' F' : List (List Str)}
theorem Lk.set {as bs : List Addr} (h : Lk O H kn p f P F) (d : Ds O H as P') (e : Ds O H bs F') : Lk O (upd (upd H p (.lst (as.map V.ref))) f (.lst (bs.map V.ref))) kn p f P' F' ∧ ∀ b u, H b = some u → b ≠ kn → b ≠ p → b ≠ f → upd (upd H p (.lst (as.map V.ref))) f (.lst (bs.map V.ref)) b = some u := by
  obtain ⟨as0, p1, _⟩ := h.pp
  obtain ⟨bs0, f1, _⟩ := h.ff
  have g : ∀ {b : Addr} {u : HO}, H b = some u → kd u ≠ 2 → upd (upd H p (.lst (as.map V.ref))) f (.lst (bs.map V.ref)) b = some u := fun e y => (upd_ne (ne_kd e f1 y)).trans ((upd_ne (ne_kd e p1 y)).trans e)
  have gd : ∀ b u, H b = some u → O b → isDc u → O b ∧ upd (upd H p (.lst (as.map V.ref))) f (.lst (bs.map V.ref)) b = some u := fun b u e o ⟨ts, _, x⟩ => ⟨o, g e (by rw [x]; exact Nat.ne_of_beq_eq_false rfl)⟩
  exact ⟨⟨g h.hn (Nat.ne_of_beq_eq_false rfl), ⟨as, (upd_ne h.pf).trans upd_same, d.keep gd⟩, ⟨bs, upd_same, e.keep gd⟩, h.pf, h.ok, h.op, h.of⟩, fun b u e n1 n2 n3 => (upd_ne n3).trans ((upd_ne n2).trans e)⟩
theorem Lk.same {H' : Hp} (h : Lk O H kn p f P F) (s : Same H H') : Lk O H' kn p f P F := h.keep fun b u e o _ => ⟨o, s b u e⟩
/-- past or future is another list -/
theorem Lk.newF {l : Addr} (h : Lk O H kn p f P F) (hl : H l = some (.lst [])) (ol : O l) (np : p ≠ l) : Lk O (upd H kn (.dK (kn2 p l))) kn p l P [] := by
  obtain ⟨as, p1, p2⟩ := h.pp
  have gd : ∀ b u, H b = some u → O b → isDc u → O b ∧ upd H kn (.dK (kn2 p l)) b = some u := fun b u e o x => ⟨o, (upd_ne fun z => by
    rw [z, h.hn] at e
    cases e
    exact kn_dc x).trans e⟩
  exact ⟨upd_same, ⟨as, (upd_ne (ne_kd p1 h.hn (Nat.ne_of_beq_eq_false rfl))).trans p1, p2.keep gd⟩, ⟨[], (upd_ne (ne_kd hl h.hn (Nat.ne_of_beq_eq_false rfl))).trans hl, .nil⟩, np, h.ok, h.op, ol⟩
theorem Lk.newP {l x : Addr} {ts : List Str} (h : Lk O H kn p f P F) (hl : H l = some (.lst [.ref x])) (hx : H x = some (.dK (tds 0 ts))) (h1 : 1 ≤ ts.length) (ol : O l) (ox : O x) (nf : l ≠ f) : Lk O (upd H kn (.dK (kn2 l f))) kn l f [ts] F := by
  obtain ⟨bs, f1, f2⟩ := h.ff
  have gd : ∀ b u, H b = some u → O b → isDc u → O b ∧ upd H kn (.dK (kn2 l f)) b = some u := fun b u e o x => ⟨o, (upd_ne fun z => by
    rw [z, h.hn] at e
    cases e
    exact kn_dc x).trans e⟩
  have d : Ds O H [x] [ts] := Ds.snoc (as := []) (P := []) .nil ox h1 hx
  exact ⟨upd_same, ⟨[x], (upd_ne (ne_kd hl h.hn (Nat.ne_of_beq_eq_false rfl))).trans hl, d.keep gd⟩, ⟨bs, (upd_ne (ne_kd f1 h.hn (Nat.ne_of_beq_eq_false rfl))).trans f1, f2.keep gd⟩, nf, h.ok, ol, h.of⟩
end
def spExp : Sp := fun vs H Q _ => ∃ O kn p f P F ts D U a act res st', vs = [.ref kn, .ref a] ∧ Lk O H kn p f P F ∧ (∀ b, H b = none → O b) ∧ Back ts D P ∧ Fwd ts U F ∧ ActAt H a ts.length act ∧ Go (ts, D, U) act res st' ∧ 1 ≤ ts.length ∧ ts.length ≤ 5 ∧ P.length ≤ 900 ∧ F.length ≤ 900 ∧ (∀ x ∈ ts, x.length ≤ 3000) ∧ Fit 0 ts.length act ∧
  ∀ H' p' f' P' F', (∀ b u, H b = some u → b ≠ kn → b ≠ p → b ≠ f → H' b = some u) → (p' = p ∨ H p' = none) → (f' = f ∨ H f' = none) → Lk O H' kn p' f' P' F' → Back st'.1 st'.2.1 P' → Fwd st'.1 st'.2.2 F' → P'.length ≤ P.length + 1 → F'.length ≤ F.length + 1 → Q (.str res) H'
section
variable {P : Program} {w : World} {K : PySem.W.Frag} {mg : Str → Option Value} {base : Heap} {f : Addr} {fd : FuncData} {aF CK CR CC CE CU CN CS CV aW : Addr} {tL tP tM tS : PySem.Tok}
abbrev s_l_exp : Stmt := topS 121
abbrev N_l_exp : List Str := ["known", "act", "texts", "new", "start", "end", "string", "text"]
theorem sc_l_exp : FnScope N_l_exp ["known", "act"] (defScope s_l_exp) := ⟨rfl, rfl, rfl, by decide +kernel, rfl, by decide +kernel, by decide +kernel⟩
theorem ok_l_exp (F : Fun K "_law_expected" "_law_expected" s_l_exp f fd) (T : NmS K mg aF CK CR CC CE CU CN CS CV aW tL tP tM tS) : FnOk P w K mg base CX0 1 f fd ["known", "act"] spExp := by
  refine F.ok sc_l_exp (fun vs H Q E h => ?_) (fun cdv A outer s H vs Q E hr h => ?_)
  · obtain ⟨O, kn, p, f, P, F, ts, D, U, a, act, res, st', rfl, _⟩ := h
    rfl
  obtain ⟨O, kn, p, f, Ps, Fs, ts, D, U, a, act, res, st', rfl, lk, oo, bk, fw, ha, go, n1, n5, lP, lF, hx, fit, q⟩ := h
  refine ⟨_, (pss_cons (ps_set (i := 2) sc_l_exp.nd rfl (Or.inl rfl) (pe_ix (r := rIxL K) ix_list (pe_dget (hu_of hr) (pv 0) pe_str (fun _ _ => rfl)) (pe_un un_neg pe_int) (fun _ _ => rfl)))
    (pss_cons (ps_if (pt_cmpR op_eq (pe_ix (r := rIxT K) ix_tup (pv 1) pe_int (fun _ _ => rfl)) pe_str (nomark _)) (pss_cons (ps_if (pt_cmpR op_eq (pe_callB call_len_seq (by rfl) T.len PySem.boot_len (pa_cons (pe_dget (hu_of hr) (pv 0) pe_str (fun _ _ => rfl)) pa_nil)) pe_int (nomark _)) (pss_one (ps_ret pe_str)) pss_nil)
    (pss_cons (ps_expr (pe_bm PySem.F.plainAttrs_list PySem.F.slot_list_append PySem.F.type_list_append mt_append (pe_dget (hu_of hr) (pv 0) pe_str (fun _ _ => rfl)) (pa_cons (pe_bm0 PySem.F.plainAttrs_list PySem.F.slot_list_pop PySem.F.type_list_pop mt_pop (pe_dget (hu_of hr) (pv 0) pe_str (fun _ _ => rfl))) pa_nil)))
    (pss_one (ps_ret pe_str)))) pss_nil)
    (pss_cons (ps_if (pt_cmpR op_eq (pe_ix (r := rIxT K) ix_tup (pv 1) pe_int (fun _ _ => rfl)) pe_str (nomark _)) (pss_cons (ps_if (pt_cmpR (op_eqE hr.units) (pe_dget (hu_of hr) (pv 0) pe_str (fun _ _ => rfl)) (pe_lst pa_nil) (nomark _)) (pss_one (ps_ret pe_str)) pss_nil)
    (pss_cons (ps_expr (pe_bm PySem.F.plainAttrs_list PySem.F.slot_list_append PySem.F.type_list_append mt_append (pe_dget (hu_of hr) (pv 0) pe_str (fun _ _ => rfl)) (pa_cons (pe_bm0 PySem.F.plainAttrs_list PySem.F.slot_list_pop PySem.F.type_list_pop mt_pop (pe_dget (hu_of hr) (pv 0) pe_str (fun _ _ => rfl))) pa_nil)))
    (pss_one (ps_ret pe_str)))) pss_nil)
    (pss_cons (ps_set (i := 3) sc_l_exp.nd rfl (Or.inl rfl) (pe_callTy call_dictD (by rfl) T.dict_ (by decide +kernel) (pa_cons (pv 2) pa_nil)))
    (pss_cons (ps_if (pt_cmpR op_eq (pe_ix (r := rIxT K) ix_tup (pv 1) pe_int (fun _ _ => rfl)) pe_str (nomark _)) (pss_cons (ps_dput (hu_of hr) (pv 3) (pe_ix (r := rIxT K) ix_tup (pv 1) pe_int (fun _ _ => rfl)) pe_str rfl)
    (pss_cons (ps_dput (hu_of hr) (pv 0) pe_str (pe_lst (pa_cons (pv 3) pa_nil)) rfl)
    (pss_cons (ps_dput (hu_of hr) (pv 0) pe_str (pe_lst pa_nil) rfl)
    (pss_one (ps_ret pe_str))))) pss_nil)
    (pss_cons (ps_if (pt_cmp (pc_dnotin (hu_of hr) (pe_ix (r := rIxT K) ix_tup (pv 1) pe_int (fun _ _ => rfl)) (pv 2))) (pss_one (ps_ret pe_str)) pss_nil)
    (pss_cons (ps_asg (pe_ix (r := rIxT K) ix_tup (pv 1) pe_int (fun _ _ => rfl)) (pg_tup rfl (pgs_cons (pg_name (i := 4) sc_l_exp.nd rfl (Or.inl rfl)) (pgs_cons (pg_name (i := 5) sc_l_exp.nd rfl (Or.inl rfl)) (pgs_cons (pg_name (i := 6) sc_l_exp.nd rfl (Or.inl rfl)) pgs_nil)))))
    (pss_cons (ps_set (i := 7) sc_l_exp.nd rfl (Or.inl rfl) (pe_dget (hu_of hr) (pv 2) (pe_ix (r := rIxT K) ix_tup (pv 1) pe_int (fun _ _ => rfl)) (fun _ _ => rfl)))
    (pss_cons (ps_if (pt_not (pt_chain3 op_le op_le op_le pe_int (pv 4) (pv 5) (pe_callB call_len_str (by rfl) T.len PySem.boot_len (pa_cons (pv 7) pa_nil)))) (pss_one (ps_ret pe_str)) pss_nil)
    (pss_cons (ps_dput (hu_of hr) (pv 3) (pe_ix (r := rIxT K) ix_tup (pv 1) pe_int (fun _ _ => rfl)) (pe_op op_add_str (pe_op op_add_str (pe_slice sl_str (pv 7) po_none (po_some (pv 4))) (pv 6)) (pe_slice sl_str (pv 7) (po_some (pv 5)) po_none)) rfl)
    (pss_cons (ps_expr (pe_bm PySem.F.plainAttrs_list PySem.F.slot_list_append PySem.F.type_list_append mt_append (pe_dget (hu_of hr) (pv 0) pe_str (fun _ _ => rfl)) (pa_cons (pv 3) pa_nil)))
    (pss_cons (ps_dput (hu_of hr) (pv 0) pe_str (pe_lst pa_nil) rfl)
    (pss_one (ps_ret pe_str)))))))))))))), ?_⟩
  obtain ⟨Pp, rfl⟩ := bk.last
  obtain ⟨as, p1, p2⟩ := lk.pp
  obtain ⟨bs, f1, f2⟩ := lk.ff
  obtain ⟨as', x, rfl, d1, d2, d3, d4⟩ := p2.last
  have at1 : atI ((as' ++ [x]).map V.ref) (-1) = some (.ref x) := by
    rw [List.map_append]
    exact at_last
  have l1 := d1.len
  have l2 := f2.len
  refine ⟨_, rfl, kn, _, rfl, lk.gp, _, rfl, p, _, _, _, rfl, rfl, .inl (.inl p1), at1, ?_⟩
  have edl : ((as' ++ [x]).map V.ref).dropLast = as'.map V.ref := by simp
  have len0 : ((as' ++ [x]).map V.ref).length = Pp.length + 1 := by simp [l1]
  cases go with
  | undN =>
    have ha : H a = some (.tup [.str "undo", .str ""]) := ha
    refine ⟨_, rfl, a, _, 0, _, rfl, rfl, .inl (.inl ha), rfl, rfl, _, rfl, iteP rfl ?_⟩
    have e := congrArg List.length bk.nil'
    rw [List.length_append] at e
    have e : Pp.length = 0 := by simpa using e
    refine ⟨_, rfl, kn, _, rfl, lk.gp, p, _, rfl, .inl (.inl (.inl p1)), rfl, _, rfl, iteP (by rw [len0, e]; rfl) ?_⟩
    exact q H p f _ _ (fun _ _ e _ _ _ => e) (.inl rfl) (.inl rfl) lk bk fw (by omega) (by omega)
  | und =>
    rename_i D r
    have ha : H a = some (.tup [.str "undo", .str ""]) := ha
    refine ⟨_, rfl, a, _, 0, _, rfl, rfl, .inl (.inl ha), rfl, rfl, _, rfl, iteP rfl ?_⟩
    obtain ⟨P', e, hj, bk'⟩ := bk.un
    obtain ⟨e1, _⟩ := List.append_inj' e rfl
    subst e1
    have p1' : 1 ≤ Pp.length := by
      obtain ⟨z, rfl⟩ := bk'.last
      simp
    refine ⟨_, rfl, kn, _, rfl, lk.gp, p, _, rfl, .inl (.inl (.inl p1)), rfl, _, rfl, iteN (fun z => ?_) ?_⟩
    · have z := V.int.inj z
      rw [len0] at z
      omega
    obtain ⟨lk', fr⟩ := lk.set d1 (Ds.snoc f2 d2 d3 d4)
    rw [List.map_append] at lk' fr
    refine ⟨_, rfl, kn, _, rfl, lk.gf, .inl ⟨rfl, _, SqL.of f1⟩, _, rfl, kn, _, rfl, lk.gp, .inl ⟨rfl, _, SqL.of p1⟩, p, _, .ref x, rfl, rfl, p1, by simp, ?_⟩
    rw [edl]
    refine ⟨f, _, _, rfl, rfl, (upd_ne lk.pf.symm).trans f1, Nat.lt_of_le_of_lt (show _ ≤ 900 by rw [List.length_map]; omega) (by decide), ?_⟩
    have fw' : Fwd (ts.set r.j r.b) (U ++ [r]) (Fs ++ [(ts.set r.j r.b).set r.j r.a]) := .snoc (set_get hj) (by rw [set_back hj]; exact fw)
    rw [set_back hj] at fw'
    exact q _ p f Pp (Fs ++ [ts]) fr (.inl rfl) (.inl rfl) lk' bk' fw' (by simp; omega) (by simp)
  | redN =>
    have ha : H a = some (.tup [.str "redo", .str ""]) := ha
    refine ⟨_, rfl, a, _, 0, _, rfl, rfl, .inl (.inl ha), rfl, rfl, _, rfl, iteN (by decide) ?_⟩
    refine ⟨_, rfl, a, _, 0, _, rfl, rfl, .inl (.inl ha), rfl, rfl, _, rfl, iteP rfl ?_⟩
    have e := fw.nil'
    subst e
    have eb : bs = [] := List.length_eq_zero_iff.mp l2
    subst eb
    refine ⟨_, rfl, kn, _, rfl, lk.gf, Nat.zero_le _, fun l nl => ?_⟩
    have s1 := same_new (o := .lst []) nl
    refine ⟨f, l, _, rfl, rfl, s1 _ _ f1, upd_same, _, rfl, iteT' rfl ?_⟩
    exact q _ p f _ _ (fun b u e _ _ _ => s1 b u e) (.inl rfl) (.inl rfl) (lk.same s1) bk fw (by omega) (by omega)
  | red =>
    rename_i U r
    have ha : H a = some (.tup [.str "redo", .str ""]) := ha
    refine ⟨_, rfl, a, _, 0, _, rfl, rfl, .inl (.inl ha), rfl, rfl, _, rfl, iteN (by decide) ?_⟩
    refine ⟨_, rfl, a, _, 0, _, rfl, rfl, .inl (.inl ha), rfl, rfl, _, rfl, iteP rfl ?_⟩
    obtain ⟨F', rfl, hj, fw'⟩ := fw.un
    obtain ⟨bs', y, rfl, e1, e2, e3, e4⟩ := f2.last
    refine ⟨_, rfl, kn, _, rfl, lk.gf, Nat.zero_le _, fun l nl => ?_⟩
    have s1 := same_new (o := .lst []) nl
    have f11 := s1 _ _ f1
    have p11 := s1 _ _ p1
    refine ⟨f, l, _, rfl, rfl, f11, upd_same, _, rfl, iteF' (by simp) ?_⟩
    have lk1 := lk.same s1
    have gd : ∀ b u, H b = some u → O b → isDc u → O b ∧ upd H l (.lst []) b = some u := fun b u e o _ => ⟨o, s1 b u e⟩
    have lf := e1.len
    obtain ⟨lk', fr⟩ := lk1.set (Ds.snoc (p2.keep gd) e2 e3 (s1 _ _ e4)) (e1.keep gd)
    rw [List.map_append (l₁ := as' ++ [x])] at lk' fr
    have e5 : ((bs' ++ [y]).map V.ref).dropLast = bs'.map V.ref := by simp
    refine ⟨_, rfl, kn, _, rfl, lk1.gp, .inl ⟨rfl, _, SqL.of p11⟩, _, rfl, kn, _, rfl, lk1.gf, .inl ⟨rfl, _, SqL.of f11⟩, f, _, .ref y, rfl, rfl, f11, by simp, ?_⟩
    rw [e5]
    refine ⟨p, _, _, rfl, rfl, (upd_ne lk.pf).trans p11, Nat.lt_of_le_of_lt (show _ ≤ 1000 by rw [len0]; simp at lP; omega) (by decide), ?_⟩
    have ec : upd (upd (upd H l (.lst [])) f (.lst (bs'.map V.ref))) p (.lst ((as' ++ [x]).map V.ref ++ [.ref y])) = upd (upd (upd H l (.lst [])) p (.lst ((as' ++ [x]).map V.ref ++ [.ref y]))) f (.lst (bs'.map V.ref)) := by
      funext b
      by_cases c1 : b = p
      · subst c1
        rw [upd_same, upd_ne lk.pf, upd_same]
      · by_cases c2 : b = f
        · subst c2
          rw [upd_same, upd_ne c1, upd_same]
        · rw [upd_ne c1, upd_ne c2, upd_ne c2, upd_ne c1]
    rw [ec]
    have bk' : Back (ts.set r.j r.a) (D ++ [r]) ((Pp ++ [ts]) ++ [ts.set r.j r.a]) := .snoc (set_get hj) (by rw [set_back hj]; exact bk)
    exact q _ p f _ F' (fun b u e n1 n2 n3 => fr b u (s1 _ _ e) n1 n2 n3) (.inl rfl) (.inl rfl) lk' bk' fw' (by simp) (by simp; omega)
  | opn h5 =>
    have ha : H a = some (.tup [.str "open", .str (nm ts.length)]) := ha
    refine ⟨_, rfl, a, _, 0, _, rfl, rfl, .inl (.inl ha), rfl, rfl, _, rfl, iteN (by decide) ?_⟩
    refine ⟨_, rfl, a, _, 0, _, rfl, rfl, .inl (.inl ha), rfl, rfl, _, rfl, iteN (by decide) ?_⟩
    refine ⟨_, rfl, x, _, rfl, .inl d4, fun nw nn => ?_⟩
    have s1 := same_new (o := .dK (tds 0 ts)) nn
    have hn1 : upd H nw (.dK (tds 0 ts)) nw = some (.dK (tds 0 ts)) := upd_same
    have ha1 := s1 _ _ ha
    have fre : ∀ {b}, upd H nw (.dK (tds 0 ts)) b = none → H b = none ∧ b ≠ nw := fun {b} e => by
      by_cases c : b = nw
      · rw [c, upd_same] at e
        cases e
      · rw [upd_ne c] at e
        exact ⟨e, c⟩
    generalize upd H nw (.dK (tds 0 ts)) = H1 at s1 hn1 ha1 fre ⊢
    refine ⟨_, rfl, a, _, 0, _, rfl, rfl, .inl (.inl ha1), rfl, rfl, _, rfl, iteP rfl ?_⟩
    have tl : (tds 0 ts).length < sizeLine := by rw [tds_len]; exact Nat.lt_of_le_of_lt n5 (by decide)
    refine ⟨_, rfl, _, rfl, a, _, 1, _, rfl, rfl, .inl (.inl ha1), rfl, nw, _, rfl, DPut.k (k := .inr (nm ts.length)) hn1 tl, ?_⟩
    rw [tds_new ts "" (by omega)]
    have s2 : Same H (upd H1 nw (.dK (tds 0 (ts ++ [("" : Str)])))) := fun b u e => (upd_ne (ne_of_none e nn)).trans (s1 _ _ e)
    have hn2 : upd H1 nw (.dK (tds 0 (ts ++ [("" : Str)]))) nw = some (.dK (tds 0 (ts ++ [("" : Str)]))) := upd_same
    generalize upd H1 nw (.dK (tds 0 (ts ++ [("" : Str)]))) = H2 at s2 hn2 ⊢
    refine ⟨_, rfl, (by show 1 ≤ sizeLine; decide), fun l nl => ?_⟩
    have s3 := same_new (o := .lst [.ref nw]) nl
    have hl3 : upd H2 l (.lst [.ref nw]) l = some (.lst [.ref nw]) := upd_same
    have hn3 := s3 _ _ hn2
    have s23 := s2.trans s3
    generalize upd H2 l (.lst [.ref nw]) = H3 at s3 hl3 hn3 s23 ⊢
    have lk3 := lk.same s23
    refine ⟨_, rfl, kn, _, rfl, DPut.k (k := .inr "past") lk3.hn (by show 2 < sizeLine; decide), ?_⟩
    rw [kn_past']
    have nlf : l ≠ f := (ne_of_none (s2 _ _ f1) nl).symm
    have lk4 := lk3.newP hl3 hn3 (by simp) (oo _ (s2.free nl)) (oo _ nn) nlf
    have fr4 : ∀ b u, H3 b = some u → b ≠ kn → upd H3 kn (.dK (kn2 l f)) b = some u := fun b u e c => (upd_ne c).trans e
    have no4 : ∀ b, upd H3 kn (.dK (kn2 l f)) b = none → H b = none := fun b e => by
      cases c : H b with
      | none => rfl
      | some u =>
        by_cases z : b = kn
        · rw [z, upd_same] at e
          cases e
        · rw [fr4 b u (s23 _ _ c) z] at e
          cases e
    generalize upd H3 kn (.dK (kn2 l f)) = H4 at lk4 fr4 no4 ⊢
    refine ⟨Nat.zero_le _, fun l2 nl2 => ?_⟩
    have s5 := same_new (o := .lst []) nl2
    have hl5 : upd H4 l2 (.lst []) l2 = some (.lst []) := upd_same
    generalize upd H4 l2 (.lst []) = H5 at s5 hl5 ⊢
    have lk5 := lk4.same s5
    refine ⟨_, rfl, kn, _, rfl, DPut.k (k := .inr "future") lk5.hn (by show 2 < sizeLine; decide), ?_⟩
    rw [kn_future']
    have nll : l ≠ l2 := by
      obtain ⟨_, y, _⟩ := lk4.pp
      exact ne_of_none y nl2
    have lk6 := lk5.newF hl5 (oo _ (no4 _ nl2)) nll
    refine q _ l l2 [ts ++ [("" : Str)]] [] (fun b u e n1 n2 n3 => (upd_ne n1).trans (s5 _ _ (fr4 _ _ (s23 _ _ e) n1))) (.inr (s2.free nl)) (.inr (no4 _ nl2)) lk6 .nil .nil (by simp) (by simp)
  | unk h =>
    rename_i m s0 e0 z
    obtain ⟨q0, ha, hq0⟩ := ha
    refine ⟨_, rfl, a, _, 0, _, rfl, rfl, .inl (.inl ha), rfl, rfl, _, rfl, iteN (by decide) ?_⟩
    refine ⟨_, rfl, a, _, 0, _, rfl, rfl, .inl (.inl ha), rfl, rfl, _, rfl, iteN (by decide) ?_⟩
    refine ⟨_, rfl, x, _, rfl, .inl d4, fun nw nn => ?_⟩
    have s1 := same_new (o := .dK (tds 0 ts)) nn
    generalize upd H nw (.dK (tds 0 ts)) = H1 at s1 ⊢
    refine ⟨_, rfl, a, _, 0, _, rfl, rfl, .inl (.inl (s1 _ _ ha)), rfl, rfl, _, rfl, iteN (by decide) ?_⟩
    refine ⟨_, rfl, a, _, 1, _, rfl, rfl, .inl (.inl (s1 _ _ ha)), rfl, _, rfl, x, _, rfl, DGet.k (k := .inr m) (s1 _ _ d4), ?_⟩
    rw [tds_no ts 0 m (by omega) fun j _ _ hj => h j (by show j < ts.length; omega)]
    exact ⟨_, rfl, q _ p f _ _ (fun b u e _ _ _ => s1 b u e) (.inl rfl) (.inl rfl) (lk.same s1) bk fw (by omega) (by omega)⟩
  | inv hx0 hc =>
    rename_i j y s0 e0 z
    have hx0 : ts[j]? = some y := hx0
    obtain ⟨q0, ha, hq0⟩ := ha
    have hj := (List.getElem?_eq_some_iff.mp hx0).1
    refine ⟨_, rfl, a, _, 0, _, rfl, rfl, .inl (.inl ha), rfl, rfl, _, rfl, iteN (by decide) ?_⟩
    refine ⟨_, rfl, a, _, 0, _, rfl, rfl, .inl (.inl ha), rfl, rfl, _, rfl, iteN (by decide) ?_⟩
    refine ⟨_, rfl, x, _, rfl, .inl d4, fun nw nn => ?_⟩
    have s1 := same_new (o := .dK (tds 0 ts)) nn
    generalize upd H nw (.dK (tds 0 ts)) = H1 at s1 ⊢
    have ha1 := s1 _ _ ha
    have dg := DGet.k (k := .inr (nm j)) (s1 _ _ d4)
    rw [tds_at ts (by omega) hx0] at dg
    refine ⟨_, rfl, a, _, 0, _, rfl, rfl, .inl (.inl ha1), rfl, rfl, _, rfl, iteN (by decide) ?_⟩
    refine ⟨_, rfl, a, _, 1, _, rfl, rfl, .inl (.inl ha1), rfl, _, rfl, x, _, rfl, dg, _, rfl, iteF ?_⟩
    refine ⟨_, rfl, a, _, 2, _, rfl, rfl, .inl (.inl ha1), rfl, q0, _, rfl, .inl (.inl (s1 _ _ hq0)), rfl, _, _, rfl, _, _, rfl, _, _, rfl, rfl, ?_⟩
    refine ⟨_, rfl, _, rfl, a, _, 1, _, rfl, rfl, .inl (.inl ha1), rfl, x, _, rfl, dg, ?_⟩
    have ly : y.length ≤ sizeLine := Nat.le_trans (hx _ (List.mem_of_getElem? hx0)) (by decide)
    refine ⟨_, rfl, _, _, rfl, rfl, _, rfl, ?_⟩
    have fin := q H1 p f _ _ (fun b u e _ _ _ => s1 b u e) (.inl rfl) (.inl rfl) (lk.same s1) bk fw (by omega) (by omega)
    have el := len_tl y
    by_cases c1 : 0 ≤ s0
    · refine iteP c1 ⟨_, rfl, _, _, rfl, rfl, _, rfl, ?_⟩
      by_cases c2 : s0 ≤ e0
      · refine iteP c2 ⟨_, rfl, y, rfl, ly, _, _, rfl, rfl, _, rfl, ?_⟩
        exact iteNN (fun k => hc ⟨c1, c2, by omega⟩) fin
      · exact iteN c2 ⟨_, rfl, fin⟩
    · exact iteN c1 ⟨_, rfl, fin⟩
  | edt hx0 hc =>
    rename_i j y s0 e0 z
    obtain ⟨q0, ha, hq0⟩ := ha
    have hj := (List.getElem?_eq_some_iff.mp hx0).1
    refine ⟨_, rfl, a, _, 0, _, rfl, rfl, .inl (.inl ha), rfl, rfl, _, rfl, iteN (by decide) ?_⟩
    refine ⟨_, rfl, a, _, 0, _, rfl, rfl, .inl (.inl ha), rfl, rfl, _, rfl, iteN (by decide) ?_⟩
    refine ⟨_, rfl, x, _, rfl, .inl d4, fun nw nn => ?_⟩
    have s1 := same_new (o := .dK (tds 0 ts)) nn
    have hn1 : upd H nw (.dK (tds 0 ts)) nw = some (.dK (tds 0 ts)) := upd_same
    generalize upd H nw (.dK (tds 0 ts)) = H1 at s1 hn1 ⊢
    have ha1 := s1 _ _ ha
    have dg := DGet.k (k := .inr (nm j)) (s1 _ _ d4)
    rw [tds_at ts (by omega) hx0] at dg
    refine ⟨_, rfl, a, _, 0, _, rfl, rfl, .inl (.inl ha1), rfl, rfl, _, rfl, iteN (by decide) ?_⟩
    refine ⟨_, rfl, a, _, 1, _, rfl, rfl, .inl (.inl ha1), rfl, _, rfl, x, _, rfl, dg, _, rfl, iteF ?_⟩
    refine ⟨_, rfl, a, _, 2, _, rfl, rfl, .inl (.inl ha1), rfl, q0, _, rfl, .inl (.inl (s1 _ _ hq0)), rfl, _, _, rfl, _, _, rfl, _, _, rfl, rfl, ?_⟩
    refine ⟨_, rfl, _, rfl, a, _, 1, _, rfl, rfl, .inl (.inl ha1), rfl, x, _, rfl, dg, ?_⟩
    have ly0 := hx _ (List.mem_of_getElem? hx0)
    have ly : y.length ≤ sizeLine := Nat.le_trans ly0 (by decide)
    have el := len_tl y
    obtain ⟨c1, c2, c3⟩ := hc
    refine ⟨_, rfl, _, _, rfl, rfl, _, rfl, iteP c1 ⟨_, rfl, _, _, rfl, rfl, _, rfl, iteP c2 ⟨_, rfl, y, rfl, ly, _, _, rfl, rfl, _, rfl, ?_⟩⟩⟩
    refine iteNS (by omega) ?_
    obtain ⟨sn, rfl⟩ := nat_of c1
    obtain ⟨en, rfl⟩ := nat_of (Int.le_trans c1 c2)
    have lz : z.length ≤ 100 := of_decide_eq_true (Bool.and_eq_true_iff.mp fit.1).2
    have lc1 : (cutS y none (some (sn : Int))).length ≤ 4000 := Nat.le_trans (cutS_length _ _ _) (by omega)
    have lc2 : (cutS y (some (en : Int)) none).length ≤ 4000 := Nat.le_trans (cutS_length _ _ _) (by omega)
    have e1 : cutS y none (some (sn : Int)) ++ z ++ cutS y (some (en : Int)) none = spl y sn en z := ext_tl (by
      rw [tl_append, tl_append, tl_cut_to, tl_cut_from, List.append_assoc]
      rfl)
    have e0 : (cutS y none (some (sn : Int)) ++ z).length ≤ 5000 := by
      rw [len_tl (_ ++ _), tl_append, List.length_append, ← len_tl, ← len_tl]
      omega
    refine ⟨_, rfl, _, rfl, _, rfl, y, rfl, ly, _, rfl, _, _, rfl, rfl, small (by omega), _, rfl, _, rfl, _, rfl, y, rfl, ly, _, _, rfl, rfl, small (by omega), ?_⟩
    dsimp only
    rw [e1]
    have tl : (tds 0 ts).length < sizeLine := by rw [tds_len]; exact Nat.lt_of_le_of_lt n5 (by decide)
    refine ⟨_, rfl, _, rfl, a, _, 1, _, rfl, rfl, .inl (.inl ha1), rfl, nw, _, rfl, DPut.k (k := .inr (nm j)) hn1 tl, ?_⟩
    rw [tds_put ts j _ (by omega) hj]
    generalize spl y sn en z = w0 at q ⊢
    have s2 : Same H (upd H1 nw (.dK (tds 0 (ts.set j w0)))) := fun b u e => (upd_ne (ne_of_none e nn)).trans (s1 _ _ e)
    have hn2 : upd H1 nw (.dK (tds 0 (ts.set j w0))) nw = some (.dK (tds 0 (ts.set j w0))) := upd_same
    generalize upd H1 nw (.dK (tds 0 (ts.set j w0))) = H2 at s2 hn2 ⊢
    have lk2 := lk.same s2
    have p12 := s2 _ _ p1
    have f12 := s2 _ _ f1
    have gd : ∀ b u, H b = some u → O b → isDc u → O b ∧ H2 b = some u := fun b u e o _ => ⟨o, s2 b u e⟩
    obtain ⟨lk3, fr3⟩ := lk2.set (Ds.snoc (p2.keep gd) (oo _ nn) (by simpa using n1) hn2) (f2.keep gd)
    rw [List.map_append (l₁ := as' ++ [x])] at lk3 fr3
    refine ⟨_, rfl, kn, _, rfl, lk2.gp, .inl ⟨rfl, _, SqL.of p12⟩, _, rfl, p, _, _, rfl, rfl, p12, Nat.lt_of_le_of_lt (show _ ≤ 1000 by rw [len0]; simp at lP; omega) (by decide), ?_⟩
    have ec : upd (upd H2 p (.lst ((as' ++ [x]).map V.ref ++ [.ref nw]))) f (.lst (bs.map V.ref)) = upd H2 p (.lst ((as' ++ [x]).map V.ref ++ [.ref nw])) := by
      funext b
      by_cases c : b = f
      · subst c
        rw [upd_same, upd_ne lk.pf.symm, f12]
      · rw [upd_ne c]
    have em : List.map V.ref [nw] = [V.ref nw] := rfl
    rw [em, ec] at lk3 fr3
    generalize upd H2 p (.lst ((as' ++ [x]).map V.ref ++ [.ref nw])) = H3 at lk3 fr3 ⊢
    refine ⟨Nat.zero_le _, fun l2 nl2 => ?_⟩
    have s5 := same_new (o := .lst []) nl2
    have hl5 : upd H3 l2 (.lst []) l2 = some (.lst []) := upd_same
    generalize upd H3 l2 (.lst []) = H5 at s5 hl5 ⊢
    have lk5 := lk3.same s5
    refine ⟨_, rfl, kn, _, rfl, DPut.k (k := .inr "future") lk5.hn (by show 2 < sizeLine; decide), ?_⟩
    rw [kn_future']
    have n3 : H l2 = none := by
      cases c : H l2 with
      | none => rfl
      | some u =>
        have np : l2 ≠ p := by
          obtain ⟨_, y, _⟩ := lk3.pp
          exact (ne_of_none y nl2).symm
        have nf : l2 ≠ f := by
          obtain ⟨_, y, _⟩ := lk3.ff
          exact (ne_of_none y nl2).symm
        have nk : l2 ≠ kn := (ne_of_none lk3.hn nl2).symm
        rw [fr3 _ _ (s2 _ _ c) nk np nf] at nl2
        cases nl2
    have npl : p ≠ l2 := by
      obtain ⟨_, y, _⟩ := lk3.pp
      exact ne_of_none y nl2
    have lk6 := lk5.newF hl5 (oo _ n3) npl
    refine q _ p l2 _ [] (fun b u e m1 m2 m3 => (upd_ne m1).trans (s5 _ _ (fr3 _ _ (s2 _ _ e) m1 m2 m3))) (.inl rfl) (.inr n3) lk6 (.snoc (r := ⟨j, y, w0⟩) (set_get hx0) ?_) .nil (by simp) (by simp)
    show Back ((ts.set j w0).set j y) D _
    rw [set_back hx0]
    exact bk
end

end Sn

namespace Sn
open PySem PySem.Spec PyProof.Rows L2 TL
/-! ### the law -/
theorem Tp.keep2 {H H' : Hp} {t c : Addr} (h : Tp H t c) (f : ∀ b u, H b = some u → (b = t ∨ b = c) → H' b = some u) : Tp H' t c := by
  obtain ⟨cs, a, l, se, sa, z⟩ := h
  exact ⟨cs, a, l, se, sa, f _ _ z.d (.inl rfl), f _ _ z.cl (.inr rfl), z.cp, z.a0, z.l0, z.s0, z.s1⟩
theorem go_len {st st' : Ste} {act : Act} {res : Str} (g : Go st act res st') : st'.2.1.length ≤ st.2.1.length + 1 ∧ st'.2.2.length ≤ st.2.2.length + 1 := by
  cases g <;> simp <;> omega
structure Wd (CV CK CR aF t c kn : Addr) (H : Hp) (i : Nat) (A : SA) (p f : Addr) (ts : List Str) (D U : List Row) (P F : List (List Str)) (ni : Nat) : Prop where
  tp : Tp H t c
  ot : Off A t
  oc : Off A c
  sv : Sv CV CK CR aF H A ts D U ni
  lk : Lk (Off A) H kn p f P F
  cp : c ≠ p
  cf : c ≠ f
  bk : Back ts D P
  fw : Fwd ts U F
  ok : OkSt (100 + 100 * i) (ts, D, U)
  hni : ni ≤ 10 + 2 * i
  lD : D.length ≤ i
  lU : U.length ≤ i
  lP : P.length ≤ 1 + i
  lF : F.length ≤ i
/-- the law's own lists and dict change -/
theorem Sv.law {CV CK CR aF kn p f : Addr} {H H' : Hp} {A : SA} {ts : List Str} {D U : List Row} {ni : Nat} {P F : List (List Str)} (h : Sv CV CK CR aF H A ts D U ni) (lk : Lk (Off A) H kn p f P F) (fr : ∀ b u, H b = some u → b ≠ kn → b ≠ p → b ≠ f → H' b = some u) : Sv CV CK CR aF H' A ts D U ni := by
  obtain ⟨_, p1, _⟩ := lk.pp
  obtain ⟨_, f1, _⟩ := lk.ff
  have n : ∀ {x b : Addr} {w u : HO}, Off A x → H x = some w → ¬ Kob w → H b = some u → (b = A.s ∨ b = A.tx ∨ b = A.d ∨ b = A.u ∨ b = A.k.l ∨ Kob u) → b ≠ x := fun {x b w u} o e k eb y z => by
    subst z
    rw [e] at eb
    cases eb
    rcases y with y | y | y | y | y | y
    · exact o.s y
    · exact o.tx y
    · exact o.d y
    · exact o.u y
    · exact o.l y
    · exact k y
  exact h.keep fun b u e y => fr b u e (n lk.ok lk.hn (fun z => z) e y) (n lk.op p1 (fun z => z) e y) (n lk.of f1 (fun z => z) e y)
theorem Wd.tape {CV CK CR aF t c kn : Addr} {H H' : Hp} {i : Nat} {A : SA} {p f : Addr} {ts : List Str} {D U : List Row} {P F : List (List Str)} {ni : Nat} (h : Wd CV CK CR aF t c kn H i A p f ts D U P F ni) (b : But t H H') (tp : Tp H' t c) : Wd CV CK CR aF t c kn H' i A p f ts D U P F ni := by
  obtain ⟨_, p1, _⟩ := h.lk.pp
  obtain ⟨_, f1, _⟩ := h.lk.ff
  obtain ⟨_, _, _, _, _, z⟩ := id h.tp
  refine ⟨tp, h.ot, h.oc, h.sv.but b h.ot z.d (fun y => y), h.lk.keep fun x u e o y => ⟨o, b x u ?_ e⟩, h.cp, h.cf, h.bk, h.fw, h.ok, h.hni, h.lD, h.lU, h.lP, h.lF⟩
  rcases y with rfl | rfl | rfl | y
  · exact h.tp.nkn h.lk.hn
  · exact h.tp.ne p1 fun _ k => nomatch k
  · exact h.tp.ne f1 fun _ k => nomatch k
  · exact h.tp.ndc e y
theorem Fit.up {L n : Nat} {act : Act} (h : Fit 0 n act) (hL : L ≤ 3000) : Fit L n act := by
  cases act with
  | edt m s e z => exact ⟨h.1, h.2.1, hL⟩
  | opn => exact h
  | und => trivial
  | red => trivial
def ts0 : List Str := ["def f() = 1\n", "data D(x: Int)\n"]
theorem ts0_ok : ts0.all (fun x => decide (x.length ≤ 100) && okT x) = true := by decide +kernel
theorem ts0_dict : mergeK [] [((.inr "m0" : Key), V.str "def f() = 1\n"), (.inr "m1", .str "data D(x: Int)\n")] = tds 0 ts0 := by decide +kernel
section
variable {P : Program} {w : World} {K : PySem.W.Frag} {mg : Str → Option Value} {base : Heap} {f : Addr} {fd : FuncData} {aF CK CR CC CE CU CN CS CV aW : Addr} {tL tP tM tS : PySem.Tok}
abbrev s_law : Stmt := topS 123
abbrev N_law : List Str := ["script", "tape", "texts", "server", "known", "k", "act"]
theorem sc_law : FnScope N_law ["script"] (defScope s_law) := ⟨rfl, rfl, rfl, by decide +kernel, rfl, by decide +kernel, by decide +kernel⟩
theorem ok_law (F : Fun K "law" "law" s_law f fd) (T : NmS K mg aF CK CR CC CE CU CN CS CV aW tL tP tM tS) (C_law_tape : Cal P w K mg base CX0 1 "_law_tape" (spTape K)) (C_law_take : Cal P w K mg base CX0 1 "_law_take" spTake) (I_Server : CalO P w K mg base CX0 7 CV (spSI CV CK CR aF))
    (C_law_act : Cal P w K mg base CX0 4 "_law_act" spAct) (C_law_do : Cal P w K mg base CX0 8 "_law_do" (spDo CV CK CR aF)) (C_law_expected : Cal P w K mg base CX0 1 "_law_expected" spExp) (C_law_same : Cal P w K mg base CX0 9 "_law_same" spSameD)
    (C_Server_program : CalM P w K mg base CX0 1 CV "program" (spProg CV CK CR aF)) : FnOk P w K mg base CX0 10 f fd ["script"] (spLaw K) := by
  refine F.ok sc_law (fun vs H Q E h => ?_) (fun cdv A' outer s H vs Q E hr h => ?_)
  · obtain ⟨a, ns, rfl, _⟩ := h
    rfl
  obtain ⟨a, ns, rfl, hS, h63, q⟩ := h
  refine ⟨_, (pss_cons (ps_set (i := 1) sc_law.nd rfl (Or.inl rfl) (pe_c C_law_tape hr (by first | decide | omega) pass0 (pa_cons (pv 0) pa_nil)))
    (pss_cons (ps_set (i := 2) sc_law.nd rfl (Or.inl rfl) (pe_disp (pps_cons pe_str pe_str (pps_cons pe_str pe_str pps_nil)) (by rfl) (by rfl) (fun z => by cases z) (by decide)))
    (pss_cons (ps_set (i := 3) sc_law.nd rfl (Or.inl rfl) (pe_mk I_Server hr (by first | decide | omega) T.mk_Server pass0 (pa_cons (pv 2) pa_nil)))
    (pss_cons (ps_set (i := 4) sc_law.nd rfl (Or.inl rfl) (pe_disp (pps_cons pe_str (pe_lst (pa_cons (pe_callTy call_dictD (by rfl) T.dict_ (by decide +kernel) (pa_cons (pv 2) pa_nil)) pa_nil)) (pps_cons pe_str (pe_lst pa_nil) pps_nil)) (by rfl) (by rfl) (fun z => by cases z) (by decide)))
    (pss_cons (ps_for PassesOwn.never rfl (pi_range1 (by rfl) T.range (pa_cons (pe_op op_add pe_int (pe_c C_law_take hr (by first | decide | omega) pass0 (pa_cons (pv 1) (pa_cons pe_int pa_nil)))) pa_nil)) (pg_name (i := 5) sc_law.nd rfl (Or.inl rfl)) (pss_cons (ps_set (i := 6) sc_law.nd rfl (Or.inl rfl) (pe_c C_law_act hr (by first | decide | omega) pass0 (pa_cons (pv 1) (pa_cons (pv 4) pa_nil))))
    (pss_cons (ps_if (pt_cmpR op_ne (pe_c C_law_do hr (by first | decide | omega) pass0 (pa_cons (pv 3) (pa_cons (pv 6) pa_nil))) (pe_c C_law_expected hr (by first | decide | omega) pass0 (pa_cons (pv 4) (pa_cons (pv 6) pa_nil))) (nomark _)) (pss_one (ps_ret pe_bl)) pss_nil)
    (pss_one (ps_if (pt_not (pt_val (pe_c C_law_same hr (by first | decide | omega) pass0 (pa_cons (pe_m0 ns_Server C_Server_program T.cl_Server (by decide) hr (by first | decide | omega) pass0 (pv 3)) (pa_cons (pe_ix (r := rIxL K) ix_list (pe_dget (hu_of hr) (pv 4) pe_str (fun _ _ => rfl)) (pe_un un_neg pe_int) (fun _ _ => rfl)) pa_nil))))) (pss_one (ps_ret pe_bl)) pss_nil)))))
    (pss_one (ps_ret pe_bl))))))), ?_⟩
  refine ⟨_, rfl, a, ns, rfl, hS, h63, fun t c H1 s1 nt nc tp1 => ?_⟩
  intro tx ntx
  refine ⟨upd_same, [((.inr "m0" : Key), V.str "def f() = 1\n"), (.inr "m1", .str "data D(x: Int)\n")], rfl, (by show 2 ≤ 15; decide), ?_⟩
  rw [upd_upd, ts0_dict]
  have s2 := same_new (o := .dK (tds 0 ts0)) ntx
  have htx : upd H1 tx (.dK (tds 0 ts0)) tx = some (.dK (tds 0 ts0)) := upd_same
  have tp2 := tp1.same s2
  generalize upd H1 tx (.dK (tds 0 ts0)) = H2 at s2 htx tp2 ⊢
  have sm0 : ∀ x ∈ ts0, Sm 100 x := fun x hx => by
    have := Bool.and_eq_true_iff.mp (List.all_eq_true.mp ts0_ok x hx)
    exact ⟨of_decide_eq_true this.1, OkT.of this.2⟩
  refine ⟨_, rfl, fun o dx n1 n2 n3 => ⟨o, dx, tx, ts0, rfl, upd_same, (upd_ne (ne_of_none htx n1)).trans ((upd_ne (ne_of_none htx n2)).trans htx), by decide, by decide, fun x hx => ⟨Nat.le_trans (sm0 x hx).1 (by decide), (sm0 x hx).2⟩, fun H3 A ni eA fr hni sv => ⟨rfl, ?_⟩⟩⟩
  have up3 : ∀ b u, H2 b = some u → Off A b ∧ H3 b = some u := fun b u e => fr b u ((upd_ne (ne_of_none e n1)).trans ((upd_ne (ne_of_none e n2)).trans e)) (ne_of_none e n1)
  subst eA
  have htx3 := up3 _ _ htx
  have tp3 : Tp H3 t c := tp2.keep2 fun b u e _ => (up3 b u e).2
  have ot : Off A t := by
    obtain ⟨_, _, _, _, _, z⟩ := tp2
    exact (up3 _ _ z.d).1
  have oc : Off A c := by
    obtain ⟨_, _, _, _, _, z⟩ := tp2
    exact (up3 _ _ z.cl).1
  clear fr n1 n2 n3
  intro kn nkn
  have sk := same_new (o := .dK []) nkn
  have hk : upd H3 kn (.dK []) kn = some (.dK []) := upd_same
  generalize upd H3 kn (.dK []) = Hk at sk hk ⊢
  refine ⟨_, rfl, tx, _, rfl, .inl (sk _ _ htx3.2), fun q1 nq1 => ?_⟩
  have s5 := same_new (o := .dK (tds 0 ts0)) nq1
  have hq5 : upd Hk q1 (.dK (tds 0 ts0)) q1 = some (.dK (tds 0 ts0)) := upd_same
  generalize upd Hk q1 (.dK (tds 0 ts0)) = H5 at s5 hq5 ⊢
  refine ⟨(by show 1 ≤ sizeLine; decide), fun l1 nl1 => ?_⟩
  have s6 := same_new (o := .lst [.ref q1]) nl1
  have hl6 : upd H5 l1 (.lst [.ref q1]) l1 = some (.lst [.ref q1]) := upd_same
  generalize upd H5 l1 (.lst [.ref q1]) = H6 at s6 hl6 ⊢
  refine ⟨Nat.zero_le _, fun l2 nl2 => ?_⟩
  have s7 := same_new (o := .lst []) nl2
  have hl7 : upd H6 l2 (.lst []) l2 = some (.lst []) := upd_same
  generalize upd H6 l2 (.lst []) = H7 at s7 hl7 ⊢
  have s57 := (s5.trans s6).trans s7
  refine ⟨s57 _ _ hk, kn2 l1 l2, rfl, (by show 2 ≤ 15; decide), ?_⟩
  have ek : mergeK [] (kn2 l1 l2) = kn2 l1 l2 := by kernel_rfl
  rw [ek]
  have s8 : Same H3 (upd H7 kn (.dK (kn2 l1 l2))) := fun b u e => (upd_ne (ne_of_none e nkn)).trans (s57 _ _ (sk _ _ e))
  have h8n : upd H7 kn (.dK (kn2 l1 l2)) kn = some (.dK (kn2 l1 l2)) := upd_same
  have h8q : upd H7 kn (.dK (kn2 l1 l2)) q1 = some (.dK (tds 0 ts0)) := (upd_ne (ne_of_none hk nq1).symm).trans (s7 _ _ (s6 _ _ hq5))
  have h8l : upd H7 kn (.dK (kn2 l1 l2)) l1 = some (.lst [.ref q1]) := (upd_ne (ne_of_none (s5 _ _ hk) nl1).symm).trans (s7 _ _ hl6)
  have h8m : upd H7 kn (.dK (kn2 l1 l2)) l2 = some (.lst []) := (upd_ne (ne_of_none (s6 _ _ (s5 _ _ hk)) nl2).symm).trans hl7
  generalize upd H7 kn (.dK (kn2 l1 l2)) = H8 at s8 h8n h8q h8l h8m ⊢
  have tc3 : ∃ u v, H3 t = some u ∧ H3 c = some v := by
    obtain ⟨_, _, _, _, _, z⟩ := tp3
    exact ⟨_, _, z.d, z.cl⟩
  obtain ⟨ut, uc, ht3, hc3⟩ := tc3
  have wd0 : Wd CV CK CR aF t c kn H8 0 A l1 l2 ts0 [] [] [ts0] [] ni := by
    refine ⟨tp3.same s8, ot, oc, sv.same s8, ⟨h8n, ⟨[q1], h8l, Ds.snoc (as := []) (P := []) .nil (sv.nil (sk.free nq1)) (by decide) h8q⟩, ⟨[], h8m, .nil⟩, ne_of_none hl6 nl2, sv.nil nkn, sv.nil (sk.free (s5.free nl1)), sv.nil (sk.free (s5.free (s6.free nl2)))⟩,
      ne_of_none (s5 _ _ (sk _ _ hc3)) nl1, ne_of_none (s6 _ _ (s5 _ _ (sk _ _ hc3))) nl2, .nil, .nil, ⟨by decide, by decide, sm0, fun r h => absurd h (by simp), fun r h => absurd h (by simp)⟩, by omega, Nat.le_refl _, Nat.le_refl _, Nat.le_refl _, Nat.le_refl _⟩
  refine ⟨_, rfl, t, c, 14, rfl, wd0.tp, by decide, by decide, fun r H9 r0 r1 b9 tp9 => ?_⟩
  have wd9 := wd0.tape b9 tp9
  refine ⟨_, _, rfl, rfl, _, rfl, by omega, by omega, for_range (lo := 0) (n := (1 + r).toNat) (fun i σ H' => (∃ v5 v6, σ = [some (.ref a), some (.ref t), some (.ref tx), some (.ref A.s), some (.ref kn), v5, v6]) ∧ ∃ A' p f ts D U P F ni, A'.s = A.s ∧ Wd CV CK CR aF t c kn H' i A' p f ts D U P F ni) ⟨⟨none, none, rfl⟩, A, l1, l2, ts0, [], [], [ts0], [], ni, rfl, wd9⟩ ?_ ?_⟩
  · rintro i σ H' hi ⟨⟨v5, v6, rfl⟩, A', p, f, ts, D, U, P, F, ni, eA, wd⟩
    have hi14 : i < 14 := by omega
    obtain ⟨Pp, rfl⟩ := wd.bk.last
    have ok := wd.ok
    have oks := ok.tl
    refine ⟨_, rfl, _, rfl, t, c, Off A', kn, p, f, Pp, F, ts, rfl, wd.tp, wd.lk, ok.n2, ok.n5, fun x hx => Nat.le_trans (ok.tl x hx).1 (by omega), fun act ac H10 b10 tp10 ha fit => ?_⟩
    have wd10 := wd.tape b10 tp10
    obtain ⟨res, st', go⟩ := go_ex (st := (ts, D, U)) fit
    have hD := wd.lD
    have hU := wd.lU
    have hni := wd.hni
    refine ⟨_, rfl, _, rfl, A', ts, D, U, ni, act, ac, res, st', _, by rw [eA]; rfl, wd10.sv, ok, by omega, ha, fit, go, by omega, by omega, by omega, fun H11 A'' ni' eA' ad sv11 hni' => ?_⟩
    have ha11 := ha.keep (wd10.sv.tup ad)
    have lk11 : Lk (Off A'') H11 kn p f (Pp ++ [ts]) F := wd10.lk.keep fun b u e o _ => ad b u e o
    have tpz : ∃ u v, H10 t = some u ∧ H10 c = some v ∧ kd v = 2 := by
      obtain ⟨_, _, _, _, _, z⟩ := wd10.tp
      exact ⟨_, _, z.d, z.cl, rfl⟩
    obtain ⟨ut, uc, ht10, hc10, kc⟩ := tpz
    obtain ⟨ot11, ht11⟩ := ad _ _ ht10 wd.ot
    obtain ⟨oc11, hc11⟩ := ad _ _ hc10 wd.oc
    have tp11 : Tp H11 t c := wd10.tp.keep2 fun b u e y => (ad b u e (by rcases y with rfl | rfl; exact wd.ot; exact wd.oc)).2
    have lP := wd.lP
    have lF := wd.lF
    refine ⟨_, rfl, _, rfl, Off A'', kn, p, f, Pp ++ [ts], F, ts, D, U, act, ac, res, st', rfl, lk11, fun b e => sv11.nil e, wd.bk, wd.fw, ha11, go, ok.n2, ok.n5, by omega, by omega, fun x hx => Nat.le_trans (ok.tl x hx).1 (by omega), fit, fun H12 p' f' P' F' fr hp' hf' lk12 bk12 fw12 lP' lF' => ?_⟩
    refine ⟨rfl, _, rfl, iteNS rfl ?_⟩
    have sv12 := sv11.law lk11 fr
    have tp12 : Tp H12 t c := by
      obtain ⟨_, p1, _⟩ := lk11.pp
      obtain ⟨_, f1, _⟩ := lk11.ff
      refine tp11.keep2 fun b u e y => fr b u e ?_ ?_ ?_
      · rcases y with rfl | rfl
        · exact (tp11.nkn lk11.hn).symm
        · exact ne_kd hc11 lk11.hn (by rw [kc]; exact Nat.ne_of_beq_eq_false rfl)
      · rcases y with rfl | rfl
        · exact (tp11.ne p1 fun _ k => nomatch k).symm
        · exact wd.cp
      · rcases y with rfl | rfl
        · exact (tp11.ne f1 fun _ k => nomatch k).symm
        · exact wd.cf
    have hD := wd.lD
    have hU := wd.lU
    have ok' := go_ok go ok (fit.up (L := 100 + 100 * i) (by omega))
    have gl : st'.2.1.length ≤ D.length + 1 ∧ st'.2.2.length ≤ U.length + 1 := go_len go
    refine ⟨_, rfl, A''.s, by rw [eA', eA], sv12.raw.isI, A'', st'.1, st'.2.1, st'.2.2, ni', by rw [eA', eA], sv12, ok'.n5, fun q0 H13 nq s13 hq => ?_⟩
    have lk13 := lk12.same s13
    obtain ⟨P2, rfl⟩ := bk12.last
    obtain ⟨as, p1, p2⟩ := lk12.pp
    obtain ⟨as', x, rfl, d1, d2, d3, d4⟩ := p2.last
    have at1 : atI ((as' ++ [x]).map V.ref) (-1) = some (.ref x) := by
      rw [List.map_append]
      exact at_last
    refine ⟨_, rfl, kn, _, rfl, lk13.gp, _, rfl, p', _, _, _, rfl, rfl, .inl (.inl (s13 _ _ p1)), at1, ?_⟩
    refine ⟨q0, x, st'.1, rfl, (ne_of_none d4 nq).symm, hq, s13 _ _ d4, ok'.n5, fun H14 s14 => ?_⟩
    have s1314 := s13.trans s14
    refine ⟨_, rfl, iteF ?_⟩
    refine ⟨⟨_, _, rfl⟩, A'', p', f', st'.1, st'.2.1, st'.2.2, P2 ++ [st'.1], F', ni', eA'.trans eA, ?_⟩
    have cpp : ∀ {z y}, (z = y ∨ H11 z = none) → c ≠ y → c ≠ z := fun k n => by
      rcases k with rfl | k
      · exact n
      · exact ne_of_none hc11 k
    refine ⟨tp12.same s1314, ot11, oc11, sv12.same s1314, lk12.same s1314, cpp hp' wd.cp, cpp hf' wd.cf, bk12, fw12, ?_, by omega, by omega, by omega, by omega, by omega⟩
    have e100 : 100 + 100 * (i + 1) = 100 + 100 * i + 100 := by omega
    rw [e100]
    exact ok'
  · rintro σ H' _
    exact q H'
end

end Sn

namespace Sn
open PySem PySem.Spec PyProof.Rows L2 TL
theorem all_mk {l : PySem.W.OpenLaw} {w : World} {K : PySem.W.Frag} {h : Heap} {mg : Str → Option Value} {fa f0 f1 f2 f3 f4 f5 f6 f7 f8 f9 f10 f11 f12 f13 f14 f15 f16 f17 f18 f19 f20 f21 f22 f23 : Addr}
    {od0 an0 od1 an1 od2 an2 od3 an3 od4 an4 od5 an5 od6 an6 od7 an7 od8 an8 od9 an9 od10 an10 od11 an11 od12 an12 od13 an13 od14 an14 od15 an15 od16 an16 od17 an17 od18 an18 od19 an19 od20 an20 od21 an21 od22 an22 od23 an23 : Option Addr} {sl0 sl1 sl2 sl3 sl4 sl5 sl6 sl7 sl8 sl9 sl10 sl11 sl12 sl13 sl14 sl15 sl16 sl17 sl18 sl19 sl20 sl21 sl22 sl23 : Array (Option Value)} {oc0 kV0 dc0 pm0 cd0 ct0 oc1 kV1 dc1 pm1 cd1 ct1 oc2 kV2 dc2 pm2 cd2 ct2 oc3 kV3 dc3 pm3 cd3 ct3 oc4 kV4 dc4 pm4 cd4 ct4 oc5 kV5 dc5 pm5 cd5 ct5 oc6 kV6 dc6 pm6 cd6 ct6 oc7 kV7 dc7 pm7 cd7 ct7 oc8 kV8 dc8 pm8 cd8 ct8 oc9 kV9 dc9 pm9 cd9 ct9 oc10 kV10 dc10 pm10 cd10 ct10 oc11 kV11 dc11 pm11 cd11 ct11 oc12 kV12 dc12 pm12 cd12 ct12 oc13 kV13 dc13 pm13 cd13 ct13 oc14 kV14 dc14 pm14 cd14 ct14 oc15 kV15 dc15 pm15 cd15 ct15 oc16 kV16 dc16 pm16 cd16 ct16 oc17 kV17 dc17 pm17 cd17 ct17 oc18 kV18 dc18 pm18 cd18 ct18 oc19 kV19 dc19 pm19 cd19 ct19 oc20 kV20 dc20 pm20 cd20 ct20 oc21 kV21 dc21 pm21 cd21 ct21 oc22 kV22 dc22 pm22 cd22 ct22 oc23 kV23 dc23 pm23 cd23 ct23 : Value}
    {aF CK CR CC CE CU CN CS CV aW : Addr} {tL tP tM tS : PySem.Tok}
    {f24 : Addr} {od24 an24 : Option Addr} {sl24 : Array (Option Value)} {oc24 kV24 dc24 pm24 cd24 ct24 : Value}
    {f25 : Addr} {od25 an25 : Option Addr} {sl25 : Array (Option Value)} {oc25 kV25 dc25 pm25 cd25 ct25 : Value}
    {f26 : Addr} {od26 an26 : Option Addr} {sl26 : Array (Option Value)} {oc26 kV26 dc26 pm26 cd26 ct26 : Value}
    {f27 : Addr} {od27 an27 : Option Addr} {sl27 : Array (Option Value)} {oc27 kV27 dc27 pm27 cd27 ct27 : Value}
    {f28 : Addr} {od28 an28 : Option Addr} {sl28 : Array (Option Value)} {oc28 kV28 dc28 pm28 cd28 ct28 : Value}
    {f29 : Addr} {od29 an29 : Option Addr} {sl29 : Array (Option Value)} {oc29 kV29 dc29 pm29 cd29 ct29 : Value}
    {f30 : Addr} {od30 an30 : Option Addr} {sl30 : Array (Option Value)} {oc30 kV30 dc30 pm30 cd30 ct30 : Value}
    {f31 : Addr} {od31 an31 : Option Addr} {sl31 : Array (Option Value)} {oc31 kV31 dc31 pm31 cd31 ct31 : Value}
    {f32 : Addr} {od32 an32 : Option Addr} {sl32 : Array (Option Value)} {oc32 kV32 dc32 pm32 cd32 ct32 : Value}
    {f33 : Addr} {od33 an33 : Option Addr} {sl33 : Array (Option Value)} {oc33 kV33 dc33 pm33 cd33 ct33 : Value}
    {f34 : Addr} {od34 an34 : Option Addr} {sl34 : Array (Option Value)} {oc34 kV34 dc34 pm34 cd34 ct34 : Value}
    {f35 : Addr} {od35 an35 : Option Addr} {sl35 : Array (Option Value)} {oc35 kV35 dc35 pm35 cd35 ct35 : Value} (X : K.In h) (G : h.Ns mainGlobals mg) (hfa : mg "law" = some (.ref fa))
    (a0 : PySem.W.nsIn K mainGlobals "may_stand" = some (some (.ref f0)))
    (l0 : K.lookup f0 = some ⟨oc0, od0, .func (PySem.W.fnOf "may_stand" "may_stand" (defArgs s_may_stand) (defBody s_may_stand) (defScope s_may_stand) .none kV0 dc0 pm0 an0 cd0 ct0), sl0⟩)
    (c0 : PySem.W.codeIn K cd0 "may_stand" = true)
    (k0 : PySem.W.keepIn K (.ref f0) = true)
    (a1 : PySem.W.nsIn K mainGlobals "is_text" = some (some (.ref f1)))
    (l1 : K.lookup f1 = some ⟨oc1, od1, .func (PySem.W.fnOf "is_text" "is_text" (defArgs s_is_text) (defBody s_is_text) (defScope s_is_text) .none kV1 dc1 pm1 an1 cd1 ct1), sl1⟩)
    (c1 : PySem.W.codeIn K cd1 "is_text" = true)
    (k1 : PySem.W.keepIn K (.ref f1) = true)
    (a2 : PySem.W.nsIn K mainGlobals "apply_joint" = some (some (.ref f2)))
    (l2 : K.lookup f2 = some ⟨oc2, od2, .func (PySem.W.fnOf "apply_joint" "apply_joint" (defArgs s_apply_joint) (defBody s_apply_joint) (defScope s_apply_joint) .none kV2 dc2 pm2 an2 cd2 ct2), sl2⟩)
    (c2 : PySem.W.codeIn K cd2 "apply_joint" = true)
    (k2 : PySem.W.keepIn K (.ref f2) = true)
    (a3 : PySem.W.nsIn K mainGlobals "apply_edit" = some (some (.ref f3)))
    (l3 : K.lookup f3 = some ⟨oc3, od3, .func (PySem.W.fnOf "apply_edit" "apply_edit" (defArgs s_apply_edit) (defBody s_apply_edit) (defScope s_apply_edit) .none kV3 dc3 pm3 an3 cd3 ct3), sl3⟩)
    (c3 : PySem.W.codeIn K cd3 "apply_edit" = true)
    (k3 : PySem.W.keepIn K (.ref f3) = true)
    (a4 : PySem.W.nsIn K mainGlobals "line_end" = some (some (.ref f4)))
    (l4 : K.lookup f4 = some ⟨oc4, od4, .func (PySem.W.fnOf "line_end" "line_end" (defArgs s_line_end) (defBody s_line_end) (defScope s_line_end) .none kV4 dc4 pm4 an4 cd4 ct4), sl4⟩)
    (c4 : PySem.W.codeIn K cd4 "line_end" = true)
    (k4 : PySem.W.keepIn K (.ref f4) = true)
    (a5 : PySem.W.nsIn K mainGlobals "is_letter" = some (some (.ref f5)))
    (l5 : K.lookup f5 = some ⟨oc5, od5, .func (PySem.W.fnOf "is_letter" "is_letter" (defArgs s_is_letter) (defBody s_is_letter) (defScope s_is_letter) .none kV5 dc5 pm5 an5 cd5 ct5), sl5⟩)
    (c5 : PySem.W.codeIn K cd5 "is_letter" = true)
    (k5 : PySem.W.keepIn K (.ref f5) = true)
    (a6 : PySem.W.nsIn K mainGlobals "is_digit" = some (some (.ref f6)))
    (l6 : K.lookup f6 = some ⟨oc6, od6, .func (PySem.W.fnOf "is_digit" "is_digit" (defArgs s_is_digit) (defBody s_is_digit) (defScope s_is_digit) .none kV6 dc6 pm6 an6 cd6 ct6), sl6⟩)
    (c6 : PySem.W.codeIn K cd6 "is_digit" = true)
    (k6 : PySem.W.keepIn K (.ref f6) = true)
    (a7 : PySem.W.nsIn K mainGlobals "word_end" = some (some (.ref f7)))
    (l7 : K.lookup f7 = some ⟨oc7, od7, .func (PySem.W.fnOf "word_end" "word_end" (defArgs s_word_end) (defBody s_word_end) (defScope s_word_end) .none kV7 dc7 pm7 an7 cd7 ct7), sl7⟩)
    (c7 : PySem.W.codeIn K cd7 "word_end" = true)
    (k7 : PySem.W.keepIn K (.ref f7) = true)
    (a8 : PySem.W.nsIn K mainGlobals "digits_end" = some (some (.ref f8)))
    (l8 : K.lookup f8 = some ⟨oc8, od8, .func (PySem.W.fnOf "digits_end" "digits_end" (defArgs s_digits_end) (defBody s_digits_end) (defScope s_digits_end) .none kV8 dc8 pm8 an8 cd8 ct8), sl8⟩)
    (c8 : PySem.W.codeIn K cd8 "digits_end" = true)
    (k8 : PySem.W.keepIn K (.ref f8) = true)
    (a9 : PySem.W.nsIn K mainGlobals "token_at" = some (some (.ref f9)))
    (l9 : K.lookup f9 = some ⟨oc9, od9, .func (PySem.W.fnOf "token_at" "token_at" (defArgs s_token_at) (defBody s_token_at) (defScope s_token_at) .none kV9 dc9 pm9 an9 cd9 ct9), sl9⟩)
    (c9 : PySem.W.codeIn K cd9 "token_at" = true)
    (k9 : PySem.W.keepIn K (.ref f9) = true)
    (a10 : PySem.W.nsIn K mainGlobals "tokens_between" = some (some (.ref f10)))
    (l10 : K.lookup f10 = some ⟨oc10, od10, .func (PySem.W.fnOf "tokens_between" "tokens_between" (defArgs s_tokens_between) (defBody s_tokens_between) (defScope s_tokens_between) .none kV10 dc10 pm10 an10 cd10 ct10), sl10⟩)
    (c10 : PySem.W.codeIn K cd10 "tokens_between" = true)
    (k10 : PySem.W.keepIn K (.ref f10) = true)
    (a11 : PySem.W.nsIn K mainGlobals "tokens" = some (some (.ref f11)))
    (l11 : K.lookup f11 = some ⟨oc11, od11, .func (PySem.W.fnOf "tokens" "tokens" (defArgs s_tokens) (defBody s_tokens) (defScope s_tokens) .none kV11 dc11 pm11 an11 cd11 ct11), sl11⟩)
    (c11 : PySem.W.codeIn K cd11 "tokens" = true)
    (k11 : PySem.W.keepIn K (.ref f11) = true)
    (a12 : PySem.W.nsIn K mainGlobals "is_name" = some (some (.ref f12)))
    (l12 : K.lookup f12 = some ⟨oc12, od12, .func (PySem.W.fnOf "is_name" "is_name" (defArgs s_is_name) (defBody s_is_name) (defScope s_is_name) .none kV12 dc12 pm12 an12 cd12 ct12), sl12⟩)
    (c12 : PySem.W.codeIn K cd12 "is_name" = true)
    (k12 : PySem.W.keepIn K (.ref f12) = true)
    (a13 : PySem.W.nsIn K mainGlobals "_law_tape" = some (some (.ref f13)))
    (l13 : K.lookup f13 = some ⟨oc13, od13, .func (PySem.W.fnOf "_law_tape" "_law_tape" (defArgs s_tape) (defBody s_tape) (defScope s_tape) .none kV13 dc13 pm13 an13 cd13 ct13), sl13⟩)
    (c13 : PySem.W.codeIn K cd13 "_law_tape" = true)
    (k13 : PySem.W.keepIn K (.ref f13) = true)
    (a14 : PySem.W.nsIn K mainGlobals "_law_take" = some (some (.ref f14)))
    (l14 : K.lookup f14 = some ⟨oc14, od14, .func (PySem.W.fnOf "_law_take" "_law_take" (defArgs s_take) (defBody s_take) (defScope s_take) .none kV14 dc14 pm14 an14 cd14 ct14), sl14⟩)
    (c14 : PySem.W.codeIn K cd14 "_law_take" = true)
    (k14 : PySem.W.keepIn K (.ref f14) = true)
    (a15 : PySem.W.nsIn K mainGlobals "_law_is_integer" = some (some (.ref f15)))
    (l15 : K.lookup f15 = some ⟨oc15, od15, .func (PySem.W.fnOf "_law_is_integer" "_law_is_integer" (defArgs s_isInt) (defBody s_isInt) (defScope s_isInt) .none kV15 dc15 pm15 an15 cd15 ct15), sl15⟩)
    (c15 : PySem.W.codeIn K cd15 "_law_is_integer" = true)
    (k15 : PySem.W.keepIn K (.ref f15) = true)
    (a16 : PySem.W.nsIn K mainGlobals "_law_same_items" = some (some (.ref f16)))
    (l16 : K.lookup f16 = some ⟨oc16, od16, .func (PySem.W.fnOf "_law_same_items" "_law_same_items" (defArgs s_sameItems) (defBody s_sameItems) (defScope s_sameItems) .none kV16 dc16 pm16 an16 cd16 ct16), sl16⟩)
    (c16 : PySem.W.codeIn K cd16 "_law_same_items" = true)
    (k16 : PySem.W.keepIn K (.ref f16) = true)
    (a17 : PySem.W.nsIn K mainGlobals "_law_same" = some (some (.ref f17)))
    (l17 : K.lookup f17 = some ⟨oc17, od17, .func (PySem.W.fnOf "_law_same" "_law_same" (defArgs s_same) (defBody s_same) (defScope s_same) .none kV17 dc17 pm17 an17 cd17 ct17), sl17⟩)
    (c17 : PySem.W.codeIn K cd17 "_law_same" = true)
    (k17 : PySem.W.keepIn K (.ref f17) = true)
    (a18 : PySem.W.nsIn K mainGlobals "_law_snippet" = some (some (.ref f18)))
    (l18 : K.lookup f18 = some ⟨oc18, od18, .func (PySem.W.fnOf "_law_snippet" "_law_snippet" (defArgs s_snippet) (defBody s_snippet) (defScope s_snippet) .none kV18 dc18 pm18 an18 cd18 ct18), sl18⟩)
    (c18 : PySem.W.codeIn K cd18 "_law_snippet" = true)
    (k18 : PySem.W.keepIn K (.ref f18) = true)
    (a19 : PySem.W.nsIn K mainGlobals "_law_edit_of" = some (some (.ref f19)))
    (l19 : K.lookup f19 = some ⟨oc19, od19, .func (PySem.W.fnOf "_law_edit_of" "_law_edit_of" (defArgs s_editOf) (defBody s_editOf) (defScope s_editOf) .none kV19 dc19 pm19 an19 cd19 ct19), sl19⟩)
    (c19 : PySem.W.codeIn K cd19 "_law_edit_of" = true)
    (k19 : PySem.W.keepIn K (.ref f19) = true)
    (a20 : PySem.W.nsIn K mainGlobals "_law_do" = some (some (.ref f20)))
    (l20 : K.lookup f20 = some ⟨oc20, od20, .func (PySem.W.fnOf "_law_do" "_law_do" (defArgs s_l_do) (defBody s_l_do) (defScope s_l_do) .none kV20 dc20 pm20 an20 cd20 ct20), sl20⟩)
    (c20 : PySem.W.codeIn K cd20 "_law_do" = true)
    (k20 : PySem.W.keepIn K (.ref f20) = true)
    (a21 : PySem.W.nsIn K mainGlobals "_law_expected" = some (some (.ref f21)))
    (l21 : K.lookup f21 = some ⟨oc21, od21, .func (PySem.W.fnOf "_law_expected" "_law_expected" (defArgs s_l_exp) (defBody s_l_exp) (defScope s_l_exp) .none kV21 dc21 pm21 an21 cd21 ct21), sl21⟩)
    (c21 : PySem.W.codeIn K cd21 "_law_expected" = true)
    (k21 : PySem.W.keepIn K (.ref f21) = true)
    (a22 : PySem.W.nsIn K mainGlobals "_law_act" = some (some (.ref f22)))
    (l22 : K.lookup f22 = some ⟨oc22, od22, .func (PySem.W.fnOf "_law_act" "_law_act" (defArgs s_l_act) (defBody s_l_act) (defScope s_l_act) .none kV22 dc22 pm22 an22 cd22 ct22), sl22⟩)
    (c22 : PySem.W.codeIn K cd22 "_law_act" = true)
    (k22 : PySem.W.keepIn K (.ref f22) = true)
    (a23 : PySem.W.nsIn K mainGlobals "law" = some (some (.ref f23)))
    (l23 : K.lookup f23 = some ⟨oc23, od23, .func (PySem.W.fnOf "law" "law" (defArgs s_law) (defBody s_law) (defScope s_law) .none kV23 dc23 pm23 an23 cd23 ct23), sl23⟩)
    (c23 : PySem.W.codeIn K cd23 "law" = true)
    (k23 : PySem.W.keepIn K (.ref f23) = true)
    (a24 : PySem.W.findIn K (.ref CK) "__init__" = some (some (.ref f24)))
    (i24 : PySem.W.isFn K (.ref f24) = true)
    (l24 : K.lookup f24 = some ⟨oc24, od24, .func (PySem.W.fnOf "__init__" "Keeper.__init__" (defArgs s_K_init) (defBody s_K_init) (defScope s_K_init) .none kV24 dc24 pm24 an24 cd24 ct24), sl24⟩)
    (c24 : PySem.W.codeIn K cd24 "Keeper.__init__" = true)
    (k24 : PySem.W.keepIn K (.ref f24) = true)
    (a25 : PySem.W.findIn K (.ref CK) "put" = some (some (.ref f25)))
    (i25 : PySem.W.isFn K (.ref f25) = true)
    (l25 : K.lookup f25 = some ⟨oc25, od25, .func (PySem.W.fnOf "put" "Keeper.put" (defArgs s_K_put) (defBody s_K_put) (defScope s_K_put) .none kV25 dc25 pm25 an25 cd25 ct25), sl25⟩)
    (c25 : PySem.W.codeIn K cd25 "Keeper.put" = true)
    (k25 : PySem.W.keepIn K (.ref f25) = true)
    (a26 : PySem.W.findIn K (.ref CV) "__init__" = some (some (.ref f26)))
    (i26 : PySem.W.isFn K (.ref f26) = true)
    (l26 : K.lookup f26 = some ⟨oc26, od26, .func (PySem.W.fnOf "__init__" "Server.__init__" (defArgs s_S_init) (defBody s_S_init) (defScope s_S_init) .none kV26 dc26 pm26 an26 cd26 ct26), sl26⟩)
    (c26 : PySem.W.codeIn K cd26 "Server.__init__" = true)
    (k26 : PySem.W.keepIn K (.ref f26) = true)
    (a27 : PySem.W.findIn K (.ref CV) "_put_modules" = some (some (.ref f27)))
    (i27 : PySem.W.isFn K (.ref f27) = true)
    (l27 : K.lookup f27 = some ⟨oc27, od27, .func (PySem.W.fnOf "_put_modules" "Server._put_modules" (defArgs s_S_put_modules) (defBody s_S_put_modules) (defScope s_S_put_modules) .none kV27 dc27 pm27 an27 cd27 ct27), sl27⟩)
    (c27 : PySem.W.codeIn K cd27 "Server._put_modules" = true)
    (k27 : PySem.W.keepIn K (.ref f27) = true)
    (a28 : PySem.W.findIn K (.ref CV) "_put_text" = some (some (.ref f28)))
    (i28 : PySem.W.isFn K (.ref f28) = true)
    (l28 : K.lookup f28 = some ⟨oc28, od28, .func (PySem.W.fnOf "_put_text" "Server._put_text" (defArgs s_S_put_text) (defBody s_S_put_text) (defScope s_S_put_text) .none kV28 dc28 pm28 an28 cd28 ct28), sl28⟩)
    (c28 : PySem.W.codeIn K cd28 "Server._put_text" = true)
    (k28 : PySem.W.keepIn K (.ref f28) = true)
    (a29 : PySem.W.findIn K (.ref CV) "_check" = some (some (.ref f29)))
    (i29 : PySem.W.isFn K (.ref f29) = true)
    (l29 : K.lookup f29 = some ⟨oc29, od29, .func (PySem.W.fnOf "_check" "Server._check" (defArgs s_S_check) (defBody s_S_check) (defScope s_S_check) .none kV29 dc29 pm29 an29 cd29 ct29), sl29⟩)
    (c29 : PySem.W.codeIn K cd29 "Server._check" = true)
    (k29 : PySem.W.keepIn K (.ref f29) = true)
    (a30 : PySem.W.findIn K (.ref CV) "program" = some (some (.ref f30)))
    (i30 : PySem.W.isFn K (.ref f30) = true)
    (l30 : K.lookup f30 = some ⟨oc30, od30, .func (PySem.W.fnOf "program" "Server.program" (defArgs s_S_program) (defBody s_S_program) (defScope s_S_program) .none kV30 dc30 pm30 an30 cd30 ct30), sl30⟩)
    (c30 : PySem.W.codeIn K cd30 "Server.program" = true)
    (k30 : PySem.W.keepIn K (.ref f30) = true)
    (a31 : PySem.W.findIn K (.ref CV) "open_file" = some (some (.ref f31)))
    (i31 : PySem.W.isFn K (.ref f31) = true)
    (l31 : K.lookup f31 = some ⟨oc31, od31, .func (PySem.W.fnOf "open_file" "Server.open_file" (defArgs s_S_open_file) (defBody s_S_open_file) (defScope s_S_open_file) .none kV31 dc31 pm31 an31 cd31 ct31), sl31⟩)
    (c31 : PySem.W.codeIn K cd31 "Server.open_file" = true)
    (k31 : PySem.W.keepIn K (.ref f31) = true)
    (a32 : PySem.W.findIn K (.ref CV) "edit" = some (some (.ref f32)))
    (i32 : PySem.W.isFn K (.ref f32) = true)
    (l32 : K.lookup f32 = some ⟨oc32, od32, .func (PySem.W.fnOf "edit" "Server.edit" (defArgs s_S_edit) (defBody s_S_edit) (defScope s_S_edit) .none kV32 dc32 pm32 an32 cd32 ct32), sl32⟩)
    (c32 : PySem.W.codeIn K cd32 "Server.edit" = true)
    (k32 : PySem.W.keepIn K (.ref f32) = true)
    (a33 : PySem.W.findIn K (.ref CV) "_step" = some (some (.ref f33)))
    (i33 : PySem.W.isFn K (.ref f33) = true)
    (l33 : K.lookup f33 = some ⟨oc33, od33, .func (PySem.W.fnOf "_step" "Server._step" (defArgs s_S_step) (defBody s_S_step) (defScope s_S_step) .none kV33 dc33 pm33 an33 cd33 ct33), sl33⟩)
    (c33 : PySem.W.codeIn K cd33 "Server._step" = true)
    (k33 : PySem.W.keepIn K (.ref f33) = true)
    (a34 : PySem.W.findIn K (.ref CV) "undo" = some (some (.ref f34)))
    (i34 : PySem.W.isFn K (.ref f34) = true)
    (l34 : K.lookup f34 = some ⟨oc34, od34, .func (PySem.W.fnOf "undo" "Server.undo" (defArgs s_S_undo) (defBody s_S_undo) (defScope s_S_undo) .none kV34 dc34 pm34 an34 cd34 ct34), sl34⟩)
    (c34 : PySem.W.codeIn K cd34 "Server.undo" = true)
    (k34 : PySem.W.keepIn K (.ref f34) = true)
    (a35 : PySem.W.findIn K (.ref CV) "redo" = some (some (.ref f35)))
    (i35 : PySem.W.isFn K (.ref f35) = true)
    (l35 : K.lookup f35 = some ⟨oc35, od35, .func (PySem.W.fnOf "redo" "Server.redo" (defArgs s_S_redo) (defBody s_S_redo) (defScope s_S_redo) .none kV35 dc35 pm35 an35 cd35 ct35), sl35⟩)
    (c35 : PySem.W.codeIn K cd35 "Server.redo" = true)
    (k35 : PySem.W.keepIn K (.ref f35) = true)
    (z0 : PySem.W.nsIn K mainGlobals "abs" = some none)
    (z1 : PySem.W.nsIn K mainGlobals "int" = some none)
    (z2 : PySem.W.nsIn K mainGlobals "len" = some none)
    (z3 : PySem.W.nsIn K mainGlobals "range" = some none)
    (z4 : PySem.W.nsIn K mainGlobals "isinstance" = some none)
    (z5 : PySem.W.nsIn K mainGlobals "bool" = some none)
    (z6 : PySem.W.nsIn K mainGlobals "str" = some none)
    (z7 : PySem.W.nsIn K mainGlobals "tuple" = some none)
    (z8 : PySem.W.nsIn K mainGlobals "list" = some none)
    (z9 : PySem.W.nsIn K mainGlobals "min" = some none)
    (z10 : PySem.W.nsIn K mainGlobals "ord" = some none)
    (z11 : PySem.W.nsIn K mainGlobals "dict" = some none)
    (z12 : PySem.W.nsIn K mainGlobals "sorted" = some none)
    (gL : PySem.W.nsIn K mainGlobals "LONGEST" = some (some (.int 4000 tL)))
    (gP : PySem.W.nsIn K mainGlobals "PERCENT" = some (some (.int 37 tP)))
    (gM : PySem.W.nsIn K mainGlobals "MOST_MODULES" = some (some (.int 6 tM)))
    (gW : PySem.W.nsIn K mainGlobals "WORDS" = some (some (.ref aW)))
    (gS : PySem.W.nsIn K mainGlobals "SIGNS" = some (some (.str "()[],:.=<+-*/" tS)))
    (wt : ∃ (o : Obj) (its : Array Value) (n : Nat), K.lookup aW = some o ∧ o.cls = .type "tuple" ∧ o.data = .seq its n ∧ its.size ≤ sizeLine ∧ Vals (wds.map V.str) its.toList)
    (aF_ : PySem.W.nsIn K mainGlobals "compute" = some (some (.ref aF)))
    (aCK : PySem.W.nsIn K mainGlobals "Keeper" = some (some (.ref CK)))
    (aCR : PySem.W.nsIn K mainGlobals "Run" = some (some (.ref CR)))
    (aCV : PySem.W.nsIn K mainGlobals "Server" = some (some (.ref CV)))
    (aCS : PySem.W.nsIn K mainGlobals "ServerError" = some (some (.ref CS)))
    (pg1 : PySem.W.plainGet K CK Str.empty = true)
    (hd1 : PySem.W.hasDictIn K CK = true)
    (po1 : PySem.W.plainOver K CK = true)
    (sa1 : PySem.W.findIn K (.ref CK) "__setattr__" = some (some (.builtin "object.__setattr__")))
    (mk1 : PySem.W.makesIn K CK = true)
    (kc1 : PySem.W.keepIn K (.ref CK) = true)
    (pg2 : PySem.W.plainGet K CR Str.empty = true)
    (hd2 : PySem.W.hasDictIn K CR = true)
    (po2 : PySem.W.plainOver K CR = true)
    (sa2 : PySem.W.findIn K (.ref CR) "__setattr__" = some (some (.builtin "object.__setattr__")))
    (mk2 : PySem.W.makesIn K CR = true)
    (kc2 : PySem.W.keepIn K (.ref CR) = true)
    (pg3 : PySem.W.plainGet K CV Str.empty = true)
    (hd3 : PySem.W.hasDictIn K CV = true)
    (po3 : PySem.W.plainOver K CV = true)
    (sa3 : PySem.W.findIn K (.ref CV) "__setattr__" = some (some (.builtin "object.__setattr__")))
    (mk3 : PySem.W.makesIn K CV = true)
    (kc3 : PySem.W.keepIn K (.ref CV) = true)
    (n1 : PySem.W.findIn K (.ref CK) "_function" = some none)
    (n2 : PySem.W.findIn K (.ref CK) "_now" = some none)
    (n3 : PySem.W.findIn K (.ref CK) "_left" = some none)
    (n4 : PySem.W.findIn K (.ref CK) "_inputs" = some none)
    (n5 : PySem.W.findIn K (.ref CK) "_entries" = some none)
    (n6 : PySem.W.findIn K (.ref CK) "_runs" = some none)
    (n7 : PySem.W.findIn K (.ref CK) "_asked" = some none)
    (n8 : PySem.W.findIn K (.ref CK) "_ended" = some none)
    (nl : PySem.W.findIn K (.ref CR) "live" = some none)
    (v1 : PySem.W.findIn K (.ref CV) "_texts" = some none)
    (v2 : PySem.W.findIn K (.ref CV) "_keeper" = some none)
    (v3 : PySem.W.findIn K (.ref CV) "_done" = some none)
    (v4 : PySem.W.findIn K (.ref CV) "_undone" = some none)
    (aI : PySem.W.nsIn K mainGlobals "InvalidEdit" = some (some (.ref CE)))
    (xI : PySem.W.excIn K CE [.type "ValueError", .type "Exception", .type "BaseException", .type "object"] "ValueError.__new__" = true)
    (kI : PySem.W.keepIn K (.ref CE) = true)
    (bI : PySem.W.subIn K (.ref CE) (.type "BaseException") = some true)
    (tI : PySem.W.typeIn K (.ref CE) = some (.type "type"))
    (eI : PySem.W.exmOne K (.ref CE) (.ref CE) = some true)
    (aC : PySem.W.nsIn K mainGlobals "Cancelled" = some (some (.ref CC)))
    (xC : PySem.W.excIn K CC [.type "ValueError", .type "Exception", .type "BaseException", .type "object"] "ValueError.__new__" = true)
    (kC : PySem.W.keepIn K (.ref CC) = true)
    (bC : PySem.W.subIn K (.ref CC) (.type "BaseException") = some true)
    (tC : PySem.W.typeIn K (.ref CC) = some (.type "type"))
    (eC : PySem.W.exmOne K (.ref CC) (.ref CC) = some true)
    (aU : PySem.W.nsIn K mainGlobals "UnknownFile" = some (some (.ref CU)))
    (xU : PySem.W.excIn K CU [.type "ValueError", .type "Exception", .type "BaseException", .type "object"] "ValueError.__new__" = true)
    (kU : PySem.W.keepIn K (.ref CU) = true)
    (bU : PySem.W.subIn K (.ref CU) (.type "BaseException") = some true)
    (tU : PySem.W.typeIn K (.ref CU) = some (.type "type"))
    (eU : PySem.W.exmOne K (.ref CU) (.ref CU) = some true)
    (aN : PySem.W.nsIn K mainGlobals "NothingToUndo" = some (some (.ref CN)))
    (xN : PySem.W.excIn K CN [.type "ValueError", .type "Exception", .type "BaseException", .type "object"] "ValueError.__new__" = true)
    (kN : PySem.W.keepIn K (.ref CN) = true)
    (bN : PySem.W.subIn K (.ref CN) (.type "BaseException") = some true)
    (tN : PySem.W.typeIn K (.ref CN) = some (.type "type"))
    (eN : PySem.W.exmOne K (.ref CN) (.ref CN) = some true)
    (eg : PySem.W.findIn K (.ref CN) "__getattribute__" = some (some (.builtin "BaseException.__getattribute__")))
    (ek : PySem.W.findIn K (.ref CN) "__getattr__" = some none)
    (ed : PySem.W.hasDictIn K CN = true)
    (ea : PySem.W.findIn K (.ref CN) "__class__" = some (some (.builtin "object.__class__")))
    (en : PySem.W.specialIn K (.builtin "object.__class__") "__get__" = some (some (.builtin "getset_descriptor.__get__")))
    (et : PySem.W.takesIn K (.builtin "object.__class__") = some true)
    (em : PySem.W.mroIn K CN (.type "object") = some true)
    (ki : PySem.W.kitOne K (.ref CN) (.ref CS) = some true)
    (eEN : PySem.W.exmOne K (.ref CE) (.ref CN) = some false)
    (eUN : PySem.W.exmOne K (.ref CU) (.ref CN) = some false)
    (eUE : PySem.W.exmOne K (.ref CU) (.ref CE) = some false)
    (ckr : CK ≠ CR)
    (cvk : CV ≠ CK) :
    ∃ fd : FuncData, (∀ (s : Shared) (v : Value), BindsTo s fd ⟨[v], []⟩ [("script", v)]) ∧ ∀ base : Heap, K.In base → base.Ns mainGlobals mg → FnOk l.prog w K mg base CX0 10 fa fd ["script"] (spLaw K) := by
  have e := hfa.symm.trans (PySem.W.mg_of X G a23)
  cases e
  have F0 := fun_mk (st := s_may_stand) l0 c0 k0
  have b0 := F0.binds (ps := ["characters"]) fun _ _ _ _ _ _ us hl => match us, hl with | [_], _ => rfl
  have m0 := PySem.W.mg_of X G a0
  have F1 := fun_mk (st := s_is_text) l1 c1 k1
  have b1 := F1.binds (ps := ["value"]) fun _ _ _ _ _ _ us hl => match us, hl with | [_], _ => rfl
  have m1 := PySem.W.mg_of X G a1
  have F2 := fun_mk (st := s_apply_joint) l2 c2 k2
  have b2 := F2.binds (ps := ["text", "edits"]) fun _ _ _ _ _ _ us hl => match us, hl with | [_, _], _ => rfl
  have m2 := PySem.W.mg_of X G a2
  have F3 := fun_mk (st := s_apply_edit) l3 c3 k3
  have b3 := F3.binds (ps := ["text", "edit"]) fun _ _ _ _ _ _ us hl => match us, hl with | [_, _], _ => rfl
  have m3 := PySem.W.mg_of X G a3
  have F4 := fun_mk (st := s_line_end) l4 c4 k4
  have b4 := F4.binds (ps := ["text", "offset"]) fun _ _ _ _ _ _ us hl => match us, hl with | [_, _], _ => rfl
  have m4 := PySem.W.mg_of X G a4
  have F5 := fun_mk (st := s_is_letter) l5 c5 k5
  have b5 := F5.binds (ps := ["sign"]) fun _ _ _ _ _ _ us hl => match us, hl with | [_], _ => rfl
  have m5 := PySem.W.mg_of X G a5
  have F6 := fun_mk (st := s_is_digit) l6 c6 k6
  have b6 := F6.binds (ps := ["sign"]) fun _ _ _ _ _ _ us hl => match us, hl with | [_], _ => rfl
  have m6 := PySem.W.mg_of X G a6
  have F7 := fun_mk (st := s_word_end) l7 c7 k7
  have b7 := F7.binds (ps := ["text", "start"]) fun _ _ _ _ _ _ us hl => match us, hl with | [_, _], _ => rfl
  have m7 := PySem.W.mg_of X G a7
  have F8 := fun_mk (st := s_digits_end) l8 c8 k8
  have b8 := F8.binds (ps := ["text", "start"]) fun _ _ _ _ _ _ us hl => match us, hl with | [_, _], _ => rfl
  have m8 := PySem.W.mg_of X G a8
  have F9 := fun_mk (st := s_token_at) l9 c9 k9
  have b9 := F9.binds (ps := ["text", "start"]) fun _ _ _ _ _ _ us hl => match us, hl with | [_, _], _ => rfl
  have m9 := PySem.W.mg_of X G a9
  have F10 := fun_mk (st := s_tokens_between) l10 c10 k10
  have b10 := F10.binds (ps := ["text", "start", "end"]) fun _ _ _ _ _ _ us hl => match us, hl with | [_, _, _], _ => rfl
  have m10 := PySem.W.mg_of X G a10
  have F11 := fun_mk (st := s_tokens) l11 c11 k11
  have b11 := F11.binds (ps := ["text"]) fun _ _ _ _ _ _ us hl => match us, hl with | [_], _ => rfl
  have m11 := PySem.W.mg_of X G a11
  have F12 := fun_mk (st := s_is_name) l12 c12 k12
  have b12 := F12.binds (ps := ["value"]) fun _ _ _ _ _ _ us hl => match us, hl with | [_], _ => rfl
  have m12 := PySem.W.mg_of X G a12
  have F13 := fun_mk (st := s_tape) l13 c13 k13
  have b13 := F13.binds (ps := ["script"]) fun _ _ _ _ _ _ us hl => match us, hl with | [_], _ => rfl
  have m13 := PySem.W.mg_of X G a13
  have F14 := fun_mk (st := s_take) l14 c14 k14
  have b14 := F14.binds (ps := ["tape", "many"]) fun _ _ _ _ _ _ us hl => match us, hl with | [_, _], _ => rfl
  have m14 := PySem.W.mg_of X G a14
  have F15 := fun_mk (st := s_isInt) l15 c15 k15
  have b15 := F15.binds (ps := ["actual"]) fun _ _ _ _ _ _ us hl => match us, hl with | [_], _ => rfl
  have m15 := PySem.W.mg_of X G a15
  have F16 := fun_mk (st := s_sameItems) l16 c16 k16
  have b16 := F16.binds (ps := ["actual", "expected"]) fun _ _ _ _ _ _ us hl => match us, hl with | [_, _], _ => rfl
  have m16 := PySem.W.mg_of X G a16
  have F17 := fun_mk (st := s_same) l17 c17 k17
  have b17 := F17.binds (ps := ["actual", "expected"]) fun _ _ _ _ _ _ us hl => match us, hl with | [_, _], _ => rfl
  have m17 := PySem.W.mg_of X G a17
  have F18 := fun_mk (st := s_snippet) l18 c18 k18
  have b18 := F18.binds (ps := ["tape"]) fun _ _ _ _ _ _ us hl => match us, hl with | [_], _ => rfl
  have m18 := PySem.W.mg_of X G a18
  have F19 := fun_mk (st := s_editOf) l19 c19 k19
  have b19 := F19.binds (ps := ["tape", "text"]) fun _ _ _ _ _ _ us hl => match us, hl with | [_, _], _ => rfl
  have m19 := PySem.W.mg_of X G a19
  have F20 := fun_mk (st := s_l_do) l20 c20 k20
  have b20 := F20.binds (ps := ["server", "act"]) fun _ _ _ _ _ _ us hl => match us, hl with | [_, _], _ => rfl
  have m20 := PySem.W.mg_of X G a20
  have F21 := fun_mk (st := s_l_exp) l21 c21 k21
  have b21 := F21.binds (ps := ["known", "act"]) fun _ _ _ _ _ _ us hl => match us, hl with | [_, _], _ => rfl
  have m21 := PySem.W.mg_of X G a21
  have F22 := fun_mk (st := s_l_act) l22 c22 k22
  have b22 := F22.binds (ps := ["tape", "known"]) fun _ _ _ _ _ _ us hl => match us, hl with | [_, _], _ => rfl
  have m22 := PySem.W.mg_of X G a22
  have F23 := fun_mk (st := s_law) l23 c23 k23
  have F24 := fun_mk (st := s_K_init) l24 c24 k24
  have b24 := F24.binds (ps := ["self", "compute"]) fun _ _ _ _ _ _ us hl => match us, hl with | [_, _], _ => rfl
  have F25 := fun_mk (st := s_K_put) l25 c25 k25
  have b25 := F25.binds (ps := ["self", "key", "value"]) fun _ _ _ _ _ _ us hl => match us, hl with | [_, _, _], _ => rfl
  have F26 := fun_mk (st := s_S_init) l26 c26 k26
  have b26 := F26.binds (ps := ["self", "program"]) fun _ _ _ _ _ _ us hl => match us, hl with | [_, _], _ => rfl
  have F27 := fun_mk (st := s_S_put_modules) l27 c27 k27
  have b27 := F27.binds (ps := ["self"]) fun _ _ _ _ _ _ us hl => match us, hl with | [_], _ => rfl
  have F28 := fun_mk (st := s_S_put_text) l28 c28 k28
  have b28 := F28.binds (ps := ["self", "module", "text"]) fun _ _ _ _ _ _ us hl => match us, hl with | [_, _, _], _ => rfl
  have F29 := fun_mk (st := s_S_check) l29 c29 k29
  have b29 := F29.binds (ps := ["self", "module"]) fun _ _ _ _ _ _ us hl => match us, hl with | [_, _], _ => rfl
  have F30 := fun_mk (st := s_S_program) l30 c30 k30
  have b30 := F30.binds (ps := ["self"]) fun _ _ _ _ _ _ us hl => match us, hl with | [_], _ => rfl
  have F31 := fun_mk (st := s_S_open_file) l31 c31 k31
  have b31 := F31.binds (ps := ["self", "module", "text"]) fun _ _ _ _ _ _ us hl => match us, hl with | [_, _, _], _ => rfl
  have F32 := fun_mk (st := s_S_edit) l32 c32 k32
  have b32 := F32.binds (ps := ["self", "module", "edit"]) fun _ _ _ _ _ _ us hl => match us, hl with | [_, _, _], _ => rfl
  have F33 := fun_mk (st := s_S_step) l33 c33 k33
  have b33 := F33.binds (ps := ["self", "rows"]) fun _ _ _ _ _ _ us hl => match us, hl with | [_, _], _ => rfl
  have F34 := fun_mk (st := s_S_undo) l34 c34 k34
  have b34 := F34.binds (ps := ["self"]) fun _ _ _ _ _ _ us hl => match us, hl with | [_], _ => rfl
  have F35 := fun_mk (st := s_S_redo) l35 c35 k35
  have b35 := F35.binds (ps := ["self"]) fun _ _ _ _ _ _ us hl => match us, hl with | [_], _ => rfl
  refine ⟨PySem.W.fnOf "law" "law" (defArgs s_law) (defBody s_law) (defScope s_law) .none kV23 dc23 pm23 an23 cd23 ct23, fun s v => .of_eq rfl, fun base _ _ => ?_⟩
  have T : NmS K mg aF CK CR CC CE CU CN CS CV aW tL tP tM tS := ⟨⟨(PySem.W.mg_none_of X G z0), (PySem.W.mg_none_of X G z1), (PySem.W.mg_none_of X G z2), (PySem.W.mg_none_of X G z3), (PySem.W.mg_none_of X G z4), (PySem.W.mg_none_of X G z5), (PySem.W.mg_none_of X G z6), (PySem.W.mg_none_of X G z7), (PySem.W.mg_none_of X G z8)⟩, (PySem.W.mg_none_of X G z12), (PySem.W.mg_none_of X G z11), (PySem.W.mg_none_of X G z9), ⟨⟨(PySem.W.mg_none_of X G z0), (PySem.W.mg_none_of X G z1), (PySem.W.mg_none_of X G z2), (PySem.W.mg_none_of X G z3), (PySem.W.mg_none_of X G z4), (PySem.W.mg_none_of X G z5), (PySem.W.mg_none_of X G z6), (PySem.W.mg_none_of X G z7), (PySem.W.mg_none_of X G z8)⟩, (PySem.W.mg_none_of X G z10), PySem.W.mg_of X G gL, PySem.W.mg_of X G gP, PySem.W.mg_of X G aI, xI, kI, bI, tI, eI⟩, ⟨⟨(PySem.W.mg_none_of X G z0), (PySem.W.mg_none_of X G z1), (PySem.W.mg_none_of X G z2), (PySem.W.mg_none_of X G z3), (PySem.W.mg_none_of X G z4), (PySem.W.mg_none_of X G z5), (PySem.W.mg_none_of X G z6), (PySem.W.mg_none_of X G z7), (PySem.W.mg_none_of X G z8)⟩, PySem.W.mg_of X G gW, wt, PySem.W.mg_of X G gS⟩, ⟨⟨(PySem.W.mg_none_of X G z0), (PySem.W.mg_none_of X G z1), (PySem.W.mg_none_of X G z2), (PySem.W.mg_none_of X G z3), (PySem.W.mg_none_of X G z4), (PySem.W.mg_none_of X G z5), (PySem.W.mg_none_of X G z6), (PySem.W.mg_none_of X G z7), (PySem.W.mg_none_of X G z8)⟩, ⟨pg1, hd1, po1, sa1⟩, ⟨pg2, hd2, po2, sa2⟩, n1, n2, n3, n4, n5, n6, n7, n8, nl, PySem.W.mg_of X G aCK, PySem.W.mg_of X G aCR, PySem.W.mg_of X G aF_, PySem.W.mg_of X G aC, bC, tC, kC, xC, eC⟩, ⟨PySem.W.mg_of X G aU, bU, tU, kU, xU, eU⟩, ⟨PySem.W.mg_of X G aN, bN, tN, kN, xN, eN⟩, PySem.W.mg_of X G gM, PySem.W.mg_of X G aCS, PySem.W.mg_of X G aCV, ⟨pg3, hd3, po3, sa3⟩, v1, v2, v3, v4, ⟨eg, ek, bN, ed, ea, en, et, em⟩, ki, eEN, eUN, eUE, ckr, cvk⟩
  have I_Keeper : CalO l.prog w K mg base CX0 1 CK (spKI vS CK CR aF) := ⟨⟨_, _, _, ok_K_init F24 T.KK, ⟨mk1, a24, i24, kc1⟩, b24⟩⟩
  have C_Keeper_put : CalM l.prog w K mg base CX0 1 CK "put" (spPut vS CK CR aF) := ⟨⟨_, _, _, ok_put F25 T.KK, ⟨a25, i25, k25⟩, b25⟩⟩
  have C_law_tape : Cal l.prog w K mg base CX0 1 "_law_tape" (spTape K) := ⟨_, _, _, ok_tape F13 T.toNm, m13, F13.kp, b13⟩
  have C_law_take : Cal l.prog w K mg base CX0 1 "_law_take" spTake := ⟨_, _, _, ok_take F14 T.toNm, m14, F14.kp, b14⟩
  have C_law_is_integer : Cal l.prog w K mg base CX0 1 "_law_is_integer" spIsInt := ⟨_, _, _, ok_isInt F15 T.toNm, m15, F15.kp, b15⟩
  have C_law_same : Cal l.prog w K mg base CX0 8 "_law_same" (spSame 4) := both F17 b17 m17 F16 b16 m16 T.toNm C_law_is_integer 4
  have C_law_snippet : Cal l.prog w K mg base CX0 2 "_law_snippet" spSnippet := ⟨_, _, _, ok_snippet F18 T.toNm C_law_take, m18, F18.kp, b18⟩
  have C_may_stand : Cal l.prog w K mg base CX0 1 "may_stand" spMay := ⟨_, _, _, ok_may_stand F0 T.J, m0, F0.kp, b0⟩
  have C_is_text : Cal l.prog w K mg base CX0 2 "is_text" spIsText := ⟨_, _, _, ok_is_text F1 T.J C_may_stand, m1, F1.kp, b1⟩
  have C_apply_joint : Cal l.prog w K mg base (L2.CX l.prog w) 2 "apply_joint" (spJoint CE) := ⟨_, _, _, ok_apply_joint F2 T.J C_may_stand, m2, F2.kp, b2⟩
  have C_apply_edit : Cal l.prog w K mg base (L2.CX l.prog w) 3 "apply_edit" (spEdit CE) := ⟨_, _, _, ok_apply_edit F3 T.J C_apply_joint, m3, F3.kp, b3⟩
  have C_line_end : Cal l.prog w K mg base CX0 1 "line_end" (spRun fun d => d != 10) := ⟨_, _, _, ok_line_end F4 T.F5, m4, F4.kp, b4⟩
  have C_is_letter : Cal l.prog w K mg base CX0 1 "is_letter" (spLet isL) := ⟨_, _, _, ok_is_letter F5, m5, F5.kp, b5⟩
  have C_is_digit : Cal l.prog w K mg base CX0 1 "is_digit" (spLet isD) := ⟨_, _, _, ok_is_digit F6, m6, F6.kp, b6⟩
  have C_word_end : Cal l.prog w K mg base CX0 2 "word_end" (spRun isW) := ⟨_, _, _, ok_word_end F7 T.F5 C_is_letter C_is_digit, m7, F7.kp, b7⟩
  have C_digits_end : Cal l.prog w K mg base CX0 2 "digits_end" (spRun isD) := ⟨_, _, _, ok_digits_end F8 T.F5 C_is_digit, m8, F8.kp, b8⟩
  have C_token_at : Cal l.prog w K mg base CX0 3 "token_at" spTokAt := ⟨_, _, _, ok_token_at F9 T.F5 C_is_letter C_is_digit C_word_end C_digits_end, m9, F9.kp, b9⟩
  have C_tokens_between : Cal l.prog w K mg base CX0 4 "tokens_between" spBetween := ⟨_, _, _, ok_tokens_between F10 T.F5 C_line_end C_token_at, m10, F10.kp, b10⟩
  have C_tokens : Cal l.prog w K mg base CX0 5 "tokens" spTokens := ⟨_, _, _, ok_tokens F11 T.F5 C_tokens_between, m11, F11.kp, b11⟩
  have C_is_name : Cal l.prog w K mg base CX0 6 "is_name" spIsName := ⟨_, _, _, ok_is_name F12 T.toNm C_tokens, m12, F12.kp, b12⟩
  have C_Server__put_text : CalM l.prog w K mg base CX0 2 CV "_put_text" (spPutT CV CK CR aF) := ⟨⟨_, _, _, ok_put_text F28 T C_Keeper_put, ⟨a28, i28, k28⟩, b28⟩⟩
  have C_Server__put_modules : CalM l.prog w K mg base CX0 2 CV "_put_modules" (spPutM CV CK CR aF) := ⟨⟨_, _, _, ok_put_modules F27 T C_Keeper_put, ⟨a27, i27, k27⟩, b27⟩⟩
  have C_Server__check : CalM l.prog w K mg base (L2.CX l.prog w) 1 CV "_check" (spChk CV CK CR aF CU) := ⟨⟨_, _, _, ok_check F29 T , ⟨a29, i29, k29⟩, b29⟩⟩
  have C_Server_program : CalM l.prog w K mg base CX0 1 CV "program" (spProg CV CK CR aF) := ⟨⟨_, _, _, ok_program F30 T , ⟨a30, i30, k30⟩, b30⟩⟩
  have C_Server__step : CalM l.prog w K mg base CX0 3 CV "_step" (spStep CV CK CR aF) := ⟨⟨_, _, _, ok_step F33 T C_Server__put_text, ⟨a33, i33, k33⟩, b33⟩⟩
  have C_Server_undo : CalM l.prog w K mg base (L2.CX l.prog w) 3 CV "undo" (spUndo CV CK CR aF CN) := ⟨⟨_, _, _, ok_undo F34 T C_Server__put_text, ⟨a34, i34, k34⟩, b34⟩⟩
  have C_Server_redo : CalM l.prog w K mg base (L2.CX l.prog w) 3 CV "redo" (spRedo CV CK CR aF CN) := ⟨⟨_, _, _, ok_redo F35 T C_Server__put_text, ⟨a35, i35, k35⟩, b35⟩⟩
  have C_Server_open_file : CalM l.prog w K mg base (L2.CX l.prog w) 7 CV "open_file" (spOpenF CV CK CR aF) := ⟨⟨_, _, _, ok_open_file F31 T C_is_name C_is_text C_Server__put_text C_Server__put_modules, ⟨a31, i31, k31⟩, b31⟩⟩
  have C_Server_edit : CalM l.prog w K mg base (L2.CX l.prog w) 4 CV "edit" (spEditS CV CK CR aF CU CE) := ⟨⟨_, _, _, ok_edit F32 T C_Server__check C_apply_edit C_Server__step, ⟨a32, i32, k32⟩, b32⟩⟩
  have I_Server : CalO l.prog w K mg base CX0 7 CV (spSI CV CK CR aF) := ⟨⟨_, _, _, ok_S_init F26 T C_is_name C_is_text I_Keeper C_Keeper_put C_Server__put_modules, ⟨mk3, a26, i26, kc3⟩, b26⟩⟩
  have C_items : Cal l.prog w K mg base CX0 7 "_law_same_items" (spItems 3) := ⟨_, _, _, ok_items F16 T.toNm (both F17 b17 m17 F16 b16 m16 T.toNm C_law_is_integer 3), m16, F16.kp, b16⟩
  have C_sameD : Cal l.prog w K mg base CX0 9 "_law_same" spSameD := ⟨_, _, _, ok_sameD F17 ⟨T.toNm, T.dict_⟩ C_law_is_integer C_items C_law_same, m17, F17.kp, b17⟩
  have C_law_edit_of : Cal l.prog w K mg base CX0 3 "_law_edit_of" spEditOf := ⟨_, _, _, ok_editOf F19 T C_law_take C_law_snippet, m19, F19.kp, b19⟩
  have C_law_do : Cal l.prog w K mg base CX0 8 "_law_do" (spDo CV CK CR aF) := ⟨_, _, _, ok_l_do F20 T C_Server_edit C_Server_undo C_Server_redo C_Server_open_file, m20, F20.kp, b20⟩
  have C_law_expected : Cal l.prog w K mg base CX0 1 "_law_expected" spExp := ⟨_, _, _, ok_l_exp F21 T, m21, F21.kp, b21⟩
  have C_law_act : Cal l.prog w K mg base CX0 4 "_law_act" spAct := ⟨_, _, _, ok_l_act F22 T C_law_take C_law_edit_of, m22, F22.kp, b22⟩
  exact ok_law F23 T C_law_tape C_law_take I_Server C_law_act C_law_do C_law_expected C_sameD C_Server_program

set_option maxHeartbeats 0 in
theorem hfacts {l : PySem.W.OpenLaw} {w : World} {K : PySem.W.Frag} {h : Heap} {mg : Str → Option Value} {fa : Addr} (X : K.In h) (G : h.Ns mainGlobals mg) (hfa : mg "law" = some (.ref fa)) (c : HSays K) :
    ∃ fd : FuncData, (∀ (s : Shared) (v : Value), BindsTo s fd ⟨[v], []⟩ [("script", v)]) ∧ ∀ base : Heap, K.In base → base.Ns mainGlobals mg → FnOk l.prog w K mg base CX0 10 fa fd ["script"] (spLaw K) := by
  obtain ⟨oc0, od0, sl0, kV0, dc0, pm0, an0, cd0, ct0, l0, c0⟩ := c.f 0 (d := fn_0) rfl
  obtain ⟨oc1, od1, sl1, kV1, dc1, pm1, an1, cd1, ct1, l1, c1⟩ := c.f 1 (d := fn_1) rfl
  obtain ⟨oc2, od2, sl2, kV2, dc2, pm2, an2, cd2, ct2, l2, c2⟩ := c.f 2 (d := fn_2) rfl
  obtain ⟨oc3, od3, sl3, kV3, dc3, pm3, an3, cd3, ct3, l3, c3⟩ := c.f 3 (d := fn_3) rfl
  obtain ⟨oc4, od4, sl4, kV4, dc4, pm4, an4, cd4, ct4, l4, c4⟩ := c.f 4 (d := fn_4) rfl
  obtain ⟨oc5, od5, sl5, kV5, dc5, pm5, an5, cd5, ct5, l5, c5⟩ := c.f 5 (d := fn_5) rfl
  obtain ⟨oc6, od6, sl6, kV6, dc6, pm6, an6, cd6, ct6, l6, c6⟩ := c.f 6 (d := fn_6) rfl
  obtain ⟨oc7, od7, sl7, kV7, dc7, pm7, an7, cd7, ct7, l7, c7⟩ := c.f 7 (d := fn_7) rfl
  obtain ⟨oc8, od8, sl8, kV8, dc8, pm8, an8, cd8, ct8, l8, c8⟩ := c.f 8 (d := fn_8) rfl
  obtain ⟨oc9, od9, sl9, kV9, dc9, pm9, an9, cd9, ct9, l9, c9⟩ := c.f 9 (d := fn_9) rfl
  obtain ⟨oc10, od10, sl10, kV10, dc10, pm10, an10, cd10, ct10, l10, c10⟩ := c.f 10 (d := fn_10) rfl
  obtain ⟨oc11, od11, sl11, kV11, dc11, pm11, an11, cd11, ct11, l11, c11⟩ := c.f 11 (d := fn_11) rfl
  obtain ⟨oc12, od12, sl12, kV12, dc12, pm12, an12, cd12, ct12, l12, c12⟩ := c.f 12 (d := fn_12) rfl
  obtain ⟨oc13, od13, sl13, kV13, dc13, pm13, an13, cd13, ct13, l13, c13⟩ := c.f 13 (d := fn_13) rfl
  obtain ⟨oc14, od14, sl14, kV14, dc14, pm14, an14, cd14, ct14, l14, c14⟩ := c.f 14 (d := fn_14) rfl
  obtain ⟨oc15, od15, sl15, kV15, dc15, pm15, an15, cd15, ct15, l15, c15⟩ := c.f 15 (d := fn_15) rfl
  obtain ⟨oc16, od16, sl16, kV16, dc16, pm16, an16, cd16, ct16, l16, c16⟩ := c.f 16 (d := fn_16) rfl
  obtain ⟨oc17, od17, sl17, kV17, dc17, pm17, an17, cd17, ct17, l17, c17⟩ := c.f 17 (d := fn_17) rfl
  obtain ⟨oc18, od18, sl18, kV18, dc18, pm18, an18, cd18, ct18, l18, c18⟩ := c.f 18 (d := fn_18) rfl
  obtain ⟨oc19, od19, sl19, kV19, dc19, pm19, an19, cd19, ct19, l19, c19⟩ := c.f 19 (d := fn_19) rfl
  obtain ⟨oc20, od20, sl20, kV20, dc20, pm20, an20, cd20, ct20, l20, c20⟩ := c.f 20 (d := fn_20) rfl
  obtain ⟨oc21, od21, sl21, kV21, dc21, pm21, an21, cd21, ct21, l21, c21⟩ := c.f 21 (d := fn_21) rfl
  obtain ⟨oc22, od22, sl22, kV22, dc22, pm22, an22, cd22, ct22, l22, c22⟩ := c.f 22 (d := fn_22) rfl
  obtain ⟨oc23, od23, sl23, kV23, dc23, pm23, an23, cd23, ct23, l23, c23⟩ := c.f 23 (d := fn_23) rfl
  obtain ⟨oc24, od24, sl24, kV24, dc24, pm24, an24, cd24, ct24, l24, c24⟩ := c.f 24 (d := fn_24) rfl
  obtain ⟨oc25, od25, sl25, kV25, dc25, pm25, an25, cd25, ct25, l25, c25⟩ := c.f 25 (d := fn_25) rfl
  obtain ⟨oc26, od26, sl26, kV26, dc26, pm26, an26, cd26, ct26, l26, c26⟩ := c.f 26 (d := fn_26) rfl
  obtain ⟨oc27, od27, sl27, kV27, dc27, pm27, an27, cd27, ct27, l27, c27⟩ := c.f 27 (d := fn_27) rfl
  obtain ⟨oc28, od28, sl28, kV28, dc28, pm28, an28, cd28, ct28, l28, c28⟩ := c.f 28 (d := fn_28) rfl
  obtain ⟨oc29, od29, sl29, kV29, dc29, pm29, an29, cd29, ct29, l29, c29⟩ := c.f 29 (d := fn_29) rfl
  obtain ⟨oc30, od30, sl30, kV30, dc30, pm30, an30, cd30, ct30, l30, c30⟩ := c.f 30 (d := fn_30) rfl
  obtain ⟨oc31, od31, sl31, kV31, dc31, pm31, an31, cd31, ct31, l31, c31⟩ := c.f 31 (d := fn_31) rfl
  obtain ⟨oc32, od32, sl32, kV32, dc32, pm32, an32, cd32, ct32, l32, c32⟩ := c.f 32 (d := fn_32) rfl
  obtain ⟨oc33, od33, sl33, kV33, dc33, pm33, an33, cd33, ct33, l33, c33⟩ := c.f 33 (d := fn_33) rfl
  obtain ⟨oc34, od34, sl34, kV34, dc34, pm34, an34, cd34, ct34, l34, c34⟩ := c.f 34 (d := fn_34) rfl
  obtain ⟨oc35, od35, sl35, kV35, dc35, pm35, an35, cd35, ct35, l35, c35⟩ := c.f 35 (d := fn_35) rfl
  obtain ⟨a0, k0, a1, k1, a2, k2, a3, k3, a4, k4, a5, k5⟩ := hB0_ok (c.b 0 (b := hB0 K) rfl)
  obtain ⟨a6, k6, a7, k7, a8, k8, a9, k9, a10, k10, a11, k11⟩ := hB1_ok (c.b 1 (b := hB1 K) rfl)
  obtain ⟨a12, k12, a13, k13, a14, k14, a15, k15, a16, k16, a17, k17⟩ := hB2_ok (c.b 2 (b := hB2 K) rfl)
  obtain ⟨a18, k18, a19, k19, a20, k20, a21, k21, a22, k22, a23, k23⟩ := hB3_ok (c.b 3 (b := hB3 K) rfl)
  obtain ⟨a24, i24, k24, a25, i25, k25, a26, i26, k26, a27, i27, k27⟩ := hB4_ok (c.b 4 (b := hB4 K) rfl)
  obtain ⟨a28, i28, k28, a29, i29, k29, a30, i30, k30, a31, i31, k31⟩ := hB5_ok (c.b 5 (b := hB5 K) rfl)
  obtain ⟨a32, i32, k32, a33, i33, k33, a34, i34, k34, a35, i35, k35⟩ := hB6_ok (c.b 6 (b := hB6 K) rfl)
  obtain ⟨z0, z1, z2, z3, z4, z5, z6, z7, z8, z9, z10, z11⟩ := hB7_ok (c.b 7 (b := hB7 K) rfl)
  obtain ⟨z12, gL, gP, gM, gW, gS, wt, aF_, aCK, aCR, aCV, aCS⟩ := hB8_ok (c.b 8 (b := hB8 K) rfl)
  obtain ⟨pg1, hd1, po1, sa1, mk1, kc1, pg2, hd2, po2, sa2, mk2, kc2⟩ := hB9_ok (c.b 9 (b := hB9 K) rfl)
  obtain ⟨pg3, hd3, po3, sa3, mk3, kc3, n1, n2, n3, n4, n5, n6⟩ := hB10_ok (c.b 10 (b := hB10 K) rfl)
  obtain ⟨n7, n8, nl, v1, v2, v3, v4, aI, xI, kI, bI, tI⟩ := hB11_ok (c.b 11 (b := hB11 K) rfl)
  obtain ⟨eI, aC, xC, kC, bC, tC, eC, aU, xU, kU, bU, tU⟩ := hB12_ok (c.b 12 (b := hB12 K) rfl)
  obtain ⟨eU, aN, xN, kN, bN, tN, eN, eg, ek, ed, ea, en⟩ := hB13_ok (c.b 13 (b := hB13 K) rfl)
  obtain ⟨et, em, ki, eEN, eUN, eUE, ckr, cvk⟩ := hB14_ok (c.b 14 (b := hB14 K) rfl)
  exact all_mk X G hfa a0 l0 c0 k0 a1 l1 c1 k1 a2 l2 c2 k2 a3 l3 c3 k3 a4 l4 c4 k4 a5 l5 c5 k5 a6 l6 c6 k6 a7 l7 c7 k7 a8 l8 c8 k8 a9 l9 c9 k9 a10 l10 c10 k10 a11 l11 c11 k11 a12 l12 c12 k12 a13 l13 c13 k13 a14 l14 c14 k14 a15 l15 c15 k15 a16 l16 c16 k16 a17 l17 c17 k17 a18 l18 c18 k18 a19 l19 c19 k19 a20 l20 c20 k20 a21 l21 c21 k21 a22 l22 c22 k22 a23 l23 c23 k23 a24 i24 l24 c24 k24 a25 i25 l25 c25 k25 a26 i26 l26 c26 k26 a27 i27 l27 c27 k27 a28 i28 l28 c28 k28 a29 i29 l29 c29 k29 a30 i30 l30 c30 k30 a31 i31 l31 c31 k31 a32 i32 l32 c32 k32 a33 i33 l33 c33 k33 a34 i34 l34 c34 k34 a35 i35 l35 c35 k35 z0 z1 z2 z3 z4 z5 z6 z7 z8 z9 z10 z11 z12 gL gP gM gW gS wt aF_ aCK aCR aCV aCS pg1 hd1 po1 sa1 mk1 kc1 pg2 hd2 po2 sa2 mk2 kc2 pg3 hd3 po3 sa3 mk3 kc3 n1 n2 n3 n4 n5 n6 n7 n8 nl v1 v2 v3 v4 aI xI kI bI tI eI aC xC kC bC tC eC aU xU kU bU tU eU aN xN kN bN tN eN eg ek ed ea en et em ki eEN eUN eUE ckr cvk
end Sn
open PySem PySem.W PySem.Calls PyProof.Rows
set_option maxRecDepth 100000 in
set_option maxHeartbeats 0 in
theorem PySem.Challenge.cw_samenames_k29_undo_and_redo_holds : PySem.Challenge.rw_samenames_k29_undo_and_redo.Holds := by
  w_on; o_law
  refine HandSHeadRun.head_any (r := OpenLaw.row PySem.Challenge.rw_samenames_k29_undo_and_redo) (q := view (OpenLaw.row PySem.Challenge.rw_samenames_k29_undo_and_redo).prog [123]) (H := Sn.hk) (ob := Sn.hob) (M := 14000) (loose := Sn.hnames) (d := HandSHeadRun.topDef (OpenLaw.row PySem.Challenge.rw_samenames_k29_undo_and_redo).prog 123) (kwd := []) Sn.hob_eq
    (by kernel_rfl) (fun s => by kernel_rfl) Sn.hrun (by kernel_rfl) (by kernel_rfl) (by kernel_rfl) (by rfl) (by first | assumption | decide +kernel) (by decide +kernel) ⟨rfl, rfl, rfl, rfl, rfl, by decide +kernel⟩ ?hw ?hc
  case hw => w_witness2
  case hc =>
    refine L2.walk_ofE (l := PySem.Challenge.rw_samenames_k29_undo_and_redo) (n := 63) (k := 10) (x := "script") (CX := L2.CX0) rfl (by decide) (by kernel_rfl) ⟨rfl, by decide, by decide⟩ ?F (fun _ _ _ _ z => z)
    intro w mg fa h Y G hmg0
    obtain ⟨K, KX, c⟩ := Y
    have hmg : mg ("law" : PySem.Str) = some (.ref fa) := by
      have e : (HandSHeadRun.topDef (OpenLaw.row PySem.Challenge.rw_samenames_k29_undo_and_redo).prog 123).name = ("law" : PySem.Str) := by kernel_rfl
      rw [← e]
      exact hmg0
    obtain ⟨fd, hb, hF⟩ := Sn.hfacts (l := PySem.Challenge.rw_samenames_k29_undo_and_redo) (w := w) KX G hmg c
    exact ⟨K, fd, Sn.spLaw K, KX, hb, fun H a ns hl _ hS => ⟨a, ns, rfl, hS, hl, fun _ => rfl⟩, hF⟩
