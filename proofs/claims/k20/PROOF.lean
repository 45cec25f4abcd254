import PyProof.Rows.All
import Wide.All
import OpenK.AllK
import Wide.FinOn
import PyProof.EqAt
import PyProof.EqKinds
import PyProof.TupleCall
import HandS.ForMost
import HandS.IsInst
import HandS.StrMore
import HandS.Codes
import HandS.Style
import HandS.Exc
import HandS.ExcOwn
import HandS.TryOnly
import HandS.ExcIs
import HandS.WordsExc
import HandS.ExcInit
import HandS.ExcField
import HandS.WrittenGet
import HandS.Conv
import HandS.DictTup
import HandS.TupLen
import HandS.Finally
import HandS.CallLocal
import HandS.CallSlots
import PyProof.DictMoreH
import HandS.Hot
import HandS.HotCalls
import HandS.ExcCtx
import HandS.TupSets
import HandS.Deep
import PySem.Challenge.RW_samenames_k20_keeper_is_its_definition
set_option Elab.async false
set_option linter.all false
set_option maxRecDepth 100000
set_option maxHeartbeats 4000000
/-! My own words over the hand layer: calls by name, heaps but for one place, texts, data. -/
namespace Sn
open PySem PySem.Spec PyProof.Rows L2

/-- a def that may be called by its name -/
structure Cal (P : Program) (w : World) (K : PySem.W.Frag) (mg : Str → Option Value) (base : Heap) (CX : CXT) (k : Nat) (x : Str) (sp : Sp) : Prop where
  ex : ∃ (f : Addr) (fd : FuncData) (ps : List Str), FnOk P w K mg base CX k f fd ps sp ∧ mg x = some (.ref f) ∧ PySem.W.keepIn K (.ref f) = true ∧ Binds K fd ps []
section
variable {X : Cx} {k j : Nat} {x : Str} {sp : Sp} {p pos : Pos} {e : Expr} {es : List Expr} {t : TA} {CX : CXT} {E : XK}
theorem pe_c (c : Cal X.prog X.w X.K X.mg X.base CX k x sp) (hr : Room j X.A) (hk : k ≤ j) (hx : Passes CX X E) (ha : PA X (e :: es) t) (hg : Gl X x := by rfl)
    (hdb : (x == ("__debug__" : Str)) = false := by decide) (he : starEach (e :: es) X.env = (false, eval e X.env) :: starEach es X.env := by rfl) (hpl : (backTo pos (starEach es X.env)).any (·.1) = false := by rfl) :
    PE X (.Call (.Name x p) (e :: es) [] pos) (tCall sp [] E t) := by
  obtain ⟨f, fd, ps, F, hm, kp, b⟩ := c.ex
  exact pe_call F (hr.mono hk) hg hm kp b .nil hx ha hdb he hpl
end

/-! ### displays of many written texts -/
def strOf : Expr → Option Str
  | .Constant (.str x) _ _ => some x
  | _ => none
def strsOf : List Expr → Option (List Str)
  | [] => some []
  | e :: r => match strOf e, strsOf r with
    | some x, some l => some (x :: l)
    | _, _ => none
theorem starEach_strs {env : Env} : ∀ {es : List Expr} {l : List Str}, strsOf es = some l → ∀ {e : Expr} {x : Str}, strOf e = some x → starEach (e :: es) env = (false, eval e env) :: starEach es env := by
  intro es l h e x hx
  unfold strOf at hx
  split at hx
  · rfl
  · cases hx
theorem pa_strsL {X : Cx} : ∀ (es : List Expr) (l : List Str), strsOf es = some l → PA X es (fun _ H Q => Q (l.map V.str) H)
  | [], l, h => by
    have e : l = [] := (Option.some.inj h).symm
    subst e
    exact pa_nil
  | e :: r, l, h => by
    unfold strsOf at h
    split at h
    · rename_i x m hx hm
      have el : l = x :: m := (Option.some.inj h).symm
      subst el
      have q := pa_strsL (X := X) r m hm
      have hs := starEach_strs (env := X.env) hm hx
      unfold strOf at hx
      split at hx
      · rename_i x' j pos
        have ex : x' = x := Option.some.inj hx
        subst ex
        exact pa_cons (te := tC (.str x')) (t := fun _ H Q => Q (m.map V.str) H) pe_str q hs
      · cases hx
    · cases h
theorem pa_strs {X : Cx} {es : List Expr} (l : List Str) (h : strsOf es = some l := by rfl) : PA X es (fun _ H Q => Q (l.map V.str) H) := pa_strsL es l h

/-! ### heaps -/
/-- all that was tracked but the object at t is as it was -/
def But (t : Addr) (H H' : Hp) : Prop := ∀ b o, b ≠ t → H b = some o → H' b = some o
theorem But.refl (t : Addr) (H : Hp) : But t H H := fun _ _ _ h => h
theorem But.trans {t : Addr} {H H1 H2 : Hp} (a : But t H H1) (b : But t H1 H2) : But t H H2 := fun c o n h => b c o n (a c o n h)
theorem But.of {t : Addr} {H H' : Hp} (s : Same H H') : But t H H' := fun b o _ h => s b o h
theorem same_new {H : Hp} {p : Addr} {o : HO} (h : H p = none) : Same H (upd H p o) := fun b u q => by
  rw [upd_ne (ne_of_none q h)]
  exact q
theorem But.upd {t : Addr} {H H1 : Hp} {o : HO} (b : But t H H1) : But t H (upd H1 t o) := fun c u n h => by
  rw [upd_ne n]
  exact b c u n h

/-! ### the tape -/
def tk (c : Addr) (a l se sa : Int) : List (Key × V) := [(.inr "cells", .ref c), (.inr "at", .int a), (.inr "left", .int l), (.inr "seed", .int se), (.inr "salt", .int sa)]
structure TkAt (H : Hp) (t c : Addr) (cs : List Int) (a l se sa : Int) : Prop where
  d : H t = some (.dK (tk c a l se sa))
  cl : H c = some (.lst (cs.map V.int))
  cp : ∀ x ∈ cs, 0 ≤ x
  a0 : 0 ≤ a
  l0 : 0 ≤ l
  s0 : 0 ≤ se
  s1 : se < 2147483647
/-- a tape stands at t -/
def Tp (H : Hp) (t c : Addr) : Prop := ∃ cs a l se sa, TkAt H t c cs a l se sa
theorem TkAt.ne {H : Hp} {t c : Addr} {cs : List Int} {a l se sa : Int} (z : TkAt H t c cs a l se sa) : c ≠ t := ne_of z.cl z.d (by intro q; cases q)
theorem Tp.same {H H' : Hp} {t c : Addr} (s : Same H H') : Tp H t c → Tp H' t c := fun ⟨cs, a, l, se, sa, z⟩ => ⟨cs, a, l, se, sa, s _ _ z.d, s _ _ z.cl, z.cp, z.a0, z.l0, z.s0, z.s1⟩
theorem Tp.ne {H : Hp} {t c b : Addr} (z : Tp H t c) {o : HO} (h : H b = some o) (hn : ∀ kvs, o ≠ .dK kvs) : b ≠ t := by
  obtain ⟨cs, a, l, se, sa, z⟩ := z
  exact ne_of h z.d (hn _)
theorem Tp.nt {H : Hp} {t c b : Addr} (z : Tp H t c) (h : H b = none) : t ≠ b := by
  obtain ⟨cs, a, l, se, sa, z⟩ := z
  exact ne_of_none z.d h
theorem Tp.nc {H : Hp} {t c b : Addr} (z : Tp H t c) (h : H b = none) : c ≠ b := by
  obtain ⟨cs, a, l, se, sa, z⟩ := z
  exact ne_of_none z.cl h
theorem Tp.upd {H : Hp} {t c b : Addr} {o : HO} (z : Tp H t c) (h1 : t ≠ b) (h2 : c ≠ b) : Tp (upd H b o) t c := by
  obtain ⟨cs, a, l, se, sa, z⟩ := z
  exact ⟨cs, a, l, se, sa, by rw [upd_ne h1]; exact z.d, by rw [upd_ne h2]; exact z.cl, z.cp, z.a0, z.l0, z.s0, z.s1⟩
theorem Tp.new {H : Hp} {t c b : Addr} {o : HO} (z : Tp H t c) (h : H b = none) : Tp (L2.upd H b o) t c := z.upd (z.nt h) (z.nc h)
section
variable {c : Addr} {a l se sa v : Int}
theorem g_cells : valV (tk c a l se sa) (.inr "cells") = some (.ref c) := by kernel_rfl
theorem g_at : valV (tk c a l se sa) (.inr "at") = some (.int a) := by kernel_rfl
theorem g_left : valV (tk c a l se sa) (.inr "left") = some (.int l) := by kernel_rfl
theorem g_seed : valV (tk c a l se sa) (.inr "seed") = some (.int se) := by kernel_rfl
theorem g_salt : valV (tk c a l se sa) (.inr "salt") = some (.int sa) := by kernel_rfl
theorem p_at : putK (tk c a l se sa) (.inr "at") (.int v) = tk c v l se sa := by kernel_rfl
theorem p_left : putK (tk c a l se sa) (.inr "left") (.int v) = tk c a v se sa := by kernel_rfl
theorem p_salt : putK (tk c a l se sa) (.inr "salt") (.int v) = tk c a l se v := by kernel_rfl
theorem tk_len : (tk c a l se sa).length < sizeLine := by
  show 5 < sizeLine
  decide
end
section
variable {H : Hp} {t c : Addr} {cs : List Int} {a l se sa v : Int}
theorem TkAt.dg (z : TkAt H t c cs a l se sa) {k : Key} {x : V} (h : valV (tk c a l se sa) k = some x) : DGet H t (kV k) (some x) := h ▸ DGet.k z.d
theorem TkAt.sAt (z : TkAt H t c cs a l se sa) (hv : 0 ≤ v) : TkAt (upd H t (.dK (tk c v l se sa))) t c cs v l se sa :=
  ⟨upd_same, by rw [upd_ne z.ne]; exact z.cl, z.cp, hv, z.l0, z.s0, z.s1⟩
theorem TkAt.sLeft (z : TkAt H t c cs a l se sa) (hv : 0 ≤ v) : TkAt (upd H t (.dK (tk c a v se sa))) t c cs a v se sa :=
  ⟨upd_same, by rw [upd_ne z.ne]; exact z.cl, z.cp, z.a0, hv, z.s0, z.s1⟩
theorem TkAt.sSalt (z : TkAt H t c cs a l se sa) : TkAt (upd H t (.dK (tk c a l se v))) t c cs a l se v :=
  ⟨upd_same, by rw [upd_ne z.ne]; exact z.cl, z.cp, z.a0, z.l0, z.s0, z.s1⟩
theorem TkAt.pAt (z : TkAt H t c cs a l se sa) : DPut H t (.str "at") (.int v) (upd H t (.dK (tk c v l se sa))) := p_at (c := c) (a := a) (l := l) (se := se) (sa := sa) (v := v) ▸ DPut.k (k := .inr "at") z.d tk_len
theorem TkAt.pLeft (z : TkAt H t c cs a l se sa) : DPut H t (.str "left") (.int v) (upd H t (.dK (tk c a v se sa))) := p_left (c := c) (a := a) (l := l) (se := se) (sa := sa) (v := v) ▸ DPut.k (k := .inr "left") z.d tk_len
theorem TkAt.pSalt (z : TkAt H t c cs a l se sa) : DPut H t (.str "salt") (.int v) (upd H t (.dK (tk c a l se v))) := p_salt (c := c) (a := a) (l := l) (se := se) (sa := sa) (v := v) ▸ DPut.k (k := .inr "salt") z.d tk_len
end

/-! ### texts -/
/-- a sign that may stand in a text -/
def okc (c : Nat) : Bool := c == 10 || (decide (32 ≤ c) && decide (c ≤ 126) && c != 37)
def OkT (z : Str) : Prop := ∀ c ∈ z.cps.toList, okc c = true
def okT (z : Str) : Bool := z.cps.toList.all okc
theorem OkT.of {z : Str} (h : okT z = true) : OkT z := List.all_eq_true.mp h
theorem OkT.append {x y : Str} (a : OkT x) (b : OkT y) : OkT (x ++ y) := fun c h => by
  rw [show (x ++ y).cps.toList = x.cps.toList ++ y.cps.toList from TL.tl_append x y] at h
  rcases List.mem_append.mp h with h | h
  · exact a c h
  · exact b c h
theorem joinL_nil : ∀ l : List (List Nat), TL.joinL [] l = l.flatten
  | [] => rfl
  | [p] => by simp [TL.joinL]
  | p :: q :: r => by
    show p ++ ([] ++ TL.joinL [] (q :: r)) = _
    rw [joinL_nil (q :: r), List.nil_append] <;> rfl
theorem tl_join0 (y : Str) (hy : TL.tl y = []) (l : List Str) : TL.tl (Txt.join y l) = (l.map TL.tl).flatten := by
  rw [TL.join_eq, TL.tl_join, hy, joinL_nil]
theorem OkT.join {y : Str} (hy : TL.tl y = []) {l : List Str} (h : ∀ z ∈ l, OkT z) : OkT (Txt.join y l) := fun c hc => by
  rw [show (Txt.join y l).cps.toList = (l.map TL.tl).flatten from tl_join0 y hy l] at hc
  obtain ⟨m, hm, hc⟩ := List.mem_flatten.mp hc
  obtain ⟨z, hz, rfl⟩ := List.mem_map.mp hm
  exact h z hz c hc
theorem sum_len_le {n : Nat} : ∀ {l : List Str}, (∀ z ∈ l, z.length ≤ n) → (l.map (·.length)).sum ≤ n * l.length
  | [], _ => by simp
  | z :: r, h => by
    have ih := sum_len_le (l := r) fun y hy => h y (List.mem_cons_of_mem _ hy)
    have h0 := h z List.mem_cons_self
    rw [List.map_cons, List.sum_cons, List.length_cons, Nat.mul_add]
    omega
theorem flat_len : ∀ l : List Str, ((l.map TL.tl).flatten).length = (l.map (·.length)).sum
  | [] => rfl
  | z :: r => by
    rw [List.map_cons, List.flatten_cons, List.length_append, flat_len r, List.map_cons, List.sum_cons, TL.len_tl z]
theorem join_len (y : Str) (hy : TL.tl y = []) (l : List Str) : (Txt.join y l).length = (l.map (·.length)).sum := by
  rw [TL.len_tl, tl_join0 y hy, flat_len]
theorem small {n : Nat} (h : n ≤ 1000000) : n ≤ sizeLine := Nat.le_trans h (by decide)

/-! ### data that are equal -/
def sca : V → Bool
  | .non => true
  | .bl _ => true
  | .int _ => true
  | .str _ => true
  | _ => false
def Al (H : Hp) : Nat → V → V → Prop
  | 0, _, _ => False
  | n + 1, x, y => (x = y ∧ sca x = true) ∨
    (∃ a b xs ys, x = .ref a ∧ y = .ref b ∧ H a = some (.tup xs) ∧ H b = some (.tup ys) ∧ xs.length = ys.length ∧ xs.length ≤ 1000000 ∧ ∀ (i : Nat) (u v : V), xs[i]? = some u → ys[i]? = some v → Al H n u v) ∨
    (∃ a b xs ys, x = .ref a ∧ y = .ref b ∧ H a = some (.lst xs) ∧ H b = some (.lst ys) ∧ xs.length = ys.length ∧ xs.length ≤ 1000000 ∧ ∀ (i : Nat) (u v : V), xs[i]? = some u → ys[i]? = some v → Al H n u v)
theorem Al.sc {H : Hp} {n : Nat} {x : V} (h : sca x = true) : Al H (n + 1) x x := .inl ⟨rfl, h⟩
theorem Al.same {H H' : Hp} (s : Same H H') : ∀ {n : Nat} {x y : V}, Al H n x y → Al H' n x y
  | 0, _, _, h => h
  | n + 1, x, y, h => by
    rcases h with h | ⟨a, b, xs, ys, e1, e2, h1, h2, hl, hm, h⟩ | ⟨a, b, xs, ys, e1, e2, h1, h2, hl, hm, h⟩
    · exact .inl h
    · exact .inr (.inl ⟨a, b, xs, ys, e1, e2, s _ _ h1, s _ _ h2, hl, hm, fun i u v p q => Al.same s (h i u v p q)⟩)
    · exact .inr (.inr ⟨a, b, xs, ys, e1, e2, s _ _ h1, s _ _ h2, hl, hm, fun i u v p q => Al.same s (h i u v p q)⟩)
theorem Al.tup {H : Hp} {n : Nat} {a b : Addr} {xs ys : List V} (h1 : H a = some (.tup xs)) (h2 : H b = some (.tup ys)) (hl : xs.length = ys.length) (hm : xs.length ≤ 1000000) (h : ∀ (i : Nat) (u v : V), xs[i]? = some u → ys[i]? = some v → Al H n u v) : Al H (n + 1) (.ref a) (.ref b) :=
  .inr (.inl ⟨a, b, xs, ys, rfl, rfl, h1, h2, hl, hm, h⟩)
theorem Al.lst {H : Hp} {n : Nat} {a b : Addr} {xs ys : List V} (h1 : H a = some (.lst xs)) (h2 : H b = some (.lst ys)) (hl : xs.length = ys.length) (hm : xs.length ≤ 1000000) (h : ∀ (i : Nat) (u v : V), xs[i]? = some u → ys[i]? = some v → Al H n u v) : Al H (n + 1) (.ref a) (.ref b) :=
  .inr (.inr ⟨a, b, xs, ys, rfl, rfl, h1, h2, hl, hm, h⟩)
/-- two tuples (lists) of the same plain values -/
theorem al_eq {H : Hp} {n : Nat} {xs : List V} (h : xs.all sca = true) : ∀ (i : Nat) (u v : V), xs[i]? = some u → xs[i]? = some v → Al H (n + 1) u v := fun i u v p q => by
  have e : u = v := Option.some.inj (p.symm.trans q)
  subst e
  exact Al.sc (List.all_eq_true.mp h u (List.mem_of_getElem? p))

/-! ### tests -/
theorem iteP {p A B : Prop} [Decidable p] (hp : p) (h : A) : if decide p = true then A else B := by
  rw [if_pos (decide_eq_true hp)]
  exact h
theorem iteN {p A B : Prop} [Decidable p] (hp : ¬ p) (h : B) : if decide p = true then A else B := by
  rw [if_neg (by rw [decide_eq_false hp]; exact Bool.false_ne_true)]
  exact h
theorem iteNN {p A B : Prop} [Decidable p] (hp : ¬ p) (h : A) : if (!decide p) = true then A else B := by
  rw [decide_eq_false hp]
  exact iteT h
theorem qP {p : Prop} [Decidable p] {Q : VK} {H : Hp} (hp : p) (h : Q (.bl true) H) : Q (.bl (decide p)) H := by
  rw [decide_eq_true hp]
  exact h
theorem none_left {P : Program} {w : World} {K : PySem.W.Frag} {mg : Str → Option Value} {base : Heap} {f : Addr} {fd : FuncData} {ps : List Str} {sp : Sp} (no : ∀ vs H Q E, ¬ sp vs H Q E) : FnOk P w K mg base CX0 0 f fd ps sp :=
  ⟨fun vs H Q E h => absurd h (no vs H Q E), fun A outer s H args us vs Q E _ _ _ _ h => absurd h (no vs H Q E)⟩

/-! ### promises of the law's own helpers -/
def spTape (K : PySem.W.Frag) : Sp := fun vs H Q _ => ∃ (a : Addr) (ns : List Int), vs = [.ref a] ∧ SqL K H a (ns.map V.int) ∧ ns.length ≤ 63 ∧ ∀ t c H', Same H H' → H t = none → H c = none → Tp H' t c → Q (.ref t) H'
def spTake : Sp := fun vs H Q _ => ∃ (t c : Addr) (n : Int), vs = [.ref t, .int n] ∧ Tp H t c ∧ 0 < n ∧ n < 1073741824 ∧ ∀ (r : Int) H', 0 ≤ r → r < n → But t H H' → Tp H' t c → Q (.int r) H'
def spIsInt : Sp := fun vs H Q _ => ∃ i : Int, vs = [.int i] ∧ Q (.bl true) H
def spSame (n : Nat) : Sp := fun vs H Q _ => ∃ x y, vs = [x, y] ∧ Al H n x y ∧ Q (.bl true) H
def spItems (n : Nat) : Sp := fun vs H Q _ => ∃ a b xs ys, vs = [.ref a, .ref b] ∧ ((H a = some (.tup xs) ∧ H b = some (.tup ys)) ∨ (H a = some (.lst xs) ∧ H b = some (.lst ys))) ∧ xs.length = ys.length ∧ xs.length ≤ 1000000 ∧
  (∀ (i : Nat) (u v : V), xs[i]? = some u → ys[i]? = some v → Al H n u v) ∧ Q (.bl true) H
def spSnippet : Sp := fun vs H Q _ => ∃ t c, vs = [.ref t] ∧ Tp H t c ∧ ∀ z H', OkT z → z.length ≤ 45 → But t H H' → Tp H' t c → Q (.str z) H'
def spChar : Sp := fun vs H Q _ => ∃ t c, vs = [.ref t] ∧ Tp H t c ∧ ∀ z H', OkT z → z.length = 1 → But t H H' → Tp H' t c → Q (.str z) H'
def spAny : Sp := fun vs H Q _ => ∃ (t c : Addr) (m : Nat), vs = [.ref t, .int m] ∧ Tp H t c ∧ m ≤ 100 ∧ ∀ z H', OkT z → z.length ≤ 45 * m → But t H H' → Tp H' t c → Q (.str z) H'

/-! ### a text walked sign by sign -/
theorem for_str {x : Str} {g : TG} {tb : TS} {D : Ends} {σ : L2.St} {H : Hp} (Pv : Nat → L2.St → Hp → Prop) (h0 : Pv 0 σ H)
    (hs : ∀ i c σ H, x.cps.toList[i]? = some c → Pv i σ H → g (.str ⟨#[c]⟩) σ H fun σ2 H2 => tb { D with nx := Pv (i + 1), ct := Pv (i + 1), bk := D.nx } σ2 H2) (hd : ∀ σ H, Pv x.cps.toList.length σ H → D.nx σ H) :
    ∃ W : Nat → Nat → L2.St → Hp → Prop, (∃ m, W 0 m σ H) ∧ ∀ i m σ H, W i m σ H →
      ((Its x).stop i H ∧ D.nx σ H) ∨ ((Its x).go i H ∧ ∃ Nx : L2.St → Hp → Prop, (∀ σ' H', Nx σ' H' → ∃ m', m' < m ∧ W (i + 1) m' σ' H') ∧ ∀ y H', (Its x).yld i H y H' → g y σ H' fun σ2 H2 => tb { D with nx := Nx, ct := Nx, bk := D.nx } σ2 H2) := by
  refine ⟨fun i m σ H => m = x.cps.toList.length - i ∧ i ≤ x.cps.toList.length ∧ Pv i σ H, ⟨x.cps.toList.length, by simp, Nat.zero_le _, h0⟩, ?_⟩
  rintro i m σ H ⟨rfl, hi, p⟩
  have hsz : x.cps.toList.length = x.cps.size := Array.length_toList
  by_cases hlt : i < x.cps.toList.length
  · refine .inr ⟨by show i < x.cps.size; omega, Pv (i + 1), fun σ' H' p' => ⟨x.cps.toList.length - (i + 1), by omega, rfl, hlt, p'⟩, fun y H' z => ?_⟩
    obtain ⟨e, c, hc, z⟩ := z
    subst e z
    exact hs i c σ _ (by rw [Array.getElem?_toList]; exact hc) p
  · have e : i = x.cps.toList.length := by omega
    subst e
    exact .inl ⟨by show x.cps.size ≤ _; omega, hd σ H p⟩
/-! ### a while by an invariant and a measure -/
theorem while_m {c : TT} {tb : TS} {D : Ends} {σ : L2.St} {H : Hp} (Pv : L2.St → Hp → Prop) (μ : L2.St → Hp → Nat) (h0 : Pv σ H)
    (hs : ∀ σ H, Pv σ H → c σ H fun b H1 => if b = true then ∃ N : L2.St → Hp → Prop, (∀ σ' H', N σ' H' → ∃ m', m' < μ σ H ∧ m' = μ σ' H' ∧ Pv σ' H') ∧ tb { D with nx := N, ct := N, bk := D.nx } σ H1 else D.nx σ H1) : tWhile c tb D σ H :=
  ⟨fun m σ H => m = μ σ H ∧ Pv σ H, ⟨_, rfl, h0⟩, fun m σ H h => by
    obtain ⟨rfl, p⟩ := h
    exact hs σ H p⟩
theorem wN {Pv : L2.St → Hp → Prop} {μ : L2.St → Hp → Nat} {k : Nat} {tb : TS} {D : Ends} {σ : L2.St} {H1 : Hp} (h : tb { D with nx := fun σ' H' => Pv σ' H' ∧ μ σ' H' < k, ct := fun σ' H' => Pv σ' H' ∧ μ σ' H' < k, bk := D.nx } σ H1) :
    ∃ N : L2.St → Hp → Prop, (∀ σ' H', N σ' H' → ∃ m', m' < k ∧ m' = μ σ' H' ∧ Pv σ' H') ∧ tb { D with nx := N, ct := N, bk := D.nx } σ H1 := ⟨_, fun _ _ n => ⟨_, n.2, rfl, n.1⟩, h⟩
def spLaw (K : PySem.W.Frag) : Sp := fun vs H Q _ => ∃ (a : Addr) (ns : List Int), vs = [.ref a] ∧ SqL K H a (ns.map V.int) ∧ ns.length ≤ 63 ∧ ∀ H', Q (.bl true) H'
end Sn

/-! What a keeper does, for any keys and any function: a relation of steps (Run), its path (Un), what stays (Post), one turn of the path (turnA, turnB, turnC). -/
namespace Sn
abbrev Ky := List L2.Key
structure En (α : Type) where
  v : α
  d : List Ky
  c : Nat
  g : Nat
structure KS (α : Type) where
  now : Nat
  left : Option Nat
  inp : Ky → Option (α × Nat)
  en : Ky → Option (En α)
  done : List Ky
inductive Tr (α : Type) where
  | ret : α → Tr α
  | ask : Ky → (α → Prop) → (α → Tr α) → Tr α
def ups {β : Type} (f : Ky → Option β) (k : Ky) (v : β) : Ky → Option β := fun j => if j = k then some v else f j
theorem ups_at {β : Type} {f : Ky → Option β} {k : Ky} {v : β} : ups f k v k = some v := if_pos rfl
theorem ups_ne {β : Type} {f : Ky → Option β} {j k : Ky} {v : β} (h : j ≠ k) : ups f k v j = f j := if_neg h
theorem ups_self {β : Type} {f : Ky → Option β} {k : Ky} {v : β} (h : f k = some v) : ups f k v = f := by
  funext j
  by_cases c : j = k
  · rw [c, ups_at, h]
  · exact ups_ne c
section
variable {α : Type} [DecidableEq α]
def KS.look (S : KS α) (k : Ky) (e : En α) : KS α := { S with en := ups S.en k ⟨e.v, e.d, S.now, e.g⟩ }
def KS.dec (S : KS α) : KS α := { S with left := S.left.map fun n => n - 1 }
def KS.chgOf (S : KS α) (k : Ky) (v : α) : Nat := match S.en k with
  | some e => if e.v = v then e.g else S.now
  | none => S.now
def KS.keep (S : KS α) (k : Ky) (v : α) (as : List Ky) : KS α := { S with en := ups S.en k ⟨v, as, S.now, S.chgOf k v⟩, done := S.done ++ [k] }
def KS.chg (S : KS α) (k : Ky) : Option Nat := match S.inp k with
  | some x => some x.2
  | none => (S.en k).map En.g
def KS.val (S : KS α) (k : Ky) : Option α := match S.inp k with
  | some x => some x.1
  | none => (S.en k).map En.v
def addK (as : List Ky) (k : Ky) : List Ky := if as.any (fun x => decide (x = k)) = true then as else as ++ [k]
inductive Jg (α : Type) where
  | br : KS α → Ky → Jg α
  | rs : KS α → Ky → Nat → Jg α
  | lk : KS α → Ky → En α → List Ky → Jg α
  | rn : KS α → Ky → Jg α
  | ev : KS α → Tr α → List Ky → Jg α
inductive Ot (α : Type) where
  | ok : KS α → Ot α
  | no : KS α → Ot α
  | val : KS α → α → List Ky → Ot α
/-- live keys, how deep computations may still go, the size of it all -/
inductive Run (G : Ky → Prop) (comp : Ky → Tr α) : List Ky → Nat → Nat → Jg α → Ot α → Prop
  | b_in {L n S k x} : S.inp k = some x → Run G comp L (n + 1) 0 (.br S k) (.ok S)
  | b_now {L n S k e} : S.inp k = none → S.en k = some e → e.c = S.now → G k → Run G comp L (n + 1) 0 (.br S k) (.ok S)
  | b_rs {L n z S k o} : S.inp k = none → (∀ e, S.en k = some e → e.c ≠ S.now) → k ∉ L → G k → Run G comp (k :: L) (n + 1) z (.rs S k 0) o → Run G comp L (n + 1) (z + 2) (.br S k) o
  | r_now {L n S k i e} : S.en k = some e → e.c = S.now → Run G comp L n 0 (.rs S k i) (.ok S)
  | r_none {L n z S k i o} : S.en k = none → Run G comp L n z (.rn S k) o → Run G comp L n (z + 1) (.rs S k i) o
  | r_old {L n z S k i e o} : S.en k = some e → e.c ≠ S.now → Run G comp L n z (.lk S k e (e.d.drop i)) o → Run G comp L n (z + 1) (.rs S k i) o
  | l_nil {L n S k e} : Run G comp L n 0 (.lk S k e []) (.ok (S.look k e))
  | l_no {L n z S k e d ds S1} : Run G comp L n z (.br S d) (.no S1) → Run G comp L n (z + 1) (.lk S k e (d :: ds)) (.no S1)
  | l_chg {L n z1 z2 S k e d ds S1 g o} : Run G comp L n z1 (.br S d) (.ok S1) → S1.chg d = some g → e.c < g → Run G comp L n z2 (.rn S1 k) o → Run G comp L n (z1 + z2 + 1) (.lk S k e (d :: ds)) o
  | l_go {L n z1 z2 S k e d ds S1 g o} : Run G comp L n z1 (.br S d) (.ok S1) → S1.chg d = some g → g ≤ e.c → Run G comp L n z2 (.lk S1 k e ds) o → Run G comp L n (z1 + z2 + 1) (.lk S k e (d :: ds)) o
  | n_no {L n S k} : S.left = some 0 → Run G comp L n 1 (.rn S k) (.no S)
  | n_ok {L n z S k S1 v as} : S.left ≠ some 0 → G k → Run G comp L n z (.ev S.dec (comp k) []) (.val S1 v as) → Run G comp L (n + 1) (z + 3) (.rn S k) (.ok (S1.keep k v as))
  | n_fail {L n z S k S1} : S.left ≠ some 0 → G k → Run G comp L n z (.ev S.dec (comp k) []) (.no S1) → Run G comp L (n + 1) (z + 3) (.rn S k) (.no S1)
  | e_ret {L n S v as} : Run G comp L n 0 (.ev S (.ret v) as) (.val S v as)
  | e_ask {L n z1 z2 S d p f as S1 v o} : Run G comp L n z1 (.br S d) (.ok S1) → S1.val d = some v → p v → Run G comp L n z2 (.ev S1 (f v) (addK as d)) o → Run G comp L n (z1 + z2 + 2) (.ev S (.ask d p f) as) o
  | e_no {L n z S d p f as S1} : Run G comp L n z (.br S d) (.no S1) → Run G comp L n (z + 2) (.ev S (.ask d p f) as) (.no S1)
def Ot.st : Ot α → KS α
  | .ok S => S
  | .no S => S
  | .val S _ _ => S
/-- what stays -/
structure Lat (P : Ky → Prop) (S S' : KS α) : Prop where
  now : S'.now = S.now
  inp : S'.inp = S.inp
  en : ∀ x, P x → S'.en x = S.en x
  mono : ∀ x e, S.en x = some e → e.c = S.now → S'.en x = some e
theorem Lat.refl {P : Ky → Prop} {S : KS α} : Lat P S S := ⟨rfl, rfl, fun _ _ => rfl, fun _ _ h _ => h⟩
theorem Lat.trans {P : Ky → Prop} {S S1 S2 : KS α} (a : Lat P S S1) (b : Lat P S1 S2) : Lat P S S2 :=
  ⟨b.now.trans a.now, b.inp.trans a.inp, fun x h => (b.en x h).trans (a.en x h), fun x e h c => b.mono x e (a.mono x e h c) (c.trans a.now.symm)⟩
theorem Lat.imp {P P' : Ky → Prop} {S S1 : KS α} (a : Lat P S S1) (h : ∀ x, P' x → P x) : Lat P' S S1 := ⟨a.now, a.inp, fun x z => a.en x (h x z), a.mono⟩
def Rdy (S : KS α) (k : Ky) : Prop := (∃ x, S.inp k = some x) ∨ S.inp k = none ∧ ∃ e, S.en k = some e ∧ e.c = S.now
def Unc (S : KS α) (k : Ky) : Prop := ∀ e, S.en k = some e → e.c ≠ S.now
def Post (L : List Ky) : Jg α → Ot α → Prop
  | .br S k, o => Lat (· ∈ L) S o.st ∧ (∀ S', o = .ok S' → Rdy S' k) ∧ (∀ S' v as, o ≠ .val S' v as)
  | .ev S _ _, o => Lat (· ∈ L) S o.st ∧ ∀ S', o ≠ .ok S'
  | .rs S k _, o => k ∈ L → Unc S k → Lat (fun x => x ∈ L ∧ x ≠ k) S o.st ∧ (∀ S', o = .ok S' → ∃ e, S'.en k = some e ∧ e.c = S'.now) ∧ (∀ S' v as, o ≠ .val S' v as)
  | .lk S k e _, o => k ∈ L → Unc S k → Lat (fun x => x ∈ L ∧ x ≠ k) S o.st ∧ (∀ S', o = .ok S' → ∃ e, S'.en k = some e ∧ e.c = S'.now) ∧ (∀ S' v as, o ≠ .val S' v as)
  | .rn S k, o => k ∈ L → Unc S k → Lat (fun x => x ∈ L ∧ x ≠ k) S o.st ∧ (∀ S', o = .ok S' → ∃ e, S'.en k = some e ∧ e.c = S'.now) ∧ (∀ S' v as, o ≠ .val S' v as)
variable {G : Ky → Prop} {comp : Ky → Tr α}
theorem Unc.lat {P : Ky → Prop} {S S1 : KS α} {k : Ky} (u : Unc S k) (l : Lat P S S1) (h : P k) : Unc S1 k := fun e he => by
  rw [l.en k h] at he
  rw [l.now]
  exact u e he
theorem Lat.look {P : Ky → Prop} {S : KS α} {k : Ky} {e : En α} (u : Unc S k) (h : ¬ P k) : Lat P S (S.look k e) :=
  ⟨rfl, rfl, fun x hx => ups_ne fun z => h (z ▸ hx), fun x e' he hc => (ups_ne fun z => by subst z; exact u e' he hc).trans he⟩
theorem Lat.keep {P : Ky → Prop} {S : KS α} {k : Ky} {v : α} {as : List Ky} (u : Unc S k) (h : ¬ P k) : Lat P S (S.keep k v as) :=
  ⟨rfl, rfl, fun x hx => ups_ne fun z => h (z ▸ hx), fun x e' he hc => (ups_ne fun z => by subst z; exact u e' he hc).trans he⟩
theorem Run.post {L : List Ky} {n z : Nat} {J : Jg α} {o : Ot α} (h : Run G comp L n z J o) : Post L J o := by
  induction h with
  | b_in a => exact ⟨Lat.refl, fun S' e => by injection e with e; exact .inl ⟨_, e ▸ a⟩, fun _ _ _ e => nomatch e⟩
  | b_now a b c _ => exact ⟨Lat.refl, fun S' e => by injection e with e; subst e; exact .inr ⟨a, _, b, c⟩, fun _ _ _ e => nomatch e⟩
  | @b_rs L n z S k o a b c g r ih =>
    obtain ⟨l, q, nv⟩ := ih List.mem_cons_self b
    refine ⟨l.imp fun x hx => ⟨List.mem_cons_of_mem _ hx, fun z => c (z ▸ hx)⟩, fun S' e => .inr ⟨?_, q S' e⟩, nv⟩
    subst e
    have := l.inp
    rw [show S'.inp = S.inp from this]
    exact a
  | r_now a b => exact fun hk u => absurd b (u _ a)
  | r_none a r ih => exact fun hk u => ih hk u
  | r_old a b r ih => exact fun hk u => ih hk u
  | l_nil => exact fun hk u => ⟨Lat.look u fun z => z.2 rfl, fun S' e => by injection e with e; subst e; exact ⟨_, ups_at, rfl⟩, fun _ _ _ e => nomatch e⟩
  | l_no r ih => exact fun hk u => ⟨ih.1.imp fun x z => z.1, fun S' e => (nomatch e), fun _ _ _ e => nomatch e⟩
  | l_chg r a b r2 ih ih2 =>
    intro hk u
    have l1 := ih.1
    obtain ⟨l2, q, nv⟩ := ih2 hk (u.lat l1 hk)
    exact ⟨(l1.imp fun x z => z.1).trans l2, q, nv⟩
  | l_go r a b r2 ih ih2 =>
    intro hk u
    have l1 := ih.1
    obtain ⟨l2, q, nv⟩ := ih2 hk (u.lat l1 hk)
    exact ⟨(l1.imp fun x z => z.1).trans l2, q, nv⟩
  | n_no a => exact fun hk u => ⟨Lat.refl, fun S' e => (nomatch e), fun _ _ _ e => nomatch e⟩
  | @n_ok L n z S k S1 v as a g r ih =>
    intro hk u
    have l1 : Lat (· ∈ L) S S1 := ⟨ih.1.now, ih.1.inp, ih.1.en, ih.1.mono⟩
    have u1 := u.lat l1 hk
    exact ⟨(l1.imp fun x z => z.1).trans (Lat.keep u1 fun z => z.2 rfl), fun S' e => by injection e with e; subst e; exact ⟨_, ups_at, rfl⟩, fun _ _ _ e => nomatch e⟩
  | @n_fail L n z S k S1 a g r ih =>
    intro hk u
    have l1 : Lat (· ∈ L) S S1 := ⟨ih.1.now, ih.1.inp, ih.1.en, ih.1.mono⟩
    exact ⟨l1.imp fun x z => z.1, fun S' e => (nomatch e), fun _ _ _ e => nomatch e⟩
  | e_ret => exact ⟨Lat.refl, fun _ e => nomatch e⟩
  | e_ask r a _ r2 ih ih2 => exact ⟨ih.1.trans ih2.1, ih2.2⟩
  | e_no r ih => exact ⟨ih.1, fun _ e => nomatch e⟩
theorem Run.ask_inv {L : List Ky} {n z : Nat} {S : KS α} {d : Ky} {p : α → Prop} {f : α → Tr α} {as : List Ky} {out : Ot α} (h : Run G comp L n z (.ev S (.ask d p f) as) out) :
    ∃ z1 o1, z1 + 2 ≤ z ∧ Run G comp L n z1 (.br S d) o1 ∧ ((∃ S1 v z2, o1 = .ok S1 ∧ S1.val d = some v ∧ p v ∧ z1 + z2 + 2 ≤ z ∧ Run G comp L n z2 (.ev S1 (f v) (addK as d)) out) ∨ ∃ S1, o1 = .no S1 ∧ out = .no S1) := by
  cases h with
  | e_ask a b c e => exact ⟨_, _, by omega, a, .inl ⟨_, _, _, rfl, b, c, Nat.le_refl _, e⟩⟩
  | e_no a => exact ⟨_, _, Nat.le_refl _, a, .inr ⟨_, rfl, rfl⟩⟩
theorem Run.ret_inv {L : List Ky} {n z : Nat} {S : KS α} {v : α} {as : List Ky} {out : Ot α} (h : Run G comp L n z (.ev S (.ret v) as) out) : out = .val S v as := by
  cases h
  rfl
/-! ### one look at a key's step -/
def chkB (S : KS α) (k : Ky) : Bool := match S.en k with
  | some e => decide (e.c = S.now)
  | none => false
inductive Sc where
  | look
  | comp
  | push (d : Ky) (j : Nat)
def scan (S : KS α) (c : Nat) : List Ky → Nat → Sc
  | [], _ => .look
  | d :: ds, j => if S.inp d = none ∧ chkB S d = false then .push d j else match S.chg d with
    | some g => if c < g then .comp else scan S c ds (j + 1)
    | none => .look
theorem chkB_rdy {S : KS α} {d : Ky} (h : ¬ (S.inp d = none ∧ chkB S d = false)) : Rdy S d := by
  cases hi : S.inp d with
  | some x => exact .inl ⟨x, hi⟩
  | none =>
    refine .inr ⟨hi, ?_⟩
    have hc : chkB S d = true := by
      cases q : chkB S d with
      | true => rfl
      | false => exact absurd ⟨hi, q⟩ h
    unfold chkB at hc
    cases he : S.en d with
    | none =>
      rw [he] at hc
      cases hc
    | some e =>
      rw [he] at hc
      exact ⟨e, rfl, of_decide_eq_true hc⟩
theorem not_chkB {S : KS α} {d : Ky} (h : chkB S d = false) : Unc S d := fun e he z => by
  unfold chkB at h
  rw [he] at h
  exact absurd z (of_decide_eq_false h)
theorem Unc.chkB {S : KS α} {d : Ky} (h : Unc S d) : chkB S d = false := by
  unfold Sn.chkB
  cases he : S.en d with
  | none => rfl
  | some e => exact decide_eq_false (h e he)
/-- bringing what is there does nothing -/
theorem Run.rdy {L : List Ky} {n z : Nat} {S : KS α} {d : Ky} {o : Ot α} (r : Rdy S d) (h : Run G comp L n z (.br S d) o) : o = .ok S := by
  cases h with
  | b_in a => rfl
  | b_now a b c _ => rfl
  | b_rs a b c g q =>
    rcases r with ⟨x, e⟩ | ⟨_, e, he, hc⟩
    · rw [a] at e
      cases e
    · exact absurd hc (b e he)
theorem Rdy.run {L : List Ky} {n : Nat} {S : KS α} {d : Ky} (r : Rdy S d) (g : G d) : Run G comp L (n + 1) 0 (.br S d) (.ok S) := by
  rcases r with ⟨x, e⟩ | ⟨a, e, he, hc⟩
  · exact .b_in e
  · exact .b_now a he hc g
theorem scan_chg {S : KS α} {c : Nat} {d : Ky} {ds : List Ky} {j g : Nat} (h : ¬ (S.inp d = none ∧ chkB S d = false)) (hg : S.chg d = some g) : scan S c (d :: ds) j = if c < g then .comp else scan S c ds (j + 1) := by
  show (if S.inp d = none ∧ chkB S d = false then Sc.push d j else match S.chg d with
    | some g => if c < g then .comp else scan S c ds (j + 1)
    | none => .look) = _
  rw [if_neg h, hg]
theorem Run.scanA {L : List Ky} {n : Nat} {S : KS α} {k : Ky} {e : En α} {o : Ot α} : ∀ {ds : List Ky} {z j : Nat}, Run G comp L n z (.lk S k e ds) o → scan S e.c ds j = .comp → ∃ z1, z1 + 1 ≤ z ∧ Run G comp L n z1 (.rn S k) o
  | [], z, j, h, q => by cases q
  | d :: ds, z, j, h, q => by
    by_cases c : S.inp d = none ∧ chkB S d = false
    · have z : scan S e.c (d :: ds) j = .push d j := if_pos c
      rw [z] at q
      cases q
    have r := chkB_rdy c
    cases h with
    | l_no a => exact absurd (a.rdy r) (fun z => nomatch z)
    | @l_chg _ _ z1 z2 _ _ _ _ _ S1 g _ a b f q2 =>
      have e1 := a.rdy r
      injection e1 with e1
      subst e1
      exact ⟨z2, by omega, q2⟩
    | @l_go _ _ z1 z2 _ _ _ _ _ S1 g _ a b f q2 =>
      have e1 := a.rdy r
      injection e1 with e1
      subst e1
      rw [scan_chg c b, if_neg (by omega)] at q
      obtain ⟨z3, h1, h2⟩ := scanA q2 q
      exact ⟨z3, by omega, h2⟩
theorem Run.scanC {L : List Ky} {n : Nat} {S : KS α} {k : Ky} {e : En α} {o : Ot α} : ∀ {ds : List Ky} {z j : Nat}, Run G comp L n z (.lk S k e ds) o → scan S e.c ds j = .look → o = .ok (S.look k e)
  | [], z, j, h, q => by
    cases h
    rfl
  | d :: ds, z, j, h, q => by
    by_cases c : S.inp d = none ∧ chkB S d = false
    · have z : scan S e.c (d :: ds) j = .push d j := if_pos c
      rw [z] at q
      cases q
    have r := chkB_rdy c
    cases h with
    | l_no a => exact absurd (a.rdy r) (fun z => nomatch z)
    | @l_chg _ _ z1 z2 _ _ _ _ _ S1 g _ a b f q2 =>
      have e1 := a.rdy r
      injection e1 with e1
      subst e1
      rw [scan_chg c b, if_pos f] at q
      cases q
    | @l_go _ _ z1 z2 _ _ _ _ _ S1 g _ a b f q2 =>
      have e1 := a.rdy r
      injection e1 with e1
      subst e1
      rw [scan_chg c b, if_neg (by omega)] at q
      exact scanC q2 q
theorem Run.scanB {L : List Ky} {n : Nat} {S : KS α} {k : Ky} {e : En α} {o : Ot α} {d : Ky} {j : Nat} : ∀ {ds : List Ky} {z i : Nat}, Run G comp L n z (.lk S k e ds) o → scan S e.c ds i = .push d j → ds = e.d.drop i → ∃ ds' z', z' ≤ z ∧ e.d.drop j = d :: ds' ∧ Run G comp L n z' (.lk S k e (d :: ds')) o ∧ S.inp d = none ∧ chkB S d = false
  | [], z, i, h, q, _ => by cases q
  | d0 :: ds, z, i, h, q, hd => by
    by_cases c : S.inp d0 = none ∧ chkB S d0 = false
    · have z : scan S e.c (d0 :: ds) i = .push d0 i := if_pos c
      rw [z] at q
      injection q with q1 q2
      subst q1 q2
      exact ⟨ds, _, Nat.le_refl _, hd.symm, h, c⟩
    have r := chkB_rdy c
    cases h with
    | l_no a => exact absurd (a.rdy r) (fun z => nomatch z)
    | @l_chg _ _ z1 z2 _ _ _ _ _ S1 g _ a b f q2 =>
      have e1 := a.rdy r
      injection e1 with e1
      subst e1
      rw [scan_chg c b, if_pos f] at q
      cases q
    | @l_go _ _ z1 z2 _ _ _ _ _ S1 g _ a b f q2 =>
      have e1 := a.rdy r
      injection e1 with e1
      subst e1
      rw [scan_chg c b, if_neg (by omega)] at q
      obtain ⟨ds', z', h1, h2⟩ := scanB q2 q (by rw [← List.tail_drop, ← hd]; rfl)
      exact ⟨ds', z', by omega, h2⟩
/-! ### the path -/
/-- what is left to be done for a path, its top first -/
def Unw (G : Ky → Prop) (comp : Ky → Tr α) (L : List Ky) (n : Nat) : List (Ky × Nat) → Nat → KS α → Ot α → Prop
  | [], _, S, o => o = .ok S
  | (k, i) :: r, z, S, o => ∃ z1 o1, Run G comp (k :: (r.map (·.1) ++ L)) n z1 (.rs S k i) o1 ∧
    ((∃ S1 z2, o1 = .ok S1 ∧ z1 + z2 + 1 ≤ z ∧ Unw G comp L n r z2 S1 o) ∨ ∃ S1, o1 = .no S1 ∧ z1 + 1 ≤ z ∧ o = .no S1)
theorem turnA {L : List Ky} {n z i : Nat} {S : KS α} {k : Ky} {r : List (Ky × Nat)} {o : Ot α} (h : Unw G comp L n ((k, i) :: r) z S o) (u : Unc S k) (q : S.en k = none ∨ ∃ e, S.en k = some e ∧ scan S e.c (e.d.drop i) i = .comp) :
    ∃ z1 o1, Run G comp (k :: (r.map (·.1) ++ L)) n z1 (.rn S k) o1 ∧ ((∃ S1 z2, o1 = .ok S1 ∧ z1 + z2 + 2 ≤ z ∧ Unw G comp L n r z2 S1 o) ∨ ∃ S1, o1 = .no S1 ∧ z1 + 2 ≤ z ∧ o = .no S1) := by
  obtain ⟨z1, o1, h1, h2⟩ := h
  have key : ∃ z3, z3 + 1 ≤ z1 ∧ Run G comp (k :: (r.map (·.1) ++ L)) n z3 (.rn S k) o1 := by
    cases h1 with
    | r_now a b => exact absurd b (u _ a)
    | r_none a b => exact ⟨_, Nat.le_refl _, b⟩
    | r_old a b c =>
      rcases q with q | ⟨e, q1, q2⟩
      · rw [q] at a
        cases a
      rw [q1] at a
      cases a
      obtain ⟨z3, y, w⟩ := c.scanA q2
      exact ⟨z3, by omega, w⟩
  obtain ⟨z3, y, w⟩ := key
  refine ⟨z3, o1, w, ?_⟩
  rcases h2 with ⟨S1, z2, a, b, c⟩ | ⟨S1, a, b, c⟩
  · exact .inl ⟨S1, z2, a, by omega, c⟩
  · exact .inr ⟨S1, a, by omega, c⟩
theorem turnC {L : List Ky} {n z i : Nat} {S : KS α} {k : Ky} {r : List (Ky × Nat)} {o : Ot α} (h : Unw G comp L n ((k, i) :: r) z S o) (u : Unc S k) {e : En α} (q1 : S.en k = some e) (q2 : scan S e.c (e.d.drop i) i = .look) : ∃ z2, z2 + 2 ≤ z ∧ Unw G comp L n r z2 (S.look k e) o := by
  obtain ⟨z1, o1, h1, h2⟩ := h
  cases h1 with
  | r_now a b => exact absurd b (u _ a)
  | r_none a b =>
    rw [q1] at a
    cases a
  | r_old a b c =>
    rw [q1] at a
    cases a
    have e1 := c.scanC q2
    subst e1
    rcases h2 with ⟨S1, z2, a, b, c⟩ | ⟨S1, a, b, c⟩
    · injection a with a
      subst a
      exact ⟨z2, by omega, c⟩
    · cases a
theorem turnD {L : List Ky} {n z i : Nat} {S : KS α} {k : Ky} {r : List (Ky × Nat)} {o : Ot α} (h : Unw G comp L n ((k, i) :: r) z S o) {e : En α} (q1 : S.en k = some e) (q2 : e.c = S.now) : ∃ z2, z2 + 1 ≤ z ∧ Unw G comp L n r z2 S o := by
  obtain ⟨z1, o1, h1, h2⟩ := h
  cases h1 with
  | r_now a b =>
    rcases h2 with ⟨S1, z2, a, b, c⟩ | ⟨S1, a, b, c⟩
    · injection a with a
      subst a
      exact ⟨z2, by omega, c⟩
    · cases a
  | r_none a b =>
    rw [q1] at a
    cases a
  | r_old a b c =>
    rw [q1] at a
    cases a
    exact absurd q2 b
theorem Unw.one {L : List Ky} {n z : Nat} {S : KS α} {k : Ky} {o : Ot α} (h : Run G comp (k :: L) n z (.rs S k 0) o) (hv : ∀ S' v as, o ≠ .val S' v as) : Unw G comp L n [(k, 0)] (z + 1) S o := by
  refine ⟨z, o, h, ?_⟩
  cases o with
  | ok S1 => exact .inl ⟨S1, 0, rfl, Nat.le_refl _, rfl⟩
  | no S1 => exact .inr ⟨S1, rfl, Nat.le_refl _, rfl⟩
  | val S' v as => exact absurd rfl (hv S' v as)
theorem unwB {L : List Ky} {n z z0 zb zo j : Nat} {S S1 : KS α} {k d : Ky} {r : List (Ky × Nat)} {o o1 : Ot α} (a : Run G comp (d :: k :: (r.map (·.1) ++ L)) n z0 (.rs S d 0) (.ok S1)) (b : Run G comp (k :: (r.map (·.1) ++ L)) n zb (.rs S1 k j) o1)
    (h : (∃ S2 z2, o1 = .ok S2 ∧ zo + z2 + 1 ≤ z ∧ Unw G comp L n r z2 S2 o) ∨ ∃ S2, o1 = .no S2 ∧ zo + 1 ≤ z ∧ o = .no S2) (hz : z0 + zb + 2 ≤ zo) : ∃ z2, z2 + 1 ≤ z ∧ Unw G comp L n ((d, 0) :: (k, j) :: r) z2 S o := by
  rcases h with ⟨S2, z2, h1, h2, h3⟩ | ⟨S2, h1, h2, h3⟩
  · exact ⟨z0 + (zb + z2 + 1) + 1, by omega, z0, _, a, .inl ⟨S1, zb + z2 + 1, rfl, Nat.le_refl _, zb, o1, b, .inl ⟨S2, z2, h1, Nat.le_refl _, h3⟩⟩⟩
  · exact ⟨z0 + (zb + 1) + 1, by omega, z0, _, a, .inl ⟨S1, zb + 1, rfl, Nat.le_refl _, zb, o1, b, .inr ⟨S2, h1, Nat.le_refl _, h3⟩⟩⟩
theorem turnB {L : List Ky} {n z i j : Nat} {S : KS α} {k d : Ky} {r : List (Ky × Nat)} {o : Ot α} (h : Unw G comp L n ((k, i) :: r) z S o) (u : Unc S k) {e : En α} (q1 : S.en k = some e) (q2 : scan S e.c (e.d.drop i) i = .push d j) :
    (∃ z2, z2 + 1 ≤ z ∧ Unw G comp L n ((d, 0) :: (k, j) :: r) z2 S o) ∧ d ∉ k :: (r.map (·.1) ++ L) ∧ G d ∧ S.inp d = none ∧ Unc S d := by
  obtain ⟨z1, o1, h1, h2⟩ := h
  cases h1 with
  | r_now a b => exact absurd b (u _ a)
  | r_none a b =>
    rw [q1] at a
    cases a
  | r_old a b c =>
    rw [q1] at a
    cases a
    obtain ⟨ds', z', hz, hd, h3, hi, hc⟩ := c.scanB q2 rfl
    have nr : ¬ Rdy S d := fun z => by
      rcases z with ⟨x, y⟩ | ⟨_, e2, y1, y2⟩
      · rw [hi] at y
        cases y
      · exact not_chkB hc e2 y1 y2
    cases h3 with
    | @l_no _ _ z _ _ _ _ _ S1 a =>
      cases a with
      | b_rs a1 a2 a3 a4 a5 =>
        refine ⟨⟨_, ?_, _, _, a5, .inr ⟨_, rfl, Nat.le_refl _, ?_⟩⟩, a3, a4, hi, not_chkB hc⟩
        · rcases h2 with ⟨S1, z2, a, b, c⟩ | ⟨S1, a, b, c⟩
          · cases a
          · omega
        · rcases h2 with ⟨S1, z2, a, b, c⟩ | ⟨S1, a, b, c⟩
          · cases a
          · injection a with a
            subst a
            exact c
    | @l_chg _ _ z1 z2 _ _ _ _ _ S1 g _ a b f q3 =>
      cases a with
      | b_in y =>
        rw [hi] at y
        cases y
      | b_now _ y1 y2 _ => exact absurd y2 (not_chkB hc _ y1)
      | b_rs a1 a2 a3 a4 a5 =>
        obtain ⟨l, rd, _⟩ := a5.post List.mem_cons_self a2
        have ek : S1.en k = some e := (l.en k ⟨List.mem_cons_of_mem _ List.mem_cons_self, fun z => a3 (z ▸ List.mem_cons_self)⟩).trans q1
        have en : S1.now = S.now := l.now
        have rd1 : Rdy S1 d := .inr ⟨by rw [show S1.inp = S.inp from l.inp]; exact hi, rd S1 rfl⟩
        have back := Run.r_old (G := G) (comp := comp) (i := j) ek (by rw [en]; assumption) (by rw [hd]; exact Run.l_chg (rd1.run (G := G) (comp := comp) a4) b f q3)
        exact ⟨unwB a5 back h2 (by omega), a3, a4, hi, not_chkB hc⟩
    | @l_go _ _ z1 z2 _ _ _ _ _ S1 g _ a b f q3 =>
      cases a with
      | b_in y =>
        rw [hi] at y
        cases y
      | b_now _ y1 y2 _ => exact absurd y2 (not_chkB hc _ y1)
      | b_rs a1 a2 a3 a4 a5 =>
        obtain ⟨l, rd, _⟩ := a5.post List.mem_cons_self a2
        have ek : S1.en k = some e := (l.en k ⟨List.mem_cons_of_mem _ List.mem_cons_self, fun z => a3 (z ▸ List.mem_cons_self)⟩).trans q1
        have en : S1.now = S.now := l.now
        have rd1 : Rdy S1 d := .inr ⟨by rw [show S1.inp = S.inp from l.inp]; exact hi, rd S1 rfl⟩
        have back := Run.r_old (G := G) (comp := comp) (i := j) ek (by rw [en]; assumption) (by rw [hd]; exact Run.l_go (rd1.run (G := G) (comp := comp) a4) b f q3)
        exact ⟨unwB a5 back h2 (by omega), a3, a4, hi, not_chkB hc⟩
end
end Sn

/-! Mathematics of texts: counting a sign, the last one, lines, cuts. -/
namespace Sn
open PySem PySem.Spec PyProof.Rows L2 PySem.StrLaws PySem.Builtin.Str TL
abbrev strL (l : List Nat) : Str := ⟨l.toArray⟩
/-! ### cuts -/
theorem tl_cut (z : Str) (lo hi : Option Int) : tl (cutS z lo hi) = ((tl z).drop (HT.sIx z.length 0 lo)).take (HT.sIx z.length z.length hi - HT.sIx z.length 0 lo) := rfl
theorem tl_cut_to (z : Str) (o : Nat) : tl (cutS z none (some (o : Int))) = (tl z).take o := by
  rw [tl_cut, HT.sIx_none, HT.sIx_nat, List.drop_zero, Nat.sub_zero, len_tl, List.take_eq_take_iff]
  omega
theorem tl_cut_from (z : Str) (o : Nat) : tl (cutS z (some (o : Int)) none) = (tl z).drop o := by
  rw [tl_cut, HT.sIx_none, HT.sIx_nat, len_tl]
  by_cases h : o ≤ (tl z).length
  · rw [Nat.min_eq_left h, List.take_of_length_le (by rw [List.length_drop] <;> omega)]
  · rw [Nat.min_eq_right (by omega), Nat.sub_self, List.take_zero, List.drop_eq_nil_of_le (by omega)]
theorem tl_cut_mid (z : Str) (a b : Nat) (h : a ≤ (tl z).length) : tl (cutS z (some (a : Int)) (some (b : Int))) = ((tl z).drop a).take (b - a) := by
  rw [tl_cut, HT.sIx_nat, HT.sIx_nat, len_tl, Nat.min_eq_left h, List.take_eq_take_iff, List.length_drop]
  omega
theorem len_eq (z : Str) : z.length = (tl z).length := len_tl z
/-! ### counting one sign -/
theorem drop_take_cons {l : List Nat} {a hi : Nat} (h : a < hi) (hl : hi ≤ l.length) : ∃ (h2 : a < l.length), (l.take hi).drop a = l[a] :: (l.take hi).drop (a + 1) := by
  have h2 : a < (l.take hi).length := by rw [List.length_take]; omega
  refine ⟨by omega, ?_⟩
  rw [List.drop_eq_getElem_cons h2, List.getElem_take]
theorem drop_take_nil {l : List Nat} {a hi : Nat} (h : hi ≤ a) : (l.take hi).drop a = [] := List.drop_eq_nil_of_le (by rw [List.length_take]; omega)
theorem occ_cnt (x : Str) (c hi limit : Nat) (hhi : hi ≤ (tl x).length) : ∀ (m a : Nat) (st : Array Nat × Nat), st.2 ≤ a → st.1.size + m ≤ limit → a + m = hi + 1 →
    (forIn (List.range' a m) st (occBody x ⟨#[c]⟩ hi limit)).run.fst.size = st.1.size + (((tl x).take hi).drop a).count c
  | 0, a, st, _, _, e => by
    rw [drop_take_nil (by omega)]
    rfl
  | m + 1, a, st, hf, hl, e => by
    have one : ∀ i, (i + (⟨#[c]⟩ : Str).length ≤ hi ∧ subAt x ⟨#[c]⟩ i = true) ↔ i < hi ∧ (tl x)[i]? = some c := fun i => by
      have k := subAt_one x c i
      have hx : x.length = (tl x).length := len_tl x
      have h1 : (⟨#[c]⟩ : Str).length = 1 := rfl
      constructor
      · intro h
        have z := k.mp ⟨by omega, h.2⟩
        exact ⟨by omega, z⟩
      · intro h
        have z := k.mpr h.2
        exact ⟨by omega, z.2⟩
    rw [List.range'_succ, List.forIn_cons]
    unfold occBody
    by_cases ha : a < hi
    · obtain ⟨h2, e2⟩ := drop_take_cons ha hhi
      rw [e2, List.count_cons]
      by_cases hc : (tl x)[a] = c
      · have k := (one a).mpr ⟨ha, by rw [List.getElem?_eq_getElem h2, hc]⟩
        rw [if_pos ⟨⟨⟨by omega, hf⟩, k.1⟩, k.2⟩]
        have ih := occ_cnt x c hi limit hhi m (a + 1) (st.1.push a, a + (⟨#[c]⟩ : Str).length) (Nat.le_refl _) (by show (st.1.push a).size + m ≤ limit; rw [Array.size_push]; omega) (by omega)
        have e3 : (st.1.push a).size = st.1.size + 1 := Array.size_push ..
        show (forIn (List.range' (a + 1) m) (st.1.push a, a + (⟨#[c]⟩ : Str).length) (occBody x ⟨#[c]⟩ hi limit)).run.fst.size = _
        rw [ih, e3, hc]
        simp
        omega
      · have k : ¬ ((((st.1.size < limit ∧ st.2 ≤ a) ∧ a + (⟨#[c]⟩ : Str).length ≤ hi) ∧ subAt x ⟨#[c]⟩ a = true)) := fun h => by
          have z := (one a).mp ⟨h.1.2, h.2⟩
          rw [List.getElem?_eq_getElem h2] at z
          exact hc (Option.some.inj z.2)
        rw [if_neg k]
        have ih := occ_cnt x c hi limit hhi m (a + 1) (st.1, st.2) (by show st.2 ≤ a + 1; omega) (by show st.1.size + m ≤ limit; omega) (by omega)
        show (forIn (List.range' (a + 1) m) (st.1, st.2) (occBody x ⟨#[c]⟩ hi limit)).run.fst.size = _
        rw [ih]
        have e4 : ((tl x)[a] == c) = false := beq_eq_false_iff_ne.mpr hc
        rw [e4, if_neg Bool.false_ne_true]
        rfl
    · have k : ¬ ((((st.1.size < limit ∧ st.2 ≤ a) ∧ a + (⟨#[c]⟩ : Str).length ≤ hi) ∧ subAt x ⟨#[c]⟩ a = true)) := fun h => by
        have z := (one a).mp ⟨h.1.2, h.2⟩
        omega
      rw [if_neg k]
      have em : m = 0 := by omega
      subst em
      rw [drop_take_nil (by omega)]
      rfl
theorem occ_count (x : Str) (c hi : Nat) (hhi : hi ≤ (tl x).length) : (occurrences x ⟨#[c]⟩ 0 hi (x.length + 1)).length = ((tl x).take hi).count c := by
  rw [occ_eq, Array.length_toList]
  have k := occ_cnt x c hi (x.length + 1) hhi (hi + 1 - 0) 0 (#[], 0) (Nat.le_refl _) (by show 0 + (hi + 1 - 0) ≤ x.length + 1; rw [len_tl]; omega) (by omega)
  rw [k, List.drop_zero]
  show 0 + _ = _
  omega
theorem count_all (x : Str) (c : Nat) : Txt.count x ⟨#[c]⟩ = (((tl x).count c : Nat) : Int) := by
  show (((occurrences x ⟨#[c]⟩ 0 x.length (x.length + 1)).length : Nat) : Int) = _
  rw [occ_count x c x.length (by rw [len_tl]; exact Nat.le_refl _), len_tl, List.take_length]
theorem toW (n o : Nat) (h : o ≤ n) : toIndexW n (o : Int) = o := by
  unfold toIndexW
  rw [if_neg (by omega)]
  omega
theorem fromI (n o : Nat) : fromIndex n (o : Int) = o := by
  unfold fromIndex
  rw [if_neg (by omega)]
  omega
theorem count_in (x : Str) (c o : Nat) (h : o ≤ (tl x).length) : Txt.countIn x ⟨#[c]⟩ 0 (o : Int) = ((((tl x).take o).count c : Nat) : Int) := by
  unfold Txt.countIn
  rw [toW _ _ (by rw [len_tl]; exact h), show fromIndex x.length 0 = 0 from fromI x.length 0, occ_count x c o h]
/-! ### the last newline -/
/-- how many signs stand behind the last c, k of them ahead -/
def colF (c k : Nat) : List Nat → Nat
  | [] => k
  | d :: r => if d = c then colF c 0 r else colF c (k + 1) r
theorem colF_snoc (c d : Nat) : ∀ (l : List Nat) (k : Nat), colF c k (l ++ [d]) = if d = c then 0 else colF c k l + 1
  | [], k => by
    show (if d = c then colF c 0 [] else colF c (k + 1) []) = _
    rfl
  | e :: r, k => by
    show (if e = c then colF c 0 (r ++ [d]) else colF c (k + 1) (r ++ [d])) = _
    rw [colF_snoc c d r 0, colF_snoc c d r (k + 1)]
    by_cases h : e = c
    · rw [if_pos h]
      show _ = if d = c then 0 else (if e = c then colF c 0 r else colF c (k + 1) r) + 1
      rw [if_pos h]
    · rw [if_neg h]
      show _ = if d = c then 0 else (if e = c then colF c 0 r else colF c (k + 1) r) + 1
      rw [if_neg h]
theorem colF_le (c : Nat) : ∀ (l : List Nat) (k : Nat), colF c k l ≤ k + l.length
  | [], k => Nat.le_refl _
  | e :: r, k => by
    show (if e = c then colF c 0 r else colF c (k + 1) r) ≤ k + (r.length + 1)
    have h0 := colF_le c r 0
    have h1 := colF_le c r (k + 1)
    split <;> omega
def valO : Option Nat → Nat
  | none => 0
  | some k => k + 1
theorem last_col (x : Str) (c hi : Nat) (hhi : hi ≤ (tl x).length) : ∀ (m a : Nat) (st : Option Nat), valO st ≤ a → a + m = hi + 1 → a ≤ hi →
    valO (forIn (List.range' a m) st (lastBody x ⟨#[c]⟩ hi)).run ≤ hi ∧ hi - valO (forIn (List.range' a m) st (lastBody x ⟨#[c]⟩ hi)).run = colF c (a - valO st) (((tl x).take hi).drop a)
  | 0, a, st, _, e, _ => by omega
  | m + 1, a, st, hf, e, hah => by
    have one : ∀ i, (i + (⟨#[c]⟩ : Str).length ≤ hi ∧ subAt x ⟨#[c]⟩ i = true) ↔ i < hi ∧ (tl x)[i]? = some c := fun i => by
      have k := subAt_one x c i
      have hx : x.length = (tl x).length := len_tl x
      have h1 : (⟨#[c]⟩ : Str).length = 1 := rfl
      constructor
      · intro h
        have z := k.mp ⟨by omega, h.2⟩
        exact ⟨by omega, z⟩
      · intro h
        have z := k.mpr h.2
        exact ⟨by omega, z.2⟩
    rw [List.range'_succ, List.forIn_cons]
    unfold lastBody
    by_cases ha : a < hi
    · obtain ⟨h2, e2⟩ := drop_take_cons ha hhi
      rw [e2]
      by_cases hc : (tl x)[a] = c
      · have k := (one a).mpr ⟨ha, by rw [List.getElem?_eq_getElem h2, hc]⟩
        rw [if_pos k]
        have ih := last_col x c hi hhi m (a + 1) (some a) (Nat.le_refl _) (by omega) (by omega)
        show valO (forIn (List.range' (a + 1) m) (some a) (lastBody x ⟨#[c]⟩ hi)).run ≤ hi ∧ hi - valO (forIn (List.range' (a + 1) m) (some a) (lastBody x ⟨#[c]⟩ hi)).run = if (tl x)[a] = c then _ else _
        rw [if_pos hc]
        have e5 : a + 1 - valO (some a) = 0 := by
          show a + 1 - (a + 1) = 0
          omega
        rw [e5] at ih
        exact ih
      · have k : ¬ (a + (⟨#[c]⟩ : Str).length ≤ hi ∧ subAt x ⟨#[c]⟩ a = true) := fun h => by
          have z := (one a).mp h
          rw [List.getElem?_eq_getElem h2] at z
          exact hc (Option.some.inj z.2)
        rw [if_neg k]
        have ih := last_col x c hi hhi m (a + 1) st (by omega) (by omega) (by omega)
        show valO (forIn (List.range' (a + 1) m) st (lastBody x ⟨#[c]⟩ hi)).run ≤ hi ∧ hi - valO (forIn (List.range' (a + 1) m) st (lastBody x ⟨#[c]⟩ hi)).run = if (tl x)[a] = c then _ else _
        rw [if_neg hc]
        have e5 : a + 1 - valO st = a - valO st + 1 := by omega
        rw [e5] at ih
        exact ih
    · have k : ¬ (a + (⟨#[c]⟩ : Str).length ≤ hi ∧ subAt x ⟨#[c]⟩ a = true) := fun h => by
        have z := (one a).mp h
        omega
      rw [if_neg k]
      have em : m = 0 := by omega
      subst em
      rw [drop_take_nil (by omega)]
      show valO st ≤ hi ∧ hi - valO st = a - valO st
      omega
/-- x.rfind(c, 0, o) + 1 is where the last line of x[:o] begins -/
theorem rfind_col (x : Str) (c o : Nat) (h : o ≤ (tl x).length) : ∃ b : Nat, Txt.rfindIn x ⟨#[c]⟩ 0 (o : Int) + 1 = (b : Int) ∧ b ≤ o ∧ o - b = colF c 0 ((tl x).take o) := by
  unfold Txt.rfindIn
  rw [toW _ _ (by rw [len_tl]; exact h), show fromIndex x.length 0 = 0 from fromI x.length 0, last_eq]
  have k := last_col x c o h (o + 1 - 0) 0 none (Nat.le_refl _) (by omega) (Nat.zero_le _)
  rw [List.drop_zero] at k
  refine ⟨_, ?_, k.1, k.2⟩
  cases (forIn (List.range' 0 (o + 1 - 0)) none (lastBody x ⟨#[c]⟩ o)).run with
  | none => rfl
  | some j => rfl
/-! ### lines -/
def rows (c : Nat) : List Nat → List Nat → List (List Nat)
  | acc, [] => [acc]
  | acc, d :: r => if d = c then acc :: rows c [] r else rows c (acc ++ [d]) r
theorem spl_rows (c : Nat) : ∀ (l acc : List Nat), spl [c] 0 acc l = rows c acc l
  | [], acc => by rw [spl_nil]; rfl
  | d :: r, acc => by
    by_cases h : d = c
    · have p : TL.pre [c] (d :: r) = true := by rw [h]; simp [TL.pre]
      rw [spl_hit p]
      show acc :: spl [c] 0 [] r = if d = c then _ else _
      rw [if_pos h, spl_rows c r []]
    · have p : TL.pre [c] (d :: r) = false := pre_of_head [] r h
      rw [spl_miss p, spl_rows c r (acc ++ [d])]
      show _ = if d = c then _ else _
      rw [if_neg h]
theorem split_rows (x : Str) (c : Nat) (hc : c < 256) : (Txt.split x ⟨#[c]⟩).map tl = rows c [] (tl x) := by
  rw [split_spl x ⟨#[c]⟩ (by show [c] ≠ []; simp) (kind_ok (by simp [hc]))]
  exact spl_rows c (tl x) []
theorem rows_len (c : Nat) : ∀ (l acc : List Nat), (rows c acc l).length = l.count c + 1
  | [], acc => rfl
  | d :: r, acc => by
    show (if d = c then acc :: rows c [] r else rows c (acc ++ [d]) r).length = _
    rw [List.count_cons]
    by_cases h : d = c
    · rw [if_pos h, List.length_cons, rows_len c r []]
      simp [h]
    · have h' : (d == c) = false := by simpa using h
      rw [if_neg h, rows_len c r]
      simp [h']
/-- the lengths of lines with their newlines -/
def lens (rs : List (List Nat)) : Nat := (rs.map fun r => r.length + 1).sum
theorem rows_at (c : Nat) : ∀ (l acc : List Nat) (o : Nat), o ≤ l.length → ∃ row, (rows c acc l)[(l.take o).count c]? = some row ∧ colF c acc.length (l.take o) ≤ row.length ∧
    lens ((rows c acc l).take ((l.take o).count c)) + colF c acc.length (l.take o) = acc.length + o
  | l, acc, 0, _ => by
    rw [List.take_zero]
    show ∃ row, (rows c acc l)[0]? = some row ∧ acc.length ≤ row.length ∧ lens ((rows c acc l).take 0) + acc.length = acc.length + 0
    have : ∀ (l acc : List Nat), ∃ row, (rows c acc l)[0]? = some row ∧ acc.length ≤ row.length := by
      intro l
      induction l with
      | nil => exact fun acc => ⟨acc, rfl, Nat.le_refl _⟩
      | cons d r ih =>
        intro acc
        show ∃ row, (if d = c then acc :: rows c [] r else rows c (acc ++ [d]) r)[0]? = some row ∧ _
        by_cases h : d = c
        · rw [if_pos h]
          exact ⟨acc, rfl, Nat.le_refl _⟩
        · rw [if_neg h]
          obtain ⟨row, h1, h2⟩ := ih (acc ++ [d])
          rw [List.length_append] at h2
          exact ⟨row, h1, by omega⟩
    obtain ⟨row, h1, h2⟩ := this l acc
    refine ⟨row, h1, h2, ?_⟩
    rw [List.take_zero]
    show 0 + acc.length = acc.length + 0
    omega
  | [], acc, o + 1, h => absurd h (by simp)
  | d :: r, acc, o + 1, h => by
    have ho : o ≤ r.length := by simpa using h
    rw [List.take_succ_cons, List.count_cons]
    by_cases e : d = c
    · subst e
      have ih := rows_at d r [] o ho
      obtain ⟨row, h1, h2, h3⟩ := ih
      have er : rows d acc (d :: r) = acc :: rows d [] r := by
        show (if d = d then _ else _) = _
        rw [if_pos rfl]
      have ec : colF d acc.length (d :: r.take o) = colF d 0 (r.take o) := by
        show (if d = d then _ else _) = _
        rw [if_pos rfl]
      rw [er, ec]
      simp only [beq_self_eq_true, if_true]
      refine ⟨row, by rw [List.getElem?_cons_succ]; exact h1, h2, ?_⟩
      rw [List.take_succ_cons]
      show (acc.length + 1) + lens _ + _ = _
      simp only [List.length_nil] at h3
      unfold lens at h3 ⊢
      omega
    · have er : rows c acc (d :: r) = rows c (acc ++ [d]) r := by
        show (if d = c then _ else _) = _
        rw [if_neg e]
      have ec : colF c acc.length (d :: r.take o) = colF c (acc.length + 1) (r.take o) := by
        show (if d = c then _ else _) = _
        rw [if_neg e]
      have eb : (d == c) = false := by simpa using e
      have ih := rows_at c r (acc ++ [d]) o ho
      rw [er, ec]
      simp only [eb, Bool.false_eq_true, if_false, Nat.add_zero]
      obtain ⟨row, h1, h2, h3⟩ := ih
      rw [List.length_append, List.length_singleton] at h2 h3
      exact ⟨row, h1, h2, by omega⟩
theorem join_lens (y : List Nat) (hy : y.length = 1) : ∀ rs : List (List Nat), rs ≠ [] → (joinL y rs).length + 1 = lens rs
  | [], h => absurd rfl h
  | [p], _ => by
    show p.length + 1 = (p.length + 1) + 0
    omega
  | p :: q :: r, _ => by
    show (p ++ (y ++ joinL y (q :: r))).length + 1 = (p.length + 1) + lens (q :: r)
    have ih := join_lens y hy (q :: r) (by simp)
    rw [List.length_append, List.length_append]
    omega
end Sn

/-! My own rules: three comparisons in a row, a text times a number, calls that may raise, isinstance in an except suite. -/
namespace Sn
open PySem PySem.Spec PyProof.Rows L2 TL
section
variable {X : Cx} {a b c d : Expr} {ta tb tc td : TE} {pos : Pos}
/-- a op1 b op2 c op3 d -/
def tChain3 (r r' r'' : R2) (ta tb tc td : TE) : TE := fun σ H Q => ta σ H fun x H1 => tb σ H1 fun y H2 => r x y H2 fun z H3 => ∃ k, z = .bl k ∧
  (if k = true then tc σ H3 fun w H4 => r' y w H4 fun z' H5 => ∃ k', z' = .bl k' ∧ (if k' = true then td σ H5 fun v H6 => r'' w v H6 Q else Q (.bl false) H5) else Q (.bl false) H3)
theorem pt_chain3 {op op' op'' : CmpOp} {r r' r'' : R2} (ho : OpR X (compareOp op) r) (ho' : OpR X (compareOp op') r') (ho'' : OpR X (compareOp op'') r'') (ha : PE X a ta) (hb : PE X b tb) (hc : PE X c tc) (hd : PE X d td)
    (hm : lastMarks [op, op', op''] [b, c, d] = false := by with_unfolding_all rfl) : PT X (.Compare a [op, op', op''] [b, c, d] pos) (tTest (tChain3 r r' r'' ta tb tc td)) := by
  refine ⟨fun pins s σ H Q I h => ?_⟩
  refine isTrue_chain (thn (ha.run pins s σ H _ I h) fun v s1 ⟨x, H1, I1, r1, q1⟩ => test_link (thn (hb.run pins s1 σ H1 _ I1 q1) fun u s2 ⟨y, H2, I2, r2, q2⟩ =>
    thn (ho pins s2 σ H2 x y v u _ I2 r1 r2 q2) fun e s3 ⟨z, H3, I3, r3, k, ez, q3⟩ => ?_)) hm
  subst ez
  cases r3
  refine wpAny_truthy_bool ?_
  cases k with
  | false =>
    obtain ⟨k', e', q'⟩ := q3
    cases e'
    exact ite_ff ⟨H3, I3, q'⟩
  | true =>
    refine ite_tt (test_link (thn (hc.run pins s3 σ H3 _ I3 q3) fun w' s4 ⟨z', H4, I4, r4, q4⟩ => thn (ho' pins s4 σ H4 y z' u w' _ I4 r2 r4 q4) fun d' s5 ⟨z2, H5, I5, r5, k2, e2, q5⟩ => ?_))
    subst e2
    cases r5
    refine wpAny_truthy_bool ?_
    cases k2 with
    | false =>
      obtain ⟨k', e', q'⟩ := q5
      cases e'
      exact ite_ff ⟨H5, I5, q'⟩
    | true =>
      refine ite_tt (test_last (thn (hd.run pins s5 σ H5 _ I5 q5) fun w2 s6 ⟨z6, H6, I6, r6, q6⟩ => thn (ho'' pins s6 σ H6 z' z6 w' w2 _ I6 r4 r6 q6) fun d' s7 ⟨z7, H7, I7, r7, k7, e7, q7⟩ => ?_))
      subst e7
      cases r7
      exact wpAny_truthy_bool ⟨H7, I7, q7⟩
/-- a text times a number -/
theorem op_mul_str : OpR X (binaryOp .Mult) (fun x y H Q => ∃ (z : Str) (n : Int), x = .str z ∧ y = .int n ∧ MulOk z n ∧ Q (.str (Txt.mul z n)) H) := by
  intro pins s σ H x y v u Q I rx ry h
  obtain ⟨z, n, rfl, rfl, hm, q⟩ := h
  obtain ⟨t, rfl⟩ := rx
  obtain ⟨t', rfl⟩ := ry
  exact SB.mul hm fun t' k => ⟨.str (Txt.mul z n), H, I.tok _, ⟨_, rfl⟩, q⟩
end
section
variable {X : Cx} {k j : Nat} {x : Str} {sp : Sp} {p pos : Pos} {e : Expr} {es : List Expr} {t : TA} {W : WX}
/-- a call within a try, what it lets out is the clause's -/
theorem pe_cS (c : Cal X.prog X.w X.K X.mg X.base (L2.CX X.prog X.w) k x sp) (hr : Room j X.A) (hk : k ≤ j) (tk : Takes X W) (ha : PA X (e :: es) t) (hg : Gl X x := by rfl)
    (hdb : (x == ("__debug__" : Str)) = false := by decide) (he : starEach (e :: es) X.env = (false, eval e X.env) :: starEach es X.env := by rfl) (hpl : (backTo pos (starEach es X.env)).any (·.1) = false := by rfl) :
    PE X (.Call (.Name x p) (e :: es) [] pos) (tCallS sp (WE W) t) := by
  obtain ⟨f, fd, ps, F, hm, kp, b⟩ := c.ex
  exact pe_callS F (hr.mono hk) hg hm kp b (fun σ => passAt tk σ) ha hdb he hpl
/-- isinstance(e, c), e what the suite holds; that it is of the class D is the reading's to say -/
theorem call_isX {D a : Addr} {oe : Obj} {cls : Value} {d : Option Addr} {pn : List (Addr × Obj)} (C : ExcC X.K D) (hz : Zc cls d oe) (hf : ∃ vs, oe.data = .fields vs) :
    CallR (X.suite a ((a, oe) :: pn)) (.builtin "isinstance") (fun xs H Q => cls = .ref D ∧ d = none ∧ rIsE X.K D a xs H Q) := by
  intro pins s σ H xs us Q I r h
  obtain ⟨rfl, rfl, h⟩ := h
  exact call_isE C hz hf pins s σ H xs us Q I r h
end

/-! ### edits -/
/-- the mirror of a joint edit: what stands from done on -/
def jgo (z : List Nat) : Nat → List (Int × Int × List Nat) → Option (List Nat)
  | done, [] => some (z.drop done)
  | done, (s, e, n) :: r => if (done : Int) ≤ s ∧ s ≤ e ∧ e ≤ (z.length : Int) ∧ n.all okc = true then (jgo z e.toNat r).map fun t => (z.drop done).take (s.toNat - done) ++ (n ++ t) else none
def joint (z : List Nat) (eds : List (Int × Int × List Nat)) : Option (List Nat) := match jgo z 0 eds with
  | some r => if r.length ≤ 4000 then some r else none
  | none => none
/-- a list of edits stands at le -/
def EdAt (H : Hp) (le : Addr) (eds : List (Int × Int × Str)) : Prop := ∃ rs : List Addr, H le = some (.lst (rs.map V.ref)) ∧ rs.length = eds.length ∧ ∀ (i : Nat) (r : Addr) (s e : Int) (n : Str), rs[i]? = some r → eds[i]? = some (s, e, n) → H r = some (.tup [.int s, .int e, .str n])
def edl (eds : List (Int × Int × Str)) : List (Int × Int × List Nat) := eds.map fun x => (x.1, x.2.1, tl x.2.2)
/-- the lengths of all new texts -/
def news (eds : List (Int × Int × Str)) : Nat := (eds.map fun x => x.2.2.length).sum
theorem EdAt.same {H H' : Hp} {le : Addr} {eds : List (Int × Int × Str)} (s : Same H H') : EdAt H le eds → EdAt H' le eds := fun ⟨rs, h1, h2, h3⟩ => ⟨rs, s _ _ h1, h2, fun i r a b n p q => s _ _ (h3 i r a b n p q)⟩
def spMay : Sp := fun vs H Q _ => ∃ z : Str, vs = [.str z] ∧ Q (.bl ((tl z).all okc)) H
def spIsText : Sp := fun vs H Q _ => ∃ z : Str, vs = [.str z] ∧ z.length ≤ 1000000 ∧ Q (.bl (decide (z.length ≤ 4000) && (tl z).all okc)) H
def spJoint (C : Addr) : Sp := fun vs H Q E => ∃ (z : Str) (le : Addr) (eds : List (Int × Int × Str)), vs = [.str z, .ref le] ∧ EdAt H le eds ∧ z.length ≤ 1000000 ∧ eds.length ≤ 1000 ∧ news eds ≤ 1000000 ∧
  (∀ r H', joint (tl z) (edl eds) = some r → Same H H' → Q (.str (strL r)) H') ∧ (∀ H', joint (tl z) (edl eds) = none → Same H H' → E (.ref C) none H')
def spEdit (C : Addr) : Sp := fun vs H Q E => ∃ (z : Str) (ed : Addr) (s e : Int) (n : Str), vs = [.str z, .ref ed] ∧ H ed = some (.tup [.int s, .int e, .str n]) ∧ z.length ≤ 1000000 ∧ n.length ≤ 1000000 ∧
  (∀ r H', joint (tl z) [(s, e, tl n)] = some r → Same H H' → Q (.str (strL r)) H') ∧ (∀ H', joint (tl z) [(s, e, tl n)] = none → Same H H' → E (.ref C) none H')
/-! ### signs in order -/
theorem le_one (a b : Nat) : (!decide ([b] < [a])) = decide (a ≤ b) := by
  have : ([b] < [a]) ↔ b < a := by
    constructor
    · intro h
      cases h with
      | rel h => exact h
      | cons h => cases h
    · exact fun h => .rel h
  by_cases h : b < a
  · rw [decide_eq_true (this.mpr h), decide_eq_false (by omega)]
    rfl
  · rw [decide_eq_false (fun k => h (this.mp k)), decide_eq_true (by omega)]
    rfl
/-! ### classes of errors, as the top has written them -/
theorem own_cls {K : PySem.W.Frag} {C S : Addr} (i : PySem.W.isClsIn K S = true) (t : PySem.W.typeIn K (.ref S) = some (.type "type")) (s : PySem.W.subIn K (.ref C) (.ref S) = some true) : PySem.W.kitCls K (.ref C) (.ref S) = some true := by
  have e2 : ((PySem.W.clsIn K S).isSome && PySem.W.typeIn K (.ref S) == some (.type "type")) = true := by
    have h2 : (PySem.W.clsIn K S).isSome = true := i
    rw [h2, t] <;> rfl
  show (if _ then _ else _) = _
  rw [if_pos e2]
  exact s
theorem exm_of {K : PySem.W.Frag} {S : Addr} (b : PySem.W.subIn K (.ref S) (.type "BaseException") = some true) (i : PySem.W.isClsIn K S = true) (t : PySem.W.typeIn K (.ref S) = some (.type "type")) (s : PySem.W.subIn K (.ref S) (.ref S) = some true) :
    PySem.W.exmOne K (.ref S) (.ref S) = some true := by
  have e1 : (PySem.W.subIn K (.ref S) (.type "BaseException") == some true) = true := by rw [b] <;> rfl
  show (if _ then _ else _) = _
  rw [if_pos e1]
  exact own_cls i t s
theorem kit_own {K : PySem.W.Frag} {C S : Addr} (i : PySem.W.isClsIn K S = true) (t : PySem.W.typeIn K (.ref S) = some (.type "type")) (s : PySem.W.subIn K (.ref C) (.ref S) = some true) : PySem.W.kitOne K (.ref C) (.ref S) = some true := by
  show (if _ then _ else _) = _
  split
  · rfl
  · exact own_cls i t s
theorem kit_blt {K : PySem.W.Frag} {C : Addr} {n : String} (m : PySem.W.kitMeta n = true) (s : PySem.W.subIn K (.ref C) (.type n) = some true) : PySem.W.kitOne K (.ref C) (.type n) = some true := by
  show (if _ then _ else (if _ then _ else _)) = _
  split
  · rfl
  · first
      | exact s
      | (rw [if_pos m]; exact s)
end Sn

/-! My own words: methods called by name, attributes, dicts of the module with get. -/
namespace Sn
open PySem PySem.Spec PyProof.Rows L2
section
variable {X : Cx} {e : Expr} {t t' : TE}
theorem PE.imp (h : PE X e t) (i : ∀ σ H Q, t' σ H Q → t σ H Q) : PE X e t' := ⟨fun pins s σ H Q I q => h.run pins s σ H Q I (i _ _ _ q)⟩
theorem PS.imp {st : Stmt} {u u' : TS} (h : PS X st u) (i : ∀ D σ H, u' D σ H → u D σ H) : PS X st u' := ⟨fun pins s σ H D I q => h.run pins s σ H D I (i _ _ _ q)⟩
def tUp (t : TE) : TE := fun σ H Q => ∃ Q' : VK, t σ H Q' ∧ ∀ v H1, Q' v H1 → Q v H1
theorem PE.up (h : PE X e t) : PE X e (tUp t) := ⟨fun pins s σ H Q I ⟨Q', a, b⟩ => thn (h.run pins s σ H Q' I a) fun v s1 ⟨x, H1, I1, r1, q1⟩ => ⟨x, H1, I1, r1, b _ _ q1⟩⟩
end
/-- a method that may be called by its name -/
structure CalM (P : Program) (w : World) (K : PySem.W.Frag) (mg : Str → Option Value) (base : Heap) (CX : CXT) (k : Nat) (C : Addr) (m : Str) (sp : Sp) : Prop where
  ex : ∃ (f : Addr) (fd : FuncData) (ps : List Str), FnOk P w K mg base CX k f fd ps sp ∧ Meth K C m f ∧ Binds K fd ps []
/-- an instance of the class at C with attributes of these names -/
def IsI (H : Hp) (C p : Addr) (ns : List Str) : Prop := ∃ dx fs, H p = some (.ins C dx fs) ∧ fs.map (·.1) = ns
theorem lookup_no : ∀ {fs : List (Str × V)} {ns : List Str} {m : Str}, fs.map (·.1) = ns → ns.contains m = false → fs.lookup m = none
  | [], _, _, _, _ => rfl
  | (n, v) :: r, _, m, h, hm => by
    subst h
    rw [List.map_cons, List.contains_cons, Bool.or_eq_false_iff] at hm
    rw [List.lookup_cons, hm.1]
    exact lookup_no rfl hm.2
def tMe (C : Addr) (ns : List Str) (sp : Sp) (E : XK) (ta : TE) (t : TA) : TE := fun σ H Q => ta σ H fun x H1 => ∃ p, x = .ref p ∧ IsI H1 C p ns ∧ t σ H1 fun vs H2 => sp (x :: vs) H2 Q E
section
variable {X : Cx} {k j : Nat} {C : Addr} {m : Str} {sp : Sp} {apos pos : Pos} {o e : Expr} {es : List Expr} {ta : TE} {t : TA} {CX : CXT} {E : XK} {pl : Sem Bool}
theorem pe_m (ns : List Str) (c : CalM X.prog X.w X.K X.mg X.base CX k C m sp) (cl : Cls X.K C) (hno : ns.contains m = false) (hr : Room j X.A) (hk : k ≤ j) (hx : Passes CX X E) (he : PE X o ta) (ha : PA X (e :: es) t)
    (hst : starEach (e :: es) X.env = (false, eval e X.env) :: starEach es X.env := by rfl) (hpl : (backTo pos (starEach es X.env)).any (·.1) = false := by rfl)
    (ht : eval (.Call (.Attribute o m apos) (e :: es) [] pos) X.env = (do
      let ov ← eval o X.env
      standAt apos.atName
      let (f, first) ← holding [ov] (getMethod ov m pl)
      callWith pos f first (backTo pos (starEach (e :: es) X.env)) (backToKw pos (keywordEach [] X.env))) := by rfl) :
    PE X (.Call (.Attribute o m apos) (e :: es) [] pos) (tMe C ns sp E ta t) := by
  obtain ⟨f, fd, ps, F, hm, b⟩ := c.ex
  refine PE.imp (pe_meth (PE.up he) cl hm F (hr.mono hk) b .nil hx ha hst hpl ht) fun σ H Q h => ⟨_, h, ?_⟩
  rintro v H1 ⟨p, rfl, ⟨dx, fs, hp, hn⟩, q⟩
  refine ⟨p, dx, fs, rfl, hp, lookup_no hn hno, ?_⟩
  simp only [List.append_nil]
  exact q
theorem pe_m0 (ns : List Str) (c : CalM X.prog X.w X.K X.mg X.base CX k C m sp) (cl : Cls X.K C) (hno : ns.contains m = false) (hr : Room j X.A) (hk : k ≤ j) (hx : Passes CX X E) (he : PE X o ta)
    (ht : eval (.Call (.Attribute o m apos) [] [] pos) X.env = (do
      let ov ← eval o X.env
      standAt apos.atName
      let (f, first) ← holding [ov] (getMethod ov m pl)
      callWith pos f first (backTo pos (starEach [] X.env)) (backToKw pos (keywordEach [] X.env))) := by rfl) :
    PE X (.Call (.Attribute o m apos) [] [] pos) (tMe C ns sp E ta tNil) := by
  obtain ⟨f, fd, ps, F, hm, b⟩ := c.ex
  refine PE.imp (pe_meth0 (PE.up he) cl hm F (hr.mono hk) b .nil hx ht) fun σ H Q h => ⟨_, h, ?_⟩
  rintro v H1 ⟨p, rfl, ⟨dx, fs, hp, hn⟩, q⟩
  refine ⟨p, dx, fs, rfl, hp, lookup_no hn hno, ?_⟩
  exact q
end
/-! ### a dict of the module: get with another value -/
section
variable {X : Cx}
/-- a written dict with text keys; what it has at a key -/
structure KdAt (K : PySem.W.Frag) (w : World) (a : Addr) : Prop where
  ex : ∃ es n, K.lookup a = some ⟨.type "dict", none, .dict es n, #[]⟩ ∧ PySem.W.KeysLit w.params es.toList
  low : (a == sysModules) = false
def KdGet (K : PySem.W.Frag) (a : Addr) (x : Str) (r : Option V) : Prop := ∃ u, PySem.W.nsIn K a x = some u ∧ RelO r u
theorem relO_getD {r : Option V} {u : Option Value} {v : V} {d : Value} (h : RelO r u) (k : RelV v d) : RelV (r.getD v) (u.getD d) := by
  cases r with
  | none =>
    cases u with
    | none => exact k
    | some u => exact h.elim
  | some r =>
    cases u with
    | none => exact h.elim
    | some u => exact h
def tKGet2 (K : PySem.W.Frag) (w : World) (td ty tx : TE) : TE := fun σ H Q => td σ H fun x H1 => ∃ a, x = .ref a ∧ KdAt K w a ∧ ty σ H1 fun y H2 => tx σ H2 fun z H3 => ∃ (s : Str) (r : Option V), y = .str s ∧ KdGet K a s r ∧ Q (r.getD z) H3
theorem pe_kget2 {o e f : Expr} {apos cpos : Pos} {td ty tx : TE} (ho : PE X o td) (he : PE X e ty) (hf : PE X f tx) (m : M2 X o "get" apos e f cpos) : PE X (.Call (.Attribute o "get" apos) [e, f] [] cpos) (tKGet2 X.K X.w td ty tx) := by
  refine ⟨fun pins s σ H Q I h => ?_⟩
  refine wpAny_Call_method m.base m.few m.line PySem.F.plainAttrs_dict PySem.F.slot_dict_get PySem.F.type_dict_get (thn (ho.run pins s σ H _ I h) fun u s1 ⟨x, H1, I1, rx, a, ex, ⟨⟨es, n, hl, hk⟩, low⟩, q1⟩ => ?_)
  subst ex
  obtain rfl : u = Value.ref a := rx
  have M0 := PySem.W.mapOf_K (prog := X.prog) (w := X.w) I1.kIn hl hk
  refine ⟨M0.typeIs, fun b q => ?_, ?_⟩
  · cases q
    exact ⟨_, I1.kIn _ _ hl, rfl⟩
  rw [m.trees]
  refine Calls.callWith_builtin rfl (Calls.evalArgs_plain (Calls.spliced_cons (thn (he.run pins s1 σ H1 _ I1 q1) fun iv s2 ⟨y, H2, I2, ry, q2⟩ =>
    Calls.spliced_cons (thn (hf.run pins s2 σ H2 _ I2 q2) fun fv s3 ⟨z, H3, I3, rz, x, r, ey, ⟨u0, e, ro⟩, q3⟩ => Calls.spliced_nil ?_))))
  subst ey
  obtain ⟨t, rfl⟩ := (show ∃ t, iv = Value.str x t from ry)
  have M3 := PySem.W.mapOf_K (prog := X.prog) (w := X.w) I3.kIn hl hk
  refine call_meetsIn PySem.F.slot_dict_get M3.typeIs PySem.F.entry_dict_get (PySem.F.args_dict_get_3 _ _ _) (meets_dict_get_default (strKind X.prog X.w) a (strKind_is X.prog X.w x t) low fv) ⟨_, M3, ?_⟩
  rw [PySem.W.find_K hl e]
  exact ⟨_, H3, I3.tok _, relO_getD ro rz, q3⟩
end
end Sn

/-! My own words for the keeper: tuple(d), del d[k] with tuple keys, methods and local defs called within a try, try .. finally. -/
namespace Sn
open PySem PySem.Spec PyProof.Rows L2 PySem.W
/-! ### tuple(d) -/
section
variable {prog : Program} {w : World} {A : Around} {E : Value → Shared → Prop} {s : Shared} {T : String} {r d : Addr} {n : Nat} {P : Nat → Value → Prop} {OK : Heap → Prop}
/-- the items that a dict gives, in a new tuple -/
def Gives (s : Shared) (P : Nat → Value → Prop) (n : Nat) (Q : Value → Shared → Prop) : Prop :=
  ∀ (h' : Heap) (tk : Nat) (acc : Array Value), (∀ b o, s.heap.get? b = some o → h'.get? b = some o) → ItemsOf P acc n → Q (.ref h'.objs.size) { s with heap := h'.push { cls := .type "tuple", data := .seq acc }, toks := tk }
theorem collect_kdl {Q : List Value → Shared → Prop} (k : KdlSrc prog w T r d n P OK) (hh : A.handled = none) (hok : OK s.heap) (hn : n ≤ sizeLine)
    (hQ : ∀ (h' : Heap) (tk : Nat) (acc : Array Value), (∀ b o, s.heap.get? b = some o → h'.get? b = some o) → ItemsOf P acc n → Q acc.toList { s with heap := h', toks := tk }) : wpAny (model prog w) A (collect (.ref r)) Q E s := by
  have lt := k.there _ hok
  unfold collect
  refine wpAny_bind (wpAny_runValue (codeAny_builtin F.entry_proto_collect ?_))
  rw [Around.under_plainId F.plain_proto_collect _]
  show wpAny _ A.in1 (newList [] >>= fun l => again (.builtin "list.__iadd__" ⟨[l, .ref r], []⟩)) _ _ s
  refine wpAny_bind (wpAny_newObj_type ?_)
  refine wpAny_pure ⟨plainId_quiet F.plain_list_iadd _, codeAny_builtin F.entry_list_iadd ?_⟩
  rw [Around.under_plainId F.plain_list_iadd _]
  have hS : (s.heap.push { cls := .type "list", data := .seq ([] : List Value).toArray }).get? s.heap.objs.size = some { cls := .type "list", data := .seq #[] } := Heap.get?_push_size _ rfl
  show wpAny _ A.in1 (Builtin.List.listExtendWith (.ref s.heap.objs.size) (.ref r) (.ref s.heap.objs.size)) _ _ _
  refine wpAny_mono (kdl_extend (A := A) (R := fun rr s' => rr = .ok (.ret (.ref s.heap.objs.size)) ∧ ∃ (h' : Heap) (tk : Nat) (acc : Array Value) (c' : Nat), s' = { s with heap := h', toks := tk } ∧
      (∀ b o, s.heap.get? b = some o → h'.get? b = some o) ∧ h'.get? s.heap.objs.size = some { cls := .type "list", dict := none, data := .seq acc c', slots := #[] } ∧ ItemsOf P acc n)
    (s := { s with heap := s.heap.push { cls := .type "list", data := .seq ([] : List Value).toArray } }) k hh (k.keep _ _ hok fun b _ o e => Heap.get?_push_of_some _ e) s.heap.objs.size (Nat.ne_of_gt lt.1) (Nat.ne_of_gt lt.2) (.ref s.heap.objs.size) _ hS
    (fun h' tk acc c' hk e hi => ⟨rfl, h', tk, acc, c', rfl, fun b o q => hk b o (Nat.ne_of_lt (Heap.lt_size q)) (Heap.get?_push_of_some _ q), e, hi⟩) hn) (fun fin s' h => ?_) (fun e s' h => ?_)
  · cases fin with
    | done f =>
      obtain ⟨e, h', tk, acc, c', rfl, hk, hS', hi⟩ := h
      cases e
      exact wpAny_bind (wpAny_load hS' (wpAny_pure (hQ h' tk acc hk hi)))
    | again c' =>
      refine ⟨h.1, codeAny_mono h.2 fun rr s'' hr' => ?_⟩
      obtain ⟨rfl, h', tk, acc, c', rfl, hk, hS', hi⟩ := hr'
      exact wpAny_bind (wpAny_load hS' (wpAny_pure (hQ h' tk acc hk hi)))
  · exact absurd h.1 (by simp)
theorem code_tuple_kdl {Q₁ : Value → Shared → Prop} (k : KdlSrc prog w T r d n P OK) (hh : A.handled = none) (hok : OK s.heap) (hn : n ≤ sizeLine) (h2 : (Value.type T == Value.type "tuple") = false) (h : Gives s P n Q₁) :
    codeAny (model prog w) A (.call (.builtin "tuple.__new__") ⟨[.type "tuple", .ref r], []⟩) (wants Q₁ E) s := by
  refine codeAny_of_tree ?_
  show wpAny _ A.in1 (do checkBuiltinCall "tuple.__new__" ⟨[.type "tuple", .ref r], []⟩; again (.builtin "tuple.__new__" ⟨[.type "tuple", .ref r], []⟩)) _ _ s
  refine wpAny_bind (wpAny_of_eq (F.newCall_tuple_1 _) (wpAny_pure ⟨plainId_quiet F.plain_tuple_new _, codeAny_builtin F.entry_tuple_new ?_⟩))
  rw [Around.under_plainId F.plain_tuple_new _]
  have a1 := sub_tuple_self
  have a2 := init_tuple_lookup
  have a3 := madeHere_tuple
  have a4 := k.type s hok
  have a5 : A.in1.handled = none := hh
  wp_walk using wpAny_typeOf a4, collect_kdl (A := A.in1) k a5 hok hn
  intro h' tk acc hk hacc
  show wpAny _ _ (Builtin.Tuple.tupleExact acc.toList.toArray >>= fun v => ret v) _ _ _
  unfold Builtin.Tuple.tupleExact
  refine wpAny_bind (wpAny_newObj_type ?_ (by show acc.toList.toArray.size ≤ sizeLine; simp only [Array.toArray_toList]; rw [hacc.1]; exact hn))
  refine wpAny_pure ?_
  have e : acc.toList.toArray = acc := by simp
  rw [e]
  exact h h' tk acc hk hacc
theorem tuple_kdl {Q : Value → Shared → Prop} (k : KdlSrc prog w T r d n P OK) (hh : A.handled = none) (hok : OK s.heap) (hn : n ≤ sizeLine) (h2 : (Value.type T == Value.type "tuple") = false) (h : Gives s P n Q) :
    wpAny (model prog w) A (call (.type "tuple") [.ref r]) Q E s := by
  refine callType_codes (Q₁ := fun obj s₁ => s₁.TypeIs obj "tuple" ∧ Q obj s₁) F.called_tuple (F.typeCall_tuple_1 _) F.entry_object_init
    (code_tuple_kdl (A := A.in1) k hh hok hn h2 fun h' tk acc hk hacc => ⟨⟨_, Heap.get?_push_size _ rfl, rfl⟩, h h' tk acc hk hacc⟩) fun obj s₁ h₁ => ?_
  exact ⟨h₁.1, F.args_object_init_2 obj _, object_init_meets F.called_tuple.init.lookup F.called_tuple.made (by decide) prog w A.in1 _ s₁ ⟨h₁.1, rfl, h₁.2⟩⟩
end
section
variable {X : Cx}
def rTupT : List V → Hp → VK → Prop := fun xs H Q => ∃ d kvs, xs = [V.ref d] ∧ L2.Rd H d (.dT kvs) ∧ ∀ p bs, H p = none → IsKeys H kvs bs → Q (.ref p) (upd H p (.tup (bs.map V.ref)))
theorem call_tuple_dT (hc : X.calm = true) : CallR X (.type "tuple") rTupT := by
  intro pins s σ H xs us Q I r h
  obtain ⟨d, kvs, rfl, hd, q⟩ := h
  obtain ⟨u, rfl, rx⟩ := r.one
  cases rx
  obtain ⟨z, hs, ks, pr, o, es, ep, ho, hx, hdt, he, hn⟩ := (show ObjOk X.prog X.w H s.heap d (.dT kvs) from hd.ok I.hok)
  have l1 : es.size = ks.length := size_of_entries he
  have l2 : kvs.length = ks.length := Paired.length pr
  refine tuple_kdl (kdl_raw hs hx hdt) (I.ok.hd hc) ho (by omega) (by decide) fun h' tk acc' kp it => ?_
  have ea : acc'.toList = ks.map fun x => Value.ref x.2.1 := by
    have hl : acc'.toList.length = ks.length := by rw [Array.length_toList, it.1]; exact l1
    apply List.ext_getElem?
    intro j
    rw [List.getElem?_map]
    cases hj : acc'.toList[j]? with
    | none =>
      have h1 := List.getElem?_eq_none_iff.mp hj
      rw [List.getElem?_eq_none (by omega)]
      all_goals rfl
    | some v =>
      obtain ⟨en, hen, hv⟩ := it.2 j v (by rw [← Array.getElem?_toList]; exact hj)
      have qe := entry_at he j
      rw [hen] at qe
      cases hb : ks[j]? with
      | none =>
        rw [hb] at qe
        exact nomatch (show some en = none from qe)
      | some b =>
        rw [hb] at qe
        have e2 : en = entryOfKey (tupleKind (mixKind X.prog X.w)) b := Option.some.inj qe
        rw [hv, e2]
        all_goals rfl
  have eb : acc'.toList = (ks.map fun x => x.2.1).map Value.ref := by rw [ea, List.map_map]; all_goals rfl
  have rv : Vals ((ks.map fun x => x.2.1).map V.ref) acc'.toList := by rw [eb]; exact vals_refs _
  have hz : ((ks.map fun x => x.2.1).map V.ref).length ≤ sizeLine := by rw [List.length_map, List.length_map]; omega
  have I1 : Inv X pins σ H { s with heap := h' } := I.kept (t' := s.toks) kp
  have I2 : Inv X pins σ (upd H h'.objs.size (.tup ((ks.map fun x => x.2.1).map V.ref))) { s with heap := h'.push { cls := .type "tuple", data := .seq acc' }, toks := tk } :=
    (I1.laid (t' := s.toks) (fun b o e => Heap.get?_push_of_some _ e) (Nat.le_refl _) (show ObjOk X.prog X.w _ _ _ (.tup ((ks.map fun x => x.2.1).map V.ref)) from ⟨hz, acc'.toList, rv, by rw [Array.toArray_toList]; exact IsTup.new _ _⟩)).tok tk
  exact ⟨.ref h'.objs.size, _, I2, rfl, q _ _ (I1.hok.fresh (Nat.le_refl _)) (isKeys_of pr)⟩
/-! ### del d[k] -/
def sDelT (td ty : TE) : TS := fun D σ H => td σ H fun x H1 => ty σ H1 fun y H2 => ∃ (a : Addr) (kvs : List (List L2.Key × V)) (k : List L2.Key) (b : Addr) (v : V), x = .ref a ∧ H2 a = some (.dT kvs) ∧ y = .ref b ∧ H2 b = some (.tup (k.map kV)) ∧ valV kvs k = some v ∧ D.nx σ (upd H2 a (.dT (dropK kvs k)))
theorem d_delT {A : Around} {Ex : Value → Shared → Prop} {pins : List (Addr × Obj)} {σ : L2.St} {H : Hp} {s : Shared} {Q : Unit → Shared → Prop} {a b : Addr} {kvs : List (List L2.Key × V)} {k : List L2.Key} {v : V} (hu : A.units + 1 < cLine) (I : Inv X pins σ H s) (ha : H a = some (.dT kvs)) (hb : H b = some (.tup (k.map kV))) (hv : valV kvs k = some v)
    (h : ∀ s', Inv X pins σ (upd H a (.dT (dropK kvs k))) s' → Q () s') : wpAny (model X.prog X.w) A (delItem (.ref a) (.ref b)) Q Ex s := by
  obtain ⟨z, hd, xs', rel, dd⟩ := dt_of I.hok ha
  have hz : xs'.length ≤ sizeLine := by rw [← Paired.length rel]; exact z
  have r := rel.val k
  rw [hv] at r
  cases hp : atKey xs' k with
  | none =>
    rw [hp] at r
    exact (show False from r).elim
  | some p =>
    refine wpAny_delItem_heap (knd := tupleKind (mixKind X.prog X.w)) (tupleKind_room_in1 hu) (key_of I.hok hb) hd dd hp (fun h' dd' hs => h _ ?_) hz
    obtain ⟨o, es, ep, hq, h2, h3, h4, _, h5⟩ := dd'
    have kd : KT H (dropK kvs k) (withoutH xs' k) := L2.DX.KT_drop k rel
    exact d_write I (by rw [ha]; exact True.intro) hs ⟨o, hq⟩ ⟨Nat.le_trans (dropK_le kvs k) z, hd, _, kd.keeps (fun c ys ec => (by rw [upd_ne (ne_of ec ha (fun z => nomatch z))]; exact ec)), o, es, ep, hq, h2, h3, h4, h5⟩
theorem ps_ddelT {o i : Expr} {td ty : TE} {tpos pos : Pos} (hu : X.A.units + 1 < cLine) (ho : PE X o td) (hi : PE X i ty) : PS X (.Delete [.Subscript o i tpos] pos) (sDelT td ty) := by
  refine ⟨fun pins s σ H D I h => ?_⟩
  refine wpAny_Delete (wpAny_deleteEach_cons (wpAny_delete_Subscript (thn (ho.run pins s σ H _ I h) fun u s1 ⟨x, H1, I1, rx, q1⟩ => thn (hi.run pins s1 σ H1 _ I1 q1) fun iv s2 ⟨y, H2, I2, ry, a, kvs, k, b, v, ex, e, ey, eb, l, q2⟩ => ?_)))
  subst ex ey
  obtain rfl : u = Value.ref a := rx
  obtain rfl : iv = Value.ref b := ry
  exact d_delT hu I2 e eb l fun s3 I3 => wpAny_deleteEach_nil ⟨σ, _, I3, q2⟩
end
/-! ### calls within a try: what is raised is wished for at the slots as they stand -/
def tMeS (C : Addr) (ns : List Str) (sp : Sp) (E : L2.St → XK) (ta : TE) (t : TA) : TE := fun σ H Q => ta σ H fun x H1 => ∃ p, x = .ref p ∧ IsI H1 C p ns ∧ t σ H1 fun vs H2 => sp (x :: vs) H2 Q (E σ)
def tCaS (i : Nat) (f : Addr) (sp : Sp) (E : L2.St → XK) (t : TA) : TE := fun σ H Q => σ[i]? = some (some (.ref f)) ∧ t σ H fun vs H1 => sp vs H1 Q (E σ)
section
variable {X : Cx} {k j i : Nat} {C f : Addr} {fd : FuncData} {ps : List Str} {m x : Str} {sp : Sp} {apos pos p : Pos} {o e : Expr} {es : List Expr} {ta : TE} {t : TA} {CX : CXT} {E : L2.St → XK} {pl : Sem Bool}
theorem pe_mS (ns : List Str) (c : CalM X.prog X.w X.K X.mg X.base CX k C m sp) (cl : Cls X.K C) (hno : ns.contains m = false) (hr : Room j X.A) (hk : k ≤ j) (hx : ∀ σ, PassesAt CX X σ (E σ)) (he : PE X o ta) (ha : PA X (e :: es) t)
    (hst : starEach (e :: es) X.env = (false, eval e X.env) :: starEach es X.env := by rfl) (hpl : (backTo pos (starEach es X.env)).any (·.1) = false := by rfl)
    (ht : eval (.Call (.Attribute o m apos) (e :: es) [] pos) X.env = (do
      let ov ← eval o X.env
      standAt apos.atName
      let (f, first) ← holding [ov] (getMethod ov m pl)
      callWith pos f first (backTo pos (starEach (e :: es) X.env)) (backToKw pos (keywordEach [] X.env))) := by rfl) :
    PE X (.Call (.Attribute o m apos) (e :: es) [] pos) (tMeS C ns sp E ta t) := by
  obtain ⟨f, fd, ps, F, hm, b⟩ := c.ex
  refine ⟨fun pins s σ H Q I h => ?_⟩
  refine PySem.W.methodCall_KW (pl := pl) (thn (he.run pins s σ H _ I h) fun u s1 ⟨x, H1, I1, rx, a, ex, ⟨dx, fs, hp, hn⟩, q⟩ => ?_) ht
  subst ex
  obtain rfl : u = Value.ref a := rx
  refine getmeth_ok I1 hp cl hm (lookup_no hn hno) ?_
  refine PySem.W.callWith_K (first := [.ref a]) (h₀ := X.base) I.ok.mod.kin hm.kp (thn (ha.run pos pins s1 σ H1 _ I1 q) fun us s2 ⟨vs, H2, I2, r, q2⟩ => ⟨I2.kIn, ?_⟩) hst hpl
  exact run_fnS (us := .ref a :: us) (vs := .ref a :: vs) F (hr.mono hk) b (hx σ) I2 (.cons rfl r) q2
theorem pe_mS0 (ns : List Str) (c : CalM X.prog X.w X.K X.mg X.base CX k C m sp) (cl : Cls X.K C) (hno : ns.contains m = false) (hr : Room j X.A) (hk : k ≤ j) (hx : ∀ σ, PassesAt CX X σ (E σ)) (he : PE X o ta)
    (ht : eval (.Call (.Attribute o m apos) [] [] pos) X.env = (do
      let ov ← eval o X.env
      standAt apos.atName
      let (f, first) ← holding [ov] (getMethod ov m pl)
      callWith pos f first (backTo pos (starEach [] X.env)) (backToKw pos (keywordEach [] X.env))) := by rfl) :
    PE X (.Call (.Attribute o m apos) [] [] pos) (tMeS C ns sp E ta tNil) := by
  obtain ⟨f, fd, ps, F, hm, b⟩ := c.ex
  refine ⟨fun pins s σ H Q I h => ?_⟩
  refine PySem.W.methodCall_KW (pl := pl) (thn (he.run pins s σ H _ I h) fun u s1 ⟨x, H1, I1, rx, a, ex, ⟨dx, fs, hp, hn⟩, q⟩ => ?_) ht
  subst ex
  obtain rfl : u = Value.ref a := rx
  refine getmeth_ok I1 hp cl hm (lookup_no hn hno) ?_
  exact PySem.W.callWith_K0 (first := [.ref a]) I1.kIn hm.kp (run_fnS (us := [.ref a]) (vs := [.ref a]) F (hr.mono hk) b (hx σ) I1 (.cons rfl .nil) q)
theorem pe_caS (F : FnOk X.prog X.w X.K X.mg X.base CX k f fd ps sp) (hr : Room j X.A) (hkj : k ≤ j) (hN : X.N[i]? = some x) (hv : Vis X.env.scope x) (hk : PySem.W.keepIn X.K (.ref f) = true) (hb : Binds X.K fd ps []) (hx : ∀ σ, PassesAt CX X σ (E σ)) (ha : PA X (e :: es) t)
    (hdb : (x == ("__debug__" : Str)) = false := by decide) (hcd : (x == ("__classdict__" : Str)) = false := by decide)
    (he : starEach (e :: es) X.env = (false, eval e X.env) :: starEach es X.env := by rfl) (hpl : (backTo pos (starEach es X.env)).any (·.1) = false := by rfl) : PE X (.Call (.Name x p) (e :: es) [] pos) (tCaS i f sp E t) := by
  refine ⟨fun pins s σ H Q I h => ?_⟩
  obtain ⟨hs, ht⟩ := h
  refine wpAny_Call_Name_kw (thn ((pe_var (pos := p) hN hv hdb hcd).run pins s σ H (fun v H1 => v = .ref f ∧ H1 = H) I ⟨.ref f, hs, rfl, rfl⟩) fun u s1 ⟨v, H1, I1, r1, q1⟩ => ?_)
  obtain ⟨rfl, rfl⟩ := q1
  cases r1
  refine PySem.W.callWith_K (h₀ := X.base) I.ok.mod.kin hk (thn (ha.run pos pins s1 σ _ _ I1 ht) fun us s2 ⟨vs, H2, I2, r, q⟩ => ⟨I2.kIn, ?_⟩) he hpl
  exact run_fnS F (hr.mono hkj) hb (hx σ) I2 r q
end
/-! ### try .. finally -/
/-- the body's reading with what is wished of its errors; then the suite, either way -/
def tFi (tb : WX → TS) (tf tfs : TS) (Wout : WX) : TS := fun D σ H => tb (wFin tfs Wout) { nx := fun σ1 H1 => tf D σ1 H1, rt := fun _ _ => False } σ H
section
variable {X : Cx} {body : List Stmt} {f₀ : Stmt} {fs : List Stmt} {pos : Pos} {tb : WX → TS} {tf tfs : TS} {Wout : WX}
theorem ps_fi (hs : X.stack = X.env :: X.outer) (hf : X.env.frame = some X.env.locals) (hex : X.ex = []) (tk : Takes X Wout)
    (hb : ∀ (W : WX) (pn : List (Addr × Obj)) (xe : Value → Shared → Prop), Takes (X.tr pn xe) W → PassesOwn (model X.prog X.w) X.A X.env xe → PSs (X.tr pn xe) body (tb W))
    (hfin : PSs X.nox (f₀ :: fs) tf) (hsu : ∀ (a : Addr) (pn : List (Addr × Obj)), PSs (X.suite a pn) (f₀ :: fs) tfs) : PS X (.Try body [] [] (f₀ :: fs) pos) (tFi tb tf tfs Wout) := by
  refine ⟨fun pins s σ H D I h => ?_⟩
  have ok := I.ok
  let xe : Value → Shared → Prop := fun x s₁ => wpAny (model X.prog X.w) X.A (noteFrame x X.env) (fun _ s₂ => FinallyRaised X.prog X.w X.A X.xe X.env (f₀ :: fs) (SP X pins D) x s₂) (FinallyRaised X.prog X.w X.A X.xe X.env (f₀ :: fs) (SP X pins D)) s₁
  have takes : Takes (X.tr (X.pn ++ pins) xe) (wFin tfs Wout) := fun u s' xx => fin_exc hs hf hex ok tk hsu xx
  have run := (hb (wFin tfs Wout) (X.pn ++ pins) xe takes PassesOwn.looking).run [] s σ H { nx := fun σ1 H1 => tf D σ1 H1, rt := fun _ _ => False } (I.toTry _) h
  refine wpAny_Try_finally (wpAny_mono run (fun g s1 z => ?_) fun x s1 hx => hx)
  cases g with
  | ret u =>
    obtain ⟨_, _, _, _, _, q⟩ := z
    exact q.elim
  | brk =>
    obtain ⟨_, _, _, q⟩ := z
    exact False.elim q
  | cont =>
    obtain ⟨_, _, _, q⟩ := z
    exact False.elim q
  | next =>
    obtain ⟨σ1, H1, J1, q1⟩ := z
    refine wpAny_execs_nil (wpAny_mono (hfin.run pins s1 σ1 H1 D ((J1.ofTry ok).wish _) q1) (fun g2 s2 q2 => ?_) fun _ _ e => False.elim e)
    have q3 : SP X pins D g2 s2 := q2.unwish
    cases g2 <;> exact q3
end
end Sn

/-! My own rules where an exception is handled: walks of lists, pairs taken apart, calls by name. -/
namespace Sn
open PySem PySem.Spec PyProof.Rows L2 TL HotX L2H
section
variable {prog : Program} {w : World} {A : Around} {E : Value → Shared → Prop} {s : Shared}
theorem list_end_hot {it l x1 : Addr} {i : Nat} {items : Array Value} {Q : Option Value → Shared → Prop} (hot : HotAt A x1 s.heap) (hit : s.heap.IsListIter it l i) (hl : s.heap.IsList l items) (hx : items[i]? = none)
    (hxi : x1 ≠ it) (hQ : ∀ h', (∀ b o, b ≠ it → s.heap.get? b = some o → h'.get? b = some o) → Q none { s with heap := h' }) : wpAny (model prog w) A (pyNext (.ref it)) Q E s := by
  obtain ⟨hh, o1, vs1, h1, d1, c1⟩ := hot
  obtain ⟨o, ho, hc, hd⟩ := id hit
  obtain ⟨ol, hol, _, nl, hdl⟩ := hl
  unfold pyNext
  refine wpAny_bind (wpAny_attempt (wpAny_callSpecial?_slot (name := Str.ofString "__next__") hit.typeIs slot_listiter_next
    (wpAny_call_entry slot_listiter_next hit.typeIs entry_listiter_next ?_ (args_listiter_next _))))
  show wpAny _ _ (field (.ref it) 0 >>= _) _ _ s
  refine wpAny_bind (wpAny_field ho hd (x := .ref l) rfl ?_)
  show wpAny _ _ (if (Value.ref l == Value.none) = true then _ else _) _ _ s
  rw [if_neg (show ¬ ((Value.ref l == Value.none) = true) from Bool.false_ne_true)]
  show wpAny _ _ (field (.ref it) 1 >>= _) _ _ s
  refine wpAny_bind (wpAny_field ho hd (x := .int i 0) rfl ?_)
  show wpAny _ _ (seqItems? (.ref l) >>= _) _ _ s
  refine wpAny_bind (wpAny_seqItems hol hdl ?_)
  simp only [Int.toNat_natCast, hx]
  refine wpAny_bind (wpAny_rule (wpAny_bind (wpAny_setField ho hd (by simp) ?_)))
  show wpAny _ _ (newExc (.type "StopIteration") [] >>= _) _ _ _
  refine wpAny_bind ?_
  simp only [newExc, newTuple]
  refine wpAny_bind (wpAny_newObj_type ?_ (by size_fits))
  refine wpAny_bind (m := firstArgMember _ _) (wpAny_of_eq (a := Value.none) (by first | rfl | (simp only [firstArgMember]; rfl)) ?_)
  refine wpAny_newObj_type ?_ (by size_fits)
  have hup : (s.heap.update it (Obj.mapFields (·.setIfInBounds 0 .none))).get? x1 = some o1 := by
    rw [Heap.get?_update_other _ _ (Ne.symm hxi)]
    exact h1
  refine raiseNew_hot ⟨hh, o1, vs1, Heap.get?_push_of_some _ (Heap.get?_push_of_some _ hup), d1, c1⟩ (Nat.ne_of_lt (Heap.lt_size (Heap.get?_push_of_some _ hup))) (Heap.get?_push_size _ rfl) rfl (by first | (simp; done) | (simp; omega) | (simp only [Array.size_append]; simp; omega)) ?_
  refine wpAny_bind (wpAny_isInstance (T := "StopIteration") (b := true) ⟨_, Heap.get?_update_self _ (Heap.get?_push_size _ rfl) rfl, rfl⟩ isSubtype_stop ?_)
  refine wpAny_pure (hQ _ fun b o hb e => ?_)
  have e2 : (s.heap.update it (Obj.mapFields (·.setIfInBounds 0 .none))).get? b = some o := by
    rw [Heap.get?_update_other _ _ (Ne.symm hb)]
    exact e
  rw [Heap.get?_update_other _ _ (Nat.ne_of_gt (Heap.lt_size (Heap.get?_push_of_some _ e2)))]
  exact Heap.get?_push_of_some _ (Heap.get?_push_of_some _ e2)
theorem tuple_end_hot {it l x1 : Addr} {i : Nat} {items : Array Value} {Q : Option Value → Shared → Prop} (hot : HotAt A x1 s.heap) (hit : s.heap.IsTupleIter it l i) (hl : s.heap.IsTuple l items) (hx : items[i]? = none)
    (hxi : x1 ≠ it) (hQ : ∀ h', (∀ b o, b ≠ it → s.heap.get? b = some o → h'.get? b = some o) → Q none { s with heap := h' }) : wpAny (model prog w) A (pyNext (.ref it)) Q E s := by
  obtain ⟨hh, o1, vs1, h1, d1, c1⟩ := hot
  obtain ⟨o, ho, hc, hd⟩ := id hit
  obtain ⟨ol, hol, _, nl, hdl⟩ := hl
  unfold pyNext
  refine wpAny_bind (wpAny_attempt (wpAny_callSpecial?_slot (name := Str.ofString "__next__") hit.typeIs F.slot_tuple_iterator_next
    (wpAny_call_entry F.slot_tuple_iterator_next hit.typeIs F.entry_tuple_iterator_next ?_ (F.args_tuple_iterator_next_1 _))))
  show wpAny _ _ (field (.ref it) 0 >>= _) _ _ s
  refine wpAny_bind (wpAny_field ho hd (x := .ref l) rfl ?_)
  show wpAny _ _ (if (Value.ref l == Value.none) = true then _ else _) _ _ s
  rw [if_neg (show ¬ ((Value.ref l == Value.none) = true) from Bool.false_ne_true)]
  show wpAny _ _ (field (.ref it) 1 >>= _) _ _ s
  refine wpAny_bind (wpAny_field ho hd (x := .int i 0) rfl ?_)
  show wpAny _ _ (seqItems? (.ref l) >>= _) _ _ s
  refine wpAny_bind (wpAny_seqItems hol hdl ?_)
  simp only [Int.toNat_natCast, hx]
  refine wpAny_bind (wpAny_rule (wpAny_bind (wpAny_setField ho hd (by simp) ?_)))
  show wpAny _ _ (newExc (.type "StopIteration") [] >>= _) _ _ _
  refine wpAny_bind ?_
  simp only [newExc, newTuple]
  refine wpAny_bind (wpAny_newObj_type ?_ (by size_fits))
  refine wpAny_bind (m := firstArgMember _ _) (wpAny_of_eq (a := Value.none) (by first | rfl | (simp only [firstArgMember]; rfl)) ?_)
  refine wpAny_newObj_type ?_ (by size_fits)
  have hup : (s.heap.update it (Obj.mapFields (·.setIfInBounds 0 .none))).get? x1 = some o1 := by
    rw [Heap.get?_update_other _ _ (Ne.symm hxi)]
    exact h1
  refine raiseNew_hot ⟨hh, o1, vs1, Heap.get?_push_of_some _ (Heap.get?_push_of_some _ hup), d1, c1⟩ (Nat.ne_of_lt (Heap.lt_size (Heap.get?_push_of_some _ hup))) (Heap.get?_push_size _ rfl) rfl (by first | (simp; done) | (simp; omega) | (simp only [Array.size_append]; simp; omega)) ?_
  refine wpAny_bind (wpAny_isInstance (T := "StopIteration") (b := true) ⟨_, Heap.get?_update_self _ (Heap.get?_push_size _ rfl) rfl, rfl⟩ isSubtype_stop ?_)
  refine wpAny_pure (hQ _ fun b o hb e => ?_)
  have e2 : (s.heap.update it (Obj.mapFields (·.setIfInBounds 0 .none))).get? b = some o := by
    rw [Heap.get?_update_other _ _ (Ne.symm hb)]
    exact e
  rw [Heap.get?_update_other _ _ (Nat.ne_of_gt (Heap.lt_size (Heap.get?_push_of_some _ e2)))]
  exact Heap.get?_push_of_some _ (Heap.get?_push_of_some _ e2)
theorem unpackItems_hot {t x1 : Addr} {items : Array Value} {Q : List Value → Shared → Prop} (hot : HotAt A x1 s.heap) (ht : s.heap.IsTuple t items)
    (hQ : ∀ h', Heap.ExtBut s.heap.objs.size s.heap h' → Q items.toList { s with heap := h' }) : wpAny (model prog w) A (unpackItems (.ref t) items.size none) Q E s := by
  obtain ⟨hh, o1, vs1, g1, d1, c1⟩ := hot
  have hlt : t ≠ s.heap.objs.size := by obtain ⟨o, ho, _⟩ := ht; exact Nat.ne_of_lt (Heap.lt_size ho)
  have hlx : x1 ≠ s.heap.objs.size := Nat.ne_of_lt (Heap.lt_size g1)
  unfold unpackItems
  refine wpAny_bind ?_
  · unfold notIterableAtAll
    refine wpAny_bind (wpAny_specialOf ht.typeIs F.slot_tuple_iter.lookup ?_)
    refine wpAny_pure ?_
    simp only [Bool.false_eq_true, if_false]
    refine wpAny_bind (wpAny_holding (wpAny_pyIter_tuple ht ?_))
    refine wpAny_bind (wpAny_holding (wpAny_draw_tuple hlt items.size 0 _ _ ⟨_, Heap.get?_push_size _ rfl, rfl, rfl⟩ (ht.push _) (by omega) fun h₁ hit₁ hs₁ => ?_))
    have hall : List.take items.size (List.drop 0 items.toList) = items.toList := by
      rw [List.drop_zero]; exact List.take_of_length_le (by simp)
    rw [hall]
    rw [if_neg (by simp)]
    have ht₁ : h₁.IsTuple t items := (ht.push _).extBut hs₁.extBut hlt
    have gx : h₁.get? x1 = some o1 := hs₁.extBut _ _ hlx (Heap.get?_push_of_some _ g1)
    refine wpAny_bind (wpAny_holding (tuple_end_hot ⟨hh, o1, vs1, gx, d1, c1⟩ hit₁ ht₁ (by simp) hlx fun h₂ he₂ => ?_))
    simp only [Option.isSome_none, Bool.false_eq_true, if_false]
    refine wpAny_pure (hQ h₂ fun b o hb e => he₂ b o hb (hs₁.extBut b o hb (Heap.get?_push_of_some _ e)))
theorem assign_Tuple_hot {env : Env} {elts : List Expr} {k : Nat} {pos : Pos} {t x1 : Addr} {items : Array Value} {Q : Unit → Shared → Prop} (hot : HotAt A x1 s.heap) (ht : s.heap.IsTuple t items)
    (hn : (assignEach elts env).length = items.size) (hstar : (assignEach elts env).findIdx? (·.1) = none)
    (h : ∀ h', Heap.ExtBut s.heap.objs.size s.heap h' → wpAny (model prog w) A (assignInOrder ((assignEach elts env).map (·.2)) items.toList) Q E { s with heap := h' }) :
    wpAny (model prog w) A (assign (.Tuple elts k pos) env (.ref t)) Q E s := by
  rw [arm_assign_Tuple]
  refine wpAny_bind (wpAny_standAt ?_)
  unfold unpack
  rw [hn, hstar]
  exact wpAny_bind (wpAny_holding (unpackItems_hot hot ht h))
end
section
variable {X : Cx} {pos : Pos}
theorem pg_tupH {es : List Expr} {k : Nat} {t : TGs} {n : Nat} (hc : HotC X) (h : PGs X es t)
    (hn : (assignEach es X.env).length = n := by rfl) (hst : (assignEach es X.env).findIdx? (·.1) = none := by rfl) : PG X (.Tuple es k pos) (gTup X.K n t) := by
  refine ⟨fun pins s σ H v u Q I r hw => ?_⟩
  obtain ⟨a, xs, e1, hq, hl, hw⟩ := hw
  subst e1
  cases r
  obtain ⟨its, rv, ht, hz⟩ := I.tuple hq
  obtain ⟨x1, hot⟩ := hc.at I
  refine assign_Tuple_hot hot ht (by simp [hn, ← hl, rv.length]) hst fun h' hx => ?_
  have I1 : Inv X pins σ H { s with heap := h' } := I.kept (t' := s.toks) fun b o e => hx b o (Nat.ne_of_lt (Heap.lt_size e)) e
  exact h.run pins _ σ H xs _ Q I1 (by simpa using rv) hw
end
theorem turn_listH {P : Program} {w : World} {K : PySem.W.Frag} {tg : Expr} (a it : Addr) : TurnH P w K tg (Itl K a) [it] it (fun i h => h.IsListIter it a i) where
  mem := by simp
  obj := fun i h st b hb => by
    have e : b = it := by simpa using hb
    subst e
    obtain ⟨o, e, c, d⟩ := st
    exact ⟨o, e, fun v z => by rw [d] at z; cases z⟩
  keep := fun i h h' st k => st.at fun o e => k it (by simp) o e
  item := by
    intro X hP hw hK hc i pins s σ H E I hf st hg
    subst hP hw hK
    obtain ⟨xs, x, hq, hx⟩ := hg
    obtain ⟨its, rv, p, hz⟩ := I.list hq
    obtain ⟨u, hu, ru⟩ := rv.get hx
    obtain ⟨f0, f1, f2, f3, f4, f5⟩ := hf it (by simp)
    refine wpAny_pyNext_list_item st p.isList (x := u) (by simpa using hu) fun h' st' sb => ?_
    have I1 : Inv X pins σ H { s with heap := h' } := I.turned (t' := s.toks) (fun b o hb e => (sb.2 b hb).trans e) f0 f1 f3 f4 f5
    obtain ⟨o, e, c, d⟩ := id st'
    exact ⟨u, rfl, go_of (s := { s with heap := h' }) e c d (by decide) ⟨x, H, I1, ru, ⟨rfl, fun ys hy => by rw [I.list_inj hy hq]; exact hx⟩, st', fun b hb => (hf b hb).1⟩⟩
  done := by
    intro X hP hw hK hc i pins s σ H E I hf st hg
    subst hP hw hK
    obtain ⟨xs, hq, hx⟩ := hg
    obtain ⟨its, rv, p, hz⟩ := I.list hq
    obtain ⟨f0, f1, f2, f3, f4, f5⟩ := hf it (by simp)
    have hl := rv.length
    obtain ⟨q, ⟨hh, v1, e1, c1⟩, hp⟩ := hc
    have P1 := I.pin q (List.mem_append_left _ hp)
    exact list_end_hot ⟨hh, q.2, v1, P1.1, e1, c1⟩ st p.isList (by simp; omega) (f5 q (List.mem_append_left _ hp)) fun h' eb => ⟨rfl, I.turned (t' := s.toks) (fun b o hb e => eb b o hb e) f0 f1 f3 f4 f5⟩
  self := fun _ _ _ _ _ st h => wpAny_pyIter_listiter st h
theorem pi_listH {X : Cx} {tg l : Expr} {tl : TE} (hl : PE X l tl) : PIH X tg l (iList X.K tl) := by
  refine ⟨fun pins s σ H R I h => ?_⟩
  refine thn (hl.run pins s σ H _ I h) fun v s1 ⟨x, H1, I1, r1, q1⟩ => ?_
  obtain ⟨a, e, ⟨xs, hq⟩, q⟩ := q1
  subst e
  cases r1
  obtain ⟨its, rv, p, hz⟩ := I1.list hq
  refine wpAny_pyIter_list p.isList ?_
  refine ⟨s1.heap.objs.size, [s1.heap.objs.size], _, _, H1, rfl, I1.kept (t' := s1.toks) fun b o e => Heap.get?_push_of_some _ e, turn_listH a _, ⟨_, Heap.get?_push_size _ rfl, rfl, rfl⟩, fun b hb => ?_, q⟩
  have e : b = s1.heap.objs.size := by simpa using hb
  subst e
  exact I1.fpOk (Nat.le_refl _) (I1.hok.fresh (Nat.le_refl _))
/-- a def that may be called by its name where an exception is handled -/
structure CalH (P : Program) (w : World) (K : PySem.W.Frag) (mg : Str → Option Value) (base : Heap) (k : Nat) (x : Str) (sp : Sp) : Prop where
  ex : ∃ (f : Addr) (fd : FuncData) (ps : List Str), FnH P w K mg base CX0 k f fd ps sp ∧ mg x = some (.ref f) ∧ PySem.W.keepIn K (.ref f) = true ∧ Binds K fd ps []
section
variable {X : Cx} {k j : Nat} {x : Str} {sp : Sp} {p pos : Pos} {e : Expr} {es : List Expr} {t : TA}
theorem pe_cH (c : CalH X.prog X.w X.K X.mg X.base k x sp) (hr : RoomH j X.A) (hk : k ≤ j) (hot : HotC X) (ha : PA X (e :: es) t) (hg : Gl X x := by rfl)
    (hdb : (x == ("__debug__" : Str)) = false := by decide) (he : starEach (e :: es) X.env = (false, eval e X.env) :: starEach es X.env := by rfl) (hpl : (backTo pos (starEach es X.env)).any (·.1) = false := by rfl) :
    PE X (.Call (.Name x p) (e :: es) [] pos) (tCallS sp (fun _ => E0) t) := by
  obtain ⟨f, fd, ps, F, hm, kp, b⟩ := c.ex
  exact pe_callH F (hr.mono hk) hot hg hm kp b (fun σ _ _ _ _ _ _ h => h.elim) ha hdb he hpl
end
section
variable {P : Program} {w : World} {K : PySem.W.Frag} {mg : Str → Option Value} {base : Heap}
/-- as Fun.ok, for a def that is called where an exception is handled -/
theorem okH {x qual : Str} {st : Stmt} {f : Addr} {fd : FuncData} {N ps : List Str} {k : Nat} {sp : Sp} (F : Fun K x qual st f fd) (S : FnScope N ps (defScope st)) (len : ∀ vs H Q E, sp vs H Q E → vs.length = ps.length)
    (hbody : ∀ (cdv : Value) (A : Around) (outer : List Env) (s : Shared) (H : Hp) (vs : List V) (Q : VK) (E : XK) (p : Addr × Obj), HotC (cxH CX0 P w K mg base N qual (defScope st) f cdv A outer s H E p).nox → RoomH k (A.deeper (envOfC qual (defScope st) s.heap.objs.size f cdv)) → sp vs H Q E →
      ∃ t, PSs (cxH CX0 P w K mg base N qual (defScope st) f cdv A outer s H E p).nox (defBody st) t ∧ t { nx := fun _ H' => Q .non H', rt := Q } (L2.start N vs) H) : FnH P w K mg base CX0 (k + 1) f fd ps sp := by
  obtain ⟨oc, od, kV, doc, pm, an, cdv, ct, osl, rfl, lk, hcd⟩ := F.ex
  refine fn_ofH lk hcd S len fun A outer s H vs Q E p hot hr hsp => ?_
  obtain ⟨t, h, q⟩ := hbody cdv A outer s H vs Q E p ⟨p, hot, List.mem_singleton.mpr rfl⟩ hr hsp
  exact ⟨t, h.nox, q⟩
/-- as Fun.okX, with the context of what is raised -/
theorem okXN {x qual : Str} {st : Stmt} {f : Addr} {fd : FuncData} {N ps : List Str} {k : Nat} {sp : Sp} (F : Fun K x qual st f fd) (S : FnScope N ps (defScope st)) (len : ∀ vs H Q E, sp vs H Q E → vs.length = ps.length)
    (hbody : ∀ (cdv : Value) (A : Around) (outer : List Env) (s : Shared) (H : Hp) (vs : List V) (Q : VK) (E : XK), Room k (A.deeper (envOfC qual (defScope st) s.heap.objs.size f cdv)) → sp vs H Q E →
      ∃ t, PSs (cxOf (L2N.CX P w) P w K mg base N qual (defScope st) f cdv A outer s H E) (defBody st) t ∧ t { nx := fun _ H' => Q .non H', rt := Q } (L2.start N vs) H) : FnOk P w K mg base (L2N.CX P w) (k + 1) f fd ps sp := by
  obtain ⟨oc, od, kV, doc, pm, an, cdv, ct, osl, rfl, lk, hcd⟩ := F.ex
  exact fn_of lk hcd S len fun A outer s H vs Q E hr hsp => hbody cdv A outer s H vs Q E hr hsp
theorem passLN {X : Cx} : Passes (L2N.CX X.prog X.w) X E0 := fun _ _ _ _ _ _ _ h => by
  obtain ⟨_, _, _, _, _, _, _, _, _, _, _, _, z⟩ := h
  exact z.elim
theorem takes0N {X : Cx} : L2N.Takes X (fun _ _ _ _ => False) := fun _ _ x => by
  obtain ⟨_, _, _, _, _, _, _, _, _, _, _, _, _, _, _, _, z⟩ := x
  exact z.elim
end
section
variable {X : Cx} {k j : Nat} {x : Str} {sp : Sp} {p pos : Pos} {e : Expr} {es : List Expr} {t : TA} {W : WX}
/-- a call within a try, what it lets out is the clause's -/
theorem pe_cSN (c : Cal X.prog X.w X.K X.mg X.base (L2N.CX X.prog X.w) k x sp) (hr : Room j X.A) (hk : k ≤ j) (tk : L2N.Takes X W) (ha : PA X (e :: es) t) (hg : Gl X x := by rfl)
    (hdb : (x == ("__debug__" : Str)) = false := by decide) (he : starEach (e :: es) X.env = (false, eval e X.env) :: starEach es X.env := by rfl) (hpl : (backTo pos (starEach es X.env)).any (·.1) = false := by rfl) :
    PE X (.Call (.Name x p) (e :: es) [] pos) (tCallS sp (WE W) t) := by
  obtain ⟨f, fd, ps, F, hm, kp, b⟩ := c.ex
  exact pe_callS F (hr.mono hk) hg hm kp b (fun σ => L2N.passAt tk σ) ha hdb he hpl
/-- the suite of an except clause bears what it handles -/
theorem hot_suite {a : Addr} {oe : Obj} {cls : Value} {d : Option Addr} {pn : List (Addr × Obj)} (hz : L2N.Zn cls d oe) (hf : ∃ vs, oe.data = .fields vs) : HotC (X.suite a ((a, oe) :: pn)) := by
  obtain ⟨vs, hd⟩ := hf
  exact ⟨(a, oe), ⟨rfl, vs, hd, hz.2.2 vs hd⟩, List.mem_cons_self⟩
theorem room_suite {a : Addr} {pn : List (Addr × Obj)} (hr : Room k X.A) : RoomH k (X.suite a pn).A := ⟨hr.dp, hr.un⟩
end
end Sn

/-! My own words: sorted of lists and dicts of tuples that begin with one text and go on with ints. -/
namespace TSN
open PySem PyProof.Rows TS
def TupN (h : Heap) (v : Value) (x : Str) (ns : List Int) : Prop := ∃ a xs t r, v = .ref a ∧ IsTup h a xs ∧ xs.toList = .str x t :: r ∧ IntsAre r ns
theorem TupN.keeps {h h' : Heap} {v : Value} {x : Str} {ns : List Int} (y : TupN h v x ns) (k : ∀ b o, h.get? b = some o → o.cls = .type "tuple" → h'.get? b = some o) : TupN h' v x ns := by
  obtain ⟨a, xs, t, r, e, ⟨o, ho, hc, hd⟩, i⟩ := y
  exact ⟨a, xs, t, r, e, ⟨o, k _ _ ho hc, hc, hd⟩, i⟩
def intsN (h : Heap) (v : Value) : List Int := (intsOf h v).tail
theorem TupN.ints {h : Heap} {v : Value} {x : Str} {ns : List Int} (y : TupN h v x ns) : intsN h v = ns := by
  obtain ⟨a, xs, t, r, rfl, ⟨o, ho, hc, n, hd⟩, e, i⟩ := y
  simp only [intsN, intsOf, ho, hd]
  rw [e, List.map_cons, List.tail_cons]
  exact i.nums
def OkN (h : Heap) (x : Str) (d : Nat) (B : Int) (vs : List Value) : Prop := ∀ v, v ∈ vs → ∃ ns, TupN h v x ns ∧ ns.length = d ∧ Bd B ns
theorem OkN.keeps {h h' : Heap} {x : Str} {d : Nat} {B : Int} {vs : List Value} (y : OkN h x d B vs) (k : ∀ b o, h.get? b = some o → o.cls = .type "tuple" → h'.get? b = some o) : OkN h' x d B vs := fun v hv =>
  let ⟨ns, t, r⟩ := y v hv; ⟨ns, t.keeps k, r⟩
theorem firsts_of {h : Heap} {x : Str} {d : Nat} {B : Int} : ∀ vs : List Value, OkN h x d B vs → ∃ fs, PySem.W.KatTups h vs fs ∧ fs.length = vs.length ∧ ∀ f, f ∈ fs → ∃ t, f = Value.str x t
  | [], _ => ⟨[], PySem.W.KatTups.nil, rfl, fun f hf => by simp at hf⟩
  | v :: vs, y => by
    obtain ⟨fs, k, hl, hi⟩ := firsts_of vs fun u hu => y u (List.mem_cons_of_mem _ hu)
    obtain ⟨ns, ⟨a, xs, t, r, rfl, ⟨o, ho, hc, n, hdt⟩, e, i⟩, hn, _⟩ := y v (List.mem_cons_self ..)
    refine ⟨.str x t :: fs, PySem.W.KatTups.cons ho hc hdt ?_ k, by simp [hl], ?_⟩
    · have z := congrArg (fun l : List Value => l[0]?) e
      simpa using z
    · intro f hf
      rcases List.mem_cons.mp hf with rfl | hf
      · exact ⟨t, rfl⟩
      · exact hi f hf
section
variable {prog : Program} {w : World} {A : Around} {E : Value → Shared → Prop} {s : Shared}
theorem kind_tupsN {x : Str} {d : Nat} {B : Int} {vs : List Value} (h2 : 2 ≤ vs.length) (y : OkN s.heap x d B vs) (r : Value → Int) (hr : ∀ v, v ∈ vs → ∀ ns, TupN s.heap v x ns → r v = code B ns) (Q : SortKind → Shared → Prop)
    (h : ∀ κ, Cmp prog w A s κ (pairsOf vs) r → Q κ s) : wpAny (model prog w) A (keyKind' vs.toArray) Q E s := by
  obtain ⟨fs, k, hl, hi⟩ := firsts_of vs y
  refine PySem.W.kat_kind (T := Value.type "str") k (by omega) (fun f hf => ?_) rfl (h _ ?_)
  · obtain ⟨t, rfl⟩ := hi f hf
    exact PySem.W.Looks.of_pure rfl
  · intro p q hp hq Q' E' hQ
    rw [pairsOf_toList] at hp hq
    obtain ⟨ns, tp, lp, bp⟩ := y _ (mem_zip_self hp).2
    obtain ⟨ms, tq, lq, bq⟩ := y _ (mem_zip_self hq).2
    have ep := hr _ (mem_zip_self hp).2 _ tp
    have eq2 := hr _ (mem_zip_self hq).2 _ tq
    have hQ' : Q' (decide (code B ns < code B ms)) s := by
      have z : decide (r p.1 < r q.1) = decide (code B ns < code B ms) := by rw [ep, eq2]
      rw [← z]; exact hQ
    obtain ⟨a, xs, t1, r1, e1, ⟨o, ho, hc, n, hdt⟩, x1, i⟩ := tp
    obtain ⟨a', ys, t2, r2, e2, ⟨o', ho', hc', n', hdt'⟩, x2, i'⟩ := tq
    rw [e1, e2]
    refine PySem.W.kat_lt ho hdt ho' hdt' ?_
    have sz : decide (xs.size < ys.size) = false := by
      have l1 := i.length
      have l2 := i'.length
      have l3 := congrArg List.length x1
      have l4 := congrArg List.length x2
      rw [Array.length_toList, List.length_cons] at l3 l4
      exact decide_eq_false (by omega)
    rw [sz, x1, x2]
    show PySem.W.KatLex prog w A _ false Q' ((Value.str x t1, Value.str x t2) :: r1.zip r2) 0 s
    refine PySem.W.kat_cons (wpAny_eqBool_str ?_)
    rw [decide_eq_true rfl]
    exact PySem.W.kat_yes (lex_ints 1 i i' (by omega) bp bq hQ')
theorem sort_tupsN {x : Str} {a : Addr} {vs : List Value} {n d : Nat} {B : Int} {P : PySem.Fin → Shared → Prop} (ho : s.heap.get? a = some (seqObj "list" vs.toArray n)) (h64 : vs.length < 64) (y : OkN s.heap x d B vs)
    (r : Value → Int) (hr : ∀ v, v ∈ vs → ∀ ns, TupN s.heap v x ns → r v = code B ns)
    (h : ∀ out : Array Value, out.toList.Perm vs → out.toList.Pairwise (fun u v => r u ≤ r v) → P (.done (.ret .none)) { s with heap := sortedHeap s.heap a vs out }) :
    wpAny (model prog w) A (Builtin.«list.sort» ⟨[.ref a], []⟩) P E s := by
  have keep : ∀ b o, s.heap.get? b = some o → o.cls = .type "tuple" → (midHeap s.heap a vs).get? b = some o := fun b o e hc => by
    refine midHeap_old ?_ e
    rintro rfl
    rw [ho] at e
    have e' : seqObj "list" vs.toArray n = o := Option.some.inj e
    rw [← e'] at hc
    have c' : Value.type "list" = Value.type "tuple" := hc
    injection c' with c''
    exact absurd c'' (by decide)
  refine SK.plain_sort (r := r) ho h64 (fun h2 Q hQ => ?_) fun ps out h1 h2 h3 => ?_
  · refine kind_tupsN (s := { s with heap := midHeap s.heap a vs }) h2 (y.keeps keep) r (fun v hv ns t => ?_) Q hQ
    obtain ⟨ns0, t0, _⟩ := y v hv
    have e : ns = ns0 := t.ints.symm.trans (t0.keeps keep).ints
    rw [e]
    exact hr v hv ns0 t0
  · obtain ⟨p, o⟩ := out_rank h1 h2 h3
    exact h out p o
theorem sorted_tupsN {x : Str} {l : Addr} {vs : List Value} {d : Nat} {B : Int} {Q : Value → Shared → Prop} (hl : s.heap.IsList l vs.toArray) (h64 : vs.length < 64) (y : OkN s.heap x d B vs)
    (h : ∀ out : Array Value, out.toList.Perm vs → out.toList.Pairwise (fun u v => code B (intsN s.heap u) ≤ code B (intsN s.heap v)) → Q (.ref (s.heap.objs.size + 1)) { s with heap := sortedAll s.heap vs out }) :
    wpAny (model prog w) A (call (.builtin "sorted") [.ref l]) Q E s := by
  refine Calls.call_function_entry kind_sorted plain_sorted entry_sorted (args_sorted1 _) ?_
  unfold Builtin.«sorted»
  refine wpAny_bind (m := checkCount "sorted" 1 1 _) (wpAny_pure ?_)
  refine wpAny_bind (collect_list hl ?_ (by rw [sizeLine_eq]; omega))
  refine wpAny_bind (wpAny_newList ?_ (by rw [sizeLine_eq]; omega))
  have hsz : ((s.heap.push (seqObj "list" #[] 0)).update s.heap.objs.size (Obj.mapSeq (· ++ vs.toArray))).objs.size = s.heap.objs.size + 1 := by
    rw [Heap.size_update, size_push']
  have hoL : (((s.heap.push (seqObj "list" #[] 0)).update s.heap.objs.size (Obj.mapSeq (· ++ vs.toArray))).push (seqObj "list" vs.toArray 0)).get? (s.heap.objs.size + 1) = some (seqObj "list" vs.toArray 0) := by
    rw [← hsz]; exact Heap.get?_push_size _ rfl
  have keep : ∀ b o, s.heap.get? b = some o → o.cls = .type "tuple" → (((s.heap.push (seqObj "list" #[] 0)).update s.heap.objs.size (Obj.mapSeq (· ++ vs.toArray))).push (seqObj "list" vs.toArray 0)).get? b = some o := fun b o q _ => by
    have hlt : b < s.heap.objs.size := Heap.lt_size q
    rw [Heap.get?_push_ne _ _ _ (by rw [hsz]; exact Nat.ne_of_lt (Nat.lt_succ_of_lt hlt)), Heap.get?_update_ne _ _ _ _ (Nat.ne_of_lt hlt), Heap.get?_push_ne _ _ _ (Nat.ne_of_lt hlt)]
    exact q
  show wpAny _ _ _ _ _ { s with heap := ((s.heap.push (seqObj "list" #[] 0)).update s.heap.objs.size (Obj.mapSeq (· ++ vs.toArray))).push (seqObj "list" vs.toArray 0) }
  rw [hsz]
  refine wpAny_bind (wpAny_holding (wpAny_call_entry slot_list_sort ⟨_, hoL, rfl⟩ entry_list_sort (sort_tupsN hoL h64 (y.keeps keep) (fun v => code B (intsN s.heap v)) (fun v hv ns t => ?_) fun out a1 a2 => ⟨_, rfl, ?_⟩) (args_list_sort _)))
  · obtain ⟨ns0, t0, _⟩ := y v hv
    have e : ns = ns0 := t.ints.symm.trans (t0.keeps keep).ints
    rw [e]
    show code B (intsN s.heap v) = code B ns0
    rw [t0.ints]
  · exact wpAny_pure ⟨_, rfl, h out a1 a2⟩
end
end TSN
namespace Sn
open PySem PySem.Spec PyProof.Rows L2 PySem.W
/-- a tuple of a text and two ints -/
def TN (H : Hp) (x : Str) (b : Addr) (k : Int × Int) : Prop := H b = some (.tup [.str x, .int k.1, .int k.2])
section
variable {X : Cx}
theorem ints_vals : ∀ {ns : List Int} {us : List Value}, Vals (ns.map V.int) us → IntsAre us ns
  | [], _, h => by
    cases h
    exact .nil
  | n :: r, _, h => by
    cases h with
    | cons a b =>
      obtain ⟨t, rfl⟩ := a
      exact .cons n t (ints_vals b)
theorem tupN_raw {pins : List (Addr × Obj)} {σ : L2.St} {H : Hp} {s : Shared} (I : Inv X pins σ H s) {x : Str} {b : Addr} {k : Int × Int} (h : TN H x b k) : TSN.TupN s.heap (.ref b) x [k.1, k.2] := by
  obtain ⟨its, rv, hT, _⟩ := I.tuple (show SqT X.K H b [.str x, .int k.1, .int k.2] from .inl (.inl h))
  cases rv with
  | cons a r =>
    obtain ⟨t, rfl⟩ := a
    exact ⟨b, _, t, _, rfl, hT, by simp, ints_vals (ns := [k.1, k.2]) r⟩
/-- sorted(xs), xs a list of fewer than 64 tuples of one text and two ints in [0, B) -/
def rSortN (x : Str) (B : Int) : List V → Hp → VK → Prop := fun vs H Q => ∃ (a : Addr) (ks : List (Addr × (Int × Int))), vs = [V.ref a] ∧ H a = some (.lst (ks.map fun k => V.ref k.1)) ∧ ks.length < 64 ∧ (∀ k ∈ ks, TN H x k.1 k.2 ∧ 0 ≤ k.2.1 ∧ k.2.1 < B ∧ 0 ≤ k.2.2 ∧ k.2.2 < B) ∧
  ∀ (ys : List (Addr × (Int × Int))) (p : Addr), ys.Perm ks → ys.Pairwise (fun u v => TS.code B [u.2.1, u.2.2] ≤ TS.code B [v.2.1, v.2.2]) → H p = none → Q (.ref p) (upd H p (.lst (ys.map fun k => V.ref k.1)))
theorem refs_split {ks : List (Addr × (Int × Int))} : Vals (ks.map fun k => V.ref k.1) (ks.map fun k => Value.ref k.1) := by
  induction ks with
  | nil => exact .nil
  | cons k r ih => exact .cons rfl ih
theorem vals_refs_eq : ∀ {ks : List (Addr × (Int × Int))} {us : List Value}, Vals (ks.map fun k => V.ref k.1) us → us = ks.map fun k => Value.ref k.1
  | [], _, h => by
    cases h
    rfl
  | k :: r, _, h => by
    cases h with
    | cons a b =>
      cases a
      rw [vals_refs_eq b]
      rfl
/-- a permutation of values comes from one of what they stand for -/
theorem perm_lift {ks : List (Addr × (Int × Int))} : ∀ {out : List Value}, out.Perm (ks.map fun k => Value.ref k.1) → ∃ ys : List (Addr × (Int × Int)), ys.Perm ks ∧ out = ys.map fun k => Value.ref k.1 := by
  intro out h
  generalize e : (ks.map fun k => Value.ref k.1) = l at h
  induction h generalizing ks with
  | nil =>
    cases ks with
    | nil => exact ⟨[], .refl _, rfl⟩
    | cons k r => cases e
  | cons x p ih =>
    cases ks with
    | nil => cases e
    | cons k r =>
      injection e with e1 e2
      obtain ⟨ys, a, b⟩ := ih e2
      subst e1
      exact ⟨k :: ys, a.cons k, by rw [List.map_cons, b]⟩
  | swap x y l =>
    cases ks with
    | nil => cases e
    | cons k r =>
      injection e with e1 e2
      cases r with
      | nil => cases e2
      | cons k2 r =>
        injection e2 with e2 e3
        subst e1 e2 e3
        exact ⟨k2 :: k :: r, .swap _ _ _, rfl⟩
  | trans p q ih1 ih2 =>
    obtain ⟨ys, a, b⟩ := ih2 e
    obtain ⟨zs, c, d⟩ := ih1 b.symm
    exact ⟨zs, c.trans a, d⟩
theorem okN_of {pins : List (Addr × Obj)} {σ : L2.St} {H : Hp} {s : Shared} (I : Inv X pins σ H s) {x : Str} {B : Int} {ks : List (Addr × (Int × Int))} (h : ∀ k ∈ ks, TN H x k.1 k.2 ∧ 0 ≤ k.2.1 ∧ k.2.1 < B ∧ 0 ≤ k.2.2 ∧ k.2.2 < B) : TSN.OkN s.heap x 2 B (ks.map fun k => Value.ref k.1) := fun v hv => by
  obtain ⟨k, hk, rfl⟩ := List.mem_map.mp hv
  obtain ⟨a, b1, b2, b3, b4⟩ := h k hk
  refine ⟨_, tupN_raw I a, rfl, fun m hm => ?_⟩
  rcases List.mem_cons.mp hm with rfl | hm
  · exact ⟨b1, b2⟩
  rcases List.mem_cons.mp hm with rfl | hm
  · exact ⟨b3, b4⟩
  · cases hm
theorem pw_of {pins : List (Addr × Obj)} {σ : L2.St} {H : Hp} {s : Shared} (I : Inv X pins σ H s) {x : Str} {B : Int} {ks ys : List (Addr × (Int × Int))} (h : ∀ k ∈ ks, TN H x k.1 k.2 ∧ 0 ≤ k.2.1 ∧ k.2.1 < B ∧ 0 ≤ k.2.2 ∧ k.2.2 < B) (hp : ys.Perm ks)
    (pw : (ys.map fun k => Value.ref k.1).Pairwise (fun u v => TS.code B (TSN.intsN s.heap u) ≤ TS.code B (TSN.intsN s.heap v))) : ys.Pairwise (fun u v => TS.code B [u.2.1, u.2.2] ≤ TS.code B [v.2.1, v.2.2]) := by
  rw [List.pairwise_map] at pw
  refine List.Pairwise.imp_of_mem (fun {u v} hu hv q => ?_) pw
  rw [(tupN_raw I (h u (hp.mem_iff.mp hu)).1).ints, (tupN_raw I (h v (hp.mem_iff.mp hv)).1).ints] at q
  exact q
theorem cr_sortN {x : Str} {B : Int} : CallR X (.builtin "sorted") (rSortN x B) := by
  intro pins s σ H xs us Q I r h
  obtain ⟨a, ks, rfl, ha, h64, hk, q⟩ := h
  obtain ⟨its, rv, hl, hz⟩ := I.list (SqL.of (K := X.K) ha)
  rw [Vals.ref1 r]
  have e1 := vals_refs_eq rv
  subst e1
  refine TSN.sorted_tupsN (x := x) (d := 2) (B := B) hl.isList (by rw [List.length_map]; exact h64) (okN_of I hk) fun out h1 h2 => ?_
  obtain ⟨ys, hp, he⟩ := perm_lift h1
  obtain ⟨ep, he'⟩ := PyProof.Rows.sortedAll_at s.heap (ks.map fun k => Value.ref k.1) out
  have hlen : (ys.map fun k => V.ref k.1).length ≤ sizeLine := by
    rw [List.length_map, hp.length_eq]
    exact Nat.le_trans (Nat.le_of_lt h64) (by decide)
  refine ⟨.ref _, upd H (s.heap.objs.size + 1) (.lst (ys.map fun k => V.ref k.1)), I.laid (t' := s.toks) (fun _ _ => PyProof.Rows.sortedAll_old) (Nat.le_succ _) ⟨hlen, out.toList, ep, by rw [he]; exact refs_split, he'⟩, rfl, q ys _ hp (pw_of I hk hp (by rw [← he]; exact h2)) (I.hok.fresh (Nat.le_succ _))⟩
/-- the keys that a dict gives, with that they are unlike -/
theorem keys_out {X : Cx} {H : Hp} {s : Shared} {d : Addr} {kvs : List (List L2.Key × V)} {pins : List (Addr × Obj)} {σ : L2.St} (I : Inv X pins σ H s) (hd : Rd H d (.dT kvs)) :
    ∃ (ks : List (List L2.Key × Addr × Value)) (o : Obj) (es : Array DictEntry) (ep : Nat), s.heap.get? d = some o ∧ o.ExactDict ∧ o.data = .dict es ep ∧ es.size = ks.length ∧ kvs.length = ks.length ∧ kvs.length ≤ sizeLine ∧ (d == sysModules) = false ∧ IsKeys H kvs (ks.map fun x => x.2.1) ∧ (kvs.map (·.1)).Nodup ∧
      ∀ acc : Array Value, ItemsOf (fun i v => ∃ en : DictEntry, es[i]? = some en ∧ v = en.key) acc es.size → acc.toList = ks.map fun x => Value.ref x.2.1 := by
  obtain ⟨z, hs, ks, pr, o, es, ep, ho, hx, hdt, he, hn⟩ := (show ObjOk X.prog X.w H s.heap d (.dT kvs) from hd.ok I.hok)
  have l1 : es.size = ks.length := size_of_entries he
  have l2 : kvs.length = ks.length := Paired.length pr
  have ek : kvs.map (·.1) = ks.map (·.1) := by
    clear hn he hdt l1 l2 z ho hd
    induction pr with
    | nil => rfl
    | cons h t ih => rw [List.map_cons, List.map_cons, ih, h.1]
  refine ⟨ks, o, es, ep, ho, hx, hdt, l1, l2, z, hs, isKeys_of pr, ek ▸ hn, fun acc it => ?_⟩
  have hl : acc.toList.length = ks.length := by rw [Array.length_toList, it.1]; exact l1
  apply List.ext_getElem?
  intro j
  rw [List.getElem?_map]
  cases hj : acc.toList[j]? with
  | none =>
    have h1 := List.getElem?_eq_none_iff.mp hj
    rw [List.getElem?_eq_none (by omega)]
    all_goals rfl
  | some v =>
    obtain ⟨en, hen, hv⟩ := it.2 j v (by rw [← Array.getElem?_toList]; exact hj)
    have qe := entry_at he j
    rw [hen] at qe
    cases hb : ks[j]? with
    | none =>
      rw [hb] at qe
      exact nomatch (show some en = none from qe)
    | some b =>
      rw [hb] at qe
      have e2 : en = entryOfKey (tupleKind (mixKind X.prog X.w)) b := Option.some.inj qe
      rw [hv, e2]
      all_goals rfl
/-- list(d), with that the keys are unlike -/
def rListT : List V → Hp → VK → Prop := fun xs H Q => ∃ d kvs, xs = [V.ref d] ∧ Rd H d (.dT kvs) ∧ ((kvs.map (·.1)).Nodup → ∀ p bs, H p = none → IsKeys H kvs bs → Q (.ref p) (upd H p (.lst (bs.map V.ref))))
theorem call_list_dTn (hc : X.calm = true) : CallR X (.type "list") rListT := by
  intro pins s σ H xs us Q I r h
  obtain ⟨d, kvs, rfl, hd, q⟩ := h
  obtain ⟨ks, o, es, ep, ho, hx, hdt, l1, l2, z, hs, ik, nd, _⟩ := keys_out I hd
  exact call_list_dT hc pins s σ H [V.ref d] us Q I r ⟨d, kvs, rfl, hd, q nd⟩
/-- sorted(d) of a dict whose keys are a text and two ints -/
def rSortDN (x : Str) (B : Int) : List V → Hp → VK → Prop := fun xs H Q => ∃ (d : Addr) (kvs : List (List L2.Key × V)), xs = [V.ref d] ∧ Rd H d (.dT kvs) ∧ ((kvs.map (·.1)).Nodup → kvs.length < 64 ∧ (∀ p ∈ kvs, ∃ i j : Int, p.1 = [.inr x, .inl i, .inl j] ∧ 0 ≤ i ∧ i < B ∧ 0 ≤ j ∧ j < B) ∧
  ∀ (ys : List (Addr × (Int × Int))) (p : Addr), (∀ y ∈ ys, TN H x y.1 y.2) → (ys.map fun y => ([.inr x, .inl y.2.1, .inl y.2.2] : List L2.Key)).Perm (kvs.map (·.1)) → ys.Pairwise (fun u v => TS.code B [u.2.1, u.2.2] ≤ TS.code B [v.2.1, v.2.2]) → H p = none → Q (.ref p) (upd H p (.lst (ys.map fun k => V.ref k.1))))
theorem call_sortedDN {x : Str} {B : Int} (hcalm : X.calm = true) : CallR X (.builtin "sorted") (rSortDN x B) := by
  intro pins s σ H xs us Q I r h
  obtain ⟨d, kvs, rfl, hd, q⟩ := h
  obtain ⟨u, eu, rx⟩ := vals1 r
  subst eu
  cases rx
  obtain ⟨ks, o, es, ep, ho, hx, hdt, l1, l2, z, lo, ik, nd, out1⟩ := keys_out I hd
  obtain ⟨h64, hk, q2⟩ := q nd
  -- the keys as pairs
  obtain ⟨ps, hps, hpk⟩ : ∃ ps : List (Addr × (Int × Int)), (ps.map (·.1)) = ks.map (fun x => x.2.1) ∧ (ps.map fun y => ([.inr x, .inl y.2.1, .inl y.2.2] : List L2.Key)) = kvs.map (·.1) ∧ ∀ y ∈ ps, TN H x y.1 y.2 ∧ 0 ≤ y.2.1 ∧ y.2.1 < B ∧ 0 ≤ y.2.2 ∧ y.2.2 < B := by
    clear q q2 out1 l2 l1 hdt hx ho nd z h64 hd r
    unfold IsKeys at ik
    generalize (ks.map fun x => x.2.1) = bs at ik
    induction ik with
    | nil => exact ⟨[], rfl, rfl, fun y hy => absurd hy (by simp)⟩
    | @cons p b kr br a _ ih =>
      obtain ⟨ps, h1, h2, h3⟩ := ih fun p hp => hk p (List.mem_cons_of_mem _ hp)
      obtain ⟨i, j, e, b1, b2, b3, b4⟩ := hk p List.mem_cons_self
      rw [e] at a
      refine ⟨(b, (i, j)) :: ps, by rw [List.map_cons, h1], by rw [List.map_cons, List.map_cons, h2, e], fun y hy => ?_⟩
      rcases List.mem_cons.mp hy with rfl | hy
      · exact ⟨a, b1, b2, b3, b4⟩
      · exact h3 y hy
  obtain ⟨hpk, hpt⟩ := hpk
  have hlen : ps.length = kvs.length := by
    have := congrArg List.length hpk
    simpa using this
  refine Calls.call_function_entry PyProof.Rows.kind_sorted PyProof.Rows.plain_sorted PyProof.Rows.entry_sorted (PyProof.Rows.args_sorted1 _) ?_
  unfold Builtin.«sorted»
  refine wpAny_bind (m := checkCount "sorted" 1 1 _) (wpAny_pure ?_)
  refine wpAny_bind (collect_kdl (A := X.A.in1) (kdl_raw lo hx hdt) (I.ok.hd hcalm) ho (by omega) fun h' tk acc hk' hacc => ?_)
  have ea : acc.toList = ps.map fun k => Value.ref k.1 := by
    rw [out1 acc hacc]
    have := congrArg (List.map Value.ref) hps
    rw [List.map_map, List.map_map] at this
    exact this.symm
  rw [ea]
  have I1 : Inv X pins σ H { s with heap := h', toks := tk } := I.kept hk'
  refine wpAny_bind (wpAny_newList ?_ (by rw [List.length_map, sizeLine_eq]; omega))
  have hoL : (h'.push (seqObj "list" (ps.map fun k => Value.ref k.1).toArray 0)).get? h'.objs.size = some (seqObj "list" (ps.map fun k => Value.ref k.1).toArray 0) := Heap.get?_push_size _ rfl
  show wpAny _ _ _ _ _ { s with heap := h'.push (seqObj "list" (ps.map fun k => Value.ref k.1).toArray 0), toks := tk }
  have ok0 : TSN.OkN h' x 2 B (ps.map fun k => Value.ref k.1) := okN_of I1 hpt
  have ok1 := ok0.keeps (h' := h'.push (seqObj "list" (ps.map fun k => Value.ref k.1).toArray 0)) fun b o e _ => Heap.get?_push_of_some _ e
  refine wpAny_bind (wpAny_holding (wpAny_call_entry PyProof.Rows.slot_list_sort ⟨_, hoL, rfl⟩ PyProof.Rows.entry_list_sort
    (TSN.sort_tupsN (s := { s with heap := h'.push (seqObj "list" (ps.map fun k => Value.ref k.1).toArray 0), toks := tk }) hoL (by rw [List.length_map]; omega) ok1 (fun v => TS.code B (TSN.intsN h' v)) (fun v hv ns t => ?_) fun out a1 a2 => ⟨_, rfl, ?_⟩)
    (PyProof.Rows.args_list_sort _)))
  · obtain ⟨ns0, t0, _⟩ := ok0 v hv
    have e : ns = ns0 := t.ints.symm.trans (t0.keeps (h' := h'.push (seqObj "list" (ps.map fun k => Value.ref k.1).toArray 0)) fun b o e _ => Heap.get?_push_of_some _ e).ints
    rw [e]
    show TS.code B (TSN.intsN h' v) = TS.code B ns0
    rw [t0.ints]
  obtain ⟨ys, hp, he⟩ := perm_lift a1
  obtain ⟨e', he'⟩ := PyProof.Rows.sortedHeap_at (out := out) hoL
  have hyl : (ys.map fun k => V.ref k.1).length ≤ sizeLine := by
    rw [List.length_map, hp.length_eq]
    exact Nat.le_trans (show ps.length ≤ 63 by omega) (by decide)
  refine wpAny_pure ⟨_, rfl, .ref h'.objs.size, upd H h'.objs.size (.lst (ys.map fun k => V.ref k.1)), I1.laid (t' := tk) (fun b u e => ?_) (Nat.le_refl _)
    (show ObjOk X.prog X.w _ _ _ (.lst (ys.map fun k => V.ref k.1)) from ⟨hyl, out.toList, e', by rw [he]; exact refs_split, by rw [Array.toArray_toList]; exact he'⟩), rfl, q2 ys _ (fun y hy => (hpt y (hp.mem_iff.mp hy)).1) ((hp.map _).trans (by rw [hpk])) (pw_of I1 hpt hp (by rw [← he]; exact a2)) (I1.hok.fresh (Nat.le_refl _))⟩
  have hb : b < h'.objs.size := Heap.lt_size e
  rw [PyProof.Rows.sortedHeap_old (Nat.ne_of_lt hb) (by rw [size_push']; exact Nat.lt_succ_of_lt hb)]
  exact Heap.get?_push_of_some _ e
/-- d.pop(k) of a dict with tuple keys, there -/
def rPopT1 : V → List V → Hp → VK → Prop := fun x xs H Q => ∃ (a : Addr) (kvs : List (List L2.Key × V)) (k : List L2.Key) (b : Addr) (v : V), x = .ref a ∧ xs = [.ref b] ∧ H a = some (.dT kvs) ∧ H b = some (.tup (k.map kV)) ∧ valV kvs k = some v ∧ Q v (upd H a (.dT (dropK kvs k)))
theorem mt_popT1 (hu : X.A.units + 1 < cLine) : MtR X "dict.pop" rPopT1 := by
  intro pins s σ H x xs v us Q I rx rxs h
  obtain ⟨a, kvs, k, b, v0, rfl, rfl, ha, hb, hv, q⟩ := h
  cases rx
  obtain ⟨u1, rfl, r1⟩ := vals1 rxs
  cases r1
  obtain ⟨z, hd, xs', rel, dd⟩ := dt_of I.hok ha
  have hz : xs'.length ≤ sizeLine := by rw [← Paired.length rel]; exact z
  have r := rel.val k
  rw [hv] at r
  cases hp : atKey xs' k with
  | none =>
    rw [hp] at r
    exact (show False from r).elim
  | some p =>
    rw [hp] at r
    have rv : RelV v0 p.2 := r
    refine call_pop_heap (knd := tupleKind (mixKind X.prog X.w)) (more := []) (.inl rfl) (PySem.F.args_dict_pop_2 _ _) (tupleKind_room_in1 hu) (key_of I.hok hb) hd dd hp (fun h' dd' hs => ?_) hz
    obtain ⟨o, es, ep, hq, h2, h3, h4, _, h5⟩ := dd'
    have kd : KT H (dropK kvs k) (withoutH xs' k) := L2.DX.KT_drop k rel
    have I2 : Inv X pins σ (upd H a (.dT (dropK kvs k))) { s with heap := h', toks := s.toks + (tupleKind (mixKind X.prog X.w)).draws k } :=
      d_write I (by rw [ha]; exact True.intro) hs ⟨o, hq⟩ ⟨Nat.le_trans (dropK_le kvs k) z, hd, _, kd.keeps (fun c ys ec => (by rw [upd_ne (ne_of ec ha (fun z => nomatch z))]; exact ec)), o, es, ep, hq, h2, h3, h4, h5⟩
    show EP X pins σ Q p.2 _
    exact ⟨v0, _, I2, rv, q⟩
end
end Sn

namespace Sn
open PySem PySem.Spec PyProof.Rows L2 TL
/-! ### the text -/
def topS (i : Nat) : Stmt := PySem.Challenge.pw_samenames_k20_keeper_is_its_definition.main.body.getD i (.Pass ⟨0, 0, 0, 0⟩)
/-- the built-in names that stand as they are -/
structure Nm (mg : Str → Option Value) : Prop where
  abs : mg "abs" = none
  int_ : mg "int" = none
  len : mg "len" = none
  range : mg "range" = none
  isinstance : mg "isinstance" = none
  bool_ : mg "bool" = none
  str_ : mg "str" = none
  tuple_ : mg "tuple" = none
  list_ : mg "list" = none
section
variable {P : Program} {w : World} {K : PySem.W.Frag} {mg : Str → Option Value} {base : Heap} {f : Addr} {fd : FuncData}
abbrev s_tape : Stmt := topS 9
abbrev N_tape : List Str := ["script", "cell", "cells", "seed"]
theorem sc_tape : FnScope N_tape ["script"] (defScope s_tape) := ⟨rfl, rfl, rfl, by decide +kernel, rfl, by decide +kernel, by decide +kernel⟩
theorem nonneg_abs (i : Int) : 0 ≤ (if i < 0 then -i else i) := by
  split <;> omega
theorem ok_tape (F : Fun K "_law_tape" "_law_tape" s_tape f fd) (T : Nm mg) : FnOk P w K mg base CX0 1 f fd ["script"] (spTape K) := by
  refine F.ok sc_tape (fun vs H Q E h => ?_) (fun cdv A outer s H vs Q E hr h => ?_)
  · obtain ⟨a, ns, rfl, _⟩ := h
    rfl
  obtain ⟨a, ns, rfl, hS, hl, q⟩ := h
  refine ⟨_, (pss_cons (ps_setLc (i := 2) (own := [(("cell" : Str), 1)]) (g := (gName 1)) (tt := tYes) (by rfl) sc_tape.nd rfl rfl (sw_true rfl rfl rfl (by decide +kernel)) (pi_list (pv 0)) (blkOk_by (N := N_tape) (sc := defScope s_tape) (by decide +kernel)) (fun _ _ _ _ _ => (pg_name (i := 1) sc_tape.nd rfl (Or.inl rfl))) (fun _ _ _ _ _ => pts_nil) (fun _ _ _ _ _ => (pe_callB call_abs (by rfl) T.abs (by decide +kernel) (pa_cons (pe_callTy call_int1 (by rfl) T.int_ (by decide +kernel) (pa_cons (pv 1) pa_nil)) pa_nil))))
    (pss_cons (ps_set (i := 3) sc_tape.nd rfl (Or.inl rfl) pe_int)
    (pss_cons (ps_for PassesOwn.never rfl (pi_list (pv 2)) (pg_name (i := 1) sc_tape.nd rfl (Or.inl rfl)) (pss_one (ps_set (i := 3) sc_tape.nd rfl (Or.inl rfl) (pe_op op_mod (pe_callTy call_int1 (by rfl) T.int_ (by decide +kernel) (pa_cons (pe_op op_add (pe_op op_mul (pv 3) pe_int) (pv 1)) pa_nil)) pe_int))))
    (pss_one (ps_ret (pe_disp (pps_cons pe_str (pv 2) (pps_cons pe_str pe_int (pps_cons pe_str pe_int (pps_cons pe_str (pv 3) (pps_cons pe_str pe_int pps_nil))))) (by rfl) (by rfl) (fun z => by cases z) (by decide))))))), ?_⟩
  -- cells
  refine ⟨_, rfl, a, rfl, ⟨_, hS⟩, fun D hD => ?_⟩
  have s1 : Same H (upd H D (.lst [])) := same_new hD
  refine lc_list (K := K) (a := a) (xs := ns.map V.int) (fun i H' => Same H H' ∧ ∃ cs : List Int, H' D = some (.lst (cs.map V.int)) ∧ cs.length = i ∧ ∀ x ∈ cs, 0 ≤ x)
    ⟨s1, [], upd_same, rfl, fun _ h => nomatch h⟩ (fun i H' _ h => h.1.seq hS) ?_ ?_
  · rintro i x H' hi ⟨sm, cs, hd, hc, hp⟩
    obtain ⟨u, rfl⟩ : ∃ u, x = V.int u := by
      rw [List.getElem?_map] at hi
      cases e : ns[i]? with
      | none => rw [e] at hi; cases hi
      | some u => rw [e] at hi; exact ⟨u, (Option.some.inj hi).symm⟩
    have hi2 : i < ns.length := by
      have z := (List.getElem?_eq_some_iff.mp hi).1
      rwa [List.length_map] at z
    refine ⟨rfl, ?_⟩
    refine ⟨_, rfl, .inl ⟨_, rfl, _, rfl, cs.map V.int, hd, ?_, ?_⟩⟩
    · rw [List.length_map]; exact Nat.lt_of_lt_of_le (show cs.length < 1000 by omega) (by decide)
    · refine ⟨fun b o e => ?_, cs ++ [if u < 0 then -u else u], ?_, by simp [hc], fun y hy => ?_⟩
      · rw [upd_ne (ne_of_none e hD)]; exact sm _ _ e
      · rw [upd_same, List.map_append] <;> rfl
      · rcases List.mem_append.mp hy with hy | hy
        · exact hp y hy
        · rw [List.mem_singleton.mp hy]; exact nonneg_abs u
  · rintro H1 ⟨sm, cs, hd, hc, hp⟩
    -- seed
    refine ⟨_, rfl, D, rfl, ⟨_, .inl (.inl hd)⟩, for_list (K := K) (a := D) (xs := cs.map V.int) (fun i σ H' => ∃ (v : Option V) (se : Int), σ = [some (.ref a), v, some (.ref D), some (.int se)] ∧ H' = H1 ∧ 0 ≤ se ∧ se < 2147483647)
      ⟨none, 7, rfl, rfl, by decide, by decide⟩ (fun i σ H' _ ⟨_, _, _, e, _⟩ => by rw [e]; exact .inl (.inl hd)) ?_ ?_⟩
    · rintro i x σ H' hi ⟨v, se, rfl, rfl, h0, h1⟩
      obtain ⟨u, rfl⟩ : ∃ u, x = V.int u := by
        rw [List.getElem?_map] at hi
        cases e : cs[i]? with
        | none => rw [e] at hi; cases hi
        | some u => rw [e] at hi; exact ⟨u, (Option.some.inj hi).symm⟩
      refine ⟨_, rfl, _, _, rfl, rfl, .inr ⟨by decide, by decide⟩, _, rfl, _, _, rfl, rfl, .inl ⟨_, rfl, _, _, rfl, rfl, (by show (0 : Int) < 2147483647; decide), ?_⟩⟩
      exact ⟨_, _, rfl, rfl, Int.emod_nonneg _ (by decide), Int.emod_lt_of_pos _ (by decide)⟩
    · rintro σ H' ⟨v, se, rfl, rfl, h0, h1⟩
      -- the dict
      intro t ht
      have hDt : D ≠ t := ne_of_none hd ht
      refine ⟨_, rfl, ?_⟩
      refine ⟨_, rfl, ?_⟩
      refine ⟨upd_same, tk D 0 0 se 0, rfl, (by show 5 ≤ 15; decide), ?_⟩
      rw [upd_upd]
      have e : mergeK [] (tk D 0 0 se 0) = tk D 0 0 se 0 := by kernel_rfl
      rw [e]
      exact q t D _ (fun b o z => by rw [upd_ne (ne_of_none (sm _ _ z) ht)]; exact sm _ _ z) (sm.free ht) hD
        ⟨cs, 0, 0, se, 0, upd_same, by rw [upd_ne hDt]; exact hd, hp, by decide, by decide, h0, h1⟩

abbrev s_take : Stmt := topS 10
abbrev N_take : List Str := ["tape", "many", "drawn", "mixed"]
theorem sc_take : FnScope N_take ["tape", "many"] (defScope s_take) := ⟨rfl, rfl, rfl, by decide +kernel, rfl, by decide +kernel, by decide +kernel⟩
theorem ok_take (F : Fun K "_law_take" "_law_take" s_take f fd) (T : Nm mg) : FnOk P w K mg base CX0 1 f fd ["tape", "many"] spTake := by
  refine F.ok sc_take (fun vs H Q E h => ?_) (fun cdv A outer s H vs Q E hr h => ?_)
  · obtain ⟨t, c, n, rfl, _⟩ := h
    rfl
  obtain ⟨t, c, n, rfl, ⟨cs, a, l, se, sa, z⟩, hn, hn2, q⟩ := h
  refine ⟨_, (C8.pss_cut (ps_if (PW.pt (pw_and (pt_cmpR op_eq (pe_dget (hu_of hr) (pv 0) pe_str (fun _ _ => rfl)) pe_int (nomark _)) (pw_and1 (pt_cmpR op_lt (pe_dget (hu_of hr) (pv 0) pe_str (fun _ _ => rfl)) (pe_callB call_len_seq (by rfl) T.len PySem.boot_len (pa_cons (pe_dget (hu_of hr) (pv 0) pe_str (fun _ _ => rfl)) pa_nil)) (nomark _))))) (pss_cons (ps_dput (hu_of hr) (pv 0) pe_str (pe_ix (r := rIxL K) ix_list (pe_dget (hu_of hr) (pv 0) pe_str (fun _ _ => rfl)) (pe_dget (hu_of hr) (pv 0) pe_str (fun _ _ => rfl)) (fun _ _ => rfl)) rfl)
    (pss_one (ps_dput (hu_of hr) (pv 0) pe_str (pe_op op_add (pe_dget (hu_of hr) (pv 0) pe_str (fun _ _ => rfl)) pe_int) rfl))) pss_nil)
    (pss_cons (ps_if (pt_cmpR op_gt (pe_dget (hu_of hr) (pv 0) pe_str (fun _ _ => rfl)) pe_int (nomark _)) (pss_cons (ps_set (i := 2) sc_take.nd rfl (Or.inl rfl) (pe_op op_mod (pe_callTy call_int1 (by rfl) T.int_ (by decide +kernel) (pa_cons (pe_dget (hu_of hr) (pv 0) pe_str (fun _ _ => rfl)) pa_nil)) (pv 1)))
    (pss_cons (ps_dput (hu_of hr) (pv 0) pe_str (pe_op op_fdiv (pe_dget (hu_of hr) (pv 0) pe_str (fun _ _ => rfl)) (pv 1)) rfl)
    (pss_one (ps_ret (pv 2))))) pss_nil)
    (pss_cons (ps_dput (hu_of hr) (pv 0) pe_str (pe_op op_add (pe_dget (hu_of hr) (pv 0) pe_str (fun _ _ => rfl)) pe_int) rfl)
    (pss_cons (ps_set (i := 3) sc_take.nd rfl (Or.inl rfl) (pe_op op_mod (pe_callTy call_int1 (by rfl) T.int_ (by decide +kernel) (pa_cons (pe_op op_add (pe_op op_mul (pe_dget (hu_of hr) (pv 0) pe_str (fun _ _ => rfl)) pe_int) (pe_op op_mul (pe_dget (hu_of hr) (pv 0) pe_str (fun _ _ => rfl)) pe_int)) pa_nil)) pe_int))
    (pss_cons (ps_set (i := 3) sc_take.nd rfl (Or.inl rfl) (pe_op op_mod (pe_callTy call_int1 (by rfl) T.int_ (by decide +kernel) (pa_cons (pe_op op_add (pe_op op_add (pe_op op_mul (pv 3) (pv 3)) (pe_op op_mul (pe_dget (hu_of hr) (pv 0) pe_str (fun _ _ => rfl)) pe_int)) pe_int) pa_nil)) pe_int))
    (pss_one (ps_ret (pe_op op_mod (pe_callTy call_int1 (by rfl) T.int_ (by decide +kernel) (pa_cons (pv 3) pa_nil)) (pv 1))))))))), ?_⟩
  -- if tape['left'] == 0 and tape['at'] < len(tape['cells'])
  refine ⟨fun σ H' => σ = L2.start N_take [.ref t, .int n] ∧ ∃ a l, But t H H' ∧ TkAt H' t c cs a l se sa, ?_, ?_⟩
  · refine ⟨_, rfl, t, _, rfl, z.dg g_left, rfl, _, rfl, ?_⟩
    refine ite2 (fun _ => ?_) (fun _ => iteF ⟨rfl, a, l, But.refl t H, z⟩)
    refine ⟨_, rfl, t, _, rfl, z.dg g_at, _, rfl, t, _, rfl, z.dg g_cells, c, _, rfl, .inl (.inl (.inl z.cl)), _, _, rfl, rfl, _, rfl, ?_⟩
    refine ite2 (fun ha => ?_) (fun _ => ⟨rfl, a, l, But.refl t H, z⟩)
    have ha : a < ((cs.map V.int).length : Int) := of_decide_eq_true ha
    rw [List.length_map] at ha
    have hj : a.toNat < cs.length := by have := z.a0; omega
    have ea : a = (a.toNat : Int) := by have := z.a0; omega
    have g1 : (cs.map V.int)[a.toNat]? = some (.int cs[a.toNat]) := by
      rw [List.getElem?_map, List.getElem?_eq_getElem hj] <;> rfl
    refine ⟨_, rfl, t, _, rfl, z.dg g_cells, _, rfl, t, _, rfl, z.dg g_at, c, _, _, _, rfl, rfl, .inl (.inl z.cl), at_of ea g1, _, rfl, t, _, rfl, z.pLeft, ?_⟩
    have z1 := z.sLeft (v := cs[a.toNat]) (z.cp _ (List.getElem_mem hj))
    refine ⟨_, rfl, t, _, rfl, z1.dg g_at, _, _, rfl, rfl, _, rfl, t, _, rfl, z1.pAt, ?_⟩
    exact ⟨rfl, _, _, ((But.refl t H).upd).upd, z1.sAt (by have := z.a0; omega)⟩
  rintro σ H1 ⟨rfl, a, l, bt, z⟩
  -- if tape['left'] > 0
  refine ⟨_, rfl, t, _, rfl, z.dg g_left, _, _, rfl, rfl, _, rfl, ?_⟩
  refine ite2 (fun hl => ?_) (fun _ => ?_)
  · have hl : 0 < l := of_decide_eq_true hl
    refine ⟨_, rfl, t, _, rfl, z.dg g_left, .inl ⟨_, rfl, _, rfl, _, _, rfl, rfl, hn, ?_⟩⟩
    refine ⟨_, rfl, t, _, rfl, z.dg g_left, _, rfl, _, _, rfl, rfl, ⟨hn, hn2⟩, _, rfl, t, _, rfl, z.pLeft, ?_⟩
    refine ⟨_, rfl, ?_⟩
    exact q _ _ (Int.emod_nonneg _ (by omega)) (Int.emod_lt_of_pos _ hn) bt.upd ⟨cs, a, _, se, sa, z.sLeft (Int.ediv_nonneg z.l0 (by omega))⟩
  · refine ⟨_, rfl, t, _, rfl, z.dg g_salt, _, _, rfl, rfl, _, rfl, t, _, rfl, z.pSalt, ?_⟩
    have z1 := z.sSalt (v := sa + 1)
    have b1 : But t H (upd H1 t (.dK (tk c a l se (sa + 1)))) := bt.upd
    generalize upd H1 t (.dK (tk c a l se (sa + 1))) = H2 at z1 b1 ⊢
    refine ⟨_, rfl, t, _, rfl, z1.dg g_seed, _, _, rfl, rfl, .inr ⟨by decide, by decide⟩, _, rfl, t, _, rfl, z1.dg g_salt, _, _, rfl, rfl, .inr ⟨by decide, by decide⟩, _, _, rfl, rfl, .inl ⟨_, rfl, _, _, rfl, rfl, (by show (0 : Int) < 2147483647; decide), ?_⟩⟩
    have hm := Int.emod_lt_of_pos (se * 48271 + (sa + 1) * 69621) (show (0 : Int) < 2147483647 by decide)
    have hm0 := Int.emod_nonneg (se * 48271 + (sa + 1) * 69621) (show (2147483647 : Int) ≠ 0 by decide)
    generalize (se * 48271 + (sa + 1) * 69621) % 2147483647 = mx at hm hm0 ⊢
    refine ⟨_, rfl, _, rfl, _, _, rfl, rfl, .inl ⟨by omega, by omega⟩, _, rfl, t, _, rfl, z1.dg g_salt, _, _, rfl, rfl, .inr ⟨by decide, by decide⟩, _, _, rfl, rfl, _, _, rfl, rfl, .inl ⟨_, rfl, _, _, rfl, rfl, (by show (0 : Int) < 2147483399; decide), ?_⟩⟩
    refine ⟨_, rfl, .inl ⟨_, rfl, _, rfl, _, _, rfl, rfl, hn, ?_⟩⟩
    exact q _ _ (Int.emod_nonneg _ (by omega)) (Int.emod_lt_of_pos _ hn) b1 ⟨cs, a, l, se, _, z1⟩

abbrev s_isInt : Stmt := topS 11
abbrev N_isInt : List Str := ["actual"]
theorem sc_isInt : FnScope N_isInt ["actual"] (defScope s_isInt) := ⟨rfl, rfl, rfl, by decide +kernel, rfl, by decide +kernel, by decide +kernel⟩
theorem ok_isInt (F : Fun K "_law_is_integer" "_law_is_integer" s_isInt f fd) (T : Nm mg) : FnOk P w K mg base CX0 1 f fd ["actual"] spIsInt := by
  refine F.ok sc_isInt (fun vs H Q E h => ?_) (fun cdv A outer s H vs Q E hr h => ?_)
  · obtain ⟨i, rfl, _⟩ := h
    rfl
  obtain ⟨i, rfl, q⟩ := h
  refine ⟨_, (pss_one (ps_ret (pe_and (pe_callB call_isi (by rfl) T.isinstance (by decide +kernel) (pa_cons (pv 0) (pa_cons (pe_bltn (v := .ty "int") (u := .type "int") (by rfl) T.int_ (by decide +kernel) rfl) pa_nil))) (pe_one (pe_not (pe_callB call_isi (by rfl) T.isinstance (by decide +kernel) (pa_cons (pv 0) (pa_cons (pe_bltn (v := .ty "bool") (u := .type "bool") (by rfl) T.bool_ (by decide +kernel) rfl) pa_nil)))))))), ?_⟩
  refine ⟨_, rfl, _, _, _, _, true, rfl, .ty _, .base (.int _), kit_ty (by decide +kernel), _, rfl, ?_⟩
  refine ⟨_, rfl, _, _, _, _, false, rfl, .ty _, .base (.int _), kit_ty (by decide +kernel), _, rfl, q⟩

abbrev s_sameItems : Stmt := topS 12
abbrev N_sameItems : List Str := ["actual", "expected", "k"]
theorem sc_sameItems : FnScope N_sameItems ["actual", "expected"] (defScope s_sameItems) := ⟨rfl, rfl, rfl, by decide +kernel, rfl, by decide +kernel, by decide +kernel⟩
theorem ok_items {n : Nat} (F : Fun K "_law_same_items" "_law_same_items" s_sameItems f fd) (T : Nm mg) (C_law_same : Cal P w K mg base CX0 (2 * n) "_law_same" (spSame n)) : FnOk P w K mg base CX0 (2 * n + 1) f fd ["actual", "expected"] (spItems n) := by
  refine F.ok sc_sameItems (fun vs H Q E h => ?_) (fun cdv A outer s H vs Q E hr h => ?_)
  · obtain ⟨a, b, xs, ys, rfl, _⟩ := h
    rfl
  obtain ⟨a, b, xs, ys, rfl, hs, hl, hm, al, q⟩ := h
  have sa : SqL K H a xs ∨ SqT K H a xs := hs.elim (fun h => .inr (.inl (.inl h.1))) fun h => .inl (.inl (.inl h.1))
  have sb : SqL K H b ys ∨ SqT K H b ys := hs.elim (fun h => .inr (.inl (.inl h.2))) fun h => .inl (.inl (.inl h.2))
  refine ⟨_, (pss_cons (ps_if (pt_cmpR op_ne (pe_callB call_len_seq (by rfl) T.len PySem.boot_len (pa_cons (pv 0) pa_nil)) (pe_callB call_len_seq (by rfl) T.len PySem.boot_len (pa_cons (pv 1) pa_nil)) (nomark _)) (pss_one (ps_ret pe_bl)) pss_nil)
    (pss_cons (ps_for PassesOwn.never rfl (pi_range1 (by rfl) T.range (pa_cons (pe_callB call_len_seq (by rfl) T.len PySem.boot_len (pa_cons (pv 1) pa_nil)) pa_nil)) (pg_name (i := 2) sc_sameItems.nd rfl (Or.inl rfl)) (pss_one (ps_if (pt_not (pt_val (pe_c C_law_same hr (by first | decide | omega) pass0 (pa_cons (pe_ix (r := rIx K) ix_seq (pv 0) (pv 2) (fun _ _ => rfl)) (pa_cons (pe_ix (r := rIx K) ix_seq (pv 1) (pv 2) (fun _ _ => rfl)) pa_nil))))) (pss_one (ps_ret pe_bl)) pss_nil)))
    (pss_one (ps_ret pe_bl)))), ?_⟩
  refine ⟨_, rfl, a, xs, rfl, sa, _, rfl, b, ys, rfl, sb, rfl, _, rfl, ?_⟩
  refine iteNS (by rw [hl]) ?_
  refine ⟨_, rfl, b, ys, rfl, sb, _, rfl, by omega, by omega, for_range (lo := 0) (n := ((ys.length : Nat) : Int).toNat) (fun i σ H' => H' = H ∧ ∃ v, σ = [some (.ref a), some (.ref b), v]) ⟨rfl, none, rfl⟩ ?_ ?_⟩
  · rintro i σ H' hi ⟨rfl, v, rfl⟩
    have hi1 : i < ys.length := by omega
    have hi2 : i < xs.length := by omega
    have ei : ((0 : Int) + (i : Nat)) = ((i : Nat) : Int) := Int.zero_add _
    have g1 := List.getElem?_eq_getElem hi2
    have g2 := List.getElem?_eq_getElem hi1
    refine ⟨_, rfl, _, rfl, ?_⟩
    have r1 : ∀ {Q' : VK}, Q' xs[i] H' → rIx K (.ref a) (.int (0 + (i : Nat))) H' Q' := fun {Q'} h => sa.elim (fun s => .inl ⟨a, xs, _, _, rfl, rfl, s, at_of ei g1, h⟩) fun s => .inr (.inl ⟨a, xs, _, _, rfl, rfl, s, at_of ei g1, h⟩)
    have r2 : ∀ {Q' : VK}, Q' ys[i] H' → rIx K (.ref b) (.int (0 + (i : Nat))) H' Q' := fun {Q'} h => sb.elim (fun s => .inl ⟨b, ys, _, _, rfl, rfl, s, at_of ei g2, h⟩) fun s => .inr (.inl ⟨b, ys, _, _, rfl, rfl, s, at_of ei g2, h⟩)
    refine r1 ⟨_, rfl, _, rfl, r2 ?_⟩
    refine ⟨_, _, rfl, al i _ _ g1 g2, _, rfl, ?_⟩
    exact ⟨rfl, _, rfl⟩
  · rintro σ H' ⟨rfl, v, rfl⟩
    exact q

abbrev s_same : Stmt := topS 13
abbrev N_same : List Str := ["actual", "expected", "key"]
theorem sc_same : FnScope N_same ["actual", "expected"] (defScope s_same) := ⟨rfl, rfl, rfl, by decide +kernel, rfl, by decide +kernel, by decide +kernel⟩
theorem ok_same {n : Nat} (F : Fun K "_law_same" "_law_same" s_same f fd) (T : Nm mg) (C_law_is_integer : Cal P w K mg base CX0 1 "_law_is_integer" spIsInt) (C_law_same_items : Cal P w K mg base CX0 (2 * n + 1) "_law_same_items" (spItems n)) :
    FnOk P w K mg base CX0 (2 * n + 2) f fd ["actual", "expected"] (spSame (n + 1)) := by
  refine F.ok sc_same (fun vs H Q E h => ?_) (fun cdv A outer s H vs Q E hr h => ?_)
  · obtain ⟨x, y, rfl, _⟩ := h
    rfl
  obtain ⟨x, y, rfl, al, q⟩ := h
  refine ⟨_, (pss_cons (ps_if (pt_cmpR op_isN (pv 1) pe_non (nomark _)) (pss_one (ps_ret (pe_cmpR op_isN (pv 0) pe_non (nomark _)))) pss_nil)
    (pss_cons (ps_if (pt_val (pe_callB call_isi (by rfl) T.isinstance (by decide +kernel) (pa_cons (pv 1) (pa_cons (pe_bltn (v := .ty "bool") (u := .type "bool") (by rfl) T.bool_ (by decide +kernel) rfl) pa_nil)))) (pss_one (ps_ret (pe_and (pe_callB call_isi (by rfl) T.isinstance (by decide +kernel) (pa_cons (pv 0) (pa_cons (pe_bltn (v := .ty "bool") (u := .type "bool") (by rfl) T.bool_ (by decide +kernel) rfl) pa_nil))) (pe_one (pe_cmpR op_eq (pv 0) (pv 1) (nomark _)))))) pss_nil)
    (pss_cons (ps_if (pt_val (pe_callB call_isi (by rfl) T.isinstance (by decide +kernel) (pa_cons (pv 1) (pa_cons (pe_bltn (v := .ty "int") (u := .type "int") (by rfl) T.int_ (by decide +kernel) rfl) pa_nil)))) (pss_one (ps_ret (pe_and (pe_c C_law_is_integer hr (by first | decide | omega) pass0 (pa_cons (pv 0) pa_nil)) (pe_one (pe_cmpR op_eq (pv 0) (pv 1) (nomark _)))))) pss_nil)
    (pss_cons (ps_if (pt_val (pe_callB call_isi (by rfl) T.isinstance (by decide +kernel) (pa_cons (pv 1) (pa_cons (pe_bltn (v := .ty "str") (u := .type "str") (by rfl) T.str_ (by decide +kernel) rfl) pa_nil)))) (pss_one (ps_ret (pe_and (pe_callB call_isi (by rfl) T.isinstance (by decide +kernel) (pa_cons (pv 0) (pa_cons (pe_bltn (v := .ty "str") (u := .type "str") (by rfl) T.str_ (by decide +kernel) rfl) pa_nil))) (pe_one (pe_cmpR op_eq (pv 0) (pv 1) (nomark _)))))) pss_nil)
    (pss_cons (ps_if (pt_val (pe_callB call_isi (by rfl) T.isinstance (by decide +kernel) (pa_cons (pv 1) (pa_cons (pe_bltn (v := .ty "tuple") (u := .type "tuple") (by rfl) T.tuple_ (by decide +kernel) rfl) pa_nil)))) (pss_one (ps_ret (pe_and (pe_callB call_isi (by rfl) T.isinstance (by decide +kernel) (pa_cons (pv 0) (pa_cons (pe_bltn (v := .ty "tuple") (u := .type "tuple") (by rfl) T.tuple_ (by decide +kernel) rfl) pa_nil))) (pe_one (pe_c C_law_same_items hr (by first | decide | omega) pass0 (pa_cons (pv 0) (pa_cons (pv 1) pa_nil))))))) pss_nil)
    (pss_cons (ps_if (pt_val (pe_callB call_isi (by rfl) T.isinstance (by decide +kernel) (pa_cons (pv 1) (pa_cons (pe_bltn (v := .ty "list") (u := .type "list") (by rfl) T.list_ (by decide +kernel) rfl) pa_nil)))) (pss_one (ps_ret (pe_and (pe_callB call_isi (by rfl) T.isinstance (by decide +kernel) (pa_cons (pv 0) (pa_cons (pe_bltn (v := .ty "list") (u := .type "list") (by rfl) T.list_ (by decide +kernel) rfl) pa_nil))) (pe_one (pe_c C_law_same_items hr (by first | decide | omega) pass0 (pa_cons (pv 0) (pa_cons (pv 1) pa_nil))))))) pss_nil)
    (pss_cons ps_never
    (pss_cons ps_never
    (pss_cons ps_never
    (pss_one ps_never)))))))))), ?_⟩
  rcases al with ⟨rfl, hx⟩ | ⟨a, b, xs, ys, rfl, rfl, ha, hb, hl, hm, al⟩ | ⟨a, b, xs, ys, rfl, rfl, ha, hb, hl, hm, al⟩
  · cases x with
    | non => exact ⟨_, rfl, rfl, _, rfl, iteP rfl ⟨_, rfl, rfl, qP rfl q⟩⟩
    | bl k =>
      refine ⟨_, rfl, rfl, _, rfl, iteN (fun z => nomatch z) ?_⟩
      refine ⟨_, rfl, _, _, _, _, true, rfl, .ty _, .base (.bl _), kit_ty (by decide +kernel), _, rfl, ?_⟩
      refine ⟨_, rfl, _, _, _, _, true, rfl, .ty _, .base (.bl _), kit_ty (by decide +kernel), _, rfl, ?_⟩
      exact ⟨_, rfl, _, rfl, rfl, qP rfl q⟩
    | int i =>
      refine ⟨_, rfl, rfl, _, rfl, iteN (fun z => nomatch z) ?_⟩
      refine ⟨_, rfl, _, _, _, _, false, rfl, .ty _, .base (.int _), kit_ty (by decide +kernel), _, rfl, ?_⟩
      refine ⟨_, rfl, _, _, _, _, true, rfl, .ty _, .base (.int _), kit_ty (by decide +kernel), _, rfl, ?_⟩
      refine ⟨_, rfl, i, rfl, _, rfl, ?_⟩
      exact ⟨_, rfl, _, rfl, rfl, qP rfl q⟩
    | str z =>
      refine ⟨_, rfl, rfl, _, rfl, iteN (fun z => nomatch z) ?_⟩
      refine ⟨_, rfl, _, _, _, _, false, rfl, .ty _, .base (.str _), kit_ty (by decide +kernel), _, rfl, ?_⟩
      refine ⟨_, rfl, _, _, _, _, false, rfl, .ty _, .base (.str _), kit_ty (by decide +kernel), _, rfl, ?_⟩
      refine ⟨_, rfl, _, _, _, _, true, rfl, .ty _, .base (.str _), kit_ty (by decide +kernel), _, rfl, ?_⟩
      refine ⟨_, rfl, _, _, _, _, true, rfl, .ty _, .base (.str _), kit_ty (by decide +kernel), _, rfl, ?_⟩
      exact ⟨_, rfl, _, rfl, rfl, qP rfl q⟩
    | byt z => cases hx
    | flt z => cases hx
    | ref z => cases hx
    | ty z => cases hx
  · refine ⟨_, rfl, rfl, _, rfl, iteN (fun z => nomatch z) ?_⟩
    refine ⟨_, rfl, _, _, _, _, false, rfl, .ty _, .base (.tup hb), kit_ty (by decide +kernel), _, rfl, ?_⟩
    refine ⟨_, rfl, _, _, _, _, false, rfl, .ty _, .base (.tup hb), kit_ty (by decide +kernel), _, rfl, ?_⟩
    refine ⟨_, rfl, _, _, _, _, false, rfl, .ty _, .base (.tup hb), kit_ty (by decide +kernel), _, rfl, ?_⟩
    refine ⟨_, rfl, _, _, _, _, true, rfl, .ty _, .base (.tup hb), kit_ty (by decide +kernel), _, rfl, ?_⟩
    refine ⟨_, rfl, _, _, _, _, true, rfl, .ty _, .base (.tup ha), kit_ty (by decide +kernel), _, rfl, ?_⟩
    exact ⟨_, rfl, _, rfl, a, b, xs, ys, rfl, .inl ⟨ha, hb⟩, hl, hm, al, q⟩
  · refine ⟨_, rfl, rfl, _, rfl, iteN (fun z => nomatch z) ?_⟩
    refine ⟨_, rfl, _, _, _, _, false, rfl, .ty _, .base (.lst hb), kit_ty (by decide +kernel), _, rfl, ?_⟩
    refine ⟨_, rfl, _, _, _, _, false, rfl, .ty _, .base (.lst hb), kit_ty (by decide +kernel), _, rfl, ?_⟩
    refine ⟨_, rfl, _, _, _, _, false, rfl, .ty _, .base (.lst hb), kit_ty (by decide +kernel), _, rfl, ?_⟩
    refine ⟨_, rfl, _, _, _, _, false, rfl, .ty _, .base (.lst hb), kit_ty (by decide +kernel), _, rfl, ?_⟩
    refine ⟨_, rfl, _, _, _, _, true, rfl, .ty _, .base (.lst hb), kit_ty (by decide +kernel), _, rfl, ?_⟩
    refine ⟨_, rfl, _, _, _, _, true, rfl, .ty _, .base (.lst ha), kit_ty (by decide +kernel), _, rfl, ?_⟩
    exact ⟨_, rfl, _, rfl, a, b, xs, ys, rfl, .inr ⟨ha, hb⟩, hl, hm, al, q⟩
theorem no_same0 : ∀ vs H Q E, ¬ spSame 0 vs H Q E := fun vs H Q E h => by
  obtain ⟨x, y, _, al, _⟩ := h
  exact al
/-- both, as deep as one likes -/
theorem both {f g : Addr} {fd gd : FuncData} (FS : Fun K "_law_same" "_law_same" s_same f fd) (bS : Binds K fd ["actual", "expected"] []) (mS : mg "_law_same" = some (.ref f)) (FI : Fun K "_law_same_items" "_law_same_items" s_sameItems g gd) (bI : Binds K gd ["actual", "expected"] []) (mI : mg "_law_same_items" = some (.ref g))
    (T : Nm mg) (C_law_is_integer : Cal P w K mg base CX0 1 "_law_is_integer" spIsInt) : ∀ n, Cal P w K mg base CX0 (2 * n) "_law_same" (spSame n)
  | 0 => ⟨f, fd, _, none_left no_same0, mS, FS.kp, bS⟩
  | n + 1 => ⟨f, fd, _, ok_same FS T C_law_is_integer ⟨g, gd, _, ok_items FI T (both FS bS mS FI bI mI T C_law_is_integer n), mI, FI.kp, bI⟩, mS, FS.kp, bS⟩

end

end Sn

namespace Sn
open PySem PySem.Spec PyProof.Rows L2 TL
/-! ### the keeper's attributes -/
abbrev ns_Keeper : List Str := ["_function", "_now", "_left", "_inputs", "_entries", "_runs", "_asked", "_ended"]
structure NmK (K : PySem.W.Frag) (mg : Str → Option Value) (aF CK CR CC : Addr) : Prop extends Nm mg where
  cl_Keeper : Cls K CK
  cl_Run : Cls K CR
  n_function : NoAttr K CK "_function"
  n_now : NoAttr K CK "_now"
  n_left : NoAttr K CK "_left"
  n_inputs : NoAttr K CK "_inputs"
  n_entries : NoAttr K CK "_entries"
  n_runs : NoAttr K CK "_runs"
  n_asked : NoAttr K CK "_asked"
  n_ended : NoAttr K CK "_ended"
  n_live : NoAttr K CR "live"
  mk_Keeper : mg "Keeper" = some (.ref CK)
  mk_Run : mg "Run" = some (.ref CR)
  c__law_compute : mg "_law_compute" = some (.ref aF)
  c_Cancelled : mg "Cancelled" = some (.ref CC)
  bI : PySem.W.subIn K (.ref CC) (.type "BaseException") = some true
  tI : PySem.W.typeIn K (.ref CC) = some (.type "type")
  kI : PySem.W.keepIn K (.ref CC) = true
  xI : PySem.W.excIn K CC [.type "ValueError", .type "Exception", .type "BaseException", .type "object"] "ValueError.__new__" = true
  te : PySem.W.exmOne K (.ref CC) (.ref CC) = some true
structure KF where
  fn : V
  now : V
  left : V
  inp : V
  ent : V
  run : V
  asked : V
  ended : V
def kf (S : KF) : List (Str × V) := [("_function", S.fn), ("_now", S.now), ("_left", S.left), ("_inputs", S.inp), ("_entries", S.ent), ("_runs", S.run), ("_asked", S.asked), ("_ended", S.ended)]
theorem kf_function {S} : (kf S).lookup ("_function" : Str) = some S.fn := by kernel_rfl
theorem kf_now {S} : (kf S).lookup ("_now" : Str) = some S.now := by kernel_rfl
theorem kf_left {S} : (kf S).lookup ("_left" : Str) = some S.left := by kernel_rfl
theorem kf_inputs {S} : (kf S).lookup ("_inputs" : Str) = some S.inp := by kernel_rfl
theorem kf_entries {S} : (kf S).lookup ("_entries" : Str) = some S.ent := by kernel_rfl
theorem kf_runs {S} : (kf S).lookup ("_runs" : Str) = some S.run := by kernel_rfl
theorem kf_asked {S} : (kf S).lookup ("_asked" : Str) = some S.asked := by kernel_rfl
theorem kf_ended {S} : (kf S).lookup ("_ended" : Str) = some S.ended := by kernel_rfl
theorem kf_now' {S x} : putF "_now" x (kf S) = kf { S with now := x } := by kernel_rfl
theorem kf_asked' {S x} : putF "_asked" x (kf S) = kf { S with asked := x } := by kernel_rfl
theorem kf_left' {S x} : putF "_left" x (kf S) = kf { S with left := x } := by kernel_rfl
theorem kf_entries' {S x} : putF "_entries" x (kf S) = kf { S with ent := x } := by kernel_rfl
theorem kf_ended' {S x} : putF "_ended" x (kf S) = kf { S with ended := x } := by kernel_rfl
def KRaw (C : Addr) (H : Hp) (p : Addr) (S : KF) : Prop := ∃ dx, H p = some (.ins C dx (kf S))
theorem KRaw.isI {C : Addr} {H : Hp} {p : Addr} {S : KF} (h : KRaw C H p S) : IsI H C p ns_Keeper := let ⟨dx, e⟩ := h; ⟨dx, _, e, rfl⟩
section
variable {X : Cx} {C CR CE aF : Addr} {o v : Expr} {pos pos' : Pos} {ta tv : TE} {mg : Str → Option Value}
def tKf (C : Addr) (sel : KF → V) (ta : TE) : TE := fun σ H Q => ta σ H fun x H1 => ∃ p S, x = .ref p ∧ KRaw C H1 p S ∧ Q (sel S) H1
theorem pe_kf {f : Str} {sel : KF → V} (cl : Cls X.K C) (na : NoAttr X.K C f) (hl : ∀ S, (kf S).lookup f = some (sel S)) (he : PE X o ta) (hb : attributeBase o f X.env (eval o X.env) = eval o X.env) : PE X (.Attribute o f pos) (tKf C sel ta) := by
  refine PE.imp (pe_fld (PE.up he) hb) fun σ H Q h => ⟨_, h, ?_⟩
  rintro x H1 ⟨p, S, rfl, ⟨dx, e⟩, q⟩
  exact ⟨p, C, dx, _, _, rfl, e, cl, na, hl S, q⟩
theorem pe_k_function (T : NmK X.K mg aF C CR CE) (he : PE X o ta) (hb : attributeBase o "_function" X.env (eval o X.env) = eval o X.env := by rfl) : PE X (.Attribute o "_function" pos) (tKf C KF.fn ta) := pe_kf T.cl_Keeper T.n_function (fun _ => kf_function) he hb
theorem pe_k_now (T : NmK X.K mg aF C CR CE) (he : PE X o ta) (hb : attributeBase o "_now" X.env (eval o X.env) = eval o X.env := by rfl) : PE X (.Attribute o "_now" pos) (tKf C KF.now ta) := pe_kf T.cl_Keeper T.n_now (fun _ => kf_now) he hb
theorem pe_k_left (T : NmK X.K mg aF C CR CE) (he : PE X o ta) (hb : attributeBase o "_left" X.env (eval o X.env) = eval o X.env := by rfl) : PE X (.Attribute o "_left" pos) (tKf C KF.left ta) := pe_kf T.cl_Keeper T.n_left (fun _ => kf_left) he hb
theorem pe_k_inputs (T : NmK X.K mg aF C CR CE) (he : PE X o ta) (hb : attributeBase o "_inputs" X.env (eval o X.env) = eval o X.env := by rfl) : PE X (.Attribute o "_inputs" pos) (tKf C KF.inp ta) := pe_kf T.cl_Keeper T.n_inputs (fun _ => kf_inputs) he hb
theorem pe_k_entries (T : NmK X.K mg aF C CR CE) (he : PE X o ta) (hb : attributeBase o "_entries" X.env (eval o X.env) = eval o X.env := by rfl) : PE X (.Attribute o "_entries" pos) (tKf C KF.ent ta) := pe_kf T.cl_Keeper T.n_entries (fun _ => kf_entries) he hb
theorem pe_k_runs (T : NmK X.K mg aF C CR CE) (he : PE X o ta) (hb : attributeBase o "_runs" X.env (eval o X.env) = eval o X.env := by rfl) : PE X (.Attribute o "_runs" pos) (tKf C KF.run ta) := pe_kf T.cl_Keeper T.n_runs (fun _ => kf_runs) he hb
theorem pe_k_asked (T : NmK X.K mg aF C CR CE) (he : PE X o ta) (hb : attributeBase o "_asked" X.env (eval o X.env) = eval o X.env := by rfl) : PE X (.Attribute o "_asked" pos) (tKf C KF.asked ta) := pe_kf T.cl_Keeper T.n_asked (fun _ => kf_asked) he hb
theorem pe_k_ended (T : NmK X.K mg aF C CR CE) (he : PE X o ta) (hb : attributeBase o "_ended" X.env (eval o X.env) = eval o X.env := by rfl) : PE X (.Attribute o "_ended" pos) (tKf C KF.ended ta) := pe_kf T.cl_Keeper T.n_ended (fun _ => kf_ended) he hb
/-- self.f = e -/
def sKset (C : Addr) (u : KF → V → KF) (ta tv : TE) : TS := fun D σ H => tv σ H fun y H1 => ta σ H1 fun x H2 => ∃ p S, x = .ref p ∧ KRaw C H2 p S ∧ ∀ H', But p H2 H' → (∀ b, H2 b = none → H' b = none) → KRaw C H' p (u S y) → D.nx σ H'
theorem ps_kset {f : Str} {u : KF → V → KF} (cl : Cls X.K C) (na : NoAttr X.K C f) (hp : ∀ S x, putF f x (kf S) = kf (u S x)) (ha : PE X o ta) (hv : PE X v tv) (hs : swapsWith v (some (.Attribute o f pos')) pos.line X.env = pure false) : PS X (.Assign [.Attribute o f pos'] v pos) (sKset C u ta tv) := by
  refine PS.imp (ps_fld (PE.up ha) (PE.up hv) hs) fun D σ H h => ⟨_, h, ?_⟩
  intro y H1 h1
  refine ⟨_, h1, ?_⟩
  rintro x H2 ⟨p, S, rfl, ⟨dx, e⟩, q⟩
  refine ⟨p, C, dx, _, rfl, e, cl, na, (by show 8 < 1000; decide), q _ (But.refl _ _).upd (fun b hb => ?_) ⟨dx, ?_⟩⟩
  · rw [upd_ne (fun z => by rw [z, e] at hb; cases hb)]
    exact hb
  · rw [upd_same, hp]
theorem ps_k_asked (T : NmK X.K mg aF C CR CE) (ha : PE X o ta) (hv : PE X v tv) (hs : swapsWith v (some (.Attribute o "_asked" pos')) pos.line X.env = pure false := by rfl) : PS X (.Assign [.Attribute o "_asked" pos'] v pos) (sKset C (fun S y => { S with asked := y }) ta tv) := ps_kset T.cl_Keeper T.n_asked (fun _ _ => kf_asked') ha hv hs
theorem ps_k_left (T : NmK X.K mg aF C CR CE) (ha : PE X o ta) (hv : PE X v tv) (hs : swapsWith v (some (.Attribute o "_left" pos')) pos.line X.env = pure false := by rfl) : PS X (.Assign [.Attribute o "_left" pos'] v pos) (sKset C (fun S y => { S with left := y }) ta tv) := ps_kset T.cl_Keeper T.n_left (fun _ _ => kf_left') ha hv hs
theorem ps_k_entries (T : NmK X.K mg aF C CR CE) (ha : PE X o ta) (hv : PE X v tv) (hs : swapsWith v (some (.Attribute o "_entries" pos')) pos.line X.env = pure false := by rfl) : PS X (.Assign [.Attribute o "_entries" pos'] v pos) (sKset C (fun S y => { S with ent := y }) ta tv) := ps_kset T.cl_Keeper T.n_entries (fun _ _ => kf_entries') ha hv hs
theorem ps_k_ended (T : NmK X.K mg aF C CR CE) (ha : PE X o ta) (hv : PE X v tv) (hs : swapsWith v (some (.Attribute o "_ended" pos')) pos.line X.env = pure false := by rfl) : PS X (.Assign [.Attribute o "_ended" pos'] v pos) (sKset C (fun S y => { S with ended := y }) ta tv) := ps_kset T.cl_Keeper T.n_ended (fun _ _ => kf_ended') ha hv hs
/-- self._now += n, self._left -= n -/
def sKan (C : Addr) (i : Int) (ta : TE) : TS := fun D σ H => ta σ H fun x H1 => ∃ p S n, x = .ref p ∧ KRaw C H1 p S ∧ S.now = .int n ∧ ∀ H', But p H1 H' → KRaw C H' p { S with now := .int (n + i) } → D.nx σ H'
theorem ps_ka_now {i : Int} {j : Nat} {cp : Pos} (T : NmK X.K mg aF C CR CE) (he : PE X o ta) (_ : PE X (.Constant (.int i) j cp) (tC (.int i))) (hop : InOp X .Add rAdd) : PS X (.AugAssign (.Attribute o "_now" pos') .Add (.Constant (.int i) j cp) pos) (sKan C i ta) := by
  refine PS.imp (ps_fldaug (PE.up he) pe_int hop) fun D σ H h => ⟨_, h, ?_⟩
  rintro x H1 ⟨p, S, n, rfl, ⟨dx, e⟩, hn, q⟩
  refine ⟨p, C, dx, _, _, rfl, e, T.cl_Keeper, T.n_now, kf_now, n, i, hn, rfl, ?_⟩
  refine ⟨dx, _, e, (by show 8 < 1000; decide), q _ (But.refl _ _).upd ⟨dx, ?_⟩⟩
  rw [upd_same, kf_now']
def sKal (C : Addr) (i : Int) (ta : TE) : TS := fun D σ H => ta σ H fun x H1 => ∃ p S n, x = .ref p ∧ KRaw C H1 p S ∧ S.left = .int n ∧ ∀ H', But p H1 H' → (∀ b, H1 b = none → H' b = none) → KRaw C H' p { S with left := .int (n - i) } → D.nx σ H'
theorem ps_ka_left {i : Int} {j : Nat} {cp : Pos} (T : NmK X.K mg aF C CR CE) (he : PE X o ta) (_ : PE X (.Constant (.int i) j cp) (tC (.int i))) (hop : InOp X .Sub rSub) : PS X (.AugAssign (.Attribute o "_left" pos') .Sub (.Constant (.int i) j cp) pos) (sKal C i ta) := by
  refine PS.imp (ps_fldaug (PE.up he) pe_int hop) fun D σ H h => ⟨_, h, ?_⟩
  rintro x H1 ⟨p, S, n, rfl, ⟨dx, e⟩, hn, q⟩
  refine ⟨p, C, dx, _, _, rfl, e, T.cl_Keeper, T.n_left, kf_left, n, i, hn, rfl, ?_⟩
  refine ⟨dx, _, e, (by show 8 < 1000; decide), q _ (But.refl _ _).upd (fun b hb => ?_) ⟨dx, ?_⟩⟩
  · rw [upd_ne (fun z => by rw [z, e] at hb; cases hb)]
    exact hb
  · rw [upd_same, kf_left']
end
/-! ### objects by their class's name; xs[i] read for a store -/
structure CalO (P : Program) (w : World) (K : PySem.W.Frag) (mg : Str → Option Value) (base : Heap) (CX : CXT) (k : Nat) (C : Addr) (sp : Sp) : Prop where
  ex : ∃ (f : Addr) (fd : FuncData) (ps : List Str), FnOk P w K mg base CX k f fd ps sp ∧ Mk K C f ∧ Binds K fd ps []
theorem pe_mk {X : Cx} {x : Str} {C : Addr} {k j : Nat} {sp : Sp} {p pos : Pos} {e : Expr} {es : List Expr} {t : TA} {CX : CXT} {E : XK} (c : CalO X.prog X.w X.K X.mg X.base CX k C sp) (hr : Room j X.A) (hk : k + 1 ≤ j) (hm : X.mg x = some (.ref C)) (hx : Passes CX X E) (ha : PA X (e :: es) t) (hg : Gl X x := by rfl)
    (hdb : (x == ("__debug__" : Str)) = false := by decide) (he : starEach (e :: es) X.env = (false, eval e X.env) :: starEach es X.env := by rfl) (hpl : (backTo pos (starEach es X.env)).any (·.1) = false := by rfl) :
    PE X (.Call (.Name x p) (e :: es) [] pos) (tMake C sp [] E t) := by
  obtain ⟨f, fd, ps, F, M, b⟩ := c.ex
  exact pe_make M F (hr.mono hk) hg hm b .nil hx ha hdb he hpl
theorem pe_mk0 {X : Cx} {x : Str} {C : Addr} {k j : Nat} {sp : Sp} {p pos : Pos} {CX : CXT} {E : XK} (c : CalO X.prog X.w X.K X.mg X.base CX k C sp) (hr : Room j X.A) (hk : k + 1 ≤ j) (hm : X.mg x = some (.ref C)) (hx : Passes CX X E) (hg : Gl X x := by rfl)
    (hdb : (x == ("__debug__" : Str)) = false := by decide) : PE X (.Call (.Name x p) [] [] pos) (tMake C sp [] E tNil) := by
  obtain ⟨f, fd, ps, F, M, b⟩ := c.ex
  exact pe_make0 M F (hr.mono hk) hg hm b .nil hx hdb
def rGetL : V → V → Hp → VK → Prop := fun o i H Q => ∃ (p : Addr) (xs : List V) (k : Nat) (v : V), o = .ref p ∧ i = .int (k : Int) ∧ H p = some (.lst xs) ∧ xs[k]? = some v ∧ Q v H
theorem get_list {X : Cx} : PGet X rGetL := by
  intro pins s σ H o i ov iv Q I ro ri h
  obtain ⟨p, xs, k, v, rfl, rfl, hp, hk, q⟩ := h
  cases ro
  obtain ⟨t, rfl⟩ := ri
  obtain ⟨its, r, pl, hz⟩ := I.list (SqL.of hp)
  obtain ⟨w, ew, rw'⟩ := r.get hk
  have hl := (List.getElem?_eq_some_iff.mp hk).1
  have hn := line63
  exact wpAny_getItem_list (Q := fun r s' => EP X pins σ Q r s') pl.isList (by omega) (by omega) (by simpa using ew) ⟨v, H, I, rw', q⟩

end Sn

namespace Sn
open PySem PySem.Spec PyProof.Rows L2 TL
/-! ### the keeper in the heap, for any keys and values -/
structure Vl (α : Type) [DecidableEq α] where
  rp : Hp → V → α → Prop
  keep : ∀ {H H' : Hp} {v : V} {a : α}, (∀ b xs, H b = some (.tup xs) → H' b = some (.tup xs)) → rp H v a → rp H' v a
  dat : α → PyData
  dp : ∀ {K : PySem.W.Frag} {H : Hp} {v : V} {a : α}, rp H v a → Dp K H v (dat a)
  sh : ∀ a, SeqAt.shaped (dat a) = true
  eq : ∀ a b, PyData.eqv (dat a) (dat b) = decide (a = b)
def isK (H : Hp) (b : Addr) (k : Ky) : Prop := H b = some (.tup (k.map kV))
inductive Ks (H : Hp) : List Addr → List Ky → Prop
  | nil : Ks H [] []
  | cons {b : Addr} {k : Ky} {bs : List Addr} {ks : List Ky} : isK H b k → Ks H bs ks → Ks H (b :: bs) (k :: ks)
theorem Ks.keep {H H' : Hp} (f : ∀ b xs, H b = some (.tup xs) → H' b = some (.tup xs)) {bs : List Addr} {ks : List Ky} (h : Ks H bs ks) : Ks H' bs ks := by
  induction h with
  | nil => exact .nil
  | cons a _ ih => exact .cons (f _ _ a) ih
theorem Ks.snoc {H : Hp} {bs : List Addr} {ks : List Ky} {b : Addr} {k : Ky} (h : Ks H bs ks) (e : isK H b k) : Ks H (bs ++ [b]) (ks ++ [k]) := by
  induction h with
  | nil => exact .cons e .nil
  | cons a _ ih => exact .cons a ih
theorem Ks.get {H : Hp} {bs : List Addr} {ks : List Ky} (h : Ks H bs ks) : ∀ {j : Nat} {d : Ky}, ks[j]? = some d → ∃ b, bs[j]? = some b ∧ isK H b d := by
  induction h with
  | nil =>
    intro j d e
    simp at e
  | cons a _ ih =>
    intro j d e
    cases j with
    | zero =>
      simp at e
      subst e
      exact ⟨_, rfl, a⟩
    | succ j => exact ih (by simpa using e)
theorem Ks.len {H : Hp} {bs : List Addr} {ks : List Ky} (h : Ks H bs ks) : bs.length = ks.length := by
  induction h with
  | nil => rfl
  | cons _ _ ih => simp [ih]
structure KAd where
  i : Addr
  e : Addr
  r : Addr
  l : Addr
section
variable {α : Type} [DecidableEq α] (Vx : Vl α)
/-- the entry at p -/
def EntV (H : Hp) (p : Addr) (e : En α) : Prop :=
  ∃ v q bs, H p = some (.tup [v, .ref q, .int (e.c : Int), .int (e.g : Int)]) ∧ Vx.rp H v e.v ∧ H q = some (.tup (bs.map V.ref)) ∧ Ks H bs e.d
def lfV : Option Nat → V
  | none => .non
  | some n => .int (n : Int)
def kfo (aF : Addr) (A : KAd) (S : KS α) (av : V) : KF := ⟨.ref aF, .int (S.now : Int), lfV S.left, .ref A.i, .ref A.e, .ref A.r, av, .ref A.l⟩
def InpP (H : Hp) (d : Addr) (inp : Ky → Option (α × Nat)) (ni : Nat) : Prop := ∃ kvs : List (List L2.Key × V), H d = some (.dT kvs) ∧ kvs.length ≤ ni ∧ ∀ k, (valV kvs k = none ∧ inp k = none) ∨ ∃ p v a r, valV kvs k = some (.ref p) ∧ inp k = some (a, r) ∧ H p = some (.tup [v, .int ((r : Nat) : Int)]) ∧ Vx.rp H v a
def EntP (H : Hp) (d : Addr) (en : Ky → Option (En α)) (m : Nat) : Prop := ∃ kvs : List (List L2.Key × V), H d = some (.dT kvs) ∧ kvs.length ≤ m ∧ ∀ k, (valV kvs k = none ∧ en k = none) ∨ ∃ p e, valV kvs k = some (.ref p) ∧ en k = some e ∧ EntV Vx H p e
def RunP (H : Hp) (d : Addr) (rn : Ky → Option Addr) (m : Nat) : Prop := ∃ kvs : List (List L2.Key × V), H d = some (.dT kvs) ∧ kvs.length ≤ m ∧ ∀ k, valV kvs k = (rn k).map V.ref
def LiveP (CR : Addr) (H : Hp) (rn : Ky → Option Addr) (lv : List Ky) : Prop := ∀ k, (k ∈ lv → ∃ p dx, rn k = some p ∧ H p = some (.ins CR dx [("live", .bl true)])) ∧ (k ∉ lv → ∀ p, rn k = some p → ∃ dx, H p = some (.ins CR dx [("live", .bl false)]))
def EndP (H : Hp) (l : Addr) (done : List Ky) (m : Nat) : Prop := ∃ bs : List Addr, H l = some (.lst (bs.map V.ref)) ∧ bs.length ≤ m ∧ Ks H bs done
structure Kh (CK CR aF : Addr) (H : Hp) (o : Addr) (A : KAd) (S : KS α) (rn : Ky → Option Addr) (lv : List Ky) (av : V) (m ni : Nat) : Prop where
  raw : KRaw CK H o (kfo aF A S av)
  inp : InpP Vx H A.i S.inp ni
  ent : EntP Vx H A.e S.en m
  run : RunP H A.r rn m
  live : LiveP CR H rn lv
  ended : EndP H A.l S.done m
  d1 : A.i ≠ A.e
  d2 : A.i ≠ A.r
  d3 : A.e ≠ A.r
  ck : CK ≠ CR
end
/-- the objects that the keeper leans on -/
def Kob : HO → Prop
  | .ins _ _ _ => True
  | .dT _ => True
  | .tup _ => True
  | _ => False
theorem Kob.ne {H : Hp} {d b : Addr} {kvs : List (List L2.Key × V)} {u : HO} (hd : H d = some (.dT kvs)) (e : H b = some u) (n : ∀ kvs, u ≠ .dT kvs) : b ≠ d := fun z => by
  rw [z, hd] at e
  injection e with e
  exact n _ e.symm
section
variable {α : Type} [DecidableEq α] {Vx : Vl α}
variable {CK CR aF : Addr} {H H' : Hp} {o : Addr} {A : KAd} {S : KS α} {rn : Ky → Option Addr} {lv : List Ky} {av : V} {m ni : Nat}
abbrev FT (H H' : Hp) : Prop := ∀ b xs, H b = some (.tup xs) → H' b = some (.tup xs)
theorem EntV.keep {p : Addr} {e : En α} (f : FT H H') : EntV Vx H p e → EntV Vx H' p e := fun ⟨v, q, bs, h1, h2, h3, h4⟩ => ⟨v, q, bs, f _ _ h1, Vx.keep f h2, f _ _ h3, h4.keep f⟩
theorem InpP.keep {d : Addr} {inp : Ky → Option (α × Nat)} (f : FT H H') (g : ∀ kvs, H d = some (.dT kvs) → H' d = some (.dT kvs)) : InpP Vx H d inp ni → InpP Vx H' d inp ni := fun ⟨kvs, a, b, c⟩ =>
  ⟨kvs, g _ a, b, fun k => (c k).elim .inl fun ⟨p, v, a, r, x, y, z, w⟩ => .inr ⟨p, v, a, r, x, y, f _ _ z, Vx.keep f w⟩⟩
theorem EntP.keep {d : Addr} {en : Ky → Option (En α)} (f : FT H H') (g : ∀ kvs, H d = some (.dT kvs) → H' d = some (.dT kvs)) {m' : Nat} (hm : m ≤ m') : EntP Vx H d en m → EntP Vx H' d en m' := fun ⟨kvs, a, b, c⟩ =>
  ⟨kvs, g _ a, Nat.le_trans b hm, fun k => (c k).elim .inl fun ⟨p, e, x, y, z⟩ => .inr ⟨p, e, x, y, z.keep f⟩⟩
theorem RunP.keep {d : Addr} (g : ∀ kvs, H d = some (.dT kvs) → H' d = some (.dT kvs)) {m' : Nat} (hm : m ≤ m') : RunP H d rn m → RunP H' d rn m' := fun ⟨kvs, a, b, c⟩ => ⟨kvs, g _ a, Nat.le_trans b hm, c⟩
theorem LiveP.keep (g : ∀ p dx fs, H p = some (.ins CR dx fs) → H' p = some (.ins CR dx fs)) : LiveP CR H rn lv → LiveP CR H' rn lv := fun h k => ⟨fun hk => by
  obtain ⟨p, dx, a, b⟩ := (h k).1 hk
  exact ⟨p, dx, a, g _ _ _ b⟩, fun hk p hp => by
  obtain ⟨dx, b⟩ := (h k).2 hk p hp
  exact ⟨dx, g _ _ _ b⟩⟩
theorem EndP.keep {l : Addr} {done : List Ky} (f : FT H H') (g : ∀ vs, H l = some (.lst vs) → H' l = some (.lst vs)) {m' : Nat} (hm : m ≤ m') : EndP H l done m → EndP H' l done m' := fun ⟨bs, a, b, c⟩ => ⟨bs, g _ a, Nat.le_trans b hm, c.keep f⟩
theorem Kh.keep (h : Kh Vx CK CR aF H o A S rn lv av m ni) (f : ∀ b u, H b = some u → (b = A.l ∨ Kob u) → H' b = some u) : Kh Vx CK CR aF H' o A S rn lv av m ni := by
  have ft : FT H H' := fun b xs e => f _ _ e (.inr trivial)
  have fd : ∀ d kvs, H d = some (.dT kvs) → H' d = some (.dT kvs) := fun d kvs e => f _ _ e (.inr trivial)
  obtain ⟨dx, e⟩ := h.raw
  exact ⟨⟨dx, f _ _ e (.inr trivial)⟩, h.inp.keep ft (fd _), h.ent.keep ft (fd _) (Nat.le_refl _), h.run.keep (fd _) (Nat.le_refl _), h.live.keep (fun p dx fs e => f _ _ e (.inr trivial)), h.ended.keep ft (fun vs e => f _ _ e (.inl rfl)) (Nat.le_refl _), h.d1, h.d2, h.d3, h.ck⟩
theorem Kh.same (h : Kh Vx CK CR aF H o A S rn lv av m ni) (s : Same H H') : Kh Vx CK CR aF H' o A S rn lv av m ni := h.keep fun b u e _ => s b u e
theorem Kh.more {m' : Nat} (h : Kh Vx CK CR aF H o A S rn lv av m ni) (hm : m ≤ m') : Kh Vx CK CR aF H o A S rn lv av m' ni :=
  ⟨h.raw, h.inp, h.ent.keep (fun _ _ e => e) (fun _ e => e) hm, h.run.keep (fun _ e => e) hm, h.live, h.ended.keep (fun _ _ e => e) (fun _ e => e) hm, h.d1, h.d2, h.d3, h.ck⟩
theorem Kh.wider {n' : Nat} (h : Kh Vx CK CR aF H o A S rn lv av m ni) (hn : ni ≤ n') : Kh Vx CK CR aF H o A S rn lv av m n' := by
  obtain ⟨kv, a, b, c⟩ := h.inp
  exact ⟨h.raw, ⟨kv, a, Nat.le_trans b hn, c⟩, h.ent, h.run, h.live, h.ended, h.d1, h.d2, h.d3, h.ck⟩
/-- the keeper's own attributes change: what was asked, the revision, the limit -/
theorem Kh.self {S' : KS α} {y : V} (h : Kh Vx CK CR aF H o A S rn lv av m ni) (b : But o H H') (r : KRaw CK H' o (kfo aF A S' y)) (h1 : S'.inp = S.inp) (h2 : S'.en = S.en) (h3 : S'.done = S.done) : Kh Vx CK CR aF H' o A S' rn lv y m ni := by
  obtain ⟨dx, eo⟩ := h.raw
  have ne : ∀ {b u}, H b = some u → (∀ dx fs, u ≠ .ins CK dx fs) → b ≠ o := fun e n z => by
    rw [z, eo] at e
    injection e with e
    exact n _ _ e.symm
  have ft : FT H H' := fun c xs e => b _ _ (ne e fun _ _ z => nomatch z) e
  have fd : ∀ d kvs, H d = some (.dT kvs) → H' d = some (.dT kvs) := fun d kvs e => b _ _ (ne e fun _ _ z => nomatch z) e
  exact ⟨r, h1 ▸ h.inp.keep ft (fd _), h2 ▸ h.ent.keep ft (fd _) (Nat.le_refl _), h.run.keep (fd _) (Nat.le_refl _), h.live.keep (fun p dx fs e => b _ _ (ne e fun _ _ z => by injection z with z; exact h.ck z.symm) e), h3 ▸ h.ended.keep ft (fun vs e => b _ _ (ne e fun _ _ z => nomatch z) e) (Nat.le_refl _), h.d1, h.d2, h.d3, h.ck⟩
theorem Kh.ask {y : V} (h : Kh Vx CK CR aF H o A S rn lv av m ni) (b : But o H H') (r : KRaw CK H' o (kfo aF A S y)) : Kh Vx CK CR aF H' o A S rn lv y m ni := h.self b r rfl rfl rfl
theorem upd_st {d : Addr} {kvs k2 : List (List L2.Key × V)} (hd : H d = some (.dT kvs)) {b : Addr} {u : HO} (e : H b = some u) (n : ∀ kvs, u ≠ .dT kvs) : upd H d (.dT k2) b = some u := by
  rw [upd_ne (Kob.ne hd e n)]
  exact e
theorem upd_ft {d : Addr} {kvs k2 : List (List L2.Key × V)} (hd : H d = some (.dT kvs)) : FT H (upd H d (.dT k2)) := fun _ _ e => upd_st hd e fun _ z => nomatch z
theorem upd_fd {d d' : Addr} {k2 : List (List L2.Key × V)} (n : d' ≠ d) (kvs : List (List L2.Key × V)) (e : H d' = some (.dT kvs)) : upd H d (.dT k2) d' = some (.dT kvs) := by
  rw [upd_ne n]
  exact e
theorem Kh.put_inp {k : Ky} {p : Addr} {v : V} {a : α} {r : Nat} {kvs : List (List L2.Key × V)} (h : Kh Vx CK CR aF H o A S rn lv av m ni) (he : H A.i = some (.dT kvs)) (hp : H p = some (.tup [v, .int (r : Int)])) (hv : Vx.rp H v a) : Kh Vx CK CR aF (upd H A.i (.dT (putK kvs k (.ref p)))) o A { S with inp := ups S.inp k (a, r) } rn lv av m (ni + 1) := by
  have ft : FT H (upd H A.i (.dT (putK kvs k (.ref p)))) := upd_ft he
  refine ⟨?_, ?_, h.ent.keep ft (upd_fd h.d1.symm) (Nat.le_refl _), h.run.keep (upd_fd h.d2.symm) (Nat.le_refl _), h.live.keep (fun _ _ _ e => upd_st he e fun _ z => nomatch z), h.ended.keep ft (fun _ e => upd_st he e fun _ z => nomatch z) (Nat.le_refl _), h.d1, h.d2, h.d3, h.ck⟩
  · obtain ⟨dx, a⟩ := h.raw
    exact ⟨dx, upd_st he a fun _ z => nomatch z⟩
  · obtain ⟨k2, x1, x2, x3⟩ := h.inp
    rw [he] at x1
    cases x1
    refine ⟨_, upd_same, by have := length_putK kvs k (V.ref p); omega, fun j => ?_⟩
    by_cases hj : j = k
    · subst hj
      exact .inr ⟨p, v, a, r, by rw [valV_put, if_pos rfl], ups_at, ft _ _ hp, Vx.keep ft hv⟩
    · rw [valV_put, if_neg hj]
      rcases x3 j with ⟨x, y⟩ | ⟨p', v', a', r', x, y, z, w⟩
      · exact .inl ⟨x, (ups_ne hj).trans y⟩
      · exact .inr ⟨p', v', a', r', x, (ups_ne hj).trans y, ft _ _ z, Vx.keep ft w⟩
theorem Kh.put_ent {k : Ky} {p : Addr} {e : En α} {kvs : List (List L2.Key × V)} (h : Kh Vx CK CR aF H o A S rn lv av m ni) (he : H A.e = some (.dT kvs)) (hp : EntV Vx H p e) : Kh Vx CK CR aF (upd H A.e (.dT (putK kvs k (.ref p)))) o A { S with en := ups S.en k e } rn lv av (m + 1) ni := by
  have ft : FT H (upd H A.e (.dT (putK kvs k (.ref p)))) := upd_ft he
  refine ⟨?_, h.inp.keep ft (upd_fd h.d1), ?_, h.run.keep (upd_fd h.d3.symm) (Nat.le_succ _), h.live.keep (fun _ _ _ e => upd_st he e fun _ z => nomatch z), h.ended.keep ft (fun _ e => upd_st he e fun _ z => nomatch z) (Nat.le_succ _), h.d1, h.d2, h.d3, h.ck⟩
  · obtain ⟨dx, a⟩ := h.raw
    exact ⟨dx, upd_st he a fun _ z => nomatch z⟩
  · obtain ⟨k2, x1, x2, x3⟩ := h.ent
    rw [he] at x1
    cases x1
    refine ⟨_, upd_same, by have := length_putK kvs k (V.ref p); omega, fun j => ?_⟩
    by_cases hj : j = k
    · subst hj
      exact .inr ⟨p, e, by rw [valV_put, if_pos rfl], ups_at, hp.keep ft⟩
    · rw [valV_put, if_neg hj]
      rcases x3 j with ⟨x, y⟩ | ⟨p', e', x, y, z⟩
      · exact .inl ⟨x, (ups_ne hj).trans y⟩
      · exact .inr ⟨p', e', x, (ups_ne hj).trans y, z.keep ft⟩
theorem Kh.put_run {k : Ky} {p : Addr} {dx : Addr} {kvs : List (List L2.Key × V)} (h : Kh Vx CK CR aF H o A S rn lv av m ni) (he : H A.r = some (.dT kvs)) (hp : H p = some (.ins CR dx [("live", .bl true)])) : Kh Vx CK CR aF (upd H A.r (.dT (putK kvs k (.ref p)))) o A S (ups rn k p) (lv ++ [k]) av (m + 1) ni := by
  have ft : FT H (upd H A.r (.dT (putK kvs k (.ref p)))) := upd_ft he
  refine ⟨?_, h.inp.keep ft (upd_fd h.d2), h.ent.keep ft (upd_fd h.d3) (Nat.le_succ _), ?_, ?_, h.ended.keep ft (fun _ e => upd_st he e fun _ z => nomatch z) (Nat.le_succ _), h.d1, h.d2, h.d3, h.ck⟩
  · obtain ⟨dx, a⟩ := h.raw
    exact ⟨dx, upd_st he a fun _ z => nomatch z⟩
  · obtain ⟨k2, a, b, c⟩ := h.run
    rw [he] at a
    cases a
    refine ⟨_, upd_same, by have := length_putK kvs k (V.ref p); omega, fun j => ?_⟩
    by_cases hj : j = k
    · subst hj
      rw [valV_put, if_pos rfl, ups_at]
      rfl
    · rw [valV_put, if_neg hj, ups_ne hj]
      exact c j
  · refine fun j => ⟨fun hk => ?_, fun hk q hq => ?_⟩
    · by_cases hj : j = k
      · subst hj
        exact ⟨p, dx, ups_at, upd_st he hp fun _ z => nomatch z⟩
      · have : j ∈ lv := by
          rcases List.mem_append.mp hk with hk | hk
          · exact hk
          · exact absurd (List.mem_singleton.mp hk) hj
        obtain ⟨p', dx', a, c⟩ := (h.live j).1 this
        exact ⟨p', dx', by rw [ups_ne hj]; exact a, upd_st he c fun _ z => nomatch z⟩
    · have hj : j ≠ k := fun z => hk (List.mem_append.mpr (.inr (List.mem_singleton.mpr z)))
      rw [ups_ne hj] at hq
      obtain ⟨dx', c⟩ := (h.live j).2 (fun z => hk (List.mem_append.mpr (.inl z))) q hq
      exact ⟨dx', upd_st he c fun _ z => nomatch z⟩
theorem valV_dropK {κ : Type} [DecidableEq κ] (k j : κ) : ∀ kvs : List (κ × V), valV (dropK kvs k) j = if j = k then none else valV kvs j
  | [] => by split <;> rfl
  | p :: r => by
    have ih := valV_dropK k j r
    by_cases e : p.1 = k
    · have z : dropK (p :: r) k = dropK r k := List.filter_cons_of_neg (by simp [e])
      rw [z, ih]
      by_cases h : j = k
      · rw [if_pos h, if_pos h]
      · rw [if_neg h, if_neg h, valV_neg (fun z => h (z.symm.trans e))]
    · have z : dropK (p :: r) k = p :: dropK r k := List.filter_cons_of_pos (by simp [e])
      rw [z]
      by_cases h : p.1 = j
      · rw [valV_pos h, valV_pos h, if_neg (fun z => e (h.trans z))]
      · rw [valV_neg h, valV_neg h, ih]
def del {β : Type} (f : Ky → Option β) (k : Ky) : Ky → Option β := fun j => if j = k then none else f j
theorem Kh.drop_run {k : Ky} {kvs : List (List L2.Key × V)} (h : Kh Vx CK CR aF H o A S rn (lv ++ [k]) av m ni) (hk : k ∉ lv) (he : H A.r = some (.dT kvs)) : Kh Vx CK CR aF (upd H A.r (.dT (dropK kvs k))) o A S (del rn k) lv av m ni := by
  have ft : FT H (upd H A.r (.dT (dropK kvs k))) := upd_ft he
  refine ⟨?_, h.inp.keep ft (upd_fd h.d2), h.ent.keep ft (upd_fd h.d3) (Nat.le_refl _), ?_, ?_, h.ended.keep ft (fun _ e => upd_st he e fun _ z => nomatch z) (Nat.le_refl _), h.d1, h.d2, h.d3, h.ck⟩
  · obtain ⟨dx, a⟩ := h.raw
    exact ⟨dx, upd_st he a fun _ z => nomatch z⟩
  · obtain ⟨k2, a, b, c⟩ := h.run
    rw [he] at a
    cases a
    refine ⟨_, upd_same, Nat.le_trans (dropK_le kvs k) b, fun j => ?_⟩
    rw [valV_dropK]
    by_cases hj : j = k
    · subst hj
      rw [if_pos rfl, show del rn j j = none from if_pos rfl]
      rfl
    · rw [if_neg hj, show del rn k j = rn j from if_neg hj]
      exact c j
  · refine fun j => ⟨fun hl => ?_, fun hl q hq => ?_⟩
    · have hj : j ≠ k := fun z => hk (z ▸ hl)
      obtain ⟨p', dx', a, c⟩ := (h.live j).1 (List.mem_append.mpr (.inl hl))
      exact ⟨p', dx', by rw [show del rn k j = rn j from if_neg hj]; exact a, upd_st he c fun _ z => nomatch z⟩
    · by_cases hj : j = k
      · rw [show del rn k j = none from if_pos hj] at hq
        cases hq
      · rw [show del rn k j = rn j from if_neg hj] at hq
        obtain ⟨dx', c⟩ := (h.live j).2 (fun z => (List.mem_append.mp z).elim hl fun z => hj (List.mem_singleton.mp z)) q hq
        exact ⟨dx', upd_st he c fun _ z => nomatch z⟩
theorem Kh.drop_ent {k : Ky} {kvs : List (List L2.Key × V)} (h : Kh Vx CK CR aF H o A S rn lv av m ni) (he : H A.e = some (.dT kvs)) : Kh Vx CK CR aF (upd H A.e (.dT (dropK kvs k))) o A { S with en := del S.en k } rn lv av m ni := by
  have ft : FT H (upd H A.e (.dT (dropK kvs k))) := upd_ft he
  refine ⟨?_, h.inp.keep ft (upd_fd h.d1), ?_, h.run.keep (upd_fd h.d3.symm) (Nat.le_refl _), h.live.keep (fun _ _ _ e => upd_st he e fun _ z => nomatch z), h.ended.keep ft (fun _ e => upd_st he e fun _ z => nomatch z) (Nat.le_refl _), h.d1, h.d2, h.d3, h.ck⟩
  · obtain ⟨dx, a⟩ := h.raw
    exact ⟨dx, upd_st he a fun _ z => nomatch z⟩
  · obtain ⟨k2, a, b, c⟩ := h.ent
    rw [he] at a
    cases a
    refine ⟨_, upd_same, Nat.le_trans (dropK_le kvs k) b, fun j => ?_⟩
    rw [valV_dropK]
    by_cases hj : j = k
    · rw [if_pos hj]
      exact .inl ⟨rfl, if_pos hj⟩
    · rw [if_neg hj]
      rcases c j with ⟨x, y⟩ | ⟨p', e', x, y, z⟩
      · exact .inl ⟨x, (if_neg hj : del S.en k j = S.en j).trans y⟩
      · exact .inr ⟨p', e', x, (if_neg hj : del S.en k j = S.en j).trans y, z.keep ft⟩
theorem Kh.drop_inp {k : Ky} {kvs : List (List L2.Key × V)} (h : Kh Vx CK CR aF H o A S rn lv av m ni) (he : H A.i = some (.dT kvs)) : Kh Vx CK CR aF (upd H A.i (.dT (dropK kvs k))) o A { S with inp := del S.inp k } rn lv av m ni := by
  have ft : FT H (upd H A.i (.dT (dropK kvs k))) := upd_ft he
  refine ⟨?_, ?_, h.ent.keep ft (upd_fd h.d1.symm) (Nat.le_refl _), h.run.keep (upd_fd h.d2.symm) (Nat.le_refl _), h.live.keep (fun _ _ _ e => upd_st he e fun _ z => nomatch z), h.ended.keep ft (fun _ e => upd_st he e fun _ z => nomatch z) (Nat.le_refl _), h.d1, h.d2, h.d3, h.ck⟩
  · obtain ⟨dx, a⟩ := h.raw
    exact ⟨dx, upd_st he a fun _ z => nomatch z⟩
  · obtain ⟨k2, a, b, c⟩ := h.inp
    rw [he] at a
    cases a
    refine ⟨_, upd_same, Nat.le_trans (dropK_le kvs k) b, fun j => ?_⟩
    rw [valV_dropK]
    by_cases hj : j = k
    · rw [if_pos hj]
      exact .inl ⟨rfl, if_pos hj⟩
    · rw [if_neg hj]
      rcases c j with ⟨x, y⟩ | ⟨p', v', a', r', x, y, z, w⟩
      · exact .inl ⟨x, (if_neg hj : del S.inp k j = S.inp j).trans y⟩
      · exact .inr ⟨p', v', a', r', x, (if_neg hj : del S.inp k j = S.inp j).trans y, ft _ _ z, Vx.keep ft w⟩
theorem Kh.push {bs : List Addr} {b : Addr} {k : Ky} (h : Kh Vx CK CR aF H o A S rn lv av m ni) (hl : H A.l = some (.lst (bs.map V.ref))) (hk : Ks H bs S.done) (hb : isK H b k) (hm : bs.length ≤ m) : Kh Vx CK CR aF (upd H A.l (.lst (bs.map V.ref ++ [V.ref b]))) o A { S with done := S.done ++ [k] } rn lv av (m + 1) ni := by
  have st : ∀ {c u}, H c = some u → Kob u → upd H A.l (.lst (bs.map V.ref ++ [V.ref b])) c = some u := fun e' n => by
    rw [upd_ne (fun z => by rw [z, hl] at e'; injection e' with e'; rw [← e'] at n; exact n)]
    exact e'
  have ft : FT H (upd H A.l (.lst (bs.map V.ref ++ [V.ref b]))) := fun _ _ e => st e trivial
  have fd : ∀ d kvs, H d = some (.dT kvs) → upd H A.l (.lst (bs.map V.ref ++ [V.ref b])) d = some (.dT kvs) := fun _ _ e => st e trivial
  refine ⟨?_, h.inp.keep ft (fd _), h.ent.keep ft (fd _) (Nat.le_succ _), h.run.keep (fd _) (Nat.le_succ _), h.live.keep (fun _ _ _ e => st e trivial), ⟨bs ++ [b], by rw [List.map_append]; exact upd_same, by rw [List.length_append, List.length_singleton]; omega, (hk.snoc hb).keep ft⟩, h.d1, h.d2, h.d3, h.ck⟩
  obtain ⟨dx, a⟩ := h.raw
  exact ⟨dx, st a trivial⟩
/-- a run ends: the keys that it brought are not live any more -/
theorem Kh.stop {ps : List Ky} {pr dx : Addr} (h : Kh Vx CK CR aF H o A S rn (lv ++ ps) av m ni) (hp : H pr = some (.ins CR dx [("live", .bl true)])) (h1 : ∀ k ∈ ps, rn k = some pr) (h2 : ∀ k ∈ lv, rn k ≠ some pr) : Kh Vx CK CR aF (upd H pr (.ins CR dx [("live", .bl false)])) o A S rn lv av m ni := by
  have st : ∀ {b u}, H b = some u → (∀ dx fs, u ≠ .ins CR dx fs) → upd H pr (.ins CR dx [("live", .bl false)]) b = some u := fun e' n => by
    rw [upd_ne (fun z => by rw [z, hp] at e'; injection e' with e'; exact n _ _ e'.symm)]
    exact e'
  have ft : FT H (upd H pr (.ins CR dx [("live", .bl false)])) := fun b xs e' => st e' fun _ _ z => nomatch z
  have fd : ∀ d kvs, H d = some (.dT kvs) → upd H pr (.ins CR dx [("live", .bl false)]) d = some (.dT kvs) := fun _ _ e => st e fun _ _ z => nomatch z
  refine ⟨?_, h.inp.keep ft (fd _), h.ent.keep ft (fd _) (Nat.le_refl _), h.run.keep (fd _) (Nat.le_refl _), ?_, h.ended.keep ft (fun _ e => st e fun _ _ z => nomatch z) (Nat.le_refl _), h.d1, h.d2, h.d3, h.ck⟩
  · obtain ⟨dx, a⟩ := h.raw
    exact ⟨dx, st a fun _ _ z => by injection z with z; exact h.ck z⟩
  · refine fun j => ⟨fun hl => ?_, fun hl q hq => ?_⟩
    · obtain ⟨p', dx', a, c⟩ := (h.live j).1 (List.mem_append.mpr (.inl hl))
      exact ⟨p', dx', a, by rw [upd_ne (fun z => h2 j hl (by rw [a, z]))]; exact c⟩
    · have dec : (j ∈ ps) ∨ (j ∉ ps) := Classical.em _
      rcases dec with hj | hj
      · have e := h1 j hj
        rw [e] at hq
        cases hq
        exact ⟨dx, upd_same⟩
      · obtain ⟨dx', c⟩ := (h.live j).2 (fun z => (List.mem_append.mp z).elim hl hj) q hq
        refine ⟨dx', ?_⟩
        rw [upd_ne (fun z => by rw [z, hp] at c; injection c with c; injection c with _ _ c; exact absurd c (by decide))]
        exact c
theorem Kh.other {d : Addr} {kvs k2 : List (List L2.Key × V)} (h : Kh Vx CK CR aF H o A S rn lv av m ni) (hd : H d = some (.dT kvs)) (n1 : d ≠ A.i) (n2 : d ≠ A.e) (n3 : d ≠ A.r) : Kh Vx CK CR aF (upd H d (.dT k2)) o A S rn lv av m ni := by
  have ft : FT H (upd H d (.dT k2)) := upd_ft hd
  obtain ⟨dx, a⟩ := h.raw
  exact ⟨⟨dx, upd_st hd a fun _ z => nomatch z⟩, h.inp.keep ft (upd_fd n1.symm), h.ent.keep ft (upd_fd n2.symm) (Nat.le_refl _), h.run.keep (upd_fd n3.symm) (Nat.le_refl _), h.live.keep (fun _ _ _ e => upd_st hd e fun _ z => nomatch z), h.ended.keep ft (fun _ e => upd_st hd e fun _ z => nomatch z) (Nat.le_refl _), h.d1, h.d2, h.d3, h.ck⟩
/-- a frame for what an ask changes -/
def Fr (o : Addr) (A : KAd) (av : V) (H H' : Hp) : Prop := ∀ b u, H b = some u → b ≠ o → b ≠ A.e → b ≠ A.r → b ≠ A.l → V.ref b ≠ av → H' b = some u
end

end Sn

namespace Sn
open PySem PySem.Spec PyProof.Rows L2 TL
/-! ### the keeper's small methods -/
def spRunI (CR : Addr) : Sp := fun vs H Q _ => ∃ p dx, vs = [.ref p] ∧ H p = some (.ins CR dx []) ∧ Q .non (upd H p (.ins CR dx [("live", .bl true)]))
section
variable {α : Type} [DecidableEq α] (Vx : Vl α)
def KS0 : KS α := ⟨0, none, fun _ => none, fun _ => none, []⟩
def spKI (CK CR aF : Addr) : Sp := fun vs H Q _ => ∃ p dx, vs = [.ref p, .ref aF] ∧ CK ≠ CR ∧ H p = some (.ins CK dx []) ∧ ∀ H' A, (∀ b u, H b = some u → b ≠ p → H' b = some u) → H A.i = none → H A.e = none → H A.r = none → H A.l = none →
  Kh Vx CK CR aF H' p A KS0 (fun _ => none) [] .non 0 0 → Q .non H'
def spIC (CK CR aF : Addr) : Sp := fun vs H Q _ => ∃ o b A S rn lv av m ni k, vs = [.ref o, .ref b] ∧ Kh Vx CK CR aF H o A S rn lv av m ni ∧ isK H b k ∧ Q (.bl (chkB S k)) H
def spCh (CK CR aF : Addr) : Sp := fun vs H Q _ => ∃ o b A S rn lv av m ni k g, vs = [.ref o, .ref b] ∧ Kh Vx CK CR aF H o A S rn lv av m ni ∧ isK H b k ∧ S.chg k = some g ∧ Q (.int ((g : Nat) : Int)) H
def spBeg (CK CR CC aF : Addr) : Sp := fun vs H Q E => ∃ o A S rn lv av m ni, vs = [.ref o] ∧ Kh Vx CK CR aF H o A S rn lv av m ni ∧ (S.left = some 0 → E (.ref CC) none H) ∧
  (S.left ≠ some 0 → ∀ H' d, H d = none → But o H H' → H' d = some (.dT []) → Kh Vx CK CR aF H' o A S.dec rn lv (.ref d) m ni → Q .non H')
def spEnt (CK CR aF : Addr) : Sp := fun vs H Q E => ∃ o b pr dx A S rn lv av m ni k, vs = [.ref o, .ref b, .ref pr] ∧ Kh Vx CK CR aF H o A S rn lv av m ni ∧ isK H b k ∧ H pr = some (.ins CR dx [("live", .bl true)]) ∧ m < 16000000 ∧ k ∉ lv ∧
  ∀ H' st, (∀ b u, H b = some u → b ≠ A.r → H' b = some u) → H st = none → H' st = some (.lst [.ref b, .int 0]) → Kh Vx CK CR aF H' o A S (ups rn k pr) (lv ++ [k]) av (m + 1) ni → Q (.ref st) H'
end
theorem at_nat {xs : List V} {v : V} {i : Nat} (h : xs[i]? = some v) : atI xs (i : Int) = some v := at_of rfl h
theorem iteT' {c : Bool} {A B : Prop} (hc : c = true) (h : A) : if c = true then A else B := by
  rw [if_pos hc]
  exact h
theorem iteF' {c : Bool} {A B : Prop} (hc : c = false) (h : B) : if c = true then A else B := by
  rw [if_neg (by rw [hc]; decide)]
  exact h
theorem dec_nat {a b : Nat} : (decide (V.int (a : Int) = V.int (b : Int))) = decide (a = b) := by
  by_cases z : a = b
  · rw [decide_eq_true z, decide_eq_true (by rw [z])]
  · rw [decide_eq_false z, decide_eq_false (fun y => z (by injection y with y; omega))]
section
variable {α : Type} [DecidableEq α] {Vx : Vl α}
variable {P : Program} {w : World} {K : PySem.W.Frag} {mg : Str → Option Value} {base : Heap} {f : Addr} {fd : FuncData} {CK CR CC aF : Addr}
abbrev s_Run_init : Stmt := inClass (topS 6) 0
abbrev N_Run_init : List Str := ["self"]
theorem sc_Run_init : FnScope N_Run_init ["self"] (defScope s_Run_init) := ⟨rfl, rfl, rfl, by decide +kernel, rfl, by decide +kernel, by decide +kernel⟩
theorem ok_Run_init (F : Fun K "__init__" "Run.__init__" s_Run_init f fd) (T : NmK K mg aF CK CR CC) : FnOk P w K mg base CX0 1 f fd ["self"] (spRunI CR) := by
  refine F.ok sc_Run_init (fun vs H Q E h => ?_) (fun cdv A outer s H vs Q E hr h => ?_)
  · obtain ⟨p, dx, rfl, _⟩ := h
    rfl
  obtain ⟨p, dx, rfl, hp, q⟩ := h
  refine ⟨_, (pss_one (ps_fld (pv 0) pe_bl rfl)), ?_⟩
  exact ⟨_, rfl, p, CR, dx, _, rfl, hp, T.cl_Run, T.n_live, by decide, q⟩
abbrev s_K_is_checked : Stmt := inClass (topS 7) 12
abbrev N_K_is_checked : List Str := ["self", "key"]
theorem sc_K_is_checked : FnScope N_K_is_checked ["self", "key"] (defScope s_K_is_checked) := ⟨rfl, rfl, rfl, by decide +kernel, rfl, by decide +kernel, by decide +kernel⟩
theorem ok_is_checked (F : Fun K "_is_checked" "Keeper._is_checked" s_K_is_checked f fd) (T : NmK K mg aF CK CR CC) : FnOk P w K mg base CX0 1 f fd ["self", "key"] (spIC Vx CK CR aF) := by
  refine F.ok sc_K_is_checked (fun vs H Q E h => ?_) (fun cdv A outer s H vs Q E hr h => ?_)
  · obtain ⟨o, b, A, S, rn, lv, av, m, ni, k, rfl, _⟩ := h
    rfl
  obtain ⟨o, b, A, S, rn, lv, av, m, ni, k, rfl, kh, hb, q⟩ := h
  refine ⟨_, (pss_one (ps_ret (pe_and (pe_cmp (pc_din (hu_of hr) (pv 1) (pe_k_entries T (pv 0))) rfl) (pe_one (pe_cmpR op_eq (pe_ix (r := rIxT K) ix_tup (pe_dget (hu_of hr) (pe_k_entries T (pv 0)) (pv 1) (fun _ _ => rfl)) pe_int (fun _ _ => rfl)) (pe_k_now T (pv 0)) (nomark _)))))), ?_⟩
  unfold chkB at q
  obtain ⟨kvs, he, _, hs⟩ := kh.ent
  refine ⟨_, rfl, _, rfl, o, _, rfl, kh.raw, A.e, _, rfl, DGet.t he hb, ?_⟩
  rcases hs k with ⟨h1, h2⟩ | ⟨p, e, h1, h2, v, qq, bs, h3, _⟩
  · rw [h1]
    rw [h2] at q
    exact ⟨_, rfl, iteF q⟩
  · rw [h1]
    rw [h2] at q
    refine ⟨_, rfl, iteT ?_⟩
    refine ⟨_, rfl, o, _, rfl, kh.raw, _, rfl, A.e, _, rfl, ?_, p, _, _, _, rfl, rfl, .inl (.inl h3), at_nat (i := 2) rfl, _, rfl, o, _, rfl, kh.raw, rfl, ?_⟩
    · rw [← h1]
      exact DGet.t he hb
    show Q (.bl (decide (V.int (e.c : Int) = V.int (S.now : Int)))) H
    rw [dec_nat]
    exact q
abbrev s_K_changed : Stmt := inClass (topS 7) 13
abbrev N_K_changed : List Str := ["self", "key"]
theorem sc_K_changed : FnScope N_K_changed ["self", "key"] (defScope s_K_changed) := ⟨rfl, rfl, rfl, by decide +kernel, rfl, by decide +kernel, by decide +kernel⟩
theorem ok_changed (F : Fun K "_changed" "Keeper._changed" s_K_changed f fd) (T : NmK K mg aF CK CR CC) : FnOk P w K mg base CX0 1 f fd ["self", "key"] (spCh Vx CK CR aF) := by
  refine F.ok sc_K_changed (fun vs H Q E h => ?_) (fun cdv A outer s H vs Q E hr h => ?_)
  · obtain ⟨o, b, A, S, rn, lv, av, m, ni, k, g, rfl, _⟩ := h
    rfl
  obtain ⟨o, b, A, S, rn, lv, av, m, ni, k, g, rfl, kh, hb, hg, q⟩ := h
  refine ⟨_, (pss_cons (ps_if (pt_cmp (pc_din (hu_of hr) (pv 1) (pe_k_inputs T (pv 0)))) (pss_one (ps_ret (pe_ix (r := rIxT K) ix_tup (pe_dget (hu_of hr) (pe_k_inputs T (pv 0)) (pv 1) (fun _ _ => rfl)) pe_int (fun _ _ => rfl)))) pss_nil)
    (pss_one (ps_ret (pe_ix (r := rIxT K) ix_tup (pe_dget (hu_of hr) (pe_k_entries T (pv 0)) (pv 1) (fun _ _ => rfl)) pe_int (fun _ _ => rfl))))), ?_⟩
  unfold KS.chg at hg
  obtain ⟨kvi, hi, _, his⟩ := kh.inp
  obtain ⟨kvs, he, _, hs⟩ := kh.ent
  rcases his k with ⟨h1, h2⟩ | ⟨p, v, a, r, h1, h2, h3, _⟩
  · rw [h2] at hg
    have dn : DGet H A.i (.ref b) none := by
      rw [← h1]
      exact DGet.t hi hb
    rcases hs k with ⟨_, h4⟩ | ⟨p, e, h4, h5, v, qq, bs, h3, _⟩
    · rw [h4] at hg
      cases hg
    rw [h5] at hg
    injection hg with hg
    subst hg
    have dg : DGet H A.e (.ref b) (some (.ref p)) := by
      rw [← h4]
      exact DGet.t he hb
    refine ⟨_, rfl, _, rfl, o, _, rfl, kh.raw, A.i, _, rfl, dn, _, rfl, iteF ?_⟩
    exact ⟨_, rfl, o, _, rfl, kh.raw, _, rfl, A.e, _, rfl, dg, p, _, _, _, rfl, rfl, .inl (.inl h3), at_nat (i := 3) rfl, q⟩
  · rw [h2] at hg
    injection hg with hg
    subst hg
    have dg : DGet H A.i (.ref b) (some (.ref p)) := by
      rw [← h1]
      exact DGet.t hi hb
    refine ⟨_, rfl, _, rfl, o, _, rfl, kh.raw, A.i, _, rfl, dg, _, rfl, iteT ?_⟩
    exact ⟨_, rfl, o, _, rfl, kh.raw, _, rfl, A.i, _, rfl, dg, p, _, _, _, rfl, rfl, .inl (.inl h3), at_nat (i := 1) rfl, q⟩
abbrev s_K_begin : Stmt := inClass (topS 7) 14
abbrev N_K_begin : List Str := ["self"]
theorem sc_K_begin : FnScope N_K_begin ["self"] (defScope s_K_begin) := ⟨rfl, rfl, rfl, by decide +kernel, rfl, by decide +kernel, by decide +kernel⟩
theorem ok_begin (F : Fun K "_begin" "Keeper._begin" s_K_begin f fd) (T : NmK K mg aF CK CR CC) : FnOk P w K mg base (L2.CX P w) 1 f fd ["self"] (spBeg Vx CK CR CC aF) := by
  refine F.okX sc_K_begin (fun vs H Q E h => ?_) (fun cdv A outer s H vs Q E hr h => ?_)
  · obtain ⟨o, A, S, rn, lv, av, m, ni, rfl, _⟩ := h
    rfl
  obtain ⟨o, A, S, rn, lv, av, m, ni, rfl, kh, qe, q⟩ := h
  refine ⟨_, (pss_cons (ps_if (pt_cmpR op_eq (pe_k_left T (pv 0)) pe_int (nomark _)) (pss_one (ps_raise rfl (takes_of rfl rfl rfl rfl) (pmk_own PySem.F.excBase_ValueError T.xI T.c_Cancelled T.kI (raises_own T.bI T.tI) rfl))) pss_nil)
    (C8.pss_cut (ps_if (pt_cmpR op_notN (pe_k_left T (pv 0)) pe_non (nomark _)) (pss_one (ps_ka_left T (pv 0) pe_int in_sub)) pss_nil)
    (pss_one (ps_k_asked T (pv 0) pe_dnewT)))), ?_⟩
  obtain ⟨dx, eo⟩ := kh.raw
  have fin : ∀ (H1 : Hp) (S1 : KS α), But o H H1 → (∀ b, H1 b = none → H b = none) → Kh Vx CK CR aF H1 o A S1 rn lv av m ni → S1 = S.dec → S.left ≠ some 0 → ∀ d, H1 d = none → KRaw CK (upd H1 d (.dT [])) o (kfo aF A S1 av) ∧ ∀ H', But o (upd H1 d (.dT [])) H' → KRaw CK H' o { kfo aF A S1 av with asked := .ref d } → Q .non H' := fun H1 S1 b1 n1 k1 e1 hl d nd => by
    have s1 : Same H1 (upd H1 d (.dT [])) := same_new nd
    refine ⟨(k1.same s1).raw, fun H' b2 r2 => ?_⟩
    subst e1
    have kk := (k1.same s1).ask b2 r2
    obtain ⟨dx1, eo1⟩ := k1.raw
    exact q hl H' d (n1 d nd) ((b1.trans (But.of s1)).trans b2) (b2 _ _ (fun z => by rw [z, eo1] at nd; cases nd) upd_same) kk
  cases hl : S.left with
  | none =>
    refine ⟨_, rfl, o, _, rfl, kh.raw, (by show scal (lfV S.left) (V.int 0) = true; rw [hl]; rfl), _, rfl, ?_⟩
    show if decide (lfV S.left = V.int 0) = true then _ else _
    refine iteN (fun z => by rw [hl] at z; cases z) ?_
    refine ⟨fun σ H1 => σ = [some (.ref o)] ∧ H1 = H, ?_, ?_⟩
    · refine ⟨_, rfl, o, _, rfl, kh.raw, rfl, _, rfl, ?_⟩
      show if _ = true then _ else _
      refine iteF' (by show (!decide (lfV S.left = V.non)) = false; rw [hl]; rfl) ?_
      exact ⟨rfl, rfl⟩
    rintro σ H1 ⟨rfl, rfl⟩
    intro d nd
    have e1 : S = S.dec := by
      unfold KS.dec
      rw [hl]
      cases S
      cases hl
      rfl
    obtain ⟨r1, f1⟩ := fin H1 S (But.refl _ _) (fun _ z => z) kh e1 (by rw [hl]; exact fun z => nomatch z) d nd
    exact ⟨_, rfl, o, _, rfl, r1, fun H' b1 _ r2 => f1 H' b1 r2⟩
  | some n =>
    by_cases hn : n = 0
    · subst hn
      refine ⟨_, rfl, o, _, rfl, kh.raw, (by show scal (lfV S.left) (V.int 0) = true; rw [hl]; rfl), _, rfl, ?_⟩
      show if decide (lfV S.left = V.int 0) = true then _ else _
      exact iteP (by rw [hl]; rfl) (qe hl)
    · refine ⟨_, rfl, o, _, rfl, kh.raw, (by show scal (lfV S.left) (V.int 0) = true; rw [hl]; rfl), _, rfl, ?_⟩
      show if decide (lfV S.left = V.int 0) = true then _ else _
      refine iteN (fun z => by rw [hl] at z; injection z with z; exact hn (Int.ofNat.inj z)) ?_
      refine ⟨fun σ H1 => σ = [some (.ref o)] ∧ But o H H1 ∧ (∀ b, H1 b = none → H b = none) ∧ Kh Vx CK CR aF H1 o A S.dec rn lv av m ni, ?_, ?_⟩
      · refine ⟨_, rfl, o, _, rfl, kh.raw, rfl, _, rfl, ?_⟩
        show if _ = true then _ else _
        refine iteT' (by show (!decide (lfV S.left = V.non)) = true; rw [hl]; rfl) ?_
        refine ⟨_, rfl, o, _, (n : Int), rfl, kh.raw, (by show lfV S.left = _; rw [hl]; rfl), fun H1 b1 n1 r1 => ⟨rfl, b1, fun c hc => ?_, ?_⟩⟩
        · cases y : H c with
          | none => rfl
          | some u =>
            by_cases z : c = o
            · obtain ⟨dx1, eo1⟩ := r1
              rw [z, eo1] at hc
              cases hc
            · rw [b1 _ _ z y] at hc
              cases hc
        · refine kh.self b1 ?_ rfl rfl rfl
          have e : kfo aF A S.dec av = { kfo aF A S av with left := .int ((n : Int) - 1) } := by
            unfold kfo KS.dec
            rw [hl]
            show (⟨_, _, V.int ((n - 1 : Nat) : Int), _, _, _, _, _⟩ : KF) = _
            rw [show ((n - 1 : Nat) : Int) = (n : Int) - 1 by omega]
          rw [e]
          exact r1
      rintro σ H1 ⟨rfl, b1, n1, k1⟩
      intro d nd
      obtain ⟨r1, f1⟩ := fin H1 S.dec b1 n1 k1 rfl (by rw [hl]; exact fun z => hn (by injection z)) d nd
      exact ⟨_, rfl, o, _, rfl, r1, fun H' b1 _ r2 => f1 H' b1 r2⟩
abbrev s_K_entered : Stmt := inClass (topS 7) 10
abbrev N_K_entered : List Str := ["self", "key", "run"]
theorem sc_K_entered : FnScope N_K_entered ["self", "key", "run"] (defScope s_K_entered) := ⟨rfl, rfl, rfl, by decide +kernel, rfl, by decide +kernel, by decide +kernel⟩
theorem ok_entered (F : Fun K "_entered" "Keeper._entered" s_K_entered f fd) (T : NmK K mg aF CK CR CC) : FnOk P w K mg base CX0 1 f fd ["self", "key", "run"] (spEnt Vx CK CR aF) := by
  refine F.ok sc_K_entered (fun vs H Q E h => ?_) (fun cdv A outer s H vs Q E hr h => ?_)
  · obtain ⟨o, b, pr, dx, A, S, rn, lv, av, m, ni, k, rfl, _⟩ := h
    rfl
  obtain ⟨o, b, pr, dx, A, S, rn, lv, av, m, ni, k, rfl, kh, hb, hp, hm, hk, q⟩ := h
  refine ⟨_, (pss_cons (ps_if (PW.pt (pw_and (pt_cmp (pc_din (hu_of hr) (pv 1) (pe_k_runs T (pv 0)))) (pw_and1 (pt_val (pe_fld (pe_dget (hu_of hr) (pe_k_runs T (pv 0)) (pv 1) (fun _ _ => rfl)) rfl))))) (pss_one ps_never) pss_nil)
    (pss_cons (ps_dput (hu_of hr) (pe_k_runs T (pv 0)) (pv 1) (pv 2) rfl)
    (pss_one (ps_ret (pe_lst (pa_cons (pv 1) (pa_cons pe_int pa_nil))))))), ?_⟩
  obtain ⟨kvs, he, hlen, hs⟩ := kh.run
  have dg : DGet H A.r (.ref b) ((rn k).map V.ref) := by
    rw [← hs k]
    exact DGet.t he hb
  have fin : ∀ st, upd H A.r (.dT (putK kvs k (.ref pr))) st = none → Q (.ref st) (upd (upd H A.r (.dT (putK kvs k (.ref pr)))) st (.lst [.ref b, .int 0])) := fun st ns => by
    have k1 := kh.put_run (k := k) he hp
    have s1 : Same (upd H A.r (.dT (putK kvs k (.ref pr)))) (upd (upd H A.r (.dT (putK kvs k (.ref pr)))) st (.lst [.ref b, .int 0])) := same_new ns
    have ne : st ≠ A.r := fun z => by rw [z, upd_same] at ns; cases ns
    rw [upd_ne ne] at ns
    exact q _ st (fun c u e n => s1 _ _ (by rw [upd_ne n]; exact e)) ns upd_same (k1.same s1)
  refine ⟨_, rfl, _, rfl, o, _, rfl, kh.raw, A.r, _, rfl, dg, _, rfl, ?_⟩
  cases hr1 : rn k with
  | none =>
    refine iteF ?_
    refine ⟨_, rfl, _, rfl, o, _, rfl, kh.raw, _, rfl, A.r, _, rfl, DPut.t he hb (Nat.lt_of_le_of_lt hlen (by show m < 16777216; omega)), ?_⟩
    exact ⟨_, rfl, by show 2 ≤ sizeLine; decide, fin⟩
  | some p =>
    refine iteT ?_
    rw [hr1] at dg
    obtain ⟨dx', c⟩ := (kh.live k).2 hk p hr1
    refine ⟨_, rfl, o, _, rfl, kh.raw, _, rfl, A.r, _, rfl, dg, p, CR, dx', _, _, rfl, c, T.cl_Run, T.n_live, rfl, _, rfl, iteF ?_⟩
    refine ⟨_, rfl, _, rfl, o, _, rfl, kh.raw, _, rfl, A.r, _, rfl, DPut.t he hb (Nat.lt_of_le_of_lt hlen (by show m < 16777216; omega)), ?_⟩
    exact ⟨_, rfl, by show 2 ≤ sizeLine; decide, fin⟩
end

end Sn

namespace Sn
open PySem PySem.Spec PyProof.Rows L2 TL
/-! ### an end of a computation; what to bring up to date -/
/-- a key's step stands here -/
def Stp (H : Hp) (st b : Addr) (i : Int) : Prop := H st = some (.lst [.ref b, .int i])
section
variable {α : Type} [DecidableEq α] (Vx : Vl α)
def spEnd (CK CR aF : Addr) : Sp := fun vs H Q _ => ∃ o b d A S rn lv m ni k vv v as, vs = [.ref o, .ref b, vv] ∧ Kh Vx CK CR aF H o A S rn lv (.ref d) m ni ∧ isK H b k ∧ H d = some (.dT as) ∧ Vx.rp H vv v ∧ as.length ≤ 1000 ∧ m < 16000000 ∧
  ∀ H', (∀ b u, H b = some u → b ≠ A.e → b ≠ A.l → H' b = some u) → Kh Vx CK CR aF H' o A (S.keep k v (as.map (·.1))) rn lv (.ref d) (m + 2) ni → Q .non H'
def spWan (CK CR aF : Addr) : Sp := fun vs H Q _ => ∃ o st b A S rn lv av m ni k, ∃ i : Nat, vs = [.ref o, .ref st] ∧ Kh Vx CK CR aF H o A S rn lv av m ni ∧ isK H b k ∧ Stp H st b i ∧ st ≠ A.l ∧ m < 16000000 ∧
  ((∃ e, S.en k = some e ∧ e.c = S.now) → Q .non H) ∧
  ((S.en k = none ∨ ∃ e, S.en k = some e ∧ scan S e.c (e.d.drop i) i = .comp) → Unc S k → ∀ H', (∀ c u, H c = some u → c ≠ st → H' c = some u) → (∃ j : Nat, Stp H' st b j) → Kh Vx CK CR aF H' o A S rn lv av m ni → Q (.ref b) H') ∧
  (∀ (e : En α) (d : Ky) (j : Nat), S.en k = some e → Unc S k → scan S e.c (e.d.drop i) i = .push d j → ∀ (H' : Hp) (b' : Addr), (∀ c u, H c = some u → c ≠ st → H' c = some u) → Stp H' st b j → Kh Vx CK CR aF H' o A S rn lv av m ni → isK H' b' d → Q (.ref b') H') ∧
  (∀ e : En α, S.en k = some e → Unc S k → scan S e.c (e.d.drop i) i = .look → ∀ H', (∀ c u, H c = some u → c ≠ st → c ≠ A.e → H' c = some u) → (∃ j : Nat, Stp H' st b j) → Kh Vx CK CR aF H' o A (S.look k e) rn lv av (m + 1) ni → Q .non H')
end
theorem Rdy.chg {α : Type} [DecidableEq α] {S : KS α} {d : Ky} (r : Rdy S d) : ∃ g, S.chg d = some g := by
  unfold KS.chg
  rcases r with ⟨x, e⟩ | ⟨a, e, he, _⟩
  · rw [e]
    exact ⟨_, rfl⟩
  · rw [a, he]
    exact ⟨_, rfl⟩
theorem keys_of {H : Hp} {kvs : List (List L2.Key × V)} {bs : List Addr} (h : IsKeys H kvs bs) : Ks H bs (kvs.map (·.1)) := by
  unfold IsKeys at h
  induction h with
  | nil => exact .nil
  | cons a _ ih => exact .cons a ih
section
variable {α : Type} [DecidableEq α] {Vx : Vl α}
variable {P : Program} {w : World} {K : PySem.W.Frag} {mg : Str → Option Value} {base : Heap} {f : Addr} {fd : FuncData} {CK CR CC aF : Addr}
abbrev s_K_end : Stmt := inClass (topS 7) 15
abbrev N_K_end : List Str := ["self", "key", "value", "changed"]
theorem sc_K_end : FnScope N_K_end ["self", "key", "value"] (defScope s_K_end) := ⟨rfl, rfl, rfl, by decide +kernel, rfl, by decide +kernel, by decide +kernel⟩
theorem ok_end (F : Fun K "_end" "Keeper._end" s_K_end f fd) (T : NmK K mg aF CK CR CC) : FnOk P w K mg base CX0 1 f fd ["self", "key", "value"] (spEnd Vx CK CR aF) := by
  refine F.ok sc_K_end (fun vs H Q E h => ?_) (fun cdv A outer s H vs Q E hr h => ?_)
  · obtain ⟨o, b, d, A, S, rn, lv, m, ni, k, vv, v, as, rfl, _⟩ := h
    rfl
  obtain ⟨o, b, d, A, S, rn, lv, m, ni, k, vv, v, as, rfl, kh, hb, hd, hv, has, hm, q⟩ := h
  refine ⟨_, (pss_cons (ps_set (i := 3) sc_K_end.nd rfl (Or.inl rfl) (pe_k_now T (pv 0)))
    (C8.pss_cut (ps_if (PW.pt (pw_and (pt_cmp (pc_din (hu_of hr) (pv 1) (pe_k_entries T (pv 0)))) (pw_and1 (pt_cmpR (op_eqD hr.units) (pe_ix (r := rIxT K) ix_tup (pe_dget (hu_of hr) (pe_k_entries T (pv 0)) (pv 1) (fun _ _ => rfl)) pe_int (fun _ _ => rfl)) (pv 2) (nomark _))))) (pss_one (ps_set (i := 3) sc_K_end.nd rfl (Or.inl rfl) (pe_ix (r := rIxT K) ix_tup (pe_dget (hu_of hr) (pe_k_entries T (pv 0)) (pv 1) (fun _ _ => rfl)) pe_int (fun _ _ => rfl)))) pss_nil)
    (pss_cons (ps_dput (hu_of hr) (pe_k_entries T (pv 0)) (pv 1) (pe_tup (pa_cons (pv 2) (pa_cons (pe_callTy (call_tuple_dT rfl) (by rfl) T.tuple_ (by decide +kernel) (pa_cons (pe_k_asked T (pv 0)) pa_nil)) (pa_cons (pe_k_now T (pv 0)) (pa_cons (pv 3) pa_nil))))) rfl)
    (pss_one (ps_expr (pe_bm PySem.F.plainAttrs_list PySem.F.slot_list_append PySem.F.type_list_append mt_append (pe_k_ended T (pv 0)) (pa_cons (pv 1) pa_nil))))))), ?_⟩
  obtain ⟨kvs, he, hlen, hs⟩ := kh.ent
  have dg := DGet.t he hb
  refine ⟨_, rfl, o, _, rfl, kh.raw, ?_⟩
  refine ⟨fun σ H' => H' = H ∧ σ = [some (.ref o), some (.ref b), some vv, some (.int (S.chgOf k v : Int))], ?_, ?_⟩
  · refine ⟨_, rfl, _, rfl, o, _, rfl, kh.raw, A.e, _, rfl, dg, ?_⟩
    rcases hs k with ⟨h1, h2⟩ | ⟨p, e, h1, h2, ve, qq, bs, h3, h4, _⟩
    · rw [h1]
      refine ⟨_, rfl, iteF ⟨rfl, ?_⟩⟩
      unfold KS.chgOf
      rw [h2]
      rfl
    · rw [h1] at dg ⊢
      refine ⟨_, rfl, iteT ?_⟩
      refine ⟨_, rfl, o, _, rfl, kh.raw, _, rfl, A.e, _, rfl, dg, p, _, _, _, rfl, rfl, .inl (.inl h3), at_nat (i := 0) rfl, _, rfl, _, _, Vx.dp h4, Vx.dp hv, Vx.sh _, Vx.sh _, _, rfl, ?_⟩
      rw [Vx.eq]
      by_cases z : e.v = v
      · refine iteP z ?_
        refine ⟨_, rfl, o, _, rfl, kh.raw, _, rfl, A.e, _, rfl, dg, p, _, _, _, rfl, rfl, .inl (.inl h3), at_nat (i := 3) rfl, rfl, ?_⟩
        unfold KS.chgOf
        rw [h2]
        show _ = [_, _, _, some (V.int ((if e.v = v then e.g else S.now : Nat) : Int))]
        rw [if_pos z]
        rfl
      · refine iteN z ⟨rfl, ?_⟩
        unfold KS.chgOf
        rw [h2]
        show _ = [_, _, _, some (V.int ((if e.v = v then e.g else S.now : Nat) : Int))]
        rw [if_neg z]
        rfl
  rintro σ H' ⟨rfl, rfl⟩
  refine ⟨_, rfl, _, rfl, o, _, rfl, kh.raw, d, as, rfl, .inl hd, fun t bs nt ik => ?_⟩
  have s1 := same_new (o := .tup (bs.map V.ref)) nt
  have ht : upd H' t (.tup (bs.map V.ref)) t = some (.tup (bs.map V.ref)) := upd_same
  have k1 := kh.same s1
  have kk : Ks (upd H' t (.tup (bs.map V.ref))) bs (as.map (·.1)) := (keys_of ik).keep fun _ _ e => s1 _ _ e
  have hv1 := Vx.keep (fun _ _ e => s1 _ _ e) hv
  generalize upd H' t (.tup (bs.map V.ref)) = H1 at s1 ht k1 kk hv1 ⊢
  refine ⟨_, rfl, o, _, rfl, k1.raw, _, rfl, by show 4 ≤ sizeLine; decide, fun p np => ?_⟩
  have s2 := same_new (o := .tup [vv, .ref t, (kfo aF A S (V.ref d)).now, .int (S.chgOf k v : Int)]) np
  have k2 := k1.same s2
  have hp : EntV Vx (upd H1 p (.tup [vv, .ref t, (kfo aF A S (V.ref d)).now, .int (S.chgOf k v : Int)])) p ⟨v, as.map (·.1), S.now, S.chgOf k v⟩ :=
    ⟨vv, t, bs, upd_same, Vx.keep (fun _ _ e => s2 _ _ e) hv1, s2 _ _ ht, kk.keep fun _ _ e => s2 _ _ e⟩
  generalize upd H1 p (.tup [vv, .ref t, (kfo aF A S (V.ref d)).now, .int (S.chgOf k v : Int)]) = H2 at s2 k2 hp ⊢
  have he2 := s2 _ _ (s1 _ _ he)
  refine ⟨_, rfl, o, _, rfl, k2.raw, _, rfl, A.e, _, rfl, DPut.t he2 (s2 _ _ (s1 _ _ hb)) (Nat.lt_of_le_of_lt hlen (by show m < 16777216; omega)), ?_⟩
  have k3 := k2.put_ent (k := k) he2 hp
  obtain ⟨bl, hl, hvl, hdl⟩ := k3.ended
  have hl' : upd H2 A.e (.dT (putK kvs k (.ref p))) A.l = some (.lst (bl.map V.ref)) := hl
  refine ⟨_, rfl, o, _, rfl, k3.raw, .inl ⟨rfl, _, SqL.of hl⟩, _, rfl, A.l, _, _, rfl, rfl, hl, (by rw [List.length_map]; exact Nat.lt_of_le_of_lt hvl (by show m + 1 < 16777216; omega)), ?_⟩
  refine q _ (fun c u e n1 n2 => ?_) (k3.push hl hdl (b := b) (k := k) (upd_ft he2 _ _ (s2 _ _ (s1 _ _ hb))) hvl)
  rw [upd_ne n2, upd_ne n1]
  exact s2 _ _ (s1 _ _ e)
abbrev s_K_wanted : Stmt := inClass (topS 7) 11
abbrev N_K_wanted : List Str := ["self", "step", "key", "value", "needed", "checked", "changed", "other"]
theorem sc_K_wanted : FnScope N_K_wanted ["self", "step"] (defScope s_K_wanted) := ⟨rfl, rfl, rfl, by decide +kernel, rfl, by decide +kernel, by decide +kernel⟩
theorem ok_wanted (F : Fun K "_wanted" "Keeper._wanted" s_K_wanted f fd) (T : NmK K mg aF CK CR CC) (C_Keeper__is_checked : CalM P w K mg base CX0 1 CK "_is_checked" (spIC Vx CK CR aF)) (C_Keeper__changed : CalM P w K mg base CX0 1 CK "_changed" (spCh Vx CK CR aF)) : FnOk P w K mg base CX0 2 f fd ["self", "step"] (spWan Vx CK CR aF) := by
  refine F.ok sc_K_wanted (fun vs H Q E h => ?_) (fun cdv A outer s H vs Q E hr h => ?_)
  · obtain ⟨o, st, b, A, S, rn, lv, av, m, ni, k, i, rfl, _⟩ := h
    rfl
  obtain ⟨o, st, b, A, S, rn, lv, av, m, ni, k, i, rfl, kh, hb, hst, hsl, hm, qd, qa, qb, qc⟩ := h
  refine ⟨_, (pss_cons (ps_set (i := 2) sc_K_wanted.nd rfl (Or.inl rfl) (pe_ix (r := rIxL K) ix_list (pv 1) pe_int (fun _ _ => rfl)))
    (pss_cons (ps_if (pt_cmp (pc_dnotin (hu_of hr) (pv 2) (pe_k_entries T (pv 0)))) (pss_one (ps_ret (pv 2))) pss_nil)
    (pss_cons (ps_asg (pe_dget (hu_of hr) (pe_k_entries T (pv 0)) (pv 2) (fun _ _ => rfl)) (pg_tup rfl (pgs_cons (pg_name (i := 3) sc_K_wanted.nd rfl (Or.inl rfl)) (pgs_cons (pg_name (i := 4) sc_K_wanted.nd rfl (Or.inl rfl)) (pgs_cons (pg_name (i := 5) sc_K_wanted.nd rfl (Or.inl rfl)) (pgs_cons (pg_name (i := 6) sc_K_wanted.nd rfl (Or.inl rfl)) pgs_nil))))))
    (pss_cons (ps_if (pt_cmpR op_eq (pv 5) (pe_k_now T (pv 0)) (nomark _)) (pss_one (ps_ret pe_non)) pss_nil)
    (C8.pss_cut (ps_while PassesOwn.never (pt_cmpR op_lt (pe_ix (r := rIxL K) ix_list (pv 1) pe_int (fun _ _ => rfl)) (pe_callB call_len_seq (by rfl) T.len PySem.boot_len (pa_cons (pv 4) pa_nil)) (nomark _)) (pss_cons (ps_set (i := 7) sc_K_wanted.nd rfl (Or.inl rfl) (pe_ix (r := rIxT K) ix_tup (pv 4) (pe_ix (r := rIxL K) ix_list (pv 1) pe_int (fun _ _ => rfl)) (fun _ _ => rfl)))
    (pss_cons (ps_if (PW.pt (pw_and (pt_cmp (pc_dnotin (hu_of hr) (pv 7) (pe_k_inputs T (pv 0)))) (pw_and1 (pt_not (pt_val (pe_m ns_Keeper C_Keeper__is_checked T.cl_Keeper (by decide) hr (by first | decide | omega) pass0 (pv 0) (pa_cons (pv 7) pa_nil))))))) (pss_one (ps_ret (pv 7))) pss_nil)
    (pss_cons (ps_if (pt_cmpR op_gt (pe_m ns_Keeper C_Keeper__changed T.cl_Keeper (by decide) hr (by first | decide | omega) pass0 (pv 0) (pa_cons (pv 7) pa_nil)) (pv 5) (nomark _)) (pss_one (ps_ret (pv 2))) pss_nil)
    (pss_one (ps_augS (pv 1) pe_int get_list pe_int ip_add set_list))))))
    (pss_cons (ps_dput (hu_of hr) (pe_k_entries T (pv 0)) (pv 2) (pe_tup (pa_cons (pv 3) (pa_cons (pv 4) (pa_cons (pe_k_now T (pv 0)) (pa_cons (pv 6) pa_nil))))) rfl)
    (pss_one (ps_ret pe_non)))))))), ?_⟩
  obtain ⟨kvs, he, hlen, hs⟩ := kh.ent
  obtain ⟨kvi, hki, _, his⟩ := kh.inp
  have dg := DGet.t he hb
  refine ⟨_, rfl, st, _, _, _, rfl, rfl, SqL.of hst, at_nat (i := 0) rfl, ?_⟩
  refine ⟨_, rfl, _, rfl, o, _, rfl, kh.raw, A.e, _, rfl, dg, _, rfl, ?_⟩
  rcases hs k with ⟨h1, h2⟩ | ⟨p, e, h1, h2, ve, t, bs, h3, hve, ht, hks⟩
  · rw [h1]
    refine iteT ⟨_, rfl, ?_⟩
    exact qa (.inl h2) (fun e z => by rw [h2] at z; cases z) H (fun c u e _ => e) ⟨_, hst⟩ kh
  rw [h1] at dg ⊢
  refine iteF ?_
  refine ⟨_, rfl, o, _, rfl, kh.raw, _, rfl, A.e, _, rfl, dg, p, _, rfl, .inl (.inl h3), rfl, _, _, rfl, _, _, rfl, _, _, rfl, _, _, rfl, rfl, ?_⟩
  refine ⟨_, rfl, _, rfl, o, _, rfl, kh.raw, rfl, _, rfl, ?_⟩
  by_cases hnow : e.c = S.now
  · exact iteP (by show V.int (e.c : Int) = V.int (S.now : Int); rw [hnow]) (qd ⟨e, h2, hnow⟩)
  have un : Unc S k := fun e' z => by
    rw [h2] at z
    cases z
    exact hnow
  refine iteN (fun y => hnow (by injection y with y; exact Int.ofNat.inj y)) ?_
  -- the keys that were asked for
  have frt : ∀ {H' : Hp}, (∀ c u, H c = some u → c ≠ st → H' c = some u) → FT H H' := fun {H'} fr c xs z => fr _ _ z fun y => by
    rw [y, hst] at z
    cases z
  have frd : ∀ {H' : Hp}, (∀ c u, H c = some u → c ≠ st → H' c = some u) → ∀ {c kvs}, H c = some (.dT kvs) → H' c = some (.dT kvs) := fun {H'} fr {c kvs} z => fr _ _ z fun y => by
    rw [y, hst] at z
    cases z
  have keepK : ∀ {H' : Hp}, (∀ c u, H c = some u → c ≠ st → H' c = some u) → Kh Vx CK CR aF H' o A S rn lv av m ni := fun fr => kh.keep fun c u z hc => fr _ _ z fun y => by
    rcases hc with hc | hc
    · exact hsl (y ▸ hc)
    · rw [y, hst] at z
      cases z
      exact hc
  have lenE : bs.length = e.d.length := hks.len
  refine ⟨fun σ H' => ∃ (j : Nat) (ov : Option V), σ = [some (.ref o), some (.ref st), some (.ref b), some ve, some (.ref t), some (.int (e.c : Int)), some (.int (e.g : Int)), ov] ∧ Stp H' st b j ∧ (∀ c u, H c = some u → c ≠ st → H' c = some u) ∧ scan S e.c (e.d.drop i) i = .look, ?_, ?_⟩
  · refine while_m (fun σ H' => ∃ (j : Nat) (ov : Option V), σ = [some (.ref o), some (.ref st), some (.ref b), some ve, some (.ref t), some (.int (e.c : Int)), some (.int (e.g : Int)), ov] ∧ Stp H' st b j ∧ (∀ c u, H c = some u → c ≠ st → H' c = some u) ∧ scan S e.c (e.d.drop i) i = scan S e.c (e.d.drop j) j)
      (fun σ H' => match H' st with
        | some (.lst [_, .int j]) => ((e.d.length : Int) + 1 - j).toNat
        | _ => 0) ⟨i, none, rfl, hst, fun _ _ z _ => z, rfl⟩ ?_
    rintro σ H' ⟨j, ov, rfl, hst', fr, hsc⟩
    have kh' := keepK fr
    have ht' := frt fr _ _ ht
    refine ⟨_, rfl, st, _, _, _, rfl, rfl, SqL.of hst', at_nat (i := 1) rfl, _, rfl, t, _, rfl, .inr (.inl (.inl ht')), _, _, rfl, rfl, _, rfl, ?_⟩
    refine ite2 (fun hlt => ?_) (fun hge => ⟨j, ov, rfl, hst', fr, ?_⟩)
    rotate_left
    · have hge : e.d.length ≤ j := by
        by_cases z : e.d.length ≤ j
        · exact z
        · exact absurd (decide_eq_true (show (j : Int) < (((bs.map V.ref).length : Nat) : Int) by rw [List.length_map]; omega)) hge
      rw [hsc, List.drop_eq_nil_of_le hge]
      rfl
    have hlt : j < e.d.length := by
      have := of_decide_eq_true hlt
      rw [List.length_map] at this
      omega
    refine wN ?_
    have hdj : e.d[j]? = some e.d[j] := List.getElem?_eq_getElem hlt
    have hdrop : e.d.drop j = e.d[j] :: e.d.drop (j + 1) := List.drop_eq_getElem_cons hlt
    generalize e.d[j] = d at hdj hdrop
    obtain ⟨b', hb'j, hb'⟩ := hks.get hdj
    have hb'' : isK H' b' d := frt fr _ _ hb'
    have hbm : (bs.map V.ref)[j]? = some (.ref b') := by rw [List.getElem?_map, hb'j]; rfl
    refine ⟨_, rfl, _, rfl, st, _, _, _, rfl, rfl, SqL.of hst', at_nat (i := 1) rfl, t, _, _, _, rfl, rfl, .inl (.inl ht'), at_nat (i := j) hbm, ?_⟩
    by_cases c : S.inp d = none ∧ chkB S d = false
    · rcases his d with ⟨y1, y2⟩ | ⟨p', v', a', r', y1, y2, _⟩
      · have dgi : DGet H' A.i (.ref b') none := by
          rw [← y1]
          exact DGet.t (frd fr hki) hb''
        refine ⟨_, rfl, _, rfl, o, _, rfl, kh'.raw, A.i, _, rfl, dgi, _, rfl, iteT ?_⟩
        refine ⟨_, rfl, o, rfl, kh'.raw.isI, _, rfl, o, b', A, S, rn, lv, av, m, ni, d, rfl, kh', hb'', ?_⟩
        rw [c.2]
        refine ⟨_, rfl, iteT ⟨_, rfl, ?_⟩⟩
        exact qb e d j h2 un (hsc.trans (by rw [hdrop]; exact if_pos c)) H' b' fr hst' kh' hb''
      · rw [c.1] at y2
        cases y2
    obtain ⟨g, hg⟩ := (chkB_rdy c).chg
    have hscg := scan_chg (c := e.c) (ds := e.d.drop (j + 1)) (j := j) c hg
    rw [hdrop, hscg] at hsc
    rcases his d with ⟨y1, y2⟩ | ⟨p', v', a', r', y1, y2, _⟩
    have dgi : DGet H' A.i (.ref b') none := by
      rw [← y1]
      exact DGet.t (frd fr hki) hb''
    refine ⟨_, rfl, _, rfl, o, _, rfl, kh'.raw, A.i, _, rfl, dgi, _, rfl, iteT ?_⟩
    refine ⟨_, rfl, o, rfl, kh'.raw.isI, _, rfl, o, b', A, S, rn, lv, av, m, ni, d, rfl, kh', hb'', ?_⟩
    have ct : chkB S d = true := by
      cases q : chkB S d with
      | true => rfl
      | false => exact absurd ⟨y2, q⟩ c
    rw [ct]
    refine ⟨_, rfl, iteF ?_⟩
    rotate_left
    have dgi : DGet H' A.i (.ref b') (some (.ref p')) := by
      rw [← y1]
      exact DGet.t (frd fr hki) hb''
    refine ⟨_, rfl, _, rfl, o, _, rfl, kh'.raw, A.i, _, rfl, dgi, _, rfl, iteF ?_⟩
    all_goals
      refine ⟨_, rfl, o, rfl, kh'.raw.isI, _, rfl, o, b', A, S, rn, lv, av, m, ni, d, g, rfl, kh', hb'', hg, ?_⟩
      refine ⟨_, rfl, _, _, rfl, rfl, _, rfl, ?_⟩
      refine ite2 (fun hgt => ⟨_, rfl, qa (.inr ⟨e, h2, hsc.trans (if_pos (by have := of_decide_eq_true hgt; omega))⟩) un H' fr ⟨_, hst'⟩ kh'⟩) (fun hng => ?_)
      have hng : ¬ e.c < g := fun z => hng (decide_eq_true (show (e.c : Int) < (g : Int) by omega))
      refine ⟨_, rfl, st, _, 1, _, rfl, rfl, hst', rfl, _, _, rfl, rfl, st, _, _, 1, rfl, rfl, hst', rfl, ?_⟩
      have m1 : Stp (upd H' st (.lst [.ref b, .int ((j : Int) + 1)])) st b ((j + 1 : Nat) : Int) := upd_same
      refine ⟨⟨j + 1, _, rfl, m1, fun c u z n => by rw [upd_ne n]; exact fr c u z n, hsc.trans (if_neg hng)⟩, ?_⟩
      show (match upd H' st (.lst [.ref b, .int ((j : Int) + 1)]) st with
        | some (.lst [_, .int j]) => ((e.d.length : Int) + 1 - j).toNat
        | _ => 0) < (match H' st with
        | some (.lst [_, .int j]) => ((e.d.length : Int) + 1 - j).toNat
        | _ => 0)
      rw [m1, hst']
      show ((e.d.length : Int) + 1 - ((j + 1 : Nat) : Int)).toNat < ((e.d.length : Int) + 1 - (j : Int)).toNat
      omega
  · rintro σ H' ⟨j, ov, rfl, hst', fr, hsc⟩
    have kh' := keepK fr
    refine ⟨_, rfl, _, rfl, _, rfl, o, _, rfl, kh'.raw, _, rfl, by show 4 ≤ sizeLine; decide, fun p2 np => ?_⟩
    have s2 := same_new (o := .tup [ve, .ref t, (kfo aF A S av).now, .int (e.g : Int)]) np
    have k2 := kh'.same s2
    have hp : EntV Vx (upd H' p2 (.tup [ve, .ref t, (kfo aF A S av).now, .int (e.g : Int)])) p2 ⟨e.v, e.d, S.now, e.g⟩ :=
      ⟨ve, t, bs, upd_same, Vx.keep (fun c xs z => s2 _ _ (frt fr c xs z)) hve, s2 _ _ (frt fr _ _ ht), hks.keep fun c xs z => s2 _ _ (frt fr c xs z)⟩
    have he2 := s2 _ _ (frd fr he)
    have hst2 := s2 _ _ hst'
    have fr2 : ∀ c u, H c = some u → c ≠ st → upd H' p2 (.tup [ve, .ref t, (kfo aF A S av).now, .int (e.g : Int)]) c = some u := fun c u z n => s2 _ _ (fr c u z n)
    generalize upd H' p2 (.tup [ve, .ref t, (kfo aF A S av).now, .int (e.g : Int)]) = H2 at s2 k2 hp he2 hst2 fr2 ⊢
    refine ⟨_, rfl, o, _, rfl, k2.raw, _, rfl, A.e, _, rfl, DPut.t he2 (frt fr2 _ _ hb) (Nat.lt_of_le_of_lt hlen (by show m < 16777216; omega)), ?_⟩
    have k3 := k2.put_ent (k := k) he2 hp
    have hse : st ≠ A.e := fun z => by rw [z, he2] at hst2; cases hst2
    refine qc e h2 un hsc _ (fun c u z n1 n2 => ?_) ⟨_, (upd_ne hse).trans hst2⟩ k3
    rw [upd_ne n2]
    exact fr2 c u z n1
end

end Sn

namespace Sn
open PySem PySem.Spec PyProof.Rows L2 TL
/-! ### a key asked for -/
def AvOk (H : Hp) (A : KAd) (av : V) : Prop := av = .non ∨ ∃ (d : Addr) (as : List (List L2.Key × V)), av = .ref d ∧ H d = some (.dT as) ∧ as.length ≤ 1000 ∧ d ≠ A.i ∧ d ≠ A.e ∧ d ≠ A.r
def AvP (av : V) (key : Ky) (H H' : Hp) : Prop := ∀ (d : Addr) (as : List (List L2.Key × V)), av = .ref d → H d = some (.dT as) → H' d = some (.dT (putK as key (.bl true)))
theorem map_putK {k : Ky} {v : V} (kvs : List (List L2.Key × V)) : (putK kvs k v).map (·.1) = addK (kvs.map (·.1)) k := by
  have h : (kvs.map (·.1)).any (fun x => decide (x = k)) = kvs.any fun kv => decide (kv.1 = k) := by rw [List.any_map]; rfl
  unfold putK addK
  rw [h]
  split
  · rw [List.map_map]
    refine List.map_congr_left fun kv _ => ?_
    show (if kv.1 = k then (kv.1, v) else kv).1 = kv.1
    split <;> rfl
  · rw [List.map_append]
    rfl

section
variable {α : Type} [DecidableEq α] (Vx : Vl α) (G : Ky → Prop) (comp : Ky → Tr α)
structure Pre (CK CR aF : Addr) (H : Hp) (o : Addr) (A : KAd) (S : KS α) (rn : Ky → Option Addr) (lv Lv : List Ky) (av : V) (m ni z : Nat) : Prop where
  kh : Kh Vx CK CR aF H o A S rn lv av m ni
  nd : lv.Nodup
  eq : ∀ x, x ∈ lv ↔ x ∈ Lv
  un : ∀ x ∈ lv, Unc S x
  avk : AvOk H A av
  sz : m + 4 * z + 8 ≤ 15000000
/-- how it comes out -/
def Out (CK CR aF : Addr) (H : Hp) (o : Addr) (A : KAd) (S' : KS α) (rn : Ky → Option Addr) (lv : List Ky) (av : V) (m ni : Nat) (P : Hp → Prop) : Prop :=
  ∀ H' rn', Fr o A av H H' → Kh Vx CK CR aF H' o A S' rn' lv av m ni → (∀ x ∈ lv, rn' x = rn x) → P H'
def spAsk (CK CR CC aF : Addr) (n : Nat) : Sp := fun vs H Q E => ∃ o b A S rn lv Lv av m ni k z out, vs = [.ref o, .ref b] ∧ Pre Vx CK CR aF H o A S rn lv Lv av m ni z ∧ isK H b k ∧ Run G comp Lv n z (.br S k) out ∧
  (∀ S' a, out = .ok S' → S'.val k = some a → Out Vx CK CR aF H o A S' rn lv av (m + 4 * z + 8) ni (fun H' => AvP av k H H' → ∀ v, Vx.rp H' v a → Q v H')) ∧
  (∀ S', out = .no S' → Out Vx CK CR aF H o A S' rn lv av (m + 4 * z + 8) ni (fun H' => E (.ref CC) none H'))
def spFn (CK CR CC aF : Addr) (n : Nat) : Sp := fun vs H Q E => ∃ o b A S rn lv Lv d m ni k z out, vs = [.ref o, .ref b] ∧ Pre Vx CK CR aF H o A S rn lv Lv (.ref d) m ni z ∧ H d = some (.dT []) ∧ isK H b k ∧ G k ∧ Run G comp Lv n z (.ev S (comp k) []) out ∧
  (∀ S' a as, out = .val S' a as → Out Vx CK CR aF H o A S' rn lv (.ref d) (m + 4 * z) ni (fun H' => ∀ kvs v, H' d = some (.dT kvs) → kvs.map (·.1) = as → kvs.length ≤ 1000 → Vx.rp H' v a → Q v H')) ∧
  (∀ S', out = .no S' → Out Vx CK CR aF H o A S' rn lv (.ref d) (m + 4 * z) ni (fun H' => E (.ref CC) none H'))
end
section
variable {α : Type} [DecidableEq α] {Vx : Vl α} {G : Ky → Prop} {comp : Ky → Tr α}
variable {CK CR aF : Addr} {H H1 H2 H' : Hp} {o : Addr} {A : KAd} {S : KS α} {rn : Ky → Option Addr} {lv Lv : List Ky} {av : V} {m ni z : Nat}
theorem Pre.same (p : Pre Vx CK CR aF H o A S rn lv Lv av m ni z) (s : Same H H') : Pre Vx CK CR aF H' o A S rn lv Lv av m ni z :=
  ⟨p.kh.same s, p.nd, p.eq, p.un, p.avk.elim .inl fun ⟨d, as, a, b, c⟩ => .inr ⟨d, as, a, s _ _ b, c⟩, p.sz⟩
theorem Fr.of (s : Same H H') : Fr o A av H H' := fun b u e _ _ _ _ _ => s b u e
theorem Fr.trans (a : Fr o A av H H1) (b : Fr o A av H1 H2) : Fr o A av H H2 := fun c u e n1 n2 n3 n4 n5 => b c u (a c u e n1 n2 n3 n4 n5) n1 n2 n3 n4 n5
theorem Fr.tup (f : Fr o A av H H') (k : Kh Vx CK CR aF H o A S rn lv av m ni) (ao : AvOk H A av) : FT H H' := by
  intro b xs h
  have ne : ∀ {c u}, H c = some u → u ≠ .tup xs → b ≠ c := fun e n z => by
    rw [← z, h] at e
    injection e with e
    exact n e.symm
  obtain ⟨dx, e1⟩ := k.raw
  obtain ⟨_, e2, _⟩ := k.ent
  obtain ⟨_, e3, _⟩ := k.run
  obtain ⟨_, e4, _⟩ := k.ended
  refine f b _ h (ne e1 fun z => nomatch z) (ne e2 fun z => nomatch z) (ne e3 fun z => nomatch z) (ne e4 fun z => nomatch z) fun z => ?_
  rcases ao with rfl | ⟨d, as, rfl, hd, _⟩
  · cases z
  · exact ne hd (fun z => nomatch z) (by injection z)
theorem Unc.run {L : List Ky} {n z : Nat} {J : Jg α} {S S1 : KS α} {P : Ky → Prop} (h : Lat P S S1) {x : Ky} (hx : P x) (u : Unc S x) : Unc S1 x := u.lat h hx
end
/-! ### a while by a size -/
theorem while_z {c : TT} {tb : TS} {D : Ends} {σ : L2.St} {H : Hp} (W : Nat → L2.St → Hp → Prop) {z : Nat} (h0 : W z σ H)
    (hs : ∀ z σ H, W z σ H → c σ H fun b H1 => if b = true then ∃ N : L2.St → Hp → Prop, (∀ σ' H', N σ' H' → ∃ m', m' < z ∧ W m' σ' H') ∧ tb { D with nx := N, ct := N, bk := D.nx } σ H1 else D.nx σ H1) : tWhile c tb D σ H := ⟨W, ⟨z, h0⟩, hs⟩
theorem wNz {W : Nat → L2.St → Hp → Prop} {k : Nat} {tb : TS} {D : Ends} {σ : L2.St} {H1 : Hp} (h : tb { D with nx := fun σ' H' => ∃ m', m' < k ∧ W m' σ' H', ct := fun σ' H' => ∃ m', m' < k ∧ W m' σ' H', bk := D.nx } σ H1) :
    ∃ N : L2.St → Hp → Prop, (∀ σ' H', N σ' H' → ∃ m', m' < k ∧ W m' σ' H') ∧ tb { D with nx := N, ct := N, bk := D.nx } σ H1 := ⟨_, fun _ _ n => n, h⟩
/-! ### ask: the path -/
structure It where
  k : Ky
  st : Addr
  b : Addr
  i : Nat
def ks (rev : List It) : List Ky := rev.reverse.map It.k
def sts (rev : List It) : List V := rev.reverse.map fun x => V.ref x.st
theorem ks_cons {x : It} {r : List It} : ks (x :: r) = ks r ++ [x.k] := by unfold ks; rw [List.reverse_cons, List.map_append]; rfl
theorem sts_cons {x : It} {r : List It} : sts (x :: r) = sts r ++ [V.ref x.st] := by unfold sts; rw [List.reverse_cons, List.map_append]; rfl
theorem sts_len {r : List It} : (sts r).length = r.length := by unfold sts; rw [List.length_map, List.length_reverse]
theorem mem_ks {x : It} {r : List It} (h : x ∈ r) : x.k ∈ ks r := List.mem_map.mpr ⟨x, List.mem_reverse.mpr h, rfl⟩
theorem of_ks {k : Ky} {r : List It} (h : k ∈ ks r) : ∃ x ∈ r, x.k = k := by
  obtain ⟨x, a, b⟩ := List.mem_map.mp h
  exact ⟨x, List.mem_reverse.mp a, b⟩
def rks (r : List It) : List (Ky × Nat) := r.map fun x => (x.k, x.i)
theorem rks_k {r : List It} : (rks r).map (·.1) = r.map It.k := by unfold rks; rw [List.map_map]; rfl
theorem atI_last {xs : List V} {v : V} : atI (xs ++ [v]) (-1) = some v := by
  have h : ixN (xs ++ [v]).length (-1) = some xs.length := by
    rw [List.length_append, List.length_singleton]
    unfold ixN
    rw [if_neg (by decide)]
    simp
    omega
  unfold atI
  rw [h]
  show (xs ++ [v])[xs.length]? = some v
  simp
/-- a frame for the loop -/
def Fl (o : Addr) (A : KAd) (H H' : Hp) : Prop := ∀ c u, H c = some u → c ≠ o → c ≠ A.e → c ≠ A.r → c ≠ A.l → H' c = some u
section
variable {α : Type} [DecidableEq α] (Vx : Vl α) (G : Ky → Prop)
/-- how far it has come -/
structure LI (CK CR aF : Addr) (H0 : Hp) (o : Addr) (A : KAd) (rn : Ky → Option Addr) (lv : List Ky) (ni pa pr dx : Nat) (H' : Hp) (S' : KS α) (rn' : Ky → Option Addr) (m' : Nat) (av' : V) (rev : List It) : Prop where
  fr : Fl o A H0 H'
  kh : Kh Vx CK CR aF H' o A S' rn' (lv ++ ks rev) av' m' ni
  rl : ∀ x ∈ lv, rn' x = rn x
  nd : (lv ++ ks rev).Nodup
  hpa : H' pa = some (.lst (sts rev))
  rk : ∀ x ∈ ks rev, rn' x = some pr
  hp : H' pr = some (.ins CR dx [("live", .bl true)])
  its : ∀ x ∈ rev, G x.k ∧ isK H' x.b x.k ∧ x.st ≠ A.l ∧ x.st ≠ pa ∧ Stp H' x.st x.b x.i ∧ H0 x.st = none
  sn : (rev.map It.st).Nodup
  un : ∀ x ∈ lv, Unc S' x
  unr : ∀ x ∈ rev.tail, Unc S' x.k
  len : rev.length ≤ m'
end
section
variable {α : Type} [DecidableEq α] (Vx : Vl α)
/-- within a turn -/
structure Cm (CK CR aF : Addr) (H1 : Hp) (o : Addr) (A : KAd) (rn : Ky → Option Addr) (lv : List Ky) (ni pa pr dx : Nat) (top : It) (rest : List It) (H6 : Hp) (S6 : KS α) (rn6 : Ky → Option Addr) (m6 : Nat) (av6 : V) : Prop where
  fr : Fl o A H1 H6
  kh : Kh Vx CK CR aF H6 o A S6 rn6 (lv ++ ks (top :: rest)) av6 m6 ni
  rl : ∀ x ∈ lv, rn6 x = rn x
  rk : ∀ x ∈ ks (top :: rest), rn6 x = some pr
  hpa : H6 pa = some (.lst (sts (top :: rest)))
  hp : H6 pr = some (.ins CR dx [("live", .bl true)])
  hb : isK H6 top.b top.k
  stp : ∃ j : Nat, Stp H6 top.st top.b j
  its : ∀ x ∈ rest, isK H6 x.b x.k ∧ Stp H6 x.st x.b x.i
  un : ∀ x ∈ lv, Unc S6 x
  unr : ∀ x ∈ rest, Unc S6 x.k
end
/-- what stays for good -/
structure Cs (H1 : Hp) (A : KAd) (pa : Addr) (top : It) (rest : List It) : Prop where
  n0 : H1 top.st = none
  pl : pa ≠ A.l
  pt : pa ≠ top.st
  rs : ∀ x ∈ rest, x.st ≠ A.l ∧ x.st ≠ top.st
section
variable {α : Type} [DecidableEq α] {Vx : Vl α}
theorem Cm.step {CK CR aF : Addr} {H1 : Hp} {o : Addr} {A : KAd} {rn : Ky → Option Addr} {lv : List Ky} {ni pa pr dx : Nat} {top : It} {rest : List It} {H6 : Hp} {S6 : KS α} {rn6 : Ky → Option Addr} {m6 : Nat} {av6 : V}
    (c : Cm Vx CK CR aF H1 o A rn lv ni pa pr dx top rest H6 S6 rn6 m6 av6) (s : Cs H1 A pa top rest) {H7 : Hp} {S7 : KS α} {rn7 : Ky → Option Addr} {m7 : Nat} {av7 : V}
    (f : ∀ c u, H6 c = some u → c ≠ o → c ≠ A.e → c ≠ A.r → c ≠ A.l → c ≠ top.st → H7 c = some u) (stp : ∃ j : Nat, Stp H7 top.st top.b j) (kh : Kh Vx CK CR aF H7 o A S7 rn7 (lv ++ ks (top :: rest)) av7 m7 ni)
    (un : ∀ x ∈ lv, Unc S7 x) (unr : ∀ x ∈ rest, Unc S7 x.k) (rl : ∀ x ∈ lv, rn7 x = rn x) (rk : ∀ x ∈ ks (top :: rest), rn7 x = some pr) : Cm Vx CK CR aF H1 o A rn lv ni pa pr dx top rest H7 S7 rn7 m7 av7 := by
  obtain ⟨_, eo⟩ := c.kh.raw
  obtain ⟨_, ee, _⟩ := c.kh.ent
  obtain ⟨_, er, _⟩ := c.kh.run
  obtain ⟨_, el, _⟩ := c.kh.ended
  obtain ⟨j0, es⟩ := c.stp
  have es : H6 top.st = some (.lst [.ref top.b, .int (j0 : Int)]) := es
  have ne : ∀ {a b u v}, H6 a = some u → H6 b = some v → u ≠ v → a ≠ b := fun x y z w => by
    rw [w, y] at x
    injection x with x
    exact z x.symm
  have ft : ∀ {b xs}, H6 b = some (.tup xs) → H7 b = some (.tup xs) := fun x => f _ _ x (ne x eo fun z => nomatch z) (ne x ee fun z => nomatch z) (ne x er fun z => nomatch z) (ne x el fun z => nomatch z) (ne x es fun z => nomatch z)
  have fl : ∀ {b xs}, H6 b = some (.lst xs) → b ≠ A.l → b ≠ top.st → H7 b = some (.lst xs) := fun x y z => f _ _ x (ne x eo fun z => nomatch z) (ne x ee fun z => nomatch z) (ne x er fun z => nomatch z) y z
  refine ⟨fun a u x y1 y2 y3 y4 => f _ _ (c.fr a u x y1 y2 y3 y4) y1 y2 y3 y4 (fun z => by rw [z, s.n0] at x; cases x), kh, rl, rk, fl c.hpa s.pl s.pt, ?_, ft c.hb, stp, fun x hx => ?_, un, unr⟩
  · exact f _ _ c.hp (ne c.hp eo fun z => by injection z with z; exact c.kh.ck z.symm) (ne c.hp ee fun z => nomatch z) (ne c.hp er fun z => nomatch z) (ne c.hp el fun z => nomatch z) (ne c.hp es fun z => nomatch z)
  · obtain ⟨a, b⟩ := c.its x hx
    exact ⟨ft a, fl b (s.rs x hx).1 (s.rs x hx).2⟩
end
section
variable {α : Type} [DecidableEq α] {Vx : Vl α} {G : Ky → Prop} {comp : Ky → Tr α}
theorem dp_key {K : PySem.W.Frag} {H : Hp} {b : Addr} {k : Ky} (h : isK H b k) : Dp K H (.ref b) (.tuple (k.map fun x => match x with | .inl i => .int i | .inr x => .str x)) := by
  refine .tup (.inl (.inl h)) ?_
  clear h
  induction k with
  | nil => exact .nil
  | cons x r ih =>
    cases x with
    | inl i => exact .cons (.int i) ih
    | inr x => exact .cons (.str x) ih
end
theorem po_tr {X : Cx} {pn : List (Addr × Obj)} {xe : Value → Shared → Prop} (h : PassesOwn (model X.prog X.w) X.A X.env xe) : PassesOwn (model (X.tr pn xe).prog (X.tr pn xe).w) (X.tr pn xe).A (X.tr pn xe).env (X.tr pn xe).xe := h
theorem bmK {X : Cx} {K : PySem.W.Frag} {T : String} {r : V → List V → Hp → VK → Prop} {to : TE} {t : TA} {e : Expr} (hK : X.K = K) (h : PE X e (tBM X.K T r to t)) : PE X e (tBM K T r to t) := hK ▸ h
theorem bm0K {X : Cx} {K : PySem.W.Frag} {T : String} {r : V → List V → Hp → VK → Prop} {to : TE} {e : Expr} (hK : X.K = K) (h : PE X e (tBM0 X.K T r to)) : PE X e (tBM0 K T r to) := hK ▸ h
theorem truK {X : Cx} {K : PySem.W.Frag} {ta : TE} {e : Expr} (hK : X.K = K) (h : PT X e (fun σ H Q => ta σ H fun x H' => ∃ k, TruV X.K x H' k ∧ Q k H')) : PT X e (fun σ H Q => ta σ H fun x H' => ∃ k, TruV K x H' k ∧ Q k H') := hK ▸ h
theorem fldK {X : Cx} {K : PySem.W.Frag} {ta tv : TE} {f : Str} {st : Stmt} (hK : X.K = K) (h : PS X st (sFld X.K ta tv f)) : PS X st (sFld K ta tv f) := hK ▸ h
/-! keys as data -/
def datK (x : L2.Key) : PyData := match x with
  | .inl i => .int i
  | .inr x => .str x
theorem eqv_datK : ∀ a b : L2.Key, PyData.eqv (datK a) (datK b) = decide (a = b)
  | .inl i, .inl j => by
    show PyData.eqv (.int i) (.int j) = _
    rw [PyData.eqv]
    by_cases h : i = j <;> simp [h]
  | .inr i, .inr j => by
    show PyData.eqv (.str i) (.str j) = _
    rw [PyData.eqv]
    by_cases h : i = j <;> simp [h]
  | .inl i, .inr j => by
    show PyData.eqv (.int i) (.str j) = _
    rw [PyData.eqv]
    all_goals simp
  | .inr i, .inl j => by
    show PyData.eqv (.str i) (.int j) = _
    rw [PyData.eqv]
    all_goals simp
theorem eqvAll_datK : ∀ a b : Ky, PyData.eqvAll (a.map datK) (b.map datK) = decide (a = b)
  | [], [] => by rw [List.map_nil, PyData.eqvAll]; rfl
  | [], y :: s => by rw [List.map_nil, List.map_cons, PyData.eqvAll] <;> simp
  | x :: r, [] => by rw [List.map_nil, List.map_cons, PyData.eqvAll] <;> simp
  | x :: r, y :: s => by
    rw [List.map_cons, List.map_cons, PyData.eqvAll, eqv_datK, eqvAll_datK]
    by_cases h : x = y <;> by_cases h2 : r = s <;> simp [h, h2]
theorem eqv_key (a b : Ky) : PyData.eqv (.tuple (a.map datK)) (.tuple (b.map datK)) = decide (a = b) := by
  rw [PyData.eqv, eqvAll_datK]
theorem key_dp {K : PySem.W.Frag} {H : Hp} {b : Addr} {k : Ky} (h : isK H b k) : Dp K H (.ref b) (.tuple (k.map datK)) := dp_key h
def Shp (k : Ky) : Prop := SeqAt.shaped (.tuple (k.map datK)) = true

end Sn

namespace Sn
open PySem PySem.Spec PyProof.Rows L2 TL
/-! ### ask -/
section
variable {α : Type} [DecidableEq α] {Vx : Vl α} {G : Ky → Prop} {comp : Ky → Tr α}
variable {P : Program} {w : World} {K : PySem.W.Frag} {mg : Str → Option Value} {base : Heap} {f : Addr} {fd : FuncData} {CK CR CC aF : Addr}
abbrev s_K_ask : Stmt := inClass (topS 7) 9
abbrev N_K_ask : List Str := ["self", "key", "function", "outer", "run", "path", "last", "wanted", "value"]
theorem sc_K_ask : FnScope N_K_ask ["self", "key"] (defScope s_K_ask) := ⟨rfl, rfl, rfl, by decide +kernel, rfl, by decide +kernel, by decide +kernel⟩
theorem ok_ask {n L : Nat} {fdC : FuncData} (hG : ∀ k, G k → Shp k) (F : Fun K "ask" "Keeper.ask" s_K_ask f fd) (T : NmK K mg aF CK CR CC) (I_Run : CalO P w K mg base CX0 1 CR (spRunI CR))
    (C_Keeper__entered : CalM P w K mg base CX0 1 CK "_entered" (spEnt Vx CK CR aF)) (C_Keeper__wanted : CalM P w K mg base CX0 2 CK "_wanted" (spWan Vx CK CR aF)) (C_Keeper__begin : CalM P w K mg base (L2.CX P w) 1 CK "_begin" (spBeg Vx CK CR CC aF)) (C_Keeper__end : CalM P w K mg base CX0 1 CK "_end" (spEnd Vx CK CR aF))
    (hL : 2 ≤ L) (F__law_compute : FnOk P w K mg base (L2.CX P w) L aF fdC ["keeper", "key"] (spFn Vx G comp CK CR CC aF n)) (K__law_compute : PySem.W.keepIn K (.ref aF) = true) (B__law_compute : Binds K fdC ["keeper", "key"] []) : FnOk P w K mg base (L2.CX P w) (L + 1) f fd ["self", "key"] (spAsk Vx G comp CK CR CC aF (n + 1)) := by
  refine F.okX sc_K_ask (fun vs H Q E h => ?_) (fun cdv A outer s H vs Q E hr h => ?_)
  · obtain ⟨o, b, A, S, rn, lv, Lv, av, m, ni, k, z, out, rfl, _⟩ := h
    rfl
  obtain ⟨o, b, A, S, rn, lv, Lv, av, m, ni, k, z, res, rfl, pre, hkey, run, q, qe⟩ := h
  refine ⟨_, (C8.pss_cut (ps_if (pt_cmpR op_notN (pe_k_asked T (pv 0)) pe_non (nomark _)) (pss_one (ps_dput (hu_of hr) (pe_k_asked T (pv 0)) (pv 1) pe_bl rfl)) pss_nil)
    (pss_cons (ps_if (pt_cmp (pc_din (hu_of hr) (pv 1) (pe_k_inputs T (pv 0)))) (pss_one (ps_ret (pe_ix (r := rIxT K) ix_tup (pe_dget (hu_of hr) (pe_k_inputs T (pv 0)) (pv 1) (fun _ _ => rfl)) pe_int (fun _ _ => rfl)))) pss_nil)
    (pss_cons (ps_set (i := 2) sc_K_ask.nd rfl (Or.inl rfl) (pe_k_function T (pv 0)))
    (pss_cons (ps_set (i := 3) sc_K_ask.nd rfl (Or.inl rfl) (pe_k_asked T (pv 0)))
    (pss_cons (ps_set (i := 4) sc_K_ask.nd rfl (Or.inl rfl) (pe_mk0 I_Run hr (by first | decide | omega) T.mk_Run pass0))
    (pss_cons (ps_fi rfl rfl rfl (takes_of rfl rfl rfl rfl) (fun W pn xe tk po => (pss_cons (ps_set (i := 5) sc_K_ask.nd rfl (Or.inl rfl) (pe_lst (pa_cons (pe_m ns_Keeper C_Keeper__entered T.cl_Keeper (by decide) hr (by first | decide | omega) pass0 (pv 0) (pa_cons (pv 1) (pa_cons (pv 4) pa_nil))) pa_nil)))
    (pss_one (ps_while (po_tr po) (truK (K := K) rfl (pt_truth (pv 5) (by intro _; rfl))) (pss_cons (ps_set (i := 6) sc_K_ask.nd rfl (Or.inl rfl) (pe_ix (r := rIxL K) ix_list (pv 5) (pe_un un_neg pe_int) (fun _ _ => rfl)))
    (C8.pss_cut (ps_set (i := 7) sc_K_ask.nd rfl (Or.inl rfl) (pe_m ns_Keeper C_Keeper__wanted T.cl_Keeper (by decide) hr (by first | decide | omega) pass0 (pv 0) (pa_cons (pv 6) pa_nil)))
    (C8.pss_cut (ps_if (PW.pt (pw_and (pt_cmpR op_notN (pv 7) pe_non (nomark _)) (pw_and1 (pt_cmpR (r := rNeD K) (op_neD hr.units) (pv 7) (pe_ix (r := rIxL K) ix_list (pv 6) pe_int (fun _ _ => rfl)) (nomark _))))) (pss_cons (ps_expr (bmK (K := K) rfl (pe_bm PySem.F.plainAttrs_list PySem.F.slot_list_append PySem.F.type_list_append mt_append (pv 5) (pa_cons (pe_m ns_Keeper C_Keeper__entered T.cl_Keeper (by decide) hr (by first | decide | omega) pass0 (pv 0) (pa_cons (pv 7) (pa_cons (pv 4) pa_nil))) pa_nil))))
    (pss_one ps_continue)) pss_nil)
    (C8.pss_cut (ps_if (pt_cmpR op_notN (pv 7) pe_non (nomark _)) (pss_cons (ps_expr (pe_mS0 ns_Keeper C_Keeper__begin T.cl_Keeper (by decide) hr (by first | decide | omega) (fun σ => passAt tk σ) (pv 0)))
    (pss_cons (ps_set (i := 8) sc_K_ask.nd rfl (Or.inl rfl) (pe_caS (i := 2) F__law_compute hr (by first | decide | omega) rfl (.inl rfl) K__law_compute B__law_compute (fun σ => passAt tk σ) (pa_cons (pv 0) (pa_cons (pv 7) pa_nil))))
    (pss_one (ps_expr (pe_m ns_Keeper C_Keeper__end T.cl_Keeper (by decide) hr (by first | decide | omega) pass0 (pv 0) (pa_cons (pv 7) (pa_cons (pv 8) pa_nil))))))) pss_nil)
    (pss_cons (ps_expr (bm0K (K := K) rfl (pe_bm0 PySem.F.plainAttrs_list PySem.F.slot_list_pop PySem.F.type_list_pop mt_pop (pv 5))))
    (pss_one (ps_ddelT (hu_of hr) (pe_k_runs T (pv 0)) (pe_ix (r := rIxL K) ix_list (pv 6) pe_int (fun _ _ => rfl))))))))))))) (pss_cons (fldK (K := K) rfl (ps_fld (pv 4) pe_bl rfl))
    (pss_one (ps_k_asked T (pv 0) (pv 3)))) (fun a pn => (pss_cons (fldK (K := K) rfl (ps_fld (pv 4) pe_bl rfl))
    (pss_one (ps_k_asked T (pv 0) (pv 3))))))
    (pss_one (ps_ret (pe_ix (r := rIxT K) ix_tup (pe_dget (hu_of hr) (pe_k_entries T (pv 0)) (pv 1) (fun _ _ => rfl)) pe_int (fun _ _ => rfl)))))))))), ?_⟩
  have kh := pre.kh
  have sz := pre.sz
  -- what was asked is noted
  refine ⟨fun σ H1 => σ = [some (.ref o), some (.ref b), none, none, none, none, none, none, none] ∧ Fr o A av H H1 ∧ Kh Vx CK CR aF H1 o A S rn lv av m ni ∧ AvP av k H H1 ∧ H1 b = H b, ?_, ?_⟩
  · refine ⟨_, rfl, o, _, rfl, kh.raw, rfl, _, rfl, ?_⟩
    rcases pre.avk with rfl | ⟨d, as, rfl, hd, hl, n1, n2, n3⟩
    · exact iteF ⟨rfl, (fun c u z _ _ _ _ _ => z), kh, (fun d as z => nomatch z), rfl⟩
    · refine iteT ?_
      have hdl : as.length < sizeLine := Nat.lt_of_le_of_lt hl (by show 1000 < 16777216; decide)
      refine ⟨_, rfl, o, _, rfl, kh.raw, _, rfl, d, _, rfl, DPut.t hd hkey hdl, ?_⟩
      have nd : ∀ {c u}, H c = some u → (∀ kvs, u ≠ .dT kvs) → c ≠ d := fun e' nn z => by
        rw [z, hd] at e'
        injection e' with e'
        exact nn _ e'.symm
      have kh1 : Kh Vx CK CR aF (upd H d (.dT (putK as k (.bl true)))) o A S rn lv (.ref d) m ni := kh.other hd n1 n2 n3
      refine ⟨rfl, fun c u z _ _ _ _ nn => by rw [upd_ne (fun y => nn (by rw [y]))]; exact z, kh1, fun d' as' z1 z2 => ?_, ?_⟩
      · injection z1 with z1
        subst z1
        rw [hd] at z2
        cases z2
        exact upd_same
      · exact upd_ne (nd hkey fun _ z => nomatch z)
  rintro σ H1 ⟨rfl, fr1, kh1, avp1, hb1⟩
  obtain ⟨kvi, hki, _, his⟩ := kh1.inp
  have hkey1 : isK H1 b k := hb1.trans hkey
  have dgi := DGet.t hki hkey1
  refine ⟨_, rfl, _, rfl, o, _, rfl, kh1.raw, A.i, _, rfl, dgi, _, rfl, ?_⟩
  rcases his k with ⟨y1, y2⟩ | ⟨pk, vk, ak, rk, y1, y2, y3, y4⟩
  rotate_left
  · have e0 : res = .ok S := run.rdy (.inl ⟨_, y2⟩)
    subst e0
    rw [y1] at dgi ⊢
    refine iteT ⟨_, rfl, o, _, rfl, kh1.raw, _, rfl, A.i, _, rfl, dgi, pk, _, _, _, rfl, rfl, .inl (.inl y3), at_nat (i := 0) rfl, ?_⟩
    exact q S ak rfl (by unfold KS.val; rw [y2]) H1 rn fr1 (kh1.more (by omega)) (fun _ _ => rfl) avp1 _ y4
  rw [y1]
  refine iteF ?_
  -- the path's first key
  obtain ⟨gk, hk, z0, unw0, hz0⟩ : G k ∧ k ∉ lv ∧ ∃ z0, Unw G comp Lv (n + 1) [(k, 0)] z0 S res ∧ 1 + 4 * z0 ≤ 4 * z + 8 := by
    cases run with
    | b_in x =>
      rw [y2] at x
      cases x
    | b_now x1 x2 x3 x4 =>
      exact ⟨x4, fun y => pre.un k y _ x2 x3, 1, ⟨0, _, .r_now x2 x3, .inl ⟨S, 0, rfl, Nat.le_refl _, rfl⟩⟩, by omega⟩
    | b_rs x1 x2 x3 x4 x5 => exact ⟨x4, fun y => x3 ((pre.eq k).mp y), _, Unw.one x5 (x5.post List.mem_cons_self x2).2.2, by omega⟩
  have rdyk : ∀ S', res = .ok S' → Rdy S' k := run.post.2.1
  have inpk : res.st.inp k = none := (congrFun run.post.1.inp k).trans y2
  have novl : ∀ S' v as, res ≠ .val S' v as := run.post.2.2
  refine ⟨_, rfl, o, _, rfl, kh1.raw, ?_⟩
  refine ⟨_, rfl, o, _, rfl, kh1.raw, ?_⟩
  refine fun pr dx n1 n2 n3 => ⟨pr, dx, rfl, upd_same, rfl, ?_⟩
  have e2 : upd (upd (upd H1 dx (.own pr)) pr (.ins CR dx [])) pr (.ins CR dx [("live", .bl true)]) = upd (upd H1 dx (.own pr)) pr (.ins CR dx [("live", .bl true)]) := upd_upd
  rw [e2]
  have s2 : Same H1 (upd (upd H1 dx (.own pr)) pr (.ins CR dx [("live", .bl true)])) := fun c u z => by
    rw [upd_ne (fun y => by rw [y, n1] at z; cases z), upd_ne (fun y => by rw [y, n2] at z; cases z)]
    exact z
  have hpr2 : upd (upd H1 dx (.own pr)) pr (.ins CR dx [("live", .bl true)]) pr = some (.ins CR dx [("live", .bl true)]) := upd_same
  have hl0 : ∀ x ∈ lv, rn x ≠ some pr := fun x hx z => by
    obtain ⟨p, dx', a, c⟩ := (kh1.live x).1 hx
    rw [z] at a
    cases a
    rw [n1] at c
    cases c
  have kh2 := kh1.same s2
  have hS2 : isK (upd (upd H1 dx (.own pr)) pr (.ins CR dx [("live", .bl true)])) b k := s2 _ _ hkey1
  generalize upd (upd H1 dx (.own pr)) pr (.ins CR dx [("live", .bl true)]) = H2 at s2 hpr2 kh2 hS2 ⊢
  clear e2
  -- the end, either way
  have out : ∀ (ps : List Ky) (H' : Hp) (S' : KS α) (rn' : Ky → Option Addr) (m' : Nat) (av' : V), Fl o A H1 H' → Kh Vx CK CR aF H' o A S' rn' (lv ++ ps) av' m' ni → (∀ x ∈ lv, rn' x = rn x) → (∀ x ∈ ps, rn' x = some pr) → H' pr = some (.ins CR dx [("live", .bl true)]) → m' ≤ m + 4 * z + 8 →
      KRaw CK (upd H' pr (.ins CR dx [("live", .bl false)])) o (kfo aF A S' av') ∧ ∀ H4, But o (upd H' pr (.ins CR dx [("live", .bl false)])) H4 → KRaw CK H4 o { kfo aF A S' av' with asked := av } → Fr o A av H H4 ∧ Kh Vx CK CR aF H4 o A S' rn' lv av (m + 4 * z + 8) ni ∧ AvP av k H H4 := by
    intro ps H' S' rn' m' av' fr kh' rl rk hp hm'
    have kh3 := kh'.stop hp rk fun x hx z => hl0 x hx (by rw [← rl x hx]; exact z)
    refine ⟨kh3.raw, fun H4 b4 r4 => ⟨fun c u z z1 z2 z3 z4 z5 => ?_, (kh3.ask b4 r4).more hm', fun d as z1 z2 => ?_⟩⟩
    · have y := fr1 c u z z1 z2 z3 z4 z5
      refine b4 _ _ z1 ?_
      rw [upd_ne (fun y2 => by rw [y2, n1] at y; cases y)]
      exact fr c u y z1 z2 z3 z4
    · have y := avp1 d as z1 z2
      subst z1
      rcases pre.avk with z | ⟨d', as', z, _, _, w1, w2, w3⟩
      · cases z
      injection z with z
      subst z
      obtain ⟨_, eo⟩ := kh1.raw
      obtain ⟨_, el, _⟩ := kh1.ended
      have ndo : d ≠ o := fun z => by rw [z, eo] at y; cases y
      refine b4 _ _ ndo ?_
      rw [upd_ne (fun y2 => by rw [y2, n1] at y; cases y)]
      exact fr _ _ y ndo w2 w3 (fun z => by rw [z, el] at y; cases y)
  refine ⟨_, rfl, o, rfl, kh2.raw.isI, _, rfl, _, rfl, o, b, pr, dx, A, S, rn, lv, av, m, ni, k, rfl, kh2, hS2, hpr2, by omega, hk, ?_⟩
  have fl2 : Fl o A H1 H2 := fun c u z _ _ _ _ => s2 _ _ z
  intro H3 st fr3 nst hst kh3
  refine ⟨by show 1 ≤ sizeLine; decide, fun pa npa => ?_⟩
  have s4 := same_new (o := .lst [.ref st]) npa
  have kh4 := kh3.same s4
  have hpa4 : upd H3 pa (.lst [.ref st]) pa = some (.lst [.ref st]) := upd_same
  have nar : ∀ {c u}, H2 c = some u → c ≠ A.r → upd H3 pa (.lst [.ref st]) c = some u := fun z y => s4 _ _ (fr3 _ _ z y)
  have npa1 : H1 pa = none := by
    cases z : H1 pa with
    | none => rfl
    | some u =>
      exfalso
      by_cases y : pa = A.r
      · obtain ⟨_, w, _⟩ := kh3.run
        rw [y, w] at npa
        cases npa
      · rw [fr3 _ _ (s2 _ _ z) y] at npa
        cases npa
  have nst1 : H1 st = none := by
    cases z : H1 st with
    | none => rfl
    | some u => rw [s2 _ _ z] at nst; cases nst
  dsimp only [gName, tSeq]
  refine while_z (fun z' σ H' => ∃ o6 o7 o8 S' rn' m' av' rev, σ = [some (.ref o), some (.ref b), some (.ref aF), some av, some (.ref pr), some (.ref pa), o6, o7, o8] ∧ LI Vx G CK CR aF H1 o A rn lv ni pa pr dx H' S' rn' m' av' rev ∧ Unw G comp Lv (n + 1) (rks rev) z' S' res ∧ m' + 4 * z' ≤ m + 4 * z + 8) (z := z0)
    ⟨none, none, none, S, ups rn k pr, m + 1, av, [⟨k, st, b, 0⟩], rfl, ?_, unw0, by omega⟩ ?_
  · refine ⟨fun c u z _ _ z3 _ => nar (s2 _ _ z) z3, kh4, fun x hx => ups_ne fun z => hk (z ▸ hx), ?_, hpa4, ?_, nar hpr2 (fun z => by obtain ⟨_, w, _⟩ := kh2.run; rw [← z, hpr2] at w; cases w), ?_, ?_, pre.un, ?_, by show 1 ≤ m + 1; omega⟩
    · refine List.nodup_append.mpr ⟨pre.nd, by simp [ks], fun x hx y hy => ?_⟩
      rw [show y = k by simpa [ks] using hy]
      exact fun z => hk (z ▸ hx)
    · intro x hx
      rw [show x = k by simpa [ks] using hx]
      exact ups_at
    · intro x hx
      rw [List.mem_singleton.mp hx]
      refine ⟨gk, nar hS2 (fun z => by obtain ⟨_, w, _⟩ := kh2.run; rw [← z, show H2 b = _ from hS2] at w; cases w), fun z => ?_, fun z => ?_, s4 _ _ hst, nst1⟩
      · obtain ⟨_, w, _⟩ := kh2.ended
        have z : st = A.l := z
        rw [← z, nst] at w
        cases w
      · have z : st = pa := z
        rw [← z, hst] at npa
        cases npa
    · simp
    · exact fun x hx => absurd hx (by simp)
  rintro z5 σ H5 ⟨o6, o7, o8, S5, rn5, m5, av5, rev, rfl, L, unw5, hm5⟩
  refine ⟨_, rfl, _, .inl ⟨_, .inl (.inl L.hpa), rfl⟩, ?_⟩
  cases rev with
  | nil =>
    refine iteF ?_
    have e5 : res = .ok S5 := unw5
    subst e5
    obtain ⟨r3, ot⟩ := out [] H5 S5 rn5 m5 av5 L.fr L.kh L.rl (fun x hx => absurd hx (by simp)) L.hp (by omega)
    refine ⟨_, rfl, pr, CR, dx, _, rfl, L.hp, T.cl_Run, T.n_live, by decide, ?_⟩
    refine ⟨_, rfl, _, rfl, o, _, rfl, r3, fun H4 b4 _ r4 => ?_⟩
    obtain ⟨f4, k4, a4⟩ := ot H4 b4 r4
    obtain ⟨kve, hke, _, hse⟩ := k4.ent
    have inpk : S5.inp k = none := inpk
    obtain ⟨e, he, hc⟩ : ∃ e, S5.en k = some e ∧ e.c = S5.now := by
      rcases rdyk S5 rfl with ⟨x, y⟩ | ⟨_, y⟩
      · rw [inpk] at y
        cases y
      · exact y
    rcases hse k with ⟨_, y⟩ | ⟨pe, e', y1, y2, ve, qq, bb, y3, y4, _⟩
    · rw [he] at y
      cases y
    rw [he] at y2
    cases y2
    have dg : DGet H4 A.e (.ref b) (some (.ref pe)) := by
      rw [← y1]
      exact DGet.t hke (f4.tup pre.kh pre.avk _ _ hkey)
    refine ⟨_, rfl, o, _, rfl, k4.raw, _, rfl, A.e, _, rfl, dg, pe, _, _, _, rfl, rfl, .inl (.inl y3), at_nat (i := 0) rfl, ?_⟩
    exact q S5 e.v rfl (by unfold KS.val; rw [inpk, he]; rfl) H4 rn5 f4 k4 L.rl a4 _ y4
  | cons top rest =>
    have e1 : (!(sts (top :: rest)).isEmpty) = true := by rw [sts_cons]; cases sts rest <;> rfl
    rw [e1]
    refine iteT (wNz ?_)
    obtain ⟨gtop, hbS, hsl, hsp, hi, hs1⟩ := L.its top List.mem_cons_self
    have lat : atI (sts (top :: rest)) (-1) = some (.ref top.st) := by rw [sts_cons]; exact atI_last
    refine ⟨_, rfl, 1, rfl, pa, _, _, _, rfl, rfl, .inl (.inl L.hpa), lat, ?_⟩
    have sn := L.sn
    rw [List.map_cons, List.nodup_cons] at sn
    have pal : pa ≠ A.l := fun z => by
      obtain ⟨_, w, _⟩ := kh1.ended
      rw [← z, npa1] at w
      cases w
    have cs : Cs H1 A pa top rest := ⟨hs1, pal, hsp.symm, fun x hx => ⟨(L.its x (List.mem_cons_of_mem _ hx)).2.2.1, fun z => sn.1 (z ▸ List.mem_map.mpr ⟨x, hx, rfl⟩)⟩⟩
    have nd := L.nd
    rw [ks_cons, ← List.append_assoc, List.nodup_append] at nd
    obtain ⟨nd1, _, nd2⟩ := nd
    have tl0 : top.k ∉ lv := fun z => nd2 _ (List.mem_append.mpr (.inl z)) _ (List.mem_singleton.mpr rfl) rfl
    have tr0 : ∀ x ∈ rest, x.k ≠ top.k := fun x hx => nd2 _ (List.mem_append.mpr (.inr (mem_ks hx))) _ (List.mem_singleton.mpr rfl)
    have c5 : Cm Vx CK CR aF H1 o A rn lv ni pa pr dx top rest H5 S5 rn5 m5 av5 := ⟨L.fr, L.kh, L.rl, L.rk, L.hpa, L.hp, hbS, ⟨_, hi⟩, fun x hx => ⟨(L.its x (List.mem_cons_of_mem _ hx)).2.1, (L.its x (List.mem_cons_of_mem _ hx)).2.2.2.2.1⟩, L.un, fun x hx => L.unr x hx⟩
    have lenr : rest.length + 1 ≤ m5 := L.len
    refine ⟨fun σ H6 => ∃ wv S6 m6, σ = [some (.ref o), some (.ref b), some (.ref aF), some av, some (.ref pr), some (.ref pa), some (.ref top.st), some wv, o8] ∧ Cm Vx CK CR aF H1 o A rn lv ni pa pr dx top rest H6 S6 rn5 m6 av5 ∧
      ((wv = .ref top.b ∧ S6 = S5 ∧ m6 = m5 ∧ Unc S5 top.k ∧ (S5.en top.k = none ∨ ∃ e, S5.en top.k = some e ∧ scan S5 e.c (e.d.drop top.i) top.i = .comp)) ∨
       (∃ (b' : Addr) (e : En α) (d : Ky) (j : Nat), wv = .ref b' ∧ S6 = S5 ∧ m6 = m5 ∧ Unc S5 top.k ∧ S5.en top.k = some e ∧ scan S5 e.c (e.d.drop top.i) top.i = .push d j ∧ Stp H6 top.st top.b j ∧ isK H6 b' d) ∨
       (wv = .non ∧ ∃ z6, z6 < z5 ∧ Unw G comp Lv (n + 1) (rks rest) z6 S6 res ∧ m6 + 4 * z6 ≤ m + 4 * z + 8 ∧ rest.length ≤ m6)), ?_, ?_⟩
    · refine ⟨_, rfl, o, rfl, L.kh.raw.isI, _, rfl, o, top.st, top.b, A, S5, rn5, lv ++ ks (top :: rest), av5, m5, ni, top.k, top.i, rfl, L.kh, hbS, hi, hsl, by omega, fun ⟨e, he, hc⟩ => ?_, fun hq u H6 fr6 hj kh6 => ?_, fun e d j he u hq H6 b' fr6 hj kh6 hb6 => ?_, fun e he u hq H6 fr6 hj kh6 => ?_⟩
      · obtain ⟨z6, h6, u6⟩ := turnD unw5 he hc
        exact ⟨_, S5, m5, rfl, c5, .inr (.inr ⟨rfl, z6, by omega, u6, by omega, by omega⟩)⟩
      · exact ⟨_, S5, m5, rfl, c5.step cs (fun c u z _ _ _ _ y => fr6 c u z y) hj kh6 c5.un c5.unr L.rl L.rk, .inl ⟨rfl, rfl, rfl, u, hq⟩⟩
      · exact ⟨_, S5, m5, rfl, c5.step cs (fun c u z _ _ _ _ y => fr6 c u z y) ⟨j, hj⟩ kh6 c5.un c5.unr L.rl L.rk, .inr (.inl ⟨b', e, d, j, rfl, rfl, rfl, u, he, hq, hj, hb6⟩)⟩
      · obtain ⟨z6, h6, u6⟩ := turnC unw5 u he hq
        have un6 : ∀ x, x ≠ top.k → Unc S5 x → Unc (S5.look top.k e) x := fun x hx ux e' he' => ux e' ((ups_ne hx).symm.trans he')
        exact ⟨_, S5.look top.k e, m5 + 1, rfl, c5.step cs (fun c u z _ y1 _ _ y => fr6 c u z y y1) hj kh6 (fun x hx => un6 x (fun z => tl0 (z ▸ hx)) (c5.un x hx)) (fun x hx => un6 _ (tr0 x hx) (c5.unr x hx)) L.rl L.rk, .inr (.inr ⟨rfl, z6, by omega, u6, by omega, by omega⟩)⟩
    rintro σ H6 ⟨wv, S6, m6, rfl, c6, cases6⟩
    refine ⟨fun σ H7 => ∃ wv S7 m7, σ = [some (.ref o), some (.ref b), some (.ref aF), some av, some (.ref pr), some (.ref pa), some (.ref top.st), some wv, o8] ∧ Cm Vx CK CR aF H1 o A rn lv ni pa pr dx top rest H7 S7 rn5 m7 av5 ∧
      ((wv = .ref top.b ∧ S7 = S5 ∧ m7 = m5 ∧ Unc S5 top.k ∧ (S5.en top.k = none ∨ ∃ e, S5.en top.k = some e ∧ scan S5 e.c (e.d.drop top.i) top.i = .comp)) ∨
       (wv = .non ∧ ∃ z6, z6 < z5 ∧ Unw G comp Lv (n + 1) (rks rest) z6 S7 res ∧ m7 + 4 * z6 ≤ m + 4 * z + 8 ∧ rest.length ≤ m7)), ?_, ?_⟩
    · obtain ⟨j6, hj6⟩ := c6.stp
      rcases cases6 with ⟨rfl, c6a⟩ | ⟨b', e6, g', j, rfl, rfl, rfl, un6, he6, hq6, hst6, hb6⟩ | ⟨rfl, c6c⟩
      · refine ⟨_, rfl, rfl, _, rfl, iteT ?_⟩
        refine ⟨_, rfl, _, rfl, top.st, _, _, _, rfl, rfl, SqL.of hj6, at_nat (i := 0) rfl, _, _, key_dp c6.hb, key_dp c6.hb, hG _ gtop, hG _ gtop, _, rfl, ?_⟩
        rw [eqv_key, decide_eq_true rfl]
        exact iteF ⟨_, S6, m6, rfl, c6, .inl ⟨rfl, c6a⟩⟩
      · obtain ⟨⟨z7, hz7, unw7⟩, nin, gg, hin, ung⟩ := turnB unw5 un6 he6 hq6
        have nin' : g' ∉ lv ++ ks (top :: rest) := fun y => nin (by
          rcases List.mem_append.mp y with y | y
          · exact List.mem_cons_of_mem _ (List.mem_append.mpr (.inr ((pre.eq _).mp y)))
          · obtain ⟨x, hx, rfl⟩ := of_ks y
            rcases List.mem_cons.mp hx with rfl | hx
            · exact List.mem_cons_self
            · exact List.mem_cons_of_mem _ (List.mem_append.mpr (.inl (List.mem_map.mpr ⟨(x.k, x.i), List.mem_map.mpr ⟨x, hx, rfl⟩, rfl⟩))))
        have ng6 : g' ≠ top.k := fun y => nin' (y ▸ List.mem_append.mpr (.inr (mem_ks List.mem_cons_self)))
        refine ⟨_, rfl, rfl, _, rfl, iteT ?_⟩
        refine ⟨_, rfl, _, rfl, top.st, _, _, _, rfl, rfl, SqL.of hj6, at_nat (i := 0) rfl, _, _, key_dp hb6, key_dp c6.hb, hG _ gg, hG _ gtop, _, rfl, ?_⟩
        rw [eqv_key, decide_eq_false ng6]
        refine iteT ?_
        refine ⟨_, rfl, .inl ⟨rfl, _, SqL.of c6.hpa⟩, _, rfl, o, rfl, c6.kh.raw.isI, _, rfl, _, rfl, o, b', pr, dx, A, S6, rn5, lv ++ ks (top :: rest), av5, m6, ni, g', rfl, c6.kh, hb6, c6.hp, by omega, nin', ?_⟩
        intro H9 st9 fr9 nst9 hst9 kh9
        obtain ⟨_, er6, _⟩ := c6.kh.run
        obtain ⟨_, el6, _⟩ := c6.kh.ended
        obtain ⟨_, ee6, _⟩ := c6.kh.ent
        obtain ⟨_, eo6⟩ := c6.kh.raw
        have hpa9 := fr9 _ _ c6.hpa (fun z => by have w := c6.hpa; rw [z, er6] at w; cases w)
        refine ⟨pa, _, _, rfl, rfl, hpa9, by rw [sts_len]; show rest.length + 1 < 16777216; omega, ?_⟩
        have st9pa : st9 ≠ pa := fun z => by rw [z, c6.hpa] at nst9; cases nst9
        have up : ∀ {c u}, H6 c = some u → c ≠ A.r → c ≠ pa → upd H9 pa (.lst (sts (top :: rest) ++ [.ref st9])) c = some u := fun {c u} z y1 y2 => by
          rw [upd_ne y2]
          exact fr9 _ _ z y1
        have upT : ∀ {c xs}, H6 c = some (.tup xs) → upd H9 pa (.lst (sts (top :: rest) ++ [.ref st9])) c = some (.tup xs) := fun {c xs} z => up z (fun y => by rw [y, er6] at z; cases z) (fun y => by rw [y, c6.hpa] at z; cases z)
        have upL : ∀ {c xs}, H6 c = some (.lst xs) → c ≠ pa → upd H9 pa (.lst (sts (top :: rest) ++ [.ref st9])) c = some (.lst xs) := fun {c xs} z y => up z (fun y => by rw [y, er6] at z; cases z) y
        have nst91 : H1 st9 = none := by
          cases z : H1 st9 with
          | none => rfl
          | some u =>
            exfalso
            by_cases y1 : st9 = o
            · rw [y1, eo6] at nst9; cases nst9
            by_cases y2 : st9 = A.e
            · rw [y2, ee6] at nst9; cases nst9
            by_cases y3 : st9 = A.r
            · rw [y3, er6] at nst9; cases nst9
            by_cases y4 : st9 = A.l
            · rw [y4, el6] at nst9; cases nst9
            rw [c6.fr _ _ z y1 y2 y3 y4] at nst9
            cases nst9
        have kst : ks ({ top with i := j } :: rest) = ks (top :: rest) := by rw [ks_cons, ks_cons]
        have stst : sts ({ top with i := j } :: rest) = sts (top :: rest) := by rw [sts_cons, sts_cons]
        have hks : lv ++ ks (⟨g', st9, b', 0⟩ :: { top with i := j } :: rest) = lv ++ ks (top :: rest) ++ [g'] := by rw [ks_cons, kst, List.append_assoc]
        have hpa10 : upd H9 pa (.lst (sts (top :: rest) ++ [.ref st9])) pa = some (.lst (sts (⟨g', st9, b', 0⟩ :: { top with i := j } :: rest))) := by rw [upd_same, sts_cons (x := ⟨g', st9, b', 0⟩), stst]
        have hst10 : Stp (upd H9 pa (.lst (sts (top :: rest) ++ [.ref st9]))) st9 b' (0 : Nat) := (upd_ne st9pa).trans hst9
        have itsp : ∀ x ∈ rest, x.st ≠ pa := fun x hx => (L.its x (List.mem_cons_of_mem _ hx)).2.2.2.1
        refine ⟨z7, by omega, _, _, _, S6, ups rn5 g' pr, m6 + 1, av5, ⟨g', st9, b', 0⟩ :: { top with i := j } :: rest, rfl, ⟨fun c u z y1 y2 y3 y4 => up (c6.fr c u z y1 y2 y3 y4) y3 (fun y => by rw [y, npa1] at z; cases z), ?_, ?_, ?_, hpa10, ?_, ?_, ?_, ?_, c6.un, ?_, ?_⟩, unw7, by omega⟩
        · rw [hks]
          refine kh9.keep fun c u z hc => ?_
          rw [upd_ne fun y => ?_]
          · exact z
          · subst y
            rcases hc with hc | hc
            · exact pal hc
            · rw [hpa9] at z
              cases z
              exact hc
        · intro x hx
          rw [ups_ne (fun z => nin' (by rw [← z]; exact List.mem_append.mpr (.inl hx)))]
          exact c6.rl x hx
        · rw [hks]
          refine List.nodup_append.mpr ⟨L.nd, by simp, fun x hx y hy => ?_⟩
          rw [List.mem_singleton.mp hy]
          exact fun z => nin' (z ▸ hx)
        · intro x hx
          rw [ks_cons, kst] at hx
          by_cases hxg : x = g'
          · rw [hxg]
            exact ups_at
          · rw [ups_ne hxg]
            rcases List.mem_append.mp hx with hx | hx
            · exact c6.rk x hx
            · exact absurd (List.mem_singleton.mp hx) hxg
        · exact up c6.hp (fun y => by have w := c6.hp; rw [y, er6] at w; cases w) (fun y => by have w := c6.hp; rw [y, c6.hpa] at w; cases w)
        · intro x hx
          rcases List.mem_cons.mp hx with rfl | hx
          · refine ⟨gg, upT hb6, fun z => ?_, st9pa, hst10, nst91⟩
            have z : st9 = A.l := z
            rw [z, el6] at nst9
            cases nst9
          rcases List.mem_cons.mp hx with rfl | hx
          · exact ⟨gtop, upT c6.hb, hsl, hsp, upL hst6 hsp, hs1⟩
          · obtain ⟨a0, a1, a2, a3, a4, a5⟩ := L.its x (List.mem_cons_of_mem _ hx)
            obtain ⟨b1, b2⟩ := c6.its x hx
            exact ⟨a0, upT b1, a2, a3, upL b2 a3, a5⟩
        · rw [List.map_cons, List.nodup_cons]
          refine ⟨fun z => ?_, L.sn⟩
          obtain ⟨x, hx, hxs⟩ := List.mem_map.mp z
          have hxs : x.st = st9 := hxs
          rcases List.mem_cons.mp hx with rfl | hx
          · have hxs : top.st = st9 := hxs
            rw [← hxs, show H6 top.st = _ from hj6] at nst9
            cases nst9
          · rw [← hxs, show H6 x.st = _ from (c6.its x hx).2] at nst9
            cases nst9
        · intro x hx
          rcases List.mem_cons.mp hx with rfl | hx
          · exact un6
          · exact c6.unr x hx
        · show (rest.length + 1) + 1 ≤ m6 + 1
          omega
      · exact ⟨_, rfl, rfl, _, rfl, iteF ⟨_, S6, m6, rfl, c6, .inr ⟨rfl, c6c⟩⟩⟩
    rintro σ H7 ⟨wv, S7, m7, rfl, c7, cases7⟩
    refine ⟨fun σ H8 => ∃ wv vv S8 rn8 m8 av8, σ = [some (.ref o), some (.ref b), some (.ref aF), some av, some (.ref pr), some (.ref pa), some (.ref top.st), some wv, vv] ∧ Cm Vx CK CR aF H1 o A rn lv ni pa pr dx top rest H8 S8 rn8 m8 av8 ∧
      ∃ z6, z6 < z5 ∧ Unw G comp Lv (n + 1) (rks rest) z6 S8 res ∧ m8 + 4 * z6 ≤ m + 4 * z + 8 ∧ rest.length ≤ m8, ?_, ?_⟩
    · rcases cases7 with ⟨rfl, rfl, rfl, un7, hq7⟩ | ⟨rfl, ch7⟩
      · obtain ⟨z1, o1, run1, alt1⟩ := turnA unw5 un7 hq7
        refine ⟨_, rfl, rfl, _, rfl, iteT ?_⟩
        -- an error
        have err : ∀ (H9 : Hp) (S9 : KS α) (rn9 : Ky → Option Addr) (m9 : Nat) (av9 : V), Cm Vx CK CR aF H1 o A rn lv ni pa pr dx top rest H9 S9 rn9 m9 av9 → m9 ≤ m + 4 * z + 8 → o1 = .no S9 → KRaw CK (upd H9 pr (.ins CR dx [("live", .bl false)])) o (kfo aF A S9 av9) ∧ ∀ H4, But o (upd H9 pr (.ins CR dx [("live", .bl false)])) H4 → KRaw CK H4 o { kfo aF A S9 av9 with asked := av } → E (.ref CC) none H4 := fun H9 S9 rn9 m9 av9 c9 hm9 e9 => by
          obtain ⟨r3, ot⟩ := out (ks (top :: rest)) H9 S9 rn9 m9 av9 c9.fr c9.kh c9.rl c9.rk c9.hp hm9
          refine ⟨r3, fun H4 b4 r4 => ?_⟩
          obtain ⟨f4, k4, _⟩ := ot H4 b4 r4
          rcases alt1 with ⟨S1, z2, a1, a2, a3⟩ | ⟨S1, a1, a2, a3⟩
          · rw [e9] at a1
            cases a1
          · rw [e9] at a1
            injection a1 with a1
            subst a1
            exact qe S9 a3 H4 rn9 f4 k4 c9.rl
        have z1z : z1 + 2 ≤ z5 := by
          rcases alt1 with ⟨S1, z2, a1, a2, a3⟩ | ⟨S1, a1, a2, a3⟩ <;> omega
        refine ⟨_, rfl, o, rfl, c7.kh.raw.isI, o, A, S7, rn5, lv ++ ks (top :: rest), av5, m7, ni, rfl, c7.kh, fun hleft => ?_, fun hleft H8 d nd8 b8 hd8 kh8 => ?_⟩
        · have e9 : o1 = .no S7 := by
            cases run1 with
            | n_no a => rfl
            | n_ok a => exact absurd hleft a
            | n_fail a => exact absurd hleft a
          obtain ⟨r3, ot⟩ := err H7 S7 rn5 m7 av5 c7 (by omega) e9
          refine ⟨_, rfl, pr, CR, dx, _, rfl, c7.hp, T.cl_Run, T.n_live, by decide, ?_⟩
          exact ⟨_, rfl, _, rfl, o, _, rfl, r3, fun H4 b4 _ r4 => ot H4 b4 r4⟩
        obtain ⟨_, eo7⟩ := c7.kh.raw
        obtain ⟨_, er7, _⟩ := c7.kh.run
        obtain ⟨_, el7, _⟩ := c7.kh.ended
        obtain ⟨_, ee7, _⟩ := c7.kh.ent
        obtain ⟨_, ei7, _⟩ := c7.kh.inp
        obtain ⟨j7, hj7⟩ := c7.stp
        have hj7 : H7 top.st = some (.lst [.ref top.b, .int (j7 : Int)]) := hj7
        have hb7 : H7 top.b = some (.tup (top.k.map kV)) := c7.hb
        have hb8 : isK H8 top.b top.k := b8 _ _ (fun z => by rw [z, eo7] at hb7; cases hb7) c7.hb
        obtain ⟨ze, oe, hze, rune, hoe⟩ : ∃ ze oe, z1 = ze + 3 ∧ Run G comp (top.k :: ((rks rest).map (·.1) ++ Lv)) n ze (.ev S7.dec (comp top.k) []) oe ∧ ((∃ S1 v as, oe = .val S1 v as ∧ o1 = .ok (S1.keep top.k v as)) ∨ ∃ S1, oe = .no S1 ∧ o1 = .no S1) := by
          cases run1 with
          | n_no a => exact absurd a hleft
          | n_ok a b c => exact ⟨_, _, rfl, c, .inl ⟨_, _, _, rfl, rfl⟩⟩
          | n_fail a b c => exact ⟨_, _, rfl, c, .inr ⟨_, rfl, rfl⟩⟩
        have latE := rune.post.1
        have memL : ∀ x, x ∈ lv ++ ks (top :: rest) ↔ x ∈ top.k :: ((rks rest).map (·.1) ++ Lv) := fun x => by
          rw [rks_k]
          constructor
          · intro y
            rcases List.mem_append.mp y with y | y
            · exact List.mem_cons_of_mem _ (List.mem_append.mpr (.inr ((pre.eq _).mp y)))
            · obtain ⟨x, hx, rfl⟩ := of_ks y
              rcases List.mem_cons.mp hx with rfl | hx
              · exact List.mem_cons_self
              · exact List.mem_cons_of_mem _ (List.mem_append.mpr (.inl (List.mem_map.mpr ⟨x, hx, rfl⟩)))
          · intro y
            rcases List.mem_cons.mp y with rfl | y
            · exact List.mem_append.mpr (.inr (mem_ks List.mem_cons_self))
            rcases List.mem_append.mp y with y | y
            · obtain ⟨x, hx, rfl⟩ := List.mem_map.mp y
              exact List.mem_append.mpr (.inr (mem_ks (List.mem_cons_of_mem _ hx)))
            · exact List.mem_append.mpr (.inl ((pre.eq _).mpr y))
        have unAll : ∀ x ∈ lv ++ ks (top :: rest), Unc S7 x := fun x hx => by
          rcases List.mem_append.mp hx with hx | hx
          · exact c7.un x hx
          · obtain ⟨y, hy, rfl⟩ := of_ks hx
            rcases List.mem_cons.mp hy with rfl | hy
            · exact un7
            · exact c7.unr y hy
        refine ⟨rfl, _, rfl, _, rfl, o, top.b, A, S7.dec, rn5, lv ++ ks (top :: rest), top.k :: ((rks rest).map (·.1) ++ Lv), d, m7, ni, top.k, ze, oe, rfl, ⟨kh8, L.nd, memL, unAll, .inr ⟨d, [], rfl, hd8, Nat.zero_le _, (fun z => by rw [z, ei7] at nd8; cases nd8), (fun z => by rw [z, ee7] at nd8; cases nd8), (fun z => by rw [z, er7] at nd8; cases nd8)⟩, by omega⟩, hd8, hb8, gtop, rune, ?_, ?_⟩
        · intro S9 a as e9 H9 rn9 fr9 kh9 rl9 kvs v hd9 hk9 hlen9 hrp9
          have latE : Lat (· ∈ top.k :: ((rks rest).map (·.1) ++ Lv)) S7.dec S9 := by rw [e9] at latE; exact latE
          have un9 : ∀ x ∈ lv ++ ks (top :: rest), Unc S9 x := fun x hx => Unc.lat (S := S7.dec) (unAll x hx) latE ((memL x).mp hx)
          have f79 : ∀ c u, H7 c = some u → c ≠ o → c ≠ A.e → c ≠ A.r → c ≠ A.l → H9 c = some u := fun c u z y1 y2 y3 y4 => fr9 c u (b8 c u y1 z) y1 y2 y3 y4 (fun y => by injection y with y; rw [y, nd8] at z; cases z)
          have inl : ∀ x ∈ lv, x ∈ lv ++ ks (top :: rest) := fun x hx => List.mem_append.mpr (.inl hx)
          have inr : ∀ x ∈ rest, x.k ∈ lv ++ ks (top :: rest) := fun x hx => List.mem_append.mpr (.inr (mem_ks (List.mem_cons_of_mem _ hx)))
          have c9 := c7.step cs (S7 := S9) (fun c u z y1 y2 y3 y4 _ => f79 c u z y1 y2 y3 y4) ⟨j7, f79 _ _ hj7 (fun z => by rw [z, eo7] at hj7; cases hj7) (fun z => by rw [z, ee7] at hj7; cases hj7) (fun z => by rw [z, er7] at hj7; cases hj7) hsl⟩ kh9 (fun x hx => un9 x (inl x hx)) (fun x hx => un9 _ (inr x hx)) (fun x hx => (rl9 x (inl x hx)).trans (c7.rl x hx)) (fun x hx => (rl9 x (List.mem_append.mpr (.inr hx))).trans (c7.rk x hx))
          refine ⟨_, rfl, o, rfl, kh9.raw.isI, _, rfl, _, rfl, o, top.b, d, A, S9, rn9, lv ++ ks (top :: rest), _, ni, top.k, v, a, kvs, rfl, kh9, c9.hb, hd9, hrp9, hlen9, by omega, fun H10 fr10 kh10 => ?_⟩
          rw [hk9] at kh10
          have un10 : ∀ x, x ≠ top.k → Unc S9 x → Unc (S9.keep top.k a as) x := fun x hx ux e' he' => ux e' ((ups_ne hx).symm.trans he')
          have c10 := c9.step cs (fun c u z _ y2 _ y4 _ => fr10 c u z y2 y4) (by
            obtain ⟨j9, hj9⟩ := c9.stp
            have hj9 : H9 top.st = some (.lst [.ref top.b, .int (j9 : Int)]) := hj9
            obtain ⟨_, ee9, _⟩ := kh9.ent
            exact ⟨j9, fr10 _ _ hj9 (fun z => by rw [z, ee9] at hj9; cases hj9) hsl⟩) kh10 (fun x hx => un10 x (fun z => tl0 (z ▸ hx)) (c9.un x hx)) (fun x hx => un10 _ (tr0 x hx) (c9.unr x hx)) c9.rl c9.rk
          rcases hoe with ⟨S1, v1, as1, x1, x2⟩ | ⟨S1, x1, x2⟩
          · rw [e9] at x1
            injection x1 with x1 x3 x4
            subst x1 x3 x4
            rcases alt1 with ⟨S2, z2, a1, a2, a3⟩ | ⟨S2, a1, a2, a3⟩
            · rw [x2] at a1
              injection a1 with a1
              subst a1
              exact ⟨_, _, _, rn9, _, _, rfl, c10, z2, by omega, a3, by omega, by omega⟩
            · rw [x2] at a1
              cases a1
          · rw [e9] at x1
            cases x1
        · intro S9 e9 H9 rn9 fr9 kh9 rl9
          have latE : Lat (· ∈ top.k :: ((rks rest).map (·.1) ++ Lv)) S7.dec S9 := by rw [e9] at latE; exact latE
          have un9 : ∀ x ∈ lv ++ ks (top :: rest), Unc S9 x := fun x hx => Unc.lat (S := S7.dec) (unAll x hx) latE ((memL x).mp hx)
          have f79 : ∀ c u, H7 c = some u → c ≠ o → c ≠ A.e → c ≠ A.r → c ≠ A.l → H9 c = some u := fun c u z y1 y2 y3 y4 => fr9 c u (b8 c u y1 z) y1 y2 y3 y4 (fun y => by injection y with y; rw [y, nd8] at z; cases z)
          have inl : ∀ x ∈ lv, x ∈ lv ++ ks (top :: rest) := fun x hx => List.mem_append.mpr (.inl hx)
          have inr : ∀ x ∈ rest, x.k ∈ lv ++ ks (top :: rest) := fun x hx => List.mem_append.mpr (.inr (mem_ks (List.mem_cons_of_mem _ hx)))
          have c9 := c7.step cs (S7 := S9) (fun c u z y1 y2 y3 y4 _ => f79 c u z y1 y2 y3 y4) ⟨j7, f79 _ _ hj7 (fun z => by rw [z, eo7] at hj7; cases hj7) (fun z => by rw [z, ee7] at hj7; cases hj7) (fun z => by rw [z, er7] at hj7; cases hj7) hsl⟩ kh9 (fun x hx => un9 x (inl x hx)) (fun x hx => un9 _ (inr x hx)) (fun x hx => (rl9 x (inl x hx)).trans (c7.rl x hx)) (fun x hx => (rl9 x (List.mem_append.mpr (.inr hx))).trans (c7.rk x hx))
          have e10 : o1 = .no S9 := by
            rcases hoe with ⟨S1, v1, as1, x1, x2⟩ | ⟨S1, x1, x2⟩
            · rw [e9] at x1
              cases x1
            · rw [e9] at x1
              injection x1 with x1
              rw [x2, x1]
          obtain ⟨r3, ot⟩ := err H9 S9 rn9 _ _ c9 (by omega) e10
          refine ⟨_, rfl, pr, CR, dx, _, rfl, c9.hp, T.cl_Run, T.n_live, by decide, ?_⟩
          exact ⟨_, rfl, _, rfl, o, _, rfl, r3, fun H4 b4 _ r4 => ot H4 b4 r4⟩
      · exact ⟨_, rfl, rfl, _, rfl, iteF ⟨_, _, S7, rn5, m7, av5, rfl, c7, ch7⟩⟩
    rintro σ H8 ⟨wv, vv, S8, rn8, m8, av8, rfl, c8, z6, hz6, unw6, hm8, hl8⟩
    obtain ⟨j8, hj8⟩ := c8.stp
    obtain ⟨kvr, er8, _, hr8⟩ := c8.kh.run
    have lastE : (sts (top :: rest))[(sts (top :: rest)).length - 1]? = some (.ref top.st) := by rw [sts_cons]; simp
    have dropE : (sts (top :: rest)).dropLast = sts rest := by rw [sts_cons]; simp
    refine ⟨_, rfl, .inl ⟨rfl, _, SqL.of c8.hpa⟩, pa, _, _, rfl, rfl, c8.hpa, lastE, ?_⟩
    rw [dropE]
    have k9 : Kh Vx CK CR aF (upd H8 pa (.lst (sts rest))) o A S8 rn8 (lv ++ ks rest ++ [top.k]) av8 m8 ni := by
      rw [List.append_assoc, ← ks_cons]
      refine c8.kh.keep fun c u z hc => ?_
      rw [upd_ne fun y => ?_]
      · exact z
      · subst y
        rcases hc with hc | hc
        · exact pal hc
        · rw [c8.hpa] at z
          cases z
          exact hc
    have up9 : ∀ {c u}, H8 c = some u → c ≠ pa → upd H8 pa (.lst (sts rest)) c = some u := fun z y => by rw [upd_ne y]; exact z
    have hpa9 : upd H8 pa (.lst (sts rest)) pa = some (.lst (sts rest)) := upd_same
    have hst9 := up9 hj8 hsp
    have hb9 : upd H8 pa (.lst (sts rest)) top.b = some (.tup (top.k.map kV)) := up9 c8.hb (fun y => by have w : H8 top.b = some (.tup (top.k.map kV)) := c8.hb; rw [y, c8.hpa] at w; cases w)
    have er9 := up9 er8 (fun y => by rw [y, c8.hpa] at er8; cases er8)
    have hp9 := up9 c8.hp (fun y => by have w := c8.hp; rw [y, c8.hpa] at w; cases w)
    generalize upd H8 pa (.lst (sts rest)) = H9 at k9 up9 hpa9 hst9 hb9 er9 hp9 ⊢
    refine ⟨_, rfl, o, _, rfl, k9.raw, _, rfl, top.st, _, _, _, rfl, rfl, SqL.of hst9, at_nat (i := 0) rfl, A.r, kvr, top.k, top.b, .ref pr, rfl, er9, rfl, hb9, by rw [hr8, c8.rk _ (mem_ks List.mem_cons_self)]; rfl, ?_⟩
    have tkn : top.k ∉ lv ++ ks rest := fun z => nd2 _ z _ (List.mem_singleton.mpr rfl) rfl
    have k10 := k9.drop_run tkn er9
    have up10 : ∀ {c u}, H8 c = some u → c ≠ pa → c ≠ A.r → upd H9 A.r (.dT (dropK kvr top.k)) c = some u := fun z y1 y2 => by rw [upd_ne y2]; exact up9 z y1
    have upL : ∀ {c xs}, H8 c = some (.lst xs) → c ≠ pa → upd H9 A.r (.dT (dropK kvr top.k)) c = some (.lst xs) := fun {c xs} z y => up10 z y (fun y => by rw [y, er8] at z; cases z)
    have upT : ∀ {c xs}, H8 c = some (.tup xs) → upd H9 A.r (.dT (dropK kvr top.k)) c = some (.tup xs) := fun {c xs} z => up10 z (fun y => by rw [y, c8.hpa] at z; cases z) (fun y => by rw [y, er8] at z; cases z)
    have hpa10 : upd H9 A.r (.dT (dropK kvr top.k)) pa = some (.lst (sts rest)) := (upd_ne (fun y => by rw [y, er9] at hpa9; cases hpa9)).trans hpa9
    refine ⟨z6, hz6, _, _, _, S8, _, m8, av8, rest, rfl, ⟨fun c u z y1 y2 y3 y4 => up10 (c8.fr c u z y1 y2 y3 y4) (fun y => by rw [y, npa1] at z; cases z) y3, k10, ?_, nd1, hpa10, ?_, ?_, ?_, sn.2, c8.un, fun x hx => c8.unr x (List.mem_of_mem_tail hx), hl8⟩, unw6, hm8⟩
    · intro x hx
      rw [show del rn8 top.k x = rn8 x from if_neg (fun z => tl0 (by rw [← z]; exact hx))]
      exact c8.rl x hx
    · intro x hx
      rw [show del rn8 top.k x = rn8 x from if_neg (fun z => tkn (by rw [← z]; exact List.mem_append.mpr (.inr hx)))]
      exact c8.rk x (by rw [ks_cons]; exact List.mem_append.mpr (.inl hx))
    · exact (upd_ne (fun y => by rw [y, er9] at hp9; cases hp9)).trans hp9
    · intro x hx
      obtain ⟨a0, a1, a2, a3, a4, a5⟩ := L.its x (List.mem_cons_of_mem _ hx)
      obtain ⟨b1, b2⟩ := c8.its x hx
      exact ⟨a0, upT b1, a2, a3, upL b2 a3, a5⟩
end

end Sn

namespace Sn
open PySem PySem.Spec PyProof.Rows L2 TL
/-! ### inputs; the keeper is made; limits; what was computed -/
section
variable {α : Type} [DecidableEq α] (Vx : Vl α)
def KS.put (S : KS α) (k : Ky) (v : α) : KS α := match S.inp k with
  | some (a, r) => if a = v then { S with inp := ups S.inp k (v, r), en := del S.en k } else { S with now := S.now + 1, inp := ups S.inp k (v, S.now + 1), en := del S.en k }
  | none => { S with now := S.now + 1, inp := ups S.inp k (v, S.now + 1), en := del S.en k }
def spPut (CK CR aF : Addr) : Sp := fun vs H Q _ => ∃ o b A S rn lv av m ni k vv v, vs = [.ref o, .ref b, vv] ∧ Kh Vx CK CR aF H o A S rn lv av m ni ∧ isK H b k ∧ Vx.rp H vv v ∧ ni < 1000000 ∧
  ∀ H', (∀ b u, H b = some u → b ≠ o → b ≠ A.i → b ≠ A.e → H' b = some u) → Kh Vx CK CR aF H' o A (S.put k v) rn lv av m (ni + 1) → Q .non H'
def spLim (CK CR aF : Addr) : Sp := fun vs H Q _ => ∃ o A S rn lv av m ni l, vs = [.ref o, lfV l] ∧ Kh Vx CK CR aF H o A S rn lv av m ni ∧
  ∀ H', But o H H' → Kh Vx CK CR aF H' o A { S with left := l } rn lv av m ni → Q .non H'
def spFor (CK CR aF : Addr) : Sp := fun vs H Q _ => ∃ o b A S rn lv av m ni k, vs = [.ref o, .ref b] ∧ Kh Vx CK CR aF H o A S rn lv av m ni ∧ isK H b k ∧
  ∀ H', But A.e H H' → Kh Vx CK CR aF H' o A { S with en := del S.en k } rn lv av m ni → Q .non H'
def spCom (CK CR aF : Addr) : Sp := fun vs H Q _ => ∃ o A S rn lv av m ni, vs = [.ref o] ∧ Kh Vx CK CR aF H o A S rn lv av m ni ∧
  ∀ H' l' bs, But o H H' → H l' = none → Kh Vx CK CR aF H' o { A with l := l' } { S with done := [] } rn lv av m ni → H' A.l = some (.lst (bs.map V.ref)) → Ks H' bs S.done → Q (.ref A.l) H'
end
theorem del_none {β : Type} {f : Ky → Option β} {k : Ky} (h : f k = none) : del f k = f := by
  funext j
  unfold del
  by_cases c : j = k
  · rw [if_pos c, c, h]
  · rw [if_neg c]
section
variable {α : Type} [DecidableEq α] {Vx : Vl α}
variable {P : Program} {w : World} {K : PySem.W.Frag} {mg : Str → Option Value} {base : Heap} {f : Addr} {fd : FuncData} {CK CR CC aF : Addr}
/-- an entry is dropped -/
theorem Kh.pop {H : Hp} {o : Addr} {A : KAd} {S : KS α} {rn : Ky → Option Addr} {lv : List Ky} {av : V} {m ni : Nat} {kve : List (List L2.Key × V)} {k : Ky} (kh : Kh Vx CK CR aF H o A S rn lv av m ni) (he : H A.e = some (.dT kve)) {Q : V → Hp → Prop}
    (q : ∀ v H', But A.e H H' → Kh Vx CK CR aF H' o A { S with en := del S.en k } rn lv av m ni → Q v H') : (∀ v, valV kve k = some v → Q v (upd H A.e (.dT (dropK kve k)))) ∧ (valV kve k = none → Q .non H) := by
  refine ⟨fun v _ => q v _ (But.refl _ _).upd (kh.drop_ent he), fun hn => q _ _ (But.refl _ _) ?_⟩
  obtain ⟨kv, x1, x2, x3⟩ := kh.ent
  rw [he] at x1
  cases x1
  have e : S.en k = none := by
    rcases x3 k with ⟨_, y⟩ | ⟨p, e, y, _⟩
    · exact y
    · rw [hn] at y
      cases y
  have e2 : ({ S with en := del S.en k } : KS α) = S := by rw [del_none e]
  rw [e2]
  exact kh
abbrev s_K_put : Stmt := inClass (topS 7) 1
abbrev N_K_put : List Str := ["self", "key", "value"]
theorem sc_K_put : FnScope N_K_put ["self", "key", "value"] (defScope s_K_put) := ⟨rfl, rfl, rfl, by decide +kernel, rfl, by decide +kernel, by decide +kernel⟩
theorem ok_put (F : Fun K "put" "Keeper.put" s_K_put f fd) (T : NmK K mg aF CK CR CC) : FnOk P w K mg base CX0 1 f fd ["self", "key", "value"] (spPut Vx CK CR aF) := by
  refine F.ok sc_K_put (fun vs H Q E h => ?_) (fun cdv A outer s H vs Q E hr h => ?_)
  · obtain ⟨o, b, A, S, rn, lv, av, m, ni, k, vv, v, rfl, _⟩ := h
    rfl
  obtain ⟨o, b, A, S, rn, lv, av, m, ni, k, vv, v, rfl, kh, hb, hv, hni, q⟩ := h
  refine ⟨_, (pss_cons (ps_expr (pe_bm PySem.F.plainAttrs_dict PySem.F.slot_dict_pop PySem.F.type_dict_pop (L2.DX.mt_popT (hu_of hr)) (pe_k_entries T (pv 0)) (pa_cons (pv 1) (pa_cons pe_non pa_nil))))
    (C8.pss_cut (ps_if (PW.pt (pw_and (pt_cmp (pc_din (hu_of hr) (pv 1) (pe_k_inputs T (pv 0)))) (pw_and1 (pt_cmpR (op_eqD hr.units) (pe_ix (r := rIxT K) ix_tup (pe_dget (hu_of hr) (pe_k_inputs T (pv 0)) (pv 1) (fun _ _ => rfl)) pe_int (fun _ _ => rfl)) (pv 2) (nomark _))))) (pss_cons (ps_dput (hu_of hr) (pe_k_inputs T (pv 0)) (pv 1) (pe_tup (pa_cons (pv 2) (pa_cons (pe_ix (r := rIxT K) ix_tup (pe_dget (hu_of hr) (pe_k_inputs T (pv 0)) (pv 1) (fun _ _ => rfl)) pe_int (fun _ _ => rfl)) pa_nil))) rfl)
    (pss_one ps_retN)) pss_nil)
    (pss_cons (ps_ka_now T (pv 0) pe_int in_add)
    (pss_one (ps_dput (hu_of hr) (pe_k_inputs T (pv 0)) (pv 1) (pe_tup (pa_cons (pv 2) (pa_cons (pe_k_now T (pv 0)) pa_nil))) rfl))))), ?_⟩
  obtain ⟨kve, he, _⟩ := kh.ent
  refine ⟨_, rfl, o, _, rfl, kh.raw, .inr (.inr (.inl ⟨rfl, .inr ⟨_, he⟩⟩)), _, rfl, A.e, kve, k, b, .non, rfl, rfl, he, hb, kh.pop he fun _ H1 b1 k1 => ?_⟩
  have hb1 : isK H1 b k := b1 _ _ (fun z => by have w : H b = some (.tup (k.map kV)) := hb; rw [z, he] at w; cases w) hb
  have hv1 : Vx.rp H1 vv v := Vx.keep (fun c xs z => b1 _ _ (fun y => by rw [y, he] at z; cases z) z) hv
  obtain ⟨kvi, hki, hlen, his⟩ := k1.inp
  have dgi := DGet.t hki hb1
  have hlt : kvi.length < sizeLine := Nat.lt_of_le_of_lt hlen (by show ni < 16777216; omega)
  refine ⟨fun σ H' => H' = H1 ∧ σ = [some (.ref o), some (.ref b), some vv] ∧ S.put k v = { S with now := S.now + 1, inp := ups S.inp k (v, S.now + 1), en := del S.en k }, ?_, ?_⟩
  · refine ⟨_, rfl, _, rfl, o, _, rfl, k1.raw, A.i, _, rfl, dgi, _, rfl, ?_⟩
    rcases his k with ⟨h1, h2⟩ | ⟨p, vg, g, r, h1, h2, h3, h4⟩
    · rw [h1]
      have h2 : S.inp k = none := h2
      exact iteF ⟨rfl, rfl, by unfold KS.put; rw [h2]⟩
    · have h2 : S.inp k = some (g, r) := h2
      rw [h1] at dgi ⊢
      refine iteT ?_
      refine ⟨_, rfl, o, _, rfl, k1.raw, _, rfl, A.i, _, rfl, dgi, p, _, _, _, rfl, rfl, .inl (.inl h3), at_nat (i := 0) rfl, _, rfl, _, _, Vx.dp h4, Vx.dp hv1, Vx.sh _, Vx.sh _, _, rfl, ?_⟩
      rw [Vx.eq]
      by_cases z : g = v
      · subst z
        refine iteP rfl ?_
        refine ⟨_, rfl, _, rfl, o, _, rfl, k1.raw, _, rfl, A.i, _, rfl, dgi, p, _, _, _, rfl, rfl, .inl (.inl h3), at_nat (i := 1) rfl, by show 2 ≤ sizeLine; decide, fun p2 np => ?_⟩
        have s2 := same_new (o := .tup [vv, .int ((r : Nat) : Int)]) np
        have k2 := k1.same s2
        have hp2 : upd H1 p2 (.tup [vv, .int ((r : Nat) : Int)]) p2 = some (.tup [vv, .int ((r : Nat) : Int)]) := upd_same
        have hki2 := s2 _ _ hki
        have k3 := k2.put_inp (k := k) hki2 hp2 (Vx.keep (fun _ _ z => s2 _ _ z) hv1)
        refine ⟨_, rfl, o, _, rfl, k2.raw, _, rfl, A.i, _, rfl, DPut.t hki2 (s2 _ _ hb1) hlt, ?_⟩
        have e3 : S.put k g = { S with inp := ups S.inp k (g, r), en := del S.en k } := by unfold KS.put; rw [h2]; exact if_pos rfl
        refine q _ (fun c u e y1 y2 y3 => by rw [upd_ne y2]; exact s2 _ _ (b1 _ _ y3 e)) ?_
        rw [e3]
        exact k3
      · exact iteN z ⟨rfl, rfl, by unfold KS.put; rw [h2]; exact if_neg z⟩
  rintro σ H' ⟨rfl, rfl, e3⟩
  refine ⟨_, rfl, o, _, (S.now : Int), rfl, k1.raw, rfl, fun H2 b2 r2 => ?_⟩
  have k2 : Kh Vx CK CR aF H2 o A { S with now := S.now + 1, en := del S.en k } rn lv av m ni := k1.self b2 r2 rfl rfl rfl
  obtain ⟨_, eo⟩ := k1.raw
  have hki2 := b2 _ _ (fun z => by rw [z, eo] at hki; cases hki) hki
  have hb2 : isK H2 b k := b2 _ _ (fun z => by have w : H' b = some (.tup (k.map kV)) := hb1; rw [z, eo] at w; cases w) hb1
  have hv2 : Vx.rp H2 vv v := Vx.keep (fun c xs z => b2 _ _ (fun y => by rw [y, eo] at z; cases z) z) hv1
  refine ⟨_, rfl, _, rfl, o, _, rfl, k2.raw, by show 2 ≤ sizeLine; decide, fun p2 np => ?_⟩
  have s2 := same_new (o := .tup [vv, (kfo aF A { S with now := S.now + 1, en := del S.en k } av).now]) np
  have k3 := k2.same s2
  have hp2 : upd H2 p2 (.tup [vv, (kfo aF A { S with now := S.now + 1, en := del S.en k } av).now]) p2 = some (.tup [vv, .int ((S.now + 1 : Nat) : Int)]) := upd_same
  have hki3 := s2 _ _ hki2
  have hb3 : isK _ b k := s2 _ _ hb2
  have hv3 := Vx.keep (fun _ _ z => s2 _ _ z) hv2
  generalize upd H2 p2 (.tup [vv, (kfo aF A { S with now := S.now + 1, en := del S.en k } av).now]) = H3 at s2 k3 hp2 hki3 hb3 hv3 ⊢
  have k4 := k3.put_inp (k := k) hki3 hp2 hv3
  refine ⟨_, rfl, o, _, rfl, k3.raw, _, rfl, A.i, _, rfl, DPut.t hki3 hb3 hlt, ?_⟩
  refine q _ (fun c u e y1 y2 y3 => by rw [upd_ne y2]; exact s2 _ _ (b2 _ _ y1 (b1 _ _ y3 e))) ?_
  rw [e3]
  exact k4
abbrev s_K_limit : Stmt := inClass (topS 7) 3
abbrev N_K_limit : List Str := ["self", "count"]
theorem sc_K_limit : FnScope N_K_limit ["self", "count"] (defScope s_K_limit) := ⟨rfl, rfl, rfl, by decide +kernel, rfl, by decide +kernel, by decide +kernel⟩
theorem ok_limit (F : Fun K "limit" "Keeper.limit" s_K_limit f fd) (T : NmK K mg aF CK CR CC) : FnOk P w K mg base CX0 1 f fd ["self", "count"] (spLim Vx CK CR aF) := by
  refine F.ok sc_K_limit (fun vs H Q E h => ?_) (fun cdv A outer s H vs Q E hr h => ?_)
  · obtain ⟨o, A, S, rn, lv, av, m, ni, l, rfl, _⟩ := h
    rfl
  obtain ⟨o, A, S, rn, lv, av, m, ni, l, rfl, kh, q⟩ := h
  refine ⟨_, (pss_one (ps_k_left T (pv 0) (pv 1))), ?_⟩
  exact ⟨_, rfl, _, rfl, o, _, rfl, kh.raw, fun H' b1 _ r1 => q H' b1 (kh.self b1 r1 rfl rfl rfl)⟩
abbrev s_K_forget : Stmt := inClass (topS 7) 4
abbrev N_K_forget : List Str := ["self", "key"]
theorem sc_K_forget : FnScope N_K_forget ["self", "key"] (defScope s_K_forget) := ⟨rfl, rfl, rfl, by decide +kernel, rfl, by decide +kernel, by decide +kernel⟩
theorem ok_forget (F : Fun K "forget" "Keeper.forget" s_K_forget f fd) (T : NmK K mg aF CK CR CC) : FnOk P w K mg base CX0 1 f fd ["self", "key"] (spFor Vx CK CR aF) := by
  refine F.ok sc_K_forget (fun vs H Q E h => ?_) (fun cdv A outer s H vs Q E hr h => ?_)
  · obtain ⟨o, b, A, S, rn, lv, av, m, ni, k, rfl, _⟩ := h
    rfl
  obtain ⟨o, b, A, S, rn, lv, av, m, ni, k, rfl, kh, hb, q⟩ := h
  refine ⟨_, (pss_one (ps_expr (pe_bm PySem.F.plainAttrs_dict PySem.F.slot_dict_pop PySem.F.type_dict_pop (L2.DX.mt_popT (hu_of hr)) (pe_k_entries T (pv 0)) (pa_cons (pv 1) (pa_cons pe_non pa_nil))))), ?_⟩
  obtain ⟨kve, he, _⟩ := kh.ent
  exact ⟨_, rfl, o, _, rfl, kh.raw, .inr (.inr (.inl ⟨rfl, .inr ⟨_, he⟩⟩)), _, rfl, A.e, kve, k, b, .non, rfl, rfl, he, hb, kh.pop he fun _ H1 b1 k1 => q H1 b1 k1⟩
abbrev s_K_computed : Stmt := inClass (topS 7) 7
abbrev N_K_computed : List Str := ["self", "ended"]
theorem sc_K_computed : FnScope N_K_computed ["self"] (defScope s_K_computed) := ⟨rfl, rfl, rfl, by decide +kernel, rfl, by decide +kernel, by decide +kernel⟩
theorem ok_computed (F : Fun K "computed" "Keeper.computed" s_K_computed f fd) (T : NmK K mg aF CK CR CC) : FnOk P w K mg base CX0 1 f fd ["self"] (spCom Vx CK CR aF) := by
  refine F.ok sc_K_computed (fun vs H Q E h => ?_) (fun cdv A outer s H vs Q E hr h => ?_)
  · obtain ⟨o, A, S, rn, lv, av, m, ni, rfl, _⟩ := h
    rfl
  obtain ⟨o, A, S, rn, lv, av, m, ni, rfl, kh, q⟩ := h
  refine ⟨_, (pss_cons (ps_set (i := 1) sc_K_computed.nd rfl (Or.inl rfl) (pe_k_ended T (pv 0)))
    (pss_cons (ps_k_ended T (pv 0) (pe_lst pa_nil))
    (pss_one (ps_ret (pv 1))))), ?_⟩
  obtain ⟨bs, hl, hm, hk⟩ := kh.ended
  refine ⟨_, rfl, o, _, rfl, kh.raw, ?_⟩
  refine ⟨Nat.zero_le _, fun l nl => ?_⟩
  have s1 := same_new (o := .lst []) nl
  have k1 := kh.same s1
  have hl1 : upd H l (.lst []) l = some (.lst []) := upd_same
  refine ⟨_, rfl, o, _, rfl, k1.raw, fun H' b1 _ r1 => ?_⟩
  refine ⟨_, rfl, ?_⟩
  obtain ⟨dx, eo⟩ := k1.raw
  have ne : ∀ {b u}, upd H l (.lst []) b = some u → (∀ dx fs, u ≠ .ins CK dx fs) → b ≠ o := fun e n z => by
    rw [z, eo] at e
    injection e with e
    exact n _ _ e.symm
  have ft : FT (upd H l (.lst [])) H' := fun c xs e => b1 _ _ (ne e fun _ _ z => nomatch z) e
  have fd : ∀ d kvs, upd H l (.lst []) d = some (.dT kvs) → H' d = some (.dT kvs) := fun d kvs e => b1 _ _ (ne e fun _ _ z => nomatch z) e
  refine q H' l bs ((But.of s1).trans b1) nl ⟨r1, k1.inp.keep ft (fd _), k1.ent.keep ft (fd _) (Nat.le_refl _), k1.run.keep (fd _) (Nat.le_refl _), k1.live.keep (fun p dx fs e => b1 _ _ (ne e fun _ _ z => by injection z with z; exact kh.ck z.symm) e), ⟨[], b1 _ _ (ne hl1 fun _ _ z => nomatch z) hl1, Nat.zero_le _, .nil⟩, kh.d1, kh.d2, kh.d3, kh.ck⟩ ?_ ?_
  · exact b1 _ _ (ne (s1 _ _ hl) fun _ _ z => nomatch z) (s1 _ _ hl)
  · exact hk.keep fun c xs e => ft _ _ (s1 _ _ e)
abbrev s_K_init : Stmt := inClass (topS 7) 0
abbrev N_K_init : List Str := ["self", "compute"]
theorem sc_K_init : FnScope N_K_init ["self", "compute"] (defScope s_K_init) := ⟨rfl, rfl, rfl, by decide +kernel, rfl, by decide +kernel, by decide +kernel⟩
theorem ok_K_init (F : Fun K "__init__" "Keeper.__init__" s_K_init f fd) (T : NmK K mg aF CK CR CC) : FnOk P w K mg base CX0 1 f fd ["self", "compute"] (spKI Vx CK CR aF) := by
  refine F.ok sc_K_init (fun vs H Q E h => ?_) (fun cdv A outer s H vs Q E hr h => ?_)
  · obtain ⟨p, dx, rfl, _⟩ := h
    rfl
  obtain ⟨p, dx, rfl, ck, hp, q⟩ := h
  refine ⟨_, (pss_cons (ps_fld (pv 0) (pv 1) rfl)
    (pss_cons (ps_fld (pv 0) pe_int rfl)
    (pss_cons (ps_fld (pv 0) pe_non rfl)
    (pss_cons (ps_fld (pv 0) pe_dnewT rfl)
    (pss_cons (ps_fld (pv 0) pe_dnewT rfl)
    (pss_cons (ps_fld (pv 0) pe_dnewT rfl)
    (pss_cons (ps_fld (pv 0) pe_non rfl)
    (pss_one (ps_fld (pv 0) (pe_lst pa_nil) rfl))))))))), ?_⟩
  refine ⟨_, rfl, _, rfl, p, CK, dx, _, rfl, hp, T.cl_Keeper, T.n_function, by decide, ?_⟩
  refine ⟨_, rfl, p, CK, dx, _, rfl, upd_same, T.cl_Keeper, T.n_now, by show 1 < 1000; decide, ?_⟩
  refine ⟨_, rfl, p, CK, dx, _, rfl, upd_same, T.cl_Keeper, T.n_left, by show 2 < 1000; decide, ?_⟩
  rw [upd_upd, upd_upd]
  have fr : ∀ {fs} c u, H c = some u → c ≠ p → upd H p (.ins CK dx fs) c = some u := fun c u z y => by rw [upd_ne y]; exact z
  have none1 : ∀ {fs c}, upd H p (.ins CK dx fs) c = none → H c = none ∧ c ≠ p := fun {fs c} z => by
    by_cases y : c = p
    · rw [y, upd_same] at z
      cases z
    · rw [upd_ne y] at z
      exact ⟨z, y⟩
  intro i ni
  obtain ⟨ni0, nip⟩ := none1 ni
  refine ⟨_, rfl, p, CK, dx, _, rfl, (upd_ne nip.symm).trans upd_same, T.cl_Keeper, T.n_inputs, by show 3 < 1000; decide, ?_⟩
  intro e ne
  have nep : e ≠ p := fun z => by rw [z, upd_same] at ne; cases ne
  rw [upd_ne nep] at ne
  have nei : e ≠ i := fun z => by rw [z, upd_same] at ne; cases ne
  rw [upd_ne nei, upd_ne nep] at ne
  refine ⟨_, rfl, p, CK, dx, _, rfl, (upd_ne nep.symm).trans upd_same, T.cl_Keeper, T.n_entries, by show 4 < 1000; decide, ?_⟩
  intro r nr
  have nrp : r ≠ p := fun z => by rw [z, upd_same] at nr; cases nr
  rw [upd_ne nrp] at nr
  have nre : r ≠ e := fun z => by rw [z, upd_same] at nr; cases nr
  rw [upd_ne nre, upd_ne nrp] at nr
  have nri : r ≠ i := fun z => by rw [z, upd_same] at nr; cases nr
  rw [upd_ne nri, upd_ne nrp] at nr
  refine ⟨_, rfl, p, CK, dx, _, rfl, (upd_ne nrp.symm).trans upd_same, T.cl_Keeper, T.n_runs, by show 5 < 1000; decide, ?_⟩
  refine ⟨_, rfl, p, CK, dx, _, rfl, upd_same, T.cl_Keeper, T.n_asked, by show 6 < 1000; decide, ?_⟩
  rw [upd_upd]
  refine ⟨Nat.zero_le _, fun l nl => ?_⟩
  have nlp : l ≠ p := fun z => by rw [z, upd_same] at nl; cases nl
  rw [upd_ne nlp] at nl
  have nlr : l ≠ r := fun z => by rw [z, upd_same] at nl; cases nl
  rw [upd_ne nlr, upd_ne nlp] at nl
  have nle : l ≠ e := fun z => by rw [z, upd_same] at nl; cases nl
  rw [upd_ne nle, upd_ne nlp] at nl
  have nli : l ≠ i := fun z => by rw [z, upd_same] at nl; cases nl
  rw [upd_ne nli, upd_ne nlp] at nl
  refine ⟨_, rfl, p, CK, dx, _, rfl, (upd_ne nlp.symm).trans upd_same, T.cl_Keeper, T.n_ended, by show 7 < 1000; decide, ?_⟩
  refine q _ ⟨i, e, r, l⟩ (fun c u z y => ?_) ni0 ne nr nl ⟨⟨dx, upd_same⟩, ⟨[], ?_, Nat.le_refl _, fun _ => .inl ⟨rfl, rfl⟩⟩, ⟨[], ?_, Nat.le_refl _, fun _ => .inl ⟨rfl, rfl⟩⟩, ⟨[], ?_, Nat.le_refl _, fun _ => rfl⟩, fun k => ⟨fun z => absurd z (by simp), fun _ p z => by cases z⟩, ⟨[], ?_, Nat.le_refl _, .nil⟩, nei.symm, nri.symm, nre.symm, ck⟩
  · have c1 : c ≠ l := fun y => by rw [y, nl] at z; cases z
    have c2 : c ≠ r := fun y => by rw [y, nr] at z; cases z
    have c3 : c ≠ e := fun y => by rw [y, ne] at z; cases z
    have c4 : c ≠ i := fun y => by rw [y, ni0] at z; cases z
    rw [upd_ne y, upd_ne c1, upd_ne y, upd_ne c2, upd_ne y, upd_ne c3, upd_ne y, upd_ne c4, upd_ne y]
    exact z
  · show upd _ _ _ i = _
    rw [upd_ne nip, upd_ne nli.symm, upd_ne nip, upd_ne nri.symm, upd_ne nip, upd_ne nei.symm, upd_ne nip, upd_same]
  · show upd _ _ _ e = _
    rw [upd_ne nep, upd_ne nle.symm, upd_ne nep, upd_ne nre.symm, upd_ne nep, upd_same]
  · show upd _ _ _ r = _
    rw [upd_ne nrp, upd_ne nlr.symm, upd_ne nrp, upd_same]
  · show upd _ _ _ l = _
    rw [upd_ne nlp, upd_same]
    rfl
end

end Sn

namespace Sn
open PySem PySem.Spec PyProof.Rows L2 TL
/-! ### what the law computes -/
inductive Va where
  | i (n : Int)
  | p (a b : Int)
deriving DecidableEq
def Va.rp (H : Hp) (v : V) : Va → Prop
  | .i n => v = .int n
  | .p a b => ∃ q, v = .ref q ∧ H q = some (.tup [.int a, .int b])
def Va.dat : Va → PyData
  | .i n => .int n
  | .p a b => .tuple [.int a, .int b]
def vxx : Vl Va where
  rp := Va.rp
  keep := fun {H H' v a} f h => by
    cases a with
    | i n => exact h
    | p a b =>
      obtain ⟨q, e, h⟩ := h
      exact ⟨q, e, f _ _ h⟩
  dat := Va.dat
  dp := fun {K H v a} h => by
    cases a with
    | i n =>
      have h : v = .int n := h
      subst h
      exact .int n
    | p a b =>
      obtain ⟨q, rfl, h⟩ := h
      exact .tup (.inl (.inl h)) (.cons (.int a) (.cons (.int b) .nil))
  sh := fun a => by
    cases a with
    | i n =>
      unfold SeqAt.shaped
      rw [Bool.and_eq_true]
      exact ⟨by kernel_rfl, decide_eq_true (show 0 ≤ 64 by decide)⟩
    | p x y =>
      unfold SeqAt.shaped
      rw [Bool.and_eq_true]
      exact ⟨by kernel_rfl, decide_eq_true (show 1 ≤ 64 by decide)⟩
  eq := fun x y => by
    cases x with
    | i n =>
      cases y with
      | i m =>
        show PyData.eqv (.int n) (.int m) = _
        rw [PyData.eqv]
        by_cases h : n = m <;> simp [h]
      | p a b =>
        show PyData.eqv (.int n) (.tuple _) = _
        rw [PyData.eqv]
        all_goals simp
    | p a b =>
      cases y with
      | i m =>
        show PyData.eqv (.tuple _) (.int m) = _
        rw [PyData.eqv]
        all_goals simp
      | p c d =>
        show PyData.eqv (.tuple [.int a, .int b]) (.tuple [.int c, .int d]) = _
        rw [PyData.eqv, PyData.eqvAll, PyData.eqvAll, PyData.eqvAll, PyData.eqv, PyData.eqv]
        by_cases h : a = c <;> by_cases h2 : b = d <;> simp [h, h2]
def kIn (j : Int) : Ky := [.inr "in", .inl j]
def kNd (l s : Int) : Ky := [.inr "node", .inl l, .inl s]
def pIn (v : Va) : Prop := ∃ f, v = .i f ∧ 0 ≤ f ∧ f ≤ 8
def pNd (v : Va) : Prop := ∃ a b, v = .p a b ∧ 0 ≤ a ∧ a ≤ 3
def Va.fst : Va → Int
  | .i n => n
  | .p a _ => a
def tE (f r : Int) : Tr Va := .ret (.p (r % 3) (f % 2))
def tB (l s f r : Int) : Tr Va := if f % 2 = 0 then .ask (kNd (l - 1) ((s + 3) % 6)) pNd fun w => tE f (r + 2 * w.fst) else tE f r
def tA (l s f : Int) : Tr Va := if 0 < f % 3 then .ask (kNd (l - 1) ((s * 7 + f) % 6)) pNd fun w => tB l s f (f + w.fst) else tB l s f f
def cT (l s : Int) : Tr Va := .ask (kIn (s % 4)) pIn fun v => if l = 0 then .ret (.p (v.fst % 4) s) else tA l s v.fst
def comp : Ky → Tr Va
  | [_, .inl l, .inl s] => cT l s
  | _ => .ret (.i 0)
def Gk (k : Ky) : Prop := ∃ l s : Int, k = kNd l s ∧ 0 ≤ l ∧ l < 4 ∧ 0 ≤ s ∧ s < 6
theorem Gk.shp (k : Ky) (h : Gk k) : Shp k := by
  obtain ⟨l, s, rfl, _⟩ := h
  show SeqAt.shaped (.tuple [.str "node", .int l, .int s]) = true
  unfold SeqAt.shaped
  rw [Bool.and_eq_true]
  exact ⟨by kernel_rfl, decide_eq_true (show 1 ≤ 64 by decide)⟩
/-! ### within a computation -/
section
variable {α : Type} [DecidableEq α] (Vx : Vl α)
structure Cp (CK CR aF : Addr) (o : Addr) (A : KAd) (rn0 : Ky → Option Addr) (lv Lv : List Ky) (d : Addr) (ni M : Nat) (H0 H : Hp) (S : KS α) (rn : Ky → Option Addr) (m z : Nat) (as : List Ky) (j : Nat) : Prop where
  fr : Fr o A (.ref d) H0 H
  pre : Pre Vx CK CR aF H o A S rn lv Lv (.ref d) m ni z
  rl : ∀ x ∈ lv, rn x = rn0 x
  ex : ∃ kvs, H d = some (.dT kvs) ∧ kvs.map (·.1) = as ∧ kvs.length ≤ j
  bd : m + 4 * z ≤ M
end
section
variable {α : Type} [DecidableEq α] {Vx : Vl α} {G : Ky → Prop} {cmp : Ky → Tr α}
variable {CK CR aF : Addr} {H0 H H1 H' : Hp} {o : Addr} {A : KAd} {S S1 : KS α} {rn rn0 rn' : Ky → Option Addr} {lv Lv : List Ky} {d : Addr} {ni M m z z1 z2 j n : Nat} {as : List Ky} {k : Ky}
theorem Cp.same (c : Cp Vx CK CR aF o A rn0 lv Lv d ni M H0 H S rn m z as j) (s : Same H H') : Cp Vx CK CR aF o A rn0 lv Lv d ni M H0 H' S rn m z as j := by
  obtain ⟨kvs, a, b, e⟩ := c.ex
  exact ⟨c.fr.trans (Fr.of s), c.pre.same s, c.rl, ⟨kvs, s _ _ a, b, e⟩, c.bd⟩
theorem Cp.next (c : Cp Vx CK CR aF o A rn0 lv Lv d ni M H0 H S rn m z as j) (hz : z1 + z2 + 2 ≤ z) (run1 : Run G cmp Lv n z1 (.br S k) (.ok S1)) (hj : j ≤ 900) (fr : Fr o A (.ref d) H H') (kh : Kh Vx CK CR aF H' o A S1 rn' lv (.ref d) (m + 4 * z1 + 8) ni) (rl : ∀ x ∈ lv, rn' x = rn x) (avp : AvP (.ref d) k H H') :
    Cp Vx CK CR aF o A rn0 lv Lv d ni M H0 H' S1 rn' (m + 4 * z1 + 8) z2 (addK as k) (j + 1) := by
  obtain ⟨kvs, a, b, e⟩ := c.ex
  have hd := avp d kvs rfl a
  have hl : (putK kvs k (.bl true)).length ≤ j + 1 := Nat.le_trans (length_putK kvs k (V.bl true)) (by omega)
  have lat := run1.post.1
  have sz := c.pre.sz
  have bd := c.bd
  refine ⟨c.fr.trans fr, ⟨kh, c.pre.nd, c.pre.eq, fun x hx => (c.pre.un x hx).lat lat ((c.pre.eq x).mp hx), .inr ?_, by omega⟩, fun x hx => (rl x hx).trans (c.rl x hx), ⟨_, hd, by rw [map_putK, b], hl⟩, by omega⟩
  rcases c.pre.avk with z | ⟨d', as', z, _, _, n1, n2, n3⟩
  · cases z
  · injection z with z
    subst z
    exact ⟨_, _, rfl, hd, by omega, n1, n2, n3⟩
theorem Cp.sub (c : Cp Vx CK CR aF o A rn0 lv Lv d ni M H0 H S rn m z as j) (hz : z1 + 2 ≤ z) : Pre Vx CK CR aF H o A S rn lv Lv (.ref d) m ni z1 := by
  have sz := c.pre.sz
  exact ⟨c.pre.kh, c.pre.nd, c.pre.eq, c.pre.un, c.pre.avk, by omega⟩
end
section
variable {P : Program} {w : World} {K : PySem.W.Frag} {mg : Str → Option Value} {base : Heap} {f : Addr} {fd : FuncData} {CK CR CC aF : Addr}
abbrev s_l_compute : Stmt := topS 14
abbrev N_l_compute : List Str := ["keeper", "key", "word", "level", "seed", "first", "result", "found"]
theorem sc_l_compute : FnScope N_l_compute ["keeper", "key"] (defScope s_l_compute) := ⟨rfl, rfl, rfl, by decide +kernel, rfl, by decide +kernel, by decide +kernel⟩
theorem ok_l_compute {n L : Nat} (F : Fun K "_law_compute" "_law_compute" s_l_compute f fd) (T : NmK K mg aF CK CR CC) (C_Keeper_ask : CalM P w K mg base (L2.CX P w) L CK "ask" (spAsk vxx Gk comp CK CR CC aF n)) : FnOk P w K mg base (L2.CX P w) (L + 1) f fd ["keeper", "key"] (spFn vxx Gk comp CK CR CC aF n) := by
  refine F.okX sc_l_compute (fun vs H Q E h => ?_) (fun cdv A outer s H vs Q E hr h => ?_)
  · obtain ⟨o, b, A, S, rn, lv, Lv, d, m, ni, k, z, out, rfl, _⟩ := h
    rfl
  obtain ⟨o, b, A, S, rn, lv, Lv, d, m, ni, k, z, out, rfl, pre, hd, hb, ⟨l, sd, rfl, l0, l4, s0, s6⟩, run, q, qe⟩ := h
  refine ⟨_, (pss_cons (ps_asg (pv 1) (pg_tup rfl (pgs_cons (pg_name (i := 2) sc_l_compute.nd rfl (Or.inl rfl)) (pgs_cons (pg_name (i := 3) sc_l_compute.nd rfl (Or.inl rfl)) (pgs_cons (pg_name (i := 4) sc_l_compute.nd rfl (Or.inl rfl)) pgs_nil)))))
    (pss_cons (ps_set (i := 5) sc_l_compute.nd rfl (Or.inl rfl) (pe_m ns_Keeper C_Keeper_ask T.cl_Keeper (by decide) hr (by first | decide | omega) (passes_call (takes_of rfl rfl rfl rfl) (fun _ _ _ _ h => h)) (pv 0) (pa_cons (pe_tup (pa_cons pe_str (pa_cons (pe_op op_mod (pe_callTy call_int1 (by rfl) T.int_ (by decide +kernel) (pa_cons (pv 4) pa_nil)) pe_int) pa_nil))) pa_nil)))
    (pss_cons (ps_if (pt_cmpR op_eq (pv 3) pe_int (nomark _)) (pss_one (ps_ret (pe_tup (pa_cons (pe_op op_mod (pe_callTy call_int1 (by rfl) T.int_ (by decide +kernel) (pa_cons (pv 5) pa_nil)) pe_int) (pa_cons (pv 4) pa_nil))))) pss_nil)
    (pss_cons (ps_set (i := 6) sc_l_compute.nd rfl (Or.inl rfl) (pe_callTy call_int1 (by rfl) T.int_ (by decide +kernel) (pa_cons (pv 5) pa_nil)))
    (C8.pss_cut (ps_if (pt_cmpR op_gt (pe_op op_mod (pv 5) pe_int) pe_int (nomark _)) (pss_cons (ps_set (i := 7) sc_l_compute.nd rfl (Or.inl rfl) (pe_m ns_Keeper C_Keeper_ask T.cl_Keeper (by decide) hr (by first | decide | omega) (passes_call (takes_of rfl rfl rfl rfl) (fun _ _ _ _ h => h)) (pv 0) (pa_cons (pe_tup (pa_cons pe_str (pa_cons (pe_op op_sub (pv 3) pe_int) (pa_cons (pe_op op_mod (pe_op op_add (pe_op op_mul (pv 4) pe_int) (pv 5)) pe_int) pa_nil)))) pa_nil)))
    (pss_one (ps_set (i := 6) sc_l_compute.nd rfl (Or.inl rfl) (pe_op op_add (pv 6) (pe_ix (r := rIxT K) ix_tup (pv 7) pe_int (fun _ _ => rfl)))))) pss_nil)
    (C8.pss_cut (ps_if (pt_cmpR op_eq (pe_op op_mod (pv 5) pe_int) pe_int (nomark _)) (pss_cons (ps_set (i := 7) sc_l_compute.nd rfl (Or.inl rfl) (pe_m ns_Keeper C_Keeper_ask T.cl_Keeper (by decide) hr (by first | decide | omega) (passes_call (takes_of rfl rfl rfl rfl) (fun _ _ _ _ h => h)) (pv 0) (pa_cons (pe_tup (pa_cons pe_str (pa_cons (pe_op op_sub (pv 3) pe_int) (pa_cons (pe_op op_mod (pe_op op_add (pv 4) pe_int) pe_int) pa_nil)))) pa_nil)))
    (pss_one (ps_set (i := 6) sc_l_compute.nd rfl (Or.inl rfl) (pe_op op_add (pv 6) (pe_op op_mul pe_int (pe_ix (r := rIxT K) ix_tup (pv 7) pe_int (fun _ _ => rfl))))))) pss_nil)
    (pss_one (ps_ret (pe_tup (pa_cons (pe_op op_mod (pe_callTy call_int1 (by rfl) T.int_ (by decide +kernel) (pa_cons (pv 6) pa_nil)) pe_int) (pa_cons (pe_op op_mod (pv 5) pe_int) pa_nil))))))))))), ?_⟩
  have c0 : Cp vxx CK CR aF o A rn lv Lv d ni (m + 4 * z) H H S rn m z [] 0 := ⟨fun _ _ e _ _ _ _ _ => e, pre, fun _ _ => rfl, ⟨[], hd, rfl, Nat.le_refl _⟩, Nat.le_refl _⟩
  have hb' : H b = some (.tup [.str "node", .int l, .int sd]) := hb
  refine ⟨_, rfl, b, _, rfl, .inl (.inl hb'), rfl, _, _, rfl, _, _, rfl, _, _, rfl, rfl, ?_⟩
  -- an error
  have err : ∀ {H1 : Hp} {S1 : KS Va} {rn1 : Ky → Option Addr} {m1 z1 j z2 : Nat} {as : List Ky} {S2 : KS Va} {H2 : Hp} {rn2 : Ky → Option Addr}, Cp vxx CK CR aF o A rn lv Lv d ni (m + 4 * z) H H1 S1 rn1 m1 z1 as j → z2 + 2 ≤ z1 → out = .no S2 → Fr o A (.ref d) H1 H2 → Kh vxx CK CR aF H2 o A S2 rn2 lv (.ref d) (m1 + 4 * z2 + 8) ni → (∀ x ∈ lv, rn2 x = rn1 x) → E (.ref CC) none H2 := fun c hz e fr kh rl =>
    qe _ e _ _ (c.fr.trans fr) (kh.more (by have := c.bd; omega)) fun x hx => (rl x hx).trans (c.rl x hx)
  -- the input
  refine ⟨_, rfl, o, rfl, c0.pre.kh.raw.isI, _, rfl, .inl ⟨_, rfl, _, _, rfl, rfl, (show (0 : Int) < 4 by decide), by show 2 ≤ sizeLine; decide, fun bt nt => ?_⟩⟩
  have s1 := same_new (o := .tup [.str "in", .int (sd % 4)]) nt
  have c1 := c0.same s1
  have hbt : isK (upd H bt (.tup [.str "in", .int (sd % 4)])) bt (kIn (sd % 4)) := upd_same
  generalize upd H bt (.tup [.str "in", .int (sd % 4)]) = H1 at s1 c1 hbt ⊢
  obtain ⟨z1, o1, hz1, run1, alt⟩ := Run.ask_inv (show Run Gk comp Lv n z (.ev S (.ask (kIn (sd % 4)) pIn fun v => if l = 0 then .ret (.p (v.fst % 4) sd) else tA l sd v.fst) []) out from run)
  refine ⟨o, bt, A, S, rn, lv, Lv, .ref d, m, ni, _, z1, o1, rfl, c1.sub hz1, hbt, run1, fun S2 a e2 ha H2 rn2 fr2 kh2 rl2 avp2 v hv => ?_, fun S2 e2 H2 rn2 fr2 kh2 rl2 => ?_⟩
  rotate_left
  · rcases alt with ⟨S3, v3, z3, x1, _⟩ | ⟨S3, x1, x2⟩
    · rw [e2] at x1
      cases x1
    · rw [e2] at x1
      injection x1 with x1
      subst x1
      exact err c1 hz1 x2 fr2 kh2 rl2
  obtain ⟨z2, hp, hz2, run2⟩ : ∃ z2, pIn a ∧ z1 + z2 + 2 ≤ z ∧ Run Gk comp Lv n z2 (.ev S2 (if l = 0 then .ret (.p (a.fst % 4) sd) else tA l sd a.fst) (addK [] (kIn (sd % 4)))) out := by
    rcases alt with ⟨S3, v3, z3, x1, x2, x3, x4, x5⟩ | ⟨S3, x1, x2⟩
    · rw [e2] at x1
      injection x1 with x1
      subst x1
      rw [ha] at x2
      cases x2
      exact ⟨z3, x3, x4, x5⟩
    · rw [e2] at x1
      cases x1
  subst e2
  have c2 := c1.next hz2 run1 (by decide) fr2 kh2 rl2 avp2
  obtain ⟨fv, rfl, f0, f8⟩ := hp
  have hv : v = .int fv := hv
  subst hv
  have run2 : Run Gk comp Lv n z2 (.ev S2 (if l = 0 then .ret (.p (fv % 4) sd) else tA l sd fv) (addK [] (kIn (sd % 4)))) out := run2
  generalize addK [] (kIn (sd % 4)) = as2 at c2 run2
  generalize m + 4 * z1 + 8 = m2 at c2 kh2
  -- how it comes out
  have fin : ∀ {H3 : Hp} {S3 : KS Va} {rn3 : Ky → Option Addr} {m3 z3 j : Nat} {as : List Ky} {x y : Int} {p : Addr}, Cp vxx CK CR aF o A rn lv Lv d ni (m + 4 * z) H H3 S3 rn3 m3 z3 as j → j ≤ 900 → out = .val S3 (.p x y) as → H3 p = none → Q (.ref p) (upd H3 p (.tup [.int x, .int y])) := fun {H3 S3 rn3 m3 z3 j as x y p} c hj e np => by
    have cc := c.same (same_new (o := .tup [.int x, .int y]) np)
    obtain ⟨kvs, k1, k2, k3⟩ := cc.ex
    exact q _ _ _ e _ rn3 cc.fr (cc.pre.kh.more (by have := cc.bd; omega)) cc.rl kvs _ k1 k2 (by omega) ⟨p, rfl, upd_same⟩
  refine ⟨_, rfl, rfl, _, rfl, ?_⟩
  by_cases hl : l = 0
  · refine iteP (by rw [hl]) ?_
    rw [if_pos hl] at run2
    have e3 := run2.ret_inv
    refine ⟨_, rfl, .inl ⟨_, rfl, _, _, rfl, rfl, (show (0 : Int) < 4 by decide), _, rfl, by show 2 ≤ sizeLine; decide, fun p np => ?_⟩⟩
    exact fin c2 (by decide) e3 np
  refine iteN (fun z => hl (by injection z)) ?_
  rw [if_neg hl] at run2
  refine ⟨_, rfl, .inl ⟨_, rfl, ?_⟩⟩
  -- one more key
  have more : ∀ {H3 : Hp} {S3 : KS Va} {rn3 : Ky → Option Addr} {m3 z3 j : Nat} {as : List Ky} {g : Int → Tr Va} {l2 s2 : Int} {bt : Addr} {Q' : V → Hp → Prop}, Cp vxx CK CR aF o A rn lv Lv d ni (m + 4 * z) H H3 S3 rn3 m3 z3 as j → j ≤ 900 → isK H3 bt (kNd l2 s2) → Run Gk comp Lv n z3 (.ev S3 (.ask (kNd l2 s2) pNd fun w => g w.fst) as) out →
      (∀ (x y : Int) (q : Addr) H4 S4 rn4 m4 z4 as4, Cp vxx CK CR aF o A rn lv Lv d ni (m + 4 * z) H H4 S4 rn4 m4 z4 as4 (j + 1) → Run Gk comp Lv n z4 (.ev S4 (g x) as4) out → H4 q = some (.tup [.int x, .int y]) → Q' (.ref q) H4) → spAsk vxx Gk comp CK CR CC aF n [.ref o, .ref bt] H3 Q' E := by
    intro H3 S3 rn3 m3 z3 j as g l2 s2 bt Q' c hj hbt run3 q'
    obtain ⟨z1, o1, hz1, run1, alt⟩ := Run.ask_inv run3
    refine ⟨o, bt, A, S3, rn3, lv, Lv, .ref d, m3, ni, _, z1, o1, rfl, c.sub hz1, hbt, run1, fun S2 a e2 ha H2 rn2 fr2 kh2 rl2 avp2 v hv => ?_, fun S2 e2 H2 rn2 fr2 kh2 rl2 => ?_⟩
    · rcases alt with ⟨S5, v5, z5, x1, x2, x3, x4, x5⟩ | ⟨S5, x1, x2⟩
      · rw [e2] at x1
        injection x1 with x1
        subst x1
        rw [ha] at x2
        cases x2
        subst e2
        obtain ⟨x, y, rfl, _, _⟩ := x3
        obtain ⟨q, rfl, hq⟩ := hv
        exact q' x y q H2 _ _ _ _ _ (c.next x4 run1 hj fr2 kh2 rl2 avp2) x5 hq
      · rw [e2] at x1
        cases x1
    · rcases alt with ⟨S5, v5, z5, x1, _⟩ | ⟨S5, x1, x2⟩
      · rw [e2] at x1
        cases x1
      · rw [e2] at x1
        injection x1 with x1
        subst x1
        exact err c hz1 x2 fr2 kh2 rl2
  refine ⟨fun σ H4 => ∃ (r : Int) (ov : Option V) (S4 : KS Va) (rn4 : Ky → Option Addr) (m4 z4 : Nat) (as4 : List Ky), σ = [some (.ref o), some (.ref b), some (.str "node"), some (.int l), some (.int sd), some (.int fv), some (.int r), ov] ∧ Cp vxx CK CR aF o A rn lv Lv d ni (m + 4 * z) H H4 S4 rn4 m4 z4 as4 2 ∧ Run Gk comp Lv n z4 (.ev S4 (tB l sd fv r) as4) out, ?_, ?_⟩
  · refine ⟨_, rfl, _, _, rfl, rfl, (show (0 : Int) < 3 by decide), _, _, rfl, rfl, _, rfl, ?_⟩
    by_cases h3 : 0 < fv % 3
    · have e3 : tA l sd fv = .ask (kNd (l - 1) ((sd * 7 + fv) % 6)) pNd fun w => tB l sd fv (fv + w.fst) := if_pos h3
      rw [e3] at run2
      refine iteP h3 ?_
      refine ⟨_, rfl, o, rfl, c2.pre.kh.raw.isI, _, rfl, _, _, rfl, rfl, _, rfl, _, _, rfl, rfl, .inr ⟨by decide, by decide⟩, _, rfl, _, _, rfl, rfl, _, _, rfl, rfl, (show (0 : Int) < 6 by decide), by show 3 ≤ sizeLine; decide, fun bt nt => ?_⟩
      refine more (g := fun x => tB l sd fv (fv + x)) (c2.same (same_new nt)) (by decide) (bt := bt) upd_same run2 fun x y q H4 S4 rn4 m4 z4 as4 c4 run4 hq => ?_
      exact ⟨_, rfl, _, rfl, q, _, _, _, rfl, rfl, .inl (.inl hq), at_nat (i := 0) rfl, _, _, rfl, rfl, _, _, S4, rn4, m4, z4, as4, rfl, c4, run4⟩
    · have e3 : tA l sd fv = tB l sd fv fv := if_neg h3
      rw [e3] at run2
      refine iteN h3 ?_
      obtain ⟨kvs, k1, k2, k3⟩ := c2.ex
      exact ⟨_, _, S2, _, _, _, _, rfl, ⟨c2.fr, c2.pre, c2.rl, ⟨kvs, k1, k2, by omega⟩, c2.bd⟩, run2⟩
  rintro σ H4 ⟨r, ov, S4, rn4, m4, z4, as4, rfl, c4, run4⟩
  refine ⟨fun σ H5 => ∃ (r : Int) (ov : Option V) (S5 : KS Va) (rn5 : Ky → Option Addr) (m5 z5 : Nat) (as5 : List Ky), σ = [some (.ref o), some (.ref b), some (.str "node"), some (.int l), some (.int sd), some (.int fv), some (.int r), ov] ∧ Cp vxx CK CR aF o A rn lv Lv d ni (m + 4 * z) H H5 S5 rn5 m5 z5 as5 3 ∧ Run Gk comp Lv n z5 (.ev S5 (tE fv r) as5) out, ?_, ?_⟩
  · refine ⟨_, rfl, _, _, rfl, rfl, (show (0 : Int) < 2 by decide), rfl, _, rfl, ?_⟩
    by_cases h3 : fv % 2 = 0
    · have e3 : tB l sd fv r = .ask (kNd (l - 1) ((sd + 3) % 6)) pNd fun w => tE fv (r + 2 * w.fst) := if_pos h3
      rw [e3] at run4
      refine iteP (by show V.int (fv % 2) = V.int 0; rw [h3]) ?_
      refine ⟨_, rfl, o, rfl, c4.pre.kh.raw.isI, _, rfl, _, _, rfl, rfl, _, rfl, _, _, rfl, rfl, _, _, rfl, rfl, (show (0 : Int) < 6 by decide), by show 3 ≤ sizeLine; decide, fun bt nt => ?_⟩
      refine more (g := fun x => tE fv (r + 2 * x)) (c4.same (same_new nt)) (by decide) (bt := bt) upd_same run4 fun x y q H5 S5 rn5 m5 z5 as5 c5 run5 hq => ?_
      exact ⟨_, rfl, _, rfl, q, _, _, _, rfl, rfl, .inl (.inl hq), at_nat (i := 0) rfl, _, _, rfl, rfl, .inl ⟨by decide, by decide⟩, _, _, rfl, rfl, _, _, S5, rn5, m5, z5, as5, rfl, c5, run5⟩
    · have e3 : tB l sd fv r = tE fv r := if_neg h3
      rw [e3] at run4
      refine iteN (fun z => h3 (by injection z)) ?_
      obtain ⟨kvs, k1, k2, k3⟩ := c4.ex
      exact ⟨_, _, S4, _, _, _, _, rfl, ⟨c4.fr, c4.pre, c4.rl, ⟨kvs, k1, k2, by omega⟩, c4.bd⟩, run4⟩
  rintro σ H5 ⟨r5, ov5, S5, rn5, m5, z5, as5, rfl, c5, run5⟩
  have e5 := Run.ret_inv (show Run Gk comp Lv n z5 (.ev S5 (.ret (.p (r5 % 3) (fv % 2))) as5) out from run5)
  refine ⟨_, rfl, .inl ⟨_, rfl, _, _, rfl, rfl, (show (0 : Int) < 3 by decide), _, rfl, _, _, rfl, rfl, (show (0 : Int) < 2 by decide), by show 2 ≤ sizeLine; decide, fun p np => ?_⟩⟩
  exact fin c5 (by decide) e5 np
end
structure MF (K : PySem.W.Frag) (C : Addr) (m qual : Str) (st : Stmt) (ps : List Str) : Prop where
  ex : ∃ (f : Addr) (fd : FuncData), Fun K m qual st f fd ∧ Meth K C m f ∧ Binds K fd ps []
section
variable {P : Program} {w : World} {K : PySem.W.Frag} {mg : Str → Option Value} {base : Heap} {CX : CXT} {k : Nat} {C : Addr} {m qual : Str} {st : Stmt} {ps : List Str} {sp : Sp}
theorem MF.cal (h : MF K C m qual st ps) (ok : ∀ f fd, Fun K m qual st f fd → FnOk P w K mg base CX k f fd ps sp) : CalM P w K mg base CX k C m sp := by
  obtain ⟨f, fd, F, M, b⟩ := h.ex
  exact ⟨⟨f, fd, ps, ok f fd F, M, b⟩⟩
end
theorem no_ask {α : Type} [DecidableEq α] {Vx : Vl α} {G : Ky → Prop} {cmp : Ky → Tr α} {CK CR aF CC : Addr} {vs : List V} {H : Hp} {Q : VK} {E : XK} (h : spAsk Vx G cmp CK CR CC aF 0 vs H Q E) : False := by
  obtain ⟨o, b, A, S, rn, lv, Lv, av, m, ni, k, z, out, _, _, _, r, _⟩ := h
  cases r
structure KM (K : PySem.W.Frag) (CK : Addr) : Prop where
  ask : MF K CK "ask" "Keeper.ask" s_K_ask ["self", "key"]
  entered : MF K CK "_entered" "Keeper._entered" s_K_entered ["self", "key", "run"]
  wanted : MF K CK "_wanted" "Keeper._wanted" s_K_wanted ["self", "step"]
  is_checked : MF K CK "_is_checked" "Keeper._is_checked" s_K_is_checked ["self", "key"]
  changed : MF K CK "_changed" "Keeper._changed" s_K_changed ["self", "key"]
  begin_ : MF K CK "_begin" "Keeper._begin" s_K_begin ["self"]
  end_ : MF K CK "_end" "Keeper._end" s_K_end ["self", "key", "value"]
theorem ask_all {P : Program} {w : World} {K : PySem.W.Frag} {mg : Str → Option Value} {base : Heap} {CK CR CC aF : Addr} {fdC : FuncData} (T : NmK K mg aF CK CR CC) (M : KM K CK) (I_Run : CalO P w K mg base CX0 1 CR (spRunI CR))
    (FC : Fun K "_law_compute" "_law_compute" s_l_compute aF fdC) (BC : Binds K fdC ["keeper", "key"] []) : ∀ n, CalM P w K mg base (L2.CX P w) (3 + 2 * n) CK "ask" (spAsk vxx Gk comp CK CR CC aF n)
  | 0 => M.ask.cal fun f fd F => ⟨fun _ _ _ _ h => (no_ask h).elim, fun _ _ _ _ _ _ _ _ _ _ _ _ _ h => (no_ask h).elim⟩
  | n + 1 => by
    have c := ask_all T M I_Run FC BC n
    have c1 := M.is_checked.cal (P := P) (w := w) (mg := mg) (base := base) fun f fd F => ok_is_checked (Vx := vxx) F T
    have c2 := M.changed.cal (P := P) (w := w) (mg := mg) (base := base) fun f fd F => ok_changed (Vx := vxx) F T
    have c3 := M.wanted.cal (P := P) (w := w) (mg := mg) (base := base) fun f fd F => ok_wanted F T c1 c2
    have c4 := M.entered.cal (P := P) (w := w) (mg := mg) (base := base) fun f fd F => ok_entered (Vx := vxx) F T
    have c5 := M.begin_.cal (P := P) (w := w) (mg := mg) (base := base) fun f fd F => ok_begin (Vx := vxx) F T
    have c6 := M.end_.cal (P := P) (w := w) (mg := mg) (base := base) fun f fd F => ok_end (Vx := vxx) F T
    exact M.ask.cal fun f fd F => ok_ask (L := 3 + 2 * n + 1) Gk.shp F T I_Run c4 c3 c5 c6 (by omega) (ok_l_compute FC T c) FC.kp BC

end Sn

namespace Sn
open PySem PySem.Spec PyProof.Rows L2 TL
/-! ### every key can be brought -/
theorem kNd_inj {l s l' s' : Int} (h : kNd l s = kNd l' s') : l = l' ∧ s = s' := by
  unfold kNd at h
  injection h with _ h
  injection h with h1 h
  injection h with h2 _
  injection h1 with h1
  injection h2 with h2
  exact ⟨h1, h2⟩
theorem kIn_ne {j l s : Int} : kIn j ≠ kNd l s := fun h => by
  unfold kIn kNd at h
  injection h with h _
  injection h with h
  exact absurd h (by decide)
theorem kIn_inj {i j : Int} (h : kIn i = kIn j) : i = j := by
  unfold kIn at h
  injection h with _ h
  injection h with h _
  injection h
def Dep (l : Int) (d : Ky) : Prop := (∃ j, d = kIn j ∧ 0 ≤ j ∧ j < 4) ∨ ∃ l' s', d = kNd l' s' ∧ 0 ≤ l' ∧ l' < l ∧ 0 ≤ s' ∧ s' < 6
structure Ty (S : KS Va) : Prop where
  inn : ∀ j : Int, 0 ≤ j → j < 4 → ∃ f r, S.inp (kIn j) = some (.i f, r) ∧ 0 ≤ f ∧ f ≤ 8
  ind : ∀ l s, S.inp (kNd l s) = none
  ent : ∀ k e, S.en k = some e → (∃ l s, k = kNd l s ∧ (∀ d ∈ e.d, Dep l d) ∧ e.d.length ≤ 3) ∧ pNd e.v
theorem Ty.set {S : KS Va} (t : Ty S) {k : Ky} {e : En Va} {dn : List Ky} {l s : Int} (hk : k = kNd l s) (hd : ∀ d ∈ e.d, Dep l d) (hl : e.d.length ≤ 3) (hv : pNd e.v) : Ty { S with en := ups S.en k e, done := dn } :=
  ⟨t.inn, t.ind, fun k' e' h => by
    have h : ups S.en k e k' = some e' := h
    by_cases c : k' = k
    · subst c
      rw [ups_at] at h
      cases h
      exact ⟨⟨l, s, hk, hd, hl⟩, hv⟩
    · rw [ups_ne c] at h
      exact t.ent k' e' h⟩
theorem Ty.dec {S : KS Va} (t : Ty S) : Ty S.dec := ⟨t.inn, t.ind, t.ent⟩
theorem Ty.rdy_in {S : KS Va} (t : Ty S) {j : Int} (h0 : 0 ≤ j) (h4 : j < 4) : ∃ v, S.val (kIn j) = some v ∧ pIn v := by
  obtain ⟨f, r, h, a, b⟩ := t.inn j h0 h4
  exact ⟨.i f, by unfold KS.val; rw [h], f, rfl, a, b⟩
theorem Ty.rdy_nd {S : KS Va} (t : Ty S) {l s : Int} (r : Rdy S (kNd l s)) : ∃ v, S.val (kNd l s) = some v ∧ pNd v := by
  rcases r with ⟨x, h⟩ | ⟨h, e, he, _⟩
  · rw [t.ind] at h
    cases h
  · exact ⟨e.v, by unfold KS.val; rw [h, he]; rfl, (t.ent _ _ he).2⟩
def NoV (o : Ot Va) : Prop := ∀ S' v as, o ≠ .val S' v as
def Can (L : List Ky) (n b : Nat) (d : Ky) : Prop := ∀ S, Ty S → ∃ z o, Run Gk comp L n z (.br S d) o ∧ z ≤ b ∧ Ty o.st ∧ NoV o
theorem lk_ex {L : List Ky} {n b c : Nat} {k : Ky} {e : En Va} (hrn : ∀ S, Ty S → ∃ z o, Run Gk comp L n z (.rn S k) o ∧ z ≤ c ∧ Ty o.st ∧ NoV o) (hlk : ∀ S, Ty S → Ty (S.look k e)) :
    ∀ ds : List Ky, (∀ d ∈ ds, Can L n b d) → ∀ S, Ty S → ∃ z o, Run Gk comp L n z (.lk S k e ds) o ∧ z ≤ ds.length * (b + 1) + c ∧ Ty o.st ∧ NoV o
  | [], _, S, t => ⟨0, _, .l_nil, Nat.zero_le _, hlk S t, fun _ _ _ e => nomatch e⟩
  | d :: ds, hc, S, t => by
    obtain ⟨z, o, r, hz, t1, nv⟩ := hc d List.mem_cons_self S t
    have hlen : (d :: ds).length * (b + 1) = ds.length * (b + 1) + (b + 1) := Nat.succ_mul _ _
    cases o with
    | val S' v as => exact absurd rfl (nv S' v as)
    | no S1 => exact ⟨_, _, .l_no r, by omega, t1, fun _ _ _ e => nomatch e⟩
    | ok S1 =>
      obtain ⟨g, hg⟩ := (r.post.2.1 S1 rfl).chg
      by_cases h : e.c < g
      · obtain ⟨z2, o2, r2, hz2, t2, nv2⟩ := hrn S1 t1
        exact ⟨_, _, .l_chg r hg h r2, by omega, t2, nv2⟩
      · obtain ⟨z2, o2, r2, hz2, t2, nv2⟩ := lk_ex hrn hlk ds (fun d hd => hc d (List.mem_cons_of_mem _ hd)) S1 t1
        exact ⟨_, _, .l_go r hg (by omega) r2, by omega, t2, nv2⟩
def Tok (L : List Ky) (n b : Nat) (l : Int) : Nat → Tr Va → Prop
  | _, .ret v => pNd v
  | 0, .ask _ _ _ => False
  | m + 1, .ask d p f => Can L n b d ∧ Dep l d ∧ (∀ S, Ty S → Rdy S d → ∃ v, S.val d = some v ∧ p v) ∧ ∀ v, p v → Tok L n b l m (f v)
theorem addK_mem {as : List Ky} {k x : Ky} (h : x ∈ addK as k) : x ∈ as ∨ x = k := by
  unfold addK at h
  split at h
  · exact .inl h
  · rcases List.mem_append.mp h with h | h
    · exact .inl h
    · exact .inr (List.mem_singleton.mp h)
theorem mem_addK {as : List Ky} {k x : Ky} (h : x ∈ as ∨ x = k) : x ∈ addK as k := by
  unfold addK
  split
  · rename_i c
    rcases h with h | h
    · exact h
    · subst h
      obtain ⟨y, hy, e⟩ := List.any_eq_true.mp c
      rw [← of_decide_eq_true e]
      exact hy
  · rcases h with h | h
    · exact List.mem_append.mpr (.inl h)
    · exact List.mem_append.mpr (.inr (List.mem_singleton.mpr h))
theorem addK_len {as : List Ky} {k : Ky} : (addK as k).length ≤ as.length + 1 := by
  unfold addK
  split
  · omega
  · rw [List.length_append]
    exact Nat.le_refl _
theorem ev_ex {L : List Ky} {n b : Nat} {l : Int} : ∀ (m : Nat) (t : Tr Va), Tok L n b l m t → ∀ S as, Ty S → ∃ z o, Run Gk comp L n z (.ev S t as) o ∧ z ≤ m * (b + 2) ∧ Ty o.st ∧ ∀ S' v as', o = .val S' v as' → pNd v ∧ (∀ d ∈ as', d ∈ as ∨ Dep l d) ∧ as'.length ≤ as.length + m
  | m, .ret v, h, S, as, t => ⟨0, _, .e_ret, Nat.zero_le _, t, fun S' v' as' e => by
      injection e with e1 e2 e3
      subst e2 e3
      exact ⟨by cases m <;> exact h, fun d hd => .inl hd, Nat.le_add_right _ _⟩⟩
  | 0, .ask d p f, h, S, as, t => h.elim
  | m + 1, .ask d p f, h, S, as, t => by
    obtain ⟨hc, hd, hr, hf⟩ := h
    obtain ⟨z, o, r, hz, t1, nv⟩ := hc S t
    have hm : (m + 1) * (b + 2) = m * (b + 2) + (b + 2) := Nat.succ_mul _ _
    cases o with
    | val S' v as => exact absurd rfl (nv S' v as)
    | no S1 => exact ⟨_, _, .e_no r, by omega, t1, fun _ _ _ e => nomatch e⟩
    | ok S1 =>
      obtain ⟨v, hv, hp⟩ := hr S1 t1 (r.post.2.1 S1 rfl)
      obtain ⟨z2, o2, r2, hz2, t2, q2⟩ := ev_ex m (f v) (hf v hp) S1 (addK as d) t1
      refine ⟨_, _, .e_ask r hv hp r2, by omega, t2, fun S' v' as' e => ?_⟩
      obtain ⟨a, bb, c⟩ := q2 S' v' as' e
      refine ⟨a, fun x hx => ?_, by have := addK_len (as := as) (k := d); omega⟩
      rcases bb x hx with h | h
      · rcases addK_mem h with h | h
        · exact .inl h
        · exact .inr (h ▸ hd)
      · exact .inr h
theorem rn_ex {L : List Ky} {n b : Nat} {l s : Int} (hg : Gk (kNd l s)) (ht : Tok L n b l 3 (cT l s)) (S : KS Va) (t : Ty S) : ∃ z o, Run Gk comp L (n + 1) z (.rn S (kNd l s)) o ∧ z ≤ 3 * (b + 2) + 3 ∧ Ty o.st ∧ NoV o := by
  by_cases hl : S.left = some 0
  · exact ⟨1, _, .n_no hl, by omega, t, fun _ _ _ e => nomatch e⟩
  obtain ⟨z, o, r, hz, t1, q⟩ := ev_ex 3 (cT l s) ht S.dec [] t.dec
  cases o with
  | ok S1 => exact absurd rfl (r.post.2 S1)
  | no S1 => exact ⟨_, _, .n_fail hl hg r, by omega, t1, fun _ _ _ e => nomatch e⟩
  | val S1 v as =>
    obtain ⟨a, c, d⟩ := q S1 v as rfl
    have t1 : Ty S1 := t1
    refine ⟨_, _, .n_ok hl hg r, by omega, t1.set (e := ⟨v, as, S1.now, S1.chgOf (kNd l s) v⟩) rfl (fun x hx => ?_) (by simpa using d) a, fun _ _ _ e => nomatch e⟩
    rcases c x hx with h | h
    · exact absurd h (by simp)
    · exact h
def Bb : Nat → Nat
  | 0 => 20
  | l + 1 => 6 * Bb l + 20
def Bp : Nat → Nat
  | 0 => 0
  | l + 1 => Bb l
theorem Bb_eq (l : Nat) : Bb l = 6 * Bp l + 20 := by cases l <;> rfl
theorem mod_lt4 (a : Int) : 0 ≤ a % 4 ∧ a % 4 < 4 := ⟨Int.emod_nonneg _ (by decide), Int.emod_lt_of_pos _ (by decide)⟩
theorem mod_lt6 (a : Int) : 0 ≤ a % 6 ∧ a % 6 < 6 := ⟨Int.emod_nonneg _ (by decide), Int.emod_lt_of_pos _ (by decide)⟩
theorem mod_lt3 (a : Int) : 0 ≤ a % 3 ∧ a % 3 < 3 := ⟨Int.emod_nonneg _ (by decide), Int.emod_lt_of_pos _ (by decide)⟩
theorem can_in {L : List Ky} {n b : Nat} {j : Int} (h0 : 0 ≤ j) (h4 : j < 4) : Can L (n + 1) b (kIn j) := fun S t => by
  obtain ⟨f, r, h, _⟩ := t.inn j h0 h4
  exact ⟨0, _, .b_in h, Nat.zero_le _, t, fun _ _ _ e => nomatch e⟩
theorem tok_E {L : List Ky} {n b m : Nat} {l f r : Int} : Tok L n b l m (tE f r) := by
  have h := mod_lt3 r
  have : pNd (.p (r % 3) (f % 2)) := ⟨_, _, rfl, h.1, by omega⟩
  cases m <;> exact this
theorem tok_cT {L : List Ky} {n b : Nat} {l s : Int} (hs : 0 ≤ s) (hc : l ≠ 0 → 0 < l ∧ ∀ s', 0 ≤ s' → s' < 6 → Can L (n + 1) b (kNd (l - 1) s')) : Tok L (n + 1) b l 3 (cT l s) := by
  have h4 := mod_lt4 s
  refine ⟨can_in h4.1 h4.2, .inl ⟨_, rfl, h4⟩, fun S t _ => t.rdy_in h4.1 h4.2, fun v hv => ?_⟩
  show Tok L (n + 1) b l 2 (if l = 0 then .ret (.p (v.fst % 4) s) else tA l s v.fst)
  by_cases hl : l = 0
  · rw [if_pos hl]
    have := mod_lt4 v.fst
    exact ⟨_, _, rfl, this.1, by omega⟩
  rw [if_neg hl]
  obtain ⟨lp, hc⟩ := hc hl
  have nd : ∀ x : Int, Can L (n + 1) b (kNd (l - 1) (x % 6)) ∧ Dep l (kNd (l - 1) (x % 6)) ∧ (∀ S, Ty S → Rdy S (kNd (l - 1) (x % 6)) → ∃ v, S.val (kNd (l - 1) (x % 6)) = some v ∧ pNd v) := fun x =>
    ⟨hc _ (mod_lt6 x).1 (mod_lt6 x).2, .inr ⟨_, _, rfl, by omega, by omega, mod_lt6 x⟩, fun S t r => t.rdy_nd r⟩
  have tb : ∀ (m : Nat) (f r : Int), Tok L (n + 1) b l (m + 1) (tB l s f r) := fun m f r => by
    unfold tB
    split
    · obtain ⟨a, c, d⟩ := nd (s + 3)
      exact ⟨a, c, d, fun v _ => tok_E⟩
    · exact tok_E
  unfold tA
  split
  · obtain ⟨a, c, d⟩ := nd (s * 7 + v.fst)
    exact ⟨a, c, d, fun w _ => tb 0 _ _⟩
  · exact tb 1 _ _
theorem can_nd : ∀ (l : Nat) (n : Nat) (L : List Ky) (s : Int), l < 4 → l + 2 ≤ n → 0 ≤ s → s < 6 → (∀ l' s', kNd l' s' ∈ L → (l : Int) < l') → Can L n (Bb l) (kNd (l : Int) s)
  | l, 0, _, _, _, h, _, _, _ => by omega
  | l, 1, _, _, _, h, _, _, _ => by omega
  | l, n + 2, L, s, hl, hn, s0, s6, hL => by
    intro S t
    have gk : Gk (kNd (l : Int) s) := ⟨_, _, rfl, by omega, by omega, s0, s6⟩
    by_cases hnow : ∃ e, S.en (kNd (l : Int) s) = some e ∧ e.c = S.now
    · obtain ⟨e, he, hc⟩ := hnow
      exact ⟨0, _, .b_now (t.ind _ _) he hc gk, Nat.zero_le _, t, fun _ _ _ e => nomatch e⟩
    have un : ∀ e, S.en (kNd (l : Int) s) = some e → e.c ≠ S.now := fun e he hc => hnow ⟨e, he, hc⟩
    have notin : kNd (l : Int) s ∉ L := fun z => by
      have := hL _ _ z
      omega
    have sub : ∀ d, Dep l d → Can (kNd (l : Int) s :: L) (n + 2) (Bp l) d := fun d hd => by
      rcases hd with ⟨j, rfl, a, b⟩ | ⟨l', s', rfl, a, b, c, e⟩
      · exact can_in a b
      · obtain ⟨l2, rfl⟩ : ∃ l2 : Nat, l' = (l2 : Int) := ⟨l'.toNat, by omega⟩
        cases l with
        | zero => omega
        | succ l1 =>
          have q := can_nd l2 (n + 2) (kNd ((l1 + 1 : Nat) : Int) s :: L) s' (by omega) (by omega) c e fun l3 s3 h => by
            rcases List.mem_cons.mp h with h | h
            · rw [(kNd_inj h).1]
              exact b
            · have := hL _ _ h
              omega
          intro S t
          obtain ⟨z, o, r, hz, t1, nv⟩ := q S t
          refine ⟨z, o, r, Nat.le_trans hz ?_, t1, nv⟩
          have mono : ∀ a b : Nat, a ≤ b → Bb a ≤ Bb b := fun a b h => by
            induction h with
            | refl => exact Nat.le_refl _
            | step _ ih => exact Nat.le_trans ih (by show _ ≤ 6 * _ + 20; omega)
          exact mono _ _ (by omega)
    have sub1 : ∀ d, Dep l d → Can (kNd (l : Int) s :: L) (n + 1) (Bp l) d := fun d hd => by
      rcases hd with ⟨j, rfl, a, b⟩ | ⟨l', s', rfl, a, b, c, e⟩
      · exact can_in a b
      · obtain ⟨l2, rfl⟩ : ∃ l2 : Nat, l' = (l2 : Int) := ⟨l'.toNat, by omega⟩
        cases l with
        | zero => omega
        | succ l1 =>
          have q := can_nd l2 (n + 1) (kNd ((l1 + 1 : Nat) : Int) s :: L) s' (by omega) (by omega) c e fun l3 s3 h => by
            rcases List.mem_cons.mp h with h | h
            · rw [(kNd_inj h).1]
              exact b
            · have := hL _ _ h
              omega
          intro S t
          obtain ⟨z, o, r, hz, t1, nv⟩ := q S t
          refine ⟨z, o, r, Nat.le_trans hz ?_, t1, nv⟩
          have mono : ∀ a b : Nat, a ≤ b → Bb a ≤ Bb b := fun a b h => by
            induction h with
            | refl => exact Nat.le_refl _
            | step _ ih => exact Nat.le_trans ih (by show _ ≤ 6 * _ + 20; omega)
          exact mono _ _ (by omega)
    have tk : Tok (kNd (l : Int) s :: L) (n + 1) (Bp l) l 3 (cT l s) := tok_cT s0 fun h0 => ⟨by omega, fun s' a b => sub1 _ (.inr ⟨_, _, rfl, by omega, by omega, a, b⟩)⟩
    have rn : ∀ S, Ty S → ∃ z o, Run Gk comp (kNd (l : Int) s :: L) (n + 2) z (.rn S (kNd (l : Int) s)) o ∧ z ≤ 3 * (Bp l + 2) + 3 ∧ Ty o.st ∧ NoV o := fun S t => rn_ex gk tk S t
    have eB := Bb_eq l
    cases he : S.en (kNd (l : Int) s) with
    | none =>
      obtain ⟨z, o, r, hz, t1, nv⟩ := rn S t
      exact ⟨_, o, .b_rs (t.ind _ _) un notin gk (.r_none he r), by omega, t1, nv⟩
    | some e =>
      obtain ⟨⟨l3, s3, e3, hd, hlen⟩, hv⟩ := t.ent _ _ he
      have el := (kNd_inj e3).1
      subst el
      obtain ⟨z, o, r, hz, t1, nv⟩ := lk_ex (b := Bp l) rn (fun S t => t.set (e := ⟨e.v, e.d, S.now, e.g⟩) e3 hd hlen hv) e.d (fun d h => sub d (hd d h)) S t
      have hm : e.d.length * (Bp l + 1) ≤ 3 * (Bp l + 1) := Nat.mul_le_mul_right _ hlen
      exact ⟨_, o, .b_rs (t.ind _ _) un notin gk (.r_old he (un e he) r), by omega, t1, nv⟩

end Sn

namespace Sn
open PySem PySem.Spec PyProof.Rows L2 TL
/-! ### more of the keeper's methods -/
structure NmM (K : PySem.W.Frag) (mg : Str → Option Value) (aF CK CR CC CU CS : Addr) : Prop extends NmK K mg aF CK CR CC where
  sorted : mg "sorted" = none
  c_UnknownKey : mg "UnknownKey" = some (.ref CU)
  c_ServerError : mg "ServerError" = some (.ref CS)
  bU : PySem.W.subIn K (.ref CU) (.type "BaseException") = some true
  tU : PySem.W.typeIn K (.ref CU) = some (.type "type")
  kU : PySem.W.keepIn K (.ref CU) = true
  xU : PySem.W.excIn K CU [.type "ValueError", .type "Exception", .type "BaseException", .type "object"] "ValueError.__new__" = true
  teU : PySem.W.exmOne K (.ref CU) (.ref CU) = some true
  exc : ExcC K CC
  kS : PySem.W.kitOne K (.ref CC) (.ref CS) = some true
section
variable {α : Type} [DecidableEq α] (Vx : Vl α)
def KS.drop (S : KS α) (k : Ky) : KS α := { S with now := S.now + 1, inp := del S.inp k }
def spDrop (CK CR CU aF : Addr) : Sp := fun vs H Q E => ∃ o b A S rn lv av m ni k, vs = [.ref o, .ref b] ∧ Kh Vx CK CR aF H o A S rn lv av m ni ∧ isK H b k ∧ (S.inp k = none → E (.ref CU) none H) ∧
  (S.inp k ≠ none → ∀ H', (∀ c u, H c = some u → c ≠ o → c ≠ A.i → H' c = some u) → Kh Vx CK CR aF H' o A (S.drop k) rn lv av m ni → Q .non H')
def spFall (CK CR aF : Addr) : Sp := fun vs H Q _ => ∃ o A S rn lv av m ni, vs = [.ref o] ∧ Kh Vx CK CR aF H o A S rn lv av m ni ∧
  ∀ H' e', But o H H' → H e' = none → Kh Vx CK CR aF H' o { A with e := e' } { S with en := fun _ => none } rn lv av m ni → Q .non H'
def spRev (CK CR aF : Addr) : Sp := fun vs H Q _ => ∃ o A S rn lv av m ni, vs = [.ref o] ∧ Kh Vx CK CR aF H o A S rn lv av m ni ∧ Q (.int (S.now : Int)) H
def spKept (CK CR aF : Addr) : Sp := fun vs H Q _ => ∃ o A S rn lv av m ni, vs = [.ref o] ∧ Kh Vx CK CR aF H o A S rn lv av m ni ∧
  ∀ (p : Addr) (bs : List Addr) (ks : List Ky), H p = none → Ks H bs ks → ks.Nodup → (∀ k, k ∈ ks ↔ S.en k ≠ none) → Q (.ref p) (upd H p (.lst (bs.map V.ref)))
end
theorem mem_valV {k : Ky} : ∀ {kvs : List (List L2.Key × V)}, k ∈ kvs.map (·.1) ↔ valV kvs k ≠ none
  | [] => ⟨fun h => absurd h (by simp), fun h => absurd rfl h⟩
  | p :: r => by
    by_cases e : p.1 = k
    · rw [valV_pos e]
      exact ⟨fun _ z => (nomatch z), fun _ => by rw [List.map_cons, e]; exact List.mem_cons_self⟩
    · rw [valV_neg e, List.map_cons, List.mem_cons, ← mem_valV]
      exact ⟨fun h => h.resolve_left fun z => e z.symm, .inr⟩
section
variable {α : Type} [DecidableEq α] {Vx : Vl α}
variable {P : Program} {w : World} {K : PySem.W.Frag} {mg : Str → Option Value} {base : Heap} {f : Addr} {fd : FuncData} {CK CR CC CU CS aF : Addr}
abbrev s_K_drop : Stmt := inClass (topS 7) 2
abbrev N_K_drop : List Str := ["self", "key"]
theorem sc_K_drop : FnScope N_K_drop ["self", "key"] (defScope s_K_drop) := ⟨rfl, rfl, rfl, by decide +kernel, rfl, by decide +kernel, by decide +kernel⟩
theorem ok_drop (F : Fun K "drop" "Keeper.drop" s_K_drop f fd) (TM : NmM K mg aF CK CR CC CU CS) : FnOk P w K mg base (L2.CX P w) 1 f fd ["self", "key"] (spDrop Vx CK CR CU aF) := by
  have T := TM.toNmK
  refine F.okX sc_K_drop (fun vs H Q E h => ?_) (fun cdv A outer s H vs Q E hr h => ?_)
  · obtain ⟨o, b, A, S, rn, lv, av, m, ni, k, rfl, _⟩ := h
    rfl
  obtain ⟨o, b, A, S, rn, lv, av, m, ni, k, rfl, kh, hb, qe, q⟩ := h
  refine ⟨_, (pss_cons (ps_if (pt_cmp (pc_dnotin (hu_of hr) (pv 1) (pe_k_inputs T (pv 0)))) (pss_one (ps_raise rfl (takes_of rfl rfl rfl rfl) (pmk_own PySem.F.excBase_ValueError TM.xU TM.c_UnknownKey TM.kU (raises_own TM.bU TM.tU) rfl))) pss_nil)
    (pss_cons (ps_ddelT (hu_of hr) (pe_k_inputs T (pv 0)) (pv 1))
    (pss_one (ps_ka_now T (pv 0) pe_int in_add)))), ?_⟩
  obtain ⟨kvi, hki, _, his⟩ := kh.inp
  have dg := DGet.t hki hb
  refine ⟨_, rfl, _, rfl, o, _, rfl, kh.raw, A.i, _, rfl, dg, _, rfl, ?_⟩
  rcases his k with ⟨h1, h2⟩ | ⟨p, v, a, r, h1, h2, h3, h4⟩
  · rw [h1]
    exact iteT (qe h2)
  · rw [h1]
    refine iteF ?_
    refine ⟨_, rfl, o, _, rfl, kh.raw, _, rfl, A.i, kvi, k, b, _, rfl, hki, rfl, hb, h1, ?_⟩
    have k1 := kh.drop_inp (k := k) hki
    refine ⟨_, rfl, o, _, (S.now : Int), rfl, k1.raw, rfl, fun H1 b1 r1 => ?_⟩
    have k2 : Kh Vx CK CR aF H1 o A (S.drop k) rn lv av m ni := k1.self b1 r1 rfl rfl rfl
    exact q (by rw [h2]; exact fun z => nomatch z) H1 (fun c u e n1 n2 => b1 _ _ n1 (by rw [upd_ne n2]; exact e)) k2
abbrev s_K_forget_all : Stmt := inClass (topS 7) 5
abbrev N_K_forget_all : List Str := ["self"]
theorem sc_K_forget_all : FnScope N_K_forget_all ["self"] (defScope s_K_forget_all) := ⟨rfl, rfl, rfl, by decide +kernel, rfl, by decide +kernel, by decide +kernel⟩
theorem ok_forget_all (F : Fun K "forget_all" "Keeper.forget_all" s_K_forget_all f fd) (TM : NmM K mg aF CK CR CC CU CS) : FnOk P w K mg base CX0 1 f fd ["self"] (spFall Vx CK CR aF) := by
  have T := TM.toNmK
  refine F.ok sc_K_forget_all (fun vs H Q E h => ?_) (fun cdv A outer s H vs Q E hr h => ?_)
  · obtain ⟨o, A, S, rn, lv, av, m, ni, rfl, _⟩ := h
    rfl
  obtain ⟨o, A, S, rn, lv, av, m, ni, rfl, kh, q⟩ := h
  refine ⟨_, (pss_one (ps_k_entries T (pv 0) pe_dnewT)), ?_⟩
  intro d nd
  have s1 := same_new (o := .dT []) nd
  have k1 := kh.same s1
  have hd1 : upd H d (.dT []) d = some (.dT []) := upd_same
  refine ⟨_, rfl, o, _, rfl, k1.raw, fun H' b1 _ r1 => ?_⟩
  obtain ⟨dx, eo⟩ := k1.raw
  have ne : ∀ {b u}, upd H d (.dT []) b = some u → (∀ dx fs, u ≠ .ins CK dx fs) → b ≠ o := fun e n z => by
    rw [z, eo] at e
    injection e with e
    exact n _ _ e.symm
  have ft : FT (upd H d (.dT [])) H' := fun c xs e => b1 _ _ (ne e fun _ _ z => nomatch z) e
  have fd : ∀ d' kvs, upd H d (.dT []) d' = some (.dT kvs) → H' d' = some (.dT kvs) := fun d' kvs e => b1 _ _ (ne e fun _ _ z => nomatch z) e
  have nn : ∀ x, H x ≠ none → x ≠ d := fun x hx z => hx (z ▸ nd)
  obtain ⟨_, ei, _⟩ := kh.inp
  obtain ⟨_, er, _⟩ := kh.run
  have di : A.i ≠ d := nn _ (by rw [ei]; exact fun z => nomatch z)
  have dr : A.r ≠ d := nn _ (by rw [er]; exact fun z => nomatch z)
  exact q H' d ((But.of s1).trans b1) nd ⟨r1, k1.inp.keep ft (fd _), ⟨[], fd _ _ hd1, Nat.zero_le _, fun _ => .inl ⟨rfl, rfl⟩⟩, k1.run.keep (fd _) (Nat.le_refl _), k1.live.keep (fun p dx fs e => b1 _ _ (ne e fun _ _ z => by injection z with z; exact kh.ck z.symm) e), k1.ended.keep ft (fun vs e => b1 _ _ (ne e fun _ _ z => nomatch z) e) (Nat.le_refl _), di, kh.d2, dr.symm, kh.ck⟩
abbrev s_K_revision : Stmt := inClass (topS 7) 6
abbrev N_K_revision : List Str := ["self"]
theorem sc_K_revision : FnScope N_K_revision ["self"] (defScope s_K_revision) := ⟨rfl, rfl, rfl, by decide +kernel, rfl, by decide +kernel, by decide +kernel⟩
theorem ok_revision (F : Fun K "revision" "Keeper.revision" s_K_revision f fd) (TM : NmM K mg aF CK CR CC CU CS) : FnOk P w K mg base CX0 1 f fd ["self"] (spRev Vx CK CR aF) := by
  have T := TM.toNmK
  refine F.ok sc_K_revision (fun vs H Q E h => ?_) (fun cdv A outer s H vs Q E hr h => ?_)
  · obtain ⟨o, A, S, rn, lv, av, m, ni, rfl, _⟩ := h
    rfl
  obtain ⟨o, A, S, rn, lv, av, m, ni, rfl, kh, q⟩ := h
  refine ⟨_, (pss_one (ps_ret (pe_k_now T (pv 0)))), ?_⟩
  exact ⟨_, rfl, o, _, rfl, kh.raw, q⟩
abbrev s_K_kept : Stmt := inClass (topS 7) 8
abbrev N_K_kept : List Str := ["self"]
theorem sc_K_kept : FnScope N_K_kept ["self"] (defScope s_K_kept) := ⟨rfl, rfl, rfl, by decide +kernel, rfl, by decide +kernel, by decide +kernel⟩
theorem ok_kept (F : Fun K "kept" "Keeper.kept" s_K_kept f fd) (TM : NmM K mg aF CK CR CC CU CS) : FnOk P w K mg base CX0 1 f fd ["self"] (spKept Vx CK CR aF) := by
  have T := TM.toNmK
  refine F.ok sc_K_kept (fun vs H Q E h => ?_) (fun cdv A outer s H vs Q E hr h => ?_)
  · obtain ⟨o, A, S, rn, lv, av, m, ni, rfl, _⟩ := h
    rfl
  obtain ⟨o, A, S, rn, lv, av, m, ni, rfl, kh, q⟩ := h
  refine ⟨_, (pss_one (ps_ret (pe_callTy (call_list_dTn rfl) (by rfl) T.list_ (by decide +kernel) (pa_cons (pe_k_entries T (pv 0)) pa_nil)))), ?_⟩
  obtain ⟨kve, he, _, hes⟩ := kh.ent
  refine ⟨_, rfl, o, _, rfl, kh.raw, A.e, kve, rfl, .inl he, fun nd p bs np ik => ?_⟩
  refine q p bs _ np (keys_of ik) nd fun k => ?_
  rw [mem_valV]
  rcases hes k with ⟨h1, h2⟩ | ⟨p, e, h1, h2, _⟩
  · rw [h1, h2]
    exact ⟨fun z => absurd rfl z, fun z => absurd rfl z⟩
  · rw [h1, h2]
    exact ⟨fun _ z => (nomatch z), fun _ z => nomatch z⟩
end

end Sn

namespace Sn
open PySem PySem.Spec PyProof.Rows L2 TL
/-! ### the law's model in the heap -/
structure MAd where
  i : Addr
  k : Addr
  d : Addr
def mdl (A : MAd) (S : KS Va) : List (L2.Key × V) := [(.inr "in", .ref A.i), (.inr "kept", .ref A.k), (.inr "now", .int (S.now : Int)), (.inr "left", lfV S.left), (.inr "done", .ref A.d)]
def enl (v : V) (u : Addr) (e : En Va) : List (L2.Key × V) := [(.inr "value", v), (.inr "used", .ref u), (.inr "checked", .int (e.c : Int)), (.inr "changed", .int (e.g : Int))]
section
variable {A : MAd} {S : KS Va} {v : V} {u : Addr} {e : En Va}
theorem md_in : valV (mdl A S) (.inr "in") = some (.ref A.i) := by kernel_rfl
theorem md_kept : valV (mdl A S) (.inr "kept") = some (.ref A.k) := by kernel_rfl
theorem md_now : valV (mdl A S) (.inr "now") = some (.int (S.now : Int)) := by kernel_rfl
theorem md_left : valV (mdl A S) (.inr "left") = some (lfV S.left) := by kernel_rfl
theorem md_done : valV (mdl A S) (.inr "done") = some (.ref A.d) := by kernel_rfl
theorem md_left' {l : Option Nat} : putK (mdl A S) (.inr "left") (lfV l) = mdl A { S with left := l } := by kernel_rfl
theorem md_now' {n : Nat} : putK (mdl A S) (.inr "now") (.int (n : Int)) = mdl A { S with now := n } := by kernel_rfl
theorem md_done' {d : Addr} : putK (mdl A S) (.inr "done") (.ref d) = mdl { A with d := d } S := by kernel_rfl
theorem md_kept' {k : Addr} : putK (mdl A S) (.inr "kept") (.ref k) = mdl { A with k := k } S := by kernel_rfl
theorem el_value : valV (enl v u e) (.inr "value") = some v := by kernel_rfl
theorem el_used : valV (enl v u e) (.inr "used") = some (.ref u) := by kernel_rfl
theorem el_checked : valV (enl v u e) (.inr "checked") = some (.int (e.c : Int)) := by kernel_rfl
theorem el_changed : valV (enl v u e) (.inr "changed") = some (.int (e.g : Int)) := by kernel_rfl
theorem el_checked' {n : Nat} : putK (enl v u e) (.inr "checked") (.int (n : Int)) = enl v u { e with c := n } := by kernel_rfl
end
/-- an entry of the model -/
def EnM (H : Hp) (A : MAd) (X : List Addr) (p : Addr) (e : En Va) : Prop := ∃ v u bs, H p = some (.dK (enl v u e)) ∧ Va.rp H v e.v ∧ (u ≠ A.d ∧ u ∉ X) ∧ H u = some (.lst (bs.map V.ref)) ∧ Ks H bs e.d
structure Mo (H : Hp) (o : Addr) (A : MAd) (X : List Addr) (S : KS Va) (pe : Ky → Option Addr) (m ni : Nat) : Prop where
  raw : H o = some (.dK (mdl A S))
  inp : InpP vxx H A.i S.inp ni
  kept : RunP H A.k pe m
  en : ∀ k, (pe k = none ∧ S.en k = none) ∨ ∃ p e, pe k = some p ∧ S.en k = some e ∧ EnM H A X p e
  inj : ∀ k k' p, pe k = some p → pe k' = some p → k = k'
  po : ∀ k p, pe k = some p → p ≠ o
  ended : EndP H A.d S.done m
  ik : A.i ≠ A.k
  xl : ∀ x ∈ X, x ≠ A.d ∧ ∃ vs, H x = some (.lst vs)
/-- what an update of the model may change: all but what the protected keys have -/
def FrM (o : Addr) (A : MAd) (pe : Ky → Option Addr) (Pr : Ky → Prop) (H H' : Hp) : Prop := ∀ b u, H b = some u → b ≠ o → b ≠ A.k → b ≠ A.d → (∀ k, pe k = some b → Pr k) → H' b = some u
section
variable {o : Addr} {A : MAd} {X : List Addr} {S S1 : KS Va} {pe pe1 pe2 : Ky → Option Addr} {Pr : Ky → Prop} {H H' H1 H2 : Hp} {m ni m' : Nat}
theorem EnM.keep {p : Addr} {e : En Va} (f : FT H H') (g : ∀ kvs, H p = some (.dK kvs) → H' p = some (.dK kvs)) (l : ∀ b vs, b ≠ A.d → b ∉ X → H b = some (.lst vs) → H' b = some (.lst vs)) : EnM H A X p e → EnM H' A X p e := fun ⟨v, u, bs, h1, h2, h3, h4, h5⟩ =>
  ⟨v, u, bs, g _ h1, vxx.keep f h2, h3, l _ _ h3.1 h3.2 h4, h5.keep f⟩
/-- the model is not touched -/
theorem Mo.keep (M : Mo H o A X S pe m ni) (f : ∀ b u, H b = some u → (b = o ∨ b = A.i ∨ b = A.k ∨ (∃ vs, u = .lst vs) ∨ (∃ xs, u = .tup xs) ∨ ∃ k, pe k = some b) → H' b = some u) : Mo H' o A X S pe m ni := by
  have ft : FT H H' := fun b xs e => f _ _ e (.inr (.inr (.inr (.inr (.inl ⟨_, rfl⟩)))))
  have fl : ∀ b vs, H b = some (.lst vs) → H' b = some (.lst vs) := fun b vs e => f _ _ e (.inr (.inr (.inr (.inl ⟨_, rfl⟩))))
  refine ⟨f _ _ M.raw (.inl rfl), M.inp.keep ft fun _ e => f _ _ e (.inr (.inl rfl)), M.kept.keep (fun _ e => f _ _ e (.inr (.inr (.inl rfl)))) (Nat.le_refl _), fun k => ?_, M.inj, M.po, M.ended.keep ft (fun _ e => fl _ _ e) (Nat.le_refl _), M.ik, fun x hx => ⟨(M.xl x hx).1, let ⟨vs, e⟩ := (M.xl x hx).2; ⟨vs, fl _ _ e⟩⟩⟩
  rcases M.en k with h | ⟨p, e, h1, h2, h3⟩
  · exact .inl h
  · exact .inr ⟨p, e, h1, h2, h3.keep ft (fun _ e => f _ _ e (.inr (.inr (.inr (.inr (.inr ⟨k, h1⟩)))))) fun b vs _ _ e => fl b vs e⟩
theorem Mo.same (M : Mo H o A X S pe m ni) (s : Same H H') : Mo H' o A X S pe m ni := M.keep fun b u e _ => s b u e
theorem Mo.more (M : Mo H o A X S pe m ni) (h : m ≤ m') : Mo H o A X S pe m' ni := ⟨M.raw, M.inp, M.kept.keep (fun _ e => e) h, M.en, M.inj, M.po, M.ended.keep (fun _ _ e => e) (fun _ e => e) h, M.ik, M.xl⟩
theorem Mo.pek (M : Mo H o A X S pe m ni) {k : Ky} {p : Addr} (h : pe k = some p) : ∃ e, S.en k = some e ∧ EnM H A X p e := by
  rcases M.en k with ⟨z, _⟩ | ⟨p', e, h1, h2, h3⟩
  · rw [h] at z
    cases z
  · rw [h] at h1
    cases h1
    exact ⟨e, h2, h3⟩
theorem Mo.pnone (M : Mo H o A X S pe m ni) {k : Ky} : pe k = none ↔ S.en k = none := by
  rcases M.en k with ⟨z, y⟩ | ⟨p', e, h1, h2, h3⟩
  · rw [z, y]
    exact ⟨fun _ => rfl, fun _ => rfl⟩
  · rw [h1, h2]
    exact ⟨fun z => (nomatch z), fun z => (nomatch z)⟩
/-- the limit or so changes -/
theorem Mo.head (M : Mo H o A X S pe m ni) {S' : KS Va} (h1 : S'.inp = S.inp) (h2 : S'.en = S.en) (h3 : S'.done = S.done) : Mo (upd H o (.dK (mdl A S'))) o A X S' pe m ni := by
  have st : ∀ {b u}, H b = some u → (∀ kvs, u ≠ .dK kvs) → upd H o (.dK (mdl A S')) b = some u := fun e n => by
    rw [upd_ne (fun z => by rw [z, M.raw] at e; injection e with e; exact n _ e.symm)]
    exact e
  have ft : FT H (upd H o (.dK (mdl A S'))) := fun _ _ e => st e fun _ z => nomatch z
  have fd : ∀ d kvs, H d = some (.dT kvs) → upd H o (.dK (mdl A S')) d = some (.dT kvs) := fun _ _ e => st e fun _ z => nomatch z
  have fl : ∀ b vs, H b = some (.lst vs) → upd H o (.dK (mdl A S')) b = some (.lst vs) := fun _ _ e => st e fun _ z => nomatch z
  refine ⟨upd_same, h1 ▸ M.inp.keep ft (fd _), M.kept.keep (fd _) (Nat.le_refl _), fun k => ?_, M.inj, M.po, h3 ▸ M.ended.keep ft (fl _) (Nat.le_refl _), M.ik, fun x hx => ⟨(M.xl x hx).1, let ⟨vs, e⟩ := (M.xl x hx).2; ⟨vs, fl _ _ e⟩⟩⟩
  rw [h2]
  rcases M.en k with h | ⟨p, e, h1, h2, h3⟩
  · exact .inl h
  · refine .inr ⟨p, e, h1, h2, h3.keep ft (fun _ e => ?_) fun b vs _ _ e => fl b vs e⟩
    rw [upd_ne (M.po k p h1)]
    exact e
/-- an entry is checked -/
theorem Mo.check (M : Mo H o A X S pe m ni) {k : Ky} {p : Addr} {e : En Va} {v : V} {u : Addr} {n : Nat} (hp : pe k = some p) (he : S.en k = some e) (hv : H p = some (.dK (enl v u e))) : Mo (upd H p (.dK (enl v u { e with c := n }))) o A X { S with en := ups S.en k { e with c := n } } pe m ni := by
  have st : ∀ {b w}, H b = some w → (∀ kvs, w ≠ .dK kvs) → upd H p (.dK (enl v u { e with c := n })) b = some w := fun e' z => by
    rw [upd_ne (fun y => by rw [y, hv] at e'; injection e' with e'; exact z _ e'.symm)]
    exact e'
  have ft : FT H (upd H p (.dK (enl v u { e with c := n }))) := fun _ _ e => st e fun _ z => nomatch z
  have fd : ∀ d kvs, H d = some (.dT kvs) → upd H p (.dK (enl v u { e with c := n })) d = some (.dT kvs) := fun _ _ e => st e fun _ z => nomatch z
  have fl : ∀ b vs, H b = some (.lst vs) → upd H p (.dK (enl v u { e with c := n })) b = some (.lst vs) := fun _ _ e => st e fun _ z => nomatch z
  refine ⟨(upd_ne (M.po k p hp).symm).trans M.raw, M.inp.keep ft (fd _), M.kept.keep (fd _) (Nat.le_refl _), fun k' => ?_, M.inj, M.po, M.ended.keep ft (fl _) (Nat.le_refl _), M.ik, fun x hx => ⟨(M.xl x hx).1, let ⟨vs, e⟩ := (M.xl x hx).2; ⟨vs, fl _ _ e⟩⟩⟩
  show (pe k' = none ∧ ups S.en k { e with c := n } k' = none) ∨ ∃ p' e', pe k' = some p' ∧ ups S.en k { e with c := n } k' = some e' ∧ EnM _ A X p' e'
  by_cases c : k' = k
  · subst c
    obtain ⟨e2, x1, v2, u2, bs, y1, y2, y3, y4, y5⟩ := M.pek hp
    rw [he] at x1
    cases x1
    rw [hv] at y1
    have e1 : v = v2 ∧ u = u2 := by
      injection y1 with y1
      injection y1 with y1
      unfold enl at y1
      injection y1 with a b
      injection b with b _
      injection a with _ a
      injection b with _ b
      injection b with b
      exact ⟨a, b⟩
    obtain ⟨rfl, rfl⟩ := e1
    exact .inr ⟨p, _, hp, ups_at, v, u, bs, upd_same, vxx.keep ft y2, y3, fl _ _ y4, y5.keep ft⟩
  · rw [ups_ne c]
    rcases M.en k' with h | ⟨p', e', h1, h2, h3⟩
    · exact .inl h
    · refine .inr ⟨p', e', h1, h2, h3.keep ft (fun _ e => ?_) fun b vs _ _ e => fl b vs e⟩
      rw [upd_ne (fun z => c (M.inj _ _ _ h1 (by rw [z]; exact hp)))]
      exact e
/-- a new entry is put, and noted as done -/
theorem Mo.put {ul : Addr} (M : Mo H o A (ul :: X) S pe m ni) {k : Ky} {p b : Addr} {v : V} {e : En Va} {kvs : List (List L2.Key × V)} {bs bd : List Addr} (hk : H A.k = some (.dT kvs)) (hb : isK H b k) (hp : H p = some (.dK (enl v ul e))) (np : ∀ k', pe k' ≠ some p) (hpo : p ≠ o) (hv : Va.rp H v e.v) (hux : ul ∉ X) (hul : H ul = some (.lst (bs.map V.ref))) (hks : Ks H bs e.d) (hd : H A.d = some (.lst (bd.map V.ref))) :
    Mo (upd (upd H A.k (.dT (putK kvs k (.ref p)))) A.d (.lst (bd.map V.ref ++ [V.ref b]))) o A X { S with en := ups S.en k e, done := S.done ++ [k] } (ups pe k p) (m + 1) ni := by
  have kd : A.k ≠ A.d := fun z => by rw [z, hd] at hk; cases hk
  have hu : ul ≠ A.d := (M.xl ul List.mem_cons_self).1
  have ne : ∀ {a b u w}, H a = some u → H b = some w → u ≠ w → a ≠ b := fun x y z q => by
    rw [q, y] at x
    injection x with x
    exact z x.symm
  have st : ∀ {b w}, H b = some w → b ≠ A.k → b ≠ A.d → upd (upd H A.k (.dT (putK kvs k (.ref p)))) A.d (.lst (bd.map V.ref ++ [V.ref b])) b = some w := fun e n1 n2 => by
    rw [upd_ne n2, upd_ne n1]
    exact e
  have stg : ∀ {b' w}, H b' = some w → b' ≠ A.k → b' ≠ A.d → upd (upd H A.k (.dT (putK kvs k (.ref p)))) A.d (.lst (bd.map V.ref ++ [V.ref b])) b' = some w := fun e n1 n2 => by
    rw [upd_ne n2, upd_ne n1]
    exact e
  have ft : FT H (upd (upd H A.k (.dT (putK kvs k (.ref p)))) A.d (.lst (bd.map V.ref ++ [V.ref b]))) := fun _ _ e => stg e (ne e hk fun z => nomatch z) (ne e hd fun z => nomatch z)
  have fk : ∀ b' w, H b' = some (.dK w) → upd (upd H A.k (.dT (putK kvs k (.ref p)))) A.d (.lst (bd.map V.ref ++ [V.ref b])) b' = some (.dK w) := fun _ _ e => stg e (ne e hk fun z => nomatch z) (ne e hd fun z => nomatch z)
  have fl : ∀ b' vs, b' ≠ A.d → H b' = some (.lst vs) → upd (upd H A.k (.dT (putK kvs k (.ref p)))) A.d (.lst (bd.map V.ref ++ [V.ref b])) b' = some (.lst vs) := fun _ _ n e => stg e (ne e hk fun z => nomatch z) n
  refine ⟨fk _ _ M.raw, M.inp.keep ft fun _ e => stg e M.ik (ne e hd fun z => nomatch z), ?_, fun k' => ?_, fun k1 k2 q h1 h2 => ?_, fun k1 q h1 => ?_, ?_, M.ik, fun x hx => ?_⟩
  · obtain ⟨k2, a, c, d⟩ := M.kept
    rw [hk] at a
    cases a
    refine ⟨_, (upd_ne kd).trans upd_same, by have := length_putK kvs k (V.ref p); omega, fun j => ?_⟩
    by_cases hj : j = k
    · subst hj
      rw [valV_put, if_pos rfl, ups_at]
      rfl
    · rw [valV_put, if_neg hj, ups_ne hj]
      exact d j
  · show (ups pe k p k' = none ∧ ups S.en k e k' = none) ∨ ∃ p' e', ups pe k p k' = some p' ∧ ups S.en k e k' = some e' ∧ EnM _ A X p' e'
    by_cases c : k' = k
    · subst c
      exact .inr ⟨p, e, ups_at, ups_at, v, ul, bs, fk _ _ hp, vxx.keep ft hv, ⟨hu, hux⟩, fl _ _ hu hul, hks.keep ft⟩
    · rw [ups_ne c, ups_ne c]
      rcases M.en k' with h | ⟨p', e', h1, h2, v', u', bs', y1, y2, y3, y4, y5⟩
      · exact .inl h
      · exact .inr ⟨p', e', h1, h2, v', u', bs', fk _ _ y1, vxx.keep ft y2, ⟨y3.1, fun z => y3.2 (List.mem_cons_of_mem _ z)⟩, fl _ _ y3.1 y4, y5.keep ft⟩
  · by_cases c1 : k1 = k
    · by_cases c2 : k2 = k
      · rw [c1, c2]
      · rw [c1, ups_at] at h1
        rw [ups_ne c2] at h2
        cases h1
        exact absurd h2 (np k2)
    · rw [ups_ne c1] at h1
      by_cases c2 : k2 = k
      · rw [c2, ups_at] at h2
        cases h2
        exact absurd h1 (np k1)
      · rw [ups_ne c2] at h2
        exact M.inj _ _ _ h1 h2
  · by_cases c1 : k1 = k
    · rw [c1, ups_at] at h1
      cases h1
      exact hpo
    · rw [ups_ne c1] at h1
      exact M.po _ _ h1
  · obtain ⟨b2, x1, x2, x3⟩ := M.ended
    have e2 : b2.map V.ref = bd.map V.ref := by
      rw [hd] at x1
      injection x1 with x1
      injection x1 with x1
      exact x1.symm
    refine ⟨b2 ++ [b], by rw [List.map_append, e2]; exact upd_same, by rw [List.length_append, List.length_singleton]; omega, (x3.snoc hb).keep ft⟩
  · obtain ⟨a, vs, c⟩ := M.xl x (List.mem_cons_of_mem _ hx)
    exact ⟨a, vs, fl _ _ a c⟩
/-- a list that an entry will have changes -/
theorem Mo.list {ul : Addr} {vs vs' : List V} (M : Mo H o A (ul :: X) S pe m ni) (h : H ul = some (.lst vs)) : Mo (upd H ul (.lst vs')) o A (ul :: X) S pe m ni := by
  have st : ∀ {b w}, H b = some w → b ≠ ul → upd H ul (.lst vs') b = some w := fun e n => by
    rw [upd_ne n]
    exact e
  have ne : ∀ {a w}, H a = some w → w ≠ .lst vs → a ≠ ul := fun x z q => by
    rw [q, h] at x
    injection x with x
    exact z x.symm
  have ft : FT H (upd H ul (.lst vs')) := fun _ _ e => st e (ne e fun z => nomatch z)
  have fd : ∀ d kvs, H d = some (.dT kvs) → upd H ul (.lst vs') d = some (.dT kvs) := fun _ _ e => st e (ne e fun z => nomatch z)
  have fk : ∀ d kvs, H d = some (.dK kvs) → upd H ul (.lst vs') d = some (.dK kvs) := fun _ _ e => st e (ne e fun z => nomatch z)
  have hu : ul ≠ A.d := (M.xl ul List.mem_cons_self).1
  refine ⟨fk _ _ M.raw, M.inp.keep ft (fd _), M.kept.keep (fd _) (Nat.le_refl _), fun k => ?_, M.inj, M.po, M.ended.keep ft (fun _ e => st e hu.symm) (Nat.le_refl _), M.ik, fun x hx => ⟨(M.xl x hx).1, ?_⟩⟩
  · rcases M.en k with h | ⟨p, e, h1, h2, h3⟩
    · exact .inl h
    · exact .inr ⟨p, e, h1, h2, h3.keep ft (fk _) fun b vs _ n e => st e fun z => n (z ▸ List.mem_cons_self)⟩
  · by_cases c : x = ul
    · rw [c]
      exact ⟨_, upd_same⟩
    · obtain ⟨_, vs2, e⟩ := M.xl x hx
      exact ⟨vs2, st e c⟩
/-- a new list for an entry -/
theorem Mo.newList {ul : Addr} (M : Mo H o A X S pe m ni) (n : H ul = none) : Mo (upd H ul (.lst [])) o A (ul :: X) S pe m ni ∧ ul ∉ X := by
  have M1 := M.same (same_new (o := .lst []) n)
  have nu : ∀ {b w}, H b = some w → b ≠ ul := fun e z => by rw [z, n] at e; cases e
  obtain ⟨bd, hd, _⟩ := M.ended
  refine ⟨⟨M1.raw, M1.inp, M1.kept, fun k => ?_, M1.inj, M1.po, M1.ended, M1.ik, fun x hx => ?_⟩, fun hx => ?_⟩
  · rcases M.en k with h | ⟨p, e, h1, h2, v, u, bs, y1, y2, y3, y4, y5⟩
    · exact .inl h
    · have s := same_new (o := .lst []) n
      exact .inr ⟨p, e, h1, h2, v, u, bs, s _ _ y1, vxx.keep (fun _ _ e => s _ _ e) y2, ⟨y3.1, fun z => (List.mem_cons.mp z).elim (nu y4) y3.2⟩, s _ _ y4, y5.keep fun _ _ e => s _ _ e⟩
  · rcases List.mem_cons.mp hx with rfl | hx
    · exact ⟨(nu hd).symm, _, upd_same⟩
    · exact M1.xl x hx
  · obtain ⟨_, vs, e⟩ := M.xl ul hx
    rw [n] at e
    cases e
theorem Mo.less {ul : Addr} (M : Mo H o A (ul :: X) S pe m ni) : Mo H o A X S pe m ni :=
  ⟨M.raw, M.inp, M.kept, fun k => (M.en k).elim .inl fun ⟨p, e, h1, h2, v, u, bs, y1, y2, y3, y4⟩ => .inr ⟨p, e, h1, h2, v, u, bs, y1, y2, ⟨y3.1, fun z => y3.2 (List.mem_cons_of_mem _ z)⟩, y4⟩, M.inj, M.po, M.ended, M.ik, fun x hx => M.xl x (List.mem_cons_of_mem _ hx)⟩
/-- what an update gives -/
structure MR (o : Addr) (A : MAd) (pe : Ky → Option Addr) (Pr : Ky → Prop) (H H' : Hp) (pe' : Ky → Option Addr) : Prop where
  fr : FrM o A pe Pr H H'
  pp : ∀ k, Pr k → pe' k = pe k
  nw : ∀ k p, pe' k = some p → pe k = some p ∨ H p = none
  dm : ∀ p, H' p = none → H p = none
theorem MR.of (s : Same H H') : MR o A pe Pr H H' pe := ⟨fun b u e _ _ _ _ => s b u e, fun _ _ => rfl, fun _ _ h => .inl h, fun p h => by
    cases z : H p with
    | none => rfl
    | some u =>
      rw [s _ _ z] at h
      cases h⟩
theorem MR.trans (a : MR o A pe Pr H H1 pe1) (b : MR o A pe1 Pr H1 H2 pe2) : MR o A pe Pr H H2 pe2 := by
  refine ⟨fun c u e n1 n2 n3 n4 => b.fr c u (a.fr c u e n1 n2 n3 n4) n1 n2 n3 fun k hk => ?_, fun k hk => (b.pp k hk).trans (a.pp k hk), fun k p h => ?_, fun p h => a.dm p (b.dm p h)⟩
  · rcases a.nw k c hk with z | z
    · exact n4 k z
    · rw [z] at e
      cases e
  · rcases b.nw k p h with z | z
    · exact a.nw k p z
    · exact .inr (a.dm p z)
theorem MR.imp {Pr' : Ky → Prop} (a : MR o A pe Pr H H1 pe1) (h : ∀ k, Pr' k → Pr k) : MR o A pe Pr' H H1 pe1 :=
  ⟨fun c u e n1 n2 n3 n4 => a.fr c u e n1 n2 n3 fun k hk => h k (n4 k hk), fun k hk => a.pp k (h k hk), a.nw, a.dm⟩
theorem MR.keeps (r : MR o A pe Pr H H1 pe1) (M : Mo H o A X S pe m ni) : FT H H1 ∧ (∀ b kvs, H b = some (.dT kvs) → b ≠ A.k → H1 b = some (.dT kvs)) ∧ (∀ b vs, H b = some (.lst vs) → b ≠ A.d → H1 b = some (.lst vs)) ∧ ∀ k p u, Pr k → pe k = some p → H p = some u → H1 p = some u := by
  obtain ⟨_, hk, _⟩ := M.kept
  obtain ⟨_, hd, _⟩ := M.ended
  have ne : ∀ {a b u w}, H a = some u → H b = some w → u ≠ w → a ≠ b := fun x y z q => by
    rw [q, y] at x
    injection x with x
    exact z x.symm
  have ent : ∀ {b u}, H b = some u → (∀ kvs, u ≠ .dK kvs) → ∀ k, pe k = some b → Pr k := fun e n k hk => by
    obtain ⟨_, _, v, u, _, y, _⟩ := M.pek hk
    rw [e] at y
    injection y with y
    exact absurd y (n _)
  refine ⟨fun b xs e => r.fr _ _ e (ne e M.raw fun z => nomatch z) (ne e hk fun z => nomatch z) (ne e hd fun z => nomatch z) (ent e fun _ z => nomatch z), fun b kvs e n => r.fr _ _ e (ne e M.raw fun z => nomatch z) n (ne e hd fun z => nomatch z) (ent e fun _ z => nomatch z), fun b vs e n => r.fr _ _ e (ne e M.raw fun z => nomatch z) (ne e hk fun z => nomatch z) n (ent e fun _ z => nomatch z), fun k p u hp h e => ?_⟩
  obtain ⟨_, _, v, u', _, y, _⟩ := M.pek h
  refine r.fr _ _ e (M.po k p h) (ne y hk fun z => nomatch z) (ne y hd fun z => nomatch z) fun k' h' => ?_
  rw [M.inj _ _ _ h' h]
  exact hp
end

end Sn

namespace Sn
open PySem PySem.Spec PyProof.Rows L2 TL
/-! ### the types of a run -/
def TokS (l : Int) : Nat → Tr Va → Prop
  | _, .ret v => pNd v
  | 0, .ask _ _ _ => False
  | m + 1, .ask d p f => Dep l d ∧ ∀ v, p v → TokS l m (f v)
theorem toks_cT {l s : Int} (h0 : 0 ≤ l) (hs : 0 ≤ s) : TokS l 3 (cT l s) := by
  have h4 := mod_lt4 s
  refine ⟨.inl ⟨_, rfl, h4⟩, fun v hv => ?_⟩
  show TokS l 2 (if l = 0 then .ret (.p (v.fst % 4) s) else tA l s v.fst)
  by_cases hl : l = 0
  · rw [if_pos hl]
    have := mod_lt4 v.fst
    exact ⟨_, _, rfl, this.1, by omega⟩
  rw [if_neg hl]
  have te : ∀ (m : Nat) (f r : Int), TokS l m (tE f r) := fun m f r => by
    have h := mod_lt3 r
    have : pNd (.p (r % 3) (f % 2)) := ⟨_, _, rfl, h.1, by omega⟩
    cases m <;> exact this
  have nd : ∀ x : Int, Dep l (kNd (l - 1) (x % 6)) := fun x => .inr ⟨_, _, rfl, by omega, by omega, mod_lt6 x⟩
  have tb : ∀ (m : Nat) (f r : Int), TokS l (m + 1) (tB l s f r) := fun m f r => by
    unfold tB
    split
    · exact ⟨nd _, fun v _ => te _ _ _⟩
    · exact te _ _ _
  unfold tA
  split
  · exact ⟨nd _, fun w _ => tb 0 _ _⟩
  · exact tb 1 _ _
theorem ev_tok {L : List Ky} {n : Nat} {l : Int} : ∀ (m : Nat) (t : Tr Va), TokS l m t → ∀ {z : Nat} {S S1 : KS Va} {as as' : List Ky} {v : Va}, Run Gk comp L n z (.ev S t as) (.val S1 v as') → pNd v ∧ (∀ d ∈ as', d ∈ as ∨ Dep l d) ∧ as'.length ≤ as.length + m
  | m, .ret v, h, z, S, S1, as, as', v', r => by
    have e := r.ret_inv
    injection e with e1 e2 e3
    subst e2 e3
    exact ⟨by cases m <;> exact h, fun d hd => .inl hd, Nat.le_add_right _ _⟩
  | 0, .ask d p f, h, _, _, _, _, _, _, _ => h.elim
  | m + 1, .ask d p f, h, z, S, S1, as, as', v', r => by
    obtain ⟨z1, o1, _, _, alt⟩ := r.ask_inv
    rcases alt with ⟨S2, v, z2, _, _, pv, _, r2⟩ | ⟨_, _, e⟩
    · obtain ⟨a, b, c⟩ := ev_tok m (f v) (h.2 v pv) r2
      refine ⟨a, fun x hx => ?_, by have := addK_len (as := as) (k := d); omega⟩
      rcases b x hx with y | y
      · rcases addK_mem y with y | y
        · exact .inl y
        · exact .inr (y ▸ h.1)
      · exact .inr y
    · cases e
def Tpost (L : List Ky) : Jg Va → Ot Va → Prop
  | .br S _, o => Ty S → Ty o.st
  | .ev S _ _, o => Ty S → Ty o.st
  | .rs S k _, o => Ty S → k ∈ L → Unc S k → Ty o.st
  | .lk S k e _, o => Ty S → k ∈ L → Unc S k → S.en k = some e → Ty o.st
  | .rn S k, o => Ty S → k ∈ L → Unc S k → Ty o.st
theorem Run.ty {L : List Ky} {n z : Nat} {J : Jg Va} {o : Ot Va} (h : Run Gk comp L n z J o) : Tpost L J o := by
  induction h with
  | b_in a => exact fun t => t
  | b_now a b c g => exact fun t => t
  | b_rs a b c g r ih => exact fun t => ih t List.mem_cons_self b
  | r_now a b => exact fun t hk u => t
  | r_none a r ih => exact fun t hk u => ih t hk u
  | r_old a b r ih => exact fun t hk u => ih t hk u a
  | l_nil =>
    intro t hk u he
    obtain ⟨⟨l, s, e1, e2, e3⟩, e4⟩ := t.ent _ _ he
    exact t.set (e := ⟨_, _, _, _⟩) e1 e2 e3 e4
  | l_no r ih => exact fun t hk u he => ih t
  | @l_chg L n z1 z2 S k e d ds S1 g o r a b r2 ih ih2 =>
    intro t hk u he
    have lat : Lat (· ∈ L) S S1 := r.post.1
    exact ih2 (ih t) hk (u.lat lat hk)
  | @l_go L n z1 z2 S k e d ds S1 g o r a b r2 ih ih2 =>
    intro t hk u he
    have lat : Lat (· ∈ L) S S1 := r.post.1
    exact ih2 (ih t) hk (u.lat lat hk) ((lat.en _ hk).trans he)
  | n_no a => exact fun t hk u => t
  | @n_ok L n z S k S1 v as a gk r ih =>
    intro t hk u
    obtain ⟨l, s, rfl, l0, _, s0, _⟩ := gk
    obtain ⟨x1, x2, x3⟩ := ev_tok 3 (cT l s) (toks_cT l0 s0) r
    have t1 : Ty S1 := ih t.dec
    refine t1.set (e := ⟨v, as, S1.now, S1.chgOf (kNd l s) v⟩) rfl (fun d hd => ?_) (by simpa using x3) x1
    rcases x2 d hd with y | y
    · exact absurd y (by simp)
    · exact y
  | n_fail a gk r ih => exact fun t hk u => ih t.dec
  | e_ret => exact fun t => t
  | e_ask r a _ r2 ih ih2 => exact fun t => ih2 (ih t)
  | e_no r ih => exact fun t => ih t
/-! ### the law's own functions over the model -/
def kyD (k : Ky) : PyData := .tuple (k.map datK)
def Fk (k : Ky) : Prop := (kyD k).canLay0 = true ∧ (kyD k).depth ≤ 1
def LvK (l : Nat) (k : Ky) : Prop := (∃ j : Int, k = kIn j ∧ 0 ≤ j ∧ j < 4 ∧ 0 < l) ∨ ∃ (l' : Nat) (s : Int), k = kNd (l' : Int) s ∧ l' + 1 < l ∧ 0 ≤ s ∧ s < 6
theorem Dep.lv {l l0 : Nat} {d : Ky} (h : Dep (l0 : Int) d) (hl : l0 < l) : LvK l d := by
  rcases h with ⟨j, e, a, b⟩ | ⟨l', s', rfl, a, b, c, e⟩
  · exact .inl ⟨j, e, a, b, by omega⟩
  · exact .inr ⟨l'.toNat, s', by rw [Int.toNat_of_nonneg a], by omega, c, e⟩
theorem no_lv {k : Ky} (h : LvK 0 k) : False := by
  rcases h with ⟨_, _, _, _, h⟩ | ⟨_, _, _, h, _⟩ <;> omega
structure Mp (H : Hp) (o : Addr) (A : MAd) (X : List Addr) (S : KS Va) (pe : Ky → Option Addr) (L : List Ky) (m ni z : Nat) : Prop where
  mo : Mo H o A X S pe m ni
  ty : Ty S
  un : ∀ x ∈ L, Unc S x
  sz : m + 4 * z ≤ 15000000
def MOut (o : Addr) (A : MAd) (X : List Addr) (pe : Ky → Option Addr) (Pr : Ky → Prop) (H : Hp) (S' : KS Va) (m ni : Nat) (P : Hp → Prop) : Prop := ∀ H' pe', MR o A pe Pr H H' pe' → Mo H' o A X S' pe' m ni → P H'
def spUpd (l : Nat) : Sp := fun vs H Q _ => ∃ o b A X S pe m ni k L n z out, vs = [.ref o, .ref b] ∧ Mp H o A X S pe L m ni z ∧ isK H b k ∧ LvK l k ∧ Run Gk comp L n z (.br S k) out ∧
  (∀ S' g, out = .ok S' → S'.chg k = some g → MOut o A X pe (· ∈ L) H S' (m + 4 * z) ni (Q (.int (g : Int)))) ∧ (∀ S', out = .no S' → MOut o A X pe (· ∈ L) H S' (m + 4 * z) ni (Q (.int (-1))))
def spGet (l : Nat) : Sp := fun vs H Q _ => ∃ o b ul A X S pe m ni k as bs L n z out, vs = [.ref o, .ref ul, .ref b] ∧ Mp H o A (ul :: X) S pe L m ni z ∧ isK H b k ∧ LvK l k ∧ H ul = some (.lst (bs.map V.ref)) ∧ Ks H bs as ∧ as.length ≤ 900 ∧ (∀ x ∈ as, Fk x) ∧ Run Gk comp L n z (.br S k) out ∧
  (∀ S' a, out = .ok S' → S'.val k = some a → ∀ bs' : List Addr, MOut o A (ul :: X) pe (· ∈ L) (upd H ul (.lst (bs'.map V.ref))) S' (m + 4 * z) ni (fun H' => H' ul = some (.lst (bs'.map V.ref)) → Ks H' bs' (addK as k) → ∀ v, Va.rp H' v a → Q v H')) ∧ (∀ S', out = .no S' → ∀ bs' : List Addr, MOut o A (ul :: X) pe (· ∈ L) (upd H ul (.lst (bs'.map V.ref))) S' (m + 4 * z) ni (Q .non))
def spVal (lq : Nat) : Sp := fun vs H Q _ => ∃ o b ul A X S pe m ni s L n z out, ∃ l : Nat, vs = [.ref o, .ref ul, .ref b] ∧ Mp H o A (ul :: X) S pe L m ni z ∧ isK H b (kNd (l : Int) s) ∧ l < lq ∧ 0 ≤ s ∧ s < 6 ∧ H ul = some (.lst []) ∧ Run Gk comp L n z (.ev S (cT (l : Int) s) []) out ∧
  (∀ S' a as, out = .val S' a as → ∀ bs' : List Addr, MOut o A (ul :: X) pe (· ∈ L) (upd H ul (.lst (bs'.map V.ref))) S' (m + 4 * z) ni (fun H' => H' ul = some (.lst (bs'.map V.ref)) → Ks H' bs' as → ∀ v, Va.rp H' v a → Q v H')) ∧ (∀ S', out = .no S' → ∀ bs' : List Addr, MOut o A (ul :: X) pe (· ∈ L) (upd H ul (.lst (bs'.map V.ref))) S' (m + 4 * z) ni (Q .non))
def spRen (lq : Nat) : Sp := fun vs H Q _ => ∃ o b ov A X S pe m ni s L n z out, ∃ l : Nat, vs = [.ref o, .ref b, ov] ∧ Mp H o A X S pe L m ni z ∧ isK H b (kNd (l : Int) s) ∧ l < lq ∧ 0 ≤ s ∧ s < 6 ∧ kNd (l : Int) s ∈ L ∧ (ov = .non ∧ pe (kNd (l : Int) s) = none ∨ ∃ p, ov = .ref p ∧ pe (kNd (l : Int) s) = some p) ∧ Run Gk comp L n z (.rn S (kNd (l : Int) s)) out ∧
  (∀ S' e, out = .ok S' → S'.en (kNd (l : Int) s) = some e → MOut o A X pe (fun x => x ∈ L ∧ x ≠ kNd (l : Int) s) H S' (m + 4 * z) ni (Q (.int (e.g : Int)))) ∧ (∀ S', out = .no S' → MOut o A X pe (fun x => x ∈ L ∧ x ≠ kNd (l : Int) s) H S' (m + 4 * z) ni (Q (.int (-1))))

end Sn

/-! For the words of HandS.Deep. -/
namespace Sn
open PySem PySem.Spec PyProof.Rows L2 TL
theorem un65 {k : Nat} {A : Around} (r : Room k A) : A.units + 65 < cLine := by have := r.un; omega
end Sn

namespace Sn
open PySem PySem.Spec PyProof.Rows L2 TL
/-! ### the law's get and value -/
theorem fk_in (j : Int) : Fk (kIn j) := ⟨by show PyData.canLay0 (.tuple [.str "in", .int j]) = true; kernel_rfl, by show PyData.depth (.tuple [.str "in", .int j]) ≤ 1; simp [PyData.depth, PyData.depthAll]⟩
theorem fk_nd (l j : Int) : Fk (kNd l j) := ⟨by show PyData.canLay0 (.tuple [.str "node", .int l, .int j]) = true; kernel_rfl, by show PyData.depth (.tuple [.str "node", .int l, .int j]) ≤ 1; simp [PyData.depth, PyData.depthAll]⟩
theorem LvK.fk {l : Nat} {k : Ky} (h : LvK l k) : Fk k := by
  rcases h with ⟨j, rfl, _⟩ | ⟨l', s, rfl, _⟩
  · exact fk_in _
  · exact fk_nd _ _
theorem Fk.shp {k : Ky} (h : Fk k) : SeqAt.shaped (kyD k) = true := by
  have := h.2
  show (PyData.canLay0 (kyD k) && decide (PyData.depth (kyD k) ≤ 64)) = true
  rw [Bool.and_eq_true]
  exact ⟨h.1, decide_eq_true (by omega)⟩
theorem kyDs {ks : List Ky} (hk : ∀ x ∈ ks, Fk x) : SeqAt.shaped (.list (ks.map kyD)) = true := by
  have h : ∀ ks : List Ky, (∀ x ∈ ks, Fk x) → PyData.canLayAll0 (ks.map kyD) = true ∧ PyData.depthAll (ks.map kyD) ≤ 1 := fun ks => by
    induction ks with
    | nil => simp [PyData.canLayAll0, PyData.depthAll]
    | cons x r ih =>
      intro hk
      have t := hk x List.mem_cons_self
      have i := ih fun y hy => hk y (List.mem_cons_of_mem _ hy)
      have t2 := t.2
      have i2 := i.2
      simp only [List.map_cons, PyData.canLayAll0, PyData.depthAll, t.1, i.1]
      exact ⟨rfl, by omega⟩
  have := h ks hk
  have h2 : PyData.depth (.list (ks.map kyD)) ≤ 64 := by
    simp only [PyData.depth]
    omega
  show (PyData.canLay0 (.list (ks.map kyD)) && decide (PyData.depth (.list (ks.map kyD)) ≤ 64)) = true
  rw [Bool.and_eq_true]
  exact ⟨by simp only [PyData.canLay0]; exact this.1, decide_eq_true h2⟩
theorem Ks.dps {K : PySem.W.Frag} {H : Hp} {bs : List Addr} {ks : List Ky} (h : Ks H bs ks) : DpAll K H (bs.map V.ref) (ks.map kyD) := by
  induction h with
  | nil => exact .nil
  | cons a _ ih => exact .cons (key_dp a) ih
theorem any_kyD (k : Ky) : ∀ ks : List Ky, ((ks.map kyD).any fun z => PyData.eqv z (kyD k)) = ks.any fun x => decide (x = k)
  | [] => rfl
  | x :: r => by
    rw [List.map_cons, List.any_cons, List.any_cons, any_kyD k r]
    show (PyData.eqv (.tuple _) (.tuple _) || _) = _
    rw [eqv_key]
theorem upd_self' {H : Hp} {a : Addr} {u : HO} (h : H a = some u) : upd H a u = H := by
  funext b
  by_cases c : b = a
  · rw [c, upd_same, h]
  · exact upd_ne c
section
variable {o : Addr} {A : MAd} {X : List Addr} {S S1 : KS Va} {pe pe1 pe2 : Ky → Option Addr} {Pr : Ky → Prop} {H H' H1 H2 : Hp} {m ni m' : Nat}
theorem MR.swap {ul : Addr} {x y : HO} (r : MR o A pe Pr (upd H ul x) H1 pe1) : MR o A pe Pr (upd H ul y) (upd H1 ul y) pe1 := by
  have none_ : ∀ {p}, upd H ul x p = none → upd H ul y p = none := fun {p} h => by
    by_cases c : p = ul
    · rw [c, upd_same] at h
      cases h
    · rw [upd_ne c] at h ⊢
      exact h
  refine ⟨fun b u e n1 n2 n3 n4 => ?_, r.pp, fun k p h => ?_, fun p h => ?_⟩
  · by_cases c : b = ul
    · rw [c, upd_same] at e ⊢
      exact e
    · rw [upd_ne c] at e ⊢
      exact r.fr b u (by rw [upd_ne c]; exact e) n1 n2 n3 n4
  · exact (r.nw k p h).imp id none_
  · by_cases c : p = ul
    · rw [c, upd_same] at h
      cases h
    · rw [upd_ne c] at h
      exact none_ (r.dm p h)
theorem Mo.g {k : L2.Key} {x : V} (M : Mo H o A X S pe m ni) (h : valV (mdl A S) k = some x) : DGet H o (kV k) (some x) := h ▸ DGet.k M.raw
theorem gE {p : Addr} {kvs : List (L2.Key × V)} {k : L2.Key} {x : V} (e : H p = some (.dK kvs)) (h : valV kvs k = some x) : DGet H p (kV k) (some x) := h ▸ DGet.k e
theorem Mo.gk {k : Ky} {b p : Addr} (M : Mo H o A X S pe m ni) (hb : isK H b k) (hp : pe k = some p) : DGet H A.k (.ref b) (some (.ref p)) := by
  obtain ⟨kvs, h, _, e⟩ := M.kept
  have := e k
  rw [hp] at this
  have d := DGet.t h hb
  rw [this] at d
  exact d
theorem Mo.gk0 {k : Ky} {b : Addr} (M : Mo H o A X S pe m ni) (hb : isK H b k) (hp : pe k = none) : DGet H A.k (.ref b) none := by
  obtain ⟨kvs, h, _, e⟩ := M.kept
  have := e k
  rw [hp] at this
  have d := DGet.t h hb
  rw [this] at d
  exact d
theorem Mo.gi {k : Ky} {b : Addr} {a : Va} {r : Nat} (M : Mo H o A X S pe m ni) (hb : isK H b k) (hi : S.inp k = some (a, r)) : ∃ p v, DGet H A.i (.ref b) (some (.ref p)) ∧ H p = some (.tup [v, .int (r : Int)]) ∧ Va.rp H v a := by
  obtain ⟨kvs, h, _, e⟩ := M.inp
  rcases e k with ⟨_, z⟩ | ⟨p, v, a', r', y1, y2, y3, y4⟩
  · rw [hi] at z
    cases z
  · rw [hi] at y2
    cases y2
    have d := DGet.t h hb
    rw [y1] at d
    exact ⟨p, v, d, y3, y4⟩
theorem Mo.gi0 {k : Ky} {b : Addr} (M : Mo H o A X S pe m ni) (hb : isK H b k) (hi : S.inp k = none) : DGet H A.i (.ref b) none := by
  obtain ⟨kvs, h, _, e⟩ := M.inp
  rcases e k with ⟨y, z⟩ | ⟨p, v, a', r', y1, y2, y3, y4⟩
  · have d := DGet.t h hb
    rw [y] at d
    exact d
  · rw [hi] at y2
    cases y2
/-- within a computation of the model -/
structure Mc (o : Addr) (A : MAd) (ul : Addr) (X : List Addr) (pe : Ky → Option Addr) (L : List Ky) (ni M : Nat) (H0 H : Hp) (S : KS Va) (pe' : Ky → Option Addr) (m z : Nat) (as : List Ky) (bs : List Addr) (j : Nat) : Prop where
  mr : MR o A pe (· ∈ L) (upd H0 ul (.lst (bs.map V.ref))) H pe'
  mp : Mp H o A (ul :: X) S pe' L m ni z
  ul : H ul = some (.lst (bs.map V.ref))
  ks : Ks H bs as
  fk : ∀ x ∈ as, Fk x
  len : as.length ≤ j
  bd : m + 4 * z ≤ M
theorem Mp.same {L : List Ky} {z : Nat} (M : Mp H o A X S pe L m ni z) (s : Same H H') : Mp H' o A X S pe L m ni z := ⟨M.mo.same s, M.ty, M.un, M.sz⟩
theorem Mc.same {ul : Addr} {L : List Ky} {M z j : Nat} {H0 : Hp} {as : List Ky} {bs : List Addr} (c : Mc o A ul X pe L ni M H0 H S pe1 m z as bs j) (s : Same H H') : Mc o A ul X pe L ni M H0 H' S pe1 m z as bs j :=
  ⟨c.mr.trans (MR.of s), c.mp.same s, s _ _ c.ul, c.ks.keep fun _ _ e => s _ _ e, c.fk, c.len, c.bd⟩
theorem Mc.next {ul : Addr} {L : List Ky} {M n z z1 z2 j : Nat} {H0 : Hp} {as : List Ky} {bs bs' : List Addr} {k : Ky} (c : Mc o A ul X pe L ni M H0 H S pe1 m z as bs j) (hk0 : Fk k) (hz : z1 + z2 + 2 ≤ z) (run1 : Run Gk comp L n z1 (.br S k) (.ok S1)) (mr : MR o A pe1 (· ∈ L) (upd H ul (.lst (bs'.map V.ref))) H' pe2) (mo : Mo H' o A (ul :: X) S1 pe2 (m + 4 * z1) ni) (hu : H' ul = some (.lst (bs'.map V.ref))) (hk : Ks H' bs' (addK as k)) :
    Mc o A ul X pe L ni M H0 H' S1 pe2 (m + 4 * z1) z2 (addK as k) bs' (j + 1) := by
  have bd := c.bd
  have sz := c.mp.sz
  have lat := run1.post.1
  exact ⟨(MR.swap (y := .lst (bs'.map V.ref)) c.mr).trans mr, ⟨mo, run1.ty c.mp.ty, fun x hx => (c.mp.un x hx).lat lat hx, by omega⟩, hu, hk, fun x hx => (addK_mem hx).elim (c.fk x) fun z => z ▸ hk0, Nat.le_trans addK_len (Nat.succ_le_succ c.len), by omega⟩
end
section
variable {P : Program} {w : World} {K : PySem.W.Frag} {mg : Str → Option Value} {base : Heap} {f : Addr} {fd : FuncData} {CK CR CC CU CS aF : Addr}
abbrev s_l_get : Stmt := topS 16
abbrev N_l_get : List Str := ["model", "used", "key"]
theorem sc_l_get : FnScope N_l_get ["model", "used", "key"] (defScope s_l_get) := ⟨rfl, rfl, rfl, by decide +kernel, rfl, by decide +kernel, by decide +kernel⟩
theorem ok_l_get {l L : Nat} (F : Fun K "_law_get" "_law_get" s_l_get f fd) (TM : NmM K mg aF CK CR CC CU CS) (C_law_update : Cal P w K mg base CX0 L "_law_update" (spUpd l)) : FnOk P w K mg base CX0 (L + 1) f fd ["model", "used", "key"] (spGet l) := by
  have T := TM.toNmK
  refine F.ok sc_l_get (fun vs H Q E h => ?_) (fun cdv B outer s H vs Q E hr h => ?_)
  · obtain ⟨o, b, ul, A, X, S, pe, m, ni, k, as, bs, Lv, n, z, out, rfl, _⟩ := h
    rfl
  obtain ⟨o, b, ul, A, X, S, pe, m, ni, k, as, bs, Lv, n, z, out, rfl, mp, hb, lv, hu, hks, hlen, hfk, run, q, qn⟩ := h
  refine ⟨_, (C8.pss_cut (ps_if (pt_cmpR (op_notInD (un65 hr)) (pv 2) (pv 1) (by rfl)) (pss_one (ps_expr (pe_bm PySem.F.plainAttrs_list PySem.F.slot_list_append PySem.F.type_list_append mt_append (pv 1) (pa_cons (pv 2) pa_nil)))) pss_nil)
    (pss_cons (ps_if (pt_cmpR op_lt (pe_c C_law_update hr (by first | decide | omega) pass0 (pa_cons (pv 0) (pa_cons (pv 2) pa_nil))) pe_int (nomark _)) (pss_one (ps_ret pe_non)) pss_nil)
    (pss_cons (ps_if (pt_cmp (pc_din (hu_of hr) (pv 2) (pe_dget (hu_of hr) (pv 0) pe_str (fun _ _ => rfl)))) (pss_one (ps_ret (pe_ix (r := rIxT K) ix_tup (pe_dget (hu_of hr) (pe_dget (hu_of hr) (pv 0) pe_str (fun _ _ => rfl)) (pv 2) (fun _ _ => rfl)) pe_int (fun _ _ => rfl)))) pss_nil)
    (pss_one (ps_ret (pe_dget (hu_of hr) (pe_dget (hu_of hr) (pe_dget (hu_of hr) (pv 0) pe_str (fun _ _ => rfl)) (pv 2) (fun _ _ => rfl)) pe_str (fun _ _ => rfl))))))), ?_⟩
  refine ⟨fun σ H1 => ∃ bs' : List Addr, σ = [some (.ref o), some (.ref ul), some (.ref b)] ∧ H1 = upd H ul (.lst (bs'.map V.ref)) ∧ Ks H1 bs' (addK as k), ?_, ?_⟩
  · refine ⟨_, rfl, _, rfl, kyD k, as.map kyD, key_dp hb, .lst (.inl (.inl hu)) hks.dps, lv.fk.shp, kyDs hfk, ?_⟩
    rw [any_kyD]
    refine ⟨_, rfl, ?_⟩
    by_cases hc : as.any (fun x => decide (x = k)) = true
    · rw [hc]
      exact iteF ⟨bs, rfl, (upd_self' hu).symm, by unfold addK; rw [if_pos hc]; exact hks⟩
    · have e : as.any (fun x => decide (x = k)) = false := by
        cases z : as.any (fun x => decide (x = k)) with
        | true => exact absurd z hc
        | false => rfl
      rw [e]
      refine iteT ⟨_, rfl, .inl ⟨rfl, _, SqL.of hu⟩, _, rfl, ul, _, _, rfl, rfl, hu, by rw [List.length_map, hks.len]; exact Nat.lt_of_le_of_lt hlen (by show 900 < 16777216; decide), bs ++ [b], rfl, by rw [List.map_append]; rfl, ?_⟩
      have ft : FT H (upd H ul (.lst ((bs ++ [b]).map V.ref))) := fun c xs e => by
        rw [upd_ne (fun z => by rw [z, hu] at e; cases e)]
        exact e
      unfold addK
      rw [if_neg hc]
      rw [← show (bs ++ [b]).map V.ref = bs.map V.ref ++ [V.ref b] from List.map_append]
      exact (hks.snoc hb).keep ft
  rintro σ H1 ⟨bs', rfl, rfl, hks'⟩
  have mp1 : Mp (upd H ul (.lst (bs'.map V.ref))) o A (ul :: X) S pe Lv m ni z := ⟨mp.mo.list hu, mp.ty, mp.un, mp.sz⟩
  have hu1 : upd H ul (.lst (bs'.map V.ref)) ul = some (.lst (bs'.map V.ref)) := upd_same
  have ft : FT H (upd H ul (.lst (bs'.map V.ref))) := fun c xs e => by
    rw [upd_ne (fun z => by rw [z, hu] at e; cases e)]
    exact e
  have hb1 := ft _ _ hb
  refine ⟨_, rfl, _, rfl, o, b, A, ul :: X, S, pe, m, ni, k, Lv, n, z, out, rfl, mp1, hb1, lv, run, fun S' g e hg H' pe' mr mo => ?_, fun S' e H' pe' mr mo => ?_⟩
  · obtain ⟨kT, kD, kL, kE⟩ := mr.keeps mp1.mo
    have hu2 := kL _ _ hu1 (mp1.mo.xl ul List.mem_cons_self).1
    have hb2 := kT _ _ hb1
    have hk2 := hks'.keep kT
    subst e
    refine ⟨_, _, rfl, rfl, _, rfl, ?_⟩
    refine iteN (by omega) ?_
    cases hi : S'.inp k with
    | some x =>
      obtain ⟨a, r⟩ := x
      obtain ⟨p, v, dg, hp, hv⟩ := mo.gi hb2 hi
      refine ⟨_, rfl, _, rfl, o, _, rfl, mo.g md_in, A.i, _, rfl, dg, _, rfl, ?_⟩
      refine iteT ⟨_, rfl, o, _, rfl, mo.g md_in, _, rfl, A.i, _, rfl, dg, p, _, _, _, rfl, rfl, .inl (.inl hp), at_nat (i := 0) rfl, ?_⟩
      exact q S' a rfl (by unfold KS.val; rw [hi]) bs' H' pe' mr mo hu2 hk2 v hv
    | none =>
      have dg := mo.gi0 hb2 hi
      refine ⟨_, rfl, _, rfl, o, _, rfl, mo.g md_in, A.i, _, rfl, dg, _, rfl, ?_⟩
      refine iteF ?_
      rcases mo.en k with ⟨_, z⟩ | ⟨p, e, h1, h2, v, u, bu, y1, y2, _⟩
      · unfold KS.chg at hg
        rw [hi, z] at hg
        cases hg
      · refine ⟨_, rfl, o, _, rfl, mo.g md_kept, _, rfl, A.k, _, rfl, mo.gk hb2 h1, p, _, rfl, gE y1 el_value, ?_⟩
        exact q S' e.v rfl (by unfold KS.val; rw [hi, h2]; rfl) bs' H' pe' mr mo hu2 hk2 v y2
  · subst e
    refine ⟨_, _, rfl, rfl, _, rfl, ?_⟩
    exact iteP (by decide) (qn S' rfl bs' H' pe' mr mo)
end

end Sn

namespace Sn
open PySem PySem.Spec PyProof.Rows L2 TL
section
variable {P : Program} {w : World} {K : PySem.W.Frag} {mg : Str → Option Value} {base : Heap} {f : Addr} {fd : FuncData} {CK CR CC CU CS aF : Addr}
abbrev s_l_value : Stmt := topS 17
abbrev N_l_value : List Str := ["model", "used", "key", "word", "level", "seed", "first", "result", "found"]
theorem sc_l_value : FnScope N_l_value ["model", "used", "key"] (defScope s_l_value) := ⟨rfl, rfl, rfl, by decide +kernel, rfl, by decide +kernel, by decide +kernel⟩
theorem ok_l_value {lq L : Nat} (F : Fun K "_law_value" "_law_value" s_l_value f fd) (TM : NmM K mg aF CK CR CC CU CS) (C_law_get : Cal P w K mg base CX0 L "_law_get" (spGet lq)) : FnOk P w K mg base CX0 (L + 1) f fd ["model", "used", "key"] (spVal lq) := by
  have T := TM.toNmK
  refine F.ok sc_l_value (fun vs H Q E h => ?_) (fun cdv B outer s H vs Q E hr h => ?_)
  · obtain ⟨o, b, ul, A, X, S, pe, m, ni, sd, Lv, n, z, out, l, rfl, _⟩ := h
    rfl
  obtain ⟨o, b, ul, A, X, S, pe, m, ni, sd, Lv, n, z, out, l, rfl, mp, hb, hl, s0, s6, hu, run, q, qn⟩ := h
  refine ⟨_, (pss_cons (ps_asg (pv 2) (pg_tup rfl (pgs_cons (pg_name (i := 3) sc_l_value.nd rfl (Or.inl rfl)) (pgs_cons (pg_name (i := 4) sc_l_value.nd rfl (Or.inl rfl)) (pgs_cons (pg_name (i := 5) sc_l_value.nd rfl (Or.inl rfl)) pgs_nil)))))
    (pss_cons (ps_set (i := 6) sc_l_value.nd rfl (Or.inl rfl) (pe_c C_law_get hr (by first | decide | omega) pass0 (pa_cons (pv 0) (pa_cons (pv 1) (pa_cons (pe_tup (pa_cons pe_str (pa_cons (pe_op op_mod (pe_callTy call_int1 (by rfl) T.int_ (by decide +kernel) (pa_cons (pv 5) pa_nil)) pe_int) pa_nil))) pa_nil)))))
    (pss_cons (ps_if (pt_cmpR op_eq (pv 4) pe_int (nomark _)) (pss_one (ps_ret (pe_tup (pa_cons (pe_op op_mod (pe_callTy call_int1 (by rfl) T.int_ (by decide +kernel) (pa_cons (pv 6) pa_nil)) pe_int) (pa_cons (pv 5) pa_nil))))) pss_nil)
    (pss_cons (ps_set (i := 7) sc_l_value.nd rfl (Or.inl rfl) (pe_callTy call_int1 (by rfl) T.int_ (by decide +kernel) (pa_cons (pv 6) pa_nil)))
    (C8.pss_cut (ps_if (pt_cmpR op_gt (pe_op op_mod (pv 6) pe_int) pe_int (nomark _)) (pss_cons (ps_set (i := 8) sc_l_value.nd rfl (Or.inl rfl) (pe_c C_law_get hr (by first | decide | omega) pass0 (pa_cons (pv 0) (pa_cons (pv 1) (pa_cons (pe_tup (pa_cons pe_str (pa_cons (pe_op op_sub (pv 4) pe_int) (pa_cons (pe_op op_mod (pe_op op_add (pe_op op_mul (pv 5) pe_int) (pv 6)) pe_int) pa_nil)))) pa_nil)))))
    (pss_cons (ps_if (pt_cmpR op_isN (pv 8) pe_non (nomark _)) (pss_one (ps_ret pe_non)) pss_nil)
    (pss_one (ps_set (i := 7) sc_l_value.nd rfl (Or.inl rfl) (pe_op op_add (pv 7) (pe_ix (r := rIxT K) ix_tup (pv 8) pe_int (fun _ _ => rfl))))))) pss_nil)
    (C8.pss_cut (ps_if (pt_cmpR op_eq (pe_op op_mod (pv 6) pe_int) pe_int (nomark _)) (pss_cons (ps_set (i := 8) sc_l_value.nd rfl (Or.inl rfl) (pe_c C_law_get hr (by first | decide | omega) pass0 (pa_cons (pv 0) (pa_cons (pv 1) (pa_cons (pe_tup (pa_cons pe_str (pa_cons (pe_op op_sub (pv 4) pe_int) (pa_cons (pe_op op_mod (pe_op op_add (pv 5) pe_int) pe_int) pa_nil)))) pa_nil)))))
    (pss_cons (ps_if (pt_cmpR op_isN (pv 8) pe_non (nomark _)) (pss_one (ps_ret pe_non)) pss_nil)
    (pss_one (ps_set (i := 7) sc_l_value.nd rfl (Or.inl rfl) (pe_op op_add (pv 7) (pe_op op_mul pe_int (pe_ix (r := rIxT K) ix_tup (pv 8) pe_int (fun _ _ => rfl)))))))) pss_nil)
    (pss_one (ps_ret (pe_tup (pa_cons (pe_op op_mod (pe_callTy call_int1 (by rfl) T.int_ (by decide +kernel) (pa_cons (pv 7) pa_nil)) pe_int) (pa_cons (pe_op op_mod (pv 6) pe_int) pa_nil))))))))))), ?_⟩
  have c0 : Mc o A ul X pe Lv ni (m + 4 * z) H H S pe m z [] [] 0 := ⟨by rw [show ([] : List Addr).map V.ref = [] from rfl, upd_self' hu]; exact MR.of fun _ _ e => e, mp, hu, .nil, fun x hx => absurd hx (by simp), Nat.le_refl _, Nat.le_refl _⟩
  have hb' : H b = some (.tup [.str "node", .int (l : Int), .int sd]) := hb
  refine ⟨_, rfl, b, _, rfl, .inl (.inl hb'), rfl, _, _, rfl, _, _, rfl, _, _, rfl, rfl, ?_⟩
  -- nothing
  have err : ∀ {H1 : Hp} {S1 : KS Va} {pe1 : Ky → Option Addr} {m1 z1 j z2 : Nat} {as : List Ky} {bs bs' : List Addr} {S2 : KS Va} {H2 : Hp} {pe2 : Ky → Option Addr}, Mc o A ul X pe Lv ni (m + 4 * z) H H1 S1 pe1 m1 z1 as bs j → z2 + 2 ≤ z1 → out = .no S2 → MR o A pe1 (· ∈ Lv) (upd H1 ul (.lst (bs'.map V.ref))) H2 pe2 → Mo H2 o A (ul :: X) S2 pe2 (m1 + 4 * z2) ni → Q .non H2 := fun {H1 S1 pe1 m1 z1 j z2 as bs bs' S2 H2 pe2} c hz e mr mo =>
    qn _ e bs' _ _ ((MR.swap (y := .lst (bs'.map V.ref)) c.mr).trans mr) (mo.more (by have := c.bd; omega))
  -- how it comes out
  have fin : ∀ {H3 : Hp} {S3 : KS Va} {pe3 : Ky → Option Addr} {m3 z3 j : Nat} {as : List Ky} {bs : List Addr} {x y : Int} {p : Addr}, Mc o A ul X pe Lv ni (m + 4 * z) H H3 S3 pe3 m3 z3 as bs j → out = .val S3 (.p x y) as → H3 p = none → Q (.ref p) (upd H3 p (.tup [.int x, .int y])) := fun {H3 S3 pe3 m3 z3 j as bs x y p} c e np => by
    have cc := c.same (same_new (o := .tup [.int x, .int y]) np)
    exact q _ _ _ e bs _ pe3 cc.mr (cc.mp.mo.more (by have := cc.bd; omega)) cc.ul cc.ks _ ⟨p, rfl, upd_same⟩
  -- the input
  refine ⟨_, rfl, _, rfl, _, rfl, .inl ⟨_, rfl, _, _, rfl, rfl, (show (0 : Int) < 4 by decide), by show 2 ≤ sizeLine; decide, fun bt nt => ?_⟩⟩
  have c1 := c0.same (same_new (o := .tup [.str "in", .int (sd % 4)]) nt)
  have hbt : isK (upd H bt (.tup [.str "in", .int (sd % 4)])) bt (kIn (sd % 4)) := upd_same
  generalize upd H bt (.tup [.str "in", .int (sd % 4)]) = H1 at c1 hbt ⊢
  obtain ⟨z1, o1, hz1, run1, alt⟩ := Run.ask_inv (show Run Gk comp Lv n z (.ev S (.ask (kIn (sd % 4)) pIn fun v => if (l : Int) = 0 then .ret (.p (v.fst % 4) sd) else tA l sd v.fst) []) out from run)
  have m4 := mod_lt4 sd
  have lv1 : LvK lq (kIn (sd % 4)) := .inl ⟨_, rfl, m4.1, m4.2, by omega⟩
  have eo1 : o1 = .ok S := by
    obtain ⟨f0, r0, e, _⟩ := mp.ty.inn (sd % 4) m4.1 m4.2
    exact run1.rdy (.inl ⟨_, e⟩)
  subst eo1
  refine ⟨o, bt, ul, A, X, S, pe, m, ni, _, [], [], Lv, n, z1, _, rfl, ⟨c1.mp.mo, c1.mp.ty, c1.mp.un, by have := c1.mp.sz; omega⟩, hbt, lv1, c1.ul, c1.ks, Nat.zero_le _, c1.fk, run1, fun S2 a e2 ha bs' H2 pe2 mr2 mo2 hu2 hk2 v hv => ?_, fun S2 e2 => nomatch e2⟩
  obtain ⟨z2, hp, hz2, run2⟩ : ∃ z2, pIn a ∧ z1 + z2 + 2 ≤ z ∧ Run Gk comp Lv n z2 (.ev S2 (if (l : Int) = 0 then .ret (.p (a.fst % 4) sd) else tA l sd a.fst) (addK [] (kIn (sd % 4)))) out := by
    rcases alt with ⟨S3, v3, z3, x1, x2, x3, x4, x5⟩ | ⟨S3, x1, x2⟩
    · rw [e2] at x1
      injection x1 with x1
      subst x1
      rw [ha] at x2
      cases x2
      exact ⟨z3, x3, x4, x5⟩
    · cases x1
  rw [e2] at run1
  have c2 := c1.next lv1.fk hz2 run1 mr2 mo2 hu2 hk2
  obtain ⟨fv, rfl, f0, f8⟩ := hp
  have hv : v = .int fv := hv
  subst hv
  have run2 : Run Gk comp Lv n z2 (.ev S2 (if (l : Int) = 0 then .ret (.p (fv % 4) sd) else tA l sd fv) (addK [] (kIn (sd % 4)))) out := run2
  generalize addK [] (kIn (sd % 4)) = as2 at c2 run2
  generalize m + 4 * z1 = m2 at c2
  refine ⟨_, rfl, rfl, _, rfl, ?_⟩
  by_cases hl0 : (l : Int) = 0
  · refine iteP (by rw [hl0]) ?_
    rw [if_pos hl0] at run2
    have e3 := run2.ret_inv
    refine ⟨_, rfl, .inl ⟨_, rfl, _, _, rfl, rfl, (show (0 : Int) < 4 by decide), _, rfl, by show 2 ≤ sizeLine; decide, fun p np => ?_⟩⟩
    exact fin c2 e3 np
  refine iteN (fun z => hl0 (by injection z)) ?_
  rw [if_neg hl0] at run2
  refine ⟨_, rfl, .inl ⟨_, rfl, ?_⟩⟩
  -- one more key
  have more : ∀ {H3 : Hp} {S3 : KS Va} {pe3 : Ky → Option Addr} {m3 z3 j : Nat} {as : List Ky} {bs : List Addr} {g : Int → Tr Va} {s2 : Int} {bt : Addr} {Q' : V → Hp → Prop}, Mc o A ul X pe Lv ni (m + 4 * z) H H3 S3 pe3 m3 z3 as bs j → j ≤ 900 → isK H3 bt (kNd ((l : Int) - 1) (s2 % 6)) → Run Gk comp Lv n z3 (.ev S3 (.ask (kNd ((l : Int) - 1) (s2 % 6)) pNd fun w => g w.fst) as) out →
      (∀ (x y : Int) (q : Addr) H4 S4 pe4 m4 z4 as4 bs4, Mc o A ul X pe Lv ni (m + 4 * z) H H4 S4 pe4 m4 z4 as4 bs4 (j + 1) → Run Gk comp Lv n z4 (.ev S4 (g x) as4) out → H4 q = some (.tup [.int x, .int y]) → Q' (.ref q) H4) → (∀ H4, Q .non H4 → Q' .non H4) → spGet lq [.ref o, .ref ul, .ref bt] H3 Q' E := by
    intro H3 S3 pe3 m3 z3 j as bs g s2 bt Q' c hj hbt run3 q' qn'
    obtain ⟨z1, o1, hz1, run1, alt⟩ := Run.ask_inv run3
    have lv3 : LvK lq (kNd ((l : Int) - 1) (s2 % 6)) := .inr ⟨l - 1, s2 % 6, by congr 1; omega, by omega, mod_lt6 s2⟩
    refine ⟨o, bt, ul, A, X, S3, pe3, m3, ni, _, as, bs, Lv, n, z1, o1, rfl, ⟨c.mp.mo, c.mp.ty, c.mp.un, by have := c.mp.sz; omega⟩, hbt, lv3, c.ul, c.ks, Nat.le_trans c.len hj, c.fk, run1, fun S2 a e2 ha bs' H2 pe2 mr2 mo2 hu2 hk2 v hv => ?_, fun S2 e2 bs' H2 pe2 mr2 mo2 => ?_⟩
    · rcases alt with ⟨S5, v5, z5, x1, x2, x3, x4, x5⟩ | ⟨S5, x1, x2⟩
      · rw [e2] at x1
        injection x1 with x1
        subst x1
        rw [ha] at x2
        cases x2
        subst e2
        obtain ⟨x, y, rfl, _, _⟩ := x3
        obtain ⟨q, rfl, hq⟩ := hv
        exact q' x y q H2 _ _ _ _ _ _ (c.next lv3.fk x4 run1 mr2 mo2 hu2 hk2) x5 hq
      · rw [e2] at x1
        cases x1
    · rcases alt with ⟨S5, v5, z5, x1, _⟩ | ⟨S5, x1, x2⟩
      · rw [e2] at x1
        cases x1
      · rw [e2] at x1
        injection x1 with x1
        subst x1
        exact qn' _ (err c hz1 x2 mr2 mo2)
  refine ⟨fun σ H4 => ∃ (r : Int) (ov : Option V) (S4 : KS Va) (pe4 : Ky → Option Addr) (m4 z4 : Nat) (as4 : List Ky) (bs4 : List Addr), σ = [some (.ref o), some (.ref ul), some (.ref b), some (.str "node"), some (.int (l : Int)), some (.int sd), some (.int fv), some (.int r), ov] ∧ Mc o A ul X pe Lv ni (m + 4 * z) H H4 S4 pe4 m4 z4 as4 bs4 2 ∧ Run Gk comp Lv n z4 (.ev S4 (tB l sd fv r) as4) out, ?_, ?_⟩
  · refine ⟨_, rfl, _, _, rfl, rfl, (show (0 : Int) < 3 by decide), _, _, rfl, rfl, _, rfl, ?_⟩
    by_cases h3 : 0 < fv % 3
    · have e3 : tA (l : Int) sd fv = .ask (kNd ((l : Int) - 1) ((sd * 7 + fv) % 6)) pNd fun w => tB l sd fv (fv + w.fst) := if_pos h3
      rw [e3] at run2
      refine iteP h3 ?_
      refine ⟨_, rfl, _, rfl, _, rfl, _, _, rfl, rfl, _, rfl, _, _, rfl, rfl, .inr ⟨by decide, by decide⟩, _, rfl, _, _, rfl, rfl, _, _, rfl, rfl, (show (0 : Int) < 6 by decide), by show 3 ≤ sizeLine; decide, fun bt nt => ?_⟩
      refine more (g := fun x => tB l sd fv (fv + x)) (c2.same (same_new nt)) (by decide) (bt := bt) upd_same run2 (fun x y q H4 S4 pe4 m4 z4 as4 bs4 c4 run4 hq => ?_) fun H4 hq => ?_
      · refine ⟨_, rfl, rfl, _, rfl, ?_⟩
        refine iteN (fun z => by cases z) ?_
        exact ⟨_, rfl, _, rfl, q, _, _, _, rfl, rfl, .inl (.inl hq), at_nat (i := 0) rfl, _, _, rfl, rfl, _, _, S4, pe4, m4, z4, as4, bs4, rfl, c4, run4⟩
      · exact ⟨_, rfl, rfl, _, rfl, iteP rfl hq⟩
    · have e3 : tA (l : Int) sd fv = tB l sd fv fv := if_neg h3
      rw [e3] at run2
      refine iteN h3 ?_
      exact ⟨_, _, S2, _, _, _, _, _, rfl, ⟨c2.mr, c2.mp, c2.ul, c2.ks, c2.fk, Nat.le_trans c2.len (by decide), c2.bd⟩, run2⟩
  rintro σ H4 ⟨r, ov, S4, pe4, m4', z4, as4, bs4, rfl, c4, run4⟩
  refine ⟨fun σ H5 => ∃ (r : Int) (ov : Option V) (S5 : KS Va) (pe5 : Ky → Option Addr) (m5 z5 : Nat) (as5 : List Ky) (bs5 : List Addr), σ = [some (.ref o), some (.ref ul), some (.ref b), some (.str "node"), some (.int (l : Int)), some (.int sd), some (.int fv), some (.int r), ov] ∧ Mc o A ul X pe Lv ni (m + 4 * z) H H5 S5 pe5 m5 z5 as5 bs5 3 ∧ Run Gk comp Lv n z5 (.ev S5 (tE fv r) as5) out, ?_, ?_⟩
  · refine ⟨_, rfl, _, _, rfl, rfl, (show (0 : Int) < 2 by decide), rfl, _, rfl, ?_⟩
    by_cases h3 : fv % 2 = 0
    · have e3 : tB (l : Int) sd fv r = .ask (kNd ((l : Int) - 1) ((sd + 3) % 6)) pNd fun w => tE fv (r + 2 * w.fst) := if_pos h3
      rw [e3] at run4
      refine iteP (by show V.int (fv % 2) = V.int 0; rw [h3]) ?_
      refine ⟨_, rfl, _, rfl, _, rfl, _, _, rfl, rfl, _, rfl, _, _, rfl, rfl, _, _, rfl, rfl, (show (0 : Int) < 6 by decide), by show 3 ≤ sizeLine; decide, fun bt nt => ?_⟩
      refine more (g := fun x => tE fv (r + 2 * x)) (c4.same (same_new nt)) (by decide) (bt := bt) upd_same run4 (fun x y q H5 S5 pe5 m5 z5 as5 bs5 c5 run5 hq => ?_) fun H4 hq => ?_
      · refine ⟨_, rfl, rfl, _, rfl, ?_⟩
        refine iteN (fun z => by cases z) ?_
        exact ⟨_, rfl, _, rfl, q, _, _, _, rfl, rfl, .inl (.inl hq), at_nat (i := 0) rfl, _, _, rfl, rfl, .inl ⟨by decide, by decide⟩, _, _, rfl, rfl, _, _, S5, pe5, m5, z5, as5, bs5, rfl, c5, run5⟩
      · exact ⟨_, rfl, rfl, _, rfl, iteP rfl hq⟩
    · have e3 : tB (l : Int) sd fv r = tE fv r := if_neg h3
      rw [e3] at run4
      refine iteN (fun z => h3 (by injection z)) ?_
      exact ⟨_, _, S4, _, _, _, _, _, rfl, ⟨c4.mr, c4.mp, c4.ul, c4.ks, c4.fk, Nat.le_trans c4.len (by decide), c4.bd⟩, run4⟩
  rintro σ H5 ⟨r5, ov5, S5, pe5, m5, z5, as5, bs5, rfl, c5, run5⟩
  have e5 := Run.ret_inv (show Run Gk comp Lv n z5 (.ev S5 (.ret (.p (r5 % 3) (fv % 2))) as5) out from run5)
  refine ⟨_, rfl, .inl ⟨_, rfl, _, _, rfl, rfl, (show (0 : Int) < 3 by decide), _, rfl, _, _, rfl, rfl, (show (0 : Int) < 2 by decide), by show 2 ≤ sizeLine; decide, fun p np => ?_⟩⟩
  exact fin c5 e5 np
end

end Sn

namespace Sn
open PySem PySem.Spec PyProof.Rows L2 TL
section
variable {o : Addr} {A : MAd} {X : List Addr} {S S1 : KS Va} {pe pe1 pe2 : Ky → Option Addr} {Pr : Ky → Prop} {H H' H1 H2 : Hp} {m ni m' : Nat}
theorem Mo.p {S' : KS Va} {k : L2.Key} {x : V} (M : Mo H o A X S pe m ni) (h : putK (mdl A S) k x = mdl A S') : DPut H o (kV k) x (upd H o (.dK (mdl A S'))) := h ▸ DPut.k M.raw (by show 5 < sizeLine; decide)
theorem MR.head {u u' : HO} (h : H o = some u) : MR o A pe Pr H (upd H o u') pe := ⟨fun b w e n1 _ _ _ => by rw [upd_ne n1]; exact e, fun _ _ => rfl, fun _ _ h => .inl h, fun p e => by
  by_cases c : p = o
  · rw [c, upd_same] at e
    cases e
  · rw [upd_ne c] at e
    exact e⟩
theorem MR.put {k : Ky} {p : Addr} {u1 u2 u3 : HO} (np : H p = none) (nk : ∀ x, Pr x → x ≠ k) (h1 : A.k ≠ p) (h2 : A.d ≠ p) : MR o A pe Pr H (upd (upd (upd H p u1) A.k u2) A.d u3) (ups pe k p) := by
  refine ⟨fun b w e n1 n2 n3 _ => ?_, fun x hx => ups_ne (nk x hx), fun x q h => ?_, fun q h => ?_⟩
  · rw [upd_ne n3, upd_ne n2, upd_ne (fun z => by rw [z, np] at e; cases e)]
    exact e
  · by_cases c : x = k
    · rw [c, ups_at] at h
      cases h
      exact .inr np
    · rw [ups_ne c] at h
      exact .inl h
  · by_cases c : q = A.d
    · rw [c, upd_same] at h
      cases h
    rw [upd_ne c] at h
    by_cases c : q = A.k
    · rw [c, upd_same] at h
      cases h
    rw [upd_ne c] at h
    by_cases c : q = p
    · rw [c, upd_same] at h
      cases h
    rw [upd_ne c] at h
    exact h
theorem MR.check {k : Ky} {p : Addr} {u u' : HO} (hp : pe k = some p) (hu : H p = some u) (nk : ¬ Pr k) : MR o A pe Pr H (upd H p u') pe := ⟨fun b w e _ _ _ n4 => by rw [upd_ne (fun z => nk (n4 k (hp.trans (congrArg some z.symm))))]; exact e, fun _ _ => rfl, fun _ _ h => .inl h, fun q e => by
  by_cases c : q = p
  · rw [c, upd_same] at e
    cases e
  · rw [upd_ne c] at e
    exact e⟩
end
section
variable {P : Program} {w : World} {K : PySem.W.Frag} {mg : Str → Option Value} {base : Heap} {f : Addr} {fd : FuncData} {CK CR CC CU CS aF : Addr}
theorem iteNP {p A B : Prop} [Decidable p] (hp : p) (h : B) : if (!decide p) = true then A else B := by
  rw [decide_eq_true hp]
  exact iteF h
abbrev s_l_renew : Stmt := topS 19
abbrev N_l_renew : List Str := ["model", "key", "old", "used", "value", "changed"]
theorem sc_l_renew : FnScope N_l_renew ["model", "key", "old"] (defScope s_l_renew) := ⟨rfl, rfl, rfl, by decide +kernel, rfl, by decide +kernel, by decide +kernel⟩
theorem ok_l_renew {lq L : Nat} (F : Fun K "_law_renew" "_law_renew" s_l_renew f fd) (TM : NmM K mg aF CK CR CC CU CS) (C_law_value : Cal P w K mg base CX0 L "_law_value" (spVal lq)) : FnOk P w K mg base CX0 (L + 1) f fd ["model", "key", "old"] (spRen lq) := by
  have T := TM.toNmK
  refine F.ok sc_l_renew (fun vs H Q E h => ?_) (fun cdv B outer s H vs Q E hr h => ?_)
  · obtain ⟨o, b, ov, A, X, S, pe, m, ni, sd, Lv, n, z, out, l, rfl, _⟩ := h
    rfl
  obtain ⟨o, b, ov, A, X, S, pe, m, ni, sd, Lv, n, z, out, l, rfl, mp, hb, hl, s0, s6, hk, hov, run, q, qn⟩ := h
  refine ⟨_, (pss_cons (ps_if (pt_cmpR op_eq (pe_dget (hu_of hr) (pv 0) pe_str (fun _ _ => rfl)) pe_int (nomark _)) (pss_one (ps_ret (pe_un un_neg pe_int))) pss_nil)
    (C8.pss_cut (ps_if (pt_cmpR op_notN (pe_dget (hu_of hr) (pv 0) pe_str (fun _ _ => rfl)) pe_non (nomark _)) (pss_one (ps_dput (hu_of hr) (pv 0) pe_str (pe_op op_sub (pe_dget (hu_of hr) (pv 0) pe_str (fun _ _ => rfl)) pe_int) rfl)) pss_nil)
    (pss_cons (ps_set (i := 3) sc_l_renew.nd rfl (Or.inl rfl) (pe_lst pa_nil))
    (pss_cons (ps_set (i := 4) sc_l_renew.nd rfl (Or.inl rfl) (pe_c C_law_value hr (by first | decide | omega) pass0 (pa_cons (pv 0) (pa_cons (pv 3) (pa_cons (pv 1) pa_nil)))))
    (pss_cons (ps_if (pt_cmpR op_isN (pv 4) pe_non (nomark _)) (pss_one (ps_ret (pe_un un_neg pe_int))) pss_nil)
    (pss_cons (ps_set (i := 5) sc_l_renew.nd rfl (Or.inl rfl) (pe_dget (hu_of hr) (pv 0) pe_str (fun _ _ => rfl)))
    (C8.pss_cut (ps_if (PW.pt (pw_and (pt_cmpR op_notN (pv 2) pe_non (nomark _)) (pw_and1 (pt_cmpR (op_eqD hr.units) (pe_dget (hu_of hr) (pv 2) pe_str (fun _ _ => rfl)) (pv 4) (nomark _))))) (pss_one (ps_set (i := 5) sc_l_renew.nd rfl (Or.inl rfl) (pe_dget (hu_of hr) (pv 2) pe_str (fun _ _ => rfl)))) pss_nil)
    (pss_cons (ps_dput (hu_of hr) (pe_dget (hu_of hr) (pv 0) pe_str (fun _ _ => rfl)) (pv 1) (pe_disp (pps_cons pe_str (pv 4) (pps_cons pe_str (pv 3) (pps_cons pe_str (pe_dget (hu_of hr) (pv 0) pe_str (fun _ _ => rfl)) (pps_cons pe_str (pv 5) pps_nil)))) (by rfl) (by rfl) (fun z => by cases z) (by decide)) rfl)
    (pss_cons (ps_expr (pe_bm PySem.F.plainAttrs_list PySem.F.slot_list_append PySem.F.type_list_append mt_append (pe_dget (hu_of hr) (pv 0) pe_str (fun _ _ => rfl)) (pa_cons (pv 1) pa_nil)))
    (pss_one (ps_ret (pv 5)))))))))))), ?_⟩
  have mo := mp.mo
  have gl := mo.g md_left
  by_cases hz : S.left = some 0
  · have eo : out = .no S := by
      cases run with
      | n_no => rfl
      | n_ok a => exact absurd hz a
      | n_fail a => exact absurd hz a
    rw [hz] at gl
    refine ⟨_, rfl, o, _, rfl, gl, rfl, _, rfl, ?_⟩
    refine iteP rfl ?_
    exact ⟨_, rfl, qn S eo H pe (MR.of fun _ _ e => e) (mo.more (by omega))⟩
  obtain ⟨n', z', out', hn, hz', gk, run', alt⟩ : ∃ n' z' out', n = n' + 1 ∧ z = z' + 3 ∧ Gk (kNd (l : Int) sd) ∧ Run Gk comp Lv n' z' (.ev S.dec (cT (l : Int) sd) []) out' ∧ ((∃ S1 v as, out' = .val S1 v as ∧ out = .ok (S1.keep (kNd (l : Int) sd) v as)) ∨ ∃ S1, out' = .no S1 ∧ out = .no S1) := by
    cases run with
    | n_no a => exact absurd a hz
    | n_ok a g r => exact ⟨_, _, _, rfl, rfl, g, r, .inl ⟨_, _, _, rfl, rfl⟩⟩
    | n_fail a g r => exact ⟨_, _, _, rfl, rfl, g, r, .inr ⟨_, rfl, rfl⟩⟩
  refine ⟨_, rfl, o, _, rfl, gl, ?_⟩
  refine ⟨by cases S.left <;> rfl, _, rfl, ?_⟩
  refine iteN (fun z => hz ?_) ?_
  · cases e : S.left with
    | none =>
      rw [e] at z
      cases z
    | some x =>
      rw [e] at z
      injection z with z
      rw [show x = 0 from Int.ofNat_eq_zero.mp z]
  refine ⟨fun σ H1 => σ = [some (.ref o), some (.ref b), some ov, none, none, none] ∧ H1 = upd H o (.dK (mdl A S.dec)), ?_, ?_⟩
  · refine ⟨_, rfl, o, _, rfl, gl, rfl, _, rfl, ?_⟩
    cases e : S.left with
    | none =>
      refine iteNP rfl ⟨rfl, ?_⟩
      have : mdl A S.dec = mdl A S := by
        unfold mdl KS.dec
        rw [e]
        rfl
      rw [this, upd_self' mo.raw]
    | some x =>
      refine iteNN (fun z => by cases z) ?_
      have h1 : ((x : Int) - 1) = ((x - 1 : Nat) : Int) := by
        have : x ≠ 0 := fun z => hz (by rw [e, z])
        omega
      rw [e] at gl
      have e2 : lfV S.dec.left = .int (((x - 1 : Nat)) : Int) := by
        show lfV (S.left.map fun n => n - 1) = _
        rw [e]
        rfl
      have dp : DPut H o (.str "left") (.int ((x : Int) - 1)) (upd H o (.dK (mdl A S.dec))) := mo.p (k := .inr "left") (S' := S.dec) (by rw [h1, ← e2]; exact md_left')
      exact ⟨_, rfl, o, _, rfl, gl, _, _, rfl, rfl, _, rfl, o, _, rfl, dp, rfl, rfl⟩
  rintro σ H1 ⟨rfl, rfl⟩
  have mo1 : Mo (upd H o (.dK (mdl A S.dec))) o A X S.dec pe m ni := mo.head rfl rfl rfl
  have r1 : MR o A pe (fun x => x ∈ Lv ∧ x ≠ kNd (l : Int) sd) H (upd H o (.dK (mdl A S.dec))) pe := MR.head mo.raw
  have hb1 : isK (upd H o (.dK (mdl A S.dec))) b (kNd (l : Int) sd) := (upd_ne (fun z => by have h := mo.raw; rw [← z] at h; exact nomatch (h.symm.trans hb))).trans hb
  generalize upd H o (.dK (mdl A S.dec)) = H1 at mo1 r1 hb1 ⊢
  refine ⟨by show 0 ≤ sizeLine; decide, fun ul nul => ?_⟩
  obtain ⟨mo2, nX⟩ := mo1.newList nul
  have hu2 : upd H1 ul (.lst []) ul = some (.lst []) := upd_same
  have hb2 := same_new (o := .lst []) nul _ _ hb1
  refine ⟨_, rfl, _, rfl, _, rfl, o, b, ul, A, X, S.dec, pe, m, ni, sd, Lv, n', z', out', l, rfl, ⟨mo2, mp.ty.dec, mp.un, by have := mp.sz; omega⟩, hb2, hl, s0, s6, hu2, run', fun S1 a as e bs' H3 pe3 mr mo3 hu3 hk3 v hv => ?_, fun S1 e bs' H3 pe3 mr mo3 => ?_⟩
  · have eo : out = .ok (S1.keep (kNd (l : Int) sd) a as) := by
      rcases alt with ⟨S9, v9, as9, e1, e2⟩ | ⟨S9, e1, _⟩
      · rw [e] at e1
        cases e1
        exact e2
      · rw [e] at e1
        cases e1
    rw [e] at run'
    obtain ⟨⟨x, y, rfl, _, _⟩, _, _⟩ := ev_tok 3 _ (toks_cT (by omega) s0) run'
    obtain ⟨qv, rfl, hq⟩ := hv
    have hva : Va.rp H3 (.ref qv) (.p x y) := ⟨qv, rfl, hq⟩
    have hpe : pe3 (kNd (l : Int) sd) = pe (kNd (l : Int) sd) := mr.pp _ hk
    obtain ⟨kT, _, _, _⟩ := mr.keeps (mo2.list hu2)
    have hb3 : isK H3 b (kNd (l : Int) sd) := kT _ _ ((upd_ne (fun z => by rw [z, hu2] at hb2; cases hb2)).trans hb2)
    refine ⟨_, rfl, rfl, _, rfl, iteN (fun z => by cases z) ?_⟩
    refine ⟨_, rfl, o, _, rfl, mo3.g md_now, ?_⟩
    refine ⟨fun σ H4 => σ = [some (.ref o), some (.ref b), some ov, some (.ref ul), some (.ref qv), some (.int (S1.chgOf (kNd (l : Int) sd) (.p x y) : Int))] ∧ H4 = H3, ?_, ?_⟩
    · refine ⟨_, rfl, rfl, _, rfl, ?_⟩
      rcases hov with ⟨rfl, hn⟩ | ⟨p, rfl, hp⟩
      · refine iteNP rfl (iteF ⟨?_, rfl⟩)
        have : S1.en (kNd (l : Int) sd) = none := mo3.pnone.mp (hpe.trans hn)
        unfold KS.chgOf
        rw [this]
        rfl
      · refine iteNN (fun z => by cases z) ?_
        obtain ⟨e3, h2, v3, u3, bs3, y1, y2, y3⟩ := mo3.pek (hpe.trans hp)
        refine ⟨_, rfl, p, _, rfl, gE y1 el_value, _, rfl, _, _, vxx.dp y2, vxx.dp (show vxx.rp H3 (.ref qv) (.p x y) from hva), vxx.sh _, vxx.sh _, _, rfl, ?_⟩
        rw [vxx.eq]
        by_cases hc : e3.v = .p x y
        · refine iteP hc ⟨_, rfl, p, _, rfl, gE y1 el_changed, ?_, rfl⟩
          unfold KS.chgOf
          rw [h2]
          dsimp only
          rw [if_pos hc]
          rfl
        · refine iteN hc ⟨?_, rfl⟩
          unfold KS.chgOf
          rw [h2]
          dsimp only
          rw [if_neg hc]
          rfl
    rintro σ H4 ⟨rfl, e4⟩
    subst e4
    -- the new entry
    intro p np
    have sp := same_new (o := .dK []) np
    refine ⟨_, rfl, _, rfl, _, rfl, o, _, rfl, (mo3.same sp).g md_now, _, rfl, upd_same, enl (.ref qv) ul ⟨.p x y, as, S1.now, S1.chgOf (kNd (l : Int) sd) (.p x y)⟩, rfl, (by show 4 ≤ 15; decide), ?_⟩
    rw [upd_upd]
    have em : mergeK [] (enl (.ref qv) ul ⟨.p x y, as, S1.now, S1.chgOf (kNd (l : Int) sd) (.p x y)⟩) = enl (.ref qv) ul ⟨.p x y, as, S1.now, S1.chgOf (kNd (l : Int) sd) (.p x y)⟩ := by kernel_rfl
    rw [em]
    have s4 := same_new (o := .dK (enl (.ref qv) ul ⟨.p x y, as, S1.now, S1.chgOf (kNd (l : Int) sd) (.p x y)⟩)) np
    have mo4 := mo3.same s4
    have hb4 := s4 _ _ hb3
    have sz := mp.sz
    obtain ⟨kvs, hk4, hlen, _⟩ := mo4.kept
    obtain ⟨bd, hd4, hdl, _⟩ := mo4.ended
    have raw5 : upd (upd H4 p (.dK (enl (.ref qv) ul ⟨.p x y, as, S1.now, S1.chgOf (kNd (l : Int) sd) (.p x y)⟩))) A.k (.dT (putK kvs (kNd (l : Int) sd) (.ref p))) o = some (.dK (mdl A S1)) := (upd_ne (fun z => by have h := mo4.raw; rw [z, hk4] at h; cases h)).trans mo4.raw
    have hd5 : upd (upd H4 p (.dK (enl (.ref qv) ul ⟨.p x y, as, S1.now, S1.chgOf (kNd (l : Int) sd) (.p x y)⟩))) A.k (.dT (putK kvs (kNd (l : Int) sd) (.ref p))) A.d = some (.lst (bd.map V.ref)) := (upd_ne (fun z => by rw [z, hk4] at hd4; cases hd4)).trans hd4
    have cs : 15000000 < sizeLine := by show 15000000 < 16777216; decide
    refine ⟨_, rfl, o, _, rfl, mo4.g md_kept, _, rfl, A.k, _, rfl, DPut.t hk4 hb4 (by omega), ?_⟩
    refine ⟨_, rfl, o, _, rfl, gE raw5 md_done, .inl ⟨rfl, _, SqL.of hd5⟩, _, rfl, A.d, _, _, rfl, rfl, hd5, (by rw [List.length_map]; omega), ?_⟩
    refine ⟨_, rfl, ?_⟩
    have fin := mo4.put hk4 hb4 (e := ⟨.p x y, as, S1.now, S1.chgOf (kNd (l : Int) sd) (.p x y)⟩) upd_same (fun k' h => by
      obtain ⟨_, _, _, _, _, y, _⟩ := mo3.pek h
      rw [np] at y
      cases y) (fun z => by have h := mo3.raw; rw [← z, np] at h; cases h) (⟨qv, rfl, s4 _ _ hq⟩) nX (s4 _ _ hu3) (hk3.keep fun _ _ e => s4 _ _ e) hd4
    rw [upd_upd] at mr
    have hm : m + 4 * z' + 1 ≤ m + 4 * z := by omega
    exact q _ _ eo ups_at _ _ (r1.trans ((MR.of (same_new (o := .lst (bs'.map V.ref)) nul)).trans ((mr.imp fun x hx => hx.1).trans (MR.put np (fun x hx => hx.2) (fun z => by have h := hk4; obtain ⟨_, h3, _⟩ := mo3.kept; rw [z, np] at h3; cases h3) (fun z => by obtain ⟨_, h3, _⟩ := mo3.ended; rw [z, np] at h3; cases h3))))) (fin.more hm)
  · have eo : out = .no S1 := by
      rcases alt with ⟨S9, v9, as9, e1, e2⟩ | ⟨S9, e1, e2⟩
      · rw [e] at e1
        cases e1
      · rw [e] at e1
        cases e1
        exact e2
    refine ⟨_, rfl, rfl, _, rfl, iteP rfl ?_⟩
    refine ⟨_, rfl, qn S1 eo H3 pe3 (r1.trans ((MR.of (same_new (o := .lst (bs'.map V.ref)) nul)).trans ?_)) ((mo3.less).more (by omega))⟩
    rw [upd_upd] at mr
    exact mr.imp fun x hx => hx.1
end

end Sn

namespace Sn
open PySem PySem.Spec PyProof.Rows L2 TL
theorem Run.lk_inv {α : Type} [DecidableEq α] {G : Ky → Prop} {comp : Ky → Tr α} {L : List Ky} {n z : Nat} {S : KS α} {k d : Ky} {e : En α} {ds : List Ky} {out : Ot α} (h : Run G comp L n z (.lk S k e (d :: ds)) out) :
    ∃ z1 o1, z1 + 1 ≤ z ∧ Run G comp L n z1 (.br S d) o1 ∧ ((∃ S1, o1 = .no S1 ∧ out = .no S1) ∨ ∃ S1 g z2, o1 = .ok S1 ∧ S1.chg d = some g ∧ z1 + z2 + 1 ≤ z ∧ ((e.c < g ∧ Run G comp L n z2 (.rn S1 k) out) ∨ (g ≤ e.c ∧ Run G comp L n z2 (.lk S1 k e ds) out))) := by
  cases h with
  | l_no a => exact ⟨_, _, Nat.le_refl _, a, .inl ⟨_, rfl, rfl⟩⟩
  | l_chg a b c d => exact ⟨_, _, by omega, a, .inr ⟨_, _, _, rfl, b, Nat.le_refl _, .inl ⟨c, d⟩⟩⟩
  | l_go a b c d => exact ⟨_, _, by omega, a, .inr ⟨_, _, _, rfl, b, Nat.le_refl _, .inr ⟨c, d⟩⟩⟩
theorem Ks.at {H : Hp} {bs : List Addr} {ks : List Ky} (h : Ks H bs ks) : ∀ {i : Nat} {x : V}, (bs.map V.ref)[i]? = some x → ∃ b d, x = .ref b ∧ isK H b d ∧ d ∈ ks ∧ ks.drop i = d :: ks.drop (i + 1) := by
  induction h with
  | nil =>
    intro i x e
    simp at e
  | cons a _ ih =>
    intro i x e
    cases i with
    | zero =>
      simp at e
      exact ⟨_, _, e.symm, a, List.mem_cons_self, rfl⟩
    | succ i =>
      obtain ⟨b, d, x1, x2, x3, x4⟩ := ih (i := i) (x := x) (by simpa using e)
      exact ⟨b, d, x1, x2, List.mem_cons_of_mem _ x3, by simpa using x4⟩
section
variable {P : Program} {w : World} {K : PySem.W.Frag} {mg : Str → Option Value} {base : Heap} {f : Addr} {fd : FuncData} {CK CR CC CU CS aF : Addr}
abbrev s_l_update : Stmt := topS 18
abbrev N_l_update : List Str := ["model", "key", "entry", "used", "changed"]
theorem sc_l_update : FnScope N_l_update ["model", "key"] (defScope s_l_update) := ⟨rfl, rfl, rfl, by decide +kernel, rfl, by decide +kernel, by decide +kernel⟩
theorem ok_l_update {l Lu L : Nat} (hL : Lu ≤ L) (F : Fun K "_law_update" "_law_update" s_l_update f fd) (TM : NmM K mg aF CK CR CC CU CS) (C_law_update : Cal P w K mg base CX0 Lu "_law_update" (spUpd l)) (C_law_renew : Cal P w K mg base CX0 L "_law_renew" (spRen l)) : FnOk P w K mg base CX0 (L + 1) f fd ["model", "key"] (spUpd (l + 1)) := by
  have T := TM.toNmK
  refine F.ok sc_l_update (fun vs H Q E h => ?_) (fun cdv B outer s H vs Q E hr h => ?_)
  · obtain ⟨o, b, A, X, S, pe, m, ni, k, Lv, n, z, out, rfl, _⟩ := h
    rfl
  obtain ⟨o, b, A, X, S, pe, m, ni, k, Lv, n, z, out, rfl, mp, hb, lv, run, q, qn⟩ := h
  refine ⟨_, (pss_cons (ps_if (pt_cmp (pc_din (hu_of hr) (pv 1) (pe_dget (hu_of hr) (pv 0) pe_str (fun _ _ => rfl)))) (pss_one (ps_ret (pe_ix (r := rIxT K) ix_tup (pe_dget (hu_of hr) (pe_dget (hu_of hr) (pv 0) pe_str (fun _ _ => rfl)) (pv 1) (fun _ _ => rfl)) pe_int (fun _ _ => rfl)))) pss_nil)
    (pss_cons (ps_set (i := 2) sc_l_update.nd rfl (Or.inl rfl) (pe_dget1 (hu_of hr) (pe_dget (hu_of hr) (pv 0) pe_str (fun _ _ => rfl)) (pv 1) ⟨rfl, rfl, rfl, rfl⟩))
    (pss_cons (ps_if (PW.pt (pw_and (pt_cmpR op_notN (pv 2) pe_non (nomark _)) (pw_and1 (pt_cmpR op_eq (pe_dget (hu_of hr) (pv 2) pe_str (fun _ _ => rfl)) (pe_dget (hu_of hr) (pv 0) pe_str (fun _ _ => rfl)) (nomark _))))) (pss_one (ps_ret (pe_dget (hu_of hr) (pv 2) pe_str (fun _ _ => rfl)))) pss_nil)
    (pss_cons (ps_if (pt_cmpR op_notN (pv 2) pe_non (nomark _)) (pss_cons (ps_for PassesOwn.never rfl (pi_list (pe_dget (hu_of hr) (pv 2) pe_str (fun _ _ => rfl))) (pg_name (i := 3) sc_l_update.nd rfl (Or.inl rfl)) (pss_cons (ps_set (i := 4) sc_l_update.nd rfl (Or.inl rfl) (pe_c C_law_update hr (by first | decide | omega) pass0 (pa_cons (pv 0) (pa_cons (pv 3) pa_nil))))
    (pss_cons (ps_if (pt_cmpR op_lt (pv 4) pe_int (nomark _)) (pss_one (ps_ret (pe_un un_neg pe_int))) pss_nil)
    (pss_one (ps_if (pt_cmpR op_gt (pv 4) (pe_dget (hu_of hr) (pv 2) pe_str (fun _ _ => rfl)) (nomark _)) (pss_one (ps_ret (pe_c C_law_renew hr (by first | decide | omega) pass0 (pa_cons (pv 0) (pa_cons (pv 1) (pa_cons (pv 2) pa_nil)))))) pss_nil)))))
    (pss_cons (ps_dput (hu_of hr) (pv 2) pe_str (pe_dget (hu_of hr) (pv 0) pe_str (fun _ _ => rfl)) rfl)
    (pss_one (ps_ret (pe_dget (hu_of hr) (pv 2) pe_str (fun _ _ => rfl)))))) pss_nil)
    (pss_one (ps_ret (pe_c C_law_renew hr (by first | decide | omega) pass0 (pa_cons (pv 0) (pa_cons (pv 1) (pa_cons pe_non pa_nil)))))))))), ?_⟩
  have mo := mp.mo
  cases hi : S.inp k with
  | some x =>
    obtain ⟨a, r⟩ := x
    have eo := run.rdy (.inl ⟨_, hi⟩)
    obtain ⟨p, v, dg, hp, hv⟩ := mo.gi hb hi
    refine ⟨_, rfl, _, rfl, o, _, rfl, mo.g md_in, A.i, _, rfl, dg, _, rfl, ?_⟩
    refine iteT ⟨_, rfl, o, _, rfl, mo.g md_in, _, rfl, A.i, _, rfl, dg, p, _, _, _, rfl, rfl, .inl (.inl hp), at_nat (i := 1) rfl, ?_⟩
    exact q S r eo (by unfold KS.chg; rw [hi]) H pe (MR.of fun _ _ e => e) (mo.more (by omega))
  | none =>
    obtain ⟨l', s, rfl, hl', s0, s6⟩ : ∃ (l' : Nat) (s : Int), k = kNd (l' : Int) s ∧ l' < l ∧ 0 ≤ s ∧ s < 6 := by
      rcases lv with ⟨j, rfl, j0, j4, _⟩ | ⟨l', s, e, h1, h2⟩
      · obtain ⟨_, _, e, _⟩ := mp.ty.inn j j0 j4
        rw [hi] at e
        cases e
      · exact ⟨l', s, e, by omega, h2⟩
    have chg : ∀ S' e, out = .ok S' → S'.en (kNd (l' : Int) s) = some e → S'.chg (kNd (l' : Int) s) = some e.g := fun S' e e1 e2 => by
      have h : out.st.inp = S.inp := run.post.1.inp
      rw [e1] at h
      have h : S'.inp = S.inp := h
      unfold KS.chg
      rw [h, hi, e2]
      rfl
    refine ⟨_, rfl, _, rfl, o, _, rfl, mo.g md_in, A.i, _, rfl, mo.gi0 hb hi, _, rfl, ?_⟩
    refine iteF ?_
    have isD : IsD H A.k := by
      obtain ⟨kvs, h, _⟩ := mo.kept
      exact .inr ⟨kvs, .inl h⟩
    have cs := mp.sz
    cases hpe : pe (kNd (l' : Int) s) with
    | none =>
      refine ⟨_, rfl, o, _, rfl, mo.g md_kept, A.k, rfl, isD, _, rfl, _, mo.gk0 hb hpe, ?_⟩
      have hen := mo.pnone.mp hpe
      obtain ⟨z2, hz, x2, x3, run2⟩ : ∃ z2, z2 + 3 ≤ z ∧ Unc S (kNd (l' : Int) s) ∧ kNd (l' : Int) s ∉ Lv ∧ Run Gk comp (kNd (l' : Int) s :: Lv) n z2 (.rn S (kNd (l' : Int) s)) out := by
        cases run with
        | b_in x => rw [hi] at x; cases x
        | b_now _ x => rw [hen] at x; cases x
        | b_rs x1 x2 x3 x4 x5 =>
          cases x5 with
          | r_now x => rw [hen] at x; cases x
          | r_none _ r => exact ⟨_, by omega, x2, x3, r⟩
          | r_old x => rw [hen] at x; cases x
      refine ⟨_, rfl, rfl, _, rfl, ?_⟩
      refine iteNP rfl (iteF ?_)
      refine ⟨_, rfl, rfl, _, rfl, ?_⟩
      refine iteNP rfl ?_
      refine ⟨_, rfl, _, rfl, o, b, .non, A, X, S, pe, m, ni, s, kNd (l' : Int) s :: Lv, n, z2, out, l', rfl, ⟨mo, mp.ty, fun x hx => (List.mem_cons.mp hx).elim (fun z => z ▸ x2) (mp.un x), by omega⟩, hb, hl', s0, s6, List.mem_cons_self, .inl ⟨rfl, hpe⟩, run2, fun S' e e1 e2 H' pe' mr mo' => ?_, fun S' e1 H' pe' mr mo' => ?_⟩
      · exact q S' e.g e1 (chg S' e e1 e2) H' pe' (mr.imp fun x hx => ⟨List.mem_cons_of_mem _ hx, fun z => x3 (z ▸ hx)⟩) (mo'.more (by omega))
      · exact qn S' e1 H' pe' (mr.imp fun x hx => ⟨List.mem_cons_of_mem _ hx, fun z => x3 (z ▸ hx)⟩) (mo'.more (by omega))
    | some p =>
      obtain ⟨e, he, v, u, bs, y1, y2, y3, y4, y5⟩ := mo.pek hpe
      refine ⟨_, rfl, o, _, rfl, mo.g md_kept, A.k, rfl, isD, _, rfl, _, mo.gk hb hpe, ?_⟩
      refine ⟨_, rfl, rfl, _, rfl, ?_⟩
      refine iteNN (fun z => by cases z) ?_
      refine ⟨_, rfl, p, _, rfl, gE y1 el_checked, _, rfl, o, _, rfl, mo.g md_now, rfl, _, rfl, ?_⟩
      by_cases hc : e.c = S.now
      · have eo := run.rdy (.inr ⟨hi, e, he, hc⟩)
        refine iteP (by rw [hc]) ?_
        exact ⟨_, rfl, p, _, rfl, gE y1 el_changed, q S e.g eo (chg S e eo he) H pe (MR.of fun _ _ e => e) (mo.more (by omega))⟩
      refine iteN (fun z => hc (by injection z with z; exact Int.ofNat.inj z)) ?_
      obtain ⟨z2, hz, x2, x3, run2⟩ : ∃ z2, z2 + 3 ≤ z ∧ Unc S (kNd (l' : Int) s) ∧ kNd (l' : Int) s ∉ Lv ∧ Run Gk comp (kNd (l' : Int) s :: Lv) n z2 (.lk S (kNd (l' : Int) s) e (e.d.drop 0)) out := by
        cases run with
        | b_in x => rw [hi] at x; cases x
        | b_now _ x y => rw [he] at x; cases x; exact absurd y hc
        | b_rs x1 x2 x3 x4 x5 =>
          cases x5 with
          | r_now x y => rw [he] at x; cases x; exact absurd y hc
          | r_none x => rw [he] at x; cases x
          | r_old x _ r => rw [he] at x; cases x; exact ⟨_, by omega, x2, x3, r⟩
      refine ⟨_, rfl, rfl, _, rfl, ?_⟩
      refine iteNN (fun z => by cases z) ?_
      have imp : ∀ x, x ∈ Lv → x ∈ kNd (l' : Int) s :: Lv ∧ x ≠ kNd (l' : Int) s := fun x hx => ⟨List.mem_cons_of_mem _ hx, fun z => x3 (z ▸ hx)⟩
      obtain ⟨⟨l3, s3, e3, hdep, _⟩, _⟩ := mp.ty.ent _ _ he
      have el := (kNd_inj e3).1
      subst el
      refine ⟨_, rfl, p, _, rfl, gE y1 el_used, u, rfl, ⟨_, SqL.of y4⟩, for_list (K := K) (a := u) (xs := bs.map V.ref) (fun i σ H1 => ∃ (S1 : KS Va) (pe1 : Ky → Option Addr) (m1 z1 : Nat) (v3 v4 : Option V), σ = [some (.ref o), some (.ref b), some (.ref p), v3, v4] ∧ MR o A pe (· ∈ kNd (l' : Int) s :: Lv) H H1 pe1 ∧ Mp H1 o A X S1 pe1 (kNd (l' : Int) s :: Lv) m1 ni z1 ∧ Run Gk comp (kNd (l' : Int) s :: Lv) n z1 (.lk S1 (kNd (l' : Int) s) e (e.d.drop i)) out ∧ m1 + 4 * z1 ≤ m + 4 * z2 ∧ S1.en (kNd (l' : Int) s) = some e ∧ S1.now = S.now)
        ⟨S, pe, m, z2, none, none, rfl, MR.of fun _ _ e => e, ⟨mo, mp.ty, fun x hx => (List.mem_cons.mp hx).elim (fun z => z ▸ x2) (mp.un x), by omega⟩, run2, Nat.le_refl _, he, rfl⟩ (fun i σ H1 _ ⟨_, _, _, _, _, _, _, mr, _⟩ => SqL.of ((mr.keeps mo).2.2.1 _ _ y4 y3.1)) ?_ ?_⟩
      · rintro i x σ H1 hx ⟨S1, pe1, m1, z1, v3, v4, rfl, mr1, mp1, run1, hz1, he1, hn1⟩
        obtain ⟨kT, kD, kL, kE⟩ := mr1.keeps mo
        have y11 := kE _ _ _ List.mem_cons_self hpe y1
        obtain ⟨bd, d, rfl, hbd, hdm, hdr⟩ := (y5.keep kT).at hx
        rw [hdr] at run1
        obtain ⟨za, o1, hza, runa, alt⟩ := run1.lk_inv
        have szm := mp1.sz
        refine ⟨_, rfl, _, rfl, o, bd, A, X, S1, pe1, m1, ni, d, kNd (l' : Int) s :: Lv, n, za, o1, rfl, ⟨mp1.mo, mp1.ty, mp1.un, by omega⟩, hbd, (hdep d hdm).lv hl', runa, fun S2 g e1 hg H2 pe2 mr2 mo2 => ?_, fun S2 e1 H2 pe2 mr2 mo2 => ?_⟩
        · obtain ⟨g', zb, hg', hzb, alt⟩ : ∃ g' zb, S2.chg d = some g' ∧ za + zb + 1 ≤ z1 ∧ ((e.c < g' ∧ Run Gk comp (kNd (l' : Int) s :: Lv) n zb (.rn S2 (kNd (l' : Int) s)) out) ∨ (g' ≤ e.c ∧ Run Gk comp (kNd (l' : Int) s :: Lv) n zb (.lk S2 (kNd (l' : Int) s) e (e.d.drop (i + 1))) out)) := by
            rcases alt with ⟨S9, x1, _⟩ | ⟨S9, g9, z9, x1, x2, x3, x4⟩
            · rw [e1] at x1
              cases x1
            · rw [e1] at x1
              cases x1
              exact ⟨g9, z9, x2, x3, x4⟩
          rw [hg] at hg'
          cases hg'
          rw [e1] at runa
          have lat : Lat (· ∈ kNd (l' : Int) s :: Lv) S1 S2 := runa.post.1
          have en2 : S2.en (kNd (l' : Int) s) = some e := (lat.en _ List.mem_cons_self).trans he1
          have mp2 : Mp H2 o A X S2 pe2 (kNd (l' : Int) s :: Lv) (m1 + 4 * za) ni zb := ⟨mo2, runa.ty mp1.ty, fun x hx => (mp1.un x hx).lat lat hx, by omega⟩
          have mrt := mr1.trans mr2
          have hp2 : pe2 (kNd (l' : Int) s) = some p := (mrt.pp _ List.mem_cons_self).trans hpe
          obtain ⟨kT2, _, _, kE2⟩ := mrt.keeps mo
          have y12 := kE2 _ _ _ List.mem_cons_self hpe y1
          have hb2 := kT2 _ _ hb
          refine ⟨_, rfl, _, _, rfl, rfl, _, rfl, ?_⟩
          refine iteN (by omega) ?_
          refine ⟨_, rfl, _, rfl, p, _, rfl, gE y12 el_checked, _, _, rfl, rfl, _, rfl, ?_⟩
          rcases alt with ⟨hlt, runb⟩ | ⟨hle, runb⟩
          · refine iteP (by omega) ?_
            refine ⟨_, rfl, _, rfl, _, rfl, o, b, .ref p, A, X, S2, pe2, m1 + 4 * za, ni, s, kNd (l' : Int) s :: Lv, n, zb, out, l', rfl, mp2, hb2, hl', s0, s6, List.mem_cons_self, .inr ⟨p, rfl, hp2⟩, runb, fun S' e' e1 e2 H' pe' mr mo' => ?_, fun S' e1 H' pe' mr mo' => ?_⟩
            · exact q S' e'.g e1 (chg S' e' e1 e2) H' pe' ((mrt.imp fun x hx => (imp x hx).1).trans (mr.imp imp)) (mo'.more (by omega))
            · exact qn S' e1 H' pe' ((mrt.imp fun x hx => (imp x hx).1).trans (mr.imp imp)) (mo'.more (by omega))
          · refine iteN (by omega) ?_
            exact ⟨S2, pe2, _, zb, _, _, rfl, mrt, mp2, runb, by omega, en2, lat.now.trans hn1⟩
        · have eo : out = .no S2 := by
            rcases alt with ⟨S9, x1, x2⟩ | ⟨S9, g9, z9, x1, _⟩
            · rw [e1] at x1
              cases x1
              exact x2
            · rw [e1] at x1
              cases x1
          refine ⟨_, rfl, _, _, rfl, rfl, _, rfl, ?_⟩
          refine iteP (by decide) ?_
          exact ⟨_, rfl, qn S2 eo H2 pe2 ((mr1.trans mr2).imp fun x hx => (imp x hx).1) (mo2.more (by omega))⟩
      · rintro σ H1 ⟨S1, pe1, m1, z1, v3, v4, rfl, mr1, mp1, run1, hz1, he1, hn1⟩
        rw [List.length_map, y5.len, List.drop_length] at run1
        have eo : out = .ok (S1.look (kNd (l' : Int) s) e) := by
          cases run1
          rfl
        obtain ⟨kT, kD, kL, kE⟩ := mr1.keeps mo
        have y11 := kE _ _ _ List.mem_cons_self hpe y1
        have hp1 : pe1 (kNd (l' : Int) s) = some p := (mr1.pp _ List.mem_cons_self).trans hpe
        have dp : DPut H1 p (.str "checked") (.int (S1.now : Int)) (upd H1 p (.dK (enl v u { e with c := S1.now }))) := el_checked' (v := v) (u := u) (e := e) ▸ DPut.k (k := .inr "checked") y11 (by show 4 < sizeLine; decide)
        refine ⟨_, rfl, o, _, rfl, mp1.mo.g md_now, _, rfl, p, _, rfl, dp, ?_⟩
        refine ⟨_, rfl, p, _, rfl, gE upd_same el_changed, ?_⟩
        exact q (S1.look (kNd (l' : Int) s) e) e.g eo (chg _ ⟨e.v, e.d, S1.now, e.g⟩ eo ups_at) _ pe1 ((mr1.imp fun x hx => (imp x hx).1).trans (MR.check hp1 y11 x3)) ((mp1.mo.check hp1 he1 y11).more (by omega))
end

end Sn

namespace Sn
open PySem PySem.Spec PyProof.Rows L2 TL
/-! ### what else a run keeps; the model changes from without -/
def Ge (S : KS Va) : Prop := (∀ k e, S.en k = some e → Gk k) ∧ ∀ k ∈ S.done, Gk k
def Io (S : KS Va) : Prop := ∀ k x, S.inp k = some x → ∃ j : Int, k = kIn j ∧ 0 ≤ j ∧ j < 4
theorem Ge.set {S : KS Va} (t : Ge S) {k : Ky} {e : En Va} {dn : List Ky} (hk : Gk k) (hd : ∀ x ∈ dn, x ∈ S.done ∨ x = k) : Ge { S with en := ups S.en k e, done := dn } := ⟨fun k' e' h => by
  have h : ups S.en k e k' = some e' := h
  by_cases c : k' = k
  · exact c ▸ hk
  · rw [ups_ne c] at h
    exact t.1 k' e' h, fun x hx => by
  rcases hd x hx with z | z
  · exact t.2 x z
  · exact z ▸ hk⟩
def Gpost : Jg Va → Ot Va → Prop
  | .br S _, o => Ge S → Ge o.st
  | .ev S _ _, o => Ge S → Ge o.st
  | .rs S k _, o => Ge S → Gk k → Ge o.st
  | .lk S k _ _, o => Ge S → Gk k → Ge o.st
  | .rn S k, o => Ge S → Gk k → Ge o.st
theorem Run.ge {L : List Ky} {n z : Nat} {J : Jg Va} {o : Ot Va} (h : Run Gk comp L n z J o) : Gpost J o := by
  induction h with
  | b_in a => exact fun t => t
  | b_now a b c g => exact fun t => t
  | b_rs a b c g r ih => exact fun t => ih t g
  | r_now a b => exact fun t g => t
  | r_none a r ih => exact fun t g => ih t g
  | r_old a b r ih => exact fun t g => ih t g
  | @l_nil L n S k e => exact fun t g => Ge.set (e := ⟨e.v, e.d, S.now, e.g⟩) (dn := S.done) t g fun x h => .inl h
  | l_no r ih => exact fun t g => ih t
  | l_chg r a b r2 ih ih2 => exact fun t g => ih2 (ih t) g
  | l_go r a b r2 ih ih2 => exact fun t g => ih2 (ih t) g
  | n_no a => exact fun t g => t
  | @n_ok L n z S k S1 v as a gk r ih =>
    intro t g
    have t1 : Ge S1 := ih t
    exact t1.set (e := ⟨v, as, S1.now, S1.chgOf k v⟩) (dn := S1.done ++ [k]) g fun x h => (List.mem_append.mp h).imp id List.mem_singleton.mp
  | n_fail a gk r ih => exact fun t g => ih t
  | e_ret => exact fun t => t
  | e_ask r a _ r2 ih ih2 => exact fun t => ih2 (ih t)
  | e_no r ih => exact fun t => ih t
structure Iv (S : KS Va) : Prop where
  ty : Ty S
  ge : Ge S
  io : Io S
section
variable {o : Addr} {A : MAd} {X : List Addr} {S S1 : KS Va} {pe pe1 pe2 : Ky → Option Addr} {Pr : Ky → Prop} {H H' H1 H2 : Hp} {m ni m' : Nat}
theorem Mo.wider {n' : Nat} (M : Mo H o A X S pe m ni) (h : ni ≤ n') : Mo H o A X S pe m n' := by
  obtain ⟨kv, a, b, c⟩ := M.inp
  exact ⟨M.raw, ⟨kv, a, Nat.le_trans b h, c⟩, M.kept, M.en, M.inj, M.po, M.ended, M.ik, M.xl⟩
theorem Mo.keepX {X' : List Addr} (M : Mo H o A X S pe m ni) (f : ∀ b u, H b = some u → (b = o ∨ b = A.i ∨ b = A.k ∨ ((∃ vs, u = .lst vs) ∧ b ∉ X) ∨ (∃ xs, u = .tup xs) ∨ ∃ k, pe k = some b) → H' b = some u) (hx : ∀ b vs, H b = some (.lst vs) → b ∉ X → b ∉ X') (hx' : ∀ x ∈ X', x ≠ A.d ∧ ∃ vs, H' x = some (.lst vs)) : Mo H' o A X' S pe m ni := by
  have ft : FT H H' := fun b xs e => f _ _ e (.inr (.inr (.inr (.inr (.inl ⟨_, rfl⟩)))))
  have fl : ∀ b vs, b ∉ X → H b = some (.lst vs) → H' b = some (.lst vs) := fun b vs n e => f _ _ e (.inr (.inr (.inr (.inl ⟨⟨_, rfl⟩, n⟩))))
  refine ⟨f _ _ M.raw (.inl rfl), M.inp.keep ft fun _ e => f _ _ e (.inr (.inl rfl)), M.kept.keep (fun _ e => f _ _ e (.inr (.inr (.inl rfl)))) (Nat.le_refl _), fun k => ?_, M.inj, M.po, M.ended.keep ft (fun _ e => fl _ _ (fun z => (M.xl _ z).1 rfl) e) (Nat.le_refl _), M.ik, hx'⟩
  rcases M.en k with h | ⟨p, e, h1, h2, v, u, bs, y1, y2, y3, y4, y5⟩
  · exact .inl h
  · exact .inr ⟨p, e, h1, h2, v, u, bs, f _ _ y1 (.inr (.inr (.inr (.inr (.inr ⟨k, h1⟩))))), vxx.keep ft y2, ⟨y3.1, hx _ _ y4 y3.2⟩, fl _ _ y3.2 y4, y5.keep ft⟩
theorem Mo.inChg {kvs k2 : List (List L2.Key × V)} {inp' : Ky → Option (Va × Nat)} {n' : Nat} (M : Mo H o A X S pe m ni) (he : H A.i = some (.dT kvs)) (h : InpP vxx (upd H A.i (.dT k2)) A.i inp' n') : Mo (upd H A.i (.dT k2)) o A X { S with inp := inp' } pe m n' := by
  have ft : FT H (upd H A.i (.dT k2)) := upd_ft he
  have ne : ∀ {b u}, H b = some u → (∀ kvs, u ≠ .dT kvs) → upd H A.i (.dT k2) b = some u := fun e n => upd_st he e n
  refine ⟨ne M.raw fun _ z => (nomatch z), h, M.kept.keep (upd_fd M.ik.symm) (Nat.le_refl _), fun k => ?_, M.inj, M.po, M.ended.keep ft (fun _ e => ne e fun _ z => (nomatch z)) (Nat.le_refl _), M.ik, fun x hx => ⟨(M.xl x hx).1, let ⟨vs, e⟩ := (M.xl x hx).2; ⟨vs, ne e fun _ z => (nomatch z)⟩⟩⟩
  rcases M.en k with h | ⟨p, e, h1, h2, h3⟩
  · exact .inl h
  · exact .inr ⟨p, e, h1, h2, h3.keep ft (fun _ e => ne e fun _ z => (nomatch z)) fun b vs _ _ e => ne e fun _ z => (nomatch z)⟩
theorem Mo.inPut {kvs : List (List L2.Key × V)} {k : Ky} {p : Addr} {v : V} {a : Va} {r : Nat} (M : Mo H o A X S pe m ni) (he : H A.i = some (.dT kvs)) (hp : H p = some (.tup [v, .int (r : Int)])) (hv : Va.rp H v a) : Mo (upd H A.i (.dT (putK kvs k (.ref p)))) o A X { S with inp := ups S.inp k (a, r) } pe m (ni + 1) := by
  have ft : FT H (upd H A.i (.dT (putK kvs k (.ref p)))) := upd_ft he
  refine M.inChg he ?_
  obtain ⟨k2, x1, x2, x3⟩ := M.inp
  rw [he] at x1
  cases x1
  refine ⟨_, upd_same, by have := length_putK kvs k (V.ref p); omega, fun j => ?_⟩
  by_cases hj : j = k
  · subst hj
    exact .inr ⟨p, v, a, r, by rw [valV_put, if_pos rfl], ups_at, ft _ _ hp, vxx.keep ft hv⟩
  · rw [valV_put, if_neg hj]
    rcases x3 j with ⟨x, y⟩ | ⟨p', v', a', r', x, y, z, w⟩
    · exact .inl ⟨x, (ups_ne hj).trans y⟩
    · exact .inr ⟨p', v', a', r', x, (ups_ne hj).trans y, ft _ _ z, vxx.keep ft w⟩
theorem Mo.inDrop {kvs : List (List L2.Key × V)} {k : Ky} (M : Mo H o A X S pe m ni) (he : H A.i = some (.dT kvs)) : Mo (upd H A.i (.dT (dropK kvs k))) o A X { S with inp := del S.inp k } pe m ni := by
  have ft : FT H (upd H A.i (.dT (dropK kvs k))) := upd_ft he
  refine M.inChg he ?_
  obtain ⟨k2, a, b, c⟩ := M.inp
  rw [he] at a
  cases a
  refine ⟨_, upd_same, Nat.le_trans (dropK_le kvs k) b, fun j => ?_⟩
  rw [valV_dropK]
  by_cases hj : j = k
  · rw [if_pos hj]
    exact .inl ⟨rfl, if_pos hj⟩
  · rw [if_neg hj]
    rcases c j with ⟨x, y⟩ | ⟨p', v', a', r', x, y, z, w⟩
    · exact .inl ⟨x, (if_neg hj : del S.inp k j = S.inp j).trans y⟩
    · exact .inr ⟨p', v', a', r', x, (if_neg hj : del S.inp k j = S.inp j).trans y, ft _ _ z, vxx.keep ft w⟩
theorem Mo.forget {kvs : List (List L2.Key × V)} {k : Ky} (M : Mo H o A X S pe m ni) (he : H A.k = some (.dT kvs)) : Mo (upd H A.k (.dT (dropK kvs k))) o A X { S with en := del S.en k } (del pe k) m ni := by
  have ft : FT H (upd H A.k (.dT (dropK kvs k))) := upd_ft he
  have ne : ∀ {b u}, H b = some u → (∀ kvs, u ≠ .dT kvs) → upd H A.k (.dT (dropK kvs k)) b = some u := fun e n => upd_st he e n
  have dl : ∀ {j p}, del pe k j = some p → j ≠ k ∧ pe j = some p := fun {j p} h => by
    unfold del at h
    by_cases c : j = k
    · rw [if_pos c] at h
      cases h
    · rw [if_neg c] at h
      exact ⟨c, h⟩
  refine ⟨ne M.raw fun _ z => (nomatch z), M.inp.keep ft (upd_fd M.ik), ?_, fun j => ?_, fun a b p h1 h2 => M.inj a b p (dl h1).2 (dl h2).2, fun a p h => M.po a p (dl h).2, M.ended.keep ft (fun _ e => ne e fun _ z => (nomatch z)) (Nat.le_refl _), M.ik, fun x hx => ⟨(M.xl x hx).1, let ⟨vs, e⟩ := (M.xl x hx).2; ⟨vs, ne e fun _ z => (nomatch z)⟩⟩⟩
  · obtain ⟨k2, a, b, c⟩ := M.kept
    rw [he] at a
    cases a
    refine ⟨_, upd_same, Nat.le_trans (dropK_le kvs k) b, fun j => ?_⟩
    rw [valV_dropK]
    by_cases hj : j = k
    · subst hj
      rw [if_pos rfl, show del pe j j = none from if_pos rfl]
      rfl
    · rw [if_neg hj, show del pe k j = pe j from if_neg hj]
      exact c j
  · by_cases hj : j = k
    · exact .inl ⟨if_pos hj, if_pos hj⟩
    · rcases M.en j with ⟨x, y⟩ | ⟨p, e, h1, h2, h3⟩
      · exact .inl ⟨(if_neg hj : del pe k j = pe j).trans x, (if_neg hj : del S.en k j = S.en j).trans y⟩
      · exact .inr ⟨p, e, (if_neg hj : del pe k j = pe j).trans h1, (if_neg hj : del S.en k j = S.en j).trans h2, h3.keep ft (fun _ e => ne e fun _ z => (nomatch z)) fun b vs _ _ e => ne e fun _ z => (nomatch z)⟩
/-- all is forgotten -/
theorem Mo.clear {d : Addr} (M : Mo H o A X S pe m ni) (hd : H d = some (.dT [])) (hi : A.i ≠ d) : Mo (upd H o (.dK (mdl { A with k := d } S))) o { A with k := d } X { S with en := fun _ => none } (fun _ => none) m ni := by
  have M1 := M.head (S' := S) rfl rfl rfl
  have st : ∀ {b u}, H b = some u → (∀ kvs, u ≠ .dK kvs) → upd H o (.dK (mdl { A with k := d } S)) b = some u := fun e n => by
    rw [upd_ne (fun z => by rw [z, M.raw] at e; injection e with e; exact n _ e.symm)]
    exact e
  have ft : FT H (upd H o (.dK (mdl { A with k := d } S))) := fun _ _ e => st e fun _ z => (nomatch z)
  exact ⟨upd_same, M.inp.keep ft (fun _ e => st e fun _ z => (nomatch z)), ⟨[], st hd fun _ z => (nomatch z), Nat.zero_le _, fun _ => rfl⟩, fun _ => .inl ⟨rfl, rfl⟩, fun _ _ _ h => (nomatch h), fun _ _ h => (nomatch h), M.ended.keep ft (fun _ e => st e fun _ z => (nomatch z)) (Nat.le_refl _), hi, fun x hx => ⟨(M.xl x hx).1, let ⟨vs, e⟩ := (M.xl x hx).2; ⟨vs, st e fun _ z => (nomatch z)⟩⟩⟩
/-- a new list of what was computed -/
theorem Mo.newDone {d : Addr} (M : Mo H o A X S pe m ni) (nd : H d = none) : Mo (upd (upd H d (.lst [])) o (.dK (mdl { A with d := d } S))) o { A with d := d } X { S with done := [] } pe m ni := by
  have s := same_new (o := .lst []) nd
  have M1 := M.same s
  have nu : ∀ {b w}, H b = some w → b ≠ d := fun e z => by rw [z, nd] at e; cases e
  have st : ∀ {b u}, upd H d (.lst []) b = some u → (∀ kvs, u ≠ .dK kvs) → upd (upd H d (.lst [])) o (.dK (mdl { A with d := d } S)) b = some u := fun e n => by
    rw [upd_ne (fun z => by rw [z, M1.raw] at e; injection e with e; exact n _ e.symm)]
    exact e
  have ft : FT (upd H d (.lst [])) (upd (upd H d (.lst [])) o (.dK (mdl { A with d := d } S))) := fun _ _ e => st e fun _ z => (nomatch z)
  refine ⟨upd_same, M1.inp.keep ft (fun _ e => st e fun _ z => (nomatch z)), M1.kept.keep (fun _ e => st e fun _ z => (nomatch z)) (Nat.le_refl _), fun k => ?_, M.inj, M.po, ⟨[], st upd_same fun _ z => (nomatch z), Nat.zero_le _, .nil⟩, M.ik, fun x hx => ?_⟩
  · rcases M.en k with h | ⟨p, e, h1, h2, v, u, bs, y1, y2, y3, y4, y5⟩
    · exact .inl h
    · exact .inr ⟨p, e, h1, h2, v, u, bs, (upd_ne (M.po k p h1)).trans (s _ _ y1), vxx.keep (fun _ _ e => ft _ _ (s _ _ e)) y2, ⟨nu y4, y3.2⟩, st (s _ _ y4) fun _ z => (nomatch z), y5.keep fun _ _ e => ft _ _ (s _ _ e)⟩
  · obtain ⟨_, vs, e⟩ := M.xl x hx
    exact ⟨nu e, vs, st (s _ _ e) fun _ z => (nomatch z)⟩
end
theorem Kh.keep2 {CK CR aF : Addr} {H H' : Hp} {o : Addr} {A : KAd} {S : KS Va} {rn : Ky → Option Addr} {lv : List Ky} {av : V} {m ni : Nat} (h : Kh vxx CK CR aF H o A S rn lv av m ni) (f : ∀ b u, H b = some u → (b = A.l ∨ b = A.i ∨ b = A.e ∨ b = A.r ∨ (∃ C dx fs, u = .ins C dx fs) ∨ ∃ xs, u = .tup xs) → H' b = some u) : Kh vxx CK CR aF H' o A S rn lv av m ni := by
  have ft : FT H H' := fun b xs e => f _ _ e (.inr (.inr (.inr (.inr (.inr ⟨_, rfl⟩)))))
  obtain ⟨dx, e⟩ := h.raw
  exact ⟨⟨dx, f _ _ e (.inr (.inr (.inr (.inr (.inl ⟨_, _, _, rfl⟩)))))⟩, h.inp.keep ft (fun _ e => f _ _ e (.inr (.inl rfl))), h.ent.keep ft (fun _ e => f _ _ e (.inr (.inr (.inl rfl)))) (Nat.le_refl _), h.run.keep (fun _ e => f _ _ e (.inr (.inr (.inr (.inl rfl))))) (Nat.le_refl _), h.live.keep (fun p dx fs e => f _ _ e (.inr (.inr (.inr (.inr (.inl ⟨_, _, _, rfl⟩)))))), h.ended.keep ft (fun vs e => f _ _ e (.inl rfl)) (Nat.le_refl _), h.d1, h.d2, h.d3, h.ck⟩
structure Sp3 (A : KAd) (B : MAd) : Prop where
  i1 : B.i ≠ A.i
  i2 : B.i ≠ A.e
  i3 : B.i ≠ A.r
  k1 : B.k ≠ A.i
  k2 : B.k ≠ A.e
  k3 : B.k ≠ A.r
/-- the law's own state: tape, keeper, model -/
structure LW (CK CR aF t c o mo : Addr) (A : KAd) (B : MAd) (m ni : Nat) (H : Hp) (S S' : KS Va) (rn pe : Ky → Option Addr) : Prop where
  tp : Tp H t c
  kh : Kh vxx CK CR aF H o A S rn [] .non m ni
  md : Mo H mo B [A.l] S' pe m ni
  tm : t ≠ mo
  te : ∀ x, pe x ≠ some t
  cd : c ≠ B.d
  cl : c ≠ A.l
  sp : Sp3 A B
section
variable {CK CR aF t c o mo : Addr} {A A2 : KAd} {B B2 : MAd} {m ni m2 ni2 : Nat} {H H' : Hp} {S S' S2 : KS Va} {rn pe rn2 pe2 : Ky → Option Addr}
theorem LW.bl (L : LW CK CR aF t c o mo A B m ni H S S' rn pe) : B.d ≠ A.l := fun z => (L.md.xl _ List.mem_cons_self).1 z.symm
theorem LW.same (L : LW CK CR aF t c o mo A B m ni H S S' rn pe) (s : Same H H') : LW CK CR aF t c o mo A B m ni H' S S' rn pe := ⟨L.tp.same s, L.kh.same s, L.md.same s, L.tm, L.te, L.cd, L.cl, L.sp⟩
theorem LW.more (L : LW CK CR aF t c o mo A B m ni H S S' rn pe) (h1 : m ≤ m2) (h2 : ni ≤ ni2) : LW CK CR aF t c o mo A B m2 ni2 H S S' rn pe := ⟨L.tp, (L.kh.more h1).wider h2, (L.md.more h1).wider h2, L.tm, L.te, L.cd, L.cl, L.sp⟩
theorem LW.take (L : LW CK CR aF t c o mo A B m ni H S S' rn pe) (b : But t H H') (T : Tp H' t c) : LW CK CR aF t c o mo A B m ni H' S S' rn pe := by
  obtain ⟨_, el, _⟩ := L.kh.ended
  obtain ⟨_, ei, _⟩ := L.md.inp
  obtain ⟨_, ek, _⟩ := L.md.kept
  refine ⟨T, L.kh.keep fun x u e hb => b x u (L.tp.ne e fun k z => ?_) e, L.md.keep fun x u e hb => b x u ?_ e, L.tm, L.te, L.cd, L.cl, L.sp⟩
  · subst z
    rcases hb with hb | hb
    · rw [hb, el] at e
      cases e
    · exact hb
  · rcases hb with rfl | rfl | rfl | ⟨_, rfl⟩ | ⟨_, rfl⟩ | ⟨k, hk⟩
    · exact L.tm.symm
    · exact L.tp.ne ei fun _ z => (nomatch z)
    · exact L.tp.ne ek fun _ z => (nomatch z)
    · exact L.tp.ne e fun _ z => (nomatch z)
    · exact L.tp.ne e fun _ z => (nomatch z)
    · exact fun z => L.te k (z ▸ hk)
theorem LW.kee (L : LW CK CR aF t c o mo A B m ni H S S' rn pe) (fr : ∀ b u, H b = some u → b ≠ o → b ≠ A.i → b ≠ A.e → b ≠ A.r → b ≠ A.l → H' b = some u) (kh : Kh vxx CK CR aF H' o A S2 rn2 [] .non m2 ni2) (h1 : m ≤ m2) (h2 : ni ≤ ni2) : LW CK CR aF t c o mo A B m2 ni2 H' S2 S' rn2 pe := by
  obtain ⟨_, eo⟩ := L.kh.raw
  obtain ⟨_, er, _⟩ := L.kh.run
  obtain ⟨_, el, _⟩ := L.kh.ended
  obtain ⟨_, ee, _⟩ := L.kh.ent
  obtain ⟨_, ei, _⟩ := L.kh.inp
  obtain ⟨_, bi, _⟩ := L.md.inp
  obtain ⟨_, bk, _⟩ := L.md.kept
  have ne : ∀ {a b u v}, H a = some u → H b = some v → u ≠ v → a ≠ b := fun x y z w => by
    rw [w, y] at x
    injection x with x
    exact z x.symm
  have dk : ∀ {b k}, H b = some (.dK k) → H' b = some (.dK k) := fun x => fr _ _ x (ne x eo fun z => (nomatch z)) (ne x ei fun z => (nomatch z)) (ne x ee fun z => (nomatch z)) (ne x er fun z => (nomatch z)) (ne x el fun z => (nomatch z))
  have ls : ∀ {b k}, b ≠ A.l → H b = some (.lst k) → H' b = some (.lst k) := fun n x => fr _ _ x (ne x eo fun z => (nomatch z)) (ne x ei fun z => (nomatch z)) (ne x ee fun z => (nomatch z)) (ne x er fun z => (nomatch z)) n
  refine ⟨?_, kh, ((L.md.keepX (X' := [A.l]) (fun b u e hb => ?_) (fun _ _ _ h => h) fun x hx => ?_).more h1).wider h2, L.tm, L.te, L.cd, L.cl, L.sp⟩
  · obtain ⟨cs, a, l, se, sa, z⟩ := L.tp
    exact ⟨cs, a, l, se, sa, dk z.d, ls L.cl z.cl, z.cp, z.a0, z.l0, z.s0, z.s1⟩
  · rcases hb with rfl | rfl | rfl | ⟨⟨_, rfl⟩, hb⟩ | ⟨_, rfl⟩ | ⟨k, hk⟩
    · have h := L.md.raw
      rw [h] at e
      cases e
      exact dk h
    · exact fr _ _ e (ne bi eo fun z => (nomatch z)) L.sp.i1 L.sp.i2 L.sp.i3 (ne bi el fun z => (nomatch z))
    · exact fr _ _ e (ne bk eo fun z => (nomatch z)) L.sp.k1 L.sp.k2 L.sp.k3 (ne bk el fun z => (nomatch z))
    · exact ls (fun z => hb (z ▸ List.mem_cons_self)) e
    · exact fr _ _ e (ne e eo fun z => (nomatch z)) (ne e ei fun z => (nomatch z)) (ne e ee fun z => (nomatch z)) (ne e er fun z => (nomatch z)) (ne e el fun z => (nomatch z))
    · obtain ⟨_, _, _, _, _, y, _⟩ := L.md.pek hk
      rw [y] at e
      cases e
      exact dk y
  · rw [List.mem_singleton] at hx
    obtain ⟨_, w, _⟩ := kh.ended
    exact ⟨hx ▸ L.bl.symm, _, hx ▸ w⟩
theorem LW.mod (L : LW CK CR aF t c o mo A B m ni H S S' rn pe) (fr : ∀ b u, H b = some u → b ≠ mo → b ≠ B.i → b ≠ B.k → b ≠ B.d → (∀ x, pe x ≠ some b) → H' b = some u) (m' : Mo H' mo B2 [A.l] S2 pe2 m2 ni2) (te : ∀ x, pe2 x ≠ some t) (cd : c ≠ B2.d) (sp : Sp3 A B2) (h1 : m ≤ m2) (h2 : ni ≤ ni2) : LW CK CR aF t c o mo A B2 m2 ni2 H' S S2 rn pe2 := by
  obtain ⟨_, bi, _⟩ := L.md.inp
  obtain ⟨_, bk, _⟩ := L.md.kept
  obtain ⟨_, bd, _⟩ := L.md.ended
  obtain ⟨_, er, _⟩ := L.kh.run
  obtain ⟨_, el, _⟩ := L.kh.ended
  obtain ⟨_, ee, _⟩ := L.kh.ent
  obtain ⟨_, ei, _⟩ := L.kh.inp
  have raw := L.md.raw
  have ne : ∀ {a b u v}, H a = some u → H b = some v → u ≠ v → a ≠ b := fun x y z w => by
    rw [w, y] at x
    injection x with x
    exact z x.symm
  have np : ∀ {b u}, H b = some u → (∀ kvs, u ≠ .dK kvs) → ∀ x, pe x ≠ some b := fun e n x hx => by
    obtain ⟨_, _, _, _, _, y, _⟩ := L.md.pek hx
    rw [e] at y
    injection y with y
    exact n _ y
  refine ⟨?_, ((L.kh.keep2 fun b u e hb => ?_).more h1).wider h2, m', L.tm, te, cd, L.cl, sp⟩
  · obtain ⟨cs, a, l, se, sa, z⟩ := L.tp
    exact ⟨cs, a, l, se, sa, fr _ _ z.d L.tm (ne z.d bi fun z => (nomatch z)) (ne z.d bk fun z => (nomatch z)) (ne z.d bd fun z => (nomatch z)) L.te, fr _ _ z.cl (ne z.cl raw fun z => (nomatch z)) (ne z.cl bi fun z => (nomatch z)) (ne z.cl bk fun z => (nomatch z)) L.cd (np z.cl fun _ z => (nomatch z)), z.cp, z.a0, z.l0, z.s0, z.s1⟩
  · rcases hb with rfl | rfl | rfl | rfl | ⟨_, _, _, rfl⟩ | ⟨_, rfl⟩
    · rw [el] at e
      cases e
      exact fr _ _ el (ne el raw fun z => (nomatch z)) (ne el bi fun z => (nomatch z)) (ne el bk fun z => (nomatch z)) L.bl.symm (np el fun _ z => (nomatch z))
    · rw [ei] at e
      cases e
      exact fr _ _ ei (ne ei raw fun z => (nomatch z)) L.sp.i1.symm L.sp.k1.symm (ne ei bd fun z => (nomatch z)) (np ei fun _ z => (nomatch z))
    · rw [ee] at e
      cases e
      exact fr _ _ ee (ne ee raw fun z => (nomatch z)) L.sp.i2.symm L.sp.k2.symm (ne ee bd fun z => (nomatch z)) (np ee fun _ z => (nomatch z))
    · rw [er] at e
      cases e
      exact fr _ _ er (ne er raw fun z => (nomatch z)) L.sp.i3.symm L.sp.k3.symm (ne er bd fun z => (nomatch z)) (np er fun _ z => (nomatch z))
    · exact fr _ _ e (ne e raw fun z => (nomatch z)) (ne e bi fun z => (nomatch z)) (ne e bk fun z => (nomatch z)) (ne e bd fun z => (nomatch z)) (np e fun _ z => (nomatch z))
    · exact fr _ _ e (ne e raw fun z => (nomatch z)) (ne e bi fun z => (nomatch z)) (ne e bk fun z => (nomatch z)) (ne e bd fun z => (nomatch z)) (np e fun _ z => (nomatch z))
end

end Sn

namespace Sn
open PySem PySem.Spec PyProof.Rows L2 TL
/-! ### the law's put and ask -/
def spLPut (CK CR aF : Addr) : Sp := fun vs H Q _ => ∃ t c o mo A B m ni S rn pe b, ∃ j v : Int, vs = [.ref o, .ref mo, .ref b, .int v] ∧ LW CK CR aF t c o mo A B m ni H S S rn pe ∧ isK H b (kIn j) ∧ S.en (kIn j) = none ∧ ni < 1000000 ∧
  ∀ H', LW CK CR aF t c o mo A B m (ni + 2) H' (S.put (kIn j) (.i v)) (S.put (kIn j) (.i v)) rn pe → isK H' b (kIn j) → Q .non H'
def spLAsk (CK CR aF : Addr) : Sp := fun vs H Q _ => ∃ t c o mo A B m ni S rn pe b l, ∃ l5 : Nat, ∃ s5 : Int, vs = [.ref o, .ref mo, .ref b, lfV l] ∧ LW CK CR aF t c o mo A B m ni H S S rn pe ∧ Iv S ∧ isK H b (kNd (l5 : Int) s5) ∧ l5 < 4 ∧ 0 ≤ s5 ∧ s5 < 6 ∧ m ≤ 14000000 ∧
  ∀ H' S' rn' pe', LW CK CR aF t c o mo A B (m + 41500) ni H' S' S' rn' pe' → Iv S' → Q (.bl true) H'
section
variable {CK CR aF t c o mo : Addr} {A A2 : KAd} {B B2 : MAd} {m ni m2 ni2 : Nat} {H H' : Hp} {S S' S2 : KS Va} {rn pe rn2 pe2 : Ky → Option Addr}
theorem LW.key (L : LW CK CR aF t c o mo A B m ni H S S' rn pe) (fr : ∀ b u, H b = some u → b ≠ o → b ≠ A.i → b ≠ A.e → b ≠ A.r → b ≠ A.l → H' b = some u) {b : Addr} {k : Ky} (hb : isK H b k) : isK H' b k := by
  obtain ⟨_, eo⟩ := L.kh.raw
  obtain ⟨_, er, _⟩ := L.kh.run
  obtain ⟨_, el, _⟩ := L.kh.ended
  obtain ⟨_, ee, _⟩ := L.kh.ent
  obtain ⟨_, ei, _⟩ := L.kh.inp
  have hb : H b = some (.tup (k.map kV)) := hb
  have ne : ∀ {a v}, H a = some v → HO.tup (k.map kV) ≠ v → b ≠ a := fun y z w => by
    rw [w, y] at hb
    injection hb with hb
    exact z hb.symm
  exact fr _ _ hb (ne eo fun z => (nomatch z)) (ne ei fun z => (nomatch z)) (ne ee fun z => (nomatch z)) (ne er fun z => (nomatch z)) (ne el fun z => (nomatch z))
/-- the revision of the model -/
theorem LW.now (L : LW CK CR aF t c o mo A B m ni H S S' rn pe) {S2 : KS Va} (h1 : S2.inp = S'.inp) (h2 : S2.en = S'.en) (h3 : S2.done = S'.done) : LW CK CR aF t c o mo A B m ni (upd H mo (.dK (mdl B S2))) S S2 rn pe :=
  L.mod (fun b u e n _ _ _ _ => by rw [upd_ne n]; exact e) (L.md.head h1 h2 h3) L.te L.cd L.sp (Nat.le_refl _) (Nat.le_refl _)
end
section
variable {P : Program} {w : World} {K : PySem.W.Frag} {mg : Str → Option Value} {base : Heap} {f : Addr} {fd : FuncData} {CK CR CC CU CS aF : Addr}
abbrev s_l_put : Stmt := topS 20
abbrev N_l_put : List Str := ["keeper", "model", "key", "value"]
theorem sc_l_put : FnScope N_l_put ["keeper", "model", "key", "value"] (defScope s_l_put) := ⟨rfl, rfl, rfl, by decide +kernel, rfl, by decide +kernel, by decide +kernel⟩
theorem ok_l_put (F : Fun K "_law_put" "_law_put" s_l_put f fd) (TM : NmM K mg aF CK CR CC CU CS) (C_Keeper_put : CalM P w K mg base CX0 1 CK "put" (spPut vxx CK CR aF)) : FnOk P w K mg base CX0 2 f fd ["keeper", "model", "key", "value"] (spLPut CK CR aF) := by
  have T := TM.toNmK
  refine F.ok sc_l_put (fun vs H Q E h => ?_) (fun cdv A' outer s H vs Q E hr h => ?_)
  · obtain ⟨t, c, o, mo, A, B, m, ni, S, rn, pe, b, j, v, rfl, _⟩ := h
    rfl
  obtain ⟨t, c, o, mo, A, B, m, ni, S, rn, pe, b, j, v, rfl, L, hb, hen, hni, q⟩ := h
  refine ⟨_, (pss_cons (ps_expr (pe_m ns_Keeper C_Keeper_put T.cl_Keeper (by decide) hr (by first | decide | omega) pass0 (pv 0) (pa_cons (pv 2) (pa_cons (pv 3) pa_nil))))
    (pss_one (ps_if (PW.pt (pw_or (pt_cmp (pc_dnotin (hu_of hr) (pv 2) (pe_dget (hu_of hr) (pv 1) pe_str (fun _ _ => rfl)))) (pw_or1 (pt_cmpR (op_neD hr.units) (pe_ix (r := rIxT K) ix_tup (pe_dget (hu_of hr) (pe_dget (hu_of hr) (pv 1) pe_str (fun _ _ => rfl)) (pv 2) (fun _ _ => rfl)) pe_int (fun _ _ => rfl)) (pv 3) (nomark _))))) (pss_cons (ps_dput (hu_of hr) (pv 1) pe_str (pe_op op_add (pe_dget (hu_of hr) (pv 1) pe_str (fun _ _ => rfl)) pe_int) rfl)
    (pss_one (ps_dput (hu_of hr) (pe_dget (hu_of hr) (pv 1) pe_str (fun _ _ => rfl)) (pv 2) (pe_tup (pa_cons (pv 3) (pa_cons (pe_dget (hu_of hr) (pv 1) pe_str (fun _ _ => rfl)) pa_nil))) rfl))) pss_nil))), ?_⟩
  refine ⟨_, rfl, o, rfl, L.kh.raw.isI, _, rfl, _, rfl, o, b, A, S, rn, [], .non, m, ni, kIn j, .int v, .i v, rfl, L.kh, hb, rfl, hni, fun H1 fr1 kh1 => ?_⟩
  have fr1' : ∀ b u, H b = some u → b ≠ o → b ≠ A.i → b ≠ A.e → b ≠ A.r → b ≠ A.l → H1 b = some u := fun b u e y1 y2 y3 _ _ => fr1 b u e y1 y2 y3
  have L1 := L.kee fr1' kh1 (Nat.le_refl _) (Nat.le_succ _)
  have hb1 := L.key fr1' hb
  clear L fr1 fr1' kh1 hb
  have fin : ∀ {S2 : KS Va} {H2 H3 : Hp} {p : Addr} {kvs : List (List L2.Key × V)}, S2 = { S with now := S.now + 1 } → LW CK CR aF t c o mo A B m (ni + 1) H2 (S.put (kIn j) (.i v)) S2 rn pe → Same H2 H3 → isK H3 b (kIn j) → H3 B.i = some (.dT kvs) → H3 p = some (.tup [.int v, .int (S2.now : Int)]) → S.put (kIn j) (.i v) = { S with now := S.now + 1, inp := ups S.inp (kIn j) (.i v, S.now + 1), en := del S.en (kIn j) } → Q .non (upd H3 B.i (.dT (putK kvs (kIn j) (.ref p)))) := by
    intro S2 H2 H3 p kvs e2 L2 s3 hb3 hi3 hp3 e
    subst e2
    have L3 := L2.same s3
    have hd : del S.en (kIn j) = S.en := del_none hen
    have m3 := L3.md.inPut (k := kIn j) (a := .i v) hi3 hp3 rfl
    have L4 := L3.mod (m2 := m) (ni2 := ni + 2) (fun b' u e' _ n _ _ _ => by rw [upd_ne n]; exact e') m3 L3.te L3.cd L3.sp (Nat.le_refl _) (Nat.le_succ _)
    have ee : S.put (kIn j) (.i v) = { S with now := S.now + 1, inp := ups S.inp (kIn j) (.i v, S.now + 1) } := by rw [e, hd]
    refine q _ ?_ ((upd_ne (fun z => by rw [z] at hb3; have hb3 : H3 B.i = some (.tup ((kIn j).map kV)) := hb3; rw [hi3] at hb3; cases hb3)).trans hb3)
    rw [ee] at L4 ⊢
    exact L4
  cases hi : S.inp (kIn j) with
  | none =>
    have hput : S.put (kIn j) (.i v) = { S with now := S.now + 1, inp := ups S.inp (kIn j) (.i v, S.now + 1), en := del S.en (kIn j) } := by
      unfold KS.put
      rw [hi]
    refine ⟨_, rfl, _, rfl, mo, _, rfl, L1.md.g md_in, B.i, _, rfl, L1.md.gi0 hb1 hi, _, rfl, ?_⟩
    refine iteT (iteT ?_)
    have dpn : DPut H1 mo (.str "now") (.int ((S.now : Int) + 1)) (upd H1 mo (.dK (mdl B { S with now := S.now + 1 }))) := L1.md.p (k := .inr "now") (S' := { S with now := S.now + 1 }) (md_now' (n := S.now + 1))
    have L2 := L1.now (S2 := { S with now := S.now + 1 }) rfl rfl rfl
    refine ⟨_, rfl, mo, _, rfl, L1.md.g md_now, _, _, rfl, rfl, _, rfl, mo, _, rfl, dpn, ?_⟩
    refine ⟨_, rfl, _, rfl, mo, _, rfl, L2.md.g md_now, by show 2 ≤ sizeLine; decide, fun p2 np => ?_⟩
    have s3 := same_new (o := .tup [.int v, .int ((S.now + 1 : Nat) : Int)]) np
    have L3 := L2.same s3
    have hb2 : isK (upd H1 mo (.dK (mdl B { S with now := S.now + 1 }))) b (kIn j) := (upd_ne (fun z => by have h := L1.md.raw; rw [← z] at h; exact nomatch (h.symm.trans hb1))).trans hb1
    obtain ⟨kvs, hi3, hlen, _⟩ := L3.md.inp
    have hp3 : upd (upd H1 mo (.dK (mdl B { S with now := S.now + 1 }))) p2 (.tup [.int v, .int ((S.now + 1 : Nat) : Int)]) p2 = some (.tup [.int v, .int ((S.now + 1 : Nat) : Int)]) := upd_same
    exact ⟨_, rfl, mo, _, rfl, L3.md.g md_in, _, rfl, B.i, _, rfl, DPut.t hi3 (s3 _ _ hb2) (Nat.lt_of_le_of_lt hlen (by show ni + 1 < 16777216; omega)), fin rfl L2 s3 (s3 _ _ hb2) hi3 hp3 hput⟩
  | some x =>
    obtain ⟨a, r⟩ := x
    obtain ⟨p, v1, dg, hp, hv⟩ := L1.md.gi hb1 hi
    refine ⟨_, rfl, _, rfl, mo, _, rfl, L1.md.g md_in, B.i, _, rfl, dg, _, rfl, ?_⟩
    refine iteF ?_
    refine ⟨_, rfl, mo, _, rfl, L1.md.g md_in, _, rfl, B.i, _, rfl, dg, p, _, _, _, rfl, rfl, .inl (.inl hp), at_nat (i := 0) rfl, _, rfl, _, _, vxx.dp hv, vxx.dp (a := .i v) rfl, vxx.sh _, vxx.sh _, _, rfl, ?_⟩
    rw [vxx.eq]
    by_cases hc : a = .i v
    · refine iteNP hc ?_
      have ee : S.put (kIn j) (.i v) = S := by
        unfold KS.put
        rw [hi]
        dsimp only
        rw [if_pos hc, del_none hen, ← hc, ups_self hi]
      have L2 := L1.more (Nat.le_refl m) (Nat.le_succ (ni + 1))
      refine q _ ?_ hb1
      rw [ee] at L2 ⊢
      exact L2
    have hput : S.put (kIn j) (.i v) = { S with now := S.now + 1, inp := ups S.inp (kIn j) (.i v, S.now + 1), en := del S.en (kIn j) } := by
      unfold KS.put
      rw [hi]
      dsimp only
      rw [if_neg hc]
    refine iteNN hc ?_
    have dpn : DPut H1 mo (.str "now") (.int ((S.now : Int) + 1)) (upd H1 mo (.dK (mdl B { S with now := S.now + 1 }))) := L1.md.p (k := .inr "now") (S' := { S with now := S.now + 1 }) (md_now' (n := S.now + 1))
    have L2 := L1.now (S2 := { S with now := S.now + 1 }) rfl rfl rfl
    refine ⟨_, rfl, mo, _, rfl, L1.md.g md_now, _, _, rfl, rfl, _, rfl, mo, _, rfl, dpn, ?_⟩
    refine ⟨_, rfl, _, rfl, mo, _, rfl, L2.md.g md_now, by show 2 ≤ sizeLine; decide, fun p2 np => ?_⟩
    have s3 := same_new (o := .tup [.int v, .int ((S.now + 1 : Nat) : Int)]) np
    have L3 := L2.same s3
    have hb2 : isK (upd H1 mo (.dK (mdl B { S with now := S.now + 1 }))) b (kIn j) := (upd_ne (fun z => by have h := L1.md.raw; rw [← z] at h; exact nomatch (h.symm.trans hb1))).trans hb1
    obtain ⟨kvs, hi3, hlen, _⟩ := L3.md.inp
    have hp3 : upd (upd H1 mo (.dK (mdl B { S with now := S.now + 1 }))) p2 (.tup [.int v, .int ((S.now + 1 : Nat) : Int)]) p2 = some (.tup [.int v, .int ((S.now + 1 : Nat) : Int)]) := upd_same
    exact ⟨_, rfl, mo, _, rfl, L3.md.g md_in, _, rfl, B.i, _, rfl, DPut.t hi3 (s3 _ _ hb2) (Nat.lt_of_le_of_lt hlen (by show ni + 1 < 16777216; omega)), fin rfl L2 s3 (s3 _ _ hb2) hi3 hp3 hput⟩
end

end Sn

namespace Sn
open PySem PySem.Spec PyProof.Rows L2 TL
section
variable {CK CR aF t c o mo : Addr} {A A2 : KAd} {B B2 : MAd} {m ni m2 ni2 : Nat} {H H' : Hp} {S S' S2 : KS Va} {rn pe rn2 pe2 : Ky → Option Addr}
theorem Iv.left {S : KS Va} (h : Iv S) (l : Option Nat) : Iv { S with left := l } := ⟨⟨h.ty.inn, h.ty.ind, h.ty.ent⟩, h.ge, h.io⟩
theorem Iv.run {L : List Ky} {n z : Nat} {k : Ky} {out : Ot Va} (h : Iv S) (r : Run Gk comp L n z (.br S k) out) : Iv out.st := by
  have e : out.st.inp = S.inp := r.post.1.inp
  exact ⟨r.ty h.ty, r.ge h.ge, fun k x hx => h.io k x (by rw [← e]; exact hx)⟩
theorem LW.upd (L : LW CK CR aF t c o mo A B m ni H S S' rn pe) {Pr : Ky → Prop} (hp : ∀ k, ¬ Pr k) (mr : MR mo B pe Pr H H' pe2) (m' : Mo H' mo B [A.l] S2 pe2 m2 ni) (h1 : m ≤ m2) : LW CK CR aF t c o mo A B m2 ni H' S S2 rn pe2 := by
  refine L.mod (fun b u e n1 _ n3 n4 n5 => mr.fr b u e n1 n3 n4 fun k hk => absurd hk (n5 k)) m' (fun x hx => ?_) L.cd L.sp h1 (Nat.le_refl _)
  rcases mr.nw x t hx with z | z
  · exact L.te x z
  · obtain ⟨cs, a, l, se, sa, y⟩ := L.tp
    rw [y.d] at z
    cases z
end
theorem al_val {H : Hp} {x y : V} {a : Va} (h : pNd a) (h1 : Va.rp H x a) (h2 : Va.rp H y a) : Al H 4 x y := by
  obtain ⟨i, j, rfl, _⟩ := h
  obtain ⟨p, rfl, hp⟩ := h1
  obtain ⟨q, rfl, hq⟩ := h2
  exact Al.tup hp hq rfl (by show 2 ≤ 1000000; decide) (al_eq rfl)
section
variable {P : Program} {w : World} {K : PySem.W.Frag} {mg : Str → Option Value} {base : Heap} {f : Addr} {fd : FuncData} {CK CR CC CU CS aF : Addr}
abbrev s_l_ask : Stmt := topS 21
abbrev N_l_ask : List Str := ["keeper", "model", "key", "limit", "expected", "actual", "e"]
theorem sc_l_ask : FnScope N_l_ask ["keeper", "model", "key", "limit"] (defScope s_l_ask) := ⟨rfl, rfl, rfl, by decide +kernel, rfl, by decide +kernel, by decide +kernel⟩
theorem ok_l_ask (F : Fun K "_law_ask" "_law_ask" s_l_ask f fd) (TM : NmM K mg aF CK CR CC CU CS) (C_law_update : Cal P w K mg base CX0 21 "_law_update" (spUpd 5)) (C_law_same : Cal P w K mg base CX0 8 "_law_same" (spSame 4)) (C_Keeper_limit : CalM P w K mg base CX0 1 CK "limit" (spLim vxx CK CR aF)) (C_Keeper_ask : CalM P w K mg base (L2.CX P w) 13 CK "ask" (spAsk vxx Gk comp CK CR CC aF 5)) : FnOk P w K mg base CX0 22 f fd ["keeper", "model", "key", "limit"] (spLAsk CK CR aF) := by
  have T := TM.toNmK
  refine F.ok sc_l_ask (fun vs H Q E h => ?_) (fun cdv A' outer s H vs Q E hr h => ?_)
  · obtain ⟨t, c, o, mo, A, B, m, ni, S, rn, pe, b, l, l5, s5, rfl, _⟩ := h
    rfl
  obtain ⟨t, c, o, mo, A, B, m, ni, S, rn, pe, b, l, l5, s5, rfl, L, iv, hb, l4, s0, s6, hm, q⟩ := h
  refine ⟨_, (pss_cons (ps_expr (pe_m ns_Keeper C_Keeper_limit T.cl_Keeper (by decide) hr (by first | decide | omega) pass0 (pv 0) (pa_cons (pv 3) pa_nil)))
    (pss_cons (ps_dput (hu_of hr) (pv 1) pe_str (pv 3) rfl)
    (pss_cons (ps_set (i := 4) sc_l_ask.nd rfl (Or.inl rfl) pe_non)
    (pss_cons (ps_if (pt_cmpR op_ge (pe_c C_law_update hr (by first | decide | omega) pass0 (pa_cons (pv 1) (pa_cons (pv 2) pa_nil))) pe_int (nomark _)) (pss_one (ps_set (i := 4) sc_l_ask.nd rfl (Or.inl rfl) (pe_dget (hu_of hr) (pe_dget (hu_of hr) (pe_dget (hu_of hr) (pv 1) pe_str (fun _ _ => rfl)) (pv 2) (fun _ _ => rfl)) pe_str (fun _ _ => rfl)))) pss_nil)
    (pss_cons (ps_try_as (i := 6) rfl rfl sc_l_ask.nd rfl rfl ⟨rfl, by decide, .inl T.c_Cancelled⟩ takes0 (fun W pn xe tk _ => (pss_one (ps_set (i := 5) sc_l_ask.nd rfl (Or.inl rfl) (pe_mS ns_Keeper C_Keeper_ask T.cl_Keeper (by decide) hr (by first | decide | omega) (fun σ => passAt tk σ) (pv 0) (pa_cons (pv 2) pa_nil))))) (fun a oe cls d pn hz hf => (pss_one (ps_ret (pe_and (pe_cmpR op_isN (pv 4) pe_non (nomark _)) (pe_one (pe_callB (call_isX TM.exc hz hf) (by rfl) T.isinstance (by decide +kernel) (pa_cons (pv 6) (pa_cons (pe_glob (v := .ref CS) (by rfl) TM.c_ServerError rfl) pa_nil)))))))))
    (pss_one (ps_ret (pe_c C_law_same hr (by first | decide | omega) pass0 (pa_cons (pv 5) (pa_cons (pv 4) pa_nil)))))))))), ?_⟩
  refine ⟨_, rfl, o, rfl, L.kh.raw.isI, _, rfl, o, A, S, rn, [], .non, m, ni, l, rfl, L.kh, fun H1 b1 kh1 => ?_⟩
  have L1 := L.kee (fun b u e y1 _ _ _ _ => b1 b u y1 e) kh1 (Nat.le_refl _) (Nat.le_refl _)
  have hb1 := L.key (H' := H1) (fun b u e y1 _ _ _ _ => b1 b u y1 e) hb
  have dp : DPut H1 mo (.str "left") (lfV l) (upd H1 mo (.dK (mdl B { S with left := l }))) := L1.md.p (k := .inr "left") md_left'
  refine ⟨_, rfl, _, rfl, mo, _, rfl, dp, ?_⟩
  have L2 := L1.now (S2 := { S with left := l }) rfl rfl rfl
  have hb2 : isK (upd H1 mo (.dK (mdl B { S with left := l }))) b (kNd (l5 : Int) s5) := (upd_ne (fun z => by have h := L1.md.raw; rw [← z] at h; exact nomatch (h.symm.trans hb1))).trans hb1
  have iv1 := iv.left l
  generalize upd H1 mo (.dK (mdl B { S with left := l })) = H2 at L2 hb2 ⊢
  generalize ({ S with left := l } : KS Va) = S1 at L2 iv1
  clear dp L1 kh1 b1 L iv hb hb1
  obtain ⟨z, out, run, hz, ty2, nv⟩ := can_nd l5 5 [] s5 l4 (by omega) s0 s6 (fun _ _ h => absurd h (by simp)) _ iv1.ty
  have hz2 : z ≤ 5180 := Nat.le_trans hz (by
    have : l5 = 0 ∨ l5 = 1 ∨ l5 = 2 ∨ l5 = 3 := by omega
    rcases this with rfl | rfl | rfl | rfl <;> decide)
  have iv2 := iv1.run run
  refine ⟨_, rfl, _, rfl, mo, b, B, [A.l], S1, pe, m, ni, kNd (l5 : Int) s5, [], 5, z, out, rfl, ⟨L2.md, iv1.ty, fun x hx => absurd hx (by simp), by omega⟩, hb2, .inr ⟨l5, s5, rfl, by omega, s0, s6⟩, run, fun S' g e hg H3 pe3 mr mo3 => ?_, fun S' e H3 pe3 mr mo3 => ?_⟩
  · subst e
    have iv2 : Iv S' := iv2
    obtain ⟨kT, _, _, _⟩ := mr.keeps L2.md
    have hb3 := kT _ _ hb2
    have L3 := L2.upd (fun k h => by simp at h) mr mo3 (Nat.le_add_right _ _)
    obtain ⟨p, e, h1, h2, v, u, bs, y1, y2, _⟩ : ∃ p e, pe3 (kNd (l5 : Int) s5) = some p ∧ S'.en (kNd (l5 : Int) s5) = some e ∧ EnM H3 B [A.l] p e := by
      rcases mo3.en (kNd (l5 : Int) s5) with ⟨_, h⟩ | h
      · rcases run.post.2.1 S' rfl with ⟨x, y⟩ | ⟨_, e, y, _⟩
        · rw [iv2.ty.ind] at y
          cases y
        · rw [h] at y
          cases y
      · exact h
    have hv : pNd e.v := (iv2.ty.ent _ _ h2).2
    refine ⟨_, _, rfl, rfl, _, rfl, ?_⟩
    refine iteP (by omega) ?_
    refine ⟨_, rfl, mo, _, rfl, mo3.g md_kept, _, rfl, B.k, _, rfl, mo3.gk hb3 h1, p, _, rfl, gE y1 el_value, ?_⟩
    refine ⟨_, rfl, o, rfl, L3.kh.raw.isI, _, rfl, o, b, A, S1, rn, [], [], .non, _, ni, _, z, .ok S', rfl, ⟨L3.kh, List.nodup_nil, fun x => Iff.rfl, fun x hx => absurd hx (by simp), .inl rfl, by omega⟩, hb3, run, fun S2 a e2 ha H6 rn6 fr6 kh6 _ _ va hva => ?_, fun S2 e2 => nomatch e2⟩
    cases e2
    have ea : a = e.v := by
      unfold KS.val at ha
      rw [iv2.ty.ind, h2] at ha
      injection ha with ha
      exact ha.symm
    subst ea
    have fr7 : ∀ b u, H3 b = some u → b ≠ o → b ≠ A.i → b ≠ A.e → b ≠ A.r → b ≠ A.l → H6 b = some u := fun b u e y1 y2 y3 y4 y5 => fr6 b u e y1 y3 y4 y5 fun z => nomatch z
    have L6 := L3.kee fr7 kh6 (by omega) (Nat.le_refl _)
    have hv6 : Va.rp H6 v e.v := by
      obtain ⟨x, y, ev, _⟩ := hv
      rw [ev] at y2 ⊢
      obtain ⟨r, rfl, hr⟩ := y2
      exact ⟨r, rfl, by
        obtain ⟨_, eo⟩ := L3.kh.raw
        obtain ⟨_, er, _⟩ := L3.kh.run
        obtain ⟨_, el, _⟩ := L3.kh.ended
        obtain ⟨_, ee, _⟩ := L3.kh.ent
        obtain ⟨_, ei, _⟩ := L3.kh.inp
        have ne : ∀ {a w}, H3 a = some w → HO.tup [.int x, .int y] ≠ w → r ≠ a := fun y z w => by
          rw [w, y] at hr
          injection hr with hr
          exact z hr.symm
        exact fr7 _ _ hr (ne eo fun z => (nomatch z)) (ne ei fun z => (nomatch z)) (ne ee fun z => (nomatch z)) (ne er fun z => (nomatch z)) (ne el fun z => (nomatch z))⟩
    refine ⟨_, rfl, _, rfl, _, _, rfl, al_val hv hva hv6, ?_⟩
    exact q H6 S' rn6 pe3 (L6.more (by omega) (Nat.le_refl _)) iv2
  · subst e
    have iv2 : Iv S' := iv2
    obtain ⟨kT, _, _, _⟩ := mr.keeps L2.md
    have hb3 := kT _ _ hb2
    have L3 := L2.upd (fun k h => by simp at h) mr mo3 (Nat.le_add_right _ _)
    refine ⟨_, _, rfl, rfl, _, rfl, ?_⟩
    refine iteN (by omega) ?_
    refine ⟨_, rfl, o, rfl, L3.kh.raw.isI, _, rfl, o, b, A, S1, rn, [], [], .non, _, ni, _, z, .no S', rfl, ⟨L3.kh, List.nodup_nil, fun x => Iff.rfl, fun x hx => absurd hx (by simp), .inl rfl, by omega⟩, hb3, run, fun S2 a e2 => (nomatch e2), fun S2 e2 H6 rn6 fr6 kh6 _ => ?_⟩
    cases e2
    have fr7 : ∀ b u, H3 b = some u → b ≠ o → b ≠ A.i → b ≠ A.e → b ≠ A.r → b ≠ A.l → H6 b = some u := fun b u e y1 y2 y3 y4 y5 => fr6 b u e y1 y3 y4 y5 fun z => nomatch z
    have L6 := L3.kee fr7 kh6 (by omega) (Nat.le_refl _)
    refine ⟨true, T.te, fun _ a na => ?_, fun z => by cases z⟩
    refine ⟨_, rfl, rfl, _, rfl, iteP rfl ?_⟩
    exact ⟨_, rfl, rfl, rfl, _, .ref CS, true, rfl, fun u h => h, TM.kS, q H6 S' rn6 pe3 (L6.more (by omega) (Nat.le_refl _)) iv2⟩
end

end Sn

namespace Sn
open PySem PySem.Spec PyProof.Rows L2 TL
/-! ### the law's steps -/
structure Ivx (D : Int → Prop) (S : KS Va) : Prop where
  inn : ∀ j : Int, 0 ≤ j → j < 4 → D j → ∃ f r, S.inp (kIn j) = some (.i f, r) ∧ 0 ≤ f ∧ f ≤ 8
  ent : ∀ k e, S.en k = some e → (∃ l s, k = kNd l s ∧ (∀ d ∈ e.d, Dep l d) ∧ e.d.length ≤ 3) ∧ pNd e.v
  ge : Ge S
  io : Io S
theorem Ivx.iv {D : Int → Prop} {S : KS Va} (h : Ivx D S) (hd : ∀ j : Int, 0 ≤ j → j < 4 → D j) : Iv S := ⟨⟨fun j a b => h.inn j a b (hd j a b), fun l s => by
  cases z : S.inp (kNd l s) with
  | none => rfl
  | some x =>
    obtain ⟨j, e, _⟩ := h.io _ _ z
    exact absurd e.symm kIn_ne, h.ent⟩, h.ge, h.io⟩
theorem Iv.ivx {S : KS Va} (h : Iv S) : Ivx (fun _ => True) S := ⟨fun j a b _ => h.ty.inn j a b, h.ty.ent, h.ge, h.io⟩
theorem Ivx.en {D : Int → Prop} {S : KS Va} (h : Ivx D S) (j : Int) : S.en (kIn j) = none := by
  cases z : S.en (kIn j) with
  | none => rfl
  | some e =>
    obtain ⟨⟨l, s, e, _⟩, _⟩ := h.ent _ _ z
    exact absurd e kIn_ne
theorem Ivx.imp {D D' : Int → Prop} {S : KS Va} (h : Ivx D S) (hd : ∀ j, D' j → D j) : Ivx D' S := ⟨fun j a b c => h.inn j a b (hd j c), h.ent, h.ge, h.io⟩
theorem put_is {S : KS Va} {k : Ky} {v : Va} (he : S.en k = none) : ∃ n r, S.put k v = { S with now := n, inp := ups S.inp k (v, r) } := by
  have hd := del_none he
  unfold KS.put
  cases S.inp k with
  | none => exact ⟨_, _, by rw [hd]⟩
  | some x =>
    dsimp only
    split
    · exact ⟨_, _, by rw [hd]⟩
    · exact ⟨_, _, by rw [hd]⟩
theorem Ivx.put {D : Int → Prop} {S : KS Va} {j v : Int} (h : Ivx D S) (j0 : 0 ≤ j) (j4 : j < 4) (v0 : 0 ≤ v) (v9 : v < 9) : Ivx (fun i => D i ∨ i = j) (S.put (kIn j) (.i v)) := by
  obtain ⟨n, r, e⟩ := put_is (v := .i v) (h.en j)
  rw [e]
  refine ⟨fun i a b c => ?_, h.ent, h.ge, fun k x hx => ?_⟩
  · show ∃ f r', ups S.inp (kIn j) (.i v, r) (kIn i) = some (.i f, r') ∧ 0 ≤ f ∧ f ≤ 8
    by_cases z : i = j
    · subst z
      exact ⟨v, r, ups_at, v0, by omega⟩
    · rw [ups_ne (fun y => z (kIn_inj y))]
      exact h.inn i a b (c.resolve_right z)
  · have hx : ups S.inp (kIn j) (.i v, r) k = some x := hx
    by_cases z : k = kIn j
    · exact ⟨j, z, j0, j4⟩
    · rw [ups_ne z] at hx
      exact h.io k x hx
theorem Ivx.drop {D : Int → Prop} {S : KS Va} {j : Int} (h : Ivx D S) : Ivx (fun i => D i ∧ i ≠ j) (S.drop (kIn j)) := by
  refine ⟨fun i a b c => ?_, h.ent, h.ge, fun k x hx => ?_⟩
  · show ∃ f r', del S.inp (kIn j) (kIn i) = some (.i f, r') ∧ 0 ≤ f ∧ f ≤ 8
    unfold del
    rw [if_neg (fun y => c.2 (kIn_inj y))]
    exact h.inn i a b c.1
  · have hx : del S.inp (kIn j) k = some x := hx
    unfold del at hx
    split at hx
    · cases hx
    · exact h.io k x hx
theorem Iv.forget {S : KS Va} {k : Ky} (h : Iv S) : Iv { S with en := del S.en k } := by
  have dl : ∀ {j e}, del S.en k j = some e → S.en j = some e := fun {j e} h => by
    unfold del at h
    split at h
    · cases h
    · exact h
  exact ⟨⟨h.ty.inn, h.ty.ind, fun k e z => h.ty.ent k e (dl z)⟩, ⟨fun k e z => h.ge.1 k e (dl z), h.ge.2⟩, h.io⟩
theorem Iv.clear {S : KS Va} (h : Iv S) : Iv { S with en := fun _ => none } := ⟨⟨h.ty.inn, h.ty.ind, fun k e z => nomatch z⟩, ⟨fun k e z => (nomatch z), h.ge.2⟩, h.io⟩
def spKey : Sp := fun vs H Q _ => ∃ t c, vs = [.ref t] ∧ Tp H t c ∧ ∀ (l : Nat) (s : Int) (b : Addr) H', l < 4 → 0 ≤ s → s < 6 → But t H H' → Tp H' t c → isK H' b (kNd (l : Int) s) → Q (.ref b) H'
def spLUnk (CK CR aF : Addr) : Sp := fun vs H Q _ => ∃ o A S rn m ni, vs = [.ref o] ∧ Kh vxx CK CR aF H o A S rn [] .non m ni ∧ S.inp (kIn 9) = none ∧ ∀ H', Q (.bl true) H'
def spLStep (CK CR aF : Addr) : Sp := fun vs H Q _ => ∃ t c o mo A B m ni S rn pe, vs = [.ref t, .ref o, .ref mo] ∧ LW CK CR aF t c o mo A B m ni H S S rn pe ∧ Iv S ∧ m ≤ 13000000 ∧ ni < 900000 ∧
  ∀ H' A' B' S' rn' pe', LW CK CR aF t c o mo A' B' (m + 41500) (ni + 2) H' S' S' rn' pe' → Iv S' → Q (.bl true) H'
section
variable {CK CR aF t c o mo : Addr} {A A2 : KAd} {B B2 : MAd} {m ni m2 ni2 : Nat} {H H' : Hp} {S S' S2 : KS Va} {rn pe rn2 pe2 : Ky → Option Addr}
theorem LW.kee2 (L : LW CK CR aF t c o mo A B m ni H S S' rn pe) (fr : ∀ b u, H b = some u → b ≠ o → b ≠ A.i → b ≠ A.e → b ≠ A.r → b ≠ A.l → H' b = some u) (kh : Kh vxx CK CR aF H' o A2 S2 rn2 [] .non m ni) (hal : ∃ vs, H' A.l = some (.lst vs)) (hl : A2.l = A.l ∨ H A2.l = none) (sp : Sp3 A2 B) : LW CK CR aF t c o mo A2 B m ni H' S2 S' rn2 pe := by
  obtain ⟨_, eo⟩ := L.kh.raw
  obtain ⟨_, er, _⟩ := L.kh.run
  obtain ⟨_, el, _⟩ := L.kh.ended
  obtain ⟨_, ee, _⟩ := L.kh.ent
  obtain ⟨_, ei, _⟩ := L.kh.inp
  obtain ⟨_, bi, _⟩ := L.md.inp
  obtain ⟨_, bk, _⟩ := L.md.kept
  obtain ⟨_, bd, _⟩ := L.md.ended
  have ne : ∀ {a b u v}, H a = some u → H b = some v → u ≠ v → a ≠ b := fun x y z w => by
    rw [w, y] at x
    injection x with x
    exact z x.symm
  have ln : ∀ {b u}, H b = some u → b ≠ A.l → b ≠ A2.l := fun e n z => by
    rcases hl with y | y
    · exact n (z.trans y)
    · rw [z, y] at e
      cases e
  have dk : ∀ {b k}, H b = some (.dK k) → H' b = some (.dK k) := fun x => fr _ _ x (ne x eo fun z => nomatch z) (ne x ei fun z => nomatch z) (ne x ee fun z => nomatch z) (ne x er fun z => nomatch z) (ne x el fun z => nomatch z)
  have ls : ∀ {b k}, b ≠ A.l → H b = some (.lst k) → H' b = some (.lst k) := fun n x => fr _ _ x (ne x eo fun z => nomatch z) (ne x ei fun z => nomatch z) (ne x ee fun z => nomatch z) (ne x er fun z => nomatch z) n
  obtain ⟨cs, a, l, se, sa, z⟩ := L.tp
  refine ⟨⟨cs, a, l, se, sa, dk z.d, ls L.cl z.cl, z.cp, z.a0, z.l0, z.s0, z.s1⟩, kh, L.md.keepX (X' := [A2.l]) (fun b u e hb => ?_) (fun b vs e n => ?_) fun x hx => ?_, L.tm, L.te, L.cd, ln z.cl L.cl, sp⟩
  · rcases hb with rfl | rfl | rfl | ⟨⟨_, rfl⟩, hb⟩ | ⟨_, rfl⟩ | ⟨k, hk⟩
    · have h := L.md.raw
      rw [h] at e
      cases e
      exact dk h
    · exact fr _ _ e (ne bi eo fun z => nomatch z) L.sp.i1 L.sp.i2 L.sp.i3 (ne bi el fun z => nomatch z)
    · exact fr _ _ e (ne bk eo fun z => nomatch z) L.sp.k1 L.sp.k2 L.sp.k3 (ne bk el fun z => nomatch z)
    · exact ls (fun z => hb (z ▸ List.mem_cons_self)) e
    · exact fr _ _ e (ne e eo fun z => nomatch z) (ne e ei fun z => nomatch z) (ne e ee fun z => nomatch z) (ne e er fun z => nomatch z) (ne e el fun z => nomatch z)
    · obtain ⟨_, _, _, _, _, y, _⟩ := L.md.pek hk
      rw [y] at e
      cases e
      exact dk y
  · rw [List.mem_singleton] at n ⊢
    exact ln e n
  · rw [List.mem_singleton] at hx
    obtain ⟨_, w, _⟩ := kh.ended
    exact ⟨hx ▸ (ln bd L.bl).symm, _, hx ▸ w⟩
theorem LW.tkey (L : LW CK CR aF t c o mo A B m ni H S S' rn pe) (b : But t H H') {k : Ky} {kb : Addr} (h : isK H kb k) : isK H' kb k := b _ _ (L.tp.ne h fun _ z => (nomatch z)) h
end
section
variable {P : Program} {w : World} {K : PySem.W.Frag} {mg : Str → Option Value} {base : Heap} {f : Addr} {fd : FuncData} {CK CR CC CU CS aF : Addr}
abbrev s_l_key : Stmt := topS 15
abbrev N_l_key : List Str := ["tape"]
theorem sc_l_key : FnScope N_l_key ["tape"] (defScope s_l_key) := ⟨rfl, rfl, rfl, by decide +kernel, rfl, by decide +kernel, by decide +kernel⟩
theorem ok_l_key (F : Fun K "_law_key" "_law_key" s_l_key f fd) (T : NmK K mg aF CK CR CC) (C_law_take : Cal P w K mg base CX0 1 "_law_take" spTake) : FnOk P w K mg base CX0 2 f fd ["tape"] spKey := by
  refine F.ok sc_l_key (fun vs H Q E h => ?_) (fun cdv A outer s H vs Q E hr h => ?_)
  · obtain ⟨t, c, rfl, _⟩ := h
    rfl
  obtain ⟨t, c, rfl, tp, q⟩ := h
  refine ⟨_, (pss_one (ps_ret (pe_tup (pa_cons pe_str (pa_cons (pe_c C_law_take hr (by first | decide | omega) pass0 (pa_cons (pv 0) (pa_cons pe_int pa_nil))) (pa_cons (pe_c C_law_take hr (by first | decide | omega) pass0 (pa_cons (pv 0) (pa_cons pe_int pa_nil))) pa_nil)))))), ?_⟩
  refine ⟨_, rfl, t, c, 4, rfl, tp, by decide, by decide, fun r1 H1 r10 r11 b1 T1 => ?_⟩
  refine ⟨_, rfl, t, c, 6, rfl, T1, by decide, by decide, fun r2 H2 r20 r21 b2 T2 => ?_⟩
  refine ⟨by show 3 ≤ sizeLine; decide, fun p np => ?_⟩
  have e : r1 = ((r1.toNat : Nat) : Int) := (Int.toNat_of_nonneg r10).symm
  refine q r1.toNat r2 p _ (by omega) r20 r21 (b1.trans (b2.trans (But.of (same_new np)))) (T2.new np) ?_
  show upd H2 p _ p = _
  rw [upd_same, e]
  rfl
abbrev s_l_unknown : Stmt := topS 22
abbrev N_l_unknown : List Str := ["keeper"]
theorem sc_l_unknown : FnScope N_l_unknown ["keeper"] (defScope s_l_unknown) := ⟨rfl, rfl, rfl, by decide +kernel, rfl, by decide +kernel, by decide +kernel⟩
theorem ok_l_unknown (F : Fun K "_law_unknown" "_law_unknown" s_l_unknown f fd) (TM : NmM K mg aF CK CR CC CU CS) (C_Keeper_drop : CalM P w K mg base (L2.CX P w) 1 CK "drop" (spDrop vxx CK CR CU aF)) : FnOk P w K mg base CX0 2 f fd ["keeper"] (spLUnk CK CR aF) := by
  have T := TM.toNmK
  refine F.ok sc_l_unknown (fun vs H Q E h => ?_) (fun cdv A' outer s H vs Q E hr h => ?_)
  · obtain ⟨o, A, S, rn, m, ni, rfl, _⟩ := h
    rfl
  obtain ⟨o, A, S, rn, m, ni, rfl, kh, hno, q⟩ := h
  refine ⟨_, (pss_cons (ps_try_only rfl rfl ⟨rfl, by decide, .inl TM.c_UnknownKey⟩ takes0 (fun W pn xe tk _ => (pss_one (ps_expr (pe_mS ns_Keeper C_Keeper_drop T.cl_Keeper (by decide) hr (by first | decide | omega) (fun σ => passAt tk σ) (pv 0) (pa_cons (pe_tup (pa_cons pe_str (pa_cons pe_int pa_nil))) pa_nil))))) (fun a oe cls d pn _ _ => (pss_one (ps_ret pe_bl))))
    (pss_one (ps_ret pe_bl))), ?_⟩
  refine ⟨_, rfl, o, rfl, kh.raw.isI, by show 2 ≤ sizeLine; decide, fun bt nt => ?_⟩
  refine ⟨o, bt, A, S, rn, [], .non, m, ni, kIn 9, rfl, kh.same (same_new nt), upd_same, fun _ => ?_, fun z => absurd hno z⟩
  exact ⟨true, TM.teU, fun _ a na => q _, fun z => by cases z⟩
abbrev s_l_step : Stmt := topS 23
abbrev N_l_step : List Str := ["tape", "keeper", "model", "choice", "key", "limit"]
theorem sc_l_step : FnScope N_l_step ["tape", "keeper", "model"] (defScope s_l_step) := ⟨rfl, rfl, rfl, by decide +kernel, rfl, by decide +kernel, by decide +kernel⟩
theorem ok_l_step (F : Fun K "_law_step" "_law_step" s_l_step f fd) (TM : NmM K mg aF CK CR CC CU CS) (C_law_take : Cal P w K mg base CX0 1 "_law_take" spTake) (C_law_key : Cal P w K mg base CX0 2 "_law_key" spKey) (C_law_put : Cal P w K mg base CX0 2 "_law_put" (spLPut CK CR aF)) (C_law_ask : Cal P w K mg base CX0 22 "_law_ask" (spLAsk CK CR aF))
    (C_Keeper_drop : CalM P w K mg base (L2.CX P w) 1 CK "drop" (spDrop vxx CK CR CU aF)) (C_Keeper_forget : CalM P w K mg base CX0 1 CK "forget" (spFor vxx CK CR aF)) (C_Keeper_forget_all : CalM P w K mg base CX0 1 CK "forget_all" (spFall vxx CK CR aF)) : FnOk P w K mg base CX0 23 f fd ["tape", "keeper", "model"] (spLStep CK CR aF) := by
  have T := TM.toNmK
  refine F.ok sc_l_step (fun vs H Q E h => ?_) (fun cdv A' outer s H vs Q E hr h => ?_)
  · obtain ⟨t, c, o, mo, A, B, m, ni, S, rn, pe, rfl, _⟩ := h
    rfl
  obtain ⟨t, c, o, mo, A, B, m, ni, S, rn, pe, rfl, L, iv, hm, hni, q⟩ := h
  refine ⟨_, (pss_cons (ps_set (i := 3) sc_l_step.nd rfl (Or.inl rfl) (pe_c C_law_take hr (by first | decide | omega) pass0 (pa_cons (pv 0) (pa_cons pe_int pa_nil))))
    (pss_cons (ps_set (i := 4) sc_l_step.nd rfl (Or.inl rfl) (pe_tup (pa_cons pe_str (pa_cons (pe_c C_law_take hr (by first | decide | omega) pass0 (pa_cons (pv 0) (pa_cons pe_int pa_nil))) pa_nil))))
    (pss_cons (ps_if (pt_cmpR op_lt (pv 3) pe_int (nomark _)) (pss_one (ps_expr (pe_c C_law_put hr (by first | decide | omega) pass0 (pa_cons (pv 1) (pa_cons (pv 2) (pa_cons (pv 4) (pa_cons (pe_c C_law_take hr (by first | decide | omega) pass0 (pa_cons (pv 0) (pa_cons pe_int pa_nil))) pa_nil))))))) (pss_one (ps_if (pt_cmpR op_eq (pv 3) pe_int (nomark _)) (pss_cons (ps_expr (pe_m ns_Keeper C_Keeper_drop T.cl_Keeper (by decide) hr (by first | decide | omega) passL (pv 1) (pa_cons (pv 4) pa_nil)))
    (pss_cons (ps_expr (pe_bm PySem.F.plainAttrs_dict PySem.F.slot_dict_pop PySem.F.type_dict_pop (mt_popT1 (hu_of hr)) (pe_dget (hu_of hr) (pv 2) pe_str (fun _ _ => rfl)) (pa_cons (pv 4) pa_nil)))
    (pss_cons (ps_dput (hu_of hr) (pv 2) pe_str (pe_op op_add (pe_dget (hu_of hr) (pv 2) pe_str (fun _ _ => rfl)) pe_int) rfl)
    (pss_one (ps_expr (pe_c C_law_put hr (by first | decide | omega) pass0 (pa_cons (pv 1) (pa_cons (pv 2) (pa_cons (pv 4) (pa_cons (pe_c C_law_take hr (by first | decide | omega) pass0 (pa_cons (pv 0) (pa_cons pe_int pa_nil))) pa_nil)))))))))) (pss_one (ps_if (pt_cmpR op_lt (pv 3) pe_int (nomark _)) (pss_cons (ps_set (i := 5) sc_l_step.nd rfl (Or.inl rfl) pe_non)
    (pss_cons (ps_if (pt_cmpR op_eq (pe_c C_law_take hr (by first | decide | omega) pass0 (pa_cons (pv 0) (pa_cons pe_int pa_nil))) pe_int (nomark _)) (pss_one (ps_set (i := 5) sc_l_step.nd rfl (Or.inl rfl) (pe_c C_law_take hr (by first | decide | omega) pass0 (pa_cons (pv 0) (pa_cons pe_int pa_nil))))) pss_nil)
    (pss_one (ps_ret (pe_c C_law_ask hr (by first | decide | omega) pass0 (pa_cons (pv 1) (pa_cons (pv 2) (pa_cons (pe_c C_law_key hr (by first | decide | omega) pass0 (pa_cons (pv 0) pa_nil)) (pa_cons (pv 5) pa_nil))))))))) (pss_one (ps_if (pt_cmpR op_eq (pv 3) pe_int (nomark _)) (pss_cons (ps_set (i := 4) sc_l_step.nd rfl (Or.inl rfl) (pe_c C_law_key hr (by first | decide | omega) pass0 (pa_cons (pv 0) pa_nil)))
    (pss_cons (ps_expr (pe_m ns_Keeper C_Keeper_forget T.cl_Keeper (by decide) hr (by first | decide | omega) pass0 (pv 1) (pa_cons (pv 4) pa_nil)))
    (pss_one (ps_expr (pe_bm PySem.F.plainAttrs_dict PySem.F.slot_dict_pop PySem.F.type_dict_pop (L2.DX.mt_popT (hu_of hr)) (pe_dget (hu_of hr) (pv 2) pe_str (fun _ _ => rfl)) (pa_cons (pv 4) (pa_cons pe_non pa_nil))))))) (pss_one (ps_if (pt_cmpR op_eq (pe_c C_law_take hr (by first | decide | omega) pass0 (pa_cons (pv 0) (pa_cons pe_int pa_nil))) pe_int (nomark _)) (pss_cons (ps_expr (pe_m0 ns_Keeper C_Keeper_forget_all T.cl_Keeper (by decide) hr (by first | decide | omega) pass0 (pv 1)))
    (pss_one (ps_dput (hu_of hr) (pv 2) pe_str pe_dnewT rfl))) pss_nil)))))))))
    (pss_one (ps_ret pe_bl))))), ?_⟩
  refine ⟨_, rfl, t, c, 9, rfl, L.tp, by decide, by decide, fun r1 H1 r10 r11 b1 T1 => ?_⟩
  have L1 := L.take b1 T1
  refine ⟨_, rfl, t, c, 4, rfl, L1.tp, by decide, by decide, fun r2 H2 r20 r21 b2 T2 => ⟨by show 2 ≤ sizeLine; decide, fun kb nkb => ?_⟩⟩
  have L3 := (L1.take b2 T2).same (same_new (o := .tup [.str "in", .int r2]) nkb)
  have hk3 : isK (upd H2 kb (.tup [.str "in", .int r2])) kb (kIn r2) := upd_same
  generalize upd H2 kb (.tup [.str "in", .int r2]) = H3 at L3 hk3 ⊢
  clear L L1 b1 T1 b2 T2 nkb
  refine ⟨_, rfl, _, _, rfl, rfl, _, rfl, ?_⟩
  by_cases c3 : r1 < 3
  · refine iteP c3 ?_
    refine ⟨_, rfl, _, rfl, _, rfl, _, rfl, t, c, 9, rfl, L3.tp, by decide, by decide, fun v H4 v0 v9 b4 T4 => ?_⟩
    refine ⟨t, c, o, mo, A, B, m, ni, S, rn, pe, kb, r2, v, rfl, L3.take b4 T4, L3.tkey b4 hk3, iv.ivx.en r2, by omega, fun H5 L5 _ => ?_⟩
    exact q H5 A B _ rn pe (L5.more (by omega) (Nat.le_refl _)) ((iv.ivx.put r20 r21 v0 v9).iv fun _ _ _ => .inl trivial)
  refine iteN c3 ?_
  refine ⟨_, rfl, rfl, _, rfl, ?_⟩
  by_cases c4 : r1 = 3
  · refine iteP (by rw [c4]) ?_
    refine ⟨_, rfl, o, rfl, L3.kh.raw.isI, _, rfl, o, kb, A, S, rn, [], .non, m, ni, kIn r2, rfl, L3.kh, hk3, fun hno => ?_, fun _ H4 fr4 kh4 => ?_⟩
    · obtain ⟨_, _, e, _⟩ := iv.ty.inn r2 r20 r21
      rw [hno] at e
      cases e
    have L4 := L3.kee (fun b u e y1 y2 _ _ _ => fr4 b u e y1 y2) kh4 (Nat.le_refl _) (Nat.le_refl _)
    have hk4 := L3.key (H' := H4) (fun b u e y1 y2 _ _ _ => fr4 b u e y1 y2) hk3
    obtain ⟨kvs, hi4, hlen4, his⟩ := L4.md.inp
    obtain ⟨pv, hval⟩ : ∃ v, valV kvs (kIn r2) = some v := by
      rcases his (kIn r2) with ⟨_, y⟩ | ⟨p, _, _, _, y, _⟩
      · obtain ⟨_, _, e, _⟩ := iv.ty.inn r2 r20 r21
        rw [y] at e
        cases e
      · exact ⟨_, y⟩
    refine ⟨_, rfl, mo, _, rfl, L4.md.g md_in, .inr (.inr (.inl ⟨rfl, .inr ⟨_, hi4⟩⟩)), _, rfl, B.i, kvs, kIn r2, kb, _, rfl, rfl, hi4, hk4, hval, ?_⟩
    have L5 := L4.mod (m2 := m) (ni2 := ni) (fun b' u e' _ n _ _ _ => by rw [upd_ne n]; exact e') (L4.md.inDrop (k := kIn r2) hi4) L4.te L4.cd L4.sp (Nat.le_refl _) (Nat.le_refl _)
    have hk5 : isK (upd H4 B.i (.dT (dropK kvs (kIn r2)))) kb (kIn r2) := (upd_ne (fun z => by rw [← z] at hi4; exact nomatch (hi4.symm.trans hk4))).trans hk4
    generalize upd H4 B.i (.dT (dropK kvs (kIn r2))) = H5 at L5 hk5 ⊢
    have dpn : DPut H5 mo (.str "now") (.int ((S.now : Int) + 1)) (upd H5 mo (.dK (mdl B (S.drop (kIn r2))))) := L5.md.p (k := .inr "now") (S' := S.drop (kIn r2)) (md_now' (n := S.now + 1))
    refine ⟨_, rfl, mo, _, rfl, L5.md.g md_now, _, _, rfl, rfl, _, rfl, mo, _, rfl, dpn, ?_⟩
    have L6 := L5.now (S2 := S.drop (kIn r2)) rfl rfl rfl
    have hk6 : isK (upd H5 mo (.dK (mdl B (S.drop (kIn r2))))) kb (kIn r2) := (upd_ne (fun z => by have h := L5.md.raw; rw [← z] at h; exact nomatch (h.symm.trans hk5))).trans hk5
    refine ⟨_, rfl, _, rfl, _, rfl, _, rfl, t, c, 9, rfl, L6.tp, by decide, by decide, fun v H7 v0 v9 b7 T7 => ?_⟩
    have ix := (iv.ivx.drop (j := r2))
    refine ⟨t, c, o, mo, A, B, m, ni, S.drop (kIn r2), rn, pe, kb, r2, v, rfl, L6.take b7 T7, L6.tkey b7 hk6, ix.en r2, by omega, fun H8 L8 _ => ?_⟩
    exact q H8 A B _ rn pe (L8.more (by omega) (Nat.le_refl _)) ((ix.put r20 r21 v0 v9).iv fun j _ _ => (Classical.em (j = r2)).elim .inr fun z => .inl ⟨trivial, z⟩)
  refine iteN (fun z => c4 (by injection z)) ?_
  refine ⟨_, rfl, _, _, rfl, rfl, _, rfl, ?_⟩
  by_cases c7 : r1 < 7
  · refine iteP c7 ?_
    have fin : ∀ {H6 : Hp} {b : Addr} {l : Option Nat} {lv : V} {l5 : Nat} {s5 : Int}, lv = lfV l → LW CK CR aF t c o mo A B m ni H6 S S rn pe → isK H6 b (kNd (l5 : Int) s5) → l5 < 4 → 0 ≤ s5 → s5 < 6 → spLAsk CK CR aF [.ref o, .ref mo, .ref b, lv] H6 Q E0 := by
      intro H6 b l lv l5 s5 el L6 hb l4 s0 s6
      subst el
      exact ⟨t, c, o, mo, A, B, m, ni, S, rn, pe, b, l, l5, s5, rfl, L6, iv, hb, l4, s0, s6, by omega, fun H7 S7 rn7 pe7 L7 iv7 => q H7 A B S7 rn7 pe7 (L7.more (Nat.le_refl _) (by omega)) iv7⟩
    refine ⟨_, rfl, t, c, 3, rfl, L3.tp, by decide, by decide, fun r5 H4 r50 r51 b4 T4 => ?_⟩
    have L4 := L3.take b4 T4
    refine ⟨rfl, _, rfl, ?_⟩
    by_cases c9 : r5 = 0
    · refine iteP (by rw [c9]) ?_
      refine ⟨_, rfl, t, c, 10, rfl, L4.tp, by decide, by decide, fun r6 H5 r60 r61 b5 T5 => ?_⟩
      have L5 := L4.take b5 T5
      refine ⟨_, rfl, _, rfl, _, rfl, t, c, rfl, L5.tp, fun l5 s5 b H6 l4 s0 s6 b6 T6 hb => ⟨_, rfl, ?_⟩⟩
      exact fin (l := some r6.toNat) (by show V.int r6 = V.int ((r6.toNat : Nat) : Int); rw [Int.toNat_of_nonneg r60]) (L5.take b6 T6) hb l4 s0 s6
    · refine iteN (fun z => c9 (by injection z)) ?_
      refine ⟨_, rfl, _, rfl, _, rfl, t, c, rfl, L4.tp, fun l5 s5 b H6 l4 s0 s6 b6 T6 hb => ⟨_, rfl, ?_⟩⟩
      exact fin (l := none) rfl (L4.take b6 T6) hb l4 s0 s6
  refine iteN c7 ?_
  refine ⟨_, rfl, rfl, _, rfl, ?_⟩
  by_cases c8 : r1 = 7
  · refine iteP (by rw [c8]) ?_
    refine ⟨_, rfl, t, c, rfl, L3.tp, fun l5 s5 b H4 l4 s0 s6 b4 T4 hb => ?_⟩
    have L4 := L3.take b4 T4
    refine ⟨_, rfl, o, rfl, L4.kh.raw.isI, _, rfl, o, b, A, S, rn, [], .non, m, ni, kNd (l5 : Int) s5, rfl, L4.kh, hb, fun H5 b5 kh5 => ?_⟩
    have L5 := L4.kee (fun b u e _ _ y3 _ _ => b5 b u y3 e) kh5 (Nat.le_refl _) (Nat.le_refl _)
    have hb5 := L4.key (H' := H5) (fun b u e _ _ y3 _ _ => b5 b u y3 e) hb
    obtain ⟨kvs, hk5, _, hks⟩ := L5.md.kept
    refine ⟨_, rfl, mo, _, rfl, L5.md.g md_kept, .inr (.inr (.inl ⟨rfl, .inr ⟨_, hk5⟩⟩)), _, rfl, B.k, kvs, kNd (l5 : Int) s5, b, .non, rfl, rfl, hk5, hb5, fun v _ => ?_, fun hn => ?_⟩
    · have L6 := L5.mod (m2 := m) (ni2 := ni) (fun b' u e' _ _ n _ _ => by rw [upd_ne n]; exact e') (L5.md.forget (k := kNd (l5 : Int) s5) hk5) (fun x hx => by
        unfold del at hx
        split at hx
        · cases hx
        · exact L5.te x hx) L5.cd L5.sp (Nat.le_refl _) (Nat.le_refl _)
      exact q _ A B _ rn _ (L6.more (by omega) (by omega)) iv.forget
    · have e1 : pe (kNd (l5 : Int) s5) = none := by
        have := hks (kNd (l5 : Int) s5)
        rw [hn] at this
        cases z : pe (kNd (l5 : Int) s5) with
        | none => rfl
        | some p =>
          rw [z] at this
          cases this
      have e2 := del_none (L5.md.pnone.mp e1)
      have iv6 := iv.forget (k := kNd (l5 : Int) s5)
      rw [e2] at L5 iv6
      exact q _ A B _ rn _ (L5.more (by omega) (by omega)) iv6
  refine iteN (fun z => c8 (by injection z)) ?_
  refine ⟨_, rfl, t, c, 3, rfl, L3.tp, by decide, by decide, fun r5 H4 r50 r51 b4 T4 => ?_⟩
  have L4 := L3.take b4 T4
  refine ⟨rfl, _, rfl, ?_⟩
  by_cases c9 : r5 = 0
  · refine iteP (by rw [c9]) ?_
    refine ⟨_, rfl, o, rfl, L4.kh.raw.isI, o, A, S, rn, [], .non, m, ni, rfl, L4.kh, fun H5 e5 b5 ne5 kh5 => ?_⟩
    obtain ⟨_, el4, _⟩ := L4.kh.ended
    obtain ⟨_, bi4, _⟩ := L4.md.inp
    obtain ⟨_, bk4, _⟩ := L4.md.kept
    have nf : ∀ {x u}, H4 x = some u → x ≠ e5 := fun e z => by rw [z, ne5] at e; cases e
    have L5 := L4.kee2 (A2 := { A with e := e5 }) (fun b u e y1 _ _ _ _ => b5 b u y1 e) kh5 (by obtain ⟨_, w, _⟩ := kh5.ended; exact ⟨_, w⟩) (.inl rfl) ⟨L4.sp.i1, nf bi4, L4.sp.i3, L4.sp.k1, nf bk4, L4.sp.k3⟩
    intro d nd
    have L6 := L5.same (same_new (o := .dT []) nd)
    have hd6 : upd H5 d (.dT []) d = some (.dT []) := upd_same
    have nd5 : ∀ {x u}, H5 x = some u → d ≠ x := fun e z => by rw [← z, nd] at e; cases e
    obtain ⟨_, bi5, _⟩ := L5.md.inp
    obtain ⟨_, ai5, _⟩ := L5.kh.inp
    obtain ⟨_, ae5, _⟩ := L5.kh.ent
    obtain ⟨_, ar5, _⟩ := L5.kh.run
    generalize upd H5 d (.dT []) = H6 at L6 hd6 ⊢
    have dp : DPut H6 mo (.str "kept") (.ref d) (upd H6 mo (.dK (mdl { B with k := d } S))) := md_kept' (A := B) (S := S) (k := d) ▸ DPut.k (k := .inr "kept") L6.md.raw (by show 5 < sizeLine; decide)
    refine ⟨_, rfl, mo, _, rfl, dp, ?_⟩
    have L7 := L6.mod (m2 := m) (ni2 := ni) (fun b' u e' n _ _ _ _ => by rw [upd_ne n]; exact e') (L6.md.clear hd6 (nd5 bi5).symm) (fun x hx => by cases hx) L6.cd ⟨L6.sp.i1, L6.sp.i2, L6.sp.i3, nd5 ai5, nd5 ae5, nd5 ar5⟩ (Nat.le_refl _) (Nat.le_refl _)
    exact q _ _ _ _ rn _ (L7.more (by omega) (by omega)) iv.clear
  refine iteN (fun z => c9 (by injection z)) ?_
  exact q H4 A B S rn pe (L4.more (by omega) (by omega)) iv
end

end Sn

namespace Sn
open PySem PySem.Spec PyProof.Rows L2 TL
/-! ### sorted keys -/
theorem len_sub {β : Type} [DecidableEq β] : ∀ (L M : List β), M.Nodup → (∀ x ∈ M, x ∈ L) → M.length ≤ L.length
  | [], M, _, h => by
    cases M with
    | nil => exact Nat.le_refl _
    | cons a r => exact absurd (h a List.mem_cons_self) (by simp)
  | a :: L, M, nd, h => by
    by_cases c : a ∈ M
    · have := len_sub L (M.erase a) (nd.erase a) fun x hx => by
        have hx := (nd.mem_erase_iff).mp hx
        exact (List.mem_cons.mp (h x hx.2)).resolve_left hx.1
      rw [List.length_erase_of_mem c] at this
      rw [List.length_cons]
      omega
    · have := len_sub L M nd fun x hx => (List.mem_cons.mp (h x hx)).resolve_left fun z => c (z ▸ hx)
      rw [List.length_cons]
      omega
def allK : List Ky := [0, 1, 2, 3].flatMap fun l : Int => [0, 1, 2, 3, 4, 5].map fun s : Int => kNd l s
theorem mem_allK {k : Ky} (h : Gk k) : k ∈ allK := by
  obtain ⟨l, s, rfl, l0, l4, s0, s6⟩ := h
  refine List.mem_flatMap.mpr ⟨l, ?_, List.mem_map.mpr ⟨s, ?_, rfl⟩⟩
  · have : l = 0 ∨ l = 1 ∨ l = 2 ∨ l = 3 := by omega
    simp
    exact this
  · have : s = 0 ∨ s = 1 ∨ s = 2 ∨ s = 3 ∨ s = 4 ∨ s = 5 := by omega
    simp
    exact this
theorem len_keys {ks : List Ky} (nd : ks.Nodup) (h : ∀ k ∈ ks, Gk k) : ks.length < 64 := by
  have := len_sub allK ks nd fun x hx => mem_allK (h x hx)
  have e : allK.length = 24 := by rfl
  omega
theorem sorted_eq {β : Type} (f : β → Int) : ∀ l1 l2 : List β, l1.Perm l2 → l1.Pairwise (fun u v => f u ≤ f v) → l2.Pairwise (fun u v => f u ≤ f v) → (∀ a ∈ l1, ∀ b ∈ l1, f a = f b → a = b) → l1 = l2
  | [], l2, p, _, _, _ => (List.nil_perm.mp p).symm
  | a :: r, [], p, _, _, _ => by
    have := p.length_eq
    simp at this
  | a :: r, b :: r2, p, h1, h2, inj => by
    have ha := List.pairwise_cons.mp h1
    have hb := List.pairwise_cons.mp h2
    have e : a = b := by
      have m1 : b ∈ a :: r := p.mem_iff.mpr List.mem_cons_self
      have m2 : a ∈ b :: r2 := p.mem_iff.mp List.mem_cons_self
      rcases List.mem_cons.mp m1 with z | z
      · exact z.symm
      rcases List.mem_cons.mp m2 with y | y
      · exact y
      exact inj a List.mem_cons_self b m1 (Int.le_antisymm (ha.1 b z) (hb.1 a y))
    subst e
    rw [sorted_eq f r r2 ((List.perm_cons a).mp p) ha.2 hb.2 fun x hx y hy => inj x (List.mem_cons_of_mem _ hx) y (List.mem_cons_of_mem _ hy)]
def kyP (z : Int × Int) : Ky := kNd z.1 z.2
theorem Ks.pairs {H : Hp} {bs : List Addr} {ks : List Ky} (h : Ks H bs ks) (hg : ∀ k ∈ ks, Gk k) : ∃ zs : List (Addr × (Int × Int)), (zs.map fun k => V.ref k.1) = bs.map V.ref ∧ (zs.map fun k => kyP k.2) = ks ∧ ∀ k ∈ zs, TN H "node" k.1 k.2 ∧ 0 ≤ k.2.1 ∧ k.2.1 < 6 ∧ 0 ≤ k.2.2 ∧ k.2.2 < 6 := by
  induction h with
  | nil => exact ⟨[], rfl, rfl, fun k hk => absurd hk (by simp)⟩
  | @cons b k bs ks a _ ih =>
    obtain ⟨zs, h1, h2, h3⟩ := ih fun k hk => hg k (List.mem_cons_of_mem _ hk)
    obtain ⟨l, s, rfl, l0, l4, s0, s6⟩ := hg k List.mem_cons_self
    refine ⟨(b, (l, s)) :: zs, by rw [List.map_cons, List.map_cons, h1], by rw [List.map_cons, h2]; rfl, fun k hk => ?_⟩
    rcases List.mem_cons.mp hk with rfl | hk
    · exact ⟨a, l0, by show l < 6; omega, s0, s6⟩
    · exact h3 k hk
def unK : Ky → Int × Int
  | [_, .inl i, .inl j] => (i, j)
  | _ => (0, 0)
theorem map_unK (ys : List (Addr × (Int × Int))) : (ys.map fun k => kyP k.2).map unK = ys.map (·.2) := by
  rw [List.map_map]
  rfl
theorem code_inj {a b : Int × Int} (a1 : 0 ≤ a.1) (a2 : a.1 < 6) (a3 : 0 ≤ a.2) (a4 : a.2 < 6) (b1 : 0 ≤ b.1) (b2 : b.1 < 6) (b3 : 0 ≤ b.2) (b4 : b.2 < 6) (h : TS.code 6 [a.1, a.2] = TS.code 6 [b.1, b.2]) : a = b := by
  simp [TS.code] at h
  obtain ⟨x, y⟩ := a
  obtain ⟨z, w⟩ := b
  simp at *
  omega
theorem dps_keys {K : PySem.W.Frag} {H : Hp} : ∀ {ys : List (Addr × (Int × Int))}, (∀ y ∈ ys, TN H "node" y.1 y.2) → DpAll K H (ys.map fun k => V.ref k.1) ((ys.map fun k => kyP k.2).map kyD)
  | [], _ => .nil
  | y :: r, h => .cons (key_dp (k := kyP y.2) (h y List.mem_cons_self)) (dps_keys fun z hz => h z (List.mem_cons_of_mem _ hz))
theorem eqv_keys (ks : List Ky) : PyData.eqv (.list (ks.map kyD)) (.list (ks.map kyD)) = true := by
  rw [PyData.eqv]
  induction ks with
  | nil =>
    rw [List.map_nil, PyData.eqvAll]
  | cons k r ih =>
    rw [List.map_cons, PyData.eqvAll, ih]
    show (PyData.eqv (.tuple _) (.tuple _) && true) = true
    rw [eqv_key]
    simp
theorem sca_key : ∀ d : Ky, (d.map kV).all sca = true
  | [] => rfl
  | a :: r => by
    rw [List.map_cons, List.all_cons, sca_key r]
    cases a <;> rfl
theorem Ks.al {H : Hp} {bs1 bs2 : List Addr} {ks : List Ky} (h1 : Ks H bs1 ks) (h2 : Ks H bs2 ks) (hg : ∀ k ∈ ks, Gk k) : ∀ (i : Nat) (u v : V), (bs1.map V.ref)[i]? = some u → (bs2.map V.ref)[i]? = some v → Al H 3 u v := by
  intro i u v e1 e2
  obtain ⟨b1, d1, rfl, x1, m1, y1⟩ := h1.at e1
  obtain ⟨b2, d2, rfl, x2, _, y2⟩ := h2.at e2
  rw [y1] at y2
  injection y2 with y2 _
  subst y2
  obtain ⟨l, s, rfl, _⟩ := hg _ m1
  exact Al.tup x1 x2 rfl (by show 3 ≤ 1000000; decide) (al_eq (sca_key _))

end Sn

namespace Sn
open PySem PySem.Spec PyProof.Rows L2 TL
/-! ### the law -/
section
variable {P : Program} {w : World} {K : PySem.W.Frag} {mg : Str → Option Value} {base : Heap} {f : Addr} {fd : FuncData} {CK CR CC CU CS aF : Addr}
abbrev s_law : Stmt := topS 24
abbrev N_law : List Str := ["script", "tape", "keeper", "model", "k"]
theorem sc_law : FnScope N_law ["script"] (defScope s_law) := ⟨rfl, rfl, rfl, by decide +kernel, rfl, by decide +kernel, by decide +kernel⟩
theorem ok_law (F : Fun K "law" "law" s_law f fd) (TM : NmM K mg aF CK CR CC CU CS) (ck : CK ≠ CR) (C_law_tape : Cal P w K mg base CX0 1 "_law_tape" (spTape K)) (C_law_take : Cal P w K mg base CX0 1 "_law_take" spTake) (C_law_same : Cal P w K mg base CX0 8 "_law_same" (spSame 4)) (C_law_put : Cal P w K mg base CX0 2 "_law_put" (spLPut CK CR aF)) (C_law_step : Cal P w K mg base CX0 23 "_law_step" (spLStep CK CR aF)) (C_law_unknown : Cal P w K mg base CX0 2 "_law_unknown" (spLUnk CK CR aF))
    (I_Keeper : CalO P w K mg base CX0 1 CK (spKI vxx CK CR aF)) (C_Keeper_computed : CalM P w K mg base CX0 1 CK "computed" (spCom vxx CK CR aF)) (C_Keeper_revision : CalM P w K mg base CX0 1 CK "revision" (spRev vxx CK CR aF)) (C_Keeper_kept : CalM P w K mg base CX0 1 CK "kept" (spKept vxx CK CR aF)) : FnOk P w K mg base CX0 24 f fd ["script"] (spLaw K) := by
  have T := TM.toNmK
  refine F.ok sc_law (fun vs H Q E h => ?_) (fun cdv A' outer s H vs Q E hr h => ?_)
  · obtain ⟨a, ns, rfl, _⟩ := h
    rfl
  obtain ⟨a, ns, rfl, hS, h63, q⟩ := h
  refine ⟨_, (pss_cons (ps_set (i := 1) sc_law.nd rfl (Or.inl rfl) (pe_c C_law_tape hr (by first | decide | omega) pass0 (pa_cons (pv 0) pa_nil)))
    (pss_cons (ps_set (i := 2) sc_law.nd rfl (Or.inl rfl) (pe_mk I_Keeper hr (by first | decide | omega) T.mk_Keeper pass0 (pa_cons (pe_glob (v := .ref aF) (by rfl) T.c__law_compute rfl) pa_nil)))
    (pss_cons (ps_set (i := 3) sc_law.nd rfl (Or.inl rfl) (pe_disp (pps_cons pe_str pe_dnewT (pps_cons pe_str pe_dnewT (pps_cons pe_str pe_int (pps_cons pe_str pe_non (pps_cons pe_str (pe_lst pa_nil) pps_nil))))) (by rfl) (by rfl) (fun z => by cases z) (by decide)))
    (pss_cons (ps_for PassesOwn.never rfl (pi_range1 (by rfl) T.range (pa_cons pe_int pa_nil)) (pg_name (i := 4) sc_law.nd rfl (Or.inl rfl)) (pss_one (ps_expr (pe_c C_law_put hr (by first | decide | omega) pass0 (pa_cons (pv 2) (pa_cons (pv 3) (pa_cons (pe_tup (pa_cons pe_str (pa_cons (pv 4) pa_nil))) (pa_cons (pe_c C_law_take hr (by first | decide | omega) pass0 (pa_cons (pv 1) (pa_cons pe_int pa_nil))) pa_nil))))))))
    (pss_cons (ps_for PassesOwn.never rfl (pi_range1 (by rfl) T.range (pa_cons (pe_op op_add pe_int (pe_c C_law_take hr (by first | decide | omega) pass0 (pa_cons (pv 1) (pa_cons pe_int pa_nil)))) pa_nil)) (pg_name (i := 4) sc_law.nd rfl (Or.inl rfl)) (pss_cons (ps_if (pt_not (pt_val (pe_c C_law_step hr (by first | decide | omega) pass0 (pa_cons (pv 1) (pa_cons (pv 2) (pa_cons (pv 3) pa_nil)))))) (pss_one (ps_ret pe_bl)) pss_nil)
    (pss_cons (ps_if (PW.pt (pw_or (pt_not (pt_val (pe_c C_law_same hr (by first | decide | omega) pass0 (pa_cons (pe_m0 ns_Keeper C_Keeper_computed T.cl_Keeper (by decide) hr (by first | decide | omega) pass0 (pv 2)) (pa_cons (pe_dget (hu_of hr) (pv 3) pe_str (fun _ _ => rfl)) pa_nil))))) (pw_or1 (pt_not (pt_val (pe_c C_law_same hr (by first | decide | omega) pass0 (pa_cons (pe_m0 ns_Keeper C_Keeper_revision T.cl_Keeper (by decide) hr (by first | decide | omega) pass0 (pv 2)) (pa_cons (pe_dget (hu_of hr) (pv 3) pe_str (fun _ _ => rfl)) pa_nil)))))))) (pss_one (ps_ret pe_bl)) pss_nil)
    (pss_cons (ps_dput (hu_of hr) (pv 3) pe_str (pe_lst pa_nil) rfl)
    (pss_one (ps_if (pt_cmpR (op_neD hr.units) (pe_callB (cr_sortN (x := "node") (B := 6)) (by rfl) TM.sorted (by decide +kernel) (pa_cons (pe_m0 ns_Keeper C_Keeper_kept T.cl_Keeper (by decide) hr (by first | decide | omega) pass0 (pv 2)) pa_nil)) (pe_callB (call_sortedDN (x := "node") (B := 6) rfl) (by rfl) TM.sorted (by decide +kernel) (pa_cons (pe_dget (hu_of hr) (pv 3) pe_str (fun _ _ => rfl)) pa_nil)) (nomark _)) (pss_one (ps_ret pe_bl)) pss_nil))))))
    (pss_one (ps_ret (pe_c C_law_unknown hr (by first | decide | omega) pass0 (pa_cons (pv 2) pa_nil))))))))), ?_⟩
  refine ⟨_, rfl, a, ns, rfl, hS, h63, fun t c H1 s1 nt nc tp1 => ?_⟩
  refine fun o dx n1 n2 n3 => ⟨o, dx, rfl, ck, upd_same, fun H2 A fr2 ni0 ne0 nr0 nl0 kh2 => ⟨rfl, ?_⟩⟩
  have s12 : Same H1 H2 := fun b u e => fr2 b u (by rw [upd_ne (fun z => by rw [z, n1] at e; cases e), upd_ne (fun z => by rw [z, n2] at e; cases e)]; exact e) (fun z => by rw [z, n1] at e; cases e)
  have tp2 := tp1.same s12
  have ccl : c ≠ A.l := fun z => by
    obtain ⟨cs, a, l, se, sa, zz⟩ := tp1
    have zc := zz.cl
    have y : upd (upd H1 dx (.own o)) o (.ins CK dx []) c = some (.lst (cs.map V.int)) := by rw [upd_ne (fun z => by rw [z, n1] at zc; cases zc), upd_ne (fun z => by rw [z, n2] at zc; cases zc)]; exact zc
    rw [z, nl0] at y
    cases y
  -- the model
  intro mo nmo
  intro di ndi
  intro dk ndk
  refine ⟨by show 0 ≤ sizeLine; decide, fun dl ndl => ?_⟩
  have fresh : ∀ {H : Hp} {x : Addr} {u : HO}, H x = none → ∀ {b w}, H b = some w → upd H x u b = some w := fun n _ _ e => same_new n _ _ e
  have s26 : Same H2 (upd (upd (upd (upd H2 mo (.dK [])) di (.dT [])) dk (.dT [])) dl (.lst [])) := fun b u e => fresh ndl (fresh ndk (fresh ndi (fresh nmo e)))
  have hmo6 : upd (upd (upd (upd H2 mo (.dK [])) di (.dT [])) dk (.dT [])) dl (.lst []) mo = some (.dK []) := fresh ndl (fresh ndk (fresh ndi upd_same))
  have hdi6 : upd (upd (upd (upd H2 mo (.dK [])) di (.dT [])) dk (.dT [])) dl (.lst []) di = some (.dT []) := fresh ndl (fresh ndk upd_same)
  have hdk6 : upd (upd (upd (upd H2 mo (.dK [])) di (.dT [])) dk (.dT [])) dl (.lst []) dk = some (.dT []) := fresh ndl upd_same
  have hdl6 : upd (upd (upd (upd H2 mo (.dK [])) di (.dT [])) dk (.dT [])) dl (.lst []) dl = some (.lst []) := upd_same
  have nd2 : H2 di = none ∧ H2 dk = none ∧ H2 dl = none := by
    have no : ∀ {H : Hp} {x b : Addr} {u : HO}, H x = none → upd H x u b = none → H b = none := fun {H x b u} n e => by
      by_cases z : b = x
      · rw [z]; exact n
      · rw [upd_ne z] at e; exact e
    exact ⟨no nmo ndi, no nmo (no ndi ndk), no nmo (no ndi (no ndk ndl))⟩
  have dik : di ≠ dk := fun z => by rw [z] at ndi; rw [← z, upd_same] at ndk; cases ndk
  generalize upd (upd (upd (upd H2 mo (.dK [])) di (.dT [])) dk (.dT [])) dl (.lst []) = H6 at s26 hmo6 hdi6 hdk6 hdl6 ⊢
  refine ⟨hmo6, mdl ⟨di, dk, dl⟩ (KS0 : KS Va), rfl, by show 5 ≤ 15; decide, ?_⟩
  have em : mergeK [] (mdl ⟨di, dk, dl⟩ (KS0 : KS Va)) = mdl ⟨di, dk, dl⟩ (KS0 : KS Va) := by kernel_rfl
  rw [em]
  have L0 : ∃ H7, H7 = upd H6 mo (.dK (mdl ⟨di, dk, dl⟩ (KS0 : KS Va))) ∧ LW CK CR aF t c o mo A ⟨di, dk, dl⟩ 0 0 H7 KS0 KS0 (fun _ => none) (fun _ => none) := by
    have st : ∀ {b w}, H6 b = some w → b ≠ mo → upd H6 mo (.dK (mdl ⟨di, dk, dl⟩ (KS0 : KS Va))) b = some w := fun e n => by rw [upd_ne n]; exact e
    have ne : ∀ {b w}, H6 b = some w → w ≠ .dK [] → b ≠ mo := fun e n z => by rw [z, hmo6] at e; injection e with e; exact n e.symm
    have s27 : Same H2 (upd H6 mo (.dK (mdl ⟨di, dk, dl⟩ (KS0 : KS Va)))) := fun b u e => st (s26 _ _ e) fun z => by rw [z, nmo] at e; cases e
    have nn : ∀ {x b u}, H2 x = none → H2 b = some u → x ≠ b := fun n e z => by rw [← z, n] at e; cases e
    obtain ⟨_, ei, _⟩ := kh2.inp
    obtain ⟨_, ee, _⟩ := kh2.ent
    obtain ⟨_, er, _⟩ := kh2.run
    obtain ⟨_, el, _⟩ := kh2.ended
    obtain ⟨cs, a, l, se, sa, zz⟩ := id tp2
    refine ⟨_, rfl, tp2.same s27, kh2.same s27, ⟨upd_same, ⟨[], st hdi6 (ne hdi6 fun z => nomatch z), Nat.zero_le _, fun k => .inl ⟨rfl, rfl⟩⟩, ⟨[], st hdk6 (ne hdk6 fun z => nomatch z), Nat.zero_le _, fun k => rfl⟩, fun k => .inl ⟨rfl, rfl⟩, fun _ _ _ h => (nomatch h), fun _ _ h => (nomatch h), ⟨[], st hdl6 (ne hdl6 fun z => nomatch z), Nat.zero_le _, .nil⟩, dik, fun x hx => ?_⟩, (nn nmo zz.d).symm, fun _ h => (nomatch h), (nn nd2.2.2 zz.cl).symm, ccl, ⟨nn nd2.1 ei, nn nd2.1 ee, nn nd2.1 er, nn nd2.2.1 ei, nn nd2.2.1 ee, nn nd2.2.1 er⟩⟩
    rw [List.mem_singleton] at hx
    subst hx
    exact ⟨(nn nd2.2.2 el).symm, _, s27 _ _ el⟩
  obtain ⟨H7, e7, L7⟩ := L0
  rw [← e7]
  clear e7 em hmo6 hdi6 hdk6 hdl6 s26 nd2 dik ndl ndk ndi nmo fresh tp2 kh2 fr2
  -- the four inputs
  refine ⟨4, rfl, by decide, by decide, ?_⟩
  refine for_range (lo := 0) (n := (4 : Int).toNat) (fun i σ H' => ∃ (v4 : Option V) (S : KS Va), σ = [some (.ref a), some (.ref t), some (.ref o), some (.ref mo), v4] ∧ LW CK CR aF t c o mo A ⟨di, dk, dl⟩ 0 (2 * i) H' S S (fun _ => none) (fun _ => none) ∧ Ivx (fun j => j < i) S)
    ⟨none, KS0, rfl, L7, fun j z _ y => absurd y (by show ¬ j < ((0 : Nat) : Int); omega), fun _ _ h => (nomatch h), ⟨fun _ _ h => (nomatch h), fun k h => absurd h (by show ¬ k ∈ ([] : List Ky); simp)⟩, fun _ _ h => nomatch h⟩ ?_ ?_
  · rintro i σ H4 hi ⟨v4, S, rfl, L4, iv4⟩
    have hi : i < 4 := hi
    have ei : (0 : Int) + (i : Nat) = (i : Nat) := by omega
    rw [ei]
    refine ⟨_, rfl, _, rfl, _, rfl, by show 2 ≤ sizeLine; decide, fun kb nkb => ?_⟩
    have L5 := L4.same (same_new (o := .tup [.str "in", .int (i : Int)]) nkb)
    have hkb : isK (upd H4 kb (.tup [.str "in", .int (i : Int)])) kb (kIn (i : Int)) := upd_same
    generalize upd H4 kb (.tup [.str "in", .int (i : Int)]) = H5 at L5 hkb ⊢
    refine ⟨_, rfl, t, c, 9, rfl, L5.tp, by decide, by decide, fun v H6 v0 v9 b6 T6 => ?_⟩
    refine ⟨t, c, o, mo, A, ⟨di, dk, dl⟩, 0, 2 * i, S, _, _, kb, i, v, rfl, L5.take b6 T6, L5.tkey b6 hkb, iv4.en _, by omega, fun H8 L8 _ => ?_⟩
    exact ⟨_, _, rfl, L8, (iv4.put (by omega) (by omega) v0 v9).imp fun j hj => by
      have : j < ((i + 1 : Nat) : Int) := hj
      show j < (i : Int) ∨ j = (i : Int)
      omega⟩
  rintro σ H4 ⟨v4, S4, rfl, L4, ix4⟩
  have iv4 : Iv S4 := ix4.iv fun j _ h => h
  have L4 : LW CK CR aF t c o mo A ⟨di, dk, dl⟩ 0 8 H4 S4 S4 (fun _ => none) (fun _ => none) := L4
  refine ⟨_, rfl, t, c, 24, rfl, L4.tp, by decide, by decide, fun r5 H5 r50 r51 b5 T5 => ?_⟩
  have L5 := L4.take b5 T5
  refine ⟨_, _, rfl, rfl, 1 + r5, rfl, by omega, by omega, ?_⟩
  refine for_range (lo := 0) (n := (1 + r5).toNat) (fun i σ H' => ∃ (v4 : Option V) (A : KAd) (B : MAd) (S : KS Va) (rn pe : Ky → Option Addr), σ = [some (.ref a), some (.ref t), some (.ref o), some (.ref mo), v4] ∧ LW CK CR aF t c o mo A B (41500 * i) (8 + 2 * i) H' S S rn pe ∧ Iv S)
    ⟨_, A, _, S4, _, _, rfl, L5, iv4⟩ ?_ ?_
  · rintro i σ H6 hi ⟨v6, A6, B6, S6, rn6, pe6, rfl, L6, iv6⟩
    have hi : i < 24 := by omega
    refine ⟨_, rfl, _, rfl, _, rfl, t, c, o, mo, A6, B6, _, _, S6, rn6, pe6, rfl, L6, iv6, by omega, by omega, fun H7 A7 B7 S7 rn7 pe7 L7 iv7 => ?_⟩
    refine ⟨_, rfl, iteF ?_⟩
    -- what was computed
    refine ⟨_, rfl, o, rfl, L7.kh.raw.isI, o, A7, S7, rn7, [], .non, _, _, rfl, L7.kh, fun H8 l8 bs b8 nl8 kh8 hl8 hks8 => ?_⟩
    have L8 := L7.kee2 (A2 := { A7 with l := l8 }) (fun b u e y1 _ _ _ _ => b8 b u y1 e) kh8 ⟨_, hl8⟩ (.inr nl8) ⟨L7.sp.i1, L7.sp.i2, L7.sp.i3, L7.sp.k1, L7.sp.k2, L7.sp.k3⟩
    obtain ⟨bd, hd8, hdl8, hdk8⟩ := L8.md.ended
    have el : bs.length = bd.length := hks8.len.trans hdk8.len.symm
    refine ⟨_, rfl, mo, _, rfl, L8.md.g md_done, _, _, rfl, Al.lst hl8 hd8 (by rw [List.length_map, List.length_map, el]) (by rw [List.length_map, el]; omega) (hks8.al hdk8 iv7.ge.2), _, rfl, iteF ?_⟩
    refine ⟨_, rfl, o, rfl, L8.kh.raw.isI, o, _, _, rn7, [], .non, _, _, rfl, L8.kh, ?_⟩
    refine ⟨_, rfl, mo, _, rfl, L8.md.g md_now, _, _, rfl, Al.sc rfl, _, rfl, iteF ?_⟩
    -- a new list
    refine ⟨by show 0 ≤ sizeLine; decide, fun dl9 ndl9 => ?_⟩
    have dp : DPut (upd H8 dl9 (.lst [])) mo (.str "done") (.ref dl9) (upd (upd H8 dl9 (.lst [])) mo (.dK (mdl { B7 with d := dl9 } S7))) := md_done' (A := B7) (S := S7) (d := dl9) ▸ DPut.k (k := .inr "done") (L8.same (same_new ndl9)).md.raw (by show 5 < sizeLine; decide)
    refine ⟨_, rfl, mo, _, rfl, dp, ?_⟩
    have iv9 : Iv ({ S7 with done := [] } : KS Va) := ⟨⟨iv7.ty.inn, iv7.ty.ind, iv7.ty.ent⟩, ⟨iv7.ge.1, fun k h => absurd h (by show ¬ k ∈ ([] : List Ky); simp)⟩, iv7.io⟩
    have L9 := L8.mod (H' := upd (upd H8 dl9 (.lst [])) mo (.dK (mdl { B7 with d := dl9 } S7))) (fun b u e n _ _ _ _ => by rw [upd_ne n]; exact same_new ndl9 _ _ e) (L8.md.newDone ndl9) L8.te (fun z => by
      obtain ⟨cs, a, l, se, sa, zz⟩ := L8.tp
      have y := zz.cl
      rw [z] at y
      exact nomatch (ndl9.symm.trans y)) ⟨L8.sp.i1, L8.sp.i2, L8.sp.i3, L8.sp.k1, L8.sp.k2, L8.sp.k3⟩ (Nat.le_refl _) (Nat.le_refl _)
    generalize upd (upd H8 dl9 (.lst [])) mo (.dK (mdl { B7 with d := dl9 } S7)) = H9 at L9 ⊢
    have L9 : LW CK CR aF t c o mo { A7 with l := l8 } { B7 with d := dl9 } (41500 * i + 41500) (8 + 2 * i + 2) H9 { S7 with done := [] } { S7 with done := [] } rn7 pe7 := L9
    generalize ({ S7 with done := [] } : KS Va) = S9 at L9 iv9
    generalize ({ A7 with l := l8 } : KAd) = A9 at L9
    generalize ({ B7 with d := dl9 } : MAd) = B9 at L9
    clear dp L8 L7 kh8 hl8 hks8 hd8 hdl8 hdk8 b8 nl8
    -- the kept keys
    refine ⟨_, rfl, o, rfl, L9.kh.raw.isI, o, _, S9, rn7, [], .non, _, _, rfl, L9.kh, fun p bs ks np hks hnd hmem => ?_⟩
    have L10 := L9.same (same_new (o := .lst (bs.map V.ref)) np)
    have hgk : ∀ k ∈ ks, Gk k := fun k hk => by
      cases z : S9.en k with
      | none => exact absurd z ((hmem k).mp hk)
      | some e => exact iv9.ge.1 k e z
    obtain ⟨zs, hz1, hz2, hz3⟩ := (hks.keep (fun _ _ e => same_new (o := .lst (bs.map V.ref)) np _ _ e)).pairs hgk
    have hp10 : upd H9 p (.lst (bs.map V.ref)) p = some (.lst (zs.map fun k => V.ref k.1)) := by rw [hz1]; exact upd_same
    have hzl : zs.length < 64 := by
      have := congrArg List.length hz2
      rw [List.length_map] at this
      rw [this]
      exact len_keys hnd hgk
    generalize upd H9 p (.lst (bs.map V.ref)) = H10 at L10 hp10 hz3 ⊢
    refine ⟨p, zs, rfl, hp10, hzl, hz3, fun ys q1 perm1 srt1 nq1 => ?_⟩
    have s11 := same_new (o := .lst (ys.map fun k => V.ref k.1)) nq1
    have L11 := L10.same s11
    have hq11 : upd H10 q1 (.lst (ys.map fun k => V.ref k.1)) q1 = some (.lst (ys.map fun k => V.ref k.1)) := upd_same
    have ty11 : ∀ y ∈ ys, TN (upd H10 q1 (.lst (ys.map fun k => V.ref k.1))) "node" y.1 y.2 := fun y hy => s11 _ _ (hz3 y (perm1.mem_iff.mp hy)).1
    generalize upd H10 q1 (.lst (ys.map fun k => V.ref k.1)) = H11 at L11 hq11 ty11 ⊢
    obtain ⟨kvs, hk11, _, hks11⟩ := L11.md.kept
    have hm : ∀ k, k ∈ kvs.map (·.1) ↔ S9.en k ≠ none := fun k => by
      rw [mem_valV, hks11 k]
      have := L11.md.pnone (k := k)
      cases z : pe7 k with
      | none =>
        rw [z] at this
        exact ⟨fun h => absurd rfl h, fun h => absurd (this.mp rfl) h⟩
      | some x =>
        rw [z] at this
        exact ⟨fun _ y => (nomatch (this.mpr y)), fun _ y => nomatch y⟩
    have gk11 : ∀ k ∈ kvs.map (·.1), Gk k := fun k hk => by
      cases z : S9.en k with
      | none => exact absurd z ((hm k).mp hk)
      | some e => exact iv9.ge.1 k e z
    refine ⟨_, rfl, mo, _, rfl, L11.md.g md_kept, B9.k, kvs, rfl, .inl hk11, fun nd2 => ⟨?_, fun p hp => ?_, fun ys2 q2 tn2 perm2 srt2 nq2 => ?_⟩⟩
    · have := len_keys nd2 gk11
      rw [List.length_map] at this
      exact this
    · obtain ⟨l, s, e, l0, l4, s0, s6⟩ := gk11 p.1 (List.mem_map.mpr ⟨p, hp, rfl⟩)
      exact ⟨l, s, e, l0, by omega, s0, s6⟩
    have s12' := same_new (o := .lst (ys2.map fun k => V.ref k.1)) nq2
    have pks : ks.Perm (kvs.map (·.1)) := (List.perm_ext_iff_of_nodup hnd nd2).mpr fun k => (hmem k).trans (hm k).symm
    have pk : (ys.map fun k => kyP k.2).Perm (ys2.map fun k => kyP k.2) := (perm1.map _).trans (by rw [hz2]; exact pks.trans perm2.symm)
    have pp := pk.map unK
    rw [map_unK, map_unK] at pp
    have eqp : ys.map (·.2) = ys2.map (·.2) := sorted_eq (fun z => TS.code 6 [z.1, z.2]) _ _ pp (List.pairwise_map.mpr srt1) (List.pairwise_map.mpr srt2) fun x hx y hy e => by
      obtain ⟨x, hx2, rfl⟩ := List.mem_map.mp hx
      obtain ⟨y, hy2, rfl⟩ := List.mem_map.mp hy
      obtain ⟨_, a1, a2, a3, a4⟩ := hz3 x (perm1.mem_iff.mp hx2)
      obtain ⟨_, b1, b2, b3, b4⟩ := hz3 y (perm1.mem_iff.mp hy2)
      exact code_inj a1 a2 a3 a4 b1 b2 b3 b4 e
    have eqk : (ys.map fun k => kyP k.2) = ys2.map fun k => kyP k.2 := by
      have := congrArg (List.map kyP) eqp
      rw [List.map_map, List.map_map] at this
      exact this
    have fk : ∀ x ∈ ys2.map fun k => kyP k.2, Fk x := fun x hx => by
      obtain ⟨y, _, rfl⟩ := List.mem_map.mp hx
      exact fk_nd _ _
    refine ⟨.list ((ys.map fun k => kyP k.2).map kyD), .list ((ys2.map fun k => kyP k.2).map kyD), .lst (SqL.of (s12' _ _ hq11)) (dps_keys fun y hy => s12' _ _ (ty11 y hy)), .lst (SqL.of upd_same) (dps_keys fun y hy => s12' _ _ (tn2 y hy)), by rw [eqk]; exact kyDs fk, kyDs fk, _, rfl, ?_⟩
    rw [eqk, eqv_keys]
    refine iteF ?_
    exact ⟨_, A9, B9, S9, rn7, pe7, rfl, (L11.same s12').more (by omega) (by omega), iv9⟩
  rintro σ H6 ⟨v6, A6, B6, S6, rn6, pe6, rfl, L6, iv6⟩
  refine ⟨_, rfl, o, A6, S6, rn6, _, _, rfl, L6.kh, ?_, fun H7 => q _⟩
  cases z : S6.inp (kIn 9) with
  | none => rfl
  | some x =>
    obtain ⟨j, e, j0, j4⟩ := iv6.io _ _ z
    have := kIn_inj e
    omega
end

end Sn

namespace Sn
open PySem PySem.Spec PyProof.Rows L2 TL
/-! ### updates of every level -/
theorem no_upd {vs : List V} {H : Hp} {Q : VK} {E : XK} (h : spUpd 0 vs H Q E) : False := by
  obtain ⟨o, b, A, X, S, pe, m, ni, k, L, n, z, out, _, _, _, lv, _⟩ := h
  exact no_lv lv
theorem upd_all {P : Program} {w : World} {K : PySem.W.Frag} {mg : Str → Option Value} {base : Heap} {CK CR CC CU CS aF fG fV fU fR : Addr} {dG dV dU dR : FuncData} (TM : NmM K mg aF CK CR CC CU CS)
    (FG : Fun K "_law_get" "_law_get" s_l_get fG dG) (BG : Binds K dG ["model", "used", "key"] []) (MG : mg "_law_get" = some (.ref fG))
    (FV : Fun K "_law_value" "_law_value" s_l_value fV dV) (BV : Binds K dV ["model", "used", "key"] []) (MV : mg "_law_value" = some (.ref fV))
    (FU : Fun K "_law_update" "_law_update" s_l_update fU dU) (BU : Binds K dU ["model", "key"] []) (MU : mg "_law_update" = some (.ref fU))
    (FR : Fun K "_law_renew" "_law_renew" s_l_renew fR dR) (BR : Binds K dR ["model", "key", "old"] []) (MR : mg "_law_renew" = some (.ref fR)) : ∀ l : Nat, Cal P w K mg base CX0 (1 + 4 * l) "_law_update" (spUpd l)
  | 0 => ⟨fU, dU, _, ⟨fun _ _ _ _ h => (no_upd h).elim, fun _ _ _ _ _ _ _ _ _ _ _ _ _ h => (no_upd h).elim⟩, MU, FU.kp, BU⟩
  | l + 1 => by
    have u : Cal P w K mg base CX0 (1 + 4 * l) "_law_update" (spUpd l) := upd_all TM FG BG MG FV BV MV FU BU MU FR BR MR l
    have g : Cal P w K mg base CX0 (1 + 4 * l + 1) "_law_get" (spGet l) := ⟨fG, dG, _, ok_l_get FG TM u, MG, FG.kp, BG⟩
    have v : Cal P w K mg base CX0 (1 + 4 * l + 1 + 1) "_law_value" (spVal l) := ⟨fV, dV, _, ok_l_value FV TM g, MV, FV.kp, BV⟩
    have r : Cal P w K mg base CX0 (1 + 4 * l + 1 + 1 + 1) "_law_renew" (spRen l) := ⟨fR, dR, _, ok_l_renew FR TM v, MR, FR.kp, BR⟩
    exact ⟨fU, dU, _, ok_l_update (Lu := 1 + 4 * l) (L := 1 + 4 * l + 3) (by omega) FU TM u r, MU, FU.kp, BU⟩

end Sn

namespace Sn
open PySem PySem.Spec PyProof.Rows L2 TL
theorem all_mk {l : PySem.W.OpenLaw} {w : World} {K : PySem.W.Frag} {h : Heap} {mg : Str → Option Value} {fa f0 f1 f2 f3 f4 f5 f6 f7 f8 f9 f10 f11 f12 f13 f14 f15 : Addr}
    {od0 an0 od1 an1 od2 an2 od3 an3 od4 an4 od5 an5 od6 an6 od7 an7 od8 an8 od9 an9 od10 an10 od11 an11 od12 an12 od13 an13 od14 an14 od15 an15 : Option Addr} {sl0 sl1 sl2 sl3 sl4 sl5 sl6 sl7 sl8 sl9 sl10 sl11 sl12 sl13 sl14 sl15 : Array (Option Value)} {oc0 kV0 dc0 pm0 cd0 ct0 oc1 kV1 dc1 pm1 cd1 ct1 oc2 kV2 dc2 pm2 cd2 ct2 oc3 kV3 dc3 pm3 cd3 ct3 oc4 kV4 dc4 pm4 cd4 ct4 oc5 kV5 dc5 pm5 cd5 ct5 oc6 kV6 dc6 pm6 cd6 ct6 oc7 kV7 dc7 pm7 cd7 ct7 oc8 kV8 dc8 pm8 cd8 ct8 oc9 kV9 dc9 pm9 cd9 ct9 oc10 kV10 dc10 pm10 cd10 ct10 oc11 kV11 dc11 pm11 cd11 ct11 oc12 kV12 dc12 pm12 cd12 ct12 oc13 kV13 dc13 pm13 cd13 ct13 oc14 kV14 dc14 pm14 cd14 ct14 oc15 kV15 dc15 pm15 cd15 ct15 : Value}
    {CK CR CE CU CS : Addr}
    {f16 : Addr} {od16 an16 : Option Addr} {sl16 : Array (Option Value)} {oc16 kV16 dc16 pm16 cd16 ct16 : Value}
    {f17 : Addr} {od17 an17 : Option Addr} {sl17 : Array (Option Value)} {oc17 kV17 dc17 pm17 cd17 ct17 : Value}
    {f18 : Addr} {od18 an18 : Option Addr} {sl18 : Array (Option Value)} {oc18 kV18 dc18 pm18 cd18 ct18 : Value}
    {f19 : Addr} {od19 an19 : Option Addr} {sl19 : Array (Option Value)} {oc19 kV19 dc19 pm19 cd19 ct19 : Value}
    {f20 : Addr} {od20 an20 : Option Addr} {sl20 : Array (Option Value)} {oc20 kV20 dc20 pm20 cd20 ct20 : Value}
    {f21 : Addr} {od21 an21 : Option Addr} {sl21 : Array (Option Value)} {oc21 kV21 dc21 pm21 cd21 ct21 : Value}
    {f22 : Addr} {od22 an22 : Option Addr} {sl22 : Array (Option Value)} {oc22 kV22 dc22 pm22 cd22 ct22 : Value}
    {f23 : Addr} {od23 an23 : Option Addr} {sl23 : Array (Option Value)} {oc23 kV23 dc23 pm23 cd23 ct23 : Value}
    {f24 : Addr} {od24 an24 : Option Addr} {sl24 : Array (Option Value)} {oc24 kV24 dc24 pm24 cd24 ct24 : Value}
    {f25 : Addr} {od25 an25 : Option Addr} {sl25 : Array (Option Value)} {oc25 kV25 dc25 pm25 cd25 ct25 : Value}
    {f26 : Addr} {od26 an26 : Option Addr} {sl26 : Array (Option Value)} {oc26 kV26 dc26 pm26 cd26 ct26 : Value}
    {f27 : Addr} {od27 an27 : Option Addr} {sl27 : Array (Option Value)} {oc27 kV27 dc27 pm27 cd27 ct27 : Value}
    {f28 : Addr} {od28 an28 : Option Addr} {sl28 : Array (Option Value)} {oc28 kV28 dc28 pm28 cd28 ct28 : Value}
    {f29 : Addr} {od29 an29 : Option Addr} {sl29 : Array (Option Value)} {oc29 kV29 dc29 pm29 cd29 ct29 : Value}
    {f30 : Addr} {od30 an30 : Option Addr} {sl30 : Array (Option Value)} {oc30 kV30 dc30 pm30 cd30 ct30 : Value}
    {f31 : Addr} {od31 an31 : Option Addr} {sl31 : Array (Option Value)} {oc31 kV31 dc31 pm31 cd31 ct31 : Value}
    {f32 : Addr} {od32 an32 : Option Addr} {sl32 : Array (Option Value)} {oc32 kV32 dc32 pm32 cd32 ct32 : Value} (X : K.In h) (G : h.Ns mainGlobals mg) (hfa : mg "law" = some (.ref fa))
    (a0 : PySem.W.nsIn K mainGlobals "_law_tape" = some (some (.ref f0)))
    (l0 : K.lookup f0 = some ⟨oc0, od0, .func (PySem.W.fnOf "_law_tape" "_law_tape" (defArgs s_tape) (defBody s_tape) (defScope s_tape) .none kV0 dc0 pm0 an0 cd0 ct0), sl0⟩)
    (c0 : PySem.W.codeIn K cd0 "_law_tape" = true)
    (k0 : PySem.W.keepIn K (.ref f0) = true)
    (a1 : PySem.W.nsIn K mainGlobals "_law_take" = some (some (.ref f1)))
    (l1 : K.lookup f1 = some ⟨oc1, od1, .func (PySem.W.fnOf "_law_take" "_law_take" (defArgs s_take) (defBody s_take) (defScope s_take) .none kV1 dc1 pm1 an1 cd1 ct1), sl1⟩)
    (c1 : PySem.W.codeIn K cd1 "_law_take" = true)
    (k1 : PySem.W.keepIn K (.ref f1) = true)
    (a2 : PySem.W.nsIn K mainGlobals "_law_is_integer" = some (some (.ref f2)))
    (l2 : K.lookup f2 = some ⟨oc2, od2, .func (PySem.W.fnOf "_law_is_integer" "_law_is_integer" (defArgs s_isInt) (defBody s_isInt) (defScope s_isInt) .none kV2 dc2 pm2 an2 cd2 ct2), sl2⟩)
    (c2 : PySem.W.codeIn K cd2 "_law_is_integer" = true)
    (k2 : PySem.W.keepIn K (.ref f2) = true)
    (a3 : PySem.W.nsIn K mainGlobals "_law_same_items" = some (some (.ref f3)))
    (l3 : K.lookup f3 = some ⟨oc3, od3, .func (PySem.W.fnOf "_law_same_items" "_law_same_items" (defArgs s_sameItems) (defBody s_sameItems) (defScope s_sameItems) .none kV3 dc3 pm3 an3 cd3 ct3), sl3⟩)
    (c3 : PySem.W.codeIn K cd3 "_law_same_items" = true)
    (k3 : PySem.W.keepIn K (.ref f3) = true)
    (a4 : PySem.W.nsIn K mainGlobals "_law_same" = some (some (.ref f4)))
    (l4 : K.lookup f4 = some ⟨oc4, od4, .func (PySem.W.fnOf "_law_same" "_law_same" (defArgs s_same) (defBody s_same) (defScope s_same) .none kV4 dc4 pm4 an4 cd4 ct4), sl4⟩)
    (c4 : PySem.W.codeIn K cd4 "_law_same" = true)
    (k4 : PySem.W.keepIn K (.ref f4) = true)
    (a5 : PySem.W.nsIn K mainGlobals "_law_compute" = some (some (.ref f5)))
    (l5 : K.lookup f5 = some ⟨oc5, od5, .func (PySem.W.fnOf "_law_compute" "_law_compute" (defArgs s_l_compute) (defBody s_l_compute) (defScope s_l_compute) .none kV5 dc5 pm5 an5 cd5 ct5), sl5⟩)
    (c5 : PySem.W.codeIn K cd5 "_law_compute" = true)
    (k5 : PySem.W.keepIn K (.ref f5) = true)
    (a6 : PySem.W.nsIn K mainGlobals "_law_key" = some (some (.ref f6)))
    (l6 : K.lookup f6 = some ⟨oc6, od6, .func (PySem.W.fnOf "_law_key" "_law_key" (defArgs s_l_key) (defBody s_l_key) (defScope s_l_key) .none kV6 dc6 pm6 an6 cd6 ct6), sl6⟩)
    (c6 : PySem.W.codeIn K cd6 "_law_key" = true)
    (k6 : PySem.W.keepIn K (.ref f6) = true)
    (a7 : PySem.W.nsIn K mainGlobals "_law_get" = some (some (.ref f7)))
    (l7 : K.lookup f7 = some ⟨oc7, od7, .func (PySem.W.fnOf "_law_get" "_law_get" (defArgs s_l_get) (defBody s_l_get) (defScope s_l_get) .none kV7 dc7 pm7 an7 cd7 ct7), sl7⟩)
    (c7 : PySem.W.codeIn K cd7 "_law_get" = true)
    (k7 : PySem.W.keepIn K (.ref f7) = true)
    (a8 : PySem.W.nsIn K mainGlobals "_law_value" = some (some (.ref f8)))
    (l8 : K.lookup f8 = some ⟨oc8, od8, .func (PySem.W.fnOf "_law_value" "_law_value" (defArgs s_l_value) (defBody s_l_value) (defScope s_l_value) .none kV8 dc8 pm8 an8 cd8 ct8), sl8⟩)
    (c8 : PySem.W.codeIn K cd8 "_law_value" = true)
    (k8 : PySem.W.keepIn K (.ref f8) = true)
    (a9 : PySem.W.nsIn K mainGlobals "_law_update" = some (some (.ref f9)))
    (l9 : K.lookup f9 = some ⟨oc9, od9, .func (PySem.W.fnOf "_law_update" "_law_update" (defArgs s_l_update) (defBody s_l_update) (defScope s_l_update) .none kV9 dc9 pm9 an9 cd9 ct9), sl9⟩)
    (c9 : PySem.W.codeIn K cd9 "_law_update" = true)
    (k9 : PySem.W.keepIn K (.ref f9) = true)
    (a10 : PySem.W.nsIn K mainGlobals "_law_renew" = some (some (.ref f10)))
    (l10 : K.lookup f10 = some ⟨oc10, od10, .func (PySem.W.fnOf "_law_renew" "_law_renew" (defArgs s_l_renew) (defBody s_l_renew) (defScope s_l_renew) .none kV10 dc10 pm10 an10 cd10 ct10), sl10⟩)
    (c10 : PySem.W.codeIn K cd10 "_law_renew" = true)
    (k10 : PySem.W.keepIn K (.ref f10) = true)
    (a11 : PySem.W.nsIn K mainGlobals "_law_put" = some (some (.ref f11)))
    (l11 : K.lookup f11 = some ⟨oc11, od11, .func (PySem.W.fnOf "_law_put" "_law_put" (defArgs s_l_put) (defBody s_l_put) (defScope s_l_put) .none kV11 dc11 pm11 an11 cd11 ct11), sl11⟩)
    (c11 : PySem.W.codeIn K cd11 "_law_put" = true)
    (k11 : PySem.W.keepIn K (.ref f11) = true)
    (a12 : PySem.W.nsIn K mainGlobals "_law_ask" = some (some (.ref f12)))
    (l12 : K.lookup f12 = some ⟨oc12, od12, .func (PySem.W.fnOf "_law_ask" "_law_ask" (defArgs s_l_ask) (defBody s_l_ask) (defScope s_l_ask) .none kV12 dc12 pm12 an12 cd12 ct12), sl12⟩)
    (c12 : PySem.W.codeIn K cd12 "_law_ask" = true)
    (k12 : PySem.W.keepIn K (.ref f12) = true)
    (a13 : PySem.W.nsIn K mainGlobals "_law_unknown" = some (some (.ref f13)))
    (l13 : K.lookup f13 = some ⟨oc13, od13, .func (PySem.W.fnOf "_law_unknown" "_law_unknown" (defArgs s_l_unknown) (defBody s_l_unknown) (defScope s_l_unknown) .none kV13 dc13 pm13 an13 cd13 ct13), sl13⟩)
    (c13 : PySem.W.codeIn K cd13 "_law_unknown" = true)
    (k13 : PySem.W.keepIn K (.ref f13) = true)
    (a14 : PySem.W.nsIn K mainGlobals "_law_step" = some (some (.ref f14)))
    (l14 : K.lookup f14 = some ⟨oc14, od14, .func (PySem.W.fnOf "_law_step" "_law_step" (defArgs s_l_step) (defBody s_l_step) (defScope s_l_step) .none kV14 dc14 pm14 an14 cd14 ct14), sl14⟩)
    (c14 : PySem.W.codeIn K cd14 "_law_step" = true)
    (k14 : PySem.W.keepIn K (.ref f14) = true)
    (a15 : PySem.W.nsIn K mainGlobals "law" = some (some (.ref f15)))
    (l15 : K.lookup f15 = some ⟨oc15, od15, .func (PySem.W.fnOf "law" "law" (defArgs s_law) (defBody s_law) (defScope s_law) .none kV15 dc15 pm15 an15 cd15 ct15), sl15⟩)
    (c15 : PySem.W.codeIn K cd15 "law" = true)
    (k15 : PySem.W.keepIn K (.ref f15) = true)
    (a16 : PySem.W.findIn K (.ref CR) "__init__" = some (some (.ref f16)))
    (i16 : PySem.W.isFn K (.ref f16) = true)
    (l16 : K.lookup f16 = some ⟨oc16, od16, .func (PySem.W.fnOf "__init__" "Run.__init__" (defArgs s_Run_init) (defBody s_Run_init) (defScope s_Run_init) .none kV16 dc16 pm16 an16 cd16 ct16), sl16⟩)
    (c16 : PySem.W.codeIn K cd16 "Run.__init__" = true)
    (k16 : PySem.W.keepIn K (.ref f16) = true)
    (a17 : PySem.W.findIn K (.ref CK) "__init__" = some (some (.ref f17)))
    (i17 : PySem.W.isFn K (.ref f17) = true)
    (l17 : K.lookup f17 = some ⟨oc17, od17, .func (PySem.W.fnOf "__init__" "Keeper.__init__" (defArgs s_K_init) (defBody s_K_init) (defScope s_K_init) .none kV17 dc17 pm17 an17 cd17 ct17), sl17⟩)
    (c17 : PySem.W.codeIn K cd17 "Keeper.__init__" = true)
    (k17 : PySem.W.keepIn K (.ref f17) = true)
    (a18 : PySem.W.findIn K (.ref CK) "put" = some (some (.ref f18)))
    (i18 : PySem.W.isFn K (.ref f18) = true)
    (l18 : K.lookup f18 = some ⟨oc18, od18, .func (PySem.W.fnOf "put" "Keeper.put" (defArgs s_K_put) (defBody s_K_put) (defScope s_K_put) .none kV18 dc18 pm18 an18 cd18 ct18), sl18⟩)
    (c18 : PySem.W.codeIn K cd18 "Keeper.put" = true)
    (k18 : PySem.W.keepIn K (.ref f18) = true)
    (a19 : PySem.W.findIn K (.ref CK) "drop" = some (some (.ref f19)))
    (i19 : PySem.W.isFn K (.ref f19) = true)
    (l19 : K.lookup f19 = some ⟨oc19, od19, .func (PySem.W.fnOf "drop" "Keeper.drop" (defArgs s_K_drop) (defBody s_K_drop) (defScope s_K_drop) .none kV19 dc19 pm19 an19 cd19 ct19), sl19⟩)
    (c19 : PySem.W.codeIn K cd19 "Keeper.drop" = true)
    (k19 : PySem.W.keepIn K (.ref f19) = true)
    (a20 : PySem.W.findIn K (.ref CK) "limit" = some (some (.ref f20)))
    (i20 : PySem.W.isFn K (.ref f20) = true)
    (l20 : K.lookup f20 = some ⟨oc20, od20, .func (PySem.W.fnOf "limit" "Keeper.limit" (defArgs s_K_limit) (defBody s_K_limit) (defScope s_K_limit) .none kV20 dc20 pm20 an20 cd20 ct20), sl20⟩)
    (c20 : PySem.W.codeIn K cd20 "Keeper.limit" = true)
    (k20 : PySem.W.keepIn K (.ref f20) = true)
    (a21 : PySem.W.findIn K (.ref CK) "forget" = some (some (.ref f21)))
    (i21 : PySem.W.isFn K (.ref f21) = true)
    (l21 : K.lookup f21 = some ⟨oc21, od21, .func (PySem.W.fnOf "forget" "Keeper.forget" (defArgs s_K_forget) (defBody s_K_forget) (defScope s_K_forget) .none kV21 dc21 pm21 an21 cd21 ct21), sl21⟩)
    (c21 : PySem.W.codeIn K cd21 "Keeper.forget" = true)
    (k21 : PySem.W.keepIn K (.ref f21) = true)
    (a22 : PySem.W.findIn K (.ref CK) "forget_all" = some (some (.ref f22)))
    (i22 : PySem.W.isFn K (.ref f22) = true)
    (l22 : K.lookup f22 = some ⟨oc22, od22, .func (PySem.W.fnOf "forget_all" "Keeper.forget_all" (defArgs s_K_forget_all) (defBody s_K_forget_all) (defScope s_K_forget_all) .none kV22 dc22 pm22 an22 cd22 ct22), sl22⟩)
    (c22 : PySem.W.codeIn K cd22 "Keeper.forget_all" = true)
    (k22 : PySem.W.keepIn K (.ref f22) = true)
    (a23 : PySem.W.findIn K (.ref CK) "revision" = some (some (.ref f23)))
    (i23 : PySem.W.isFn K (.ref f23) = true)
    (l23 : K.lookup f23 = some ⟨oc23, od23, .func (PySem.W.fnOf "revision" "Keeper.revision" (defArgs s_K_revision) (defBody s_K_revision) (defScope s_K_revision) .none kV23 dc23 pm23 an23 cd23 ct23), sl23⟩)
    (c23 : PySem.W.codeIn K cd23 "Keeper.revision" = true)
    (k23 : PySem.W.keepIn K (.ref f23) = true)
    (a24 : PySem.W.findIn K (.ref CK) "computed" = some (some (.ref f24)))
    (i24 : PySem.W.isFn K (.ref f24) = true)
    (l24 : K.lookup f24 = some ⟨oc24, od24, .func (PySem.W.fnOf "computed" "Keeper.computed" (defArgs s_K_computed) (defBody s_K_computed) (defScope s_K_computed) .none kV24 dc24 pm24 an24 cd24 ct24), sl24⟩)
    (c24 : PySem.W.codeIn K cd24 "Keeper.computed" = true)
    (k24 : PySem.W.keepIn K (.ref f24) = true)
    (a25 : PySem.W.findIn K (.ref CK) "kept" = some (some (.ref f25)))
    (i25 : PySem.W.isFn K (.ref f25) = true)
    (l25 : K.lookup f25 = some ⟨oc25, od25, .func (PySem.W.fnOf "kept" "Keeper.kept" (defArgs s_K_kept) (defBody s_K_kept) (defScope s_K_kept) .none kV25 dc25 pm25 an25 cd25 ct25), sl25⟩)
    (c25 : PySem.W.codeIn K cd25 "Keeper.kept" = true)
    (k25 : PySem.W.keepIn K (.ref f25) = true)
    (a26 : PySem.W.findIn K (.ref CK) "ask" = some (some (.ref f26)))
    (i26 : PySem.W.isFn K (.ref f26) = true)
    (l26 : K.lookup f26 = some ⟨oc26, od26, .func (PySem.W.fnOf "ask" "Keeper.ask" (defArgs s_K_ask) (defBody s_K_ask) (defScope s_K_ask) .none kV26 dc26 pm26 an26 cd26 ct26), sl26⟩)
    (c26 : PySem.W.codeIn K cd26 "Keeper.ask" = true)
    (k26 : PySem.W.keepIn K (.ref f26) = true)
    (a27 : PySem.W.findIn K (.ref CK) "_entered" = some (some (.ref f27)))
    (i27 : PySem.W.isFn K (.ref f27) = true)
    (l27 : K.lookup f27 = some ⟨oc27, od27, .func (PySem.W.fnOf "_entered" "Keeper._entered" (defArgs s_K_entered) (defBody s_K_entered) (defScope s_K_entered) .none kV27 dc27 pm27 an27 cd27 ct27), sl27⟩)
    (c27 : PySem.W.codeIn K cd27 "Keeper._entered" = true)
    (k27 : PySem.W.keepIn K (.ref f27) = true)
    (a28 : PySem.W.findIn K (.ref CK) "_wanted" = some (some (.ref f28)))
    (i28 : PySem.W.isFn K (.ref f28) = true)
    (l28 : K.lookup f28 = some ⟨oc28, od28, .func (PySem.W.fnOf "_wanted" "Keeper._wanted" (defArgs s_K_wanted) (defBody s_K_wanted) (defScope s_K_wanted) .none kV28 dc28 pm28 an28 cd28 ct28), sl28⟩)
    (c28 : PySem.W.codeIn K cd28 "Keeper._wanted" = true)
    (k28 : PySem.W.keepIn K (.ref f28) = true)
    (a29 : PySem.W.findIn K (.ref CK) "_is_checked" = some (some (.ref f29)))
    (i29 : PySem.W.isFn K (.ref f29) = true)
    (l29 : K.lookup f29 = some ⟨oc29, od29, .func (PySem.W.fnOf "_is_checked" "Keeper._is_checked" (defArgs s_K_is_checked) (defBody s_K_is_checked) (defScope s_K_is_checked) .none kV29 dc29 pm29 an29 cd29 ct29), sl29⟩)
    (c29 : PySem.W.codeIn K cd29 "Keeper._is_checked" = true)
    (k29 : PySem.W.keepIn K (.ref f29) = true)
    (a30 : PySem.W.findIn K (.ref CK) "_changed" = some (some (.ref f30)))
    (i30 : PySem.W.isFn K (.ref f30) = true)
    (l30 : K.lookup f30 = some ⟨oc30, od30, .func (PySem.W.fnOf "_changed" "Keeper._changed" (defArgs s_K_changed) (defBody s_K_changed) (defScope s_K_changed) .none kV30 dc30 pm30 an30 cd30 ct30), sl30⟩)
    (c30 : PySem.W.codeIn K cd30 "Keeper._changed" = true)
    (k30 : PySem.W.keepIn K (.ref f30) = true)
    (a31 : PySem.W.findIn K (.ref CK) "_begin" = some (some (.ref f31)))
    (i31 : PySem.W.isFn K (.ref f31) = true)
    (l31 : K.lookup f31 = some ⟨oc31, od31, .func (PySem.W.fnOf "_begin" "Keeper._begin" (defArgs s_K_begin) (defBody s_K_begin) (defScope s_K_begin) .none kV31 dc31 pm31 an31 cd31 ct31), sl31⟩)
    (c31 : PySem.W.codeIn K cd31 "Keeper._begin" = true)
    (k31 : PySem.W.keepIn K (.ref f31) = true)
    (a32 : PySem.W.findIn K (.ref CK) "_end" = some (some (.ref f32)))
    (i32 : PySem.W.isFn K (.ref f32) = true)
    (l32 : K.lookup f32 = some ⟨oc32, od32, .func (PySem.W.fnOf "_end" "Keeper._end" (defArgs s_K_end) (defBody s_K_end) (defScope s_K_end) .none kV32 dc32 pm32 an32 cd32 ct32), sl32⟩)
    (c32 : PySem.W.codeIn K cd32 "Keeper._end" = true)
    (k32 : PySem.W.keepIn K (.ref f32) = true)
    (z0 : PySem.W.nsIn K mainGlobals "abs" = some none)
    (z1 : PySem.W.nsIn K mainGlobals "int" = some none)
    (z2 : PySem.W.nsIn K mainGlobals "len" = some none)
    (z3 : PySem.W.nsIn K mainGlobals "range" = some none)
    (z4 : PySem.W.nsIn K mainGlobals "isinstance" = some none)
    (z5 : PySem.W.nsIn K mainGlobals "bool" = some none)
    (z6 : PySem.W.nsIn K mainGlobals "str" = some none)
    (z7 : PySem.W.nsIn K mainGlobals "tuple" = some none)
    (z8 : PySem.W.nsIn K mainGlobals "list" = some none)
    (z9 : PySem.W.nsIn K mainGlobals "sorted" = some none)
    (aCK : PySem.W.nsIn K mainGlobals "Keeper" = some (some (.ref CK)))
    (aCR : PySem.W.nsIn K mainGlobals "Run" = some (some (.ref CR)))
    (aCE : PySem.W.nsIn K mainGlobals "Cancelled" = some (some (.ref CE)))
    (pg1 : PySem.W.plainGet K CK Str.empty = true)
    (hd1 : PySem.W.hasDictIn K CK = true)
    (po1 : PySem.W.plainOver K CK = true)
    (sa1 : PySem.W.findIn K (.ref CK) "__setattr__" = some (some (.builtin "object.__setattr__")))
    (mk1 : PySem.W.makesIn K CK = true)
    (kc1 : PySem.W.keepIn K (.ref CK) = true)
    (pg2 : PySem.W.plainGet K CR Str.empty = true)
    (hd2 : PySem.W.hasDictIn K CR = true)
    (po2 : PySem.W.plainOver K CR = true)
    (sa2 : PySem.W.findIn K (.ref CR) "__setattr__" = some (some (.builtin "object.__setattr__")))
    (mk2 : PySem.W.makesIn K CR = true)
    (kc2 : PySem.W.keepIn K (.ref CR) = true)
    (n1 : PySem.W.findIn K (.ref CK) "_function" = some none)
    (n2 : PySem.W.findIn K (.ref CK) "_now" = some none)
    (n3 : PySem.W.findIn K (.ref CK) "_left" = some none)
    (n4 : PySem.W.findIn K (.ref CK) "_inputs" = some none)
    (n5 : PySem.W.findIn K (.ref CK) "_entries" = some none)
    (n6 : PySem.W.findIn K (.ref CK) "_runs" = some none)
    (n7 : PySem.W.findIn K (.ref CK) "_asked" = some none)
    (n8 : PySem.W.findIn K (.ref CK) "_ended" = some none)
    (nl : PySem.W.findIn K (.ref CR) "live" = some none)
    (nkr : (CK == CR) = false)
    (xI : PySem.W.excIn K CE [.type "ValueError", .type "Exception", .type "BaseException", .type "object"] "ValueError.__new__" = true)
    (kI : PySem.W.keepIn K (.ref CE) = true)
    (bI : PySem.W.subIn K (.ref CE) (.type "BaseException") = some true)
    (tI : PySem.W.typeIn K (.ref CE) = some (.type "type"))
    (iC : PySem.W.isClsIn K CE = true)
    (sC : PySem.W.subIn K (.ref CE) (.ref CE) = some true)
    (aCU : PySem.W.nsIn K mainGlobals "UnknownKey" = some (some (.ref CU)))
    (aCS : PySem.W.nsIn K mainGlobals "ServerError" = some (some (.ref CS)))
    (xU : PySem.W.excIn K CU [.type "ValueError", .type "Exception", .type "BaseException", .type "object"] "ValueError.__new__" = true)
    (kU : PySem.W.keepIn K (.ref CU) = true)
    (bU : PySem.W.subIn K (.ref CU) (.type "BaseException") = some true)
    (tU : PySem.W.typeIn K (.ref CU) = some (.type "type"))
    (iU : PySem.W.isClsIn K CU = true)
    (sU : PySem.W.subIn K (.ref CU) (.ref CU) = some true)
    (eg : PySem.W.findIn K (.ref CE) "__getattribute__" = some (some (.builtin "BaseException.__getattribute__")))
    (ek : PySem.W.findIn K (.ref CE) "__getattr__" = some none)
    (ed : PySem.W.hasDictIn K CE = true)
    (ea : PySem.W.findIn K (.ref CE) "__class__" = some (some (.builtin "object.__class__")))
    (en : PySem.W.specialIn K (.builtin "object.__class__") "__get__" = some (some (.builtin "getset_descriptor.__get__")))
    (et : PySem.W.takesIn K (.builtin "object.__class__") = some true)
    (em : PySem.W.mroIn K CE (.type "object") = some true)
    (iS : PySem.W.isClsIn K CS = true)
    (tS : PySem.W.typeIn K (.ref CS) = some (.type "type"))
    (sS : PySem.W.subIn K (.ref CE) (.ref CS) = some true) :
    ∃ fd : FuncData, (∀ (s : Shared) (v : Value), BindsTo s fd ⟨[v], []⟩ [("script", v)]) ∧ ∀ base : Heap, K.In base → base.Ns mainGlobals mg → FnOk l.prog w K mg base CX0 24 fa fd ["script"] (spLaw K) := by
  have e := hfa.symm.trans (PySem.W.mg_of X G a15)
  cases e
  have F0 := fun_mk (st := s_tape) l0 c0 k0
  have b0 := F0.binds (ps := ["script"]) fun _ _ _ _ _ _ us hl => match us, hl with | [_], _ => rfl
  have m0 := PySem.W.mg_of X G a0
  have F1 := fun_mk (st := s_take) l1 c1 k1
  have b1 := F1.binds (ps := ["tape", "many"]) fun _ _ _ _ _ _ us hl => match us, hl with | [_, _], _ => rfl
  have m1 := PySem.W.mg_of X G a1
  have F2 := fun_mk (st := s_isInt) l2 c2 k2
  have b2 := F2.binds (ps := ["actual"]) fun _ _ _ _ _ _ us hl => match us, hl with | [_], _ => rfl
  have m2 := PySem.W.mg_of X G a2
  have F3 := fun_mk (st := s_sameItems) l3 c3 k3
  have b3 := F3.binds (ps := ["actual", "expected"]) fun _ _ _ _ _ _ us hl => match us, hl with | [_, _], _ => rfl
  have m3 := PySem.W.mg_of X G a3
  have F4 := fun_mk (st := s_same) l4 c4 k4
  have b4 := F4.binds (ps := ["actual", "expected"]) fun _ _ _ _ _ _ us hl => match us, hl with | [_, _], _ => rfl
  have m4 := PySem.W.mg_of X G a4
  have F5 := fun_mk (st := s_l_compute) l5 c5 k5
  have b5 := F5.binds (ps := ["keeper", "key"]) fun _ _ _ _ _ _ us hl => match us, hl with | [_, _], _ => rfl
  have m5 := PySem.W.mg_of X G a5
  have F6 := fun_mk (st := s_l_key) l6 c6 k6
  have b6 := F6.binds (ps := ["tape"]) fun _ _ _ _ _ _ us hl => match us, hl with | [_], _ => rfl
  have m6 := PySem.W.mg_of X G a6
  have F7 := fun_mk (st := s_l_get) l7 c7 k7
  have b7 := F7.binds (ps := ["model", "used", "key"]) fun _ _ _ _ _ _ us hl => match us, hl with | [_, _, _], _ => rfl
  have m7 := PySem.W.mg_of X G a7
  have F8 := fun_mk (st := s_l_value) l8 c8 k8
  have b8 := F8.binds (ps := ["model", "used", "key"]) fun _ _ _ _ _ _ us hl => match us, hl with | [_, _, _], _ => rfl
  have m8 := PySem.W.mg_of X G a8
  have F9 := fun_mk (st := s_l_update) l9 c9 k9
  have b9 := F9.binds (ps := ["model", "key"]) fun _ _ _ _ _ _ us hl => match us, hl with | [_, _], _ => rfl
  have m9 := PySem.W.mg_of X G a9
  have F10 := fun_mk (st := s_l_renew) l10 c10 k10
  have b10 := F10.binds (ps := ["model", "key", "old"]) fun _ _ _ _ _ _ us hl => match us, hl with | [_, _, _], _ => rfl
  have m10 := PySem.W.mg_of X G a10
  have F11 := fun_mk (st := s_l_put) l11 c11 k11
  have b11 := F11.binds (ps := ["keeper", "model", "key", "value"]) fun _ _ _ _ _ _ us hl => match us, hl with | [_, _, _, _], _ => rfl
  have m11 := PySem.W.mg_of X G a11
  have F12 := fun_mk (st := s_l_ask) l12 c12 k12
  have b12 := F12.binds (ps := ["keeper", "model", "key", "limit"]) fun _ _ _ _ _ _ us hl => match us, hl with | [_, _, _, _], _ => rfl
  have m12 := PySem.W.mg_of X G a12
  have F13 := fun_mk (st := s_l_unknown) l13 c13 k13
  have b13 := F13.binds (ps := ["keeper"]) fun _ _ _ _ _ _ us hl => match us, hl with | [_], _ => rfl
  have m13 := PySem.W.mg_of X G a13
  have F14 := fun_mk (st := s_l_step) l14 c14 k14
  have b14 := F14.binds (ps := ["tape", "keeper", "model"]) fun _ _ _ _ _ _ us hl => match us, hl with | [_, _, _], _ => rfl
  have m14 := PySem.W.mg_of X G a14
  have F15 := fun_mk (st := s_law) l15 c15 k15
  have F16 := fun_mk (st := s_Run_init) l16 c16 k16
  have b16 := F16.binds (ps := ["self"]) fun _ _ _ _ _ _ us hl => match us, hl with | [_], _ => rfl
  have F17 := fun_mk (st := s_K_init) l17 c17 k17
  have b17 := F17.binds (ps := ["self", "compute"]) fun _ _ _ _ _ _ us hl => match us, hl with | [_, _], _ => rfl
  have F18 := fun_mk (st := s_K_put) l18 c18 k18
  have b18 := F18.binds (ps := ["self", "key", "value"]) fun _ _ _ _ _ _ us hl => match us, hl with | [_, _, _], _ => rfl
  have F19 := fun_mk (st := s_K_drop) l19 c19 k19
  have b19 := F19.binds (ps := ["self", "key"]) fun _ _ _ _ _ _ us hl => match us, hl with | [_, _], _ => rfl
  have F20 := fun_mk (st := s_K_limit) l20 c20 k20
  have b20 := F20.binds (ps := ["self", "count"]) fun _ _ _ _ _ _ us hl => match us, hl with | [_, _], _ => rfl
  have F21 := fun_mk (st := s_K_forget) l21 c21 k21
  have b21 := F21.binds (ps := ["self", "key"]) fun _ _ _ _ _ _ us hl => match us, hl with | [_, _], _ => rfl
  have F22 := fun_mk (st := s_K_forget_all) l22 c22 k22
  have b22 := F22.binds (ps := ["self"]) fun _ _ _ _ _ _ us hl => match us, hl with | [_], _ => rfl
  have F23 := fun_mk (st := s_K_revision) l23 c23 k23
  have b23 := F23.binds (ps := ["self"]) fun _ _ _ _ _ _ us hl => match us, hl with | [_], _ => rfl
  have F24 := fun_mk (st := s_K_computed) l24 c24 k24
  have b24 := F24.binds (ps := ["self"]) fun _ _ _ _ _ _ us hl => match us, hl with | [_], _ => rfl
  have F25 := fun_mk (st := s_K_kept) l25 c25 k25
  have b25 := F25.binds (ps := ["self"]) fun _ _ _ _ _ _ us hl => match us, hl with | [_], _ => rfl
  have F26 := fun_mk (st := s_K_ask) l26 c26 k26
  have b26 := F26.binds (ps := ["self", "key"]) fun _ _ _ _ _ _ us hl => match us, hl with | [_, _], _ => rfl
  have F27 := fun_mk (st := s_K_entered) l27 c27 k27
  have b27 := F27.binds (ps := ["self", "key", "run"]) fun _ _ _ _ _ _ us hl => match us, hl with | [_, _, _], _ => rfl
  have F28 := fun_mk (st := s_K_wanted) l28 c28 k28
  have b28 := F28.binds (ps := ["self", "step"]) fun _ _ _ _ _ _ us hl => match us, hl with | [_, _], _ => rfl
  have F29 := fun_mk (st := s_K_is_checked) l29 c29 k29
  have b29 := F29.binds (ps := ["self", "key"]) fun _ _ _ _ _ _ us hl => match us, hl with | [_, _], _ => rfl
  have F30 := fun_mk (st := s_K_changed) l30 c30 k30
  have b30 := F30.binds (ps := ["self", "key"]) fun _ _ _ _ _ _ us hl => match us, hl with | [_, _], _ => rfl
  have F31 := fun_mk (st := s_K_begin) l31 c31 k31
  have b31 := F31.binds (ps := ["self"]) fun _ _ _ _ _ _ us hl => match us, hl with | [_], _ => rfl
  have F32 := fun_mk (st := s_K_end) l32 c32 k32
  have b32 := F32.binds (ps := ["self", "key", "value"]) fun _ _ _ _ _ _ us hl => match us, hl with | [_, _, _], _ => rfl
  refine ⟨PySem.W.fnOf "law" "law" (defArgs s_law) (defBody s_law) (defScope s_law) .none kV15 dc15 pm15 an15 cd15 ct15, fun s v => .of_eq rfl, fun base _ _ => ?_⟩
  have T : NmM K mg f5 CK CR CE CU CS := ⟨⟨⟨(PySem.W.mg_none_of X G z0), (PySem.W.mg_none_of X G z1), (PySem.W.mg_none_of X G z2), (PySem.W.mg_none_of X G z3), (PySem.W.mg_none_of X G z4), (PySem.W.mg_none_of X G z5), (PySem.W.mg_none_of X G z6), (PySem.W.mg_none_of X G z7), (PySem.W.mg_none_of X G z8)⟩, ⟨pg1, hd1, po1, sa1⟩, ⟨pg2, hd2, po2, sa2⟩, n1, n2, n3, n4, n5, n6, n7, n8, nl, PySem.W.mg_of X G aCK, PySem.W.mg_of X G aCR, PySem.W.mg_of X G a5, PySem.W.mg_of X G aCE, bI, tI, kI, xI, exm_of bI iC tI sC⟩, (PySem.W.mg_none_of X G z9), PySem.W.mg_of X G aCU, PySem.W.mg_of X G aCS, bU, tU, kU, xU, exm_of bU iU tU sU, ⟨eg, ek, bI, ed, ea, en, et, em⟩, kit_own iS tS sS⟩
  have M_K : KM K CK := ⟨⟨⟨_, _, F26, ⟨a26, i26, k26⟩, b26⟩⟩, ⟨⟨_, _, F27, ⟨a27, i27, k27⟩, b27⟩⟩, ⟨⟨_, _, F28, ⟨a28, i28, k28⟩, b28⟩⟩, ⟨⟨_, _, F29, ⟨a29, i29, k29⟩, b29⟩⟩, ⟨⟨_, _, F30, ⟨a30, i30, k30⟩, b30⟩⟩, ⟨⟨_, _, F31, ⟨a31, i31, k31⟩, b31⟩⟩, ⟨⟨_, _, F32, ⟨a32, i32, k32⟩, b32⟩⟩⟩
  have I_Run : CalO l.prog w K mg base CX0 1 CR (spRunI CR) := ⟨⟨_, _, _, ok_Run_init F16 T.toNmK, ⟨mk2, a16, i16, kc2⟩, b16⟩⟩
  have I_Keeper : CalO l.prog w K mg base CX0 1 CK (spKI vxx CK CR f5) := ⟨⟨_, _, _, ok_K_init F17 T.toNmK, ⟨mk1, a17, i17, kc1⟩, b17⟩⟩
  have C_Keeper_put : CalM l.prog w K mg base CX0 1 CK "put" (spPut vxx CK CR f5) := ⟨⟨_, _, _, ok_put F18 T.toNmK, ⟨a18, i18, k18⟩, b18⟩⟩
  have C_Keeper_limit : CalM l.prog w K mg base CX0 1 CK "limit" (spLim vxx CK CR f5) := ⟨⟨_, _, _, ok_limit F20 T.toNmK, ⟨a20, i20, k20⟩, b20⟩⟩
  have C_Keeper_forget : CalM l.prog w K mg base CX0 1 CK "forget" (spFor vxx CK CR f5) := ⟨⟨_, _, _, ok_forget F21 T.toNmK, ⟨a21, i21, k21⟩, b21⟩⟩
  have C_Keeper_computed : CalM l.prog w K mg base CX0 1 CK "computed" (spCom vxx CK CR f5) := ⟨⟨_, _, _, ok_computed F24 T.toNmK, ⟨a24, i24, k24⟩, b24⟩⟩
  have C_Keeper_drop : CalM l.prog w K mg base (L2.CX l.prog w) 1 CK "drop" (spDrop vxx CK CR CU f5) := ⟨⟨_, _, _, ok_drop F19 T, ⟨a19, i19, k19⟩, b19⟩⟩
  have C_Keeper_forget_all : CalM l.prog w K mg base CX0 1 CK "forget_all" (spFall vxx CK CR f5) := ⟨⟨_, _, _, ok_forget_all F22 T, ⟨a22, i22, k22⟩, b22⟩⟩
  have C_Keeper_revision : CalM l.prog w K mg base CX0 1 CK "revision" (spRev vxx CK CR f5) := ⟨⟨_, _, _, ok_revision F23 T, ⟨a23, i23, k23⟩, b23⟩⟩
  have C_Keeper_kept : CalM l.prog w K mg base CX0 1 CK "kept" (spKept vxx CK CR f5) := ⟨⟨_, _, _, ok_kept F25 T, ⟨a25, i25, k25⟩, b25⟩⟩
  have C_Keeper_ask : CalM l.prog w K mg base (L2.CX l.prog w) 13 CK "ask" (spAsk vxx Gk comp CK CR CE f5 5) := ask_all T.toNmK M_K I_Run F5 b5 5
  have C_law_tape : Cal l.prog w K mg base CX0 1 "_law_tape" (spTape K) := ⟨_, _, _, ok_tape F0 T.toNmK.toNm, m0, F0.kp, b0⟩
  have C_law_take : Cal l.prog w K mg base CX0 1 "_law_take" spTake := ⟨_, _, _, ok_take F1 T.toNmK.toNm, m1, F1.kp, b1⟩
  have C_law_is_integer : Cal l.prog w K mg base CX0 1 "_law_is_integer" spIsInt := ⟨_, _, _, ok_isInt F2 T.toNmK.toNm, m2, F2.kp, b2⟩
  have C_law_same : Cal l.prog w K mg base CX0 8 "_law_same" (spSame 4) := both F4 b4 m4 F3 b3 m3 T.toNmK.toNm C_law_is_integer 4
  have C_law_key : Cal l.prog w K mg base CX0 2 "_law_key" spKey := ⟨_, _, _, ok_l_key F6 T.toNmK C_law_take, m6, F6.kp, b6⟩
  have C_law_update : Cal l.prog w K mg base CX0 21 "_law_update" (spUpd 5) := upd_all T F7 b7 m7 F8 b8 m8 F9 b9 m9 F10 b10 m10 5
  have C_law_put : Cal l.prog w K mg base CX0 2 "_law_put" (spLPut CK CR f5) := ⟨_, _, _, ok_l_put F11 T C_Keeper_put, m11, F11.kp, b11⟩
  have C_law_ask : Cal l.prog w K mg base CX0 22 "_law_ask" (spLAsk CK CR f5) := ⟨_, _, _, ok_l_ask F12 T C_law_update C_law_same C_Keeper_limit C_Keeper_ask, m12, F12.kp, b12⟩
  have C_law_unknown : Cal l.prog w K mg base CX0 2 "_law_unknown" (spLUnk CK CR f5) := ⟨_, _, _, ok_l_unknown F13 T C_Keeper_drop, m13, F13.kp, b13⟩
  have C_law_step : Cal l.prog w K mg base CX0 23 "_law_step" (spLStep CK CR f5) := ⟨_, _, _, ok_l_step F14 T C_law_take C_law_key C_law_put C_law_ask C_Keeper_drop C_Keeper_forget C_Keeper_forget_all, m14, F14.kp, b14⟩
  exact ok_law F15 T (fun z => by simp [z] at nkr) C_law_tape C_law_take C_law_same C_law_put C_law_step C_law_unknown I_Keeper C_Keeper_computed C_Keeper_revision C_Keeper_kept
theorem walk {l : PySem.W.OpenLaw} {q : Program} {loose : List Str} {XP : (Str → Option Value) → Heap → Prop} {YP : World → Heap → Prop} {d : DefRec} {K : Params → PySem.W.Frag} (hn : l.most = some 63) (hdf : d.params.defaults = [])
    (hY : ∀ (w : World) (h : Heap), YP w h → (K w.params).In h)
    (F : ∀ (w : World) (mg : Str → Option Value) (fa : Addr) (h : Heap), (K w.params).In h → h.Ns mainGlobals mg → mg d.name = some (.ref fa) →
      ∃ fd : FuncData, (∀ (s : Shared) (u : Value), BindsTo s fd ⟨[u], []⟩ [("script", u)]) ∧ ∀ base : Heap, (K w.params).In base → base.Ns mainGlobals mg → FnOk l.prog w (K w.params) mg base CX0 24 fa fd ["script"] (spLaw (K w.params))) :
    PySem.W.WalkO q loose XP YP l.row.toRowW d [] (fun f vs => PySem.call f vs) :=
  L2.walk_of (n := 63) (k := 24) (x := "script") (CX := fun _ => CX0) (sp := fun w => spLaw (K w.params)) hn (by decide) hdf ⟨rfl, by decide, by decide⟩ hY F (fun _ _ a ns hl _ hS => ⟨a, ns, rfl, hS, hl, fun _ => rfl⟩) fun _ _ _ _ _ z => z
end Sn
open PySem PySem.W PyProof.Rows
set_option maxRecDepth 100000 in
set_option maxHeartbeats 0 in
theorem PySem.Challenge.cw_samenames_k20_keeper_is_its_definition_holds : PySem.Challenge.rw_samenames_k20_keeper_is_its_definition.Holds := by
  w_on; o_law; k_head; (case hw => w_witness2)
  k_fill
  refine Sn.walk (l := PySem.Challenge.rw_samenames_k20_keeper_is_its_definition) rfl rfl (fun w h Y => PySem.W.kIn_of Y) ?F
  case F =>
    intro w mg fa h KX G hmg
    refine' Sn.all_mk KX G hmg ?a0 ?l0 ?c0 ?k0 ?a1 ?l1 ?c1 ?k1 ?a2 ?l2 ?c2 ?k2 ?a3 ?l3 ?c3 ?k3 ?a4 ?l4 ?c4 ?k4 ?a5 ?l5 ?c5 ?k5 ?a6 ?l6 ?c6 ?k6 ?a7 ?l7 ?c7 ?k7 ?a8 ?l8 ?c8 ?k8 ?a9 ?l9 ?c9 ?k9 ?a10 ?l10 ?c10 ?k10 ?a11 ?l11 ?c11 ?k11 ?a12 ?l12 ?c12 ?k12 ?a13 ?l13 ?c13 ?k13 ?a14 ?l14 ?c14 ?k14 ?a15 ?l15 ?c15 ?k15 ?a16 ?i16 ?l16 ?c16 ?k16 ?a17 ?i17 ?l17 ?c17 ?k17 ?a18 ?i18 ?l18 ?c18 ?k18 ?a19 ?i19 ?l19 ?c19 ?k19 ?a20 ?i20 ?l20 ?c20 ?k20 ?a21 ?i21 ?l21 ?c21 ?k21 ?a22 ?i22 ?l22 ?c22 ?k22 ?a23 ?i23 ?l23 ?c23 ?k23 ?a24 ?i24 ?l24 ?c24 ?k24 ?a25 ?i25 ?l25 ?c25 ?k25 ?a26 ?i26 ?l26 ?c26 ?k26 ?a27 ?i27 ?l27 ?c27 ?k27 ?a28 ?i28 ?l28 ?c28 ?k28 ?a29 ?i29 ?l29 ?c29 ?k29 ?a30 ?i30 ?l30 ?c30 ?k30 ?a31 ?i31 ?l31 ?c31 ?k31 ?a32 ?i32 ?l32 ?c32 ?k32 ?z0 ?z1 ?z2 ?z3 ?z4 ?z5 ?z6 ?z7 ?z8 ?z9 ?aCK ?aCR ?aCE ?pg1 ?hd1 ?po1 ?sa1 ?mk1 ?kc1 ?pg2 ?hd2 ?po2 ?sa2 ?mk2 ?kc2 ?n1 ?n2 ?n3 ?n4 ?n5 ?n6 ?n7 ?n8 ?nl ?nkr ?xI ?kI ?bI ?tI ?iC ?sC ?aCU ?aCS ?xU ?kU ?bU ?tU ?iU ?sU ?eg ?ek ?ed ?ea ?en ?et ?em ?iS ?tS ?sS
    (case aCK => k_is)
    (case aCR => k_is)
    (case aCE => k_is)
    (case pg1 => k_is)
    (case hd1 => k_is)
    (case po1 => k_is)
    (case sa1 => k_is)
    (case mk1 => k_is)
    (case kc1 => k_is)
    (case pg2 => k_is)
    (case hd2 => k_is)
    (case po2 => k_is)
    (case sa2 => k_is)
    (case mk2 => k_is)
    (case kc2 => k_is)
    (case n1 => k_is)
    (case n2 => k_is)
    (case n3 => k_is)
    (case n4 => k_is)
    (case n5 => k_is)
    (case n6 => k_is)
    (case n7 => k_is)
    (case n8 => k_is)
    (case nl => k_is)
    (case nkr => first | rfl | decide +kernel)
    (case xI => k_exc)
    (case kI => k_is)
    (case bI => k_is)
    (case tI => k_is)
    (case iC => k_is)
    (case sC => k_is)
    (case aCU => k_is)
    (case aCS => k_is)
    (case xU => k_exc)
    (case kU => k_is)
    (case bU => k_is)
    (case tU => k_is)
    (case iU => k_is)
    (case sU => k_is)
    (case eg => k_is)
    (case ek => k_is)
    (case ed => k_is)
    (case ea => k_is)
    (case en => k_is)
    (case et => k_is)
    (case em => k_is)
    (case iS => k_is)
    (case tS => k_is)
    (case sS => k_is)
    (case a0 => k_is)
    (case l0 => k_is)
    (case c0 => k_is)
    (case k0 => k_is)
    (case a1 => k_is)
    (case l1 => k_is)
    (case c1 => k_is)
    (case k1 => k_is)
    (case a2 => k_is)
    (case l2 => k_is)
    (case c2 => k_is)
    (case k2 => k_is)
    (case a3 => k_is)
    (case l3 => k_is)
    (case c3 => k_is)
    (case k3 => k_is)
    (case a4 => k_is)
    (case l4 => k_is)
    (case c4 => k_is)
    (case k4 => k_is)
    (case a5 => k_is)
    (case l5 => k_is)
    (case c5 => k_is)
    (case k5 => k_is)
    (case a6 => k_is)
    (case l6 => k_is)
    (case c6 => k_is)
    (case k6 => k_is)
    (case a7 => k_is)
    (case l7 => k_is)
    (case c7 => k_is)
    (case k7 => k_is)
    (case a8 => k_is)
    (case l8 => k_is)
    (case c8 => k_is)
    (case k8 => k_is)
    (case a9 => k_is)
    (case l9 => k_is)
    (case c9 => k_is)
    (case k9 => k_is)
    (case a10 => k_is)
    (case l10 => k_is)
    (case c10 => k_is)
    (case k10 => k_is)
    (case a11 => k_is)
    (case l11 => k_is)
    (case c11 => k_is)
    (case k11 => k_is)
    (case a12 => k_is)
    (case l12 => k_is)
    (case c12 => k_is)
    (case k12 => k_is)
    (case a13 => k_is)
    (case l13 => k_is)
    (case c13 => k_is)
    (case k13 => k_is)
    (case a14 => k_is)
    (case l14 => k_is)
    (case c14 => k_is)
    (case k14 => k_is)
    (case a15 => k_is)
    (case l15 => k_is)
    (case c15 => k_is)
    (case k15 => k_is)
    (case a16 => k_is)
    (case i16 => k_is)
    (case l16 => k_is)
    (case c16 => k_is)
    (case k16 => k_is)
    (case a17 => k_is)
    (case i17 => k_is)
    (case l17 => k_is)
    (case c17 => k_is)
    (case k17 => k_is)
    (case a18 => k_is)
    (case i18 => k_is)
    (case l18 => k_is)
    (case c18 => k_is)
    (case k18 => k_is)
    (case a19 => k_is)
    (case i19 => k_is)
    (case l19 => k_is)
    (case c19 => k_is)
    (case k19 => k_is)
    (case a20 => k_is)
    (case i20 => k_is)
    (case l20 => k_is)
    (case c20 => k_is)
    (case k20 => k_is)
    (case a21 => k_is)
    (case i21 => k_is)
    (case l21 => k_is)
    (case c21 => k_is)
    (case k21 => k_is)
    (case a22 => k_is)
    (case i22 => k_is)
    (case l22 => k_is)
    (case c22 => k_is)
    (case k22 => k_is)
    (case a23 => k_is)
    (case i23 => k_is)
    (case l23 => k_is)
    (case c23 => k_is)
    (case k23 => k_is)
    (case a24 => k_is)
    (case i24 => k_is)
    (case l24 => k_is)
    (case c24 => k_is)
    (case k24 => k_is)
    (case a25 => k_is)
    (case i25 => k_is)
    (case l25 => k_is)
    (case c25 => k_is)
    (case k25 => k_is)
    (case a26 => k_is)
    (case i26 => k_is)
    (case l26 => k_is)
    (case c26 => k_is)
    (case k26 => k_is)
    (case a27 => k_is)
    (case i27 => k_is)
    (case l27 => k_is)
    (case c27 => k_is)
    (case k27 => k_is)
    (case a28 => k_is)
    (case i28 => k_is)
    (case l28 => k_is)
    (case c28 => k_is)
    (case k28 => k_is)
    (case a29 => k_is)
    (case i29 => k_is)
    (case l29 => k_is)
    (case c29 => k_is)
    (case k29 => k_is)
    (case a30 => k_is)
    (case i30 => k_is)
    (case l30 => k_is)
    (case c30 => k_is)
    (case k30 => k_is)
    (case a31 => k_is)
    (case i31 => k_is)
    (case l31 => k_is)
    (case c31 => k_is)
    (case k31 => k_is)
    (case a32 => k_is)
    (case i32 => k_is)
    (case l32 => k_is)
    (case c32 => k_is)
    (case k32 => k_is)
    (case z0 => k_is)
    (case z1 => k_is)
    (case z2 => k_is)
    (case z3 => k_is)
    (case z4 => k_is)
    (case z5 => k_is)
    (case z6 => k_is)
    (case z7 => k_is)
    (case z8 => k_is)
    (case z9 => k_is)
