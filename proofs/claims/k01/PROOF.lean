import PyProof.Rows.All
import Wide.All
import OpenK.AllK
import Wide.FinOn
import HandS.ForMost
import HandS.Exc
import HandS.ExcOwn
import HandS.TryOnly
import HandS.WordsExc
import HandS.FStr
import HandS.RaiseMore
import HandS.ExcIs
import HandS.IsInst
import HandS.AnyAll
import HandS.EndTab
import HandS.EndOwn
import HandS.Wide
import HandS.Evl
import HandS.Codes
import HandS.DictTup
import HandS.TupLen
import HandS.CallSlots
import PySem.Challenge.RW_farebreak_k01_told_prices
set_option Elab.async false
set_option linter.all false
set_option maxRecDepth 100000
set_option maxHeartbeats 2000000
/-! own tools over the hand layer -/
namespace Fb
open PySem PySem.Spec PyProof.Rows L2

/-! ### a code object's table as an object that only is what it is -/
def TabP (P : Addr) : Heap → Prop := fun h => ∃ ps : Array Value, h.get? P = some { cls := .none, data := .fields ps } ∧ TriplesOk ps.toList
def TabO (P : Addr) : HO := .ext (TabP P)
theorem tabO_ok {Pg : Program} {w : World} {H : Hp} {h : Heap} {P : Addr} {ps : Array Value} (e : h.get? P = some { cls := .none, data := .fields ps }) (t : TriplesOk ps.toList) : ObjOk Pg w H h P (TabO P) :=
  ⟨⟨ps, e, t⟩, ⟨_, e⟩, fun h1 h2 ⟨qs, e1, t1⟩ k => ⟨qs, k _ e1, t1⟩⟩
theorem mut_tabO {P : Addr} : Mut (some (TabO P)) := trivial
section
variable {X : Cx} {pins : List (Addr × Obj)} {σ : L2.St} {H H2 : Hp} {s s' : Shared} {P : Addr}
/-- from the table as such to the table by its fields -/
theorem tab_open (I : Inv X pins σ H s) (hP : H P = some (TabO P)) : ∃ ps : Array Value, TriplesOk ps.toList ∧ Inv X pins σ (upd H P (.tbl ps)) s := by
  obtain ⟨⟨ps, e, t⟩, _, _⟩ := I.hok P _ hP
  refine ⟨ps, t, ?_⟩
  have J := I.write (h' := s.heap) (t' := s.toks) (x := P) (e := P) (o := .tbl ps) (by rw [hP]; exact mut_tabO) (Or.inl rfl) (fun b u _ q => q) ⟨_, e⟩ (show ObjOk X.prog X.w _ s.heap P (.tbl ps) from e)
  exact J
theorem tab_shut (I : Inv X pins σ H s) (hP : H P = some (TabO P)) (J : Inv X pins σ H2 s') (hT : GxR.TabG H2 P) (hE : ∀ b, b ≠ P → H2 b = H b) : Inv X pins σ H s' := by
  obtain ⟨ps, hps, ht⟩ := hT
  have e : s'.heap.get? P = some { cls := .none, data := .fields ps } := J.hok P _ hps
  have at_ : ∀ b, H b = none → H2 b = none := fun b n => by rw [hE b (fun z => by rw [z, hP] at n; cases n)]; exact n
  have to_ : ∀ b, H2 b = none → H b = none := fun b n => by rw [← hE b (fun z => by rw [z, hps] at n; cases n)]; exact n
  refine ⟨J.ok, J.os, J.bare, ⟨J.base.keep, J.base.slot, fun b o h1 h2 h3 => to_ b (J.base.free b o h1 h2 h3), J.base.there, fun b xs h1 => ?_, fun b o u h1 => ?_, fun b qs h1 => ?_⟩, J.loc, J.cell, to_ _ J.free, fun x c h1 => to_ _ (J.freeC x c h1), fun p hp => ?_, fun a o ha => ?_, J.len⟩
  · have h2 := J.base.tups b xs h1
    have nb : b ≠ P := fun z => by rw [z, hps] at h2; cases h2
    rw [← hE b nb]; exact h2
  · have h2 := J.base.frzs b o u h1
    have nb : b ≠ P := fun z => by rw [z, hps] at h2; cases h2
    rw [← hE b nb]; exact h2
  · obtain ⟨m1, h2⟩ := I.base.tbls b qs h1
    have nb : b ≠ P := fun z => by rw [z, hP] at h2; cases h2
    obtain ⟨m2, h3⟩ := J.base.tbls b qs h1
    exact ⟨m2, by rw [← hE b nb]; exact h3⟩
  · obtain ⟨e1, n, r⟩ := J.pin p hp
    exact ⟨e1, to_ _ n, r⟩
  · by_cases hb : a = P
    · subst hb
      rw [hP] at ha; cases ha
      exact tabO_ok e ht
    · have ha2 : H2 a = some o := by rw [hE a hb]; exact ha
      refine (J.hok a o ha2).stay (fun d v _ q => q) (fun d q => ?_) fun d xs q => ?_
      · have nb : d ≠ P := fun z => by rw [z, hps] at q; cases q
        rw [← hE d nb]; exact q
      · have nb : d ≠ P := fun z => by rw [z, hps] at q; cases q
        rw [← hE d nb]; exact q
end
/-- an expression that reads a text and may let the table at P grow: seen from outside nothing changes -/
theorem pe_allP {X : Cx} {e : Expr} {P : Addr} {pb : Nat → Bool} {i : Nat} (h : PE X e (GxR.tAllS P pb (tVar i))) :
    PE X e (fun σ H Q => ∃ a : Str, σ[i]? = some (some (.str a)) ∧ H P = some (TabO P) ∧ Q (.bl (a.cps.toList.all pb)) H) := by
  refine ⟨fun pins s σ H Q I hq => ?_⟩
  obtain ⟨a, ha, hP, q⟩ := hq
  obtain ⟨ps, ht, J⟩ := tab_open I hP
  refine thn (h.run pins s σ (upd H P (.tbl ps)) (fun v H2 => v = .bl (a.cps.toList.all pb) ∧ GxR.Tabbed P (upd H P (.tbl ps)) H2) J ⟨.str a, ha, a, rfl, ⟨ps, upd_same, ht⟩, fun H2 hT => ⟨rfl, hT⟩⟩) fun u s1 ⟨v, H2, J2, r, ev, hT⟩ => ?_
  subst ev
  exact ⟨_, H, tab_shut I hP J2 hT.1 (fun b hb => (hT.2 b hb).trans (upd_ne hb)), r, q⟩
/-- 'a' <= sign <= 'z' -/
theorem elt_btw {prog : Program} {w : World} {scope : Scope} {x a b : Str} {j1 j2 : Nat} {p1 p2 p3 p4 : Pos} (hk : scope.kind = .function) (hl : scope.names.lookup x = some .local) (hd : (x == ("__debug__" : Str)) = false := by decide) :
    GxR.EltP prog w scope x (.Compare (.Constant (.str a) j1 p1) [.LtE, .LtE] [.Name x p2, .Constant (.str b) j2 p3] p4) (fun c => !decide ([c] < a.cps.toList) && !decide (b.cps.toList < [c])) := by
  intro cenv A' E' c t s₂ m₂ hs hn hm
  refine Compare_chain (Calls.Constant_str (chain_link ?_)) (by with_unfolding_all rfl)
  refine wpAny_Name (wpAny_loadName_local (by rw [hs]; exact hk) (show cenv.scope.names.lookup x = some .local by rw [hs]; exact hl) (show Heap.Ns _ cenv.locals m₂ from hn) hm ?_) hd
  refine PySem.P.le_str ?_
  refine wpAny_truthy_bool ?_
  show if (!decide (([c] : List Nat) < a.cps.toList)) = true then _ else _
  cases h1 : decide (([c] : List Nat) < a.cps.toList) with
  | true => exact ⟨(by show Value.bool (!true) = Value.bool (!decide (([c] : List Nat) < a.cps.toList) && !decide (b.cps.toList < [c])); rw [h1]; rfl), GxR.keeps_tok _ _⟩
  | false =>
    show wpAny _ _ _ _ _ _
    refine chain_last (Calls.Constant_str (PySem.P.le_str ⟨?_, GxR.keeps_tok _ _⟩))
    show Value.bool (!decide (b.cps.toList < ([c] : List Nat))) = Value.bool (!decide (([c] : List Nat) < a.cps.toList) && !decide (b.cps.toList < [c]))
    rw [h1]; rfl

/-! ### texts -/
theorem op_repS {X : Cx} : OpR X (binaryOp .Mult) (fun x y H Q => ∃ z n, x = .str z ∧ y = .int n ∧ MulOk z n ∧ Q (.str (Txt.mul z n)) H) := by
  intro pins s σ H x y v u Q I rx ry h
  obtain ⟨z, n, rfl, rfl, hok, q⟩ := h
  obtain ⟨t, rfl⟩ := rx
  obtain ⟨t', rfl⟩ := ry
  exact SB.mul hok fun t'' k => ⟨.str _, H, I.tok _, ⟨_, rfl⟩, q⟩
theorem mulOk_small {z : Str} {n : Int} (h0 : 0 ≤ n) (h1 : n ≤ 1000) (hz : z.length ≤ 1000) : MulOk z n := by
  refine ⟨?_, fun h2 _ => ?_, fun h2 _ => ?_⟩
  · rw [decide_eq_false (by omega), decide_eq_false (by omega)]; rfl
  · have h3 : (9223372036854775807 : Int) / n ≥ 9223372036854775 := by
      have h4 : (9223372036854775 : Int) * n ≤ 9223372036854775807 := by omega
      exact (Int.le_ediv_iff_mul_le (by omega)).mpr h4
    have h5 : ((2 : Int) ^ 63 - 1) = 9223372036854775807 := by decide
    rw [h5]
    omega
  · unfold Builtin.Str.tooLong
    refine decide_eq_false ?_
    rw [sizeLine_eq]
    have h6 : z.length * n.toNat ≤ 1000 * 1000 := Nat.mul_le_mul hz (by omega)
    omega
theorem foldl_app_size (x : Array Nat) : ∀ (n : Nat) (acc : Array Nat), ((List.replicate n x).foldl (· ++ ·) acc).size = acc.size + n * x.size
  | 0, acc => by simp
  | n + 1, acc => by
    rw [List.replicate_succ, List.foldl_cons, foldl_app_size x n (acc ++ x), Array.size_append, Nat.succ_mul]
    omega
theorem mul_length (z : Str) (n : Int) (h0 : 0 ≤ n) : (Txt.mul z n).length = z.length * n.toNat := by
  unfold Txt.mul
  by_cases h1 : n < 1
  · rw [if_pos h1]
    have e : n = 0 := by omega
    subst e
    show Str.empty.length = _
    simp [Str.empty, Str.length]
  · rw [if_neg h1]
    by_cases h2 : (n == 1 || z.length == 0) = true
    · rw [if_pos h2]
      rcases Bool.or_eq_true_iff.mp h2 with h3 | h3
      · have e : n = 1 := by simpa using h3
        subst e; simp
      · have e : z.length = 0 := by simpa using h3
        rw [e]; simp
    · rw [if_neg h2]
      show ((List.replicate n.toNat z.cps).foldl (· ++ ·) #[]).size = z.cps.size * n.toNat
      rw [foldl_app_size]
      simp [Nat.mul_comm]

/-! ### a module's whole number -/
theorem pe_gint {X : Cx} {x : Str} {i : Int} {pos : Pos} (h : ∃ t, X.mg x = some (.int i t)) (hg : Gl X x) (hd : (x == ("__debug__" : Str)) = false := by decide) : PE X (.Name x pos) (tC (.int i)) := by
  obtain ⟨t, e⟩ := h
  exact pe_glob hg e ⟨t, rfl⟩ hd

/-! ### own defs, ready to be called -/
structure Dn (Pg : Program) (w : World) (K : PySem.W.Frag) (mg : Str → Option Value) (base : Heap) (k : Nat) (x : Str) (ps : List Str) (sp : Sp) : Prop where
  ex : ∃ f fd, FnOk Pg w K mg base (L2.CX Pg w) k f fd ps sp ∧ mg x = some (.ref f) ∧ PySem.W.keepIn K (.ref f) = true ∧ Binds K fd ps []
section
variable {X : Cx} {k : Nat} {x : Str} {ps : List Str} {sp : Sp} {p pos : Pos} {e : Expr} {es : List Expr} {t : TA}
theorem pe_fnE {E : XK} (D : Dn X.prog X.w X.K X.mg X.base k x ps sp) (hr : Room k X.A) (hx : Passes (L2.CX X.prog X.w) X E) (ha : PA X (e :: es) t) (hg : Gl X x := by rfl)
    (hdb : (x == ("__debug__" : Str)) = false := by decide) (he : starEach (e :: es) X.env = (false, eval e X.env) :: starEach es X.env := by rfl) (hpl : (backTo pos (starEach es X.env)).any (·.1) = false := by rfl) :
    PE X (.Call (.Name x p) (e :: es) [] pos) (tCall sp [] E t) := by
  obtain ⟨f, fd, F, hm, hk, hb⟩ := D.ex
  exact pe_call F hr hg hm hk hb .nil hx ha hdb he hpl
/-- a def that raises nothing that is wished -/
theorem pe_fn (D : Dn X.prog X.w X.K X.mg X.base k x ps sp) (hr : Room k X.A) (ha : PA X (e :: es) t) (hg : Gl X x := by rfl)
    (hdb : (x == ("__debug__" : Str)) = false := by decide) (he : starEach (e :: es) X.env = (false, eval e X.env) :: starEach es X.env := by rfl) (hpl : (backTo pos (starEach es X.env)).any (·.1) = false := by rfl) :
    PE X (.Call (.Name x p) (e :: es) [] pos) (tCall sp [] E0 t) := pe_fnE D hr passL ha hg hdb he hpl
/-- in a try's body -/
theorem pe_fnS {E : L2.St → XK} (D : Dn X.prog X.w X.K X.mg X.base k x ps sp) (hr : Room k X.A) (hx : ∀ σ, PassesAt (L2.CX X.prog X.w) X σ (E σ)) (ha : PA X (e :: es) t) (hg : Gl X x := by rfl)
    (hdb : (x == ("__debug__" : Str)) = false := by decide) (he : starEach (e :: es) X.env = (false, eval e X.env) :: starEach es X.env := by rfl) (hpl : (backTo pos (starEach es X.env)).any (·.1) = false := by rfl) :
    PE X (.Call (.Name x p) (e :: es) [] pos) (tCallS sp E t) := by
  obtain ⟨f, fd, F, hm, hk, hb⟩ := D.ex
  exact pe_callS F hr hg hm hk hb hx ha hdb he hpl
end

/-! ### own error classes -/
structure ExK (K : PySem.W.Frag) (mg : Str → Option Value) (x : Str) (C : Addr) (bm : List Value) : Prop where
  g : mg x = some (.ref C)
  k : PySem.W.keepIn K (.ref C) = true
  x : PySem.W.excIn K C bm "ValueError.__new__" = true
  b : PySem.W.subIn K (.ref C) (.type "BaseException") = some true
  t : PySem.W.typeIn K (.ref C) = some (.type "type")
/-- isinstance(e, c) in a suite -/
def rIsG (K : PySem.W.Frag) (a : Addr) (cls : Value) (d : Option Addr) : List V → Hp → VK → Prop := fun xs H Q => ∃ (D : Addr) (c : V) (cv : Value) (b : Bool), xs = [.ref a, c] ∧ cls = .ref D ∧ d = none ∧ ExcC K D ∧ (∀ u, RelV c u → u = cv) ∧ PySem.W.kitOne K (.ref D) cv = some b ∧ Q (.bl b) H
theorem call_isG {X : Cx} {a : Addr} {cls : Value} {d : Option Addr} {oe : Obj} {pn : List (Addr × Obj)} (hz : Zc cls d oe) (hf : ∃ vs, oe.data = .fields vs) : CallR (X.suite a ((a, oe) :: pn)) (.builtin "isinstance") (rIsG X.K a cls d) := by
  intro pins s σ H xs us Q I r h
  obtain ⟨D, c, cv, b, e1, e2, e3, C, hcv, e, q⟩ := h
  subst e2 e3
  exact call_isE C hz hf pins s σ H xs us Q I r ⟨c, cv, b, e1, hcv, e, q⟩

/-! ### heaps -/
theorem same_new {H : Hp} {p : Addr} {o : HO} (h : H p = none) : Same H (upd H p o) := fun b u e => by
  rw [upd_ne (ne_of_none e h)]; exact e
theorem same_mut {H H' : Hp} {p : Addr} {o : HO} (s : Same H H') (h : H p = none) : Same H (upd H' p o) := fun b u e => by
  rw [upd_ne (ne_of_none e h)]; exact s b u e
theorem same_t {K : PySem.W.Frag} {H H' : Hp} {a : Addr} {xs : List V} (e : Same H H') (h : SqT K H a xs) : SqT K H' a xs := by
  rcases h with (h | ⟨o, h⟩) | h
  · exact .inl (.inl (e _ _ h))
  · exact .inl (.inr ⟨o, e _ _ h⟩)
  · exact .inr h
mutual
theorem Dp.same {K : PySem.W.Frag} {H H' : Hp} (s : Same H H') : ∀ {d : PyData} {v : V}, Dp K H v d → Dp K H' v d
  | _, _, .non => .non
  | _, _, .bl b => .bl b
  | _, _, .int i => .int i
  | _, _, .str x => .str x
  | _, _, .lst h ha => .lst (s.seq h) (DpAll.same s ha)
  | _, _, .tup h ha => .tup (same_t s h) (DpAll.same s ha)
theorem DpAll.same {K : PySem.W.Frag} {H H' : Hp} (s : Same H H') : ∀ {ds : List PyData} {vs : List V}, DpAll K H vs ds → DpAll K H' vs ds
  | _, _, .nil => .nil
  | _, _, .cons h ha => .cons (Dp.same s h) (DpAll.same s ha)
end
theorem szl {n : Nat} (h : n ≤ 100000) : n ≤ sizeLine := Nat.le_trans h (by decide)
theorem szlt {n : Nat} (h : n < 100000) : n < sizeLine := Nat.lt_of_lt_of_le h (by decide)
end Fb

namespace Fb
open PySem PySem.Spec PyProof.Rows L2
/-! ### the law's own call: the tables are shut -/
def shut (Ps : List Addr) (H : Hp) : Hp := fun b => if b ∈ Ps then some (TabO b) else H b
theorem shut_in {Ps : List Addr} {H : Hp} {b : Addr} (h : b ∈ Ps) : shut Ps H b = some (TabO b) := if_pos h
theorem shut_out {Ps : List Addr} {H : Hp} {b : Addr} (h : b ∉ Ps) : shut Ps H b = H b := if_neg h
def reopen (Ps : List Addr) (h : Heap) (H : Hp) : Hp := fun b => if b ∈ Ps then (match h.get? b with | some o => (match o.data with | .fields ps => some (.tbl ps) | _ => H b) | none => H b) else H b
theorem reopen_in {Ps : List Addr} {h : Heap} {H : Hp} {b : Addr} {ps : Array Value} (hb : b ∈ Ps) (e : h.get? b = some { cls := .none, data := .fields ps }) : reopen Ps h H b = some (.tbl ps) := by
  unfold reopen
  rw [if_pos hb, e]
theorem reopen_out {Ps : List Addr} {h : Heap} {H : Hp} {b : Addr} (hb : b ∉ Ps) : reopen Ps h H b = H b := if_neg hb
theorem FnOk.tabs {Pg : Program} {w : World} {K : PySem.W.Frag} {mg : Str → Option Value} {base : Heap} {k : Nat} {f : Addr} {fd : FuncData} {ps : List Str} {sp : Sp} {Ps : List Addr} (F : FnOk Pg w K mg base (L2.CX Pg w) k f fd ps sp) :
    FnOk Pg w K mg base (L2.CX Pg w) k f fd ps (fun vs H Q E => (∀ p ∈ Ps, H p = some (.tbl #[])) ∧ sp vs (shut Ps H) (fun v H' => (∀ p ∈ Ps, H' p = some (TabO p)) ∧ ∀ H2, Q v H2) (fun _ _ _ => False)) := by
  refine ⟨fun vs H Q E q => F.len _ _ _ _ q.2, fun A outer s H args us vs Q E hr he hb hv hs => ?_⟩
  obtain ⟨hT, hs⟩ := hs
  have tabs : ∀ p ∈ Ps, s.heap.get? p = some { cls := .none, data := .fields #[] } := fun p hp => he.hok p _ (hT p hp)
  have nb : ∀ b u, H b = some u → (∀ q, u ≠ .tbl q) → b ∉ Ps := fun b u e h1 hp => by
    rw [hT b hp] at e
    cases e
    exact h1 _ rfl
  have nn : ∀ b, H b = none → b ∉ Ps := fun b e hp => by rw [hT b hp] at e; cases e
  have he' : Env0 Pg w K mg base A outer s (shut Ps H) := by
    refine ⟨he.frames, he.mod, fun b o e => ⟨(he.bs b o e).1, by rw [shut_out (nn b (he.bs b o e).2)]; exact (he.bs b o e).2⟩, he.bsz, he.funs, fun b hb => by rw [shut_out (nn b (he.frf b hb))]; exact he.frf b hb, fun a o e => ?_, he.bare⟩
    by_cases ha : a ∈ Ps
    · rw [shut_in ha] at e
      cases e
      exact tabO_ok (tabs a ha) trivial
    · rw [shut_out ha] at e
      refine (he.hok a o e).stay (fun d v _ q => q) (fun d q => ?_) fun d xs q => ?_
      · rw [shut_out (nb d _ q fun _ z => nomatch z)]; exact q
      · rw [shut_out (nb d _ q fun _ z => nomatch z)]; exact q
  refine codeAny_mono (F.run A outer s (shut Ps H) args us vs _ _ hr he' hb hv hs) fun r s' h => ?_
  cases r with
  | error e =>
    obtain ⟨_, _, _, _, _, _, _, _, _, _, _, _, z⟩ := h
    exact z.elim
  | ok fl =>
    cases fl with
    | next => exact False.elim h
    | brk => exact False.elim h
    | cont => exact False.elim h
    | ret u =>
      obtain ⟨v, H', os, bare, un, hok, r, hP, q⟩ := h
      have tb : ∀ p ∈ Ps, ∃ ps : Array Value, s'.heap.get? p = some { cls := .none, data := .fields ps } := fun p hp => by
        obtain ⟨⟨qs, e, _⟩, _, _⟩ := hok p _ (hP p hp)
        exact ⟨qs, e⟩
      have n2 : ∀ b u, H' b = some u → (∀ a, u ≠ TabO a) → b ∉ Ps := fun b u e h1 hp => by
        rw [hP b hp] at e
        cases e
        exact h1 _ rfl
      refine ⟨v, reopen Ps s'.heap H', os, bare, ⟨fun b o e n => un.keep b o e (by rw [shut_out (nn b n)]; exact n), fun b o e n => un.slot b o e (by rw [shut_out (nn b n)]; exact n), fun b o e n hx => ?_, un.there, fun b xs e => ?_, fun b o u e => ?_, fun b qs e => ?_⟩, fun a o e => ?_, r, q _⟩
      · rw [reopen_out (nn b n)]
        exact un.free b o e (by rw [shut_out (nn b n)]; exact n) hx
      · have h1 := nb b _ e fun _ z => nomatch z
        rw [reopen_out h1]
        exact un.tups b xs (by rw [shut_out h1]; exact e)
      · have h1 := nb b _ e fun _ z => nomatch z
        rw [reopen_out h1]
        exact un.frzs b o u (by rw [shut_out h1]; exact e)
      · by_cases hb : b ∈ Ps
        · rw [hT b hb] at e
          cases e
          obtain ⟨ps, e2⟩ := tb b hb
          exact ⟨ps, by rw [reopen_in hb e2]; simp⟩
        · rw [reopen_out hb]
          exact un.tbls b qs (by rw [shut_out hb]; exact e)
      · by_cases ha : a ∈ Ps
        · obtain ⟨ps, e2⟩ := tb a ha
          rw [reopen_in ha e2] at e
          cases e
          exact e2
        · rw [reopen_out ha] at e
          refine (hok a o e).stay (fun d v _ q => q) (fun d q => ?_) fun d xs q => ?_
          · rw [reopen_out (n2 d _ q fun _ z => nomatch z)]; exact q
          · rw [reopen_out (n2 d _ q fun _ z => nomatch z)]; exact q

/-! ### the end -/
/-- what the ground says of a def's table -/
def TabN (mg : Str → Option Value) (h : Heap) (x : Str) : Prop := ∃ (a c P : Addr) (o : Obj) (fd : FuncData), mg x = some (.ref a) ∧ h.get? a = some o ∧ o.data = .func fd ∧ fd.code = .ref c ∧ PySem.W.CodeHd h c P ∧ h.get? P = some { cls := .none, data := .fields #[] } ∧ ∃ oc vc, h.get? c = some oc ∧ oc.data = .fields vc ∧ vc[11]? = some (.ref P)
/-- what is to be shown of the law at the head's heap -/
def LawT (l : PySem.W.OpenLaw) (w : World) (K : PySem.W.Frag) (k n : Nat) (x : Str) (mg : Str → Option Value) (fa : Addr) (h : Heap) : Prop :=
  ∃ (fd : FuncData) (cs : List (Addr × Addr)) (sp : Sp), (∀ p ∈ cs, h.get? p.2 = some { cls := .none, data := .fields #[] }) ∧ (∀ p ∈ cs, K.lookup p.2 = none) ∧ (∀ p ∈ cs, PySem.W.CodeHd h p.1 p.2) ∧ (∀ (s : Shared) (u : Value), BindsTo s fd ⟨[u], []⟩ [(x, u)]) ∧
    (∀ (H : Hp) (a : Addr) (ns : List Int), ns.length ≤ n → (∀ z ∈ ns, Builtin.Int.intBits z ≤ 1048576) → (∀ p ∈ cs, H p.2 = some (TabO p.2)) → SqL K H a (ns.map V.int) → sp [.ref a] H (fun v H' => (∀ p ∈ cs, H' p.2 = some (TabO p.2)) ∧ v = .bl true) fun _ _ _ => False) ∧
    ∀ base : Heap, K.In base → base.Ns mainGlobals mg → (∀ p ∈ cs, GxR.TabB base mg p.1 p.2) → FnOk l.prog w K mg base (L2.CX l.prog w) k fa fd [x] sp
theorem walk_tab {l : PySem.W.OpenLaw} {n k : Nat} {q : Program} {loose : List Str} {XP : (Str → Option Value) → Heap → Prop} {YP : World → Heap → Prop} {d : DefRec} {K : Params → PySem.W.Frag} {x : Str} (gs : List Str)
    (hn : l.most = some n) (hn2 : n ≤ sizeLine) (hdf : d.params.defaults = []) (hr : Room k callerA) (hrec : ∀ g ∈ gs, ((recsOf q).any fun e => e.name == g) = true) (hY : ∀ (w : World) (h : Heap), YP w h → (K w.params).In h)
    (F : ∀ (w : World) (mg : Str → Option Value) (fa : Addr) (h : Heap), YP w h → (K w.params).In h → h.Ns mainGlobals mg → mg d.name = some (.ref fa) → (∀ g ∈ gs, TabN mg h g) → LawT l w (K w.params) k n x mg fa h) :
    PySem.W.WalkO q loose XP YP l.row.toRowW d [] (fun f vs => PySem.call f vs) := by
  refine Att.attach_callB hn hdf fun w s₀ s₁ mg mb fa o pm cd doc a vs ns G Y ho hd hcd hmg hobj hints hlen hbits hg => ?_
  have KX := hY w _ Y
  have tabs : ∀ g ∈ gs, TabN mg s₁.heap g := fun g hgm => by
    obtain ⟨dL, hm, hn1⟩ := List.any_eq_true.mp (hrec g hgm)
    have hn2 : dL.name = g := beq_iff_eq.mp hn1
    obtain ⟨a', o', fd', c', P', h1, h2, h3, h4, h5, h6⟩ := G.T.tab dL hm
    rw [hn2] at h1
    obtain ⟨⟨oc, vc, e1, e2, e3, e4⟩, hP⟩ := id h6
    exact ⟨a', c', P', o', fd', h1, h2, h3, h4, PySem.W.CodeHd.of h5 h6, hP, oc, vc, e1, e3, e4⟩
  obtain ⟨fd, cs, sp, hT, nT, C, hb, hsp, hF⟩ := F w mg fa _ Y KX G.T.g hmg tabs
  refine LamX.law_callTs (CX := L2.CX l.prog w) (cs := cs) KX G.T.g G.T.b G.T.builtins G.T.nolimit hg hT nT C G.T.bmain hobj hints (Nat.le_trans hlen hn2) hr (fun base hK hN hB => FnOk.tabs (Ps := cs.map (·.2)) (hF base hK hN fun p hp => ⟨(hB p hp).code, (hB p hp).bm, (hB p hp).gP⟩)) hb (fun H hH hS => ⟨?ga, ?gb⟩) fun H e s' h => ?gc
  case ga =>
    intro p hp
    obtain ⟨y, hy, e⟩ := List.mem_map.mp hp
    rw [← e]; exact hH y hy
  case gb =>
    have na : a ∉ cs.map (·.2) := fun z => by
      obtain ⟨y, hy, e⟩ := List.mem_map.mp z
      have q := hT y hy
      rw [e, hobj] at q
      have z' : Data.seq vs.toArray _ = Data.fields #[] := congrArg Obj.data (Option.some.inj q)
      cases z'
    have hS' : SqL (K w.params) (shut (cs.map (·.2)) H) a (ns.map V.int) := by
      rcases hS with (z | ⟨o, z⟩) | z
      · exact .inl (.inl (by rw [shut_out na]; exact z))
      · exact .inl (.inr ⟨o, by rw [shut_out na]; exact z⟩)
      · exact .inr z
    have r := hsp (shut (cs.map (·.2)) H) a ns hlen hbits (fun p hp => shut_in (List.mem_map.mpr ⟨p, hp, rfl⟩)) hS'
    refine cast (congrArg (fun Q => sp [.ref a] (shut (cs.map (·.2)) H) Q fun _ _ _ => False) ?_) r
    funext v H'
    refine propext ⟨fun ⟨h1, h2⟩ => ⟨fun p hp => ?_, fun _ => h2⟩, fun ⟨h1, h2⟩ => ⟨fun p hp => h1 _ (List.mem_map.mpr ⟨p, hp, rfl⟩), h2 H'⟩⟩
    obtain ⟨y, hy, e⟩ := List.mem_map.mp hp
    rw [← e]; exact h1 y hy
  case gc =>
    obtain ⟨_, _, _, _, _, _, _, _, _, _, _, _, z⟩ := h
    exact z
end Fb
namespace Fb
open PySem L2
theorem ifD {p A B : Prop} [Decidable p] (h1 : p → A) (h2 : ¬ p → B) : if decide p = true then A else B := by
  by_cases h : p
  · rw [if_pos (decide_eq_true h)]; exact h1 h
  · rw [if_neg (by simp [h])]; exact h2 h
theorem ifB {c : Bool} {A B : Prop} (h1 : c = true → A) (h2 : c = false → B) : if c = true then A else B := by
  cases c with
  | true => rw [if_pos rfl]; exact h1 rfl
  | false => rw [if_neg Bool.false_ne_true]; exact h2 rfl
theorem ifP {p A B : Prop} [Decidable p] (h : p) (a : A) : if decide p = true then A else B := by rw [if_pos (decide_eq_true h)]; exact a
theorem ifN {p A B : Prop} [Decidable p] (h : ¬ p) (b : B) : if decide p = true then A else B := by rw [if_neg (by simp [h])]; exact b
theorem atI_map {ns : List Int} {j : Int} (h0 : 0 ≤ j) (h1 : j.toNat < ns.length) : atI (ns.map V.int) j = some (.int (ns.getD j.toNat 0)) := by
  have h2 : ixN (ns.map V.int).length j = some j.toNat := by
    unfold ixN
    rw [List.length_map, if_pos h0, if_pos (by omega)]
  unfold atI
  rw [h2]
  show (ns.map V.int)[j.toNat]? = _
  rw [List.getElem?_map, List.getElem?_eq_getElem h1]
  simp [List.getD, List.getElem?_eq_getElem h1]
theorem atI_of {α : Type} {xs : List α} {j : Int} {v : α} (h0 : 0 ≤ j) (h : xs[j.toNat]? = some v) : atI xs j = some v := by
  have hl : j.toNat < xs.length := (List.getElem?_eq_some_iff.mp h).1
  have h2 : ixN xs.length j = some j.toNat := by
    unfold ixN
    rw [if_pos h0, if_pos (by omega)]
  unfold atI
  rw [h2]
  exact h
end Fb

namespace Fb
open PySem PySem.Spec PyProof.Rows L2
/-! ### texts by their signs -/
/-- a text of at most n signs, each of them one that the model knows -/
def okS (n : Nat) (z : Str) : Prop := z.length ≤ n ∧ ∀ c ∈ z.cps.toList, c < 1114112
theorem len_tl (z : Str) : z.length = z.cps.toList.length := by simp [Str.length]
theorem okS.mono {n m : Nat} {z : Str} (h : okS n z) (hm : n ≤ m) : okS m z := ⟨Nat.le_trans h.1 hm, h.2⟩
theorem cps_app (a b : Str) : (a ++ b).cps.toList = a.cps.toList ++ b.cps.toList := by
  show (a.cps ++ b.cps).toList = _
  simp
theorem len_app (a b : Str) : (a ++ b).length = a.length + b.length := by
  rw [len_tl, cps_app, List.length_append, ← len_tl, ← len_tl]
theorem okS.app {n m : Nat} {a b : Str} (h : okS n a) (g : okS m b) : okS (n + m) (a ++ b) := by
  refine ⟨by rw [len_app]; exact Nat.add_le_add h.1 g.1, fun c hc => ?_⟩
  rw [cps_app] at hc
  exact (List.mem_append.mp hc).elim (h.2 c) (g.2 c)
theorem cut_len (z : Str) (lo hi : Option Int) : (cutS z lo hi).length ≤ z.length := by
  rw [len_tl, len_tl]
  unfold cutS
  show (_ : List Nat).length ≤ _
  rw [List.length_take, List.length_drop]
  omega
theorem okS.cut {n : Nat} {z : Str} (h : okS n z) (lo hi : Option Int) : okS n (cutS z lo hi) := by
  refine ⟨Nat.le_trans (cut_len z lo hi) h.1, fun c hc => h.2 c ?_⟩
  have h1 : c ∈ ((z.cps.toList.drop (HT.sIx z.length 0 lo)).take (HT.sIx z.length z.length hi - HT.sIx z.length 0 lo)) := hc
  exact List.mem_of_mem_drop (List.mem_of_mem_take h1)
/-- cut at most k signs from the front -/
theorem cut_to (z : Str) (k : Nat) : (cutS z none (some (k : Int))).length ≤ k := by
  rw [len_tl]
  unfold cutS
  show (_ : List Nat).length ≤ _
  rw [List.length_take, HT.sIx_none, HT.sIx_nat]
  omega
theorem okS.one {c : Nat} (h : c < 1114112) : okS 1 ⟨#[c]⟩ := by
  refine ⟨Nat.le_refl _, fun d hd => ?_⟩
  have e : d = c := by simpa using hd
  rw [e]; exact h
theorem mem_rep {x : Array Nat} {c : Nat} : ∀ (n : Nat) (acc : Array Nat), c ∈ ((List.replicate n x).foldl (· ++ ·) acc).toList → c ∈ acc.toList ∨ c ∈ x.toList
  | 0, acc, h => Or.inl h
  | n + 1, acc, h => by
    rw [List.replicate_succ, List.foldl_cons] at h
    rcases mem_rep n (acc ++ x) h with g | g
    · rw [Array.toList_append] at g
      exact (List.mem_append.mp g)
    · exact Or.inr g
theorem okS.mul {n : Nat} {z : Str} {k : Int} (h : okS n z) (h0 : 0 ≤ k) : okS (n * k.toNat) (Txt.mul z k) := by
  refine ⟨by rw [mul_length z k h0]; exact Nat.mul_le_mul_right _ h.1, fun c hc => h.2 c ?_⟩
  unfold Txt.mul at hc
  split at hc
  · simp [Str.empty] at hc
  · split at hc
    · exact hc
    · rcases mem_rep _ _ hc with g | g
      · simp at g
      · exact g
theorem okS_data {n : Nat} {z : Str} (h : okS n z) : PyData.strOk z = true := by
  unfold PyData.strOk
  rw [Array.all_eq_true]
  intro i hi
  exact decide_eq_true (h.2 _ (by rw [← Array.getElem_toList]; exact List.getElem_mem _))
theorem joinL_nil : ∀ parts : List (List Nat), TL.joinL [] parts = parts.flatten
  | [] => rfl
  | [p] => by simp [TL.joinL]
  | p :: q :: r => by
    show p ++ ([] ++ TL.joinL [] (q :: r)) = _
    rw [joinL_nil (q :: r)]
    simp
theorem join_tl (y : Str) (hy : y.cps.toList = []) (ys : List Str) : (Txt.join y ys).cps.toList = (ys.map TL.tl).flatten := by
  rw [TL.join_eq]
  show TL.tl _ = _
  rw [TL.tl_join, show TL.tl y = [] from hy, joinL_nil]
theorem okS.join {y : Str} (hy : y.cps.toList = []) {ys : List Str} {n : Nat} (hn : ys.length ≤ n) (h : ∀ z ∈ ys, okS 1 z) : okS n (Txt.join y ys) := by
  refine ⟨?_, fun c hc => ?_⟩
  · rw [len_tl, join_tl y hy]
    refine Nat.le_trans ?_ hn
    clear hn
    induction ys with
    | nil => simp
    | cons z r ih =>
      have h1 := (h z List.mem_cons_self).1
      have h2 := ih fun q hq => h q (List.mem_cons_of_mem _ hq)
      rw [len_tl] at h1
      simp only [List.map_cons, List.flatten_cons, List.length_append, List.length_cons]
      show z.cps.toList.length + _ ≤ _
      omega
  · rw [join_tl y hy] at hc
    obtain ⟨l, hl, hc⟩ := List.mem_flatten.mp hc
    obtain ⟨z, hz, rfl⟩ := List.mem_map.mp hl
    exact (h z hz).2 c hc
theorem sum_ones {ys : List Str} (h : ∀ z ∈ ys, okS 1 z) : (ys.map (·.length)).sum ≤ ys.length := by
  induction ys with
  | nil => simp
  | cons z r ih =>
    have h1 := (h z List.mem_cons_self).1
    have h2 := ih fun q hq => h q (List.mem_cons_of_mem _ hq)
    simp only [List.map_cons, List.sum_cons, List.length_cons]
    omega

/-! ### comprehensions over a range, over a list: each turn leaves what stood; R: what is known of the i-th item, for good (D itself, the new list, grows) -/
/-- what stood anywhere but at D stands -/
def SameB (D : Addr) (H H' : Hp) : Prop := ∀ b o, b ≠ D → H b = some o → H' b = some o
theorem Same.but {D : Addr} {H H' : Hp} (s : Same H H') : SameB D H H' := fun b o _ e => s b o e
section
variable {K : PySem.W.Frag} {te : TE} {vs : List Nat} {σ : L2.St} {H1 : Hp} {D : Addr} {Qd : Hp → Prop}
theorem yes_go {Q : VK} {N : Hp → Prop} {H : Hp} (h : te σ H Q) : tYes σ H fun b H3 => if b = true then te σ H3 Q else N H3 := by
  show (if true = true then te σ H Q else N H)
  exact iteT h
theorem lc_step {R : Nat → V → Hp → Prop} {i : Nat} {ys : List V} {v : V} {H H' : Hp} (hR : ∀ i v H H', SameB D H H' → R i v H → R i v H') (hl : ys.length = i) (s2 : Same H H') (hr : ∀ k u, ys[k]? = some u → R k u H) (r : R i v H') :
    ∀ k u, (ys ++ [v])[k]? = some u → R k u (upd H' D (.lst (ys ++ [v]))) := fun k u e => by
  have hu : SameB D H' (upd H' D (.lst (ys ++ [v]))) := fun b o nb e => by rw [upd_ne nb]; exact e
  by_cases hk : k < ys.length
  · rw [List.getElem?_append_left hk] at e
    exact hR _ _ _ _ hu (hR _ _ _ _ (Same.but s2) (hr k u e))
  · have hk2 : k = i := by
      have h3 := (List.getElem?_eq_some_iff.mp e).1
      rw [List.length_append] at h3
      simp at h3
      omega
    subst hk2
    rw [List.getElem?_append_right (by omega), hl, Nat.sub_self] at e
    have e2 : v = u := by simpa using e
    subst e2
    exact hR _ _ _ _ hu r
theorem lc_rangeR {lo : Int} {n j : Nat} (R : Nat → V → Hp → Prop) (hR : ∀ i v H H', SameB D H H' → R i v H → R i v H') (hD : H1 D = none) (hn : n ≤ 100000) (hw : ∀ v, wipe ((wipe σ vs).set j (some v)) vs = wipe σ vs)
    (hs : ∀ i H acc, i < n → Same H1 H → H D = some (.lst acc) → ∀ Q : VK, (∀ v H', Same H H' → R i v H' → Q v H') → te ((wipe σ vs).set j (some (.int (lo + i)))) H Q)
    (hd : ∀ H ys, Same H1 H → H D = some (.lst ys) → ys.length = n → (∀ i v, ys[i]? = some v → R i v H) → Qd H) :
    ∃ W : Nat → Nat → Hp → Prop, (∃ m, W 0 m (upd H1 D (.lst []))) ∧ ∀ i m H, W i m H →
      ((Itr lo n).stop i H ∧ Qd H) ∨ ((Itr lo n).go i H ∧ ∃ Nx : Hp → Prop, (∀ H', Nx H' → ∃ m', m' < m ∧ W (i + 1) m' H') ∧ ∀ x H', (Itr lo n).yld i H x H' → (gName j) x (wipe σ vs) H' fun σ2 H2 => wipe σ2 vs = wipe σ vs ∧ tYes σ2 H2 fun b H3 =>
        if b = true then te σ2 H3 fun y H4 => ∃ acc, H4 D = some (.lst acc) ∧ acc.length < sizeLine ∧ Nx (upd H4 D (.lst (acc ++ [y]))) else Nx H3) := by
  refine lc_range (fun i H => ∃ ys, Same H1 H ∧ H D = some (.lst ys) ∧ ys.length = i ∧ ∀ k v, ys[k]? = some v → R k v H) ⟨[], same_new hD, upd_same, rfl, fun k v e => by simp at e⟩ ?_ ?_
  · rintro i H hi ⟨ys, s1, hDl, hl, hr⟩
    refine ⟨hw _, ?_⟩
    refine yes_go ?_
    exact hs i H ys hi s1 hDl _ fun v H' s2 r => ⟨ys, s2 _ _ hDl, szlt (by omega), ys ++ [v], same_mut (Same.trans s1 s2) hD, upd_same, by rw [List.length_append]; simp [hl], lc_step hR hl s2 hr r⟩
  · rintro H ⟨ys, s1, hDl, hl, hr⟩
    exact hd H ys s1 hDl hl hr
theorem lc_listR {a : Addr} {xs : List V} {j : Nat} (R : Nat → V → Hp → Prop) (hR : ∀ i v H H', SameB D H H' → R i v H → R i v H') (hD : H1 D = none) (hx : SqL K H1 a xs) (hn : xs.length ≤ 100000) (hw : ∀ v, wipe ((wipe σ vs).set j (some v)) vs = wipe σ vs)
    (hs : ∀ i x H acc, xs[i]? = some x → Same H1 H → H D = some (.lst acc) → ∀ Q : VK, (∀ v H', Same H H' → R i v H' → Q v H') → te ((wipe σ vs).set j (some x)) H Q)
    (hd : ∀ H ys, Same H1 H → H D = some (.lst ys) → ys.length = xs.length → (∀ i v, ys[i]? = some v → R i v H) → Qd H) :
    ∃ W : Nat → Nat → Hp → Prop, (∃ m, W 0 m (upd H1 D (.lst []))) ∧ ∀ i m H, W i m H →
      ((Itl K a).stop i H ∧ Qd H) ∨ ((Itl K a).go i H ∧ ∃ Nx : Hp → Prop, (∀ H', Nx H' → ∃ m', m' < m ∧ W (i + 1) m' H') ∧ ∀ x H', (Itl K a).yld i H x H' → (gName j) x (wipe σ vs) H' fun σ2 H2 => wipe σ2 vs = wipe σ vs ∧ tYes σ2 H2 fun b H3 =>
        if b = true then te σ2 H3 fun y H4 => ∃ acc, H4 D = some (.lst acc) ∧ acc.length < sizeLine ∧ Nx (upd H4 D (.lst (acc ++ [y]))) else Nx H3) := by
  refine lc_list (K := K) (a := a) (xs := xs) (fun i H => ∃ ys, Same H1 H ∧ H D = some (.lst ys) ∧ ys.length = i ∧ ∀ k v, ys[k]? = some v → R k v H) ⟨[], same_new hD, upd_same, rfl, fun k v e => by simp at e⟩ (fun i H _ ⟨_, s1, _⟩ => s1.seq hx) ?_ ?_
  · rintro i x H hi ⟨ys, s1, hDl, hl, hr⟩
    have hil := (List.getElem?_eq_some_iff.mp hi).1
    refine ⟨hw _, ?_⟩
    refine yes_go ?_
    exact hs i x H ys hi s1 hDl _ fun v H' s2 r => ⟨ys, s2 _ _ hDl, szlt (by omega), ys ++ [v], same_mut (Same.trans s1 s2) hD, upd_same, by rw [List.length_append]; simp [hl], lc_step hR hl s2 hr r⟩
  · rintro H ⟨ys, s1, hDl, hl, hr⟩
    exact hd H ys s1 hDl hl hr
end

/-! ### for k, x in enumerate(xs) -/
theorem for_enum {K : PySem.W.Frag} {a : Addr} {xs : List V} {g : TG} {tb : TS} {D : Ends} {σ : L2.St} {H : Hp} (Pv : Nat → L2.St → Hp → Prop) (h0 : Pv 0 σ H) (hl : ∀ i σ H, i ≤ xs.length → Pv i σ H → SqL K H a xs)
    (hs : ∀ i x σ H T, xs[i]? = some x → Pv i σ H → H T = none → g (.ref T) σ (upd H T (.tup [.int (i : Nat), x])) fun σ2 H2 => tb { D with nx := Pv (i + 1), ct := Pv (i + 1), bk := D.nx } σ2 H2) (hd : ∀ σ H, Pv xs.length σ H → D.nx σ H) :
    ∃ W : Nat → Nat → L2.St → Hp → Prop, (∃ m, W 0 m σ H) ∧ ∀ i m σ H, W i m σ H →
      ((Ite K a).stop i H ∧ D.nx σ H) ∨ ((Ite K a).go i H ∧ ∃ N : L2.St → Hp → Prop, (∀ σ' H', N σ' H' → ∃ m', m' < m ∧ W (i + 1) m' σ' H') ∧ ∀ x H', (Ite K a).yld i H x H' → g x σ H' fun σ2 H2 => tb { D with nx := N, ct := N, bk := D.nx } σ2 H2) := by
  refine ⟨fun i m σ H => m = xs.length - i ∧ i ≤ xs.length ∧ Pv i σ H, ⟨xs.length, by simp, Nat.zero_le _, h0⟩, ?_⟩
  rintro i m σ H ⟨rfl, hi, p⟩
  have q := hl i σ H hi p
  by_cases hlt : i < xs.length
  · refine .inr ⟨⟨xs, xs[i], q, by simp [hlt]⟩, Pv (i + 1), fun σ' H' p' => ⟨xs.length - (i + 1), by omega, rfl, hlt, p'⟩, fun x H' y => ?_⟩
    obtain ⟨T, x', rfl, hT, rfl, y⟩ := y
    exact hs i x' σ H T (y xs q) p hT
  · have e : i = xs.length := by omega
    subst e
    exact .inl ⟨⟨xs, q, Nat.le_refl _⟩, hd σ H p⟩

/-! ### the letters -/
abbrev abc : Str := Str.ofString "abcdefghijklmnopqrstuvwxyz"
theorem abc_list : abc.cps.toList = (List.range 26).map (· + 97) := by decide +kernel
theorem abc_len : abc.length ≤ sizeLine := by
  rw [len_tl, abc_list]
  simp
  decide
theorem abc_at {i : Int} (h0 : 0 ≤ i) (h1 : i < 26) : atI abc.cps.toList i = some (i.toNat + 97) := by
  refine atI_of h0 ?_
  rw [abc_list, List.getElem?_map, List.getElem?_range (by omega)]
  rfl
theorem abc_mem (c : Nat) : c ∈ abc.cps.toList ↔ 97 ≤ c ∧ c ≤ 122 := by
  rw [abc_list, List.mem_map]
  constructor
  · rintro ⟨k, hk, rfl⟩
    have := List.mem_range.mp hk
    omega
  · intro h
    exact ⟨c - 97, List.mem_range.mpr (by omega), by omega⟩
/-- signs written in the text -/
theorem at_small {z : Str} {n : Nat} {i : Int} (hn : z.cps.toList.length = n) (hc : z.cps.toList.all (· < 1114112) = true) (h0 : 0 ≤ i) (h1 : i < n) : ∃ c, atI z.cps.toList i = some c ∧ c < 1114112 := by
  have hl : i.toNat < z.cps.toList.length := by omega
  refine ⟨z.cps.toList[i.toNat], atI_of h0 (List.getElem?_eq_getElem hl), ?_⟩
  exact of_decide_eq_true (List.all_eq_true.mp hc _ (List.getElem_mem hl))
theorem mulSmall {i j : Int} (h0 : -1000000000000000000 ≤ i) (h1 : i ≤ 1000000000000000000) : CMul i j := .inl ⟨by omega, by omega⟩
theorem mulSmall2 {i j : Int} (h0 : -1000000000000000000 ≤ j) (h1 : j ≤ 1000000000000000000) : CMul i j := .inr ⟨by omega, by omega⟩
theorem atI_mem {xs : List V} {i : Int} (h0 : 0 ≤ i) (h1 : i < xs.length) : ∃ v, atI xs i = some v ∧ v ∈ xs := by
  have hl : i.toNat < xs.length := by omega
  exact ⟨xs[i.toNat], atI_of h0 (List.getElem?_eq_getElem hl), List.getElem_mem hl⟩
end Fb

namespace Fb
open PySem PySem.Spec PyProof.Rows L2
/-! ### a def whose code object is known -/
structure FunC (K : PySem.W.Frag) (x qual : Str) (st : Stmt) (f : Addr) (fd : FuncData) (c : Addr) : Prop where
  ex : ∃ (oc : Value) (od : Option Addr) (kV doc pm : Value) (an : Option Addr) (ct : Value) (osl : Array (Option Value)),
    fd = PySem.W.fnOf x qual (defArgs st) (defBody st) (defScope st) .none kV doc pm an (.ref c) ct ∧ K.lookup f = some ⟨oc, od, .func fd, osl⟩ ∧ PySem.W.codeIn K (.ref c) qual = true
section
variable {P : Program} {w : World} {K : PySem.W.Frag} {mg : Str → Option Value} {base : Heap}
theorem FunC.okX {x qual : Str} {st : Stmt} {f c : Addr} {fd : FuncData} {N ps : List Str} {k : Nat} {sp : Sp} (F : FunC K x qual st f fd c) (S : FnScope N ps (defScope st)) (len : ∀ vs H Q E, sp vs H Q E → vs.length = ps.length)
    (hbody : ∀ (A : Around) (outer : List Env) (s : Shared) (H : Hp) (vs : List V) (Q : VK) (E : XK), Room k (A.deeper (envOfC qual (defScope st) s.heap.objs.size f (.ref c))) → sp vs H Q E →
      ∃ t, PSs (cxOf (L2.CX P w) P w K mg base N qual (defScope st) f (.ref c) A outer s H E) (defBody st) t ∧ t { nx := fun _ H' => Q .non H', rt := Q } (start N vs) H) : FnOk P w K mg base (L2.CX P w) (k + 1) f fd ps sp := by
  obtain ⟨oc, od, kV, doc, pm, an, ct, osl, rfl, lk, hcd⟩ := F.ex
  exact fn_of lk hcd S len fun A outer s H vs Q E hr hsp => hbody A outer s H vs Q E hr hsp
end
/-! ### flat data: None, truth values, numbers, texts -/
def dat : V → PyData
  | .non => .none
  | .bl b => .bool b
  | .int i => .int i
  | .str z => .str z
  | _ => .none
def flat (v : V) : Prop := v = .non ∨ (∃ b, v = .bl b) ∨ (∃ i, v = .int i) ∨ ∃ z, v = .str z ∧ PyData.strOk z = true
theorem dp_flat {K : PySem.W.Frag} {H : Hp} {v : V} (h : flat v) : Dp K H v (dat v) := by
  rcases h with rfl | ⟨b, rfl⟩ | ⟨i, rfl⟩ | ⟨z, rfl, _⟩
  · exact .non
  · exact .bl b
  · exact .int i
  · exact .str z
theorem dpAll_flat {K : PySem.W.Frag} {H : Hp} : ∀ {xs : List V}, (∀ v ∈ xs, flat v) → DpAll K H xs (xs.map dat)
  | [], _ => .nil
  | v :: r, h => .cons (dp_flat (h v List.mem_cons_self)) (dpAll_flat fun u hu => h u (List.mem_cons_of_mem _ hu))
theorem lay_flat {v : V} (h : flat v) : PyData.canLay0 (dat v) = true ∧ PyData.depth (dat v) = 0 := by
  rcases h with rfl | ⟨b, rfl⟩ | ⟨i, rfl⟩ | ⟨z, rfl, hz⟩
  · exact ⟨by simp [dat, PyData.canLay0], by simp [dat, PyData.depth]⟩
  · exact ⟨by simp [dat, PyData.canLay0], by simp [dat, PyData.depth]⟩
  · exact ⟨by simp [dat, PyData.canLay0], by simp [dat, PyData.depth]⟩
  · exact ⟨by simpa [dat, PyData.canLay0] using hz, by simp [dat, PyData.depth]⟩
theorem layAll_flat : ∀ {xs : List V}, (∀ v ∈ xs, flat v) → PyData.canLayAll0 (xs.map dat) = true ∧ PyData.depthAll (xs.map dat) = 0
  | [], _ => ⟨by simp [PyData.canLayAll0], by simp [PyData.depthAll]⟩
  | v :: r, h => by
    have h1 := lay_flat (h v List.mem_cons_self)
    have h2 := layAll_flat (xs := r) fun u hu => h u (List.mem_cons_of_mem _ hu)
    refine ⟨?_, ?_⟩
    · rw [List.map_cons, PyData.canLayAll0, h1.1, h2.1]; rfl
    · rw [List.map_cons, PyData.depthAll, h1.2, h2.2]; rfl
theorem shaped_flat {v : V} (h : flat v) : SeqAt.shaped (dat v) = true := by
  have h1 := lay_flat h
  unfold SeqAt.shaped
  rw [h1.1, h1.2]; rfl
theorem shaped_list {xs : List V} (h : ∀ v ∈ xs, flat v) : SeqAt.shaped (.list (xs.map dat)) = true := by
  have h1 := layAll_flat h
  unfold SeqAt.shaped
  rw [PyData.canLay0, h1.1, PyData.depth, h1.2]; rfl
theorem shaped_tup {xs : List V} (h : ∀ v ∈ xs, flat v) : SeqAt.shaped (.tuple (xs.map dat)) = true := by
  have h1 := layAll_flat h
  unfold SeqAt.shaped
  rw [PyData.canLay0, h1.1, PyData.depth, h1.2]; rfl
theorem eqv_self {d : PyData} (h : SeqAt.shaped d = true) : PyData.eqv d d = true := SeqAt.eqv_refl d (SeqAt.canLay_of_shaped h)

/-! ### the signs of a text that pass a test -/
section
variable {K : PySem.W.Frag} {tt : TT} {te : TE} {vs : List Nat} {σ : L2.St} {H1 : Hp} {D : Addr} {Qd : Hp → Prop}
theorem filter_snoc {pf : Nat → Bool} {l : List Nat} {i c : Nat} (h : l[i]? = some c) : (l.take (i + 1)).filter pf = (l.take i).filter pf ++ (if pf c then [c] else []) := by
  rw [List.take_add_one, h]
  simp only [Option.toList_some, List.filter_append, List.filter_cons, List.filter_nil]
theorem lc_signs {x : Str} {j : Nat} (pf : Nat → Bool) (hD : H1 D = none) (hn : x.length ≤ 90000) (hw : ∀ v, wipe ((wipe σ vs).set j (some v)) vs = wipe σ vs)
    (ht : ∀ c H, Same H1 H → ∀ Q : Bool → Hp → Prop, Q (pf c) H → tt ((wipe σ vs).set j (some (.str ⟨#[c]⟩))) H Q) (he : ∀ c H, Same H1 H → ∀ Q : VK, Q (.str ⟨#[c]⟩) H → te ((wipe σ vs).set j (some (.str ⟨#[c]⟩))) H Q)
    (hd : ∀ H, Same H1 H → H D = some (.lst ((x.cps.toList.filter pf).map fun c => .str ⟨#[c]⟩)) → Qd H) :
    ∃ W : Nat → Nat → Hp → Prop, (∃ m, W 0 m (upd H1 D (.lst []))) ∧ ∀ i m H, W i m H →
      ((Its x).stop i H ∧ Qd H) ∨ ((Its x).go i H ∧ ∃ Nx : Hp → Prop, (∀ H', Nx H' → ∃ m', m' < m ∧ W (i + 1) m' H') ∧ ∀ y H', (Its x).yld i H y H' → (gName j) y (wipe σ vs) H' fun σ2 H2 => wipe σ2 vs = wipe σ vs ∧ tt σ2 H2 fun b H3 =>
        if b = true then te σ2 H3 fun y H4 => ∃ acc, H4 D = some (.lst acc) ∧ acc.length < sizeLine ∧ Nx (upd H4 D (.lst (acc ++ [y]))) else Nx H3) := by
  have ez : x.cps.size = x.cps.toList.length := by simp
  refine ⟨fun i m H => m = x.cps.size - i ∧ i ≤ x.cps.size ∧ Same H1 H ∧ H D = some (.lst (((x.cps.toList.take i).filter pf).map fun c => .str ⟨#[c]⟩)), ⟨x.cps.size, by simp, Nat.zero_le _, same_new hD, upd_same⟩, ?_⟩
  rintro i m H ⟨rfl, hi, s1, hl⟩
  by_cases hlt : i < x.cps.size
  · refine .inr ⟨hlt, fun H' => Same H1 H' ∧ H' D = some (.lst (((x.cps.toList.take (i + 1)).filter pf).map fun c => .str ⟨#[c]⟩)), fun H' p' => ⟨x.cps.size - (i + 1), by omega, rfl, hlt, p'⟩, fun y H' yl => ?_⟩
    obtain ⟨rfl, c, hc, rfl⟩ := yl
    have hc2 : x.cps.toList[i]? = some c := by rw [Array.getElem?_toList]; exact hc
    refine ⟨hw _, ?_⟩
    refine ht c H' s1 _ ?_
    have fs := filter_snoc (pf := pf) hc2
    cases hp : pf c with
    | true =>
      refine iteT ?_
      refine he c H' s1 _ ⟨_, hl, szlt ?_, same_mut s1 hD, ?_⟩
      · rw [List.length_map]
        have h1 := List.length_filter_le pf (x.cps.toList.take i)
        have h2 : (x.cps.toList.take i).length ≤ x.cps.toList.length := by rw [List.length_take]; omega
        have h3 : x.length = x.cps.toList.length := len_tl x
        omega
      · rw [upd_same, fs, hp]
        simp
    | false =>
      refine iteF ⟨s1, ?_⟩
      rw [fs, hp]
      simpa using hl
  · have e : i = x.cps.size := by omega
    subst e
    refine .inl ⟨Nat.le_refl _, hd H s1 ?_⟩
    rw [ez, List.take_length] at hl
    exact hl
end

/-! ### is it a place -/
def letter (c : Nat) : Bool := decide (97 ≤ c) && decide (c ≤ 122)
def isP : V → Bool
  | .str z => decide (1 ≤ z.length) && decide (z.length ≤ 12) && z.cps.toList.all letter
  | _ => false
theorem btw_letter (c : Nat) : (!decide (([c] : List Nat) < (Str.ofString "a").cps.toList) && !decide ((Str.ofString "z").cps.toList < ([c] : List Nat))) = letter c := by
  have e1 : (Str.ofString "a").cps.toList = [97] := by decide +kernel
  have e2 : (Str.ofString "z").cps.toList = [122] := by decide +kernel
  rw [e1, e2]
  have h1 : (([c] : List Nat) < [97]) ↔ c < 97 := by
    constructor
    · intro h
      cases h with
      | rel h => exact h
      | cons h => cases h
    · intro h; exact List.Lex.rel h
  have h2 : (([122] : List Nat) < [c]) ↔ 122 < c := by
    constructor
    · intro h
      cases h with
      | rel h => exact h
      | cons h => cases h
    · intro h; exact List.Lex.rel h
  unfold letter
  have g1 : decide (([c] : List Nat) < [97]) = decide (c < 97) := decide_eq_decide.mpr h1
  have g2 : decide (([122] : List Nat) < [c]) = decide (122 < c) := decide_eq_decide.mpr h2
  rw [g1, g2]
  by_cases a : c < 97 <;> by_cases b : 122 < c <;> simp [a, b] <;> omega
theorem notin_letter (c : Nat) : (!decide (c ∈ abc.cps.toList)) = !letter c := by
  unfold letter
  have g : decide (c ∈ abc.cps.toList) = decide (97 ≤ c ∧ c ≤ 122) := decide_eq_decide.mpr (abc_mem c)
  rw [g]
  by_cases a : 97 ≤ c <;> by_cases b : c ≤ 122 <;> simp [a, b]
theorem nofree_ex {names : List (Str × NameKind)} {cells : List (Str × Addr)} (h : ∀ y ∈ names, y.2 ≠ .free) : ∀ y ∈ names, y.2 = .free → ∃ c, cells.lookup y.1 = some c := fun y hy e => absurd e (h y hy)
theorem ifND {p A B : Prop} [Decidable p] (h1 : ¬ p → A) (h2 : p → B) : if (!decide p) = true then A else B := by
  by_cases h : p
  · rw [decide_eq_true h]; exact iteF (h2 h)
  · rw [decide_eq_false h]; exact iteT (h1 h)
theorem ifNB {b : Bool} {A B : Prop} (h1 : b = false → A) (h2 : b = true → B) : if (!b) = true then A else B := by
  cases b with
  | true => exact iteF (h2 rfl)
  | false => exact iteT (h1 rfl)
theorem ifT1 {A B : Prop} (h : A) : if (!false) = true then A else B := iteT h
theorem ifF1 {A B : Prop} (h : B) : if (!true) = true then A else B := iteF h
theorem isP_short {z : Str} (h : ¬ (1 : Int) ≤ (z.length : Int)) : isP (.str z) = false := by
  show (decide (1 ≤ z.length) && decide (z.length ≤ 12) && z.cps.toList.all letter) = _
  rw [decide_eq_false (show ¬ 1 ≤ z.length by omega)]; rfl
theorem isP_long {z : Str} (h : ¬ (z.length : Int) ≤ (12 : Int)) : isP (.str z) = false := by
  show (decide (1 ≤ z.length) && decide (z.length ≤ 12) && z.cps.toList.all letter) = _
  rw [decide_eq_false (show ¬ z.length ≤ 12 by omega)]; simp
theorem isP_mid {z : Str} (h1 : (1 : Int) ≤ (z.length : Int)) (h2 : (z.length : Int) ≤ (12 : Int)) : isP (.str z) = z.cps.toList.all letter := by
  show (decide (1 ≤ z.length) && decide (z.length ≤ 12) && z.cps.toList.all letter) = _
  rw [decide_eq_true (show 1 ≤ z.length by omega), decide_eq_true (show z.length ≤ 12 by omega)]; rfl
theorem filter_all {pf : Nat → Bool} {l : List Nat} : (l.filter fun c => !pf c) = [] ↔ l.all pf = true := by
  rw [List.filter_eq_nil_iff, List.all_eq_true]
  exact ⟨fun h c hc => by simpa using h c hc, fun h c hc => by simp [h c hc]⟩
theorem eqv_nil (xs : List V) : PyData.eqv (.list (xs.map dat)) (.list []) = xs.isEmpty := by
  cases xs with
  | nil => simp [PyData.eqv, PyData.eqvAll]
  | cons v r => simp [PyData.eqv, PyData.eqvAll]
theorem flat_sign {c : Nat} (h : c < 1114112) : flat (.str ⟨#[c]⟩) := .inr (.inr (.inr ⟨_, rfl, okS_data (okS.one h)⟩))
theorem flat_signs {l : List Nat} (h : ∀ c ∈ l, c < 1114112) : ∀ v ∈ l.map (fun c => V.str ⟨#[c]⟩), flat v := fun v hv => by
  obtain ⟨c, hc, rfl⟩ := List.mem_map.mp hv
  exact flat_sign (h c hc)
theorem isEmpty_all {pf : Nat → Bool} {l : List Nat} {α : Type} (f : Nat → α) : ((l.filter fun c => !pf c).map f).isEmpty = l.all pf := by
  rw [Bool.eq_iff_iff, List.isEmpty_iff, List.map_eq_nil_iff]
  exact filter_all
end Fb

namespace Fb
open PySem PySem.Spec PyProof.Rows L2
/-! ### what is wrong with a journey: 0 nothing, 1 a place, 2 the journey -/
def ask (v : V) : Prop := v = .non ∨ (∃ b, v = .bl b) ∨ (∃ i, v = .int i) ∨ ∃ z, v = .str z ∧ okS 90000 z
theorem ask_flat {v : V} (h : ask v) : flat v := by
  rcases h with h | h | h | ⟨z, h, hz⟩
  · exact .inl h
  · exact .inr (.inl h)
  · exact .inr (.inr (.inl h))
  · exact .inr (.inr (.inr ⟨z, h, okS_data hz⟩))
def dueFrom : Option V → List V → Nat
  | _, [] => 0
  | p, x :: r => if isP x = true then (if p = some x then 2 else dueFrom (some x) r) else 1
def due (xs : List V) : Nat := if 2 ≤ xs.length ∧ xs.length ≤ 40 then dueFrom none xs else 2
def prev (xs : List V) (i : Nat) : Option V := if i = 0 then none else xs[i - 1]?
def dueAt (xs : List V) (i : Nat) : Nat := dueFrom (prev xs i) (xs.drop i)
theorem dueAt_end (xs : List V) : dueAt xs xs.length = 0 := by
  unfold dueAt
  rw [List.drop_length]
  rfl
theorem dueAt_zero (xs : List V) : dueAt xs 0 = dueFrom none xs := rfl
theorem dueAt_step {xs : List V} {i : Nat} {x : V} (h : xs[i]? = some x) : dueAt xs i = if isP x = true then (if prev xs i = some x then 2 else dueAt xs (i + 1)) else 1 := by
  obtain ⟨hl, e⟩ := List.getElem?_eq_some_iff.mp h
  unfold dueAt
  rw [List.drop_eq_getElem_cons hl, e]
  show (if isP x = true then (if prev xs i = some x then 2 else dueFrom (some x) (xs.drop (i + 1))) else 1) = _
  have e2 : prev xs (i + 1) = some x := by
    unfold prev
    rw [if_neg (by omega), Nat.add_sub_cancel, h]
  rw [e2]
theorem due_in {xs : List V} (h1 : 2 ≤ xs.length) (h2 : xs.length ≤ 40) : due xs = dueAt xs 0 := if_pos ⟨h1, h2⟩
theorem due_out {xs : List V} (h : ¬ (2 ≤ xs.length ∧ xs.length ≤ 40)) : due xs = 2 := if_neg h
theorem due_place {xs : List V} {i : Nat} {x : V} (h : xs[i]? = some x) (hp : isP x = false) : dueAt xs i = 1 := by
  rw [dueAt_step h, hp]; rfl
theorem due_same {xs : List V} {i : Nat} {x : V} (h : xs[i]? = some x) (hp : isP x = true) (h0 : i ≠ 0) (hs : xs[i - 1]? = some x) : dueAt xs i = 2 := by
  rw [dueAt_step h, if_pos hp, if_pos (by unfold prev; rw [if_neg h0]; exact hs)]
theorem due_go {xs : List V} {i : Nat} {x : V} (h : xs[i]? = some x) (hp : isP x = true) (hs : i ≠ 0 → xs[i - 1]? ≠ some x) : dueAt xs i = dueAt xs (i + 1) := by
  rw [dueAt_step h, if_pos hp, if_neg (fun e => ?_)]
  unfold prev at e
  by_cases h0 : i = 0
  · rw [if_pos h0] at e; cases e
  · rw [if_neg h0] at e; exact hs h0 e
def word : Nat → Str
  | 0 => Str.ofString ""
  | 1 => Str.ofString "place"
  | _ => Str.ofString "journey"
theorem isP_str {v : V} (h : isP v = true) : ∃ z, v = .str z := by
  cases v with
  | str z => exact ⟨z, rfl⟩
  | _ => cases h
theorem scal_str {z : Str} {v : V} (h : ask v) : scal (.str z) v = true := by
  rcases h with rfl | ⟨b, rfl⟩ | ⟨i, rfl⟩ | ⟨y, rfl, _⟩ <;> rfl
theorem num_small : ∀ i : Nat, i < 300 → ((toString (i : Int) : Str)).length ≤ 3 := by decide +kernel
theorem log_small {i : Nat} (h : i < 1000) : (i : Int).natAbs.log2 < 1920 := by
  have h1 : (i : Int).natAbs = i := by simp
  rw [h1]
  exact Nat.lt_of_le_of_lt (Nat.log2_le_self i) (by omega)
theorem lapp {a b : Str} {n m : Nat} (h : a.length ≤ n) (g : b.length ≤ m) : (a ++ b).length ≤ n + m := by rw [len_app]; omega
/-! ### within a suite: what the outer text says, by K -/
theorem pe_cls {X : Cx} {x : Str} {C : Addr} {pos : Pos} (hm : X.mg x = some (.ref C)) (hg : Gl X x := by rfl) (hd : (x == ("__debug__" : Str)) = false := by decide) : PE X (.Name x pos) (tC (.ref C)) := pe_glob hg hm rfl hd
theorem pe_bty {X : Cx} {x : Str} {n : String} {pos : Pos} (hm : X.mg x = none) (hv : bootBuiltins x = some (.type n)) (hg : Gl X x := by rfl) (hn : x ≠ "__name__" := by decide) (hd : (x == ("__debug__" : Str)) = false := by decide) : PE X (.Name x pos) (tC (.ty n)) := pe_bltn hg hm hv rfl hn hd
theorem op_eqS {X : Cx} {K : PySem.W.Frag} (hu : X.A.units + 64 < cLine) (hK : X.K = K := by rfl) : OpR X (compareOp .Eq) (rEqD K) := hK ▸ op_eqD hu
theorem op_neS {X : Cx} {K : PySem.W.Frag} (hu : X.A.units + 64 < cLine) (hK : X.K = K := by rfl) : OpR X (compareOp .NotEq) (rNeD K) := hK ▸ op_neD hu
theorem ix_listS {X : Cx} {K : PySem.W.Frag} (hK : X.K = K := by rfl) : IxR X (rIxL K) := hK ▸ ix_list
theorem ixN_of {n : Nat} {j : Int} (h0 : 0 ≤ j) (h : j < n) : ixN n j = some j.toNat := by
  unfold ixN
  rw [if_pos h0, if_pos h]
theorem rel_cls {C : Addr} : ∀ u, L2.RelV (.ref C) u → u = Value.ref C := fun _ h => h
theorem rel_ty {n : String} : ∀ u, L2.RelV (.ty n) u → u = Value.type n := fun _ h => h
end Fb

namespace Fb
open PySem PySem.Spec PyProof.Rows L2
/-! ### what the top has left, by facts -/
structure FA (K : PySem.W.Frag) (x : Str) (st : Stmt) (f : Addr) : Prop where
  a : PySem.W.nsIn K mainGlobals x = some (some (.ref f))
  l : ∃ (oc : Value) (od : Option Addr) (kV dc pm : Value) (an : Option Addr) (cd ct : Value) (osl : Array (Option Value)), K.lookup f = some ⟨oc, od, .func (PySem.W.fnOf x x (defArgs st) (defBody st) (defScope st) .none kV dc pm an cd ct), osl⟩ ∧ PySem.W.codeIn K cd x = true
  k : PySem.W.keepIn K (.ref f) = true
/-- .. with its code object and that one's table -/
structure FAC (K : PySem.W.Frag) (x : Str) (st : Stmt) (f c P : Addr) : Prop where
  a : PySem.W.nsIn K mainGlobals x = some (some (.ref f))
  l : ∃ (oc : Value) (od : Option Addr) (kV dc pm : Value) (an : Option Addr) (ct : Value) (osl : Array (Option Value)), K.lookup f = some ⟨oc, od, .func (PySem.W.fnOf x x (defArgs st) (defBody st) (defScope st) .none kV dc pm an (.ref c) ct), osl⟩
  q : PySem.W.codeIn K (.ref c) x = true
  k : PySem.W.keepIn K (.ref f) = true
  c : ∃ (oc : Value) (od : Option Addr) (vs : Array Value) (osl : Array (Option Value)), K.lookup c = some ⟨oc, od, .fields vs, osl⟩ ∧ vs[11]? = some (.ref P)
  n : K.lookup P = none
section
variable {Pg : Program} {w : World} {K : PySem.W.Frag} {mg : Str → Option Value} {base h : Heap} {x : Str} {st : Stmt} {f c P : Addr} {ps : List Str} {sp : Sp} {k : Nat}
theorem FA.dn (A : FA K x st f) (X : K.In h) (G : h.Ns mainGlobals mg) (ok : ∀ fd, Fun K x x st f fd → FnOk Pg w K mg base (L2.CX Pg w) k f fd ps sp)
    (hb : ∀ (kV doc pm : Value) (an : Option Addr) (cdv ct : Value) (us : List Value), us.length = ps.length → bindArgs (PySem.W.fnOf x x (defArgs st) (defBody st) (defScope st) .none kV doc pm an cdv ct) ⟨us, []⟩ = pure (ps.zip us)) : Dn Pg w K mg base k x ps sp := by
  obtain ⟨oc, od, kV, dc, pm, an, cd, ct, osl, l, c⟩ := A.l
  have F := fun_mk (st := st) l c A.k
  exact ⟨f, _, ok _ F, PySem.W.mg_of X G A.a, A.k, F.binds (ps := ps) hb⟩
theorem FAC.dn (A : FAC K x st f c P) (X : K.In h) (G : h.Ns mainGlobals mg) (ok : ∀ fd, FunC K x x st f fd c → FnOk Pg w K mg base (L2.CX Pg w) k f fd ps sp)
    (hb : ∀ (kV doc pm : Value) (an : Option Addr) (cdv ct : Value) (us : List Value), us.length = ps.length → bindArgs (PySem.W.fnOf x x (defArgs st) (defBody st) (defScope st) .none kV doc pm an cdv ct) ⟨us, []⟩ = pure (ps.zip us)) : Dn Pg w K mg base k x ps sp := by
  obtain ⟨oc, od, kV, dc, pm, an, ct, osl, l⟩ := A.l
  have F := fun_mk (st := st) l A.q A.k
  exact ⟨f, _, ok _ ⟨oc, od, kV, dc, pm, an, ct, osl, rfl, l, A.q⟩, PySem.W.mg_of X G A.a, A.k, F.binds (ps := ps) hb⟩
/-- the table of such a def at the head's heap -/
theorem FAC.tab (A : FAC K x st f c P) (X : K.In h) (G : h.Ns mainGlobals mg) (T : TabN mg h x) : h.get? P = some { cls := .none, data := .fields #[] } ∧ PySem.W.CodeHd h c P := by
  obtain ⟨a, c', P', o, fd, h1, h2, h3, h4, h5, h6, oc, vc, h7, h8, h9⟩ := T
  rw [PySem.W.mg_of X G A.a] at h1
  cases h1
  obtain ⟨oc2, od, kV, dc, pm, an, ct, osl, l⟩ := A.l
  have g1 := X _ _ l
  rw [h2] at g1
  cases g1
  cases h3
  cases h4
  obtain ⟨oc3, od3, vs, osl3, l3, v11⟩ := A.c
  have g2 := X _ _ l3
  rw [h7] at g2
  cases g2
  cases h8
  rw [v11] at h9
  cases h9
  exact ⟨h6, h5⟩
theorem FA.gint {i : Int} (X : K.In h) (G : h.Ns mainGlobals mg) (a : ∃ t, PySem.W.nsIn K mainGlobals x = some (some (.int i t))) : ∃ t, mg x = some (.int i t) := by
  obtain ⟨t, a⟩ := a
  exact ⟨t, PySem.W.mg_of X G a⟩
end
/-- an own class of errors, by facts -/
structure EA (K : PySem.W.Frag) (x : Str) (C : Addr) : Prop where
  a : PySem.W.nsIn K mainGlobals x = some (some (.ref C))
  k : PySem.W.keepIn K (.ref C) = true
  x : PySem.W.excIn K C [.type "ValueError", .type "Exception", .type "BaseException", .type "object"] "ValueError.__new__" = true
  b : PySem.W.subIn K (.ref C) (.type "BaseException") = some true
  t : PySem.W.typeIn K (.ref C) = some (.type "type")
  i : PySem.W.isClsIn K C = true
  hg : PySem.W.findIn K (.ref C) "__getattribute__" = some (some (.builtin "BaseException.__getattribute__"))
  hk : PySem.W.findIn K (.ref C) "__getattr__" = some none
  hd : PySem.W.hasDictIn K C = true
  ha : PySem.W.findIn K (.ref C) "__class__" = some (some (.builtin "object.__class__"))
  hn : PySem.W.specialIn K (.builtin "object.__class__") "__get__" = some (some (.builtin "getset_descriptor.__get__"))
  ht : PySem.W.takesIn K (.builtin "object.__class__") = some true
  hm : PySem.W.mroIn K C (.type "object") = some true
  v : PySem.W.subIn K (.ref C) (.type "ValueError") = some true
theorem EA.exk {K : PySem.W.Frag} {mg : Str → Option Value} {h : Heap} {x : Str} {C : Addr} (A : EA K x C) (X : K.In h) (G : h.Ns mainGlobals mg) : ExK K mg x C [.type "ValueError", .type "Exception", .type "BaseException", .type "object"] := ⟨PySem.W.mg_of X G A.a, A.k, A.x, A.b, A.t⟩
theorem EA.exc {K : PySem.W.Frag} {x : Str} {C : Addr} (A : EA K x C) : ExcC K C := ⟨A.hg, A.hk, A.b, A.hd, A.ha, A.hn, A.ht, A.hm⟩
theorem kit_self {K : PySem.W.Frag} {C : Addr} : PySem.W.kitOne K (.ref C) (.ref C) = some true := by
  unfold PySem.W.kitOne
  rw [if_pos (by simp)]
theorem EA.kit {K : PySem.W.Frag} {x : Str} {C D : Addr} {b : Bool} (A : EA K x D) (hs : PySem.W.subIn K (.ref C) (.ref D) = some b) (hn : (Value.ref C == Value.ref D) = false) : PySem.W.kitOne K (.ref C) (.ref D) = some b := by
  have h1 : (PySem.W.clsIn K D).isSome = true := A.i
  have e2 : ((PySem.W.clsIn K D).isSome && PySem.W.typeIn K (.ref D) == some (.type "type")) = true := by rw [h1, A.t]; rfl
  unfold PySem.W.kitOne
  rw [hn, if_neg Bool.false_ne_true]
  show (if ((PySem.W.clsIn K D).isSome && PySem.W.typeIn K (.ref D) == some (.type "type")) = true then PySem.W.subIn K (.ref C) (.ref D) else none) = some b
  rw [if_pos e2]
  exact hs
theorem EA.kitV {K : PySem.W.Frag} {x : Str} {C : Addr} (A : EA K x C) : PySem.W.kitOne K (.ref C) (.type "ValueError") = some true := by
  unfold PySem.W.kitOne
  rw [if_neg (by simp)]
  show (if PySem.W.kitMeta "ValueError" = true then PySem.W.subIn K (.ref C) (.type "ValueError") else none) = some true
  rw [if_pos (by decide +kernel)]
  exact A.v
theorem EA.exm {K : PySem.W.Frag} {x : Str} {C D : Addr} {b : Bool} (A : EA K x D) (hs : PySem.W.subIn K (.ref C) (.ref D) = some b) : PySem.W.exmOne K (.ref C) (.ref D) = some b := PySem.W.exm_ref A.b A.hd A.t hs
theorem fa_mk {K : PySem.W.Frag} {x : Str} {st : Stmt} {f : Addr} {oc kV dc pm cd ct : Value} {od an : Option Addr} {osl : Array (Option Value)} (a : PySem.W.nsIn K mainGlobals x = some (some (.ref f)))
    (l : K.lookup f = some ⟨oc, od, .func (PySem.W.fnOf x x (defArgs st) (defBody st) (defScope st) .none kV dc pm an cd ct), osl⟩) (c : PySem.W.codeIn K cd x = true) (k : PySem.W.keepIn K (.ref f) = true) : FA K x st f := ⟨a, ⟨oc, od, kV, dc, pm, an, cd, ct, osl, l, c⟩, k⟩
theorem fac_mk {K : PySem.W.Frag} {x : Str} {st : Stmt} {f c P : Addr} {oc kV dc pm ct oc2 : Value} {od an od2 : Option Addr} {osl osl2 : Array (Option Value)} {vs : Array Value} (a : PySem.W.nsIn K mainGlobals x = some (some (.ref f)))
    (l : K.lookup f = some ⟨oc, od, .func (PySem.W.fnOf x x (defArgs st) (defBody st) (defScope st) .none kV dc pm an (.ref c) ct), osl⟩) (q : PySem.W.codeIn K (.ref c) x = true) (k : PySem.W.keepIn K (.ref f) = true)
    (lc : K.lookup c = some ⟨oc2, od2, .fields vs, osl2⟩) (v : vs[11]? = some (.ref P)) (n : K.lookup P = none) : FAC K x st f c P := ⟨a, ⟨oc, od, kV, dc, pm, an, ct, osl, l⟩, q, k, ⟨oc2, od2, vs, osl2, lc, v⟩, n⟩
theorem gi_mk {K : PySem.W.Frag} {x : Str} {i : Int} {t : Tok} (a : PySem.W.nsIn K mainGlobals x = some (some (.int i t))) : ∃ t, PySem.W.nsIn K mainGlobals x = some (some (.int i t)) := ⟨t, a⟩
end Fb

namespace Fb
open PySem PySem.Spec PyProof.Rows L2
/-! ### for (a, b), v in d.items(), d a dict with tuple keys that stands locked -/
section
variable {X : Cx} {pins : List (Addr × Obj)} {σ : L2.St} {H : Hp} {s : Shared} {d : Addr} {o : Obj}
theorem frzT2 {kvs : List (List Key × V)} (I : Inv X pins σ H s) (h : H d = some (.frz o (.dT kvs))) :
    (d == sysModules) = false ∧ s.heap.get? d = some o ∧ o.ExactDict ∧ ∃ (es : Array DictEntry) (ep : Nat), o.data = .dict es ep ∧ es.size = kvs.length ∧
      ∀ (i : Nat) (k : List Key) (v : V), kvs[i]? = some (k, v) → ∃ (en : DictEntry) (q : Addr), es[i]? = some en ∧ en.key = .ref q ∧ H q = some (.tup (k.map kV)) ∧ L2.RelV v en.val := by
  obtain ⟨hd, z, hs, xs, pr, o', es, ep, ho, hx, hdt, he, _⟩ := I.hok d _ h
  rw [hd] at ho
  cases ho
  refine ⟨hs, hd, hx, es, ep, hdt, ?_, fun i k v e => ?_⟩
  · have l1 : es.size = xs.length := size_of_entries he
    have l2 : kvs.length = xs.length := Paired.length pr
    omega
  · obtain ⟨b, hb, e1, e2, e3⟩ := paired_get pr e
    have q := entry_at he i
    rw [hb] at q
    exact ⟨_, b.2.1, q, rfl, e2, e3⟩
end
def Itit (d : Addr) (o : Obj) (kvs : List (List Key × V)) : It :=
  ⟨fun i H => H d = some (.frz o (.dT kvs)) ∧ i < kvs.length, fun i H x H' => ∃ (T q : Addr) (k : List Key) (v : V), kvs[i]? = some (k, v) ∧ x = .ref T ∧ H T = none ∧ H q = some (.tup (k.map kV)) ∧ H' = upd H T (.tup [.ref q, v]), fun i H => H d = some (.frz o (.dT kvs)) ∧ kvs.length ≤ i⟩
section
variable {P : Program} {w : World} {K : PySem.W.Frag} {d : Addr} {o : Obj} {es : Array DictEntry} {ep : Nat}
theorem turn_itemsT {kvs : List (List Key × V)} {elts : List Expr} {kk : Nat} {tpos : Pos} (it : Addr) (hod : o.data = .dict es ep) :
    Turn P w K (.Tuple elts kk tpos) (Itit d o kvs) [it] it (fun i h => ∃ ok ov, IsItemIter h it d i kvs.length ep ok ov) where
  mem := by simp
  obj := fun i h st b hb => by
    have e : b = it := by simpa using hb
    subst e
    obtain ⟨ok, ov, e⟩ := st
    exact ⟨_, e, fun v z => nomatch z⟩
  keep := fun i h h' st k => let ⟨ok, ov, e⟩ := st; ⟨ok, ov, k it (by simp) _ e⟩
  item := by
    intro X hP hw hK hc i pins s σ H E I hf st hg
    subst hP hw hK
    obtain ⟨hd, hi⟩ := hg
    obtain ⟨hs, hgd, hx, es', ep', hdt, hsz, ent⟩ := frzT2 I hd
    obtain ⟨rfl, rfl⟩ := dict_ep hod hdt
    obtain ⟨⟨k, v⟩, hkv⟩ : ∃ p, kvs[i]? = some p := ⟨kvs[i], List.getElem?_eq_getElem hi⟩
    obtain ⟨en, q, hen, hkey, hq, rv⟩ := ent i k v hkv
    obtain ⟨ok, ov, he⟩ := st
    rw [← hsz] at he
    have hi2 : i < es'.size := by rw [hsz]; exact hi
    have hen2 : es'[i] = en := by
      have := (Array.getElem?_eq_some_iff.mp hen).2
      exact this
    have hlt : it < s.heap.objs.size := Heap.lt_size he
    refine DT.nextI he ⟨o, hgd, hx, hdt⟩ hi2 fun h' ho hT hz hk => ?_
    rw [hen2] at ho hT
    refine ⟨_, rfl, wpAny_letOwnedTupleGo_items (s := { s with heap := h' }) ho fun h'' he' sb => ?_⟩
    have hT2 : h''.get? s.heap.objs.size = some { cls := .type "tuple", data := .seq #[en.key, en.val] } := (sb.2 _ (Nat.ne_of_gt hlt)).trans hT
    have new : ObjOk X.prog X.w (upd H s.heap.objs.size (.tup [.ref q, v])) h'' s.heap.objs.size (.tup [.ref q, v]) :=
      ⟨by show 2 ≤ sizeLine; decide, [en.key, en.val], .cons hkey (.cons rv .nil), ⟨_, hT2, rfl, _, rfl⟩⟩
    have I1 : Inv X pins σ (upd H s.heap.objs.size (.tup [.ref q, v])) { s with heap := h'' } :=
      I.turnedNew (t' := s.toks) (ch := [it]) (fun b ob hb e => (sb.2 b (by simpa using hb)).trans (hk b ob (by simpa using hb) e)) hf (Nat.le_refl _) new
    refine ⟨.ref s.heap.objs.size, _, I1, rfl, ⟨_, q, k, v, hkv, rfl, I.hok.fresh (Nat.le_refl _), hq, rfl⟩, ⟨en.key, en.val, ?_⟩, fun b hb => ?_⟩
    · rw [← hsz]; exact he'
    · have e : b = it := by simpa using hb
      rw [e, upd_ne (Nat.ne_of_lt hlt)]
      exact (hf it (by simp)).1
  done := by
    intro X hP hw hK hc i pins s σ H E I hf st hg
    subst hP hw hK
    obtain ⟨hd, hi⟩ := hg
    obtain ⟨f0, f1, f2, f3, f4, f5⟩ := hf it (by simp)
    obtain ⟨hs, hgd, hx, es', ep', hdt, hsz, ent⟩ := frzT2 I hd
    obtain ⟨rfl, rfl⟩ := dict_ep hod hdt
    obtain ⟨ok, ov, he⟩ := st
    rw [← hsz] at he
    exact DT.endI (I.ok.hd hc) he ⟨o, hgd, hx, hdt⟩ (by omega) fun h' eb => ⟨rfl, I.turned (t' := s.toks) (fun b ob hb e => eb b ob hb e) f0 f1 f3 f4 f5⟩
  self := fun A i s Q E st h => let ⟨_, _, e⟩ := st; PySem.W.kcp_self e h
end
def iItemsT (td : TE) : TI := fun σ H R => td σ H fun x H1 => ∃ d o kvs, x = .ref d ∧ H1 d = some (.frz o (.dT kvs)) ∧ R (Itit d o kvs) H1
theorem pi_itemsT {X : Cx} {e : Expr} {td : TE} {apos cpos tpos : Pos} {elts : List Expr} {kk : Nat} (he : PE X e td) (hbase : attributeBase e "items" X.env (eval e X.env) = eval e X.env := by rfl) (hline : (apos.endLine == cpos.line) = true := by rfl) :
    PI X (.Tuple elts kk tpos) (.Call (.Attribute e "items" apos) [] [] cpos) (iItemsT td) := by
  refine ⟨fun pins s σ H R I h => ?_⟩
  refine wpAny_Call_method (T := "dict") (id := "dict.items") hbase rfl hline F.plainAttrs_dict F.slot_dict_items F.type_dict_items (thn (he.run pins s σ H _ I h) fun u s1 ⟨x, H1, I1, rx, d, o, kvs, ex, hd, q⟩ => ?_)
  subst ex
  obtain rfl : u = Value.ref d := rx
  obtain ⟨hs, hgd, hx, es, ep, hdt, hsz, ent⟩ := frzT2 I1 hd
  have raw : DT.Raw s1.heap d es ep := ⟨o, hgd, hx, hdt⟩
  refine ⟨raw.typeIs, fun a e => by cases e; exact ⟨o, hgd, hx.2.1⟩, ?_⟩
  have I2 : Inv X pins σ H1 { s1 with heap := s1.heap.push { cls := .type "dict_items", data := .fields #[.ref d] } } := I1.kept (t' := s1.toks) fun b ob q => Heap.get?_push_of_some _ q
  have fin : wpAny (model X.prog X.w) X.A (pyIter (.ref s1.heap.objs.size)) (PIE X pins σ (.Tuple elts kk tpos) R) X.xe { s1 with heap := s1.heap.push { cls := .type "dict_items", data := .fields #[.ref d] } } := by
    refine DT.iterI (d := d) ⟨_, Heap.get?_push_size _ rfl, rfl, rfl⟩ (raw.push _) (pi_one (tk := s1.toks) I2 _ (turn_itemsT _ hdt) ⟨.none, .none, ?_⟩ q)
    rw [← hsz]
    exact Heap.get?_push_size _ rfl
  show wpAny _ _ (callWith cpos (.builtin "dict.items") [.ref d] [] []) _ X.xe s1
  exact method_meetsIn F.slot_dict_items F.entry_dict_items rfl (PySem.evalArgs_none ⟨rfl, raw.typeIs, F.args_dict_items_1 _, _, DT.meetsItems (es := es) (ep := ep) hs, raw, fin⟩)
end Fb

namespace Fb
open PySem PySem.Spec PyProof.Rows L2
/-! ### addresses of the program's classes -/
structure Ads where
  FareError : Addr
  BadPlace : Addr
  BadPrice : Addr
  TwiceTold : Addr
  TooMany : Addr
  BadJourney : Addr
  BadCuts : Addr
  NotHeld : Addr
  NoParting : Addr
  BadLine : Addr
  Tariff : Addr
abbrev veMro : List Value := [.type "ValueError", .type "Exception", .type "BaseException", .type "object"]
/-! ### own methods and classes, ready to be called -/
structure Dm (Pg : Program) (w : World) (K : PySem.W.Frag) (mg : Str → Option Value) (base : Heap) (k : Nat) (C : Addr) (m : Str) (ps : List Str) (sp : Sp) : Prop where
  ex : ∃ f fd, FnOk Pg w K mg base (L2.CX Pg w) k f fd ps sp ∧ Meth K C m f ∧ Binds K fd ps []
/-- a class that is made by its own __init__ -/
structure Dk (Pg : Program) (w : World) (K : PySem.W.Frag) (mg : Str → Option Value) (base : Heap) (k : Nat) (x : Str) (C : Addr) (ps : List Str) (sp : Sp) : Prop where
  g : mg x = some (.ref C)
  ex : ∃ f fd, FnOk Pg w K mg base (L2.CX Pg w) k f fd ps sp ∧ Mk K C f ∧ Binds K fd ps []
def tMdS (C : Addr) (m : Str) (sp : Sp) (E : L2.St → XK) (ta : TE) (t : TA) : TE := fun σ H Q => ta σ H fun x H1 => ∃ a dx fs, x = .ref a ∧ H1 a = some (.ins C dx fs) ∧ fs.lookup m = none ∧ t σ H1 fun vs H2 => sp (.ref a :: vs) H2 Q (E σ)
def tMkS (C : Addr) (sp : Sp) (E : L2.St → XK) (t : TA) : TE := fun σ H Q => t σ H fun vs H1 => ∀ x dx, H1 x = none → H1 dx = none → dx ≠ x → sp (.ref x :: vs) (upd (upd H1 dx (.own x)) x (.ins C dx [])) (fun v H2 => v = .non ∧ Q (.ref x) H2) (E σ)
section
variable {X : Cx} {k : Nat} {x m : Str} {C : Addr} {ps : List Str} {sp : Sp} {p apos pos : Pos} {o e : Expr} {es : List Expr} {ta : TE} {t : TA} {E : L2.St → XK}
theorem passC (σ : L2.St) : PassesAt (L2.CX X.prog X.w) X σ E0 := fun pins H s e s' I c => passL pins σ H s e s' I c
theorem app_nil_run {f : Addr} {fd : FuncData} {pins : List (Addr × Obj)} {σ : L2.St} {H : Hp} {s : Shared} {Q : VK} {us : List Value} {vs : List V} {Ex : XK} (F : FnOk X.prog X.w X.K X.mg X.base (L2.CX X.prog X.w) k f fd ps sp) (hr : Room k X.A) (hb : Binds X.K fd ps [])
    (hx : PassesAt (L2.CX X.prog X.w) X σ Ex) (I : Inv X pins σ H s) (r : Vals vs us) (h : sp vs H Q Ex) : wpAny (model X.prog X.w) X.A (call (.ref f) us) (EP X pins σ Q) X.xe s := run_fnS (E := fun _ => Ex) F hr hb hx I r h
/-- o.m(e, ..) -/
theorem pe_mdS {pl : Sem Bool} (he : PE X o ta) (c : Cls X.K C) (D : Dm X.prog X.w X.K X.mg X.base k C m ps sp) (hr : Room k X.A) (hx : ∀ σ, PassesAt (L2.CX X.prog X.w) X σ (E σ)) (ha : PA X (e :: es) t)
    (hst : starEach (e :: es) X.env = (false, eval e X.env) :: starEach es X.env := by rfl) (hpl : (backTo pos (starEach es X.env)).any (·.1) = false := by rfl)
    (ht : eval (.Call (.Attribute o m apos) (e :: es) [] pos) X.env = (do
      let ov ← eval o X.env
      standAt apos.atName
      let (f, first) ← holding [ov] (getMethod ov m pl)
      callWith pos f first (backTo pos (starEach (e :: es) X.env)) (backToKw pos (keywordEach [] X.env))) := by rfl) :
    PE X (.Call (.Attribute o m apos) (e :: es) [] pos) (tMdS C m sp E ta t) := by
  obtain ⟨f, fd, F, hm, hb⟩ := D.ex
  constructor
  intro pins s σ H Q I h
  refine PySem.W.methodCall_KW (pl := pl) (thn (he.run pins s σ H _ I h) fun u s1 hu => ?_) ht
  obtain ⟨y, H1, I1, ry, a, dx, fs, ey, ea, l, q⟩ := hu
  subst ey
  have eu : u = Value.ref a := ry
  subst eu
  refine getmeth_ok I1 ea c hm l ?_
  refine PySem.W.callWith_K (first := [.ref a]) (h₀ := X.base) I.ok.mod.kin hm.kp (thn (ha.run pos pins s1 σ H1 _ I1 q) fun us s2 hv => ?_) hst hpl
  obtain ⟨vs, H2, I2, r, q2⟩ := hv
  exact ⟨I2.kIn, app_nil_run (us := .ref a :: us) (vs := .ref a :: vs) F hr hb (hx σ) I2 (.cons rfl r) q2⟩
/-- o.m() -/
theorem pe_mdS0 {pl : Sem Bool} (he : PE X o ta) (c : Cls X.K C) (D : Dm X.prog X.w X.K X.mg X.base k C m ps sp) (hr : Room k X.A) (hx : ∀ σ, PassesAt (L2.CX X.prog X.w) X σ (E σ))
    (ht : eval (.Call (.Attribute o m apos) [] [] pos) X.env = (do
      let ov ← eval o X.env
      standAt apos.atName
      let (f, first) ← holding [ov] (getMethod ov m pl)
      callWith pos f first (backTo pos (starEach [] X.env)) (backToKw pos (keywordEach [] X.env))) := by rfl) :
    PE X (.Call (.Attribute o m apos) [] [] pos) (tMdS C m sp E ta tNil) := by
  obtain ⟨f, fd, F, hm, hb⟩ := D.ex
  constructor
  intro pins s σ H Q I h
  refine PySem.W.methodCall_KW (pl := pl) (thn (he.run pins s σ H _ I h) fun u s1 hu => ?_) ht
  obtain ⟨y, H1, I1, ry, a, dx, fs, ey, ea, l, q⟩ := hu
  subst ey
  have eu : u = Value.ref a := ry
  subst eu
  refine getmeth_ok I1 ea c hm l ?_
  exact PySem.W.callWith_K0 (first := [.ref a]) I1.kIn hm.kp (app_nil_run (us := [.ref a]) (vs := [.ref a]) F hr hb (hx σ) I1 (.cons rfl .nil) q)
/-- C(e, ..) -/
theorem pe_mkS (D : Dk X.prog X.w X.K X.mg X.base k x C ps sp) (hr : Room (k + 1) X.A) (hx : ∀ σ, PassesAt (L2.CX X.prog X.w) X σ (E σ)) (ha : PA X (e :: es) t) (hg : Gl X x := by rfl)
    (hdb : (x == ("__debug__" : Str)) = false := by decide) (he : starEach (e :: es) X.env = (false, eval e X.env) :: starEach es X.env := by rfl) (hpl : (backTo pos (starEach es X.env)).any (·.1) = false := by rfl) :
    PE X (.Call (.Name x p) (e :: es) [] pos) (tMkS C sp E t) := by
  obtain ⟨f, fd, F, M, hb⟩ := D.ex
  constructor
  intro pins s σ H Q I h
  refine wpAny_Call_Name_kw (ld_glob I hg D.g ?_ hdb)
  refine PySem.W.callWith_K (h₀ := X.base) I.ok.mod.kin M.kp (thn (ha.run pos pins s σ H _ I h) fun us s1 hv => ?_) he hpl
  obtain ⟨vs, H1, I1, r, q⟩ := hv
  refine ⟨I1.kIn, ?_⟩
  have fresh1 : H1 (s1.heap.objs.size + 1) = none := I1.hok.fresh (Nat.le_succ _)
  have fresh0 : H1 s1.heap.objs.size = none := I1.hok.fresh (Nat.le_refl _)
  have want := q _ _ fresh1 fresh0 (Nat.ne_of_lt (Nat.lt_succ_self _))
  have J := Inv.made (C := C) I1
  have rr : Vals (V.ref (s1.heap.objs.size + 1) :: vs) (Value.ref (s1.heap.objs.size + 1) :: us) := .cons rfl r
  have ln : (Value.ref (s1.heap.objs.size + 1) :: us).length = ps.length := by rw [← rr.length]; exact F.len _ _ _ _ want
  have bd := hb _ (Value.ref (s1.heap.objs.size + 1) :: us) J.kIn (by rw [List.append_nil]; exact ln)
  rw [List.append_nil] at bd
  refine wpAny_call (make_map (f := f) I1.kIn M.makes M.init (beq_iff_eq.mp M.fn) (codeAny_mono (F.run _ X.stack _ _ ⟨Value.ref (s1.heap.objs.size + 1) :: us, []⟩ _ _ _ _ (hr.make C us []) (J.env0.make C us []) bd rr want) fun res s' hq => ?_))
  cases res with
  | error er => exact hx σ pins _ _ er s' J hq
  | ok fl =>
    cases fl with
    | ret u =>
      obtain ⟨v, H', I3, rv, ev, q3⟩ := J.after hq
      subst ev
      exact ⟨rv, ⟨V.ref (s1.heap.objs.size + 1), H', I3, rfl, q3⟩⟩
    | next => exact hq.elim
    | brk => exact hq.elim
    | cont => exact hq.elim
end
end Fb

namespace Fb
open PySem PySem.Spec PyProof.Rows L2
/-! ### tariffs: the rows, and what is wrong with one more: 0 nothing, 1 a place, 2 the price, 3 told twice, 4 too many -/
abbrev Row := Str × Str × Int
def rowK (r : Row) : List Key × V := ([.inr r.1, .inr r.2.1], .int r.2.2)
def isC : V → Bool
  | .int i => decide (0 ≤ i) && decide (i ≤ 1000000000000)
  | _ => false
def strOf : V → Str
  | .str z => z
  | _ => Str.ofString ""
def intOf : V → Int
  | .int i => i
  | _ => 0
def mkRow (a b c : V) : Row := (strOf a, strOf b, intOf c)
def isTold (rs : List Row) (a b : V) : Bool := (valV (rs.map rowK) [.inr (strOf a), .inr (strOf b)]).isSome
def putDue (rs : List Row) (a b c : V) : Nat :=
  if isP a = true then (if isP b = true then (if a = b then 1 else if isC c = true then (if isTold rs a b = true then 3 else if 160 ≤ rs.length then 4 else 0) else 2) else 1) else 1
/-- the rows one by one, from the rows rs on -/
def takeRows : List Row → List (V × V × V) → Nat × List Row
  | rs, [] => (0, rs)
  | rs, (a, b, c) :: r => if putDue rs a b c = 0 then takeRows (rs ++ [mkRow a b c]) r else (putDue rs a b c, rs)
def errOf (a : Ads) : Nat → Addr
  | 1 => a.BadPlace
  | 2 => a.BadPrice
  | 3 => a.TwiceTold
  | _ => a.TooMany
structure TarAt (C : Addr) (H : Hp) (p d : Addr) (rs : List Row) : Prop where
  ob : ∃ dx, H p = some (.ins C dx [("_prices", .ref d)])
  dc : H d = some (.dT (rs.map rowK))
theorem TarAt.keep {C : Addr} {H H' : Hp} {p d : Addr} {rs : List Row} (T : TarAt C H p d rs) (k : ∀ b o, b = p ∨ b = d → H b = some o → H' b = some o) : TarAt C H' p d rs := by
  obtain ⟨dx, h⟩ := T.ob
  exact ⟨⟨dx, k _ _ (.inl rfl) h⟩, k _ _ (.inr rfl) T.dc⟩
theorem TarAt.same {C : Addr} {H H' : Hp} {p d : Addr} {rs : List Row} (T : TarAt C H p d rs) (s : Same H H') : TarAt C H' p d rs := T.keep fun b o _ e => s b o e
theorem TarAt.ne {C : Addr} {H : Hp} {p d : Addr} {rs : List Row} (T : TarAt C H p d rs) : p ≠ d := by
  obtain ⟨dx, h⟩ := T.ob
  exact ne_of h T.dc (by intro z; cases z)
theorem rowK_put {rs : List Row} {a b : Str} {n : Int} (h : valV (rs.map rowK) [.inr a, .inr b] = none) : putK (rs.map rowK) [.inr a, .inr b] (.int n) = (rs ++ [(a, b, n)]).map rowK := by
  rw [putK_new _ h, List.map_append]
  rfl
theorem prices_lookup (d : Addr) : List.lookup ("_prices" : Str) [(("_prices" : Str), V.ref d)] = some (.ref d) := by simp [List.lookup]
theorem prices_no (d : Addr) {m : Str} (h : (m == ("_prices" : Str)) = false) : List.lookup m [(("_prices" : Str), V.ref d)] = none := by simp [List.lookup, h]
/-- the rows as they are told -/
def IsRow (H : Hp) (t : Addr) (r : Row) : Prop := H t = some (.tup [.str r.1, .str r.2.1, .int r.2.2])
/-- what stands at t is handed in as a row -/
def IsGiven (K : PySem.W.Frag) (H : Hp) (t : Addr) (r : V × V × V) : Prop := SqT K H t [r.1, r.2.1, r.2.2]
theorem IsRow.given {K : PySem.W.Frag} {H : Hp} {t : Addr} {r : Row} (h : IsRow H t r) : IsGiven K H t (.str r.1, .str r.2.1, .int r.2.2) := SqT.of h

structure MonoG (g : TG) : Prop where
  to : ∀ (x : V) (σ : L2.St) (H : Hp) (Q Q' : L2.St → Hp → Prop), (∀ σ H, Q σ H → Q' σ H) → g x σ H Q → g x σ H Q'
structure MonoGs (g : TGs) : Prop where
  to : ∀ (xs : List V) (σ : L2.St) (H : Hp) (Q Q' : L2.St → Hp → Prop), (∀ σ H, Q σ H → Q' σ H) → g xs σ H Q → g xs σ H Q'
theorem mono_name {i : Nat} : MonoG (gName i) := ⟨fun _ _ _ _ _ h q => h _ _ q⟩
theorem mono_nil : MonoGs gNil := ⟨fun _ _ _ _ _ h q => ⟨q.1, h _ _ q.2⟩⟩
theorem mono_cons {t : TG} {u : TGs} (ht : MonoG t) (hu : MonoGs u) : MonoGs (gCons t u) := ⟨fun _ _ _ _ _ h q => by
  obtain ⟨v, r, e, q⟩ := q
  exact ⟨v, r, e, ht.to _ _ _ _ _ (fun σ H z => hu.to _ _ _ _ _ h z) q⟩⟩
theorem mono_tup {K : PySem.W.Frag} {n : Nat} {t : TGs} (ht : MonoGs t) : MonoG (gTup K n t) := ⟨fun _ _ _ _ _ h q => by
  obtain ⟨p, xs, e, hs, hl, q⟩ := q
  exact ⟨p, xs, e, hs, hl, ht.to _ _ _ _ _ h q⟩⟩

section
variable {te : TE} {g : TG} {vs : List Nat} {σ : L2.St} {H1 : Hp} {D d : Addr} {o : Obj} {kvs : List (List Key × V)} {Qd : Hp → Prop}
theorem lc_itemsT (R : Nat → V → Hp → Prop) (hR : ∀ i v H H', SameB D H H' → R i v H → R i v H') (hD : H1 D = none) (hd : H1 d = some (.frz o (.dT kvs))) (hn : kvs.length ≤ 90000)
    (hs : ∀ i k v T q H acc, kvs[i]? = some (k, v) → Same H1 H → H D = some (.lst acc) → H T = some (.tup [.ref q, v]) → H q = some (.tup (k.map kV)) → ∀ Q : VK, (∀ y H', Same H H' → R i y H' → Q y H') → g (.ref T) (wipe σ vs) H fun σ2 H2 => wipe σ2 vs = wipe σ vs ∧ te σ2 H2 Q)
    (hk : MonoG g)
    (he : ∀ H ys, Same H1 H → H D = some (.lst ys) → ys.length = kvs.length → (∀ i v, ys[i]? = some v → R i v H) → Qd H) :
    ∃ W : Nat → Nat → Hp → Prop, (∃ m, W 0 m (upd H1 D (.lst []))) ∧ ∀ i m H, W i m H →
      ((Itit d o kvs).stop i H ∧ Qd H) ∨ ((Itit d o kvs).go i H ∧ ∃ Nx : Hp → Prop, (∀ H', Nx H' → ∃ m', m' < m ∧ W (i + 1) m' H') ∧ ∀ x H', (Itit d o kvs).yld i H x H' → g x (wipe σ vs) H' fun σ2 H2 => wipe σ2 vs = wipe σ vs ∧ tYes σ2 H2 fun b H3 =>
        if b = true then te σ2 H3 fun y H4 => ∃ acc, H4 D = some (.lst acc) ∧ acc.length < sizeLine ∧ Nx (upd H4 D (.lst (acc ++ [y]))) else Nx H3) := by
  refine ⟨fun i m H => m = kvs.length - i ∧ i ≤ kvs.length ∧ ∃ ys, Same H1 H ∧ H D = some (.lst ys) ∧ ys.length = i ∧ ∀ k v, ys[k]? = some v → R k v H, ⟨kvs.length, by simp, Nat.zero_le _, [], same_new hD, upd_same, rfl, fun k v e => by simp at e⟩, ?_⟩
  rintro i m H ⟨rfl, hi, ys, s1, hDl, hl, hr⟩
  by_cases hlt : i < kvs.length
  · refine .inr ⟨⟨s1 _ _ hd, hlt⟩, fun H' => ∃ ys, Same H1 H' ∧ H' D = some (.lst ys) ∧ ys.length = i + 1 ∧ ∀ k v, ys[k]? = some v → R k v H', fun H' p' => ⟨kvs.length - (i + 1), by omega, rfl, hlt, p'⟩, fun x H' yl => ?_⟩
    obtain ⟨T, q, k, v, hkv, rfl, hT, hq, rfl⟩ := yl
    have sT : Same H (upd H T (.tup [.ref q, v])) := same_new hT
    have hDl2 := sT _ _ hDl
    refine hk.to _ _ _ _ _ (fun σ2 H2 h => ⟨h.1, yes_go h.2⟩) (hs i k v T q _ ys hkv (Same.trans s1 sT) hDl2 upd_same (sT _ _ hq) _ fun y H3 s3 r => ?_)
    refine ⟨ys, s3 _ _ hDl2, szlt (by omega), ys ++ [y], same_mut (Same.trans (Same.trans s1 sT) s3) hD, upd_same, by rw [List.length_append]; simp [hl], lc_step hR hl (Same.trans sT s3) hr r⟩
  · have e : i = kvs.length := by omega
    subst e
    exact .inl ⟨⟨s1 _ _ hd, Nat.le_refl _⟩, he H ys s1 hDl hl hr⟩
end
theorem pair_of {α : Type} {R : Addr → α → Prop} : ∀ {ys : List V} {rs : List α}, ys.length = rs.length → (∀ (i : Nat) v, ys[i]? = some v → ∃ t, v = .ref t ∧ ∃ r, rs[i]? = some r ∧ R t r) → ∃ ts : List Addr, ys = ts.map V.ref ∧ Paired R ts rs
  | [], [], _, _ => ⟨[], rfl, .nil⟩
  | [], _ :: _, h, _ => by simp at h
  | _ :: _, [], h, _ => by simp at h
  | y :: ys, r :: rs, h, k => by
    obtain ⟨t, e, r', e2, hr⟩ := k 0 y rfl
    have e3 : r = r' := by simpa using e2
    subst e3
    obtain ⟨ts, e4, hp⟩ := pair_of (ys := ys) (rs := rs) (by simpa using h) fun i v hv => by
      have := k (i + 1) v (by simpa using hv)
      simpa using this
    exact ⟨t :: ts, by rw [e, e4]; rfl, .cons hr hp⟩

end Fb

namespace Fb
open PySem PySem.Spec PyProof.Rows L2
/-! ### the law's names -/
def code (x : Int) : Nat := (x % 26).toNat + 97
theorem code_letter (x : Int) : letter (code x) = true := by
  unfold letter code
  have h1 : (x % 26).toNat < 26 := by omega
  simp only [Bool.and_eq_true, decide_eq_true_eq]
  omega
theorem code_lt (x : Int) : code x < 1114112 := by unfold code; omega
theorem abc_code (x : Int) : atI abc.cps.toList (x % 26) = some (code x) := abc_at (by omega) (by omega)
def nmSize (c : Int) : Nat := (c / 26 % 11).toNat
def nmPlace (c : Int) : Nat := (c / 286 % ((nmSize c : Int) + 1)).toNat
def nmBase (c : Int) (k : Nat) : List Nat := (List.range (nmSize c)).map fun (j : Nat) => code (c / 3 + (k : Int) * k * (c / 3432 % 2) + 5 * (j : Int))
def nmOne (c : Int) : Bool := decide (c / 6864 % 4 = 1)
def nameL (c : Int) (k : Nat) : List Nat :=
  if nmOne c = true then List.replicate (1 + k % 12) (code (c + ((k / 12 : Nat) : Int)))
  else (nmBase c k).take (nmPlace c) ++ [code (c + (k : Int))] ++ (nmBase c k).drop (nmPlace c) ++ List.replicate (k / 26) 120
def nameOf (c : Int) (k : Nat) : Str := ⟨(nameL c k).toArray⟩
theorem nmSize_le (c : Int) : nmSize c ≤ 10 := by unfold nmSize; omega
theorem nmPlace_le (c : Int) : nmPlace c ≤ nmSize c := by
  unfold nmPlace
  have h := Int.emod_lt_of_pos (c / 286) (show (0 : Int) < (nmSize c : Int) + 1 by omega)
  have h0 := Int.emod_nonneg (c / 286) (show ((nmSize c : Int) + 1) ≠ 0 by omega)
  omega
theorem nmBase_len (c : Int) (k : Nat) : (nmBase c k).length = nmSize c := by unfold nmBase; simp
theorem nameL_len2 (c : Int) (k : Nat) (h : nmOne c = false) : (nameL c k).length = nmSize c + 1 + k / 26 := by
  unfold nameL
  rw [h, if_neg Bool.false_ne_true]
  have h1 := nmPlace_le c
  simp only [List.length_append, List.length_take, List.length_drop, List.length_replicate, List.length_cons, List.length_nil, nmBase_len]
  omega
theorem nameL_letters (c : Int) (k : Nat) : ∀ x ∈ nameL c k, letter x = true := by
  intro x hx
  unfold nameL at hx
  have hb : ∀ y ∈ nmBase c k, letter y = true := fun y hy => by
    obtain ⟨j, _, rfl⟩ := List.mem_map.mp hy
    exact code_letter _
  split at hx
  · rw [(List.mem_replicate.mp hx).2]; exact code_letter _
  · rcases List.mem_append.mp hx with h | h
    · rcases List.mem_append.mp h with h | h
      · rcases List.mem_append.mp h with h | h
        · exact hb x (List.mem_of_mem_take h)
        · rw [List.mem_singleton.mp h]; exact code_letter _
      · exact hb x (List.mem_of_mem_drop h)
    · rw [(List.mem_replicate.mp h).2]; decide
theorem name_len (c : Int) (k : Nat) : (nameOf c k).length = (nameL c k).length := by rw [len_tl]; rfl
theorem name_isP {c : Int} {k : Nat} (hk : k < 52) : isP (.str (nameOf c k)) = true := by
  show (decide (1 ≤ (nameOf c k).length) && decide ((nameOf c k).length ≤ 12) && (nameL c k).all letter) = true
  rw [name_len]
  have h3 : (nameL c k).all letter = true := List.all_eq_true.mpr (nameL_letters c k)
  have h1 : 1 ≤ (nameL c k).length ∧ (nameL c k).length ≤ 12 := by
    cases h : nmOne c with
    | true =>
      unfold nameL
      rw [h, if_pos rfl, List.length_replicate]
      omega
    | false =>
      rw [nameL_len2 c k h]
      have := nmSize_le c
      omega
  rw [h3, decide_eq_true h1.1, decide_eq_true h1.2]; rfl
theorem code_inj {x y : Int} (h : code x = code y) (h1 : -26 < x - y) (h2 : x - y < 26) : x = y := by
  unfold code at h
  omega
theorem name_inj {c : Int} {k l : Nat} (hk : k < 52) (hl : l < 52) (h : nameOf c k = nameOf c l) : k = l := by
  have h1 : nameL c k = nameL c l := congrArg (fun z : Str => z.cps.toList) h
  cases ho : nmOne c with
  | true =>
    unfold nameL at h1
    rw [ho, if_pos rfl, if_pos rfl] at h1
    have l1 := congrArg List.length h1
    rw [List.length_replicate, List.length_replicate] at l1
    have h2 := congrArg (fun z : List Nat => z[0]?) h1
    simp only [List.getElem?_replicate] at h2
    rw [if_pos (by omega), if_pos (by omega)] at h2
    have h3 := code_inj (Option.some.inj h2) (by omega) (by omega)
    omega
  | false =>
    have l1 := congrArg List.length h1
    rw [nameL_len2 c k ho, nameL_len2 c l ho] at l1
    have hp := nmPlace_le c
    have at_ : ∀ m : Nat, (nameL c m)[nmPlace c]? = some (code (c + (m : Int))) := fun m => by
      unfold nameL
      rw [ho, if_neg Bool.false_ne_true]
      rw [List.append_assoc, List.append_assoc, List.getElem?_append_right (by rw [List.length_take, nmBase_len]; omega), List.length_take, nmBase_len]
      rw [show nmPlace c - min (nmPlace c) (nmSize c) = 0 by omega]
      rfl
    have h2 := congrArg (fun z : List Nat => z[nmPlace c]?) h1
    simp only [at_] at h2
    have h3 := code_inj (Option.some.inj h2) (by omega) (by omega)
    omega
/-! texts by parts -/
theorem cut_take (z : Str) (k : Nat) (h : k ≤ z.cps.toList.length) : (cutS z none (some (k : Int))).cps.toList = z.cps.toList.take k := by
  unfold cutS
  show ((z.cps.toList.drop (HT.sIx z.length 0 none)).take (HT.sIx z.length z.length (some (k : Int)) - HT.sIx z.length 0 none)) = _
  rw [HT.sIx_none, HT.sIx_nat, List.drop_zero, len_tl, Nat.min_eq_left h, Nat.sub_zero]
theorem cut_drop (z : Str) (k : Nat) (h : k ≤ z.cps.toList.length) : (cutS z (some (k : Int)) none).cps.toList = z.cps.toList.drop k := by
  unfold cutS
  show ((z.cps.toList.drop (HT.sIx z.length 0 (some (k : Int)))).take (HT.sIx z.length z.length none - HT.sIx z.length 0 (some (k : Int)))) = _
  rw [HT.sIx_none, HT.sIx_nat, len_tl, Nat.min_eq_left h]
  rw [List.take_of_length_le (by rw [List.length_drop]; exact Nat.le_refl _)]
theorem fold_one (x : Nat) : ∀ (n : Nat) (acc : Array Nat), ((List.replicate n #[x]).foldl (· ++ ·) acc).toList = acc.toList ++ List.replicate n x
  | 0, acc => by simp
  | n + 1, acc => by
    rw [List.replicate_succ, List.foldl_cons, fold_one x n (acc ++ #[x])]
    simp [List.replicate_succ]
theorem mul_sign (x : Nat) (n : Int) (h : 0 ≤ n) : (Txt.mul ⟨#[x]⟩ n).cps.toList = List.replicate n.toNat x := by
  unfold Txt.mul
  by_cases h1 : n < 1
  · rw [if_pos h1]
    have e : n = 0 := by omega
    subst e; rfl
  · rw [if_neg h1]
    by_cases h2 : n = 1
    · subst h2; rfl
    · rw [if_neg (by
        have e1 : (n == 1) = false := by simpa using h2
        rw [e1]
        show ¬ (false || (1 == 0)) = true
        decide)]
      show ((List.replicate n.toNat #[x]).foldl (· ++ ·) #[]).toList = _
      rw [fold_one]; simp
theorem str_ext {a b : Str} (h : a.cps.toList = b.cps.toList) : a = b := TL.ext_tl h
theorem signs_of {n : Nat} {f : Nat → Nat} {ys : List V} (hl : ys.length = n) (hr : ∀ i v, ys[i]? = some v → v = V.str ⟨#[f i]⟩) : ∃ zs : List Str, ys = zs.map V.str ∧ (zs.map TL.tl).flatten = (List.range n).map f ∧ (∀ z ∈ zs, z.length = 1) := by
  have e : ys = (List.range n).map fun i => V.str ⟨#[f i]⟩ := by
    refine List.ext_getElem? fun i => ?_
    by_cases h : i < n
    · rw [List.getElem?_map, List.getElem?_range h]
      have h2 : i < ys.length := by omega
      rw [List.getElem?_eq_getElem h2, hr i _ (List.getElem?_eq_getElem h2)]
      rfl
    · rw [List.getElem?_eq_none (by omega), List.getElem?_eq_none (by simp; omega)]
  refine ⟨(List.range n).map fun i => ⟨#[f i]⟩, by rw [e, List.map_map]; rfl, ?_, fun z hz => ?_⟩
  · rw [List.map_map]
    clear e hr hl
    induction (List.range n) with
    | nil => rfl
    | cons a r ih => rw [List.map_cons, List.flatten_cons, ih]; rfl
  · obtain ⟨i, _, rfl⟩ := List.mem_map.mp hz
    rfl
end Fb

namespace Fb
open PySem PySem.Spec PyProof.Rows L2
/-! ### good rows -/
def wayK (x y : Str) : List Key := [.inr x, .inr y]
structure GoodRow (r : Row) : Prop where
  p1 : isP (.str r.1) = true
  p2 : isP (.str r.2.1) = true
  ne : r.1 ≠ r.2.1
  c : isC (.int r.2.2) = true
structure GoodRows (rs : List Row) : Prop where
  ok : ∀ r ∈ rs, GoodRow r
  nd : (rs.map fun r => (r.1, r.2.1)).Nodup
theorem valV_none {κ : Type} [DecidableEq κ] {kvs : List (κ × V)} {k : κ} (h : ∀ v, (k, v) ∉ kvs) : valV kvs k = none := by
  induction kvs with
  | nil => rfl
  | cons q r ih =>
    have n : ¬ q.1 = k := fun e => h q.2 (by rw [← e]; exact List.mem_cons_self)
    rw [valV_neg n]
    exact ih fun v hv => h v (List.mem_cons_of_mem _ hv)
theorem valV_some {κ : Type} [DecidableEq κ] {kvs : List (κ × V)} {k : κ} {v : V} (h : valV kvs k = some v) : (k, v) ∈ kvs := by
  induction kvs with
  | nil => cases h
  | cons q r ih =>
    by_cases e : q.1 = k
    · rw [valV_pos e] at h
      cases h
      rw [← e]
      exact List.mem_cons_self
    · rw [valV_neg e] at h
      exact List.mem_cons_of_mem _ (ih h)
theorem wayK_inj {x y x' y' : Str} (h : wayK x y = wayK x' y') : x = x' ∧ y = y' := by
  unfold wayK at h
  have h1 := List.cons.inj h
  have h2 := List.cons.inj h1.2
  exact ⟨Sum.inr.inj h1.1, Sum.inr.inj h2.1⟩
theorem way_new {rs : List Row} {x y : Str} (f : Row → V) (h : valV (rs.map fun r => (wayK r.1 r.2.1, f r)) (wayK x y) = none) : (x, y) ∉ rs.map fun r => (r.1, r.2.1) := by
  induction rs with
  | nil => simp
  | cons q r ih =>
    intro hm
    by_cases e : wayK q.1 q.2.1 = wayK x y
    · rw [List.map_cons, valV_pos (show (wayK q.1 q.2.1, f q).1 = wayK x y from e)] at h
      cases h
    · rw [List.map_cons, valV_neg (show ¬ (wayK q.1 q.2.1, f q).1 = wayK x y from e)] at h
      rcases List.mem_cons.mp hm with e2 | e2
      · have e3 : x = q.1 ∧ y = q.2.1 := by simpa using e2
        exact e (by rw [e3.1, e3.2])
      · exact ih h e2
theorem way_none {rs : List Row} {x y : Str} (f : Row → V) (h : (x, y) ∉ rs.map fun r => (r.1, r.2.1)) : valV (rs.map fun r => (wayK r.1 r.2.1, f r)) (wayK x y) = none := by
  refine valV_none fun v hv => ?_
  obtain ⟨r, hr, e⟩ := List.mem_map.mp hv
  have e1 := (Prod.mk.inj e).1
  obtain ⟨e2, e3⟩ := wayK_inj e1
  exact h (List.mem_map.mpr ⟨r, hr, by rw [e2, e3]⟩)
def givenOf (r : Row) : V × V × V := (.str r.1, .str r.2.1, .int r.2.2)
theorem isP_ask {z : Str} (h : isP (.str z) = true) : ask (.str z) := by
  have h1 : (decide (1 ≤ z.length) && decide (z.length ≤ 12) && z.cps.toList.all letter) = true := h
  simp only [Bool.and_eq_true, decide_eq_true_eq] at h1
  refine .inr (.inr (.inr ⟨z, rfl, by omega, fun c hc => ?_⟩))
  have h2 := List.all_eq_true.mp h1.2 c hc
  unfold letter at h2
  simp only [Bool.and_eq_true, decide_eq_true_eq] at h2
  omega
theorem put_good {rs : List Row} {r : Row} (h : GoodRow r) (hn : (r.1, r.2.1) ∉ rs.map fun r => (r.1, r.2.1)) (hl : rs.length < 160) : putDue rs (.str r.1) (.str r.2.1) (.int r.2.2) = 0 := by
  unfold putDue
  have e : isTold rs (.str r.1) (.str r.2.1) = false := by
    unfold isTold
    rw [show valV (rs.map rowK) [Sum.inr (strOf (.str r.1)), Sum.inr (strOf (.str r.2.1))] = none from way_none (fun r => .int r.2.2) hn]
    rfl
  rw [if_pos h.p1, if_pos h.p2, if_neg (fun z => h.ne (V.str.inj z)), if_pos h.c, e, if_neg Bool.false_ne_true, if_neg (by omega)]
theorem take_good {rs' : List Row} : ∀ {rs : List Row}, GoodRows (rs ++ rs') → (rs ++ rs').length ≤ 160 → takeRows rs (rs'.map givenOf) = (0, rs ++ rs') := by
  induction rs' with
  | nil => intro rs _ _; rw [List.append_nil]; rfl
  | cons r r' ih =>
    intro rs g hl
    have hg := g.ok r (by simp)
    have nd := g.nd
    rw [List.map_append, List.map_cons] at nd
    have hn : (r.1, r.2.1) ∉ rs.map fun r => (r.1, r.2.1) := fun hm => (List.nodup_append.mp nd).2.2 _ hm _ List.mem_cons_self rfl
    have h0 := put_good hg hn (by rw [List.length_append, List.length_cons] at hl; omega)
    show (if putDue rs (.str r.1) (.str r.2.1) (.int r.2.2) = 0 then takeRows (rs ++ [mkRow (.str r.1) (.str r.2.1) (.int r.2.2)]) (r'.map givenOf) else _) = _
    rw [if_pos h0]
    have e : rs ++ [mkRow (.str r.1) (.str r.2.1) (.int r.2.2)] ++ r' = rs ++ r :: r' := by rw [List.append_assoc]; rfl
    rw [ih (rs := rs ++ [mkRow (.str r.1) (.str r.2.1) (.int r.2.2)]) (by rw [e]; exact g) (by rw [e]; exact hl), e]
theorem good_snoc {rs : List Row} {r : Row} (g : GoodRows rs) (h : GoodRow r) (hn : (r.1, r.2.1) ∉ rs.map fun r => (r.1, r.2.1)) : GoodRows (rs ++ [r]) := by
  refine ⟨fun q hq => ?_, ?_⟩
  · rcases List.mem_append.mp hq with h1 | h1
    · exact g.ok q h1
    · rw [List.mem_singleton.mp h1]; exact h
  · rw [List.map_append]
    refine List.nodup_append.mpr ⟨g.nd, by simp, fun a ha b hb e => ?_⟩
    rw [List.map_cons, List.map_nil, List.mem_singleton] at hb
    rw [e, hb] at ha
    exact hn ha
theorem good_ask {rs : List Row} (g : GoodRows rs) : ∀ q ∈ rs.map givenOf, ask q.1 ∧ ask q.2.1 ∧ ask q.2.2 := fun q hq => by
  obtain ⟨r, hr, rfl⟩ := List.mem_map.mp hq
  have h := g.ok r hr
  exact ⟨isP_ask h.p1, isP_ask h.p2, .inr (.inr (.inl ⟨_, rfl⟩))⟩
/-! rows as data -/
def rowV (r : Row) : List V := [.str r.1, .str r.2.1, .int r.2.2]
def rowD (r : Row) : PyData := .tuple ((rowV r).map dat)
theorem row_flat {r : Row} (h : GoodRow r) : ∀ v ∈ rowV r, flat v := fun v hv => by
  unfold rowV at hv
  simp only [List.mem_cons, List.not_mem_nil, or_false] at hv
  rcases hv with e | e | e
  · rw [e]; exact ask_flat (isP_ask h.p1)
  · rw [e]; exact ask_flat (isP_ask h.p2)
  · rw [e]; exact .inr (.inr (.inl ⟨_, rfl⟩))
theorem dp_row {K : PySem.W.Frag} {H : Hp} {t : Addr} {r : Row} (h : GoodRow r) (e : IsRow H t r) : Dp K H (.ref t) (rowD r) := .tup (SqT.of e) (dpAll_flat (row_flat h))
theorem dp_rows {K : PySem.W.Frag} {H : Hp} : ∀ {ts : List Addr} {rs : List Row}, (∀ r ∈ rs, GoodRow r) → Paired (IsRow H) ts rs → DpAll K H (ts.map V.ref) (rs.map rowD)
  | _, _, _, .nil => .nil
  | _, _, g, .cons h t => .cons (dp_row (g _ List.mem_cons_self) h) (dp_rows (fun r hr => g r (List.mem_cons_of_mem _ hr)) t)
theorem shaped_row {r : Row} (h : GoodRow r) : SeqAt.shaped (rowD r) = true := shaped_tup (row_flat h)
theorem lay_rows : ∀ {rs : List Row}, (∀ r ∈ rs, GoodRow r) → PyData.canLayAll0 (rs.map rowD) = true ∧ PyData.depthAll (rs.map rowD) ≤ 1
  | [], _ => ⟨by simp [PyData.canLayAll0], by simp [PyData.depthAll]⟩
  | r :: rs, g => by
    have h1 := layAll_flat (row_flat (g r List.mem_cons_self))
    have h2 := lay_rows (rs := rs) fun q hq => g q (List.mem_cons_of_mem _ hq)
    have e1 : PyData.canLay0 (rowD r) = true := by unfold rowD; rw [PyData.canLay0, h1.1]
    have e2 : PyData.depth (rowD r) = 1 := by unfold rowD; rw [PyData.depth, h1.2]
    refine ⟨?_, ?_⟩
    · rw [List.map_cons, PyData.canLayAll0, e1, h2.1]; rfl
    · rw [List.map_cons, PyData.depthAll, e2]
      exact Nat.max_le.mpr ⟨Nat.le_refl _, h2.2⟩
theorem shaped_rows {rs : List Row} (g : ∀ r ∈ rs, GoodRow r) : SeqAt.shaped (.list (rs.map rowD)) = true := by
  have h := lay_rows g
  unfold SeqAt.shaped
  rw [PyData.canLay0, h.1, PyData.depth]
  have h2 : PyData.depthAll (rs.map rowD) + 1 ≤ 64 := by omega
  rw [decide_eq_true h2]; rfl
theorem nodup_take {α : Type} : ∀ {l : List α} {i : Nat} {x : α}, l.Nodup → l[i]? = some x → x ∉ l.take i
  | [], _, _, _, h => by simp at h
  | y :: l, 0, x, _, _ => by simp
  | y :: l, i + 1, x, nd, h => by
    have h1 := List.nodup_cons.mp nd
    have h2 : l[i]? = some x := by simpa using h
    have h3 := nodup_take (l := l) (i := i) h1.2 h2
    rw [List.take_succ_cons]
    intro hm
    rcases List.mem_cons.mp hm with e | e
    · rw [← e] at h1; exact h1.1 (List.mem_of_getElem? h2)
    · exact h3 e
theorem way_fresh {rs : List Row} {i : Nat} {r : Row} (g : GoodRows rs) (h : rs[i]? = some r) : valV ((rs.take i).map rowK) [.inr r.1, .inr r.2.1] = none := by
  refine way_none (rs := rs.take i) (fun r => .int r.2.2) ?_
  have h1 : (rs.map fun r => (r.1, r.2.1))[i]? = some (r.1, r.2.1) := by rw [List.getElem?_map, h]; rfl
  have h2 := nodup_take g.nd h1
  rw [← List.map_take] at h2
  exact h2
theorem take_rowK {rs : List Row} {i : Nat} {r : Row} (g : GoodRows rs) (h : rs[i]? = some r) : putK ((rs.take i).map rowK) [.inr r.1, .inr r.2.1] (.int r.2.2) = (rs.take (i + 1)).map rowK := by
  rw [rowK_put (way_fresh g h), List.take_add_one, h]
  rfl
theorem shaped_two {r1 r2 : List Row} (g1 : ∀ r ∈ r1, GoodRow r) (g2 : ∀ r ∈ r2, GoodRow r) : SeqAt.shaped (.list [.list (r1.map rowD), .list (r2.map rowD)]) = true := by
  have h1 := lay_rows g1
  have h2 := lay_rows g2
  have e : PyData.depthAll [.list (r1.map rowD), .list (r2.map rowD)] ≤ 2 := by
    rw [PyData.depthAll, PyData.depthAll, PyData.depthAll, PyData.depth, PyData.depth]
    omega
  unfold SeqAt.shaped
  rw [PyData.canLay0, PyData.canLayAll0, PyData.canLayAll0, PyData.canLayAll0, PyData.canLay0, PyData.canLay0, h1.1, h2.1, PyData.depth]
  rw [decide_eq_true (show PyData.depthAll [.list (r1.map rowD), .list (r2.map rowD)] + 1 ≤ 64 by omega)]
  rfl
theorem given_rows {K : PySem.W.Frag} {H : Hp} {ts : List Addr} {rs : List Row} (h : Paired (IsRow H) ts rs) : Paired (IsGiven K H) ts (rs.map givenOf) := by
  induction h with
  | nil => exact .nil
  | cons h t ih => exact .cons (SqT.of h) ih
theorem rows_same {H H' : Hp} {ts : List Addr} {rs : List Row} (s : Same H H') (h : Paired (IsRow H) ts rs) : Paired (IsRow H') ts rs := Paired.mapP h fun _ _ e => s _ _ e
theorem rows_but {H H' : Hp} {D : Addr} {o : HO} {ts : List Addr} {rs : List Row} (s : SameB D H H') (hD : H D = some o) (n : ∀ xs, o ≠ .tup xs) (h : Paired (IsRow H) ts rs) : Paired (IsRow H') ts rs :=
  Paired.mapP h fun _ _ e => s _ _ (ne_of e hD fun z => n _ z.symm) e
end Fb

namespace Fb
open PySem PySem.Spec PyProof.Rows L2
/-! ### methods, by facts -/
structure FM (K : PySem.W.Frag) (C : Addr) (m qual : Str) (st : Stmt) (f : Addr) : Prop where
  a : PySem.W.findIn K (.ref C) m = some (some (.ref f))
  i : PySem.W.isFn K (.ref f) = true
  l : ∃ (oc : Value) (od : Option Addr) (kV dc pm : Value) (an : Option Addr) (cd ct : Value) (osl : Array (Option Value)), K.lookup f = some ⟨oc, od, .func (PySem.W.fnOf m qual (defArgs st) (defBody st) (defScope st) .none kV dc pm an cd ct), osl⟩ ∧ PySem.W.codeIn K cd qual = true
  k : PySem.W.keepIn K (.ref f) = true
theorem fm_mk {K : PySem.W.Frag} {C : Addr} {m qual : Str} {st : Stmt} {f : Addr} {oc kV dc pm cd ct : Value} {od an : Option Addr} {osl : Array (Option Value)} (a : PySem.W.findIn K (.ref C) m = some (some (.ref f))) (i : PySem.W.isFn K (.ref f) = true)
    (l : K.lookup f = some ⟨oc, od, .func (PySem.W.fnOf m qual (defArgs st) (defBody st) (defScope st) .none kV dc pm an cd ct), osl⟩) (c : PySem.W.codeIn K cd qual = true) (k : PySem.W.keepIn K (.ref f) = true) : FM K C m qual st f := ⟨a, i, ⟨oc, od, kV, dc, pm, an, cd, ct, osl, l, c⟩, k⟩
structure CA (K : PySem.W.Frag) (x : Str) (C : Addr) : Prop where
  a : PySem.W.nsIn K mainGlobals x = some (some (.ref C))
  pg : PySem.W.plainGet K C Str.empty = true
  hd : PySem.W.hasDictIn K C = true
  po : PySem.W.plainOver K C = true
  sa : PySem.W.findIn K (.ref C) "__setattr__" = some (some (.builtin "object.__setattr__"))
  mks : PySem.W.makesIn K C = true
  k : PySem.W.keepIn K (.ref C) = true
theorem CA.cls {K : PySem.W.Frag} {x : Str} {C : Addr} (A : CA K x C) : Cls K C := ⟨A.pg, A.hd, A.po, A.sa⟩
section
variable {Pg : Program} {w : World} {K : PySem.W.Frag} {mg : Str → Option Value} {base h : Heap} {x m qual : Str} {st : Stmt} {f C : Addr} {ps : List Str} {sp : Sp} {k : Nat}
theorem FM.fn (A : FM K C m qual st f) (ok : ∀ fd, Fun K m qual st f fd → FnOk Pg w K mg base (L2.CX Pg w) k f fd ps sp)
    (hb : ∀ (kV doc pm : Value) (an : Option Addr) (cdv ct : Value) (us : List Value), us.length = ps.length → bindArgs (PySem.W.fnOf m qual (defArgs st) (defBody st) (defScope st) .none kV doc pm an cdv ct) ⟨us, []⟩ = pure (ps.zip us)) :
    ∃ fd, FnOk Pg w K mg base (L2.CX Pg w) k f fd ps sp ∧ Binds K fd ps [] := by
  obtain ⟨oc, od, kV, dc, pm, an, cd, ct, osl, l, c⟩ := A.l
  have F := fun_mk (st := st) l c A.k
  exact ⟨_, ok _ F, F.binds (ps := ps) hb⟩
theorem FM.dm (A : FM K C m qual st f) (ok : ∀ fd, Fun K m qual st f fd → FnOk Pg w K mg base (L2.CX Pg w) k f fd ps sp)
    (hb : ∀ (kV doc pm : Value) (an : Option Addr) (cdv ct : Value) (us : List Value), us.length = ps.length → bindArgs (PySem.W.fnOf m qual (defArgs st) (defBody st) (defScope st) .none kV doc pm an cdv ct) ⟨us, []⟩ = pure (ps.zip us)) :
    Dm Pg w K mg base k C m ps sp := by
  obtain ⟨fd, h1, h2⟩ := A.fn ok hb
  exact ⟨f, fd, h1, ⟨A.a, A.i, A.k⟩, h2⟩
theorem FM.dk (A : FM K C "__init__" qual st f) (B : CA K x C) (X : K.In h) (G : h.Ns mainGlobals mg) (ok : ∀ fd, Fun K "__init__" qual st f fd → FnOk Pg w K mg base (L2.CX Pg w) k f fd ps sp)
    (hb : ∀ (kV doc pm : Value) (an : Option Addr) (cdv ct : Value) (us : List Value), us.length = ps.length → bindArgs (PySem.W.fnOf "__init__" qual (defArgs st) (defBody st) (defScope st) .none kV doc pm an cdv ct) ⟨us, []⟩ = pure (ps.zip us)) :
    Dk Pg w K mg base k x C ps sp := by
  obtain ⟨fd, h1, h2⟩ := A.fn ok hb
  exact ⟨PySem.W.mg_of X G B.a, f, fd, h1, ⟨B.mks, A.a, A.i, B.k⟩, h2⟩
end
end Fb

namespace Fb
open PySem PySem.Spec PyProof.Rows L2
local macro_rules | `(tactic| walk_at "s") => `(tactic| repeat (first | refine ⟨_, rfl, ?_⟩ | refine ⟨_, _, rfl, rfl, ?_⟩ | refine ⟨_, _, rfl, Or.inl (by assumption), ?_⟩ | refine ⟨rfl, ?_⟩ | refine ⟨(by decide : (0 : Int) < _), ?_⟩ | refine ⟨⟨by decide, by decide⟩, ?_⟩ | refine ⟨_, _, _, rfl, (by assumption), (by first | decide | omega), ?_⟩))
def topS (i : Nat) : Stmt := PySem.Challenge.pw_farebreak_k01_told_prices.main.body.getD i (.Pass ⟨0, 0, 0, 0⟩)
structure Txt (K : PySem.W.Frag) (mg : Str → Option Value) (a : Ads) : Prop where
  n_len : mg "len" = none
  n_int : mg "int" = none
  n_str : mg "str" = none
  n_list : mg "list" = none
  n_tuple : mg "tuple" = none
  n_dict : mg "dict" = none
  n_isinstance : mg "isinstance" = none
  n_range : mg "range" = none
  n_enumerate : mg "enumerate" = none
  n_all : mg "all" = none
  n_any : mg "any" = none
  n_sum : mg "sum" = none
  n_min : mg "min" = none
  n_max : mg "max" = none
  n_abs : mg "abs" = none
  n_sorted : mg "sorted" = none
  n_zip : mg "zip" = none
  n_reversed : mg "reversed" = none
  n_bool : mg "bool" = none
  n_ValueError : mg "ValueError" = none
  c_LONGEST_PLACE : ∃ t, mg "LONGEST_PLACE" = some (.int 12 t)
  c_HIGHEST_PRICE : ∃ t, mg "HIGHEST_PRICE" = some (.int 1000000000000 t)
  c_MOST_ROWS : ∃ t, mg "MOST_ROWS" = some (.int 160 t)
  x_FareError : ExK K mg "FareError" a.FareError veMro
  x_BadPlace : ExK K mg "BadPlace" a.BadPlace veMro
  x_BadPrice : ExK K mg "BadPrice" a.BadPrice veMro
  x_TwiceTold : ExK K mg "TwiceTold" a.TwiceTold veMro
  x_TooMany : ExK K mg "TooMany" a.TooMany veMro
  e_BadPlace : PySem.W.exmOne K (.ref a.BadPlace) (.ref a.FareError) = some true
  i_BadPlace : ExcC K a.BadPlace
  v_BadPlace : PySem.W.kitOne K (.ref a.BadPlace) (.type "ValueError") = some true
  k_BadPlace_BadPlace : PySem.W.kitOne K (.ref a.BadPlace) (.ref a.BadPlace) = some true
  k_BadPlace_BadPrice : PySem.W.kitOne K (.ref a.BadPlace) (.ref a.BadPrice) = some false
  k_BadPlace_TwiceTold : PySem.W.kitOne K (.ref a.BadPlace) (.ref a.TwiceTold) = some false
  k_BadPlace_TooMany : PySem.W.kitOne K (.ref a.BadPlace) (.ref a.TooMany) = some false
  e_BadPrice : PySem.W.exmOne K (.ref a.BadPrice) (.ref a.FareError) = some true
  i_BadPrice : ExcC K a.BadPrice
  v_BadPrice : PySem.W.kitOne K (.ref a.BadPrice) (.type "ValueError") = some true
  k_BadPrice_BadPlace : PySem.W.kitOne K (.ref a.BadPrice) (.ref a.BadPlace) = some false
  k_BadPrice_BadPrice : PySem.W.kitOne K (.ref a.BadPrice) (.ref a.BadPrice) = some true
  k_BadPrice_TwiceTold : PySem.W.kitOne K (.ref a.BadPrice) (.ref a.TwiceTold) = some false
  k_BadPrice_TooMany : PySem.W.kitOne K (.ref a.BadPrice) (.ref a.TooMany) = some false
  e_TwiceTold : PySem.W.exmOne K (.ref a.TwiceTold) (.ref a.FareError) = some true
  i_TwiceTold : ExcC K a.TwiceTold
  v_TwiceTold : PySem.W.kitOne K (.ref a.TwiceTold) (.type "ValueError") = some true
  k_TwiceTold_BadPlace : PySem.W.kitOne K (.ref a.TwiceTold) (.ref a.BadPlace) = some false
  k_TwiceTold_BadPrice : PySem.W.kitOne K (.ref a.TwiceTold) (.ref a.BadPrice) = some false
  k_TwiceTold_TwiceTold : PySem.W.kitOne K (.ref a.TwiceTold) (.ref a.TwiceTold) = some true
  k_TwiceTold_TooMany : PySem.W.kitOne K (.ref a.TwiceTold) (.ref a.TooMany) = some false
  e_TooMany : PySem.W.exmOne K (.ref a.TooMany) (.ref a.FareError) = some true
  i_TooMany : ExcC K a.TooMany
  v_TooMany : PySem.W.kitOne K (.ref a.TooMany) (.type "ValueError") = some true
  k_TooMany_BadPlace : PySem.W.kitOne K (.ref a.TooMany) (.ref a.BadPlace) = some false
  k_TooMany_BadPrice : PySem.W.kitOne K (.ref a.TooMany) (.ref a.BadPrice) = some false
  k_TooMany_TwiceTold : PySem.W.kitOne K (.ref a.TooMany) (.ref a.TwiceTold) = some false
  k_TooMany_TooMany : PySem.W.kitOne K (.ref a.TooMany) (.ref a.TooMany) = some true
  cl_Tariff : Cls K a.Tariff
  na_prices : NoAttr K a.Tariff "_prices"
/-! ### is_place, is_price -/
def spIsPlace (P : Addr) : Sp := fun vs H Q _ => ∃ v : V, vs = [v] ∧ ask v ∧ H P = some (TabO P) ∧ Q (.bl (isP v)) H
def spIsPrice : Sp := fun vs H Q _ => ∃ v : V, vs = [v] ∧ ask v ∧ Q (.bl (isC v)) H
abbrev s_is_place : Stmt := topS 10
abbrev N_is_place : List Str := ["thing"]
theorem sc_is_place : FnScope N_is_place ["thing"] (defScope s_is_place) := ⟨rfl, rfl, rfl, by decide +kernel, rfl, by decide +kernel, by decide +kernel⟩
abbrev s_is_price : Stmt := topS 11
abbrev N_is_price : List Str := ["thing"]
theorem sc_is_price : FnScope N_is_price ["thing"] (defScope s_is_price) := ⟨rfl, rfl, rfl, by decide +kernel, rfl, by decide +kernel, by decide +kernel⟩
section
variable {Pg : Program} {w : World} {K : PySem.W.Frag} {mg : Str → Option Value} {base : Heap} {a : Ads}
theorem ok_is_place {f c P : Addr} {fd : FuncData} (F : FunC K "is_place" "is_place" s_is_place f fd c) (T : Txt K mg a) (TB : GxR.TabB base mg c P) : FnOk Pg w K mg base (L2.CX Pg w) 2 f fd ["thing"] (spIsPlace P) := by
  refine F.okX sc_is_place (fun vs H Q E h => ?_) (fun A outer s H vs Q E hr h => ?_)
  · obtain ⟨c, rfl, _⟩ := h
    rfl
  · obtain ⟨v, rfl, ha, hP, q⟩ := h
    refine ⟨_, (pss_cons (ps_if (pt_not (pt_val (pe_callB call_isi (by rfl) T.n_isinstance (by decide +kernel) (pa_cons (pv 0) (pa_cons (pe_bty (n := "str") T.n_str (by decide +kernel)) pa_nil))))) (pss_one (ps_ret pe_bl)) pss_nil)
      (pss_cons (ps_if (pt_not (pt_chain op_le op_le pe_int (pe_callB call_len_str (by rfl) T.n_len (by decide +kernel) (pa_cons (pv 0) pa_nil)) (pe_gint T.c_LONGEST_PLACE rfl))) (pss_one (ps_ret pe_bl)) pss_nil)
      (pss_one (ps_ret (pe_allP (i := 0) (GxR.pe_allS hr rfl T.n_all (by decide +kernel) TB rfl ⟨rfl, rfl, by decide +kernel, rfl, rfl, nofree_ex (by decide +kernel)⟩ (pv 0) (elt_btw rfl rfl) (fun _ => rfl))))))), ?_⟩
    rcases ha with rfl | ⟨b, rfl⟩ | ⟨i, rfl⟩ | ⟨z, rfl, hz⟩
    · walk_at "s"
      exact ⟨_, _, _, _, false, rfl, .ty "str", .base .non, kit_ty (by decide +kernel), _, rfl, q⟩
    · walk_at "s"
      exact ⟨_, _, _, _, false, rfl, .ty "str", .base (.bl b), kit_ty (by decide +kernel), _, rfl, q⟩
    · walk_at "s"
      exact ⟨_, _, _, _, false, rfl, .ty "str", .base (.int i), kit_ty (by decide +kernel), _, rfl, q⟩
    · walk_at "s"
      refine ⟨_, _, _, _, true, rfl, .ty "str", .base (.str z), kit_ty (by decide +kernel), _, rfl, ?_⟩
      walk_at "s"
      refine ⟨szl (Nat.le_trans hz.1 (by decide)), ?_⟩
      walk_at "s"
      refine ifD (fun c1 => ?_) (fun c1 => ?_)
      · walk_at "s"
        refine ifND (fun c2 => ?_) (fun c2 => ?_)
        · rw [isP_long c2] at q
          exact q
        · refine ⟨z, rfl, hP, ?_⟩
          rw [isP_mid c1 c2] at q
          rw [show (fun c => !decide (([c] : List Nat) < (Str.ofString "a").cps.toList) && !decide ((Str.ofString "z").cps.toList < ([c] : List Nat))) = letter from funext btw_letter]
          exact q
      · walk_at "s"
        refine ifT1 ?_
        rw [isP_short c1] at q
        exact q
theorem ok_is_price {f : Addr} {fd : FuncData} (F : Fun K "is_price" "is_price" s_is_price f fd) (T : Txt K mg a) : FnOk Pg w K mg base (L2.CX Pg w) 1 f fd ["thing"] spIsPrice := by
  refine F.okX sc_is_price (fun vs H Q E h => ?_) (fun cdv A outer s H vs Q E hr h => ?_)
  · obtain ⟨c, rfl, _⟩ := h
    rfl
  · obtain ⟨v, rfl, ha, q⟩ := h
    refine ⟨_, (pss_cons (ps_if (PW.pt (pw_or (pt_val (pe_callB call_isi (by rfl) T.n_isinstance (by decide +kernel) (pa_cons (pv 0) (pa_cons (pe_bty (n := "bool") T.n_bool (by decide +kernel)) pa_nil)))) (pw_or1 (pt_not (pt_val (pe_callB call_isi (by rfl) T.n_isinstance (by decide +kernel) (pa_cons (pv 0) (pa_cons (pe_bty (n := "int") T.n_int (by decide +kernel)) pa_nil)))))))) (pss_one (ps_ret pe_bl)) pss_nil)
      (pss_one (ps_ret (pe_chain op_le op_le pe_int (pv 0) (pe_gint T.c_HIGHEST_PRICE rfl))))), ?_⟩
    rcases ha with rfl | ⟨b, rfl⟩ | ⟨i, rfl⟩ | ⟨z, rfl, hz⟩
    · walk_at "s"
      refine ⟨_, _, _, _, false, rfl, .ty "bool", .base .non, kit_ty (by decide +kernel), _, rfl, ?_⟩
      walk_at "s"
      exact ⟨_, _, _, _, false, rfl, .ty "int", .base .non, kit_ty (by decide +kernel), _, rfl, q⟩
    · walk_at "s"
      exact ⟨_, _, _, _, true, rfl, .ty "bool", .base (.bl b), kit_ty (by decide +kernel), _, rfl, q⟩
    · walk_at "s"
      refine ⟨_, _, _, _, false, rfl, .ty "bool", .base (.int i), kit_ty (by decide +kernel), _, rfl, ?_⟩
      walk_at "s"
      refine ⟨_, _, _, _, true, rfl, .ty "int", .base (.int i), kit_ty (by decide +kernel), _, rfl, ?_⟩
      walk_at "s"
      refine ifD (fun c1 => ?_) (fun c1 => ?_)
      · walk_at "s"
        have e : isC (.int i) = decide (i ≤ 1000000000000) := by
          show (decide (0 ≤ i) && decide (i ≤ 1000000000000)) = _
          rw [decide_eq_true c1]; rfl
        rw [e] at q
        exact q
      · have e : isC (.int i) = false := by
          show (decide (0 ≤ i) && decide (i ≤ 1000000000000)) = _
          rw [decide_eq_false c1]; rfl
        rw [e] at q
        exact q
    · walk_at "s"
      refine ⟨_, _, _, _, false, rfl, .ty "bool", .base (.str z), kit_ty (by decide +kernel), _, rfl, ?_⟩
      walk_at "s"
      exact ⟨_, _, _, _, false, rfl, .ty "int", .base (.str z), kit_ty (by decide +kernel), _, rfl, q⟩
end
end Fb

namespace Fb
open PySem PySem.Spec PyProof.Rows L2
local macro_rules | `(tactic| walk_at "s") => `(tactic| repeat (first | refine ⟨_, rfl, ?_⟩ | refine ⟨_, _, rfl, rfl, ?_⟩ | refine ⟨_, _, rfl, Or.inl (by assumption), ?_⟩ | refine ⟨rfl, ?_⟩ | refine ⟨(by decide : (0 : Int) < _), ?_⟩ | refine ⟨⟨by decide, by decide⟩, ?_⟩ | refine ⟨_, _, _, rfl, (by assumption), (by first | decide | omega), ?_⟩))
def spPut (a : Ads) (P : Addr) : Sp := fun vs H Q E => ∃ (p d : Addr) (v1 v2 v3 : V) (rs : List Row), vs = [.ref p, v1, v2, v3] ∧ ask v1 ∧ ask v2 ∧ ask v3 ∧ H P = some (TabO P) ∧ TarAt a.Tariff H p d rs ∧ rs.length ≤ 1000 ∧
  (putDue rs v1 v2 v3 = 0 → ∀ H', SameB d H H' → TarAt a.Tariff H' p d (rs ++ [mkRow v1 v2 v3]) → Q .non H') ∧ (putDue rs v1 v2 v3 ≠ 0 → ∀ H', Same H H' → E (.ref (errOf a (putDue rs v1 v2 v3))) none H')
abbrev s_Tariff_put : Stmt := inClass (topS 12) 1
abbrev N_Tariff_put : List Str := ["self", "here", "there", "price"]
theorem sc_Tariff_put : FnScope N_Tariff_put ["self", "here", "there", "price"] (defScope s_Tariff_put) := ⟨rfl, rfl, rfl, by decide +kernel, rfl, by decide +kernel, by decide +kernel⟩
section
variable {Pg : Program} {w : World} {K : PySem.W.Frag} {mg : Str → Option Value} {base : Heap} {a : Ads}
theorem ok_put {f P : Addr} {fd : FuncData} (F : Fun K "put" "Tariff.put" s_Tariff_put f fd) (T : Txt K mg a) (D_is_place : Dn Pg w K mg base 2 "is_place" ["thing"] (spIsPlace P)) (D_is_price : Dn Pg w K mg base 1 "is_price" ["thing"] spIsPrice) : FnOk Pg w K mg base (L2.CX Pg w) 3 f fd ["self", "here", "there", "price"] (spPut a P) := by
  refine F.okX sc_Tariff_put (fun vs H Q E h => ?_) (fun cdv A outer s H vs Q E hr h => ?_)
  · obtain ⟨p, d, v1, v2, v3, rs, rfl, _⟩ := h
    rfl
  · obtain ⟨p, d, v1, v2, v3, rs, rfl, h1, h2, h3, hP, hT, hlen, q0, qE⟩ := h
    have hu := hu_of hr
    obtain ⟨dx, hob⟩ := hT.ob
    have hdc := hT.dc
    have npd := hT.ne
    refine ⟨_, (pss_cons (ps_if (pt_not (pt_val (pe_fnS D_is_place (hr.mono (by decide)) passC (pa_cons (pv 1) pa_nil)))) (pss_one (ps_raise rfl (takes_of rfl rfl rfl rfl) (pmk_own PySem.F.excBase_ValueError T.x_BadPlace.x T.x_BadPlace.g T.x_BadPlace.k (raises_own T.x_BadPlace.b T.x_BadPlace.t) rfl))) pss_nil)
      (pss_cons (ps_if (pt_not (pt_val (pe_fnS D_is_place (hr.mono (by decide)) passC (pa_cons (pv 2) pa_nil)))) (pss_one (ps_raise rfl (takes_of rfl rfl rfl rfl) (pmk_own PySem.F.excBase_ValueError T.x_BadPlace.x T.x_BadPlace.g T.x_BadPlace.k (raises_own T.x_BadPlace.b T.x_BadPlace.t) rfl))) pss_nil)
      (pss_cons (ps_if (pt_cmpR op_eq (pv 1) (pv 2) (nomark _)) (pss_one (ps_raise rfl (takes_of rfl rfl rfl rfl) (pmk_own PySem.F.excBase_ValueError T.x_BadPlace.x T.x_BadPlace.g T.x_BadPlace.k (raises_own T.x_BadPlace.b T.x_BadPlace.t) rfl))) pss_nil)
      (pss_cons (ps_if (pt_not (pt_val (pe_fnS D_is_price (hr.mono (by decide)) passC (pa_cons (pv 3) pa_nil)))) (pss_one (ps_raise rfl (takes_of rfl rfl rfl rfl) (pmk_own PySem.F.excBase_ValueError T.x_BadPrice.x T.x_BadPrice.g T.x_BadPrice.k (raises_own T.x_BadPrice.b T.x_BadPrice.t) rfl))) pss_nil)
      (pss_cons (ps_if (pt_cmp (pc_din hu (pe_tup (pa_cons (pv 1) (pa_cons (pv 2) pa_nil))) (pe_fld (pv 0) rfl))) (pss_one (ps_raise rfl (takes_of rfl rfl rfl rfl) (SkE.pmk_own1 PySem.F.excBase_ValueError T.x_TwiceTold.x T.x_TwiceTold.g T.x_TwiceTold.k (raises_own T.x_TwiceTold.b T.x_TwiceTold.t) rfl (pe_joined (PJ.cons pe_str (PJ.cons (pe_fmt (pv 1)) (PJ.cons pe_str (PJ.cons (pe_fmt (pv 2)) (PJ.cons pe_str PJ.nil))))))))) pss_nil)
      (pss_cons (ps_if (pt_cmpR op_ge (pe_callB call_len_dT (by rfl) T.n_len (by decide +kernel) (pa_cons (pe_fld (pv 0) rfl) pa_nil)) (pe_gint T.c_MOST_ROWS rfl) (nomark _)) (pss_one (ps_raise rfl (takes_of rfl rfl rfl rfl) (SkE.pmk_own1 PySem.F.excBase_ValueError T.x_TooMany.x T.x_TooMany.g T.x_TooMany.k (raises_own T.x_TooMany.b T.x_TooMany.t) rfl (pe_joined (PJ.cons pe_str (PJ.cons (pe_fmt (pe_gint T.c_MOST_ROWS rfl)) (PJ.cons pe_str PJ.nil))))))) pss_nil)
      (pss_one (ps_dput hu (pe_fld (pv 0) rfl) (pe_tup (pa_cons (pv 1) (pa_cons (pv 2) pa_nil))) (pv 3) rfl)))))))), ?_⟩
    walk_at "s"
    refine ⟨h1, hP, ?_⟩
    walk_at "s"
    refine ifNB (fun c1 => ?_) (fun c1 => ?_)
    · have e : putDue rs v1 v2 v3 = 1 := by unfold putDue; rw [c1]; rfl
      rw [e] at qE
      exact qE (by decide) _ (Same.refl _)
    walk_at "s"
    refine ⟨h2, hP, ?_⟩
    walk_at "s"
    refine ifNB (fun c2 => ?_) (fun c2 => ?_)
    · have e : putDue rs v1 v2 v3 = 1 := by unfold putDue; rw [if_pos c1, c2]; rfl
      rw [e] at qE
      exact qE (by decide) _ (Same.refl _)
    obtain ⟨z1, rfl⟩ := isP_str c1
    obtain ⟨z2, rfl⟩ := isP_str c2
    walk_at "s"
    refine ifD (fun c3 => ?_) (fun c3 => ?_)
    · have e : putDue rs (.str z1) (.str z2) v3 = 1 := by unfold putDue; rw [if_pos c1, if_pos c2, if_pos c3]
      rw [e] at qE
      exact qE (by decide) _ (Same.refl _)
    walk_at "s"
    refine ⟨h3, ?_⟩
    walk_at "s"
    refine ifNB (fun c4 => ?_) (fun c4 => ?_)
    · have e : putDue rs (.str z1) (.str z2) v3 = 2 := by unfold putDue; rw [if_pos c1, if_pos c2, if_neg c3, c4]; rfl
      rw [e] at qE
      exact qE (by decide) _ (Same.refl _)
    obtain ⟨n, rfl⟩ : ∃ n, v3 = .int n := by
      cases v3 with
      | int n => exact ⟨n, rfl⟩
      | _ => cases c4
    walk_at "s"
    refine ⟨(by show 2 ≤ sizeLine; decide), fun t ht => ?_⟩
    have s1 : Same H (upd H t (.tup [.str z1, .str z2])) := same_new ht
    have hob1 := s1 _ _ hob
    have hdc1 := s1 _ _ hdc
    walk_at "s"
    refine ⟨p, a.Tariff, dx, _, .ref d, rfl, hob1, T.cl_Tariff, T.na_prices, prices_lookup d, d, _, rfl, DGet.t (k := [.inr z1, .inr z2]) hdc1 upd_same, ?_⟩
    have ek : isTold rs (.str z1) (.str z2) = (valV (rs.map rowK) [.inr z1, .inr z2]).isSome := rfl
    have l1 : z1.length ≤ 12 := by
      have := c1
      unfold isP at this
      simp only [Bool.and_eq_true, decide_eq_true_eq] at this
      exact this.1.2
    have l2 : z2.length ≤ 12 := by
      have := c2
      unfold isP at this
      simp only [Bool.and_eq_true, decide_eq_true_eq] at this
      exact this.1.2
    walk_at "s"
    refine ifB (fun c5 => ?_) (fun c5 => ?_)
    · have e : putDue rs (.str z1) (.str z2) (.int n) = 3 := by unfold putDue; rw [if_pos c1, if_pos c2, if_neg c3, if_pos c4, if_pos (by rw [ek]; exact c5)]
      rw [e] at qE
      have la := lapp (show (Str.empty ++ Str.ofString "the way from ").length ≤ 50 by decide +kernel) l1
      have lb := lapp la (show (Str.ofString " to ").length ≤ 10 by decide +kernel)
      have lc := lapp lb l2
      have ld := lapp lc (show (Str.ofString " has a row already").length ≤ 50 by decide +kernel)
      walk_at "s"
      refine ⟨by decide +kernel, ?_⟩
      walk_at "s"
      refine .inl ⟨z1, rfl, szl (by omega), ?_⟩
      walk_at "s"
      refine ⟨szl (by omega), ?_⟩
      walk_at "s"
      refine ⟨szl (by omega), ?_⟩
      walk_at "s"
      refine .inl ⟨z2, rfl, szl (by omega), ?_⟩
      walk_at "s"
      refine ⟨szl (by omega), ?_⟩
      walk_at "s"
      exact ⟨szl (by omega), qE (by decide) _ s1⟩
    have c5' : valV (rs.map rowK) [.inr z1, .inr z2] = none := by simpa using c5
    walk_at "s"
    refine ⟨p, a.Tariff, dx, _, .ref d, rfl, hob1, T.cl_Tariff, T.na_prices, prices_lookup d, d, _, rfl, hdc1, ?_⟩
    walk_at "s"
    refine ifD (fun c6 => ?_) (fun c6 => ?_)
    · rw [List.length_map] at c6
      have e : putDue rs (.str z1) (.str z2) (.int n) = 4 := by unfold putDue; rw [if_pos c1, if_pos c2, if_neg c3, if_pos c4, if_neg (by rw [ek]; simp [c5']), if_pos (by omega)]
      rw [e] at qE
      walk_at "s"
      refine ⟨by decide +kernel, ?_⟩
      walk_at "s"
      refine .inr ⟨160, rfl, by decide, ?_⟩
      walk_at "s"
      refine ⟨by decide +kernel, ?_⟩
      walk_at "s"
      exact ⟨by decide +kernel, qE (by decide) _ s1⟩
    rw [List.length_map] at c6
    have e : putDue rs (.str z1) (.str z2) (.int n) = 0 := by unfold putDue; rw [if_pos c1, if_pos c2, if_neg c3, if_pos c4, if_neg (by rw [ek]; simp [c5']), if_neg (by omega)]
    walk_at "s"
    refine ⟨p, a.Tariff, dx, _, .ref d, rfl, hob1, T.cl_Tariff, T.na_prices, prices_lookup d, ?_⟩
    walk_at "s"
    refine ⟨(by show 2 ≤ sizeLine; decide), fun u hu2 => ?_⟩
    have s2 : Same H (upd (upd H t (.tup [.str z1, .str z2])) u (.tup [.str z1, .str z2])) := Same.trans s1 (same_new hu2)
    have hob2 := s2 _ _ hob
    have hdc2 := s2 _ _ hdc
    refine ⟨d, _, rfl, DPut.t (k := [.inr z1, .inr z2]) hdc2 upd_same (szlt (by rw [List.length_map]; omega)), ?_⟩
    refine q0 e _ (fun b o nb hb => by rw [upd_ne nb]; exact s2 _ _ hb) ⟨⟨dx, by rw [upd_ne npd]; exact hob2⟩, ?_⟩
    rw [upd_same, rowK_put c5']
    rfl
end
end Fb

namespace Fb
open PySem PySem.Spec PyProof.Rows L2
local macro_rules | `(tactic| walk_at "s") => `(tactic| repeat (first | refine ⟨_, rfl, ?_⟩ | refine ⟨_, _, rfl, rfl, ?_⟩ | refine ⟨_, _, rfl, Or.inl (by assumption), ?_⟩ | refine ⟨rfl, ?_⟩ | refine ⟨(by decide : (0 : Int) < _), ?_⟩ | refine ⟨⟨by decide, by decide⟩, ?_⟩ | refine ⟨_, _, _, rfl, (by assumption), (by first | decide | omega), ?_⟩))
theorem but_l {K : PySem.W.Frag} {H H' : Hp} {D l : Addr} {o : HO} {xs : List V} (s : SameB D H H') (hD : H D = some o) (n1 : ∀ xs, o ≠ .lst xs) (n2 : ∀ ob u, o ≠ .frz ob u) (h : SqL K H l xs) : SqL K H' l xs := by
  rcases h with (h | ⟨ob, h⟩) | h
  · exact .inl (.inl (s _ _ (ne_of h hD fun e => n1 _ e.symm) h))
  · exact .inl (.inr ⟨ob, s _ _ (ne_of h hD fun e => n2 _ _ e.symm) h⟩)
  · exact .inr h
theorem but_t {K : PySem.W.Frag} {H H' : Hp} {D l : Addr} {o : HO} {xs : List V} (s : SameB D H H') (hD : H D = some o) (n1 : ∀ xs, o ≠ .tup xs) (n2 : ∀ ob u, o ≠ .frz ob u) (h : SqT K H l xs) : SqT K H' l xs := by
  rcases h with (h | ⟨ob, h⟩) | h
  · exact .inl (.inl (s _ _ (ne_of h hD fun e => n1 _ e.symm) h))
  · exact .inl (.inr ⟨ob, s _ _ (ne_of h hD fun e => n2 _ _ e.symm) h⟩)
  · exact .inr h
theorem paired_at {α β : Type} {R : α → β → Prop} : ∀ {xs : List α} {ys : List β} {i : Nat} {x : α}, Paired R xs ys → xs[i]? = some x → ∃ y, ys[i]? = some y ∧ R x y
  | _, _, _, _, .nil, h => by simp at h
  | _, _, 0, _, .cons r _, h => by
    simp only [List.getElem?_cons_zero, Option.some.injEq] at h
    subst h
    exact ⟨_, rfl, r⟩
  | _, _, i + 1, x, .cons _ t, h => paired_at (i := i) (x := x) t (by simpa using h)
theorem take_step {rs : List Row} {gs : List (V × V × V)} {i : Nat} {g : V × V × V} (h : gs[i]? = some g) :
    takeRows rs (gs.drop i) = if putDue rs g.1 g.2.1 g.2.2 = 0 then takeRows (rs ++ [mkRow g.1 g.2.1 g.2.2]) (gs.drop (i + 1)) else (putDue rs g.1 g.2.1 g.2.2, rs) := by
  obtain ⟨hl, e⟩ := List.getElem?_eq_some_iff.mp h
  rw [List.drop_eq_getElem_cons hl, e]
  rfl
def spInit (K : PySem.W.Frag) (a : Ads) (P : Addr) : Sp := fun vs H Q E => ∃ (p dx l : Addr) (ts : List Addr) (gs : List (V × V × V)), vs = [.ref p, .ref l] ∧ H p = some (.ins a.Tariff dx []) ∧ H P = some (TabO P) ∧ SqL K H l (ts.map V.ref) ∧
  Paired (IsGiven K H) ts gs ∧ (∀ g ∈ gs, ask g.1 ∧ ask g.2.1 ∧ ask g.2.2) ∧ gs.length ≤ 400 ∧
  ((takeRows [] gs).1 = 0 → ∀ d H', H d = none → SameB p H H' → TarAt a.Tariff H' p d (takeRows [] gs).2 → Q .non H') ∧
  ((takeRows [] gs).1 ≠ 0 → ∀ H', SameB p H H' → E (.ref (errOf a (takeRows [] gs).1)) none H')
def lookR (rs : List Row) (x y : Str) : V := (valV (rs.map rowK) [.inr x, .inr y]).getD .non
def spPrice (a : Ads) : Sp := fun vs H Q _ => ∃ (p d : Addr) (x y : Str) (rs : List Row), vs = [.ref p, .str x, .str y] ∧ TarAt a.Tariff H p d rs ∧ ∀ H', Same H H' → Q (lookR rs x y) H'
def spTold (a : Ads) : Sp := fun vs H Q _ => ∃ (p d : Addr) (rs : List Row), vs = [.ref p] ∧ TarAt a.Tariff H p d rs ∧ rs.length ≤ 1000 ∧
  ∀ (q : Addr) (H' : Hp) (ts : List Addr), H q = none → Same H H' → H' q = some (.lst (ts.map V.ref)) → Paired (IsRow H') ts rs → Q (.ref q) H'
abbrev s_Tariff_init : Stmt := inClass (topS 12) 0
abbrev N_Tariff_init : List Str := ["self", "rows", "here", "there", "price"]
theorem sc_Tariff_init : FnScope N_Tariff_init ["self", "rows"] (defScope s_Tariff_init) := ⟨rfl, rfl, rfl, by decide +kernel, rfl, by decide +kernel, by decide +kernel⟩
abbrev s_Tariff_price : Stmt := inClass (topS 12) 2
abbrev N_Tariff_price : List Str := ["self", "here", "there"]
theorem sc_Tariff_price : FnScope N_Tariff_price ["self", "here", "there"] (defScope s_Tariff_price) := ⟨rfl, rfl, rfl, by decide +kernel, rfl, by decide +kernel, by decide +kernel⟩
abbrev s_Tariff_told : Stmt := inClass (topS 12) 3
abbrev N_Tariff_told : List Str := ["self", "here", "there", "price"]
theorem sc_Tariff_told : FnScope N_Tariff_told ["self"] (defScope s_Tariff_told) := ⟨rfl, rfl, rfl, by decide +kernel, rfl, by decide +kernel, by decide +kernel⟩
section
variable {Pg : Program} {w : World} {K : PySem.W.Frag} {mg : Str → Option Value} {base : Heap} {a : Ads}
theorem ok_price {f : Addr} {fd : FuncData} (F : Fun K "price" "Tariff.price" s_Tariff_price f fd) (T : Txt K mg a) : FnOk Pg w K mg base (L2.CX Pg w) 1 f fd ["self", "here", "there"] (spPrice a) := by
  refine F.okX sc_Tariff_price (fun vs H Q E h => ?_) (fun cdv A outer s H vs Q E hr h => ?_)
  · obtain ⟨p, d, x, y, rs, rfl, _⟩ := h
    rfl
  · obtain ⟨p, d, x, y, rs, rfl, hT, q⟩ := h
    have hu := hu_of hr
    obtain ⟨dx, hob⟩ := hT.ob
    refine ⟨_, (pss_one (ps_ret (pe_dget1 hu (pe_fld (pv 0) rfl) (pe_tup (pa_cons (pv 1) (pa_cons (pv 2) pa_nil))) ⟨rfl, rfl, rfl, rfl⟩))), ?_⟩
    walk_at "s"
    refine ⟨p, a.Tariff, dx, _, .ref d, rfl, hob, T.cl_Tariff, T.na_prices, prices_lookup d, d, rfl, .inr ⟨_, .inl hT.dc⟩, ?_⟩
    walk_at "s"
    refine ⟨(by show 2 ≤ sizeLine; decide), fun t ht => ?_⟩
    exact ⟨_, DGet.t (k := [.inr x, .inr y]) ((same_new ht) _ _ hT.dc) upd_same, q _ (same_new ht)⟩
theorem ok_init {f P : Addr} {fd : FuncData} (F : Fun K "__init__" "Tariff.__init__" s_Tariff_init f fd) (T : Txt K mg a) (D_put : Dm Pg w K mg base 3 a.Tariff "put" ["self", "here", "there", "price"] (spPut a P)) : FnOk Pg w K mg base (L2.CX Pg w) 4 f fd ["self", "rows"] (spInit K a P) := by
  refine F.okX sc_Tariff_init (fun vs H Q E h => ?_) (fun cdv A outer s H vs Q E hr h => ?_)
  · obtain ⟨p, dx, l, ts, gs, rfl, _⟩ := h
    rfl
  · obtain ⟨p, dx, l, ts, gs, rfl, hp, hP, hl, hg, hask, hlen, q0, qE⟩ := h
    have PO : PassesOwn (model Pg w) (A.deeper (envOfC "Tariff.__init__" (defScope s_Tariff_init) s.heap.objs.size f cdv)) (envOfC "Tariff.__init__" (defScope s_Tariff_init) s.heap.objs.size f cdv) (cxOf (L2.CX Pg w) Pg w K mg base N_Tariff_init "Tariff.__init__" (defScope s_Tariff_init) f cdv A outer s H E).xe := passes_of rfl
    refine ⟨_, (pss_cons (ps_fld (pv 0) pe_dnewT rfl)
      (pss_one (ps_for PO rfl (pi_list (pv 1)) (pg_tup rfl (pgs_cons (pg_name (i := 2) sc_Tariff_init.nd rfl (by first | exact Or.inl rfl | exact Or.inr rfl)) (pgs_cons (pg_name (i := 3) sc_Tariff_init.nd rfl (by first | exact Or.inl rfl | exact Or.inr rfl)) (pgs_cons (pg_name (i := 4) sc_Tariff_init.nd rfl (by first | exact Or.inl rfl | exact Or.inr rfl)) pgs_nil))))
        (pss_one (ps_expr (pe_mdS (pv 0) T.cl_Tariff D_put (hr.mono (by decide)) (fun σ => passAt (takes_of rfl rfl rfl rfl) σ) (pa_cons (pv 2) (pa_cons (pv 3) (pa_cons (pv 4) pa_nil))))))))), ?_⟩
    intro d hd
    have npd : p ≠ d := ne_of_none hp hd
    have lts : ts.length = gs.length := Paired.length hg
    refine ⟨_, rfl, p, a.Tariff, dx, [], rfl, (by rw [upd_ne npd]; exact hp), T.cl_Tariff, T.na_prices, (by show 0 < 1000; decide), ?_⟩
    have sb : SameB p H (upd (upd H d (.dT [])) p (.ins a.Tariff dx (putF "_prices" (.ref d) []))) := fun b o nb e => by rw [upd_ne nb, upd_ne (ne_of_none e hd)]; exact e
    have T0 : TarAt a.Tariff (upd (upd H d (.dT [])) p (.ins a.Tariff dx (putF "_prices" (.ref d) []))) p d [] := ⟨⟨dx, upd_same⟩, by rw [upd_ne npd.symm, upd_same]; rfl⟩
    have seq : ∀ H', SameB p H H' → SqL K H' l (ts.map V.ref) := fun H' s => but_l s hp (fun _ z => nomatch z) (fun _ _ z => nomatch z) hl
    have giv : ∀ H' t g, SameB p H H' → IsGiven K H t g → IsGiven K H' t g := fun H' t g s h => but_t s hp (fun _ z => nomatch z) (fun _ _ z => nomatch z) h
    walk_at "s"
    refine ⟨⟨_, seq _ sb⟩, for_list (K := K) (a := l) (xs := ts.map V.ref) (fun i σ H' => ∃ rs v1 v2 v3, σ = [some (.ref p), some (.ref l), v1, v2, v3] ∧ SameB p H H' ∧ TarAt a.Tariff H' p d rs ∧ rs.length ≤ i ∧ takeRows [] gs = takeRows rs (gs.drop i))
      ⟨[], none, none, none, rfl, sb, T0, Nat.le_refl _, rfl⟩ (fun i σ H' _ ⟨_, _, _, _, _, s2, _⟩ => seq _ s2) ?_ ?_⟩
    · rintro i y σ H2 hi ⟨rs, v1, v2, v3, rfl, s2, T2, hlr, ht⟩
      rw [List.getElem?_map] at hi
      obtain ⟨t, ht1, rfl⟩ := Option.map_eq_some_iff.mp hi
      have hil := (List.getElem?_eq_some_iff.mp ht1).1
      obtain ⟨g, hg1, hgv⟩ := paired_at hg ht1
      obtain ⟨a1, a2, a3⟩ := hask g (List.mem_of_getElem? hg1)
      obtain ⟨dx2, hob2⟩ := T2.ob
      have hP2 : H2 P = some (TabO P) := s2 _ _ (ne_of hP hp (by intro z; cases z)) hP
      refine ⟨_, _, rfl, giv _ _ _ s2 hgv, rfl, _, _, rfl, _, _, rfl, _, _, rfl, rfl, ?_⟩
      have step := take_step (rs := rs) hg1
      walk_at "s"
      refine ⟨p, dx2, _, rfl, hob2, prices_no d (by decide), ?_⟩
      walk_at "s"
      refine ⟨p, d, _, _, _, rs, rfl, a1, a2, a3, hP2, T2, by omega, fun e H3 s3 T3 => ?_, fun e H3 s3 => ?_⟩
      · rw [if_pos e] at step
        refine ⟨_, _, _, _, rfl, fun b o nb hb => s3 _ _ (ne_of_none hb hd) (s2 _ _ nb hb), T3, by rw [List.length_append]; simp; omega, by rw [ht, step]⟩
      · rw [if_neg e] at step
        rw [ht, step] at qE
        exact qE e _ fun b o nb hb => s3 _ _ (s2 _ _ nb hb)
    · rintro σ H2 ⟨rs, v1, v2, v3, rfl, s2, T2, hlr, ht⟩
      rw [List.length_map, lts, List.drop_length] at ht
      rw [ht] at q0
      exact q0 rfl d H2 hd s2 T2
end
end Fb

namespace Fb
open PySem PySem.Spec PyProof.Rows L2
local macro_rules | `(tactic| walk_at "s") => `(tactic| repeat (first | refine ⟨_, rfl, ?_⟩ | refine ⟨_, _, rfl, rfl, ?_⟩ | refine ⟨_, _, rfl, Or.inl (by assumption), ?_⟩ | refine ⟨rfl, ?_⟩ | refine ⟨(by decide : (0 : Int) < _), ?_⟩ | refine ⟨⟨by decide, by decide⟩, ?_⟩ | refine ⟨_, _, _, rfl, (by assumption), (by first | decide | omega), ?_⟩))
section
variable {Pg : Program} {w : World} {K : PySem.W.Frag} {mg : Str → Option Value} {base : Heap} {a : Ads}
theorem ok_told {f : Addr} {fd : FuncData} (F : Fun K "told" "Tariff.told" s_Tariff_told f fd) (T : Txt K mg a) : FnOk Pg w K mg base (L2.CX Pg w) 1 f fd ["self"] (spTold a) := by
  refine F.okX sc_Tariff_told (fun vs H Q E h => ?_) (fun cdv A outer s H vs Q E hr h => ?_)
  · obtain ⟨p, d, rs, rfl, _⟩ := h
    rfl
  · obtain ⟨p, d, rs, rfl, hT, hlen, q⟩ := h
    obtain ⟨dx, hob⟩ := hT.ob
    have hdc := hT.dc
    have npd := hT.ne
    refine ⟨_, (pss_one (ps_ret (pe_lock (pe_lc (own := [("price", 3), ("here", 1), ("there", 2)]) (g := (gTup K 2 (gCons (gTup K 2 (gCons (gName 1) (gCons (gName 2) gNil))) (gCons (gName 3) gNil)))) (tt := tYes) rfl sc_Tariff_told.nd (pi_itemsT (pe_fld (pv 0) rfl)) (blkOk_by (own := [("price", 3), ("here", 1), ("there", 2)]) (N := N_Tariff_told) (sc := (defScope s_Tariff_told)) (by decide +kernel)) (fun _ _ _ _ _ => (pg_tup rfl (pgs_cons (pg_tup rfl (pgs_cons (pg_name (i := 1) sc_Tariff_told.nd rfl (by first | exact Or.inl rfl | exact Or.inr rfl)) (pgs_cons (pg_name (i := 2) sc_Tariff_told.nd rfl (by first | exact Or.inl rfl | exact Or.inr rfl)) pgs_nil))) (pgs_cons (pg_name (i := 3) sc_Tariff_told.nd rfl (by first | exact Or.inl rfl | exact Or.inr rfl)) pgs_nil)))) (fun _ _ _ _ _ => pts_nil) (fun _ _ _ _ _ => (pe_tup (pa_cons (pv 1) (pa_cons (pv 2) (pa_cons (pv 3) pa_nil))))))))), ?_⟩
    refine ⟨d, _, hdc, trivial, fun od => ?_⟩
    have hob1 : upd H d (.frz od (.dT (rs.map rowK))) p = some (.ins a.Tariff dx [("_prices", .ref d)]) := by rw [upd_ne npd]; exact hob
    walk_at "s"
    refine ⟨p, a.Tariff, dx, _, .ref d, rfl, hob1, T.cl_Tariff, T.na_prices, prices_lookup d, d, od, _, rfl, upd_same, fun D hD => ?_⟩
    refine lc_itemsT (fun i v H' => ∃ t, v = .ref t ∧ t ≠ D ∧ ∃ r, rs[i]? = some r ∧ IsRow H' t r) ?_ hD upd_same (by rw [List.length_map]; omega) ?_ ?_ ?_
    · rintro i v H2 H3 sb ⟨t, e, n, r, hr, hx⟩
      exact ⟨t, e, n, r, hr, sb _ _ n hx⟩
    · intro i k v U u H2 acc hkv s2 hDl hU hu Q2 q2
      rw [List.getElem?_map] at hkv
      obtain ⟨r, hr, ek⟩ := Option.map_eq_some_iff.mp hkv
      cases ek
      refine ⟨_, _, rfl, SqT.of hU, rfl, _, _, rfl, ?_⟩
      refine ⟨_, _, rfl, SqT.of hu, rfl, _, _, rfl, _, _, rfl, rfl, ?_⟩
      refine ⟨_, _, rfl, rfl, rfl, ?_⟩
      walk_at "s"
      refine ⟨(by show 3 ≤ sizeLine; decide), fun t ht => ?_⟩
      exact q2 _ _ (same_new ht) ⟨t, rfl, (ne_of_none hDl ht).symm, r, hr, upd_same⟩
    · exact mono_tup (mono_cons (mono_tup (mono_cons mono_name (mono_cons mono_name mono_nil))) (mono_cons mono_name mono_nil))
    · intro H2 ys s2 hDl hl hr
      rw [List.length_map] at hl
      obtain ⟨ts, rfl, hp⟩ := pair_of (R := fun t r => t ≠ D ∧ IsRow H2 t r) hl fun i v hv => by
        obtain ⟨t, e, n, r, h1, h2⟩ := hr i v hv
        exact ⟨t, e, r, h1, n, h2⟩
      have hdf : H2 d = some (.frz od (.dT (rs.map rowK))) := s2 _ _ upd_same
      have back : ∀ b o, b ≠ d → H2 b = some o → upd H2 d (.dT (rs.map rowK)) b = some o := fun b o nb e => by rw [upd_ne nb]; exact e
      have s3 : Same H (upd H2 d (.dT (rs.map rowK))) := fun b o e => by
        by_cases hb : b = d
        · subst hb
          rw [hdc] at e
          cases e
          exact upd_same
        · rw [upd_ne hb]
          exact s2 _ _ (by rw [upd_ne hb]; exact e)
      have hDn : H D = none := by
        have nD : D ≠ d := fun z => by rw [z, upd_same] at hD; cases hD
        rw [upd_ne nD] at hD
        exact hD
      refine ⟨hdf, q D _ ts hDn s3 (back _ _ (fun z => by rw [z, hdf] at hDl; cases hDl) hDl) (Paired.mapP hp fun t r ⟨_, h2⟩ => ?_)⟩
      exact back t _ (fun z => by unfold IsRow at h2; rw [z, hdf] at h2; cases h2) h2
end
end Fb

namespace Fb
open PySem PySem.Spec PyProof.Rows L2
local macro_rules | `(tactic| walk_at "s") => `(tactic| repeat (first | refine ⟨_, rfl, ?_⟩ | refine ⟨_, _, rfl, rfl, ?_⟩ | refine ⟨_, _, rfl, Or.inl (by assumption), ?_⟩ | refine ⟨rfl, ?_⟩ | refine ⟨(by decide : (0 : Int) < _), ?_⟩ | refine ⟨⟨by decide, by decide⟩, ?_⟩ | refine ⟨_, _, _, rfl, (by assumption), (by first | decide | omega), ?_⟩))
/-! ### cells of the script, names -/
def cel (ns : List Int) (j : Int) : Int := ns.getD j.toNat 0
def spCell (K : PySem.W.Frag) : Sp := fun vs H Q _ => ∃ (l : Addr) (ns : List Int) (j : Int), vs = [.ref l, .int j] ∧ SqL K H l (ns.map V.int) ∧ 0 ≤ j ∧ Q (.int (cel ns j)) H
def spNames : Sp := fun vs H Q _ => ∃ (c : Int) (n : Nat), vs = [.int c, .int (n : Int)] ∧ n ≤ 52 ∧ ∀ (p : Addr) (H' : Hp), H p = none → Same H H' → H' p = some (.lst ((List.range n).map fun k => V.str (nameOf c k))) → Q (.ref p) H'
abbrev s__law_cell_at : Stmt := topS 14
abbrev N__law_cell_at : List Str := ["_law_script", "_law_k"]
theorem sc__law_cell_at : FnScope N__law_cell_at ["_law_script", "_law_k"] (defScope s__law_cell_at) := ⟨rfl, rfl, rfl, by decide +kernel, rfl, by decide +kernel, by decide +kernel⟩
abbrev s__law_names : Stmt := topS 15
abbrev N__law_names : List Str := ["_law_cell", "_law_many", "_law_letters", "_law_size", "_law_place", "_law_k", "_law_names_here", "_law_turn", "_law_name", "_law_j", "_law_sign"]
theorem sc__law_names : FnScope N__law_names ["_law_cell", "_law_many"] (defScope s__law_names) := ⟨rfl, rfl, rfl, by decide +kernel, rfl, by decide +kernel, by decide +kernel⟩
section
variable {Pg : Program} {w : World} {K : PySem.W.Frag} {mg : Str → Option Value} {base : Heap} {a : Ads}
theorem ok_cell {f : Addr} {fd : FuncData} (F : Fun K "_law_cell_at" "_law_cell_at" s__law_cell_at f fd) (T : Txt K mg a) : FnOk Pg w K mg base (L2.CX Pg w) 1 f fd ["_law_script", "_law_k"] (spCell K) := by
  refine F.okX sc__law_cell_at (fun vs H Q E h => ?_) (fun cdv A outer s H vs Q E hr h => ?_)
  · obtain ⟨l, ns, j, rfl, _⟩ := h
    rfl
  · obtain ⟨l, ns, j, rfl, hs, hj, q⟩ := h
    refine ⟨_, (pss_cons (ps_if (pt_cmpR op_lt (pv 1) (pe_callB call_len_seq (by rfl) T.n_len (by decide +kernel) (pa_cons (pv 0) pa_nil)) (nomark _)) (pss_one (ps_ret (pe_ix ix_list (pv 0) (pv 1) (fun _ _ => rfl)))) pss_nil)
      (pss_one (ps_ret pe_int))), ?_⟩
    walk_at "s"
    refine ifD (fun c => ?_) (fun c => ?_)
    · rw [List.length_map] at c
      walk_at "s"
      exact ⟨_, _, _, _, rfl, rfl, hs, atI_map hj (by omega), q⟩
    · rw [List.length_map] at c
      have e : cel ns j = 0 := by
        unfold cel
        rw [List.getD_eq_getElem?_getD, List.getElem?_eq_none (by omega)]; rfl
      rw [e] at q
      exact q
theorem ok_names {f : Addr} {fd : FuncData} (F : Fun K "_law_names" "_law_names" s__law_names f fd) (T : Txt K mg a) : FnOk Pg w K mg base (L2.CX Pg w) 1 f fd ["_law_cell", "_law_many"] spNames := by
  refine F.okX sc__law_names (fun vs H Q E h => ?_) (fun cdv A outer s H vs Q E hr h => ?_)
  · obtain ⟨c, n, rfl, _⟩ := h
    rfl
  · obtain ⟨c, n, rfl, hn, q⟩ := h
    have PO : PassesOwn (model Pg w) (A.deeper (envOfC "_law_names" (defScope s__law_names) s.heap.objs.size f cdv)) (envOfC "_law_names" (defScope s__law_names) s.heap.objs.size f cdv) (cxOf (L2.CX Pg w) Pg w K mg base N__law_names "_law_names" (defScope s__law_names) f cdv A outer s H E).xe := passes_of rfl
    refine ⟨_, (pss_cons (ps_set (i := 2) sc__law_names.nd rfl (by first | exact Or.inl rfl | exact Or.inr rfl) pe_str)
      (pss_cons (ps_set (i := 3) sc__law_names.nd rfl (by first | exact Or.inl rfl | exact Or.inr rfl) (pe_op op_mod (pe_op op_fdiv (pv 0) pe_int) pe_int))
      (pss_cons (ps_set (i := 4) sc__law_names.nd rfl (by first | exact Or.inl rfl | exact Or.inr rfl) (pe_op op_mod (pe_op op_fdiv (pv 0) pe_int) (pe_op op_add (pv 3) pe_int)))
      (pss_cons (ps_if (pt_cmpR op_eq (pe_op op_mod (pe_op op_fdiv (pv 0) pe_int) pe_int) pe_int (nomark _)) (pss_one (ps_ret (pe_lc (own := [("_law_k", 5)]) (g := (gName 5)) (tt := tYes) rfl sc__law_names.nd (pi_range1 (by rfl) T.n_range (pa_cons (pv 1) pa_nil)) (blkOk_by (own := [("_law_k", 5)]) (N := N__law_names) (sc := (defScope s__law_names)) (by decide +kernel)) (fun _ _ _ _ _ => (pg_name (i := 5) sc__law_names.nd rfl (by first | exact Or.inl rfl | exact Or.inr rfl))) (fun _ _ _ _ _ => pts_nil) (fun _ _ _ _ _ => (pe_op op_repS (pe_ix ix_str (pv 2) (pe_op op_mod (pe_op op_add (pv 0) (pe_op op_fdiv (pv 5) pe_int)) pe_int) (fun _ _ => rfl)) (pe_op op_add pe_int (pe_op op_mod (pv 5) pe_int))))))) pss_nil)
      (pss_cons (ps_set (i := 6) sc__law_names.nd rfl (by first | exact Or.inl rfl | exact Or.inr rfl) (pe_lst pa_nil))
      (pss_cons (ps_for PO rfl (pi_range1 (by rfl) T.n_range (pa_cons (pv 1) pa_nil)) (pg_name (i := 5) sc__law_names.nd rfl (by first | exact Or.inl rfl | exact Or.inr rfl))
        (pss_cons (ps_set (i := 7) sc__law_names.nd rfl (by first | exact Or.inl rfl | exact Or.inr rfl) (pe_op op_add (pe_op op_fdiv (pv 0) pe_int) (pe_op op_mul (pe_op op_mul (pv 5) (pv 5)) (pe_op op_mod (pe_op op_fdiv (pv 0) pe_int) pe_int))))
          (pss_cons (ps_set (i := 8) sc__law_names.nd rfl (by first | exact Or.inl rfl | exact Or.inr rfl) (pe_bm PySem.F.plainAttrs_str PySem.F.slot_str_join PySem.F.type_str_join mt_join pe_str (pa_cons (pe_lc (own := [("_law_j", 9)]) (g := (gName 9)) (tt := tYes) rfl sc__law_names.nd (pi_range1 (by rfl) T.n_range (pa_cons (pv 3) pa_nil)) (blkOk_by (own := [("_law_j", 9)]) (N := N__law_names) (sc := (defScope s__law_names)) (by decide +kernel)) (fun _ _ _ _ _ => (pg_name (i := 9) sc__law_names.nd rfl (by first | exact Or.inl rfl | exact Or.inr rfl))) (fun _ _ _ _ _ => pts_nil) (fun _ _ _ _ _ => (pe_ix ix_str (pv 2) (pe_op op_mod (pe_op op_add (pv 7) (pe_op op_mul pe_int (pv 9))) pe_int) (fun _ _ => rfl)))) pa_nil)))
          (pss_cons (ps_set (i := 10) sc__law_names.nd rfl (by first | exact Or.inl rfl | exact Or.inr rfl) (pe_ix ix_str (pv 2) (pe_op op_mod (pe_op op_add (pv 0) (pv 5)) pe_int) (fun _ _ => rfl)))
          (pss_one (ps_expr (pe_bm PySem.F.plainAttrs_list PySem.F.slot_list_append PySem.F.type_list_append mt_append (pv 6) (pa_cons (pe_op op_add_str (pe_op op_add_str (pe_op op_add_str (pe_slice sl_str (pv 8) po_none (po_some (pv 4))) (pv 10)) (pe_slice sl_str (pv 8) (po_some (pv 4)) po_none)) (pe_op op_repS pe_str (pe_op op_fdiv (pv 5) pe_int))) pa_nil))))))))
      (pss_one (ps_ret (pv 6))))))))), ?_⟩
    have eSz : c / 26 % 11 = (nmSize c : Int) := by unfold nmSize; omega
    have hPl : (0 : Int) ≤ c / 286 % (c / 26 % 11 + 1) := Int.emod_nonneg _ (by omega)
    have ePl : c / 286 % (c / 26 % 11 + 1) = (nmPlace c : Int) := by unfold nmPlace; rw [← eSz]; omega
    walk_at "s"
    refine ⟨by omega, ?_⟩
    walk_at "s"
    refine ifD (fun c1 => ?_) (fun c1 => ?_)
    · have ho : nmOne c = true := decide_eq_true (V.int.inj c1)
      walk_at "s"
      refine ⟨by omega, by omega, fun D hD => ?_⟩
      refine lc_rangeR (fun i v _ => v = .str (nameOf c i)) (fun _ _ _ _ _ r => r) hD (by omega) (fun v => rfl) ?_ ?_
      · intro i H2 acc hi s2 hDl Q2 q2
        walk_at "s"
        refine ⟨_, _, _, rfl, rfl, abc_len, abc_code _, ?_⟩
        walk_at "s"
        refine ⟨mulOk_small (by omega) (by omega) (show 1 ≤ 1000 by decide), ?_⟩
        refine q2 _ _ (Same.refl _) ?_
        refine congrArg V.str (str_ext ?_)
        rw [mul_sign _ _ (by omega)]
        show _ = nameL c i
        unfold nameL
        rw [if_pos ho, show (1 + (0 + (i : Int)) % 12).toNat = 1 + i % 12 by omega, show c + (0 + (i : Int)) / 12 = c + ((i / 12 : Nat) : Int) by omega]
      · intro H2 ys s2 hDl hl hr
        have e : ys = (List.range n).map fun k => V.str (nameOf c k) := by
          refine List.ext_getElem? fun i => ?_
          by_cases h : i < n
          · have h2 : i < ys.length := by omega
            rw [List.getElem?_map, List.getElem?_range h, List.getElem?_eq_getElem h2, hr i _ (List.getElem?_eq_getElem h2)]
            rfl
          · rw [List.getElem?_eq_none (by omega), List.getElem?_eq_none (by simp; omega)]
        rw [e] at hDl
        exact q D H2 hD s2 hDl
    · have ho : nmOne c = false := decide_eq_false fun z => c1 (congrArg V.int z)
      refine ⟨Nat.zero_le _, fun p hp => ?_⟩
      walk_at "s"
      refine ⟨by omega, by omega, ?_⟩
      refine for_range (fun i σ H' => ∃ v5 v7 v8 v10, σ = [some (.int c), some (.int n), some (.str abc), some (.int (c / 26 % 11)), some (.int (c / 286 % (c / 26 % 11 + 1))), v5, some (.ref p), v7, v8, none, v10] ∧ Same H H' ∧ H' p = some (.lst ((List.range i).map fun k => V.str (nameOf c k))))
        ⟨none, none, none, none, rfl, same_new hp, upd_same⟩ ?_ ?_
      · rintro i σ H2 hi ⟨v5, v7, v8, v10, rfl, s2, hpl⟩
        walk_at "s"
        refine ⟨mulSmall (by omega) (by omega), ?_⟩
        walk_at "s"
        refine ⟨mulSmall2 (by omega) (by omega), ?_⟩
        walk_at "s"
        refine ⟨by omega, by omega, fun D hD => ?_⟩
        refine lc_rangeR (fun j v _ => v = .str ⟨#[code (c / 3 + (i : Int) * i * (c / 3432 % 2) + 5 * (j : Int))]⟩) (fun _ _ _ _ _ r => r) hD (by omega) (fun v => rfl) ?_ ?_
        · intro j H3 acc hj s3 hDl Q2 q2
          walk_at "s"
          refine ⟨mulSmall (by decide) (by decide), ?_⟩
          walk_at "s"
          refine ⟨_, _, _, rfl, rfl, abc_len, abc_code _, ?_⟩
          refine q2 _ _ (Same.refl _) ?_
          rw [Int.zero_add, Int.zero_add]
        · intro H3 ys s3 hDl hl hr
          obtain ⟨zs, rfl, hz, h1⟩ := signs_of (f := fun j => code (c / 3 + (i : Int) * i * (c / 3432 % 2) + 5 * (j : Int))) hl hr
          rw [List.length_map] at hl
          have hbase : (Txt.join (Str.ofString "") zs).cps.toList = nmBase c i := by
            rw [join_tl _ (by decide +kernel), hz, show (c / 26 % 11).toNat = nmSize c from rfl]
            rfl
          have hsum : (zs.map (·.length)).sum ≤ zs.length := by
            clear hl hz hDl hr hbase
            induction zs with
            | nil => simp
            | cons z r ih =>
              have h3 := ih fun q hq => h1 q (List.mem_cons_of_mem _ hq)
              rw [List.map_cons, List.sum_cons, List.length_cons, h1 z List.mem_cons_self]
              omega
          have lb : (Txt.join (Str.ofString "") zs).length = nmSize c := by rw [len_tl, hbase, nmBase_len]
          have hsz := nmSize_le c
          have hpp := nmPlace_le c
          walk_at "s"
          refine ⟨_, _, zs, rfl, rfl, .inl (SqL.of hDl), ?_, ?_⟩
          · have e0 : (Str.ofString "").length = 0 := by decide
            rw [e0]; omega
          walk_at "s"
          refine ⟨_, _, _, rfl, rfl, abc_len, abc_code _, ?_⟩
          have s23 := Same.trans s2 s3
          have hpl3 := s3 _ _ hpl
          walk_at "s"
          refine ⟨.inl ⟨rfl, _, SqL.of hpl3⟩, ?_⟩
          walk_at "s"
          refine ⟨szl (by omega), ?_⟩
          rw [ePl]
          walk_at "s"
          have c1l := cut_len (Txt.join (Str.ofString "") zs) none (some (nmPlace c : Int))
          have c2l := cut_len (Txt.join (Str.ofString "") zs) (some (nmPlace c : Int)) none
          refine ⟨szl (show _ + 1 ≤ _ by omega), ?_⟩
          walk_at "s"
          refine ⟨szl (by omega), ?_⟩
          walk_at "s"
          refine ⟨szl (by rw [len_app]; show _ + 1 + _ ≤ _; omega), ?_⟩
          walk_at "s"
          refine ⟨mulOk_small (by omega) (by omega) (show 1 ≤ 1000 by decide), ?_⟩
          have mlen : (Txt.mul (Str.ofString "x") ((0 + (i : Int)) / 26)).length = ((0 + (i : Int)) / 26).toNat := by
            rw [mul_length _ _ (by omega)]
            exact Nat.one_mul _
          walk_at "s"
          refine ⟨szl (by rw [len_app, len_app]; show _ + 1 + _ + _ ≤ _; omega), ?_⟩
          refine ⟨_, _, _, rfl, rfl, hpl3, szlt (by simp; omega), ?_⟩
          refine ⟨_, _, _, _, rfl, same_mut s23 hp, ?_⟩
          have eZ : cutS (Txt.join (Str.ofString "") zs) none (some (nmPlace c : Int)) ++ (⟨#[code (c + (0 + (i : Int)))]⟩ : Str) ++ cutS (Txt.join (Str.ofString "") zs) (some (nmPlace c : Int)) none ++ Txt.mul (Str.ofString "x") ((0 + (i : Int)) / 26) = nameOf c i := by
            refine str_ext ?_
            rw [cps_app, cps_app, cps_app, cut_take _ _ (by rw [hbase, nmBase_len]; exact hpp), cut_drop _ _ (by rw [hbase, nmBase_len]; exact hpp), hbase]
            rw [show Str.ofString "x" = ⟨#[120]⟩ by decide +kernel, mul_sign _ _ (by omega)]
            show _ = nameL c i
            unfold nameL
            rw [if_neg (by rw [ho]; exact Bool.false_ne_true), show ((0 + (i : Int)) / 26).toNat = i / 26 by omega, Int.zero_add]
          rw [upd_same, eZ, List.range_succ, List.map_append]
          rfl
      · rintro σ H2 ⟨v5, v7, v8, v10, rfl, s2, hpl⟩
        walk_at "s"
        exact q p H2 hp s2 (by simpa using hpl)
end
end Fb

namespace Fb
open PySem PySem.Spec PyProof.Rows L2
local macro_rules | `(tactic| walk_at "s") => `(tactic| repeat (first | refine ⟨_, rfl, ?_⟩ | refine ⟨_, _, rfl, rfl, ?_⟩ | refine ⟨_, _, rfl, Or.inl (by assumption), ?_⟩ | refine ⟨rfl, ?_⟩ | refine ⟨(by decide : (0 : Int) < _), ?_⟩ | refine ⟨⟨by decide, by decide⟩, ?_⟩ | refine ⟨_, _, _, rfl, (by assumption), (by first | decide | omega), ?_⟩))
def namesV (c : Int) (n : Nat) : List V := (List.range n).map fun k => V.str (nameOf c k)
theorem namesV_at {c : Int} {n : Nat} {j : Int} (h0 : 0 ≤ j) (h1 : j < n) : atI (namesV c n) j = some (.str (nameOf c j.toNat)) := by
  refine atI_of h0 ?_
  unfold namesV
  rw [List.getElem?_map, List.getElem?_range (by omega)]
  rfl
def spRows (K : PySem.W.Frag) : Sp := fun vs H Q _ => ∃ (l nl : Addr) (ns : List Int) (b c : Int), vs = [.ref l, .int b, .ref nl] ∧ SqL K H l (ns.map V.int) ∧ 0 ≤ b ∧ SqL K H nl (namesV c 9) ∧
  ∀ (p : Addr) (H' : Hp) (ts : List Addr) (rs : List Row), H p = none → Same H H' → H' p = some (.lst (ts.map V.ref)) → Paired (IsRow H') ts rs → GoodRows rs → rs.length ≤ 31 → Q (.ref p) H'
def spGood (K : PySem.W.Frag) (a : Ads) : Sp := fun vs H Q _ => ∃ (p d r nl : Addr) (ts : List Addr) (rs : List Row) (zs : List Str), vs = [.ref p, .ref r, .ref nl] ∧ TarAt a.Tariff H p d rs ∧ SqL K H r (ts.map V.ref) ∧ Paired (IsRow H) ts rs ∧ GoodRows rs ∧ rs.length ≤ 200 ∧
  SqL K H nl (zs.map V.str) ∧ zs.length ≤ 100 ∧ ∀ H', Same H H' → Q (.bl true) H'
def toldK (rs : List Row) : List (List Key × V) := rs.map fun r => (wayK r.1 r.2.1, V.bl true)
abbrev s__law_rows : Stmt := topS 16
abbrev N__law_rows : List Str := ["_law_script", "_law_begin", "_law_names_here", "_law_rows_here", "_law_told", "_law_k", "_law_cell", "_law_here", "_law_there"]
theorem sc__law_rows : FnScope N__law_rows ["_law_script", "_law_begin", "_law_names_here"] (defScope s__law_rows) := ⟨rfl, rfl, rfl, by decide +kernel, rfl, by decide +kernel, by decide +kernel⟩
abbrev s__law_good : Stmt := topS 17
abbrev N__law_good : List Str := ["_law_tariff", "_law_rows_here", "_law_names_here", "_law_table", "_law_row", "_law_here", "_law_there", "_law_found", "_law_k"]
theorem sc__law_good : FnScope N__law_good ["_law_tariff", "_law_rows_here", "_law_names_here"] (defScope s__law_good) := ⟨rfl, rfl, rfl, by decide +kernel, rfl, by decide +kernel, by decide +kernel⟩
section
variable {Pg : Program} {w : World} {K : PySem.W.Frag} {mg : Str → Option Value} {base : Heap} {a : Ads}
theorem ok_rows {f : Addr} {fd : FuncData} (F : Fun K "_law_rows" "_law_rows" s__law_rows f fd) (T : Txt K mg a) (D_cell_at : Dn Pg w K mg base 1 "_law_cell_at" ["_law_script", "_law_k"] (spCell K)) : FnOk Pg w K mg base (L2.CX Pg w) 2 f fd ["_law_script", "_law_begin", "_law_names_here"] (spRows K) := by
  refine F.okX sc__law_rows (fun vs H Q E h => ?_) (fun cdv A outer s H vs Q E hr h => ?_)
  · obtain ⟨l, nl, ns, b, c, rfl, _⟩ := h
    rfl
  · obtain ⟨l, nl, ns, b, c, rfl, hs, hb, hn, q⟩ := h
    have hu := hu_of hr
    have PO : PassesOwn (model Pg w) (A.deeper (envOfC "_law_rows" (defScope s__law_rows) s.heap.objs.size f cdv)) (envOfC "_law_rows" (defScope s__law_rows) s.heap.objs.size f cdv) (cxOf (L2.CX Pg w) Pg w K mg base N__law_rows "_law_rows" (defScope s__law_rows) f cdv A outer s H E).xe := passes_of rfl
    refine ⟨_, (pss_cons (ps_set (i := 3) sc__law_rows.nd rfl (by first | exact Or.inl rfl | exact Or.inr rfl) (pe_lst pa_nil))
      (pss_cons (ps_set (i := 4) sc__law_rows.nd rfl (by first | exact Or.inl rfl | exact Or.inr rfl) pe_dnewT)
      (pss_cons (ps_for PO rfl (pi_range1 (by rfl) T.n_range (pa_cons (pe_op op_mod (pe_fnS D_cell_at (hr.mono (by decide)) passC (pa_cons (pv 0) (pa_cons (pv 1) pa_nil))) pe_int) pa_nil)) (pg_name (i := 5) sc__law_rows.nd rfl (by first | exact Or.inl rfl | exact Or.inr rfl))
        (pss_cons (ps_set (i := 6) sc__law_rows.nd rfl (by first | exact Or.inl rfl | exact Or.inr rfl) (pe_op op_add (pe_fnS D_cell_at (hr.mono (by decide)) passC (pa_cons (pv 0) (pa_cons (pe_op op_add (pe_op op_add (pv 1) pe_int) (pe_op op_mod (pv 5) pe_int)) pa_nil))) (pe_op op_mul (pe_op op_mul pe_int (pv 5)) (pv 5))))
          (pss_cons (ps_set (i := 7) sc__law_rows.nd rfl (by first | exact Or.inl rfl | exact Or.inr rfl) (pe_ix ix_list (pv 2) (pe_op op_mod (pv 6) pe_int) (fun _ _ => rfl)))
          (pss_cons (ps_set (i := 8) sc__law_rows.nd rfl (by first | exact Or.inl rfl | exact Or.inr rfl) (pe_ix ix_list (pv 2) (pe_op op_mod (pe_op op_add (pe_op op_add (pe_op op_mod (pv 6) pe_int) pe_int) (pe_op op_mod (pe_op op_fdiv (pv 6) pe_int) pe_int)) pe_int) (fun _ _ => rfl)))
          (pss_one (ps_if (pt_cmp (pc_dnotin hu (pe_tup (pa_cons (pv 7) (pa_cons (pv 8) pa_nil))) (pv 4))) (pss_cons (ps_dput hu (pv 4) (pe_tup (pa_cons (pv 7) (pa_cons (pv 8) pa_nil))) pe_bl rfl)
            (pss_one (ps_expr (pe_bm PySem.F.plainAttrs_list PySem.F.slot_list_append PySem.F.type_list_append mt_append (pv 3) (pa_cons (pe_tup (pa_cons (pv 7) (pa_cons (pv 8) (pa_cons (pe_op op_mod (pe_op op_add (pe_op op_fdiv (pv 6) pe_int) (pe_op op_mul (pv 5) pe_int)) pe_int) pa_nil)))) pa_nil))))) pss_nil))))))
      (pss_one (ps_ret (pv 3)))))), ?_⟩
    walk_at "s"
    refine ⟨Nat.zero_le _, fun p hp => ?_⟩
    intro td htd
    have npt : p ≠ td := fun z => by rw [← z, upd_same] at htd; cases htd
    have htd0 : H td = none := by rw [upd_ne npt.symm] at htd; exact htd
    have s1 : Same H (upd (upd H p (.lst [])) td (.dT [])) := Same.trans (same_new hp) (same_new htd)
    have hs1 : SqL K (upd (upd H p (.lst [])) td (.dT [])) l (ns.map V.int) := s1.seq hs
    walk_at "s"
    refine ⟨by omega, by omega, ?_⟩
    refine for_range (fun i σ H' => ∃ ts rs v5 v6 v7 v8, σ = [some (.ref l), some (.int b), some (.ref nl), some (.ref p), some (.ref td), v5, v6, v7, v8] ∧ Same H H' ∧ H' p = some (.lst (ts.map V.ref)) ∧ H' td = some (.dT (toldK rs)) ∧ Paired (IsRow H') ts rs ∧ GoodRows rs ∧ rs.length ≤ i)
      ⟨[], [], none, none, none, none, rfl, s1, by rw [upd_ne npt, upd_same]; rfl, upd_same, .nil, ⟨(fun r hr => by cases hr), List.nodup_nil⟩, Nat.le_refl _⟩ ?_ ?_
    · rintro i σ H2 hi ⟨ts, rs, v5, v6, v7, v8, rfl, s2, hpl, htl, hpr, hg, hl⟩
      have hs2 : SqL K H2 l (ns.map V.int) := s2.seq hs
      have hn2 : SqL K H2 nl (namesV c 9) := s2.seq hn
      walk_at "s"
      refine ⟨mulSmall (by decide) (by decide), ?_⟩
      walk_at "s"
      refine ⟨mulSmall (by omega) (by omega), ?_⟩
      refine ⟨_, _, rfl, rfl, ?_⟩
      dsimp only
      generalize cel ns (b + 1 + (0 + (i : Int)) % 20) + 61 * (0 + (i : Int)) * (0 + (i : Int)) = x
      have hx : (x % 9).toNat < 52 := by omega
      have hy : ((x % 9 + 1 + x / 9 % 8) % 9).toNat < 52 := by omega
      obtain ⟨z1, hz1, e1⟩ : ∃ z, atI (namesV c 9) (x % 9) = some (.str z) ∧ z = nameOf c (x % 9).toNat := ⟨_, namesV_at (by omega) (by omega), rfl⟩
      obtain ⟨z2, hz2, e2⟩ : ∃ z, atI (namesV c 9) ((x % 9 + 1 + x / 9 % 8) % 9) = some (.str z) ∧ z = nameOf c ((x % 9 + 1 + x / 9 % 8) % 9).toNat := ⟨_, namesV_at (by omega) (by omega), rfl⟩
      have hne : z1 ≠ z2 := fun z => by
        have := name_inj hx hy (by rw [← e1, ← e2]; exact z)
        omega
      have p1 : isP (.str z1) = true := by rw [e1]; exact name_isP hx
      have p2 : isP (.str z2) = true := by rw [e2]; exact name_isP hy
      walk_at "s"
      refine ⟨_, _, _, _, rfl, rfl, hn2, hz1, ?_⟩
      walk_at "s"
      refine ⟨_, _, _, _, rfl, rfl, hn2, hz2, ?_⟩
      walk_at "s"
      refine ⟨(by show 2 ≤ sizeLine; decide), fun t ht => ?_⟩
      have s3 : Same H2 (upd H2 t (.tup [.str z1, .str z2])) := same_new ht
      have h3 : upd H2 t (.tup [.str z1, .str z2]) t = some (.tup [.str z1, .str z2]) := upd_same
      revert s3 h3
      generalize upd H2 t (.tup [.str z1, .str z2]) = H3
      intro s3 h3
      walk_at "s"
      refine ⟨td, _, rfl, DGet.t (k := wayK z1 z2) (s3 _ _ htl) h3, ?_⟩
      walk_at "s"
      have npt2 : p ≠ td := ne_of hpl htl (by intro z; cases z)
      refine ifNB (fun c1 => ?_) (fun c1 => ?_)
      · have cn : valV (toldK rs) (wayK z1 z2) = none := by simpa using c1
        have hnew := way_new (fun _ => V.bl true) cn
        walk_at "s"
        refine ⟨(by show 2 ≤ sizeLine; decide), fun u hu2 => ?_⟩
        have s4 : Same H3 (upd H3 u (.tup [.str z1, .str z2])) := same_new hu2
        have h4 : upd H3 u (.tup [.str z1, .str z2]) u = some (.tup [.str z1, .str z2]) := upd_same
        revert s4 h4
        generalize upd H3 u (.tup [.str z1, .str z2]) = H4
        intro s4 h4
        have hpl4 := s4 _ _ (s3 _ _ hpl)
        have htl4 := s4 _ _ (s3 _ _ htl)
        have hpr4 : Paired (IsRow H4) ts rs := Paired.mapP hpr fun _ _ h => s4 _ _ (s3 _ _ h)
        refine ⟨td, _, rfl, DPut.t (k := wayK z1 z2) htl4 h4 (szlt (by unfold toldK; rw [List.length_map]; omega)), ?_⟩
        rw [putK_new _ cn]
        have s5 : SameB td H4 (upd H4 td (.dT (toldK rs ++ [(wayK z1 z2, .bl true)]))) := fun b o nb e => by rw [upd_ne nb]; exact e
        have h5 : upd H4 td (.dT (toldK rs ++ [(wayK z1 z2, .bl true)])) td = some (.dT (toldK rs ++ [(wayK z1 z2, .bl true)])) := upd_same
        revert s5 h5
        generalize upd H4 td (.dT (toldK rs ++ [(wayK z1 z2, .bl true)])) = H5
        intro s5 h5
        have hpl5 := s5 _ _ npt2 hpl4
        have hpr5 : Paired (IsRow H5) ts rs := Paired.mapP hpr4 fun t r h => s5 _ _ (ne_of h htl4 (by intro z; cases z)) h
        walk_at "s"
        refine ⟨.inl ⟨rfl, _, SqL.of hpl5⟩, ?_⟩
        walk_at "s"
        refine ⟨mulSmall (by omega) (by omega), ?_⟩
        refine ⟨_, _, rfl, rfl, ?_⟩
        refine ⟨_, _, rfl, rfl, (by decide : (0 : Int) < 1000000000001), ?_⟩
        dsimp only
        have m0 := Int.emod_nonneg (x / 72 + (0 + (i : Int)) * 999999937) (show (1000000000001 : Int) ≠ 0 by decide)
        have m1 := Int.emod_lt_of_pos (x / 72 + (0 + (i : Int)) * 999999937) (show (0 : Int) < 1000000000001 by decide)
        revert m0 m1
        generalize (x / 72 + (0 + (i : Int)) * 999999937) % 1000000000001 = pr
        intro m0 m1
        refine ⟨(by show 3 ≤ sizeLine; decide), fun v hv => ?_⟩
        have s6 : Same H5 (upd H5 v (.tup [.str z1, .str z2, .int pr])) := same_new hv
        have h6 : upd H5 v (.tup [.str z1, .str z2, .int pr]) v = some (.tup [.str z1, .str z2, .int pr]) := upd_same
        revert s6 h6
        generalize upd H5 v (.tup [.str z1, .str z2, .int pr]) = H6
        intro s6 h6
        have hpl6 := s6 _ _ hpl5
        have lts := Paired.length hpr
        refine ⟨_, _, _, rfl, rfl, hpl6, szlt (by rw [List.length_map]; omega), ?_⟩
        have hpr6 : Paired (IsRow H6) ts rs := Paired.mapP hpr5 fun t r h => s6 _ _ h
        refine ⟨ts ++ [v], rs ++ [(z1, z2, pr)], _, _, _, _, rfl, ?_, ?_, ?_, ?_, ?_, ?_⟩
        · refine same_mut (fun b o e => s6 _ _ (s5 _ _ (fun z => ?_) (s4 _ _ (s3 _ _ (s2 _ _ e))))) hp
          rw [z, htd0] at e; cases e
        · rw [upd_same, List.map_append]; rfl
        · rw [upd_ne npt2.symm, s6 _ _ h5]
          unfold toldK
          rw [List.map_append]; rfl
        · refine Paired.snoc (Paired.mapP hpr6 fun t r h => ?_) ?_
          · show upd _ _ _ _ = _
            rw [upd_ne (ne_of h hpl6 (by intro z; cases z))]; exact h
          · show upd _ _ _ _ = _
            rw [upd_ne (ne_of h6 hpl6 (by intro z; cases z))]; exact h6
        · refine good_snoc hg ⟨p1, p2, hne, ?_⟩ hnew
          show (decide (0 ≤ pr) && decide (pr ≤ 1000000000000)) = true
          rw [decide_eq_true m0, decide_eq_true (show pr ≤ 1000000000000 by omega)]; rfl
        · rw [List.length_append]; simp; omega
      · exact ⟨ts, rs, _, _, _, _, rfl, Same.trans s2 s3, s3 _ _ hpl, s3 _ _ htl, Paired.mapP hpr fun _ _ h => s3 _ _ h, hg, by omega⟩
    · rintro σ H2 ⟨ts, rs, v5, v6, v7, v8, rfl, s2, hpl, htl, hpr, hg, hl⟩
      walk_at "s"
      exact q p H2 ts rs hp s2 hpl hpr hg (by omega)
theorem ok_good {f : Addr} {fd : FuncData} (F : Fun K "_law_good" "_law_good" s__law_good f fd) (T : Txt K mg a) (D_price : Dm Pg w K mg base 1 a.Tariff "price" ["self", "here", "there"] (spPrice a)) (D_told : Dm Pg w K mg base 1 a.Tariff "told" ["self"] (spTold a)) : FnOk Pg w K mg base (L2.CX Pg w) 2 f fd ["_law_tariff", "_law_rows_here", "_law_names_here"] (spGood K a) := by
  refine F.okX sc__law_good (fun vs H Q E h => ?_) (fun cdv A outer s H vs Q E hr h => ?_)
  · obtain ⟨p, d, r, nl, ts, rs, zs, rfl, _⟩ := h
    rfl
  · obtain ⟨p, d, r, nl, ts, rs, zs, rfl, hT, hrl, hpr, hg, hlen, hn, hzl, q⟩ := h
    have hu := hu_of hr
    have lts := Paired.length hpr
    have PO : PassesOwn (model Pg w) (A.deeper (envOfC "_law_good" (defScope s__law_good) s.heap.objs.size f cdv)) (envOfC "_law_good" (defScope s__law_good) s.heap.objs.size f cdv) (cxOf (L2.CX Pg w) Pg w K mg base N__law_good "_law_good" (defScope s__law_good) f cdv A outer s H E).xe := passes_of rfl
    refine ⟨_, (pss_cons (ps_set (i := 3) sc__law_good.nd rfl (by first | exact Or.inl rfl | exact Or.inr rfl) pe_dnewT)
      (pss_cons (ps_for PO rfl (pi_list (pv 1)) (pg_name (i := 4) sc__law_good.nd rfl (by first | exact Or.inl rfl | exact Or.inr rfl))
        (pss_one (ps_dput hu (pv 3) (pe_tup (pa_cons (pe_ix ix_tup (pv 4) pe_int (fun _ _ => rfl)) (pa_cons (pe_ix ix_tup (pv 4) pe_int (fun _ _ => rfl)) pa_nil))) (pe_ix ix_tup (pv 4) pe_int (fun _ _ => rfl)) rfl)))
      (pss_cons (ps_for PO rfl (pi_list (pv 2)) (pg_name (i := 5) sc__law_good.nd rfl (by first | exact Or.inl rfl | exact Or.inr rfl))
        (pss_one (ps_for PO rfl (pi_list (pv 2)) (pg_name (i := 6) sc__law_good.nd rfl (by first | exact Or.inl rfl | exact Or.inr rfl))
            (pss_cons (ps_set (i := 7) sc__law_good.nd rfl (by first | exact Or.inl rfl | exact Or.inr rfl) (pe_mdS (pv 0) T.cl_Tariff D_price (hr.mono (by decide)) passC (pa_cons (pv 5) (pa_cons (pv 6) pa_nil))))
              (pss_cons (ps_if (PW.pt (pw_and (pt_cmp (pc_dnotin hu (pe_tup (pa_cons (pv 5) (pa_cons (pv 6) pa_nil))) (pv 3))) (pw_and1 (pt_cmpR op_notN (pv 7) pe_non (nomark _))))) (pss_one (ps_ret pe_bl)) pss_nil)
              (pss_one (ps_if (pt_cmp (pc_din hu (pe_tup (pa_cons (pv 5) (pa_cons (pv 6) pa_nil))) (pv 3))) (pss_one (ps_if (PW.pt (pw_or (pt_not (pt_val (pe_callB call_isi (by rfl) T.n_isinstance (by decide +kernel) (pa_cons (pv 7) (pa_cons (pe_bty (n := "int") T.n_int (by decide +kernel)) pa_nil))))) (pw_or (pt_val (pe_callB call_isi (by rfl) T.n_isinstance (by decide +kernel) (pa_cons (pv 7) (pa_cons (pe_bty (n := "bool") T.n_bool (by decide +kernel)) pa_nil)))) (pw_or1 (pt_cmpR op_ne (pv 7) (pe_dget hu (pv 3) (pe_tup (pa_cons (pv 5) (pa_cons (pv 6) pa_nil))) (fun _ _ => rfl)) (nomark _)))))) (pss_one (ps_ret pe_bl)) pss_nil)) pss_nil)))))))
      (pss_cons (ps_set (i := 7) sc__law_good.nd rfl (by first | exact Or.inl rfl | exact Or.inr rfl) (pe_mdS0 (pv 0) T.cl_Tariff D_told (hr.mono (by decide)) passC))
      (pss_cons (ps_if (PW.pt (pw_or (pt_not (pt_val (pe_callB call_isi (by rfl) T.n_isinstance (by decide +kernel) (pa_cons (pv 7) (pa_cons (pe_bty (n := "list") T.n_list (by decide +kernel)) pa_nil))))) (pw_or1 (pt_cmpR op_ne (pe_callB call_len_seq (by rfl) T.n_len (by decide +kernel) (pa_cons (pv 7) pa_nil)) (pe_callB call_len_seq (by rfl) T.n_len (by decide +kernel) (pa_cons (pv 1) pa_nil)) (nomark _))))) (pss_one (ps_ret pe_bl)) pss_nil)
      (pss_cons (ps_for PO rfl (pi_range1 (by rfl) T.n_range (pa_cons (pe_callB call_len_seq (by rfl) T.n_len (by decide +kernel) (pa_cons (pv 1) pa_nil)) pa_nil)) (pg_name (i := 8) sc__law_good.nd rfl (by first | exact Or.inl rfl | exact Or.inr rfl))
        (pss_one (ps_if (PW.pt (pw_or (pt_not (pt_val (pe_callB call_isi (by rfl) T.n_isinstance (by decide +kernel) (pa_cons (pe_ix ix_list (pv 7) (pv 8) (fun _ _ => rfl)) (pa_cons (pe_bty (n := "tuple") T.n_tuple (by decide +kernel)) pa_nil))))) (pw_or1 (pt_cmpR (op_neD hr.units) (pe_ix ix_list (pv 7) (pv 8) (fun _ _ => rfl)) (pe_ix ix_list (pv 1) (pv 8) (fun _ _ => rfl)) (nomark _))))) (pss_one (ps_ret pe_bl)) pss_nil)))
      (pss_cons (ps_expr (pe_bm PySem.F.plainAttrs_list PySem.F.slot_list_append PySem.F.type_list_append mt_append (pv 7) (pa_cons (pe_tup (pa_cons pe_str (pa_cons pe_str (pa_cons pe_int pa_nil)))) pa_nil)))
      (pss_one (ps_ret pe_bl))))))))), ?_⟩
    intro tb htb
    have s1 : Same H (upd H tb (.dT [])) := same_new htb
    walk_at "s"
    refine ⟨⟨_, s1.seq hrl⟩, for_list (K := K) (a := r) (xs := ts.map V.ref) (fun i σ H' => ∃ v4, σ = [some (.ref p), some (.ref r), some (.ref nl), some (.ref tb), v4, none, none, none, none] ∧ Same H H' ∧ H' tb = some (.dT ((rs.take i).map rowK)))
      ⟨none, rfl, s1, upd_same⟩ (fun i σ H' _ ⟨_, _, s2, _⟩ => s2.seq hrl) ?_ ?_⟩
    · rintro i y σ H2 hi ⟨v4, rfl, s2, htl⟩
      rw [List.getElem?_map] at hi
      obtain ⟨t, ht1, rfl⟩ := Option.map_eq_some_iff.mp hi
      obtain ⟨g, hg1, hgr⟩ := paired_at hpr ht1
      have ht2 := s2 _ _ hgr
      walk_at "s"
      refine ⟨_, _, _, _, rfl, rfl, SqT.of ht2, rfl, ?_⟩
      walk_at "s"
      refine ⟨_, _, _, _, rfl, rfl, SqT.of ht2, rfl, ?_⟩
      walk_at "s"
      refine ⟨_, _, _, _, rfl, rfl, SqT.of ht2, rfl, ?_⟩
      refine ⟨(by show 2 ≤ sizeLine; decide), fun u hu2 => ?_⟩
      have s3 : Same H2 (upd H2 u (.tup [.str g.1, .str g.2.1])) := same_new hu2
      have h3 : upd H2 u (.tup [.str g.1, .str g.2.1]) u = some (.tup [.str g.1, .str g.2.1]) := upd_same
      revert s3 h3
      generalize upd H2 u (.tup [.str g.1, .str g.2.1]) = H3
      intro s3 h3
      refine ⟨tb, _, rfl, DPut.t (k := wayK g.1 g.2.1) (s3 _ _ htl) h3 (szlt (by rw [List.length_map, List.length_take]; omega)), ?_⟩
      refine ⟨_, rfl, fun b o e => ?_, ?_⟩
      · rw [upd_ne (ne_of_none e htb)]
        exact s3 _ _ (s2 _ _ e)
      · rw [upd_same]
        exact congrArg (fun l => some (HO.dT l)) (take_rowK hg hg1)
    · rintro σ H2 ⟨v4, rfl, s2, htl⟩
      rw [List.length_map, lts, List.take_length] at htl
      obtain ⟨dx, hob⟩ := hT.ob
      walk_at "s"
      refine ⟨⟨_, s2.seq hn⟩, for_list (K := K) (a := nl) (xs := zs.map V.str) (fun i σ H' => ∃ v5 v6 v7, σ = [some (.ref p), some (.ref r), some (.ref nl), some (.ref tb), v4, v5, v6, v7, none] ∧ Same H H' ∧ H' tb = some (.dT (rs.map rowK)))
        ⟨none, none, none, rfl, s2, htl⟩ (fun i σ H' _ ⟨_, _, _, _, s2, _⟩ => s2.seq hn) ?_ ?_⟩
      · rintro i y σ H3 hi ⟨v5, v6, v7, rfl, s3, htl3⟩
        rw [List.getElem?_map] at hi
        obtain ⟨x, hx1, rfl⟩ := Option.map_eq_some_iff.mp hi
        walk_at "s"
        refine ⟨⟨_, s3.seq hn⟩, for_list (K := K) (a := nl) (xs := zs.map V.str) (fun i σ H' => ∃ v6 v7, σ = [some (.ref p), some (.ref r), some (.ref nl), some (.ref tb), v4, some (.str x), v6, v7, none] ∧ Same H H' ∧ H' tb = some (.dT (rs.map rowK)))
          ⟨v6, v7, rfl, s3, htl3⟩ (fun i σ H' _ ⟨_, _, _, s2, _⟩ => s2.seq hn) ?_ ?_⟩
        · rintro i' y' σ H4 hi' ⟨v6, v7, rfl, s4, htl4⟩
          rw [List.getElem?_map] at hi'
          obtain ⟨z, hz1, rfl⟩ := Option.map_eq_some_iff.mp hi'
          walk_at "s"
          refine ⟨p, dx, _, rfl, s4 _ _ hob, prices_no d (by decide), ?_⟩
          walk_at "s"
          refine ⟨p, d, x, z, rs, rfl, hT.same s4, fun H5 s5 => ?_⟩
          have s45 := Same.trans s4 s5
          have htl5 := s5 _ _ htl4
          cases hv : valV (rs.map rowK) (wayK x z) with
          | none =>
            have hl : lookR rs x z = .non := by
              show (valV (rs.map rowK) (wayK x z)).getD .non = _
              rw [hv]; rfl
            rw [hl]
            walk_at "s"
            refine ⟨(by show 2 ≤ sizeLine; decide), fun u hu2 => ?_⟩
            have s6 : Same H5 (upd H5 u (.tup [.str x, .str z])) := same_new hu2
            have h6 : upd H5 u (.tup [.str x, .str z]) u = some (.tup [.str x, .str z]) := upd_same
            revert s6 h6
            generalize upd H5 u (.tup [.str x, .str z]) = H6
            intro s6 h6
            walk_at "s"
            refine ⟨tb, none, rfl, by rw [← hv]; exact DGet.t (k := wayK x z) (s6 _ _ htl5) h6, ?_⟩
            walk_at "s"
            refine ⟨(by show 2 ≤ sizeLine; decide), fun u' hu' => ?_⟩
            have s7 : Same H6 (upd H6 u' (.tup [.str x, .str z])) := same_new hu'
            have h7 : upd H6 u' (.tup [.str x, .str z]) u' = some (.tup [.str x, .str z]) := upd_same
            revert s7 h7
            generalize upd H6 u' (.tup [.str x, .str z]) = H7
            intro s7 h7
            walk_at "s"
            refine ⟨tb, none, rfl, by rw [← hv]; exact DGet.t (k := wayK x z) (s7 _ _ (s6 _ _ htl5)) h7, ?_⟩
            walk_at "s"
            exact ⟨_, _, rfl, Same.trans s45 (Same.trans s6 s7), s7 _ _ (s6 _ _ htl5)⟩
          | some v =>
            obtain ⟨rr, hrr, er⟩ := List.mem_map.mp (valV_some hv)
            have ev : v = .int rr.2.2 := (Prod.mk.inj er).2.symm
            subst ev
            have hl : lookR rs x z = .int rr.2.2 := by
              show (valV (rs.map rowK) (wayK x z)).getD .non = _
              rw [hv]; rfl
            rw [hl]
            walk_at "s"
            refine ⟨(by show 2 ≤ sizeLine; decide), fun u hu2 => ?_⟩
            have s6 : Same H5 (upd H5 u (.tup [.str x, .str z])) := same_new hu2
            have h6 : upd H5 u (.tup [.str x, .str z]) u = some (.tup [.str x, .str z]) := upd_same
            revert s6 h6
            generalize upd H5 u (.tup [.str x, .str z]) = H6
            intro s6 h6
            walk_at "s"
            refine ⟨tb, some (.int rr.2.2), rfl, by rw [← hv]; exact DGet.t (k := wayK x z) (s6 _ _ htl5) h6, ?_⟩
            walk_at "s"
            refine ⟨(by show 2 ≤ sizeLine; decide), fun u' hu' => ?_⟩
            have s7 : Same H6 (upd H6 u' (.tup [.str x, .str z])) := same_new hu'
            have h7 : upd H6 u' (.tup [.str x, .str z]) u' = some (.tup [.str x, .str z]) := upd_same
            revert s7 h7
            generalize upd H6 u' (.tup [.str x, .str z]) = H7
            intro s7 h7
            walk_at "s"
            refine ⟨tb, some (.int rr.2.2), rfl, by rw [← hv]; exact DGet.t (k := wayK x z) (s7 _ _ (s6 _ _ htl5)) h7, ?_⟩
            walk_at "s"
            refine ⟨_, _, _, _, true, rfl, .ty "int", .base (.int _), kit_ty (by decide +kernel), ?_⟩
            walk_at "s"
            refine ⟨_, _, _, _, false, rfl, .ty "bool", .base (.int _), kit_ty (by decide +kernel), ?_⟩
            walk_at "s"
            refine ⟨(by show 2 ≤ sizeLine; decide), fun u'' hu'' => ?_⟩
            have s8 : Same H7 (upd H7 u'' (.tup [.str x, .str z])) := same_new hu''
            have h8 : upd H7 u'' (.tup [.str x, .str z]) u'' = some (.tup [.str x, .str z]) := upd_same
            revert s8 h8
            generalize upd H7 u'' (.tup [.str x, .str z]) = H8
            intro s8 h8
            refine ⟨tb, .int rr.2.2, rfl, by rw [← hv]; exact DGet.t (k := wayK x z) (s8 _ _ (s7 _ _ (s6 _ _ htl5))) h8, ?_⟩
            walk_at "s"
            rw [decide_eq_true rfl]
            exact ⟨_, _, rfl, Same.trans s45 (Same.trans s6 (Same.trans s7 s8)), s8 _ _ (s7 _ _ (s6 _ _ htl5))⟩
        · rintro σ H4 ⟨v6, v7, rfl, s4, htl4⟩
          exact ⟨_, _, _, rfl, s4, htl4⟩
      · rintro σ H3 ⟨v5, v6, v7, rfl, s3, htl3⟩
        walk_at "s"
        refine ⟨p, dx, _, rfl, s3 _ _ hob, prices_no d (by decide), ?_⟩
        refine ⟨p, d, rs, rfl, hT.same s3, by omega, fun g H4 us hg0 s4 hgl hgr => ?_⟩
        have lus := Paired.length hgr
        have hrl4 := (Same.trans s3 s4).seq hrl
        have hgs : SqL K H4 g (us.map V.ref) := SqL.of hgl
        walk_at "s"
        refine ⟨_, _, _, _, true, rfl, .ty "list", .base (.lst hgl), kit_ty (by decide +kernel), ?_⟩
        walk_at "s"
        rw [List.length_map, List.length_map, lus, lts, decide_eq_true rfl]
        walk_at "s"
        refine ⟨by rw [List.length_map]; omega, by rw [List.length_map]; omega, ?_⟩
        refine for_range (fun i σ H' => ∃ kv, σ = [some (.ref p), some (.ref r), some (.ref nl), some (.ref tb), v4, v5, v6, some (.ref g), kv] ∧ H' = H4) ⟨none, rfl, rfl⟩ ?_ ?_
        · rintro i σ H5 hi ⟨kv, rfl, rfl⟩
          rw [List.length_map] at hi
          have hi1 : i < us.length := by omega
          have hi2 : i < ts.length := by omega
          have hi3 : i < rs.length := by omega
          obtain ⟨r1, er1, hr1⟩ := paired_at hgr (List.getElem?_eq_getElem hi1)
          obtain ⟨r2, er2, hr2⟩ := paired_at hpr (List.getElem?_eq_getElem hi2)
          have e12 : r1 = r2 := Option.some.inj (er1.symm.trans er2)
          subst e12
          have hr2' := s4 _ _ (s3 _ _ hr2)
          have gr := hg.ok r1 (List.mem_of_getElem? er1)
          walk_at "s"
          refine ⟨_, _, _, _, rfl, rfl, hgs, atI_of (by omega) (by rw [show (0 + (i : Int)).toNat = i by omega, List.getElem?_map, List.getElem?_eq_getElem hi1]; rfl), ?_⟩
          walk_at "s"
          refine ⟨_, _, _, _, true, rfl, .ty "tuple", .base (.tup hr1), kit_ty (by decide +kernel), ?_⟩
          walk_at "s"
          refine ⟨_, _, _, _, rfl, rfl, hgs, atI_of (by omega) (by rw [show (0 + (i : Int)).toNat = i by omega, List.getElem?_map, List.getElem?_eq_getElem hi1]; rfl), ?_⟩
          walk_at "s"
          refine ⟨_, _, _, _, rfl, rfl, hrl4, atI_of (by omega) (by rw [show (0 + (i : Int)).toNat = i by omega, List.getElem?_map, List.getElem?_eq_getElem hi2]; rfl), ?_⟩
          refine ⟨_, _, dp_row gr hr1, dp_row gr hr2', shaped_row gr, shaped_row gr, ?_⟩
          rw [eqv_self (shaped_row gr)]
          walk_at "s"
          rfl
        · rintro σ H5 ⟨kv, rfl, rfl⟩
          walk_at "s"
          refine ⟨.inl ⟨rfl, _, SqL.of hgl⟩, ?_⟩
          walk_at "s"
          refine ⟨(by show 3 ≤ sizeLine; decide), fun t ht => ?_⟩
          have hgl6 : upd H5 t (.tup [.str (Str.ofString "x"), .str (Str.ofString "y"), .int 1]) g = some (.lst (us.map V.ref)) := same_new ht _ _ hgl
          refine ⟨_, _, _, rfl, rfl, hgl6, szlt (by rw [List.length_map]; omega), ?_⟩
          refine q _ (same_mut (Same.trans (Same.trans s3 s4) (same_new ht)) ?_)
          exact s3.free hg0
end
end Fb

namespace Fb
open PySem PySem.Spec PyProof.Rows L2
local macro_rules | `(tactic| walk_at "s") => `(tactic| repeat (first | refine ⟨_, rfl, ?_⟩ | refine ⟨_, _, rfl, rfl, ?_⟩ | refine ⟨_, _, rfl, Or.inl (by assumption), ?_⟩ | refine ⟨rfl, ?_⟩ | refine ⟨(by decide : (0 : Int) < _), ?_⟩ | refine ⟨⟨by decide, by decide⟩, ?_⟩ | refine ⟨_, _, _, rfl, (by assumption), (by first | decide | omega), ?_⟩))
def spLaw (K : PySem.W.Frag) (P : Addr) : Sp := fun vs H Q _ => ∃ (l : Addr) (ns : List Int), vs = [.ref l] ∧ SqL K H l (ns.map V.int) ∧ H P = some (TabO P) ∧ ∀ H', H' P = some (TabO P) → Q (.bl true) H'
abbrev s_law : Stmt := topS 18
abbrev N_law : List Str := ["_law_script", "_law_names_here", "_law_ones", "_law_others", "_law_handed", "_law_first", "_law_second", "_law_told"]
theorem sc_law : FnScope N_law ["_law_script"] (defScope s_law) := ⟨rfl, rfl, rfl, by decide +kernel, rfl, by decide +kernel, by decide +kernel⟩
section
variable {Pg : Program} {w : World} {K : PySem.W.Frag} {mg : Str → Option Value} {base : Heap} {a : Ads}
theorem ok_law {f P : Addr} {fd : FuncData} (F : Fun K "law" "law" s_law f fd) (T : Txt K mg a) (D_cell_at : Dn Pg w K mg base 1 "_law_cell_at" ["_law_script", "_law_k"] (spCell K)) (D_names : Dn Pg w K mg base 1 "_law_names" ["_law_cell", "_law_many"] spNames)
    (D_rows : Dn Pg w K mg base 2 "_law_rows" ["_law_script", "_law_begin", "_law_names_here"] (spRows K)) (D_good : Dn Pg w K mg base 2 "_law_good" ["_law_tariff", "_law_rows_here", "_law_names_here"] (spGood K a))
    (D_Tariff : Dk Pg w K mg base 4 "Tariff" a.Tariff ["self", "rows"] (spInit K a P)) (D_told : Dm Pg w K mg base 1 a.Tariff "told" ["self"] (spTold a)) : FnOk Pg w K mg base (L2.CX Pg w) 6 f fd ["_law_script"] (spLaw K P) := by
  refine F.okX sc_law (fun vs H Q E h => ?_) (fun cdv A outer s H vs Q E hr h => ?_)
  · obtain ⟨c, _, rfl, _⟩ := h
    rfl
  · obtain ⟨l, ns, rfl, hs, hP, q⟩ := h
    refine ⟨_, (pss_cons (ps_set (i := 1) sc_law.nd rfl (by first | exact Or.inl rfl | exact Or.inr rfl) (pe_fnS D_names (hr.mono (by decide)) passC (pa_cons (pe_fnS D_cell_at (hr.mono (by decide)) passC (pa_cons (pv 0) (pa_cons pe_int pa_nil))) (pa_cons pe_int pa_nil))))
      (pss_cons (ps_set (i := 2) sc_law.nd rfl (by first | exact Or.inl rfl | exact Or.inr rfl) (pe_fnS D_rows (hr.mono (by decide)) passC (pa_cons (pv 0) (pa_cons pe_int (pa_cons (pv 1) pa_nil)))))
      (pss_cons (ps_set (i := 3) sc_law.nd rfl (by first | exact Or.inl rfl | exact Or.inr rfl) (pe_fnS D_rows (hr.mono (by decide)) passC (pa_cons (pv 0) (pa_cons pe_int (pa_cons (pv 1) pa_nil)))))
      (pss_cons (ps_set (i := 4) sc_law.nd rfl (by first | exact Or.inl rfl | exact Or.inr rfl) (pe_lst (pa_cons (pe_callTy call_list_of (by rfl) T.n_list (by decide +kernel) (pa_cons (pv 2) pa_nil)) (pa_cons (pe_callTy call_list_of (by rfl) T.n_list (by decide +kernel) (pa_cons (pv 3) pa_nil)) pa_nil))))
      (pss_cons (ps_set (i := 5) sc_law.nd rfl (by first | exact Or.inl rfl | exact Or.inr rfl) (pe_mkS D_Tariff (hr.mono (by decide)) (fun σ => passAt (takes_of rfl rfl rfl rfl) σ) (pa_cons (pe_ix ix_list (pv 4) pe_int (fun _ _ => rfl)) pa_nil)))
      (pss_cons (ps_set (i := 6) sc_law.nd rfl (by first | exact Or.inl rfl | exact Or.inr rfl) (pe_mkS D_Tariff (hr.mono (by decide)) (fun σ => passAt (takes_of rfl rfl rfl rfl) σ) (pa_cons (pe_ix ix_list (pv 4) pe_int (fun _ _ => rfl)) pa_nil)))
      (pss_cons (ps_set (i := 7) sc_law.nd rfl (by first | exact Or.inl rfl | exact Or.inr rfl) (pe_lst (pa_cons (pe_mdS0 (pv 5) T.cl_Tariff D_told (hr.mono (by decide)) passC) (pa_cons (pe_mdS0 (pv 6) T.cl_Tariff D_told (hr.mono (by decide)) passC) pa_nil))))
      (pss_cons (ps_if (PW.pt (pw_or (pt_not (pt_val (pe_fnS D_good (hr.mono (by decide)) passC (pa_cons (pv 5) (pa_cons (pv 2) (pa_cons (pv 1) pa_nil)))))) (pw_or1 (pt_not (pt_val (pe_fnS D_good (hr.mono (by decide)) passC (pa_cons (pv 6) (pa_cons (pv 3) (pa_cons (pv 1) pa_nil))))))))) (pss_one (ps_ret pe_bl)) pss_nil)
      (pss_cons (ps_if (pt_cmpR (op_neD hr.units) (pv 7) (pe_lst (pa_cons (pv 2) (pa_cons (pv 3) pa_nil))) (nomark _)) (pss_one (ps_ret pe_bl)) pss_nil)
      (pss_cons (ps_if (PW.pt (pw_or (pt_cmpR (op_neD hr.units) (pe_ix ix_list (pv 4) pe_int (fun _ _ => rfl)) (pv 2) (nomark _)) (pw_or1 (pt_cmpR (op_neD hr.units) (pe_ix ix_list (pv 4) pe_int (fun _ _ => rfl)) (pv 3) (nomark _))))) (pss_one (ps_ret pe_bl)) pss_nil)
      (pss_cons (ps_expr (pe_bm0 PySem.F.plainAttrs_list PySem.F.slot_list_clear PySem.F.type_list_clear mt_clear (pe_ix ix_list (pv 4) pe_int (fun _ _ => rfl))))
      (pss_cons (ps_expr (pe_bm PySem.F.plainAttrs_list PySem.F.slot_list_append PySem.F.type_list_append mt_append (pe_ix ix_list (pv 4) pe_int (fun _ _ => rfl)) (pa_cons (pe_tup (pa_cons pe_str (pa_cons pe_str (pa_cons pe_int pa_nil)))) pa_nil)))
      (pss_one (ps_ret (pe_and (pe_fnS D_good (hr.mono (by decide)) passC (pa_cons (pv 5) (pa_cons (pv 2) (pa_cons (pv 1) pa_nil)))) (pe_one (pe_fnS D_good (hr.mono (by decide)) passC (pa_cons (pv 6) (pa_cons (pv 3) (pa_cons (pv 1) pa_nil)))))))))))))))))))), ?_⟩
    walk_at "s"
    refine ⟨_, 9, rfl, by decide, fun nl H1 hnl s1 hn => ?_⟩
    walk_at "s"
    refine ⟨l, nl, ns, 1, cel ns 0, rfl, s1.seq hs, by decide, SqL.of hn, fun p1 H2 ts1 rs1 h1 s2 hp1 hr1 g1 l1 => ?_⟩
    walk_at "s"
    refine ⟨l, nl, ns, 22, cel ns 0, rfl, s2.seq (s1.seq hs), by decide, SqL.of (s2 _ _ hn), fun p2 H3 ts2 rs2 h2 s3 hp2 hr2 g2 l2 => ?_⟩
    have lt1 := Paired.length hr1
    have lt2 := Paired.length hr2
    have tk1 : takeRows [] (rs1.map givenOf) = (0, rs1) := take_good (rs := []) (by simpa using g1) (by simp; omega)
    have tk2 : takeRows [] (rs2.map givenOf) = (0, rs2) := take_good (rs := []) (by simpa using g2) (by simp; omega)
    have hp1_3 := s3 _ _ hp1
    have hr1_3 := rows_same s3 hr1
    have hn3 := s3 _ _ (s2 _ _ hn)
    have hP3 := s3 _ _ (s2 _ _ (s1 _ _ hP))
    have s03 := Same.trans s1 (Same.trans s2 s3)
    have q1_3 : SqL K H3 p1 (ts1.map V.ref) := SqL.of hp1_3
    walk_at "s"
    intro h0 hh0
    have s4 : Same H3 (upd H3 h0 (.lst (ts1.map V.ref))) := same_new hh0
    have h0_4 : upd H3 h0 (.lst (ts1.map V.ref)) h0 = some (.lst (ts1.map V.ref)) := upd_same
    revert s4 h0_4
    generalize upd H3 h0 (.lst (ts1.map V.ref)) = H4
    intro s4 h0_4
    have q2_4 : SqL K H4 p2 (ts2.map V.ref) := SqL.of (s4 _ _ hp2)
    walk_at "s"
    intro h1' hh1
    have s5 : Same H4 (upd H4 h1' (.lst (ts2.map V.ref))) := same_new hh1
    have h1_5 : upd H4 h1' (.lst (ts2.map V.ref)) h1' = some (.lst (ts2.map V.ref)) := upd_same
    revert s5 h1_5
    generalize upd H4 h1' (.lst (ts2.map V.ref)) = H5
    intro s5 h1_5
    have h0_5 := s5 _ _ h0_4
    refine ⟨(by show 2 ≤ sizeLine; decide), fun lo hlo => ?_⟩
    have s6 : Same H5 (upd H5 lo (.lst [.ref h0, .ref h1'])) := same_new hlo
    have lo_6 : upd H5 lo (.lst [.ref h0, .ref h1']) lo = some (.lst [.ref h0, .ref h1']) := upd_same
    revert s6 lo_6
    generalize upd H5 lo (.lst [.ref h0, .ref h1']) = H6
    intro s6 lo_6
    have s36 := Same.trans s4 (Same.trans s5 s6)
    walk_at "s"
    refine ⟨_, _, _, _, rfl, rfl, SqL.of lo_6, rfl, ?_⟩
    intro x1 dx1 hx1 hdx1 hne1
    have m1 : Same H6 (upd (upd H6 dx1 (.own x1)) x1 (.ins a.Tariff dx1 [])) := fun b o e => by rw [upd_ne (ne_of_none e hx1), upd_ne (ne_of_none e hdx1)]; exact e
    refine ⟨x1, dx1, h0, ts1, rs1.map givenOf, rfl, upd_same, m1 _ _ (s36 _ _ hP3), SqL.of (m1 _ _ (s6 _ _ h0_5)), given_rows (rows_same (Same.trans s36 m1) hr1_3), good_ask g1, by rw [List.length_map]; omega, fun _ d1 H7 hd1 sb1 T1 => ⟨rfl, ?_⟩, fun e => absurd (by rw [tk1]) e⟩
    rw [tk1] at T1
    have s7 : Same H6 H7 := fun b o e => sb1 _ _ (ne_of_none e hx1) (m1 _ _ e)
    walk_at "s"
    refine ⟨_, _, _, _, rfl, rfl, SqL.of (s7 _ _ lo_6), rfl, ?_⟩
    intro x2 dx2 hx2 hdx2 hne2
    have m2 : Same H7 (upd (upd H7 dx2 (.own x2)) x2 (.ins a.Tariff dx2 [])) := fun b o e => by rw [upd_ne (ne_of_none e hx2), upd_ne (ne_of_none e hdx2)]; exact e
    refine ⟨x2, dx2, h1', ts2, rs2.map givenOf, rfl, upd_same, m2 _ _ (s7 _ _ (s36 _ _ hP3)), SqL.of (m2 _ _ (s7 _ _ (s6 _ _ h1_5))), given_rows (rows_same (Same.trans s36 (Same.trans s7 m2)) hr2), good_ask g2, by rw [List.length_map]; omega, fun _ d2 H8 hd2 sb2 T2 => ⟨rfl, ?_⟩, fun e => absurd (by rw [tk2]) e⟩
    rw [tk2] at T2
    have s8 : Same H7 H8 := fun b o e => sb2 _ _ (ne_of_none e hx2) (m2 _ _ e)
    have s38 := Same.trans s36 (Same.trans s7 s8)
    have T1_8 := T1.same s8
    obtain ⟨dy1, ob1⟩ := T1_8.ob
    walk_at "s"
    refine ⟨x1, dy1, _, rfl, ob1, prices_no d1 (by decide), ?_⟩
    refine ⟨x1, d1, rs1, rfl, T1_8, by omega, fun u1 H9 us1 hu1 s9 hul1 hur1 => ?_⟩
    have T2_9 := T2.same s9
    obtain ⟨dy2, ob2⟩ := T2_9.ob
    walk_at "s"
    refine ⟨x2, dy2, _, rfl, ob2, prices_no d2 (by decide), ?_⟩
    refine ⟨x2, d2, rs2, rfl, T2_9, by omega, fun u2 H10 us2 hu2 s10 hul2 hur2 => ?_⟩
    refine ⟨(by show 2 ≤ sizeLine; decide), fun lt hlt => ?_⟩
    have s11 : Same H10 (upd H10 lt (.lst [.ref u1, .ref u2])) := same_new hlt
    have lt_11 : upd H10 lt (.lst [.ref u1, .ref u2]) lt = some (.lst [.ref u1, .ref u2]) := upd_same
    revert s11 lt_11
    generalize upd H10 lt (.lst [.ref u1, .ref u2]) = H11
    intro s11 lt_11
    have s811 := Same.trans s9 (Same.trans s10 s11)
    have s311 := Same.trans s38 s811
    walk_at "s"
    refine ⟨x1, d1, p1, nl, ts1, rs1, (List.range 9).map (nameOf (cel ns 0)), rfl, T1_8.same s811, SqL.of (s311 _ _ hp1_3), rows_same s311 hr1_3, g1, by omega, SqL.of (by rw [List.map_map]; exact s311 _ _ hn3), by simp, fun H12 s12 => ?_⟩
    walk_at "s"
    refine ⟨x2, d2, p2, nl, ts2, rs2, (List.range 9).map (nameOf (cel ns 0)), rfl, T2.same (Same.trans s811 s12), SqL.of (s12 _ _ (s311 _ _ hp2)), rows_same (Same.trans s311 s12) hr2, g2, by omega, SqL.of (by rw [List.map_map]; exact s12 _ _ (s311 _ _ hn3)), by simp, fun H13 s13 => ?_⟩
    have s313 := Same.trans s311 (Same.trans s12 s13)
    walk_at "s"
    refine ⟨(by show 2 ≤ sizeLine; decide), fun le hle => ?_⟩
    have s14 : Same H13 (upd H13 le (.lst [.ref p1, .ref p2])) := same_new hle
    have le_14 : upd H13 le (.lst [.ref p1, .ref p2]) le = some (.lst [.ref p1, .ref p2]) := upd_same
    revert s14 le_14
    generalize upd H13 le (.lst [.ref p1, .ref p2]) = H14
    intro s14 le_14
    have s1114 := Same.trans s12 (Same.trans s13 s14)
    have s314 := Same.trans s313 s14
    have hr1e := rows_same s314 hr1_3
    have hr2e := rows_same s314 hr2
    have hp1e := s314 _ _ hp1_3
    have hp2e := s314 _ _ hp2
    have hul1e := s1114 _ _ (s11 _ _ (s10 _ _ hul1))
    have hul2e := s1114 _ _ (s11 _ _ hul2)
    have hur1e := rows_same (Same.trans s10 (Same.trans s11 s1114)) hur1
    have hur2e := rows_same (Same.trans s11 s1114) hur2
    have sh2 := shaped_two g1.ok g2.ok
    refine ⟨_, _, .lst (SqL.of (s1114 _ _ lt_11)) (.cons (.lst (SqL.of hul1e) (dp_rows g1.ok hur1e)) (.cons (.lst (SqL.of hul2e) (dp_rows g2.ok hur2e)) .nil)),
      .lst (SqL.of le_14) (.cons (.lst (SqL.of hp1e) (dp_rows g1.ok hr1e)) (.cons (.lst (SqL.of hp2e) (dp_rows g2.ok hr2e)) .nil)), sh2, sh2, ?_⟩
    rw [eqv_self sh2]
    have sr1 := shaped_rows g1.ok
    have sr2 := shaped_rows g2.ok
    have s614 := Same.trans s7 (Same.trans s8 (Same.trans s811 s1114))
    have lo_14 := s614 _ _ lo_6
    have h0_14 := s614 _ _ (s6 _ _ h0_5)
    have h1_14 := s614 _ _ (s6 _ _ h1_5)
    walk_at "s"
    refine ⟨_, _, _, _, rfl, rfl, SqL.of lo_14, rfl, ?_⟩
    walk_at "s"
    refine ⟨_, _, .lst (SqL.of h0_14) (dp_rows g1.ok hr1e), .lst (SqL.of hp1e) (dp_rows g1.ok hr1e), sr1, sr1, ?_⟩
    rw [eqv_self sr1]
    walk_at "s"
    refine ⟨_, _, _, _, rfl, rfl, SqL.of lo_14, rfl, ?_⟩
    walk_at "s"
    refine ⟨_, _, .lst (SqL.of h1_14) (dp_rows g2.ok hr2e), .lst (SqL.of hp2e) (dp_rows g2.ok hr2e), sr2, sr2, ?_⟩
    rw [eqv_self sr2]
    walk_at "s"
    refine ⟨_, _, _, _, rfl, rfl, SqL.of lo_14, rfl, ?_⟩
    refine ⟨.inl ⟨rfl, _, SqL.of h0_14⟩, _, _, rfl, rfl, h0_14, ?_⟩
    have b15 : SameB h0 H14 (upd H14 h0 (.lst [])) := fun b o nb e => by rw [upd_ne nb]; exact e
    revert b15
    generalize upd H14 h0 (.lst []) = H15
    intro b15
    have n01 : h1' ≠ h0 := fun z => by rw [z, h0_4] at hh1; cases hh1
    have n0l : lo ≠ h0 := fun z => by rw [z, h0_5] at hlo; cases hlo
    have lo_15 := b15 _ _ n0l lo_14
    have h1_15 := b15 _ _ n01 h1_14
    walk_at "s"
    refine ⟨_, _, _, _, rfl, rfl, SqL.of lo_15, rfl, ?_⟩
    refine ⟨.inl ⟨rfl, _, SqL.of h1_15⟩, ?_⟩
    walk_at "s"
    refine ⟨(by show 3 ≤ sizeLine; decide), fun tt htt => ?_⟩
    have s16 : Same H15 (upd H15 tt (.tup [.str (Str.ofString "x"), .str (Str.ofString "y"), .int 1])) := same_new htt
    revert s16
    generalize upd H15 tt (.tup [.str (Str.ofString "x"), .str (Str.ofString "y"), .int 1]) = H16
    intro s16
    have h1_16 := s16 _ _ h1_15
    refine ⟨_, _, _, rfl, rfl, h1_16, szlt (by rw [List.length_map]; omega), ?_⟩
    have b17 : SameB h1' H16 (upd H16 h1' (.lst (ts2.map V.ref ++ [.ref tt]))) := fun b o nb e => by rw [upd_ne nb]; exact e
    revert b17
    generalize upd H16 h1' (.lst (ts2.map V.ref ++ [.ref tt])) = H17
    intro b17
    -- what stood at H3 is neither of the two lists
    have old : ∀ b o, H3 b = some o → H17 b = some o := fun b o e => by
      have n0 : b ≠ h0 := ne_of_none e hh0
      have n1 : b ≠ h1' := ne_of_none (s4 _ _ e) hh1
      exact b17 _ _ n1 (s16 _ _ (b15 _ _ n0 (s314 _ _ e)))
    have tar : ∀ p d rs, TarAt a.Tariff H14 p d rs → TarAt a.Tariff H17 p d rs := fun p d rs t => t.keep fun b o hb e => by
      have kind : b ≠ h0 ∧ b ≠ h1' := by
        obtain ⟨dz, oz⟩ := t.ob
        rcases hb with rfl | rfl
        · exact ⟨ne_of oz h0_14 (by intro z; cases z), ne_of oz h1_14 (by intro z; cases z)⟩
        · exact ⟨ne_of t.dc h0_14 (by intro z; cases z), ne_of t.dc h1_14 (by intro z; cases z)⟩
      exact b17 _ _ kind.2 (s16 _ _ (b15 _ _ kind.1 e))
    have hP17 := old _ _ hP3
    walk_at "s"
    refine ⟨x1, d1, p1, nl, ts1, rs1, (List.range 9).map (nameOf (cel ns 0)), rfl, tar _ _ _ (T1_8.same (Same.trans s811 s1114)), SqL.of (old _ _ hp1_3), Paired.mapP hr1_3 fun t r e => old _ _ e, g1, by omega, SqL.of (by rw [List.map_map]; exact old _ _ hn3), by simp, fun H18 s18 => ?_⟩
    walk_at "s"
    refine ⟨x2, d2, p2, nl, ts2, rs2, (List.range 9).map (nameOf (cel ns 0)), rfl, (tar _ _ _ (T2.same (Same.trans s811 s1114))).same s18, SqL.of (s18 _ _ (old _ _ hp2)), Paired.mapP hr2 fun t r e => s18 _ _ (old _ _ e), g2, by omega, SqL.of (by rw [List.map_map]; exact s18 _ _ (old _ _ hn3)), by simp, fun H19 s19 => ?_⟩
    exact q _ (s19 _ _ (s18 _ _ hP17))
end
end Fb

namespace Fb
open PySem PySem.Spec PyProof.Rows L2
theorem all_mk {w : World} {K : PySem.W.Frag} {h : Heap} {mg : Str → Option Value} {fa cFareError cBadPlace cBadPrice cTwiceTold cTooMany cTariff f_is_place f_is_price f_Tariff_put f_Tariff_init f_Tariff_price f_Tariff_told f__law_cell_at f__law_names f__law_rows f__law_good f_law c_is_place P_is_place : Addr} {l : PySem.W.OpenLaw} (X : K.In h) (G : h.Ns mainGlobals mg) (hfa : mg "law" = some (.ref fa)) (tabs : ∀ g ∈ (["is_place"] : List Str), TabN mg h g)
    (hFareError : EA K "FareError" cFareError) (hBadPlace : EA K "BadPlace" cBadPlace) (hBadPrice : EA K "BadPrice" cBadPrice) (hTwiceTold : EA K "TwiceTold" cTwiceTold)
    (hTooMany : EA K "TooMany" cTooMany) (sBadPlace : PySem.W.subIn K (.ref cBadPlace) (.ref cFareError) = some true) (sBadPrice : PySem.W.subIn K (.ref cBadPrice) (.ref cFareError) = some true) (sTwiceTold : PySem.W.subIn K (.ref cTwiceTold) (.ref cFareError) = some true)
    (sTooMany : PySem.W.subIn K (.ref cTooMany) (.ref cFareError) = some true) (sBadPlace_BadPrice : PySem.W.subIn K (.ref cBadPlace) (.ref cBadPrice) = some false) (nBadPlace_BadPrice : (Value.ref cBadPlace == Value.ref cBadPrice) = false) (sBadPlace_TwiceTold : PySem.W.subIn K (.ref cBadPlace) (.ref cTwiceTold) = some false)
    (nBadPlace_TwiceTold : (Value.ref cBadPlace == Value.ref cTwiceTold) = false) (sBadPlace_TooMany : PySem.W.subIn K (.ref cBadPlace) (.ref cTooMany) = some false) (nBadPlace_TooMany : (Value.ref cBadPlace == Value.ref cTooMany) = false) (sBadPrice_BadPlace : PySem.W.subIn K (.ref cBadPrice) (.ref cBadPlace) = some false)
    (nBadPrice_BadPlace : (Value.ref cBadPrice == Value.ref cBadPlace) = false) (sBadPrice_TwiceTold : PySem.W.subIn K (.ref cBadPrice) (.ref cTwiceTold) = some false) (nBadPrice_TwiceTold : (Value.ref cBadPrice == Value.ref cTwiceTold) = false) (sBadPrice_TooMany : PySem.W.subIn K (.ref cBadPrice) (.ref cTooMany) = some false)
    (nBadPrice_TooMany : (Value.ref cBadPrice == Value.ref cTooMany) = false) (sTwiceTold_BadPlace : PySem.W.subIn K (.ref cTwiceTold) (.ref cBadPlace) = some false) (nTwiceTold_BadPlace : (Value.ref cTwiceTold == Value.ref cBadPlace) = false) (sTwiceTold_BadPrice : PySem.W.subIn K (.ref cTwiceTold) (.ref cBadPrice) = some false)
    (nTwiceTold_BadPrice : (Value.ref cTwiceTold == Value.ref cBadPrice) = false) (sTwiceTold_TooMany : PySem.W.subIn K (.ref cTwiceTold) (.ref cTooMany) = some false) (nTwiceTold_TooMany : (Value.ref cTwiceTold == Value.ref cTooMany) = false) (sTooMany_BadPlace : PySem.W.subIn K (.ref cTooMany) (.ref cBadPlace) = some false)
    (nTooMany_BadPlace : (Value.ref cTooMany == Value.ref cBadPlace) = false) (sTooMany_BadPrice : PySem.W.subIn K (.ref cTooMany) (.ref cBadPrice) = some false) (nTooMany_BadPrice : (Value.ref cTooMany == Value.ref cBadPrice) = false) (sTooMany_TwiceTold : PySem.W.subIn K (.ref cTooMany) (.ref cTwiceTold) = some false)
    (nTooMany_TwiceTold : (Value.ref cTooMany == Value.ref cTwiceTold) = false) (hTariff : CA K "Tariff" cTariff) (naP : PySem.W.findIn K (.ref cTariff) "_prices" = some none) (gLONGEST_PLACE : ∃ t, PySem.W.nsIn K mainGlobals "LONGEST_PLACE" = some (some (.int 12 t)))
    (gHIGHEST_PRICE : ∃ t, PySem.W.nsIn K mainGlobals "HIGHEST_PRICE" = some (some (.int 1000000000000 t))) (gMOST_ROWS : ∃ t, PySem.W.nsIn K mainGlobals "MOST_ROWS" = some (some (.int 160 t))) (n_len : PySem.W.nsIn K mainGlobals "len" = some none) (n_int : PySem.W.nsIn K mainGlobals "int" = some none)
    (n_str : PySem.W.nsIn K mainGlobals "str" = some none) (n_list : PySem.W.nsIn K mainGlobals "list" = some none) (n_tuple : PySem.W.nsIn K mainGlobals "tuple" = some none) (n_dict : PySem.W.nsIn K mainGlobals "dict" = some none)
    (n_isinstance : PySem.W.nsIn K mainGlobals "isinstance" = some none) (n_range : PySem.W.nsIn K mainGlobals "range" = some none) (n_enumerate : PySem.W.nsIn K mainGlobals "enumerate" = some none) (n_all : PySem.W.nsIn K mainGlobals "all" = some none)
    (n_any : PySem.W.nsIn K mainGlobals "any" = some none) (n_sum : PySem.W.nsIn K mainGlobals "sum" = some none) (n_min : PySem.W.nsIn K mainGlobals "min" = some none) (n_max : PySem.W.nsIn K mainGlobals "max" = some none)
    (n_abs : PySem.W.nsIn K mainGlobals "abs" = some none) (n_sorted : PySem.W.nsIn K mainGlobals "sorted" = some none) (n_zip : PySem.W.nsIn K mainGlobals "zip" = some none) (n_reversed : PySem.W.nsIn K mainGlobals "reversed" = some none)
    (n_bool : PySem.W.nsIn K mainGlobals "bool" = some none) (n_ValueError : PySem.W.nsIn K mainGlobals "ValueError" = some none) (h_is_place : FAC K "is_place" s_is_place f_is_place c_is_place P_is_place) (h_is_price : FA K "is_price" s_is_price f_is_price)
    (h_Tariff_put : FM K cTariff "put" "Tariff.put" s_Tariff_put f_Tariff_put) (h_Tariff_init : FM K cTariff "__init__" "Tariff.__init__" s_Tariff_init f_Tariff_init) (h_Tariff_price : FM K cTariff "price" "Tariff.price" s_Tariff_price f_Tariff_price) (h_Tariff_told : FM K cTariff "told" "Tariff.told" s_Tariff_told f_Tariff_told)
    (h__law_cell_at : FA K "_law_cell_at" s__law_cell_at f__law_cell_at) (h__law_names : FA K "_law_names" s__law_names f__law_names) (h__law_rows : FA K "_law_rows" s__law_rows f__law_rows) (h__law_good : FA K "_law_good" s__law_good f__law_good)
    (h_law : FA K "law" s_law f_law)
    : LawT l w K 6 63 "_law_script" mg fa h := by
  have e := hfa.symm.trans (PySem.W.mg_of X G h_law.a)
  cases e
  obtain ⟨a, ea⟩ : ∃ a : Ads, a = ⟨cFareError, cBadPlace, cBadPrice, cTwiceTold, cTooMany, 0, 0, 0, 0, 0, cTariff⟩ := ⟨_, rfl⟩
  have T : Txt K mg a := by
    rw [ea]
    exact { n_len := PySem.W.mg_none_of X G n_len, n_int := PySem.W.mg_none_of X G n_int, n_str := PySem.W.mg_none_of X G n_str, n_list := PySem.W.mg_none_of X G n_list, n_tuple := PySem.W.mg_none_of X G n_tuple, n_dict := PySem.W.mg_none_of X G n_dict, n_isinstance := PySem.W.mg_none_of X G n_isinstance, n_range := PySem.W.mg_none_of X G n_range, n_enumerate := PySem.W.mg_none_of X G n_enumerate, n_all := PySem.W.mg_none_of X G n_all, n_any := PySem.W.mg_none_of X G n_any, n_sum := PySem.W.mg_none_of X G n_sum, n_min := PySem.W.mg_none_of X G n_min, n_max := PySem.W.mg_none_of X G n_max, n_abs := PySem.W.mg_none_of X G n_abs, n_sorted := PySem.W.mg_none_of X G n_sorted, n_zip := PySem.W.mg_none_of X G n_zip, n_reversed := PySem.W.mg_none_of X G n_reversed, n_bool := PySem.W.mg_none_of X G n_bool, n_ValueError := PySem.W.mg_none_of X G n_ValueError, c_LONGEST_PLACE := FA.gint X G gLONGEST_PLACE, c_HIGHEST_PRICE := FA.gint X G gHIGHEST_PRICE, c_MOST_ROWS := FA.gint X G gMOST_ROWS, x_FareError := hFareError.exk X G, x_BadPlace := hBadPlace.exk X G, x_BadPrice := hBadPrice.exk X G, x_TwiceTold := hTwiceTold.exk X G, x_TooMany := hTooMany.exk X G, e_BadPlace := hFareError.exm sBadPlace, i_BadPlace := hBadPlace.exc, v_BadPlace := hBadPlace.kitV, k_BadPlace_BadPlace := kit_self, k_BadPlace_BadPrice := hBadPrice.kit sBadPlace_BadPrice nBadPlace_BadPrice, k_BadPlace_TwiceTold := hTwiceTold.kit sBadPlace_TwiceTold nBadPlace_TwiceTold, k_BadPlace_TooMany := hTooMany.kit sBadPlace_TooMany nBadPlace_TooMany, e_BadPrice := hFareError.exm sBadPrice, i_BadPrice := hBadPrice.exc, v_BadPrice := hBadPrice.kitV, k_BadPrice_BadPlace := hBadPlace.kit sBadPrice_BadPlace nBadPrice_BadPlace, k_BadPrice_BadPrice := kit_self, k_BadPrice_TwiceTold := hTwiceTold.kit sBadPrice_TwiceTold nBadPrice_TwiceTold, k_BadPrice_TooMany := hTooMany.kit sBadPrice_TooMany nBadPrice_TooMany, e_TwiceTold := hFareError.exm sTwiceTold, i_TwiceTold := hTwiceTold.exc, v_TwiceTold := hTwiceTold.kitV, k_TwiceTold_BadPlace := hBadPlace.kit sTwiceTold_BadPlace nTwiceTold_BadPlace, k_TwiceTold_BadPrice := hBadPrice.kit sTwiceTold_BadPrice nTwiceTold_BadPrice, k_TwiceTold_TwiceTold := kit_self, k_TwiceTold_TooMany := hTooMany.kit sTwiceTold_TooMany nTwiceTold_TooMany, e_TooMany := hFareError.exm sTooMany, i_TooMany := hTooMany.exc, v_TooMany := hTooMany.kitV, k_TooMany_BadPlace := hBadPlace.kit sTooMany_BadPlace nTooMany_BadPlace, k_TooMany_BadPrice := hBadPrice.kit sTooMany_BadPrice nTooMany_BadPrice, k_TooMany_TwiceTold := hTwiceTold.kit sTooMany_TwiceTold nTooMany_TwiceTold, k_TooMany_TooMany := kit_self, cl_Tariff := hTariff.cls, na_prices := naP }
  have eT : a.Tariff = cTariff := by rw [ea]
  obtain ⟨hT_is_place, hC_is_place⟩ := h_is_place.tab X G (tabs _ (by simp))
  obtain ⟨oc, od, kV, dc, pm, an, cd, ct, osl, lL, cL⟩ := h_law.l
  refine ⟨PySem.W.fnOf "law" "law" (defArgs s_law) (defBody s_law) (defScope s_law) .none kV dc pm an cd ct, [(c_is_place, P_is_place)], (spLaw K P_is_place), fun p hp => ?_, fun p hp => ?_, fun p hp => ?_, fun s u => .of_eq rfl, fun H b ns _ hbits hP hS => ?_, fun base hb hn hB => ?_⟩
  · simp only [List.mem_cons, List.not_mem_nil, or_false] at hp
    subst hp; exact hT_is_place
  · simp only [List.mem_cons, List.not_mem_nil, or_false] at hp
    subst hp; exact h_is_place.n
  · simp only [List.mem_cons, List.not_mem_nil, or_false] at hp
    subst hp; exact hC_is_place
  · refine ⟨b, ns, rfl, hS, hP (c_is_place, P_is_place) (by simp), fun H' q0 => ⟨fun p hp => ?_, rfl⟩⟩
    simp only [List.mem_cons, List.not_mem_nil, or_false] at hp
    subst hp; exact q0
  · have TB_is_place : GxR.TabB base mg c_is_place P_is_place := hB (c_is_place, P_is_place) (by simp)
    have D_is_place : Dn l.prog w K mg base 2 "is_place" ["thing"] (spIsPlace P_is_place) := h_is_place.dn X G (fun _ F => ok_is_place F T TB_is_place) (fun _ _ _ _ _ _ us hl => match us, hl with | [_], _ => rfl)
    have D_is_price : Dn l.prog w K mg base 1 "is_price" ["thing"] spIsPrice := h_is_price.dn X G (fun _ F => ok_is_price F T ) (fun _ _ _ _ _ _ us hl => match us, hl with | [_], _ => rfl)
    have D_Tariff_put : Dm l.prog w K mg base 3 a.Tariff "put" ["self", "here", "there", "price"] (spPut a P_is_place) := by
      rw [eT]
      exact h_Tariff_put.dm (fun _ F => by have z := ok_put (Pg := l.prog) (w := w) (base := base) F T D_is_place D_is_price; exact z) (fun _ _ _ _ _ _ us hl => match us, hl with | [_, _, _, _], _ => rfl)
    have D_Tariff_init : Dk l.prog w K mg base 4 "Tariff" a.Tariff ["self", "rows"] (spInit K a P_is_place) := by
      have z := h_Tariff_init.dk (Pg := l.prog) (w := w) (base := base) hTariff X G (fun _ F => ok_init F T D_Tariff_put) (fun _ _ _ _ _ _ us hl => match us, hl with | [_, _], _ => rfl)
      rw [eT]; exact z
    have D_Tariff_price : Dm l.prog w K mg base 1 a.Tariff "price" ["self", "here", "there"] (spPrice a) := by
      rw [eT]
      exact h_Tariff_price.dm (fun _ F => by have z := ok_price (Pg := l.prog) (w := w) (base := base) F T ; exact z) (fun _ _ _ _ _ _ us hl => match us, hl with | [_, _, _], _ => rfl)
    have D_Tariff_told : Dm l.prog w K mg base 1 a.Tariff "told" ["self"] (spTold a) := by
      rw [eT]
      exact h_Tariff_told.dm (fun _ F => by have z := ok_told (Pg := l.prog) (w := w) (base := base) F T ; exact z) (fun _ _ _ _ _ _ us hl => match us, hl with | [_], _ => rfl)
    have D__law_cell_at : Dn l.prog w K mg base 1 "_law_cell_at" ["_law_script", "_law_k"] (spCell K) := h__law_cell_at.dn X G (fun _ F => ok_cell F T ) (fun _ _ _ _ _ _ us hl => match us, hl with | [_, _], _ => rfl)
    have D__law_names : Dn l.prog w K mg base 1 "_law_names" ["_law_cell", "_law_many"] spNames := h__law_names.dn X G (fun _ F => ok_names F T ) (fun _ _ _ _ _ _ us hl => match us, hl with | [_, _], _ => rfl)
    have D__law_rows : Dn l.prog w K mg base 2 "_law_rows" ["_law_script", "_law_begin", "_law_names_here"] (spRows K) := h__law_rows.dn X G (fun _ F => ok_rows F T D__law_cell_at) (fun _ _ _ _ _ _ us hl => match us, hl with | [_, _, _], _ => rfl)
    have D__law_good : Dn l.prog w K mg base 2 "_law_good" ["_law_tariff", "_law_rows_here", "_law_names_here"] (spGood K a) := h__law_good.dn X G (fun _ F => ok_good F T D_Tariff_price D_Tariff_told) (fun _ _ _ _ _ _ us hl => match us, hl with | [_, _, _], _ => rfl)
    exact ok_law (fun_mk (st := s_law) lL cL h_law.k) T D__law_cell_at D__law_names D__law_rows D__law_good D_Tariff_init D_Tariff_told
end Fb
open PySem PySem.W PyProof.Rows
set_option maxRecDepth 100000 in
set_option maxHeartbeats 0 in
theorem PySem.Challenge.cw_farebreak_k01_told_prices_holds : PySem.Challenge.rw_farebreak_k01_told_prices.Holds := by
  w_on; o_law; k_head; (case hw => w_witness2)
  k_fill
  refine Fb.walk_tab (l := PySem.Challenge.rw_farebreak_k01_told_prices) (n := 63) (k := 6) (x := "_law_script") ["is_place"] rfl (by decide) rfl ⟨rfl, by decide, by decide⟩ (fun g hg => ?R) (fun w h Y => PySem.W.kIn_of Y) ?F
  case R =>
    simp only [List.mem_cons, List.not_mem_nil, or_false] at hg
    subst hg; first | decide +kernel | rfl
  case F =>
    intro w mg fa h Y KX G hmg tabs
    refine' Fb.all_mk (l := PySem.Challenge.rw_farebreak_k01_told_prices) KX G hmg tabs ?ahFareError ?ahBadPlace ?ahBadPrice ?ahTwiceTold ?ahTooMany ?asBadPlace ?asBadPrice ?asTwiceTold ?asTooMany ?asBadPlace_BadPrice ?anBadPlace_BadPrice ?asBadPlace_TwiceTold ?anBadPlace_TwiceTold ?asBadPlace_TooMany ?anBadPlace_TooMany ?asBadPrice_BadPlace ?anBadPrice_BadPlace ?asBadPrice_TwiceTold ?anBadPrice_TwiceTold ?asBadPrice_TooMany ?anBadPrice_TooMany ?asTwiceTold_BadPlace ?anTwiceTold_BadPlace ?asTwiceTold_BadPrice ?anTwiceTold_BadPrice ?asTwiceTold_TooMany ?anTwiceTold_TooMany ?asTooMany_BadPlace ?anTooMany_BadPlace ?asTooMany_BadPrice ?anTooMany_BadPrice ?asTooMany_TwiceTold ?anTooMany_TwiceTold ?ahTariff ?anaP ?agLONGEST_PLACE ?agHIGHEST_PRICE ?agMOST_ROWS ?an_len ?an_int ?an_str ?an_list ?an_tuple ?an_dict ?an_isinstance ?an_range ?an_enumerate ?an_all ?an_any ?an_sum ?an_min ?an_max ?an_abs ?an_sorted ?an_zip ?an_reversed ?an_bool ?an_ValueError ?ah_is_place ?ah_is_price ?ah_Tariff_put ?ah_Tariff_init ?ah_Tariff_price ?ah_Tariff_told ?ah__law_cell_at ?ah__law_names ?ah__law_rows ?ah__law_good ?ah_law
    (case ahFareError => exact Fb.EA.mk (by k_is) (by k_is) (by k_exc) (by k_is) (by k_is) (by k_is) (by k_is) (by k_is) (by k_is) (by k_is) (by k_is) (by k_is) (by k_is) (by k_is))
    (case ahBadPlace => exact Fb.EA.mk (by k_is) (by k_is) (by k_exc) (by k_is) (by k_is) (by k_is) (by k_is) (by k_is) (by k_is) (by k_is) (by k_is) (by k_is) (by k_is) (by k_is))
    (case ahBadPrice => exact Fb.EA.mk (by k_is) (by k_is) (by k_exc) (by k_is) (by k_is) (by k_is) (by k_is) (by k_is) (by k_is) (by k_is) (by k_is) (by k_is) (by k_is) (by k_is))
    (case ahTwiceTold => exact Fb.EA.mk (by k_is) (by k_is) (by k_exc) (by k_is) (by k_is) (by k_is) (by k_is) (by k_is) (by k_is) (by k_is) (by k_is) (by k_is) (by k_is) (by k_is))
    (case ahTooMany => exact Fb.EA.mk (by k_is) (by k_is) (by k_exc) (by k_is) (by k_is) (by k_is) (by k_is) (by k_is) (by k_is) (by k_is) (by k_is) (by k_is) (by k_is) (by k_is))
    (case asBadPlace => k_is)
    (case asBadPrice => k_is)
    (case asTwiceTold => k_is)
    (case asTooMany => k_is)
    (case asBadPlace_BadPrice => k_is)
    (case anBadPlace_BadPrice => first | rfl | decide)
    (case asBadPlace_TwiceTold => k_is)
    (case anBadPlace_TwiceTold => first | rfl | decide)
    (case asBadPlace_TooMany => k_is)
    (case anBadPlace_TooMany => first | rfl | decide)
    (case asBadPrice_BadPlace => k_is)
    (case anBadPrice_BadPlace => first | rfl | decide)
    (case asBadPrice_TwiceTold => k_is)
    (case anBadPrice_TwiceTold => first | rfl | decide)
    (case asBadPrice_TooMany => k_is)
    (case anBadPrice_TooMany => first | rfl | decide)
    (case asTwiceTold_BadPlace => k_is)
    (case anTwiceTold_BadPlace => first | rfl | decide)
    (case asTwiceTold_BadPrice => k_is)
    (case anTwiceTold_BadPrice => first | rfl | decide)
    (case asTwiceTold_TooMany => k_is)
    (case anTwiceTold_TooMany => first | rfl | decide)
    (case asTooMany_BadPlace => k_is)
    (case anTooMany_BadPlace => first | rfl | decide)
    (case asTooMany_BadPrice => k_is)
    (case anTooMany_BadPrice => first | rfl | decide)
    (case asTooMany_TwiceTold => k_is)
    (case anTooMany_TwiceTold => first | rfl | decide)
    (case ahTariff => exact Fb.CA.mk (by k_is) (by k_is) (by k_is) (by k_is) (by k_is) (by k_is) (by k_is))
    (case anaP => k_is)
    (case agLONGEST_PLACE => exact Fb.gi_mk (by k_is))
    (case agHIGHEST_PRICE => exact Fb.gi_mk (by k_is))
    (case agMOST_ROWS => exact Fb.gi_mk (by k_is))
    (case an_len => k_is)
    (case an_int => k_is)
    (case an_str => k_is)
    (case an_list => k_is)
    (case an_tuple => k_is)
    (case an_dict => k_is)
    (case an_isinstance => k_is)
    (case an_range => k_is)
    (case an_enumerate => k_is)
    (case an_all => k_is)
    (case an_any => k_is)
    (case an_sum => k_is)
    (case an_min => k_is)
    (case an_max => k_is)
    (case an_abs => k_is)
    (case an_sorted => k_is)
    (case an_zip => k_is)
    (case an_reversed => k_is)
    (case an_bool => k_is)
    (case an_ValueError => k_is)
    (case ah_is_place => exact Fb.fac_mk (by k_is) (by k_is) (by k_is) (by k_is) (by k_is) (by rfl) (by first | rfl | decide +kernel))
    (case ah_is_price => exact Fb.fa_mk (by k_is) (by k_is) (by k_is) (by k_is))
    (case ah_Tariff_put => exact Fb.fm_mk (by k_is) (by k_is) (by k_is) (by k_is) (by k_is))
    (case ah_Tariff_init => exact Fb.fm_mk (by k_is) (by k_is) (by k_is) (by k_is) (by k_is))
    (case ah_Tariff_price => exact Fb.fm_mk (by k_is) (by k_is) (by k_is) (by k_is) (by k_is))
    (case ah_Tariff_told => exact Fb.fm_mk (by k_is) (by k_is) (by k_is) (by k_is) (by k_is))
    (case ah__law_cell_at => exact Fb.fa_mk (by k_is) (by k_is) (by k_is) (by k_is))
    (case ah__law_names => exact Fb.fa_mk (by k_is) (by k_is) (by k_is) (by k_is))
    (case ah__law_rows => exact Fb.fa_mk (by k_is) (by k_is) (by k_is) (by k_is))
    (case ah__law_good => exact Fb.fa_mk (by k_is) (by k_is) (by k_is) (by k_is))
    (case ah_law => exact Fb.fa_mk (by k_is) (by k_is) (by k_is) (by k_is))
#print axioms PySem.Challenge.cw_farebreak_k01_told_prices_holds
