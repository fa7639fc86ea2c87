import PyProof.Rows.All
import Wide.All
import OpenK.AllK
import Wide.FinOn
import HandS.ForMost
import HandS.Exc
import HandS.ExcOwn
import HandS.TryOnly
import HandS.WordsExc
import HandS.FStr
import HandS.RaiseMore
import HandS.ExcIs
import HandS.IsInst
import HandS.AnyAll
import HandS.EndTab
import HandS.EndOwn
import HandS.Wide
import HandS.Evl
import HandS.Codes
import PySem.Challenge.RW_farebreak_k03_journeys
set_option Elab.async false
set_option linter.all false
set_option maxRecDepth 100000
set_option maxHeartbeats 2000000
/-! own tools over the hand layer -/
namespace Fb
open PySem PySem.Spec PyProof.Rows L2

/-! ### a code object's table as an object that only is what it is -/
def TabP (P : Addr) : Heap → Prop := fun h => ∃ ps : Array Value, h.get? P = some { cls := .none, data := .fields ps } ∧ TriplesOk ps.toList
def TabO (P : Addr) : HO := .ext (TabP P)
theorem tabO_ok {Pg : Program} {w : World} {H : Hp} {h : Heap} {P : Addr} {ps : Array Value} (e : h.get? P = some { cls := .none, data := .fields ps }) (t : TriplesOk ps.toList) : ObjOk Pg w H h P (TabO P) :=
  ⟨⟨ps, e, t⟩, ⟨_, e⟩, fun h1 h2 ⟨qs, e1, t1⟩ k => ⟨qs, k _ e1, t1⟩⟩
theorem mut_tabO {P : Addr} : Mut (some (TabO P)) := trivial
section
variable {X : Cx} {pins : List (Addr × Obj)} {σ : L2.St} {H H2 : Hp} {s s' : Shared} {P : Addr}
/-- from the table as such to the table by its fields -/
theorem tab_open (I : Inv X pins σ H s) (hP : H P = some (TabO P)) : ∃ ps : Array Value, TriplesOk ps.toList ∧ Inv X pins σ (upd H P (.tbl ps)) s := by
  obtain ⟨⟨ps, e, t⟩, _, _⟩ := I.hok P _ hP
  refine ⟨ps, t, ?_⟩
  have J := I.write (h' := s.heap) (t' := s.toks) (x := P) (e := P) (o := .tbl ps) (by rw [hP]; exact mut_tabO) (Or.inl rfl) (fun b u _ q => q) ⟨_, e⟩ (show ObjOk X.prog X.w _ s.heap P (.tbl ps) from e)
  exact J
theorem tab_shut (I : Inv X pins σ H s) (hP : H P = some (TabO P)) (J : Inv X pins σ H2 s') (hT : GxR.TabG H2 P) (hE : ∀ b, b ≠ P → H2 b = H b) : Inv X pins σ H s' := by
  obtain ⟨ps, hps, ht⟩ := hT
  have e : s'.heap.get? P = some { cls := .none, data := .fields ps } := J.hok P _ hps
  have at_ : ∀ b, H b = none → H2 b = none := fun b n => by rw [hE b (fun z => by rw [z, hP] at n; cases n)]; exact n
  have to_ : ∀ b, H2 b = none → H b = none := fun b n => by rw [← hE b (fun z => by rw [z, hps] at n; cases n)]; exact n
  refine ⟨J.ok, J.os, J.bare, ⟨J.base.keep, J.base.slot, fun b o h1 h2 h3 => to_ b (J.base.free b o h1 h2 h3), J.base.there, fun b xs h1 => ?_, fun b o u h1 => ?_, fun b qs h1 => ?_⟩, J.loc, J.cell, to_ _ J.free, fun x c h1 => to_ _ (J.freeC x c h1), fun p hp => ?_, fun a o ha => ?_, J.len⟩
  · have h2 := J.base.tups b xs h1
    have nb : b ≠ P := fun z => by rw [z, hps] at h2; cases h2
    rw [← hE b nb]; exact h2
  · have h2 := J.base.frzs b o u h1
    have nb : b ≠ P := fun z => by rw [z, hps] at h2; cases h2
    rw [← hE b nb]; exact h2
  · obtain ⟨m1, h2⟩ := I.base.tbls b qs h1
    have nb : b ≠ P := fun z => by rw [z, hP] at h2; cases h2
    obtain ⟨m2, h3⟩ := J.base.tbls b qs h1
    exact ⟨m2, by rw [← hE b nb]; exact h3⟩
  · obtain ⟨e1, n, r⟩ := J.pin p hp
    exact ⟨e1, to_ _ n, r⟩
  · by_cases hb : a = P
    · subst hb
      rw [hP] at ha; cases ha
      exact tabO_ok e ht
    · have ha2 : H2 a = some o := by rw [hE a hb]; exact ha
      refine (J.hok a o ha2).stay (fun d v _ q => q) (fun d q => ?_) fun d xs q => ?_
      · have nb : d ≠ P := fun z => by rw [z, hps] at q; cases q
        rw [← hE d nb]; exact q
      · have nb : d ≠ P := fun z => by rw [z, hps] at q; cases q
        rw [← hE d nb]; exact q
end
/-- an expression that reads a text and may let the table at P grow: seen from outside nothing changes -/
theorem pe_allP {X : Cx} {e : Expr} {P : Addr} {pb : Nat → Bool} {i : Nat} (h : PE X e (GxR.tAllS P pb (tVar i))) :
    PE X e (fun σ H Q => ∃ a : Str, σ[i]? = some (some (.str a)) ∧ H P = some (TabO P) ∧ Q (.bl (a.cps.toList.all pb)) H) := by
  refine ⟨fun pins s σ H Q I hq => ?_⟩
  obtain ⟨a, ha, hP, q⟩ := hq
  obtain ⟨ps, ht, J⟩ := tab_open I hP
  refine thn (h.run pins s σ (upd H P (.tbl ps)) (fun v H2 => v = .bl (a.cps.toList.all pb) ∧ GxR.Tabbed P (upd H P (.tbl ps)) H2) J ⟨.str a, ha, a, rfl, ⟨ps, upd_same, ht⟩, fun H2 hT => ⟨rfl, hT⟩⟩) fun u s1 ⟨v, H2, J2, r, ev, hT⟩ => ?_
  subst ev
  exact ⟨_, H, tab_shut I hP J2 hT.1 (fun b hb => (hT.2 b hb).trans (upd_ne hb)), r, q⟩
/-- 'a' <= sign <= 'z' -/
theorem elt_btw {prog : Program} {w : World} {scope : Scope} {x a b : Str} {j1 j2 : Nat} {p1 p2 p3 p4 : Pos} (hk : scope.kind = .function) (hl : scope.names.lookup x = some .local) (hd : (x == ("__debug__" : Str)) = false := by decide) :
    GxR.EltP prog w scope x (.Compare (.Constant (.str a) j1 p1) [.LtE, .LtE] [.Name x p2, .Constant (.str b) j2 p3] p4) (fun c => !decide ([c] < a.cps.toList) && !decide (b.cps.toList < [c])) := by
  intro cenv A' E' c t s₂ m₂ hs hn hm
  refine Compare_chain (Calls.Constant_str (chain_link ?_)) (by with_unfolding_all rfl)
  refine wpAny_Name (wpAny_loadName_local (by rw [hs]; exact hk) (show cenv.scope.names.lookup x = some .local by rw [hs]; exact hl) (show Heap.Ns _ cenv.locals m₂ from hn) hm ?_) hd
  refine PySem.P.le_str ?_
  refine wpAny_truthy_bool ?_
  show if (!decide (([c] : List Nat) < a.cps.toList)) = true then _ else _
  cases h1 : decide (([c] : List Nat) < a.cps.toList) with
  | true => exact ⟨(by show Value.bool (!true) = Value.bool (!decide (([c] : List Nat) < a.cps.toList) && !decide (b.cps.toList < [c])); rw [h1]; rfl), GxR.keeps_tok _ _⟩
  | false =>
    show wpAny _ _ _ _ _ _
    refine chain_last (Calls.Constant_str (PySem.P.le_str ⟨?_, GxR.keeps_tok _ _⟩))
    show Value.bool (!decide (b.cps.toList < ([c] : List Nat))) = Value.bool (!decide (([c] : List Nat) < a.cps.toList) && !decide (b.cps.toList < [c]))
    rw [h1]; rfl

/-! ### texts -/
theorem op_repS {X : Cx} : OpR X (binaryOp .Mult) (fun x y H Q => ∃ z n, x = .str z ∧ y = .int n ∧ MulOk z n ∧ Q (.str (Txt.mul z n)) H) := by
  intro pins s σ H x y v u Q I rx ry h
  obtain ⟨z, n, rfl, rfl, hok, q⟩ := h
  obtain ⟨t, rfl⟩ := rx
  obtain ⟨t', rfl⟩ := ry
  exact SB.mul hok fun t'' k => ⟨.str _, H, I.tok _, ⟨_, rfl⟩, q⟩
theorem mulOk_small {z : Str} {n : Int} (h0 : 0 ≤ n) (h1 : n ≤ 1000) (hz : z.length ≤ 1000) : MulOk z n := by
  refine ⟨?_, fun h2 _ => ?_, fun h2 _ => ?_⟩
  · rw [decide_eq_false (by omega), decide_eq_false (by omega)]; rfl
  · have h3 : (9223372036854775807 : Int) / n ≥ 9223372036854775 := by
      have h4 : (9223372036854775 : Int) * n ≤ 9223372036854775807 := by omega
      exact (Int.le_ediv_iff_mul_le (by omega)).mpr h4
    have h5 : ((2 : Int) ^ 63 - 1) = 9223372036854775807 := by decide
    rw [h5]
    omega
  · unfold Builtin.Str.tooLong
    refine decide_eq_false ?_
    rw [sizeLine_eq]
    have h6 : z.length * n.toNat ≤ 1000 * 1000 := Nat.mul_le_mul hz (by omega)
    omega
theorem foldl_app_size (x : Array Nat) : ∀ (n : Nat) (acc : Array Nat), ((List.replicate n x).foldl (· ++ ·) acc).size = acc.size + n * x.size
  | 0, acc => by simp
  | n + 1, acc => by
    rw [List.replicate_succ, List.foldl_cons, foldl_app_size x n (acc ++ x), Array.size_append, Nat.succ_mul]
    omega
theorem mul_length (z : Str) (n : Int) (h0 : 0 ≤ n) : (Txt.mul z n).length = z.length * n.toNat := by
  unfold Txt.mul
  by_cases h1 : n < 1
  · rw [if_pos h1]
    have e : n = 0 := by omega
    subst e
    show Str.empty.length = _
    simp [Str.empty, Str.length]
  · rw [if_neg h1]
    by_cases h2 : (n == 1 || z.length == 0) = true
    · rw [if_pos h2]
      rcases Bool.or_eq_true_iff.mp h2 with h3 | h3
      · have e : n = 1 := by simpa using h3
        subst e; simp
      · have e : z.length = 0 := by simpa using h3
        rw [e]; simp
    · rw [if_neg h2]
      show ((List.replicate n.toNat z.cps).foldl (· ++ ·) #[]).size = z.cps.size * n.toNat
      rw [foldl_app_size]
      simp [Nat.mul_comm]

/-! ### a module's whole number -/
theorem pe_gint {X : Cx} {x : Str} {i : Int} {pos : Pos} (h : ∃ t, X.mg x = some (.int i t)) (hg : Gl X x) (hd : (x == ("__debug__" : Str)) = false := by decide) : PE X (.Name x pos) (tC (.int i)) := by
  obtain ⟨t, e⟩ := h
  exact pe_glob hg e ⟨t, rfl⟩ hd

/-! ### own defs, ready to be called -/
structure Dn (Pg : Program) (w : World) (K : PySem.W.Frag) (mg : Str → Option Value) (base : Heap) (k : Nat) (x : Str) (ps : List Str) (sp : Sp) : Prop where
  ex : ∃ f fd, FnOk Pg w K mg base (L2.CX Pg w) k f fd ps sp ∧ mg x = some (.ref f) ∧ PySem.W.keepIn K (.ref f) = true ∧ Binds K fd ps []
section
variable {X : Cx} {k : Nat} {x : Str} {ps : List Str} {sp : Sp} {p pos : Pos} {e : Expr} {es : List Expr} {t : TA}
theorem pe_fnE {E : XK} (D : Dn X.prog X.w X.K X.mg X.base k x ps sp) (hr : Room k X.A) (hx : Passes (L2.CX X.prog X.w) X E) (ha : PA X (e :: es) t) (hg : Gl X x := by rfl)
    (hdb : (x == ("__debug__" : Str)) = false := by decide) (he : starEach (e :: es) X.env = (false, eval e X.env) :: starEach es X.env := by rfl) (hpl : (backTo pos (starEach es X.env)).any (·.1) = false := by rfl) :
    PE X (.Call (.Name x p) (e :: es) [] pos) (tCall sp [] E t) := by
  obtain ⟨f, fd, F, hm, hk, hb⟩ := D.ex
  exact pe_call F hr hg hm hk hb .nil hx ha hdb he hpl
/-- a def that raises nothing that is wished -/
theorem pe_fn (D : Dn X.prog X.w X.K X.mg X.base k x ps sp) (hr : Room k X.A) (ha : PA X (e :: es) t) (hg : Gl X x := by rfl)
    (hdb : (x == ("__debug__" : Str)) = false := by decide) (he : starEach (e :: es) X.env = (false, eval e X.env) :: starEach es X.env := by rfl) (hpl : (backTo pos (starEach es X.env)).any (·.1) = false := by rfl) :
    PE X (.Call (.Name x p) (e :: es) [] pos) (tCall sp [] E0 t) := pe_fnE D hr passL ha hg hdb he hpl
/-- in a try's body -/
theorem pe_fnS {E : L2.St → XK} (D : Dn X.prog X.w X.K X.mg X.base k x ps sp) (hr : Room k X.A) (hx : ∀ σ, PassesAt (L2.CX X.prog X.w) X σ (E σ)) (ha : PA X (e :: es) t) (hg : Gl X x := by rfl)
    (hdb : (x == ("__debug__" : Str)) = false := by decide) (he : starEach (e :: es) X.env = (false, eval e X.env) :: starEach es X.env := by rfl) (hpl : (backTo pos (starEach es X.env)).any (·.1) = false := by rfl) :
    PE X (.Call (.Name x p) (e :: es) [] pos) (tCallS sp E t) := by
  obtain ⟨f, fd, F, hm, hk, hb⟩ := D.ex
  exact pe_callS F hr hg hm hk hb hx ha hdb he hpl
end

/-! ### own error classes -/
structure ExK (K : PySem.W.Frag) (mg : Str → Option Value) (x : Str) (C : Addr) (bm : List Value) : Prop where
  g : mg x = some (.ref C)
  k : PySem.W.keepIn K (.ref C) = true
  x : PySem.W.excIn K C bm "ValueError.__new__" = true
  b : PySem.W.subIn K (.ref C) (.type "BaseException") = some true
  t : PySem.W.typeIn K (.ref C) = some (.type "type")
/-- isinstance(e, c) in a suite -/
def rIsG (K : PySem.W.Frag) (a : Addr) (cls : Value) (d : Option Addr) : List V → Hp → VK → Prop := fun xs H Q => ∃ (D : Addr) (c : V) (cv : Value) (b : Bool), xs = [.ref a, c] ∧ cls = .ref D ∧ d = none ∧ ExcC K D ∧ (∀ u, RelV c u → u = cv) ∧ PySem.W.kitOne K (.ref D) cv = some b ∧ Q (.bl b) H
theorem call_isG {X : Cx} {a : Addr} {cls : Value} {d : Option Addr} {oe : Obj} {pn : List (Addr × Obj)} (hz : Zc cls d oe) (hf : ∃ vs, oe.data = .fields vs) : CallR (X.suite a ((a, oe) :: pn)) (.builtin "isinstance") (rIsG X.K a cls d) := by
  intro pins s σ H xs us Q I r h
  obtain ⟨D, c, cv, b, e1, e2, e3, C, hcv, e, q⟩ := h
  subst e2 e3
  exact call_isE C hz hf pins s σ H xs us Q I r ⟨c, cv, b, e1, hcv, e, q⟩

/-! ### heaps -/
theorem same_new {H : Hp} {p : Addr} {o : HO} (h : H p = none) : Same H (upd H p o) := fun b u e => by
  rw [upd_ne (ne_of_none e h)]; exact e
theorem same_mut {H H' : Hp} {p : Addr} {o : HO} (s : Same H H') (h : H p = none) : Same H (upd H' p o) := fun b u e => by
  rw [upd_ne (ne_of_none e h)]; exact s b u e
theorem same_t {K : PySem.W.Frag} {H H' : Hp} {a : Addr} {xs : List V} (e : Same H H') (h : SqT K H a xs) : SqT K H' a xs := by
  rcases h with (h | ⟨o, h⟩) | h
  · exact .inl (.inl (e _ _ h))
  · exact .inl (.inr ⟨o, e _ _ h⟩)
  · exact .inr h
mutual
theorem Dp.same {K : PySem.W.Frag} {H H' : Hp} (s : Same H H') : ∀ {d : PyData} {v : V}, Dp K H v d → Dp K H' v d
  | _, _, .non => .non
  | _, _, .bl b => .bl b
  | _, _, .int i => .int i
  | _, _, .str x => .str x
  | _, _, .lst h ha => .lst (s.seq h) (DpAll.same s ha)
  | _, _, .tup h ha => .tup (same_t s h) (DpAll.same s ha)
theorem DpAll.same {K : PySem.W.Frag} {H H' : Hp} (s : Same H H') : ∀ {ds : List PyData} {vs : List V}, DpAll K H vs ds → DpAll K H' vs ds
  | _, _, .nil => .nil
  | _, _, .cons h ha => .cons (Dp.same s h) (DpAll.same s ha)
end
theorem szl {n : Nat} (h : n ≤ 100000) : n ≤ sizeLine := Nat.le_trans h (by decide)
theorem szlt {n : Nat} (h : n < 100000) : n < sizeLine := Nat.lt_of_lt_of_le h (by decide)
end Fb

namespace Fb
open PySem PySem.Spec PyProof.Rows L2
/-! ### the law's own call: the tables are shut -/
def shut (Ps : List Addr) (H : Hp) : Hp := fun b => if b ∈ Ps then some (TabO b) else H b
theorem shut_in {Ps : List Addr} {H : Hp} {b : Addr} (h : b ∈ Ps) : shut Ps H b = some (TabO b) := if_pos h
theorem shut_out {Ps : List Addr} {H : Hp} {b : Addr} (h : b ∉ Ps) : shut Ps H b = H b := if_neg h
def reopen (Ps : List Addr) (h : Heap) (H : Hp) : Hp := fun b => if b ∈ Ps then (match h.get? b with | some o => (match o.data with | .fields ps => some (.tbl ps) | _ => H b) | none => H b) else H b
theorem reopen_in {Ps : List Addr} {h : Heap} {H : Hp} {b : Addr} {ps : Array Value} (hb : b ∈ Ps) (e : h.get? b = some { cls := .none, data := .fields ps }) : reopen Ps h H b = some (.tbl ps) := by
  unfold reopen
  rw [if_pos hb, e]
theorem reopen_out {Ps : List Addr} {h : Heap} {H : Hp} {b : Addr} (hb : b ∉ Ps) : reopen Ps h H b = H b := if_neg hb
theorem FnOk.tabs {Pg : Program} {w : World} {K : PySem.W.Frag} {mg : Str → Option Value} {base : Heap} {k : Nat} {f : Addr} {fd : FuncData} {ps : List Str} {sp : Sp} {Ps : List Addr} (F : FnOk Pg w K mg base (L2.CX Pg w) k f fd ps sp) :
    FnOk Pg w K mg base (L2.CX Pg w) k f fd ps (fun vs H Q E => (∀ p ∈ Ps, H p = some (.tbl #[])) ∧ sp vs (shut Ps H) (fun v H' => (∀ p ∈ Ps, H' p = some (TabO p)) ∧ ∀ H2, Q v H2) (fun _ _ _ => False)) := by
  refine ⟨fun vs H Q E q => F.len _ _ _ _ q.2, fun A outer s H args us vs Q E hr he hb hv hs => ?_⟩
  obtain ⟨hT, hs⟩ := hs
  have tabs : ∀ p ∈ Ps, s.heap.get? p = some { cls := .none, data := .fields #[] } := fun p hp => he.hok p _ (hT p hp)
  have nb : ∀ b u, H b = some u → (∀ q, u ≠ .tbl q) → b ∉ Ps := fun b u e h1 hp => by
    rw [hT b hp] at e
    cases e
    exact h1 _ rfl
  have nn : ∀ b, H b = none → b ∉ Ps := fun b e hp => by rw [hT b hp] at e; cases e
  have he' : Env0 Pg w K mg base A outer s (shut Ps H) := by
    refine ⟨he.frames, he.mod, fun b o e => ⟨(he.bs b o e).1, by rw [shut_out (nn b (he.bs b o e).2)]; exact (he.bs b o e).2⟩, he.bsz, he.funs, fun b hb => by rw [shut_out (nn b (he.frf b hb))]; exact he.frf b hb, fun a o e => ?_, he.bare⟩
    by_cases ha : a ∈ Ps
    · rw [shut_in ha] at e
      cases e
      exact tabO_ok (tabs a ha) trivial
    · rw [shut_out ha] at e
      refine (he.hok a o e).stay (fun d v _ q => q) (fun d q => ?_) fun d xs q => ?_
      · rw [shut_out (nb d _ q fun _ z => nomatch z)]; exact q
      · rw [shut_out (nb d _ q fun _ z => nomatch z)]; exact q
  refine codeAny_mono (F.run A outer s (shut Ps H) args us vs _ _ hr he' hb hv hs) fun r s' h => ?_
  cases r with
  | error e =>
    obtain ⟨_, _, _, _, _, _, _, _, _, _, _, _, z⟩ := h
    exact z.elim
  | ok fl =>
    cases fl with
    | next => exact False.elim h
    | brk => exact False.elim h
    | cont => exact False.elim h
    | ret u =>
      obtain ⟨v, H', os, bare, un, hok, r, hP, q⟩ := h
      have tb : ∀ p ∈ Ps, ∃ ps : Array Value, s'.heap.get? p = some { cls := .none, data := .fields ps } := fun p hp => by
        obtain ⟨⟨qs, e, _⟩, _, _⟩ := hok p _ (hP p hp)
        exact ⟨qs, e⟩
      have n2 : ∀ b u, H' b = some u → (∀ a, u ≠ TabO a) → b ∉ Ps := fun b u e h1 hp => by
        rw [hP b hp] at e
        cases e
        exact h1 _ rfl
      refine ⟨v, reopen Ps s'.heap H', os, bare, ⟨fun b o e n => un.keep b o e (by rw [shut_out (nn b n)]; exact n), fun b o e n => un.slot b o e (by rw [shut_out (nn b n)]; exact n), fun b o e n hx => ?_, un.there, fun b xs e => ?_, fun b o u e => ?_, fun b qs e => ?_⟩, fun a o e => ?_, r, q _⟩
      · rw [reopen_out (nn b n)]
        exact un.free b o e (by rw [shut_out (nn b n)]; exact n) hx
      · have h1 := nb b _ e fun _ z => nomatch z
        rw [reopen_out h1]
        exact un.tups b xs (by rw [shut_out h1]; exact e)
      · have h1 := nb b _ e fun _ z => nomatch z
        rw [reopen_out h1]
        exact un.frzs b o u (by rw [shut_out h1]; exact e)
      · by_cases hb : b ∈ Ps
        · rw [hT b hb] at e
          cases e
          obtain ⟨ps, e2⟩ := tb b hb
          exact ⟨ps, by rw [reopen_in hb e2]; simp⟩
        · rw [reopen_out hb]
          exact un.tbls b qs (by rw [shut_out hb]; exact e)
      · by_cases ha : a ∈ Ps
        · obtain ⟨ps, e2⟩ := tb a ha
          rw [reopen_in ha e2] at e
          cases e
          exact e2
        · rw [reopen_out ha] at e
          refine (hok a o e).stay (fun d v _ q => q) (fun d q => ?_) fun d xs q => ?_
          · rw [reopen_out (n2 d _ q fun _ z => nomatch z)]; exact q
          · rw [reopen_out (n2 d _ q fun _ z => nomatch z)]; exact q

/-! ### the end -/
/-- what the ground says of a def's table -/
def TabN (mg : Str → Option Value) (h : Heap) (x : Str) : Prop := ∃ (a c P : Addr) (o : Obj) (fd : FuncData), mg x = some (.ref a) ∧ h.get? a = some o ∧ o.data = .func fd ∧ fd.code = .ref c ∧ PySem.W.CodeHd h c P ∧ h.get? P = some { cls := .none, data := .fields #[] } ∧ ∃ oc vc, h.get? c = some oc ∧ oc.data = .fields vc ∧ vc[11]? = some (.ref P)
/-- what is to be shown of the law at the head's heap -/
def LawT (l : PySem.W.OpenLaw) (w : World) (K : PySem.W.Frag) (k n : Nat) (x : Str) (mg : Str → Option Value) (fa : Addr) (h : Heap) : Prop :=
  ∃ (fd : FuncData) (cs : List (Addr × Addr)) (sp : Sp), (∀ p ∈ cs, h.get? p.2 = some { cls := .none, data := .fields #[] }) ∧ (∀ p ∈ cs, K.lookup p.2 = none) ∧ (∀ p ∈ cs, PySem.W.CodeHd h p.1 p.2) ∧ (∀ (s : Shared) (u : Value), BindsTo s fd ⟨[u], []⟩ [(x, u)]) ∧
    (∀ (H : Hp) (a : Addr) (ns : List Int), ns.length ≤ n → (∀ z ∈ ns, Builtin.Int.intBits z ≤ 1048576) → (∀ p ∈ cs, H p.2 = some (TabO p.2)) → SqL K H a (ns.map V.int) → sp [.ref a] H (fun v H' => (∀ p ∈ cs, H' p.2 = some (TabO p.2)) ∧ v = .bl true) fun _ _ _ => False) ∧
    ∀ base : Heap, K.In base → base.Ns mainGlobals mg → (∀ p ∈ cs, GxR.TabB base mg p.1 p.2) → FnOk l.prog w K mg base (L2.CX l.prog w) k fa fd [x] sp
theorem walk_tab {l : PySem.W.OpenLaw} {n k : Nat} {q : Program} {loose : List Str} {XP : (Str → Option Value) → Heap → Prop} {YP : World → Heap → Prop} {d : DefRec} {K : Params → PySem.W.Frag} {x : Str} (gs : List Str)
    (hn : l.most = some n) (hn2 : n ≤ sizeLine) (hdf : d.params.defaults = []) (hr : Room k callerA) (hrec : ∀ g ∈ gs, ((recsOf q).any fun e => e.name == g) = true) (hY : ∀ (w : World) (h : Heap), YP w h → (K w.params).In h)
    (F : ∀ (w : World) (mg : Str → Option Value) (fa : Addr) (h : Heap), YP w h → (K w.params).In h → h.Ns mainGlobals mg → mg d.name = some (.ref fa) → (∀ g ∈ gs, TabN mg h g) → LawT l w (K w.params) k n x mg fa h) :
    PySem.W.WalkO q loose XP YP l.row.toRowW d [] (fun f vs => PySem.call f vs) := by
  refine Att.attach_callB hn hdf fun w s₀ s₁ mg mb fa o pm cd doc a vs ns G Y ho hd hcd hmg hobj hints hlen hbits hg => ?_
  have KX := hY w _ Y
  have tabs : ∀ g ∈ gs, TabN mg s₁.heap g := fun g hgm => by
    obtain ⟨dL, hm, hn1⟩ := List.any_eq_true.mp (hrec g hgm)
    have hn2 : dL.name = g := beq_iff_eq.mp hn1
    obtain ⟨a', o', fd', c', P', h1, h2, h3, h4, h5, h6⟩ := G.T.tab dL hm
    rw [hn2] at h1
    obtain ⟨⟨oc, vc, e1, e2, e3, e4⟩, hP⟩ := id h6
    exact ⟨a', c', P', o', fd', h1, h2, h3, h4, PySem.W.CodeHd.of h5 h6, hP, oc, vc, e1, e3, e4⟩
  obtain ⟨fd, cs, sp, hT, nT, C, hb, hsp, hF⟩ := F w mg fa _ Y KX G.T.g hmg tabs
  refine LamX.law_callTs (CX := L2.CX l.prog w) (cs := cs) KX G.T.g G.T.b G.T.builtins G.T.nolimit hg hT nT C G.T.bmain hobj hints (Nat.le_trans hlen hn2) hr (fun base hK hN hB => FnOk.tabs (Ps := cs.map (·.2)) (hF base hK hN fun p hp => ⟨(hB p hp).code, (hB p hp).bm, (hB p hp).gP⟩)) hb (fun H hH hS => ⟨?ga, ?gb⟩) fun H e s' h => ?gc
  case ga =>
    intro p hp
    obtain ⟨y, hy, e⟩ := List.mem_map.mp hp
    rw [← e]; exact hH y hy
  case gb =>
    have na : a ∉ cs.map (·.2) := fun z => by
      obtain ⟨y, hy, e⟩ := List.mem_map.mp z
      have q := hT y hy
      rw [e, hobj] at q
      have z' : Data.seq vs.toArray _ = Data.fields #[] := congrArg Obj.data (Option.some.inj q)
      cases z'
    have hS' : SqL (K w.params) (shut (cs.map (·.2)) H) a (ns.map V.int) := by
      rcases hS with (z | ⟨o, z⟩) | z
      · exact .inl (.inl (by rw [shut_out na]; exact z))
      · exact .inl (.inr ⟨o, by rw [shut_out na]; exact z⟩)
      · exact .inr z
    have r := hsp (shut (cs.map (·.2)) H) a ns hlen hbits (fun p hp => shut_in (List.mem_map.mpr ⟨p, hp, rfl⟩)) hS'
    refine cast (congrArg (fun Q => sp [.ref a] (shut (cs.map (·.2)) H) Q fun _ _ _ => False) ?_) r
    funext v H'
    refine propext ⟨fun ⟨h1, h2⟩ => ⟨fun p hp => ?_, fun _ => h2⟩, fun ⟨h1, h2⟩ => ⟨fun p hp => h1 _ (List.mem_map.mpr ⟨p, hp, rfl⟩), h2 H'⟩⟩
    obtain ⟨y, hy, e⟩ := List.mem_map.mp hp
    rw [← e]; exact h1 y hy
  case gc =>
    obtain ⟨_, _, _, _, _, _, _, _, _, _, _, _, z⟩ := h
    exact z
end Fb
namespace Fb
open PySem L2
theorem ifD {p A B : Prop} [Decidable p] (h1 : p → A) (h2 : ¬ p → B) : if decide p = true then A else B := by
  by_cases h : p
  · rw [if_pos (decide_eq_true h)]; exact h1 h
  · rw [if_neg (by simp [h])]; exact h2 h
theorem ifB {c : Bool} {A B : Prop} (h1 : c = true → A) (h2 : c = false → B) : if c = true then A else B := by
  cases c with
  | true => rw [if_pos rfl]; exact h1 rfl
  | false => rw [if_neg Bool.false_ne_true]; exact h2 rfl
theorem ifP {p A B : Prop} [Decidable p] (h : p) (a : A) : if decide p = true then A else B := by rw [if_pos (decide_eq_true h)]; exact a
theorem ifN {p A B : Prop} [Decidable p] (h : ¬ p) (b : B) : if decide p = true then A else B := by rw [if_neg (by simp [h])]; exact b
theorem atI_map {ns : List Int} {j : Int} (h0 : 0 ≤ j) (h1 : j.toNat < ns.length) : atI (ns.map V.int) j = some (.int (ns.getD j.toNat 0)) := by
  have h2 : ixN (ns.map V.int).length j = some j.toNat := by
    unfold ixN
    rw [List.length_map, if_pos h0, if_pos (by omega)]
  unfold atI
  rw [h2]
  show (ns.map V.int)[j.toNat]? = _
  rw [List.getElem?_map, List.getElem?_eq_getElem h1]
  simp [List.getD, List.getElem?_eq_getElem h1]
theorem atI_of {α : Type} {xs : List α} {j : Int} {v : α} (h0 : 0 ≤ j) (h : xs[j.toNat]? = some v) : atI xs j = some v := by
  have hl : j.toNat < xs.length := (List.getElem?_eq_some_iff.mp h).1
  have h2 : ixN xs.length j = some j.toNat := by
    unfold ixN
    rw [if_pos h0, if_pos (by omega)]
  unfold atI
  rw [h2]
  exact h
end Fb

namespace Fb
open PySem PySem.Spec PyProof.Rows L2
/-! ### texts by their signs -/
/-- a text of at most n signs, each of them one that the model knows -/
def okS (n : Nat) (z : Str) : Prop := z.length ≤ n ∧ ∀ c ∈ z.cps.toList, c < 1114112
theorem len_tl (z : Str) : z.length = z.cps.toList.length := by simp [Str.length]
theorem okS.mono {n m : Nat} {z : Str} (h : okS n z) (hm : n ≤ m) : okS m z := ⟨Nat.le_trans h.1 hm, h.2⟩
theorem cps_app (a b : Str) : (a ++ b).cps.toList = a.cps.toList ++ b.cps.toList := by
  show (a.cps ++ b.cps).toList = _
  simp
theorem len_app (a b : Str) : (a ++ b).length = a.length + b.length := by
  rw [len_tl, cps_app, List.length_append, ← len_tl, ← len_tl]
theorem okS.app {n m : Nat} {a b : Str} (h : okS n a) (g : okS m b) : okS (n + m) (a ++ b) := by
  refine ⟨by rw [len_app]; exact Nat.add_le_add h.1 g.1, fun c hc => ?_⟩
  rw [cps_app] at hc
  exact (List.mem_append.mp hc).elim (h.2 c) (g.2 c)
theorem cut_len (z : Str) (lo hi : Option Int) : (cutS z lo hi).length ≤ z.length := by
  rw [len_tl, len_tl]
  unfold cutS
  show (_ : List Nat).length ≤ _
  rw [List.length_take, List.length_drop]
  omega
theorem okS.cut {n : Nat} {z : Str} (h : okS n z) (lo hi : Option Int) : okS n (cutS z lo hi) := by
  refine ⟨Nat.le_trans (cut_len z lo hi) h.1, fun c hc => h.2 c ?_⟩
  have h1 : c ∈ ((z.cps.toList.drop (HT.sIx z.length 0 lo)).take (HT.sIx z.length z.length hi - HT.sIx z.length 0 lo)) := hc
  exact List.mem_of_mem_drop (List.mem_of_mem_take h1)
/-- cut at most k signs from the front -/
theorem cut_to (z : Str) (k : Nat) : (cutS z none (some (k : Int))).length ≤ k := by
  rw [len_tl]
  unfold cutS
  show (_ : List Nat).length ≤ _
  rw [List.length_take, HT.sIx_none, HT.sIx_nat]
  omega
theorem okS.one {c : Nat} (h : c < 1114112) : okS 1 ⟨#[c]⟩ := by
  refine ⟨Nat.le_refl _, fun d hd => ?_⟩
  have e : d = c := by simpa using hd
  rw [e]; exact h
theorem mem_rep {x : Array Nat} {c : Nat} : ∀ (n : Nat) (acc : Array Nat), c ∈ ((List.replicate n x).foldl (· ++ ·) acc).toList → c ∈ acc.toList ∨ c ∈ x.toList
  | 0, acc, h => Or.inl h
  | n + 1, acc, h => by
    rw [List.replicate_succ, List.foldl_cons] at h
    rcases mem_rep n (acc ++ x) h with g | g
    · rw [Array.toList_append] at g
      exact (List.mem_append.mp g)
    · exact Or.inr g
theorem okS.mul {n : Nat} {z : Str} {k : Int} (h : okS n z) (h0 : 0 ≤ k) : okS (n * k.toNat) (Txt.mul z k) := by
  refine ⟨by rw [mul_length z k h0]; exact Nat.mul_le_mul_right _ h.1, fun c hc => h.2 c ?_⟩
  unfold Txt.mul at hc
  split at hc
  · simp [Str.empty] at hc
  · split at hc
    · exact hc
    · rcases mem_rep _ _ hc with g | g
      · simp at g
      · exact g
theorem okS_data {n : Nat} {z : Str} (h : okS n z) : PyData.strOk z = true := by
  unfold PyData.strOk
  rw [Array.all_eq_true]
  intro i hi
  exact decide_eq_true (h.2 _ (by rw [← Array.getElem_toList]; exact List.getElem_mem _))
theorem joinL_nil : ∀ parts : List (List Nat), TL.joinL [] parts = parts.flatten
  | [] => rfl
  | [p] => by simp [TL.joinL]
  | p :: q :: r => by
    show p ++ ([] ++ TL.joinL [] (q :: r)) = _
    rw [joinL_nil (q :: r)]
    simp
theorem join_tl (y : Str) (hy : y.cps.toList = []) (ys : List Str) : (Txt.join y ys).cps.toList = (ys.map TL.tl).flatten := by
  rw [TL.join_eq]
  show TL.tl _ = _
  rw [TL.tl_join, show TL.tl y = [] from hy, joinL_nil]
theorem okS.join {y : Str} (hy : y.cps.toList = []) {ys : List Str} {n : Nat} (hn : ys.length ≤ n) (h : ∀ z ∈ ys, okS 1 z) : okS n (Txt.join y ys) := by
  refine ⟨?_, fun c hc => ?_⟩
  · rw [len_tl, join_tl y hy]
    refine Nat.le_trans ?_ hn
    clear hn
    induction ys with
    | nil => simp
    | cons z r ih =>
      have h1 := (h z List.mem_cons_self).1
      have h2 := ih fun q hq => h q (List.mem_cons_of_mem _ hq)
      rw [len_tl] at h1
      simp only [List.map_cons, List.flatten_cons, List.length_append, List.length_cons]
      show z.cps.toList.length + _ ≤ _
      omega
  · rw [join_tl y hy] at hc
    obtain ⟨l, hl, hc⟩ := List.mem_flatten.mp hc
    obtain ⟨z, hz, rfl⟩ := List.mem_map.mp hl
    exact (h z hz).2 c hc
theorem sum_ones {ys : List Str} (h : ∀ z ∈ ys, okS 1 z) : (ys.map (·.length)).sum ≤ ys.length := by
  induction ys with
  | nil => simp
  | cons z r ih =>
    have h1 := (h z List.mem_cons_self).1
    have h2 := ih fun q hq => h q (List.mem_cons_of_mem _ hq)
    simp only [List.map_cons, List.sum_cons, List.length_cons]
    omega

/-! ### comprehensions over a range, over a list: each turn leaves what stood; R: what is known of the i-th item, for good (D itself, the new list, grows) -/
/-- what stood anywhere but at D stands -/
def SameB (D : Addr) (H H' : Hp) : Prop := ∀ b o, b ≠ D → H b = some o → H' b = some o
theorem Same.but {D : Addr} {H H' : Hp} (s : Same H H') : SameB D H H' := fun b o _ e => s b o e
section
variable {K : PySem.W.Frag} {te : TE} {vs : List Nat} {σ : L2.St} {H1 : Hp} {D : Addr} {Qd : Hp → Prop}
theorem yes_go {Q : VK} {N : Hp → Prop} {H : Hp} (h : te σ H Q) : tYes σ H fun b H3 => if b = true then te σ H3 Q else N H3 := by
  show (if true = true then te σ H Q else N H)
  exact iteT h
theorem lc_step {R : Nat → V → Hp → Prop} {i : Nat} {ys : List V} {v : V} {H H' : Hp} (hR : ∀ i v H H', SameB D H H' → R i v H → R i v H') (hl : ys.length = i) (s2 : Same H H') (hr : ∀ k u, ys[k]? = some u → R k u H) (r : R i v H') :
    ∀ k u, (ys ++ [v])[k]? = some u → R k u (upd H' D (.lst (ys ++ [v]))) := fun k u e => by
  have hu : SameB D H' (upd H' D (.lst (ys ++ [v]))) := fun b o nb e => by rw [upd_ne nb]; exact e
  by_cases hk : k < ys.length
  · rw [List.getElem?_append_left hk] at e
    exact hR _ _ _ _ hu (hR _ _ _ _ (Same.but s2) (hr k u e))
  · have hk2 : k = i := by
      have h3 := (List.getElem?_eq_some_iff.mp e).1
      rw [List.length_append] at h3
      simp at h3
      omega
    subst hk2
    rw [List.getElem?_append_right (by omega), hl, Nat.sub_self] at e
    have e2 : v = u := by simpa using e
    subst e2
    exact hR _ _ _ _ hu r
theorem lc_rangeR {lo : Int} {n j : Nat} (R : Nat → V → Hp → Prop) (hR : ∀ i v H H', SameB D H H' → R i v H → R i v H') (hD : H1 D = none) (hn : n ≤ 100000) (hw : ∀ v, wipe ((wipe σ vs).set j (some v)) vs = wipe σ vs)
    (hs : ∀ i H acc, i < n → Same H1 H → H D = some (.lst acc) → ∀ Q : VK, (∀ v H', Same H H' → R i v H' → Q v H') → te ((wipe σ vs).set j (some (.int (lo + i)))) H Q)
    (hd : ∀ H ys, Same H1 H → H D = some (.lst ys) → ys.length = n → (∀ i v, ys[i]? = some v → R i v H) → Qd H) :
    ∃ W : Nat → Nat → Hp → Prop, (∃ m, W 0 m (upd H1 D (.lst []))) ∧ ∀ i m H, W i m H →
      ((Itr lo n).stop i H ∧ Qd H) ∨ ((Itr lo n).go i H ∧ ∃ Nx : Hp → Prop, (∀ H', Nx H' → ∃ m', m' < m ∧ W (i + 1) m' H') ∧ ∀ x H', (Itr lo n).yld i H x H' → (gName j) x (wipe σ vs) H' fun σ2 H2 => wipe σ2 vs = wipe σ vs ∧ tYes σ2 H2 fun b H3 =>
        if b = true then te σ2 H3 fun y H4 => ∃ acc, H4 D = some (.lst acc) ∧ acc.length < sizeLine ∧ Nx (upd H4 D (.lst (acc ++ [y]))) else Nx H3) := by
  refine lc_range (fun i H => ∃ ys, Same H1 H ∧ H D = some (.lst ys) ∧ ys.length = i ∧ ∀ k v, ys[k]? = some v → R k v H) ⟨[], same_new hD, upd_same, rfl, fun k v e => by simp at e⟩ ?_ ?_
  · rintro i H hi ⟨ys, s1, hDl, hl, hr⟩
    refine ⟨hw _, ?_⟩
    refine yes_go ?_
    exact hs i H ys hi s1 hDl _ fun v H' s2 r => ⟨ys, s2 _ _ hDl, szlt (by omega), ys ++ [v], same_mut (Same.trans s1 s2) hD, upd_same, by rw [List.length_append]; simp [hl], lc_step hR hl s2 hr r⟩
  · rintro H ⟨ys, s1, hDl, hl, hr⟩
    exact hd H ys s1 hDl hl hr
theorem lc_listR {a : Addr} {xs : List V} {j : Nat} (R : Nat → V → Hp → Prop) (hR : ∀ i v H H', SameB D H H' → R i v H → R i v H') (hD : H1 D = none) (hx : SqL K H1 a xs) (hn : xs.length ≤ 100000) (hw : ∀ v, wipe ((wipe σ vs).set j (some v)) vs = wipe σ vs)
    (hs : ∀ i x H acc, xs[i]? = some x → Same H1 H → H D = some (.lst acc) → ∀ Q : VK, (∀ v H', Same H H' → R i v H' → Q v H') → te ((wipe σ vs).set j (some x)) H Q)
    (hd : ∀ H ys, Same H1 H → H D = some (.lst ys) → ys.length = xs.length → (∀ i v, ys[i]? = some v → R i v H) → Qd H) :
    ∃ W : Nat → Nat → Hp → Prop, (∃ m, W 0 m (upd H1 D (.lst []))) ∧ ∀ i m H, W i m H →
      ((Itl K a).stop i H ∧ Qd H) ∨ ((Itl K a).go i H ∧ ∃ Nx : Hp → Prop, (∀ H', Nx H' → ∃ m', m' < m ∧ W (i + 1) m' H') ∧ ∀ x H', (Itl K a).yld i H x H' → (gName j) x (wipe σ vs) H' fun σ2 H2 => wipe σ2 vs = wipe σ vs ∧ tYes σ2 H2 fun b H3 =>
        if b = true then te σ2 H3 fun y H4 => ∃ acc, H4 D = some (.lst acc) ∧ acc.length < sizeLine ∧ Nx (upd H4 D (.lst (acc ++ [y]))) else Nx H3) := by
  refine lc_list (K := K) (a := a) (xs := xs) (fun i H => ∃ ys, Same H1 H ∧ H D = some (.lst ys) ∧ ys.length = i ∧ ∀ k v, ys[k]? = some v → R k v H) ⟨[], same_new hD, upd_same, rfl, fun k v e => by simp at e⟩ (fun i H _ ⟨_, s1, _⟩ => s1.seq hx) ?_ ?_
  · rintro i x H hi ⟨ys, s1, hDl, hl, hr⟩
    have hil := (List.getElem?_eq_some_iff.mp hi).1
    refine ⟨hw _, ?_⟩
    refine yes_go ?_
    exact hs i x H ys hi s1 hDl _ fun v H' s2 r => ⟨ys, s2 _ _ hDl, szlt (by omega), ys ++ [v], same_mut (Same.trans s1 s2) hD, upd_same, by rw [List.length_append]; simp [hl], lc_step hR hl s2 hr r⟩
  · rintro H ⟨ys, s1, hDl, hl, hr⟩
    exact hd H ys s1 hDl hl hr
end

/-! ### for k, x in enumerate(xs) -/
theorem for_enum {K : PySem.W.Frag} {a : Addr} {xs : List V} {g : TG} {tb : TS} {D : Ends} {σ : L2.St} {H : Hp} (Pv : Nat → L2.St → Hp → Prop) (h0 : Pv 0 σ H) (hl : ∀ i σ H, i ≤ xs.length → Pv i σ H → SqL K H a xs)
    (hs : ∀ i x σ H T, xs[i]? = some x → Pv i σ H → H T = none → g (.ref T) σ (upd H T (.tup [.int (i : Nat), x])) fun σ2 H2 => tb { D with nx := Pv (i + 1), ct := Pv (i + 1), bk := D.nx } σ2 H2) (hd : ∀ σ H, Pv xs.length σ H → D.nx σ H) :
    ∃ W : Nat → Nat → L2.St → Hp → Prop, (∃ m, W 0 m σ H) ∧ ∀ i m σ H, W i m σ H →
      ((Ite K a).stop i H ∧ D.nx σ H) ∨ ((Ite K a).go i H ∧ ∃ N : L2.St → Hp → Prop, (∀ σ' H', N σ' H' → ∃ m', m' < m ∧ W (i + 1) m' σ' H') ∧ ∀ x H', (Ite K a).yld i H x H' → g x σ H' fun σ2 H2 => tb { D with nx := N, ct := N, bk := D.nx } σ2 H2) := by
  refine ⟨fun i m σ H => m = xs.length - i ∧ i ≤ xs.length ∧ Pv i σ H, ⟨xs.length, by simp, Nat.zero_le _, h0⟩, ?_⟩
  rintro i m σ H ⟨rfl, hi, p⟩
  have q := hl i σ H hi p
  by_cases hlt : i < xs.length
  · refine .inr ⟨⟨xs, xs[i], q, by simp [hlt]⟩, Pv (i + 1), fun σ' H' p' => ⟨xs.length - (i + 1), by omega, rfl, hlt, p'⟩, fun x H' y => ?_⟩
    obtain ⟨T, x', rfl, hT, rfl, y⟩ := y
    exact hs i x' σ H T (y xs q) p hT
  · have e : i = xs.length := by omega
    subst e
    exact .inl ⟨⟨xs, q, Nat.le_refl _⟩, hd σ H p⟩

/-! ### the letters -/
abbrev abc : Str := Str.ofString "abcdefghijklmnopqrstuvwxyz"
theorem abc_list : abc.cps.toList = (List.range 26).map (· + 97) := by decide +kernel
theorem abc_len : abc.length ≤ sizeLine := by
  rw [len_tl, abc_list]
  simp
  decide
theorem abc_at {i : Int} (h0 : 0 ≤ i) (h1 : i < 26) : atI abc.cps.toList i = some (i.toNat + 97) := by
  refine atI_of h0 ?_
  rw [abc_list, List.getElem?_map, List.getElem?_range (by omega)]
  rfl
theorem abc_mem (c : Nat) : c ∈ abc.cps.toList ↔ 97 ≤ c ∧ c ≤ 122 := by
  rw [abc_list, List.mem_map]
  constructor
  · rintro ⟨k, hk, rfl⟩
    have := List.mem_range.mp hk
    omega
  · intro h
    exact ⟨c - 97, List.mem_range.mpr (by omega), by omega⟩
/-- signs written in the text -/
theorem at_small {z : Str} {n : Nat} {i : Int} (hn : z.cps.toList.length = n) (hc : z.cps.toList.all (· < 1114112) = true) (h0 : 0 ≤ i) (h1 : i < n) : ∃ c, atI z.cps.toList i = some c ∧ c < 1114112 := by
  have hl : i.toNat < z.cps.toList.length := by omega
  refine ⟨z.cps.toList[i.toNat], atI_of h0 (List.getElem?_eq_getElem hl), ?_⟩
  exact of_decide_eq_true (List.all_eq_true.mp hc _ (List.getElem_mem hl))
theorem mulSmall {i j : Int} (h0 : -1000000000000000000 ≤ i) (h1 : i ≤ 1000000000000000000) : CMul i j := .inl ⟨by omega, by omega⟩
theorem mulSmall2 {i j : Int} (h0 : -1000000000000000000 ≤ j) (h1 : j ≤ 1000000000000000000) : CMul i j := .inr ⟨by omega, by omega⟩
theorem atI_mem {xs : List V} {i : Int} (h0 : 0 ≤ i) (h1 : i < xs.length) : ∃ v, atI xs i = some v ∧ v ∈ xs := by
  have hl : i.toNat < xs.length := by omega
  exact ⟨xs[i.toNat], atI_of h0 (List.getElem?_eq_getElem hl), List.getElem_mem hl⟩
end Fb

namespace Fb
open PySem PySem.Spec PyProof.Rows L2
/-! ### a def whose code object is known -/
structure FunC (K : PySem.W.Frag) (x qual : Str) (st : Stmt) (f : Addr) (fd : FuncData) (c : Addr) : Prop where
  ex : ∃ (oc : Value) (od : Option Addr) (kV doc pm : Value) (an : Option Addr) (ct : Value) (osl : Array (Option Value)),
    fd = PySem.W.fnOf x qual (defArgs st) (defBody st) (defScope st) .none kV doc pm an (.ref c) ct ∧ K.lookup f = some ⟨oc, od, .func fd, osl⟩ ∧ PySem.W.codeIn K (.ref c) qual = true
section
variable {P : Program} {w : World} {K : PySem.W.Frag} {mg : Str → Option Value} {base : Heap}
theorem FunC.okX {x qual : Str} {st : Stmt} {f c : Addr} {fd : FuncData} {N ps : List Str} {k : Nat} {sp : Sp} (F : FunC K x qual st f fd c) (S : FnScope N ps (defScope st)) (len : ∀ vs H Q E, sp vs H Q E → vs.length = ps.length)
    (hbody : ∀ (A : Around) (outer : List Env) (s : Shared) (H : Hp) (vs : List V) (Q : VK) (E : XK), Room k (A.deeper (envOfC qual (defScope st) s.heap.objs.size f (.ref c))) → sp vs H Q E →
      ∃ t, PSs (cxOf (L2.CX P w) P w K mg base N qual (defScope st) f (.ref c) A outer s H E) (defBody st) t ∧ t { nx := fun _ H' => Q .non H', rt := Q } (start N vs) H) : FnOk P w K mg base (L2.CX P w) (k + 1) f fd ps sp := by
  obtain ⟨oc, od, kV, doc, pm, an, ct, osl, rfl, lk, hcd⟩ := F.ex
  exact fn_of lk hcd S len fun A outer s H vs Q E hr hsp => hbody A outer s H vs Q E hr hsp
end
/-! ### flat data: None, truth values, numbers, texts -/
def dat : V → PyData
  | .non => .none
  | .bl b => .bool b
  | .int i => .int i
  | .str z => .str z
  | _ => .none
def flat (v : V) : Prop := v = .non ∨ (∃ b, v = .bl b) ∨ (∃ i, v = .int i) ∨ ∃ z, v = .str z ∧ PyData.strOk z = true
theorem dp_flat {K : PySem.W.Frag} {H : Hp} {v : V} (h : flat v) : Dp K H v (dat v) := by
  rcases h with rfl | ⟨b, rfl⟩ | ⟨i, rfl⟩ | ⟨z, rfl, _⟩
  · exact .non
  · exact .bl b
  · exact .int i
  · exact .str z
theorem dpAll_flat {K : PySem.W.Frag} {H : Hp} : ∀ {xs : List V}, (∀ v ∈ xs, flat v) → DpAll K H xs (xs.map dat)
  | [], _ => .nil
  | v :: r, h => .cons (dp_flat (h v List.mem_cons_self)) (dpAll_flat fun u hu => h u (List.mem_cons_of_mem _ hu))
theorem lay_flat {v : V} (h : flat v) : PyData.canLay0 (dat v) = true ∧ PyData.depth (dat v) = 0 := by
  rcases h with rfl | ⟨b, rfl⟩ | ⟨i, rfl⟩ | ⟨z, rfl, hz⟩
  · exact ⟨by simp [dat, PyData.canLay0], by simp [dat, PyData.depth]⟩
  · exact ⟨by simp [dat, PyData.canLay0], by simp [dat, PyData.depth]⟩
  · exact ⟨by simp [dat, PyData.canLay0], by simp [dat, PyData.depth]⟩
  · exact ⟨by simpa [dat, PyData.canLay0] using hz, by simp [dat, PyData.depth]⟩
theorem layAll_flat : ∀ {xs : List V}, (∀ v ∈ xs, flat v) → PyData.canLayAll0 (xs.map dat) = true ∧ PyData.depthAll (xs.map dat) = 0
  | [], _ => ⟨by simp [PyData.canLayAll0], by simp [PyData.depthAll]⟩
  | v :: r, h => by
    have h1 := lay_flat (h v List.mem_cons_self)
    have h2 := layAll_flat (xs := r) fun u hu => h u (List.mem_cons_of_mem _ hu)
    refine ⟨?_, ?_⟩
    · rw [List.map_cons, PyData.canLayAll0, h1.1, h2.1]; rfl
    · rw [List.map_cons, PyData.depthAll, h1.2, h2.2]; rfl
theorem shaped_flat {v : V} (h : flat v) : SeqAt.shaped (dat v) = true := by
  have h1 := lay_flat h
  unfold SeqAt.shaped
  rw [h1.1, h1.2]; rfl
theorem shaped_list {xs : List V} (h : ∀ v ∈ xs, flat v) : SeqAt.shaped (.list (xs.map dat)) = true := by
  have h1 := layAll_flat h
  unfold SeqAt.shaped
  rw [PyData.canLay0, h1.1, PyData.depth, h1.2]; rfl
theorem shaped_tup {xs : List V} (h : ∀ v ∈ xs, flat v) : SeqAt.shaped (.tuple (xs.map dat)) = true := by
  have h1 := layAll_flat h
  unfold SeqAt.shaped
  rw [PyData.canLay0, h1.1, PyData.depth, h1.2]; rfl
theorem eqv_self {d : PyData} (h : SeqAt.shaped d = true) : PyData.eqv d d = true := SeqAt.eqv_refl d (SeqAt.canLay_of_shaped h)

/-! ### the signs of a text that pass a test -/
section
variable {K : PySem.W.Frag} {tt : TT} {te : TE} {vs : List Nat} {σ : L2.St} {H1 : Hp} {D : Addr} {Qd : Hp → Prop}
theorem filter_snoc {pf : Nat → Bool} {l : List Nat} {i c : Nat} (h : l[i]? = some c) : (l.take (i + 1)).filter pf = (l.take i).filter pf ++ (if pf c then [c] else []) := by
  rw [List.take_add_one, h]
  simp only [Option.toList_some, List.filter_append, List.filter_cons, List.filter_nil]
theorem lc_signs {x : Str} {j : Nat} (pf : Nat → Bool) (hD : H1 D = none) (hn : x.length ≤ 90000) (hw : ∀ v, wipe ((wipe σ vs).set j (some v)) vs = wipe σ vs)
    (ht : ∀ c H, Same H1 H → ∀ Q : Bool → Hp → Prop, Q (pf c) H → tt ((wipe σ vs).set j (some (.str ⟨#[c]⟩))) H Q) (he : ∀ c H, Same H1 H → ∀ Q : VK, Q (.str ⟨#[c]⟩) H → te ((wipe σ vs).set j (some (.str ⟨#[c]⟩))) H Q)
    (hd : ∀ H, Same H1 H → H D = some (.lst ((x.cps.toList.filter pf).map fun c => .str ⟨#[c]⟩)) → Qd H) :
    ∃ W : Nat → Nat → Hp → Prop, (∃ m, W 0 m (upd H1 D (.lst []))) ∧ ∀ i m H, W i m H →
      ((Its x).stop i H ∧ Qd H) ∨ ((Its x).go i H ∧ ∃ Nx : Hp → Prop, (∀ H', Nx H' → ∃ m', m' < m ∧ W (i + 1) m' H') ∧ ∀ y H', (Its x).yld i H y H' → (gName j) y (wipe σ vs) H' fun σ2 H2 => wipe σ2 vs = wipe σ vs ∧ tt σ2 H2 fun b H3 =>
        if b = true then te σ2 H3 fun y H4 => ∃ acc, H4 D = some (.lst acc) ∧ acc.length < sizeLine ∧ Nx (upd H4 D (.lst (acc ++ [y]))) else Nx H3) := by
  have ez : x.cps.size = x.cps.toList.length := by simp
  refine ⟨fun i m H => m = x.cps.size - i ∧ i ≤ x.cps.size ∧ Same H1 H ∧ H D = some (.lst (((x.cps.toList.take i).filter pf).map fun c => .str ⟨#[c]⟩)), ⟨x.cps.size, by simp, Nat.zero_le _, same_new hD, upd_same⟩, ?_⟩
  rintro i m H ⟨rfl, hi, s1, hl⟩
  by_cases hlt : i < x.cps.size
  · refine .inr ⟨hlt, fun H' => Same H1 H' ∧ H' D = some (.lst (((x.cps.toList.take (i + 1)).filter pf).map fun c => .str ⟨#[c]⟩)), fun H' p' => ⟨x.cps.size - (i + 1), by omega, rfl, hlt, p'⟩, fun y H' yl => ?_⟩
    obtain ⟨rfl, c, hc, rfl⟩ := yl
    have hc2 : x.cps.toList[i]? = some c := by rw [Array.getElem?_toList]; exact hc
    refine ⟨hw _, ?_⟩
    refine ht c H' s1 _ ?_
    have fs := filter_snoc (pf := pf) hc2
    cases hp : pf c with
    | true =>
      refine iteT ?_
      refine he c H' s1 _ ⟨_, hl, szlt ?_, same_mut s1 hD, ?_⟩
      · rw [List.length_map]
        have h1 := List.length_filter_le pf (x.cps.toList.take i)
        have h2 : (x.cps.toList.take i).length ≤ x.cps.toList.length := by rw [List.length_take]; omega
        have h3 : x.length = x.cps.toList.length := len_tl x
        omega
      · rw [upd_same, fs, hp]
        simp
    | false =>
      refine iteF ⟨s1, ?_⟩
      rw [fs, hp]
      simpa using hl
  · have e : i = x.cps.size := by omega
    subst e
    refine .inl ⟨Nat.le_refl _, hd H s1 ?_⟩
    rw [ez, List.take_length] at hl
    exact hl
end

/-! ### is it a place -/
def letter (c : Nat) : Bool := decide (97 ≤ c) && decide (c ≤ 122)
def isP : V → Bool
  | .str z => decide (1 ≤ z.length) && decide (z.length ≤ 12) && z.cps.toList.all letter
  | _ => false
theorem btw_letter (c : Nat) : (!decide (([c] : List Nat) < (Str.ofString "a").cps.toList) && !decide ((Str.ofString "z").cps.toList < ([c] : List Nat))) = letter c := by
  have e1 : (Str.ofString "a").cps.toList = [97] := by decide +kernel
  have e2 : (Str.ofString "z").cps.toList = [122] := by decide +kernel
  rw [e1, e2]
  have h1 : (([c] : List Nat) < [97]) ↔ c < 97 := by
    constructor
    · intro h
      cases h with
      | rel h => exact h
      | cons h => cases h
    · intro h; exact List.Lex.rel h
  have h2 : (([122] : List Nat) < [c]) ↔ 122 < c := by
    constructor
    · intro h
      cases h with
      | rel h => exact h
      | cons h => cases h
    · intro h; exact List.Lex.rel h
  unfold letter
  have g1 : decide (([c] : List Nat) < [97]) = decide (c < 97) := decide_eq_decide.mpr h1
  have g2 : decide (([122] : List Nat) < [c]) = decide (122 < c) := decide_eq_decide.mpr h2
  rw [g1, g2]
  by_cases a : c < 97 <;> by_cases b : 122 < c <;> simp [a, b] <;> omega
theorem notin_letter (c : Nat) : (!decide (c ∈ abc.cps.toList)) = !letter c := by
  unfold letter
  have g : decide (c ∈ abc.cps.toList) = decide (97 ≤ c ∧ c ≤ 122) := decide_eq_decide.mpr (abc_mem c)
  rw [g]
  by_cases a : 97 ≤ c <;> by_cases b : c ≤ 122 <;> simp [a, b]
theorem nofree_ex {names : List (Str × NameKind)} {cells : List (Str × Addr)} (h : ∀ y ∈ names, y.2 ≠ .free) : ∀ y ∈ names, y.2 = .free → ∃ c, cells.lookup y.1 = some c := fun y hy e => absurd e (h y hy)
theorem ifND {p A B : Prop} [Decidable p] (h1 : ¬ p → A) (h2 : p → B) : if (!decide p) = true then A else B := by
  by_cases h : p
  · rw [decide_eq_true h]; exact iteF (h2 h)
  · rw [decide_eq_false h]; exact iteT (h1 h)
theorem ifNB {b : Bool} {A B : Prop} (h1 : b = false → A) (h2 : b = true → B) : if (!b) = true then A else B := by
  cases b with
  | true => exact iteF (h2 rfl)
  | false => exact iteT (h1 rfl)
theorem ifT1 {A B : Prop} (h : A) : if (!false) = true then A else B := iteT h
theorem ifF1 {A B : Prop} (h : B) : if (!true) = true then A else B := iteF h
theorem isP_short {z : Str} (h : ¬ (1 : Int) ≤ (z.length : Int)) : isP (.str z) = false := by
  show (decide (1 ≤ z.length) && decide (z.length ≤ 12) && z.cps.toList.all letter) = _
  rw [decide_eq_false (show ¬ 1 ≤ z.length by omega)]; rfl
theorem isP_long {z : Str} (h : ¬ (z.length : Int) ≤ (12 : Int)) : isP (.str z) = false := by
  show (decide (1 ≤ z.length) && decide (z.length ≤ 12) && z.cps.toList.all letter) = _
  rw [decide_eq_false (show ¬ z.length ≤ 12 by omega)]; simp
theorem isP_mid {z : Str} (h1 : (1 : Int) ≤ (z.length : Int)) (h2 : (z.length : Int) ≤ (12 : Int)) : isP (.str z) = z.cps.toList.all letter := by
  show (decide (1 ≤ z.length) && decide (z.length ≤ 12) && z.cps.toList.all letter) = _
  rw [decide_eq_true (show 1 ≤ z.length by omega), decide_eq_true (show z.length ≤ 12 by omega)]; rfl
theorem filter_all {pf : Nat → Bool} {l : List Nat} : (l.filter fun c => !pf c) = [] ↔ l.all pf = true := by
  rw [List.filter_eq_nil_iff, List.all_eq_true]
  exact ⟨fun h c hc => by simpa using h c hc, fun h c hc => by simp [h c hc]⟩
theorem eqv_nil (xs : List V) : PyData.eqv (.list (xs.map dat)) (.list []) = xs.isEmpty := by
  cases xs with
  | nil => simp [PyData.eqv, PyData.eqvAll]
  | cons v r => simp [PyData.eqv, PyData.eqvAll]
theorem flat_sign {c : Nat} (h : c < 1114112) : flat (.str ⟨#[c]⟩) := .inr (.inr (.inr ⟨_, rfl, okS_data (okS.one h)⟩))
theorem flat_signs {l : List Nat} (h : ∀ c ∈ l, c < 1114112) : ∀ v ∈ l.map (fun c => V.str ⟨#[c]⟩), flat v := fun v hv => by
  obtain ⟨c, hc, rfl⟩ := List.mem_map.mp hv
  exact flat_sign (h c hc)
theorem isEmpty_all {pf : Nat → Bool} {l : List Nat} {α : Type} (f : Nat → α) : ((l.filter fun c => !pf c).map f).isEmpty = l.all pf := by
  rw [Bool.eq_iff_iff, List.isEmpty_iff, List.map_eq_nil_iff]
  exact filter_all
end Fb

namespace Fb
open PySem PySem.Spec PyProof.Rows L2
/-! ### what is wrong with a journey: 0 nothing, 1 a place, 2 the journey -/
def ask (v : V) : Prop := v = .non ∨ (∃ b, v = .bl b) ∨ (∃ i, v = .int i) ∨ ∃ z, v = .str z ∧ okS 90000 z
theorem ask_flat {v : V} (h : ask v) : flat v := by
  rcases h with h | h | h | ⟨z, h, hz⟩
  · exact .inl h
  · exact .inr (.inl h)
  · exact .inr (.inr (.inl h))
  · exact .inr (.inr (.inr ⟨z, h, okS_data hz⟩))
def dueFrom : Option V → List V → Nat
  | _, [] => 0
  | p, x :: r => if isP x = true then (if p = some x then 2 else dueFrom (some x) r) else 1
def due (xs : List V) : Nat := if 2 ≤ xs.length ∧ xs.length ≤ 40 then dueFrom none xs else 2
def prev (xs : List V) (i : Nat) : Option V := if i = 0 then none else xs[i - 1]?
def dueAt (xs : List V) (i : Nat) : Nat := dueFrom (prev xs i) (xs.drop i)
theorem dueAt_end (xs : List V) : dueAt xs xs.length = 0 := by
  unfold dueAt
  rw [List.drop_length]
  rfl
theorem dueAt_zero (xs : List V) : dueAt xs 0 = dueFrom none xs := rfl
theorem dueAt_step {xs : List V} {i : Nat} {x : V} (h : xs[i]? = some x) : dueAt xs i = if isP x = true then (if prev xs i = some x then 2 else dueAt xs (i + 1)) else 1 := by
  obtain ⟨hl, e⟩ := List.getElem?_eq_some_iff.mp h
  unfold dueAt
  rw [List.drop_eq_getElem_cons hl, e]
  show (if isP x = true then (if prev xs i = some x then 2 else dueFrom (some x) (xs.drop (i + 1))) else 1) = _
  have e2 : prev xs (i + 1) = some x := by
    unfold prev
    rw [if_neg (by omega), Nat.add_sub_cancel, h]
  rw [e2]
theorem due_in {xs : List V} (h1 : 2 ≤ xs.length) (h2 : xs.length ≤ 40) : due xs = dueAt xs 0 := if_pos ⟨h1, h2⟩
theorem due_out {xs : List V} (h : ¬ (2 ≤ xs.length ∧ xs.length ≤ 40)) : due xs = 2 := if_neg h
theorem due_place {xs : List V} {i : Nat} {x : V} (h : xs[i]? = some x) (hp : isP x = false) : dueAt xs i = 1 := by
  rw [dueAt_step h, hp]; rfl
theorem due_same {xs : List V} {i : Nat} {x : V} (h : xs[i]? = some x) (hp : isP x = true) (h0 : i ≠ 0) (hs : xs[i - 1]? = some x) : dueAt xs i = 2 := by
  rw [dueAt_step h, if_pos hp, if_pos (by unfold prev; rw [if_neg h0]; exact hs)]
theorem due_go {xs : List V} {i : Nat} {x : V} (h : xs[i]? = some x) (hp : isP x = true) (hs : i ≠ 0 → xs[i - 1]? ≠ some x) : dueAt xs i = dueAt xs (i + 1) := by
  rw [dueAt_step h, if_pos hp, if_neg (fun e => ?_)]
  unfold prev at e
  by_cases h0 : i = 0
  · rw [if_pos h0] at e; cases e
  · rw [if_neg h0] at e; exact hs h0 e
def word : Nat → Str
  | 0 => Str.ofString ""
  | 1 => Str.ofString "place"
  | _ => Str.ofString "journey"
theorem isP_str {v : V} (h : isP v = true) : ∃ z, v = .str z := by
  cases v with
  | str z => exact ⟨z, rfl⟩
  | _ => cases h
theorem scal_str {z : Str} {v : V} (h : ask v) : scal (.str z) v = true := by
  rcases h with rfl | ⟨b, rfl⟩ | ⟨i, rfl⟩ | ⟨y, rfl, _⟩ <;> rfl
theorem num_small : ∀ i : Nat, i < 300 → ((toString (i : Int) : Str)).length ≤ 3 := by decide +kernel
theorem log_small {i : Nat} (h : i < 1000) : (i : Int).natAbs.log2 < 1920 := by
  have h1 : (i : Int).natAbs = i := by simp
  rw [h1]
  exact Nat.lt_of_le_of_lt (Nat.log2_le_self i) (by omega)
theorem lapp {a b : Str} {n m : Nat} (h : a.length ≤ n) (g : b.length ≤ m) : (a ++ b).length ≤ n + m := by rw [len_app]; omega
/-! ### within a suite: what the outer text says, by K -/
theorem pe_cls {X : Cx} {x : Str} {C : Addr} {pos : Pos} (hm : X.mg x = some (.ref C)) (hg : Gl X x := by rfl) (hd : (x == ("__debug__" : Str)) = false := by decide) : PE X (.Name x pos) (tC (.ref C)) := pe_glob hg hm rfl hd
theorem pe_bty {X : Cx} {x : Str} {n : String} {pos : Pos} (hm : X.mg x = none) (hv : bootBuiltins x = some (.type n)) (hg : Gl X x := by rfl) (hn : x ≠ "__name__" := by decide) (hd : (x == ("__debug__" : Str)) = false := by decide) : PE X (.Name x pos) (tC (.ty n)) := pe_bltn hg hm hv rfl hn hd
theorem op_eqS {X : Cx} {K : PySem.W.Frag} (hu : X.A.units + 64 < cLine) (hK : X.K = K := by rfl) : OpR X (compareOp .Eq) (rEqD K) := hK ▸ op_eqD hu
theorem op_neS {X : Cx} {K : PySem.W.Frag} (hu : X.A.units + 64 < cLine) (hK : X.K = K := by rfl) : OpR X (compareOp .NotEq) (rNeD K) := hK ▸ op_neD hu
theorem ix_listS {X : Cx} {K : PySem.W.Frag} (hK : X.K = K := by rfl) : IxR X (rIxL K) := hK ▸ ix_list
theorem ixN_of {n : Nat} {j : Int} (h0 : 0 ≤ j) (h : j < n) : ixN n j = some j.toNat := by
  unfold ixN
  rw [if_pos h0, if_pos h]
theorem rel_cls {C : Addr} : ∀ u, L2.RelV (.ref C) u → u = Value.ref C := fun _ h => h
theorem rel_ty {n : String} : ∀ u, L2.RelV (.ty n) u → u = Value.type n := fun _ h => h
end Fb

namespace Fb
open PySem PySem.Spec PyProof.Rows L2
/-! ### what the top has left, by facts -/
structure FA (K : PySem.W.Frag) (x : Str) (st : Stmt) (f : Addr) : Prop where
  a : PySem.W.nsIn K mainGlobals x = some (some (.ref f))
  l : ∃ (oc : Value) (od : Option Addr) (kV dc pm : Value) (an : Option Addr) (cd ct : Value) (osl : Array (Option Value)), K.lookup f = some ⟨oc, od, .func (PySem.W.fnOf x x (defArgs st) (defBody st) (defScope st) .none kV dc pm an cd ct), osl⟩ ∧ PySem.W.codeIn K cd x = true
  k : PySem.W.keepIn K (.ref f) = true
/-- .. with its code object and that one's table -/
structure FAC (K : PySem.W.Frag) (x : Str) (st : Stmt) (f c P : Addr) : Prop where
  a : PySem.W.nsIn K mainGlobals x = some (some (.ref f))
  l : ∃ (oc : Value) (od : Option Addr) (kV dc pm : Value) (an : Option Addr) (ct : Value) (osl : Array (Option Value)), K.lookup f = some ⟨oc, od, .func (PySem.W.fnOf x x (defArgs st) (defBody st) (defScope st) .none kV dc pm an (.ref c) ct), osl⟩
  q : PySem.W.codeIn K (.ref c) x = true
  k : PySem.W.keepIn K (.ref f) = true
  c : ∃ (oc : Value) (od : Option Addr) (vs : Array Value) (osl : Array (Option Value)), K.lookup c = some ⟨oc, od, .fields vs, osl⟩ ∧ vs[11]? = some (.ref P)
  n : K.lookup P = none
section
variable {Pg : Program} {w : World} {K : PySem.W.Frag} {mg : Str → Option Value} {base h : Heap} {x : Str} {st : Stmt} {f c P : Addr} {ps : List Str} {sp : Sp} {k : Nat}
theorem FA.dn (A : FA K x st f) (X : K.In h) (G : h.Ns mainGlobals mg) (ok : ∀ fd, Fun K x x st f fd → FnOk Pg w K mg base (L2.CX Pg w) k f fd ps sp)
    (hb : ∀ (kV doc pm : Value) (an : Option Addr) (cdv ct : Value) (us : List Value), us.length = ps.length → bindArgs (PySem.W.fnOf x x (defArgs st) (defBody st) (defScope st) .none kV doc pm an cdv ct) ⟨us, []⟩ = pure (ps.zip us)) : Dn Pg w K mg base k x ps sp := by
  obtain ⟨oc, od, kV, dc, pm, an, cd, ct, osl, l, c⟩ := A.l
  have F := fun_mk (st := st) l c A.k
  exact ⟨f, _, ok _ F, PySem.W.mg_of X G A.a, A.k, F.binds (ps := ps) hb⟩
theorem FAC.dn (A : FAC K x st f c P) (X : K.In h) (G : h.Ns mainGlobals mg) (ok : ∀ fd, FunC K x x st f fd c → FnOk Pg w K mg base (L2.CX Pg w) k f fd ps sp)
    (hb : ∀ (kV doc pm : Value) (an : Option Addr) (cdv ct : Value) (us : List Value), us.length = ps.length → bindArgs (PySem.W.fnOf x x (defArgs st) (defBody st) (defScope st) .none kV doc pm an cdv ct) ⟨us, []⟩ = pure (ps.zip us)) : Dn Pg w K mg base k x ps sp := by
  obtain ⟨oc, od, kV, dc, pm, an, ct, osl, l⟩ := A.l
  have F := fun_mk (st := st) l A.q A.k
  exact ⟨f, _, ok _ ⟨oc, od, kV, dc, pm, an, ct, osl, rfl, l, A.q⟩, PySem.W.mg_of X G A.a, A.k, F.binds (ps := ps) hb⟩
/-- the table of such a def at the head's heap -/
theorem FAC.tab (A : FAC K x st f c P) (X : K.In h) (G : h.Ns mainGlobals mg) (T : TabN mg h x) : h.get? P = some { cls := .none, data := .fields #[] } ∧ PySem.W.CodeHd h c P := by
  obtain ⟨a, c', P', o, fd, h1, h2, h3, h4, h5, h6, oc, vc, h7, h8, h9⟩ := T
  rw [PySem.W.mg_of X G A.a] at h1
  cases h1
  obtain ⟨oc2, od, kV, dc, pm, an, ct, osl, l⟩ := A.l
  have g1 := X _ _ l
  rw [h2] at g1
  cases g1
  cases h3
  cases h4
  obtain ⟨oc3, od3, vs, osl3, l3, v11⟩ := A.c
  have g2 := X _ _ l3
  rw [h7] at g2
  cases g2
  cases h8
  rw [v11] at h9
  cases h9
  exact ⟨h6, h5⟩
theorem FA.gint {i : Int} (X : K.In h) (G : h.Ns mainGlobals mg) (a : ∃ t, PySem.W.nsIn K mainGlobals x = some (some (.int i t))) : ∃ t, mg x = some (.int i t) := by
  obtain ⟨t, a⟩ := a
  exact ⟨t, PySem.W.mg_of X G a⟩
end
/-- an own class of errors, by facts -/
structure EA (K : PySem.W.Frag) (x : Str) (C : Addr) : Prop where
  a : PySem.W.nsIn K mainGlobals x = some (some (.ref C))
  k : PySem.W.keepIn K (.ref C) = true
  x : PySem.W.excIn K C [.type "ValueError", .type "Exception", .type "BaseException", .type "object"] "ValueError.__new__" = true
  b : PySem.W.subIn K (.ref C) (.type "BaseException") = some true
  t : PySem.W.typeIn K (.ref C) = some (.type "type")
  i : PySem.W.isClsIn K C = true
  hg : PySem.W.findIn K (.ref C) "__getattribute__" = some (some (.builtin "BaseException.__getattribute__"))
  hk : PySem.W.findIn K (.ref C) "__getattr__" = some none
  hd : PySem.W.hasDictIn K C = true
  ha : PySem.W.findIn K (.ref C) "__class__" = some (some (.builtin "object.__class__"))
  hn : PySem.W.specialIn K (.builtin "object.__class__") "__get__" = some (some (.builtin "getset_descriptor.__get__"))
  ht : PySem.W.takesIn K (.builtin "object.__class__") = some true
  hm : PySem.W.mroIn K C (.type "object") = some true
  v : PySem.W.subIn K (.ref C) (.type "ValueError") = some true
theorem EA.exk {K : PySem.W.Frag} {mg : Str → Option Value} {h : Heap} {x : Str} {C : Addr} (A : EA K x C) (X : K.In h) (G : h.Ns mainGlobals mg) : ExK K mg x C [.type "ValueError", .type "Exception", .type "BaseException", .type "object"] := ⟨PySem.W.mg_of X G A.a, A.k, A.x, A.b, A.t⟩
theorem EA.exc {K : PySem.W.Frag} {x : Str} {C : Addr} (A : EA K x C) : ExcC K C := ⟨A.hg, A.hk, A.b, A.hd, A.ha, A.hn, A.ht, A.hm⟩
theorem kit_self {K : PySem.W.Frag} {C : Addr} : PySem.W.kitOne K (.ref C) (.ref C) = some true := by
  unfold PySem.W.kitOne
  rw [if_pos (by simp)]
theorem EA.kit {K : PySem.W.Frag} {x : Str} {C D : Addr} {b : Bool} (A : EA K x D) (hs : PySem.W.subIn K (.ref C) (.ref D) = some b) (hn : (Value.ref C == Value.ref D) = false) : PySem.W.kitOne K (.ref C) (.ref D) = some b := by
  have h1 : (PySem.W.clsIn K D).isSome = true := A.i
  have e2 : ((PySem.W.clsIn K D).isSome && PySem.W.typeIn K (.ref D) == some (.type "type")) = true := by rw [h1, A.t]; rfl
  unfold PySem.W.kitOne
  rw [hn, if_neg Bool.false_ne_true]
  show (if ((PySem.W.clsIn K D).isSome && PySem.W.typeIn K (.ref D) == some (.type "type")) = true then PySem.W.subIn K (.ref C) (.ref D) else none) = some b
  rw [if_pos e2]
  exact hs
theorem EA.kitV {K : PySem.W.Frag} {x : Str} {C : Addr} (A : EA K x C) : PySem.W.kitOne K (.ref C) (.type "ValueError") = some true := by
  unfold PySem.W.kitOne
  rw [if_neg (by simp)]
  show (if PySem.W.kitMeta "ValueError" = true then PySem.W.subIn K (.ref C) (.type "ValueError") else none) = some true
  rw [if_pos (by decide +kernel)]
  exact A.v
theorem EA.exm {K : PySem.W.Frag} {x : Str} {C D : Addr} {b : Bool} (A : EA K x D) (hs : PySem.W.subIn K (.ref C) (.ref D) = some b) : PySem.W.exmOne K (.ref C) (.ref D) = some b := PySem.W.exm_ref A.b A.hd A.t hs
theorem fa_mk {K : PySem.W.Frag} {x : Str} {st : Stmt} {f : Addr} {oc kV dc pm cd ct : Value} {od an : Option Addr} {osl : Array (Option Value)} (a : PySem.W.nsIn K mainGlobals x = some (some (.ref f)))
    (l : K.lookup f = some ⟨oc, od, .func (PySem.W.fnOf x x (defArgs st) (defBody st) (defScope st) .none kV dc pm an cd ct), osl⟩) (c : PySem.W.codeIn K cd x = true) (k : PySem.W.keepIn K (.ref f) = true) : FA K x st f := ⟨a, ⟨oc, od, kV, dc, pm, an, cd, ct, osl, l, c⟩, k⟩
theorem fac_mk {K : PySem.W.Frag} {x : Str} {st : Stmt} {f c P : Addr} {oc kV dc pm ct oc2 : Value} {od an od2 : Option Addr} {osl osl2 : Array (Option Value)} {vs : Array Value} (a : PySem.W.nsIn K mainGlobals x = some (some (.ref f)))
    (l : K.lookup f = some ⟨oc, od, .func (PySem.W.fnOf x x (defArgs st) (defBody st) (defScope st) .none kV dc pm an (.ref c) ct), osl⟩) (q : PySem.W.codeIn K (.ref c) x = true) (k : PySem.W.keepIn K (.ref f) = true)
    (lc : K.lookup c = some ⟨oc2, od2, .fields vs, osl2⟩) (v : vs[11]? = some (.ref P)) (n : K.lookup P = none) : FAC K x st f c P := ⟨a, ⟨oc, od, kV, dc, pm, an, ct, osl, l⟩, q, k, ⟨oc2, od2, vs, osl2, lc, v⟩, n⟩
theorem gi_mk {K : PySem.W.Frag} {x : Str} {i : Int} {t : Tok} (a : PySem.W.nsIn K mainGlobals x = some (some (.int i t))) : ∃ t, PySem.W.nsIn K mainGlobals x = some (some (.int i t)) := ⟨t, a⟩
end Fb

namespace Fb
open PySem PySem.Spec PyProof.Rows L2
local macro_rules | `(tactic| walk_at "s") => `(tactic| repeat (first | refine ⟨_, rfl, ?_⟩ | refine ⟨_, _, rfl, rfl, ?_⟩ | refine ⟨_, _, rfl, Or.inl (by assumption), ?_⟩ | refine ⟨rfl, ?_⟩ | refine ⟨(by decide : (0 : Int) < _), ?_⟩ | refine ⟨⟨by decide, by decide⟩, ?_⟩))
def topS (i : Nat) : Stmt := PySem.Challenge.pw_farebreak_k03_journeys.main.body.getD i (.Pass ⟨0, 0, 0, 0⟩)
structure Txt (K : PySem.W.Frag) (mg : Str → Option Value) (CF CP CJ : Addr) : Prop where
  n_isinstance : mg "isinstance" = none
  n_str : mg "str" = none
  n_len : mg "len" = none
  n_range : mg "range" = none
  n_enumerate : mg "enumerate" = none
  n_list : mg "list" = none
  n_int : mg "int" = none
  n_all : mg "all" = none
  n_ValueError : mg "ValueError" = none
  x_BadPlace : ExK K mg "BadPlace" CP [.type "ValueError", .type "Exception", .type "BaseException", .type "object"]
  x_BadJourney : ExK K mg "BadJourney" CJ [.type "ValueError", .type "Exception", .type "BaseException", .type "object"]
  x_FareError : ExK K mg "FareError" CF [.type "ValueError", .type "Exception", .type "BaseException", .type "object"]
  e_P : PySem.W.exmOne K (.ref CP) (.ref CF) = some true
  e_J : PySem.W.exmOne K (.ref CJ) (.ref CF) = some true
  i_P : ExcC K CP
  i_J : ExcC K CJ
  k_PP : PySem.W.kitOne K (.ref CP) (.ref CP) = some true
  k_PJ : PySem.W.kitOne K (.ref CP) (.ref CJ) = some false
  k_JP : PySem.W.kitOne K (.ref CJ) (.ref CP) = some false
  k_JJ : PySem.W.kitOne K (.ref CJ) (.ref CJ) = some true
  k_PV : PySem.W.kitOne K (.ref CP) (.type "ValueError") = some true
  k_JV : PySem.W.kitOne K (.ref CJ) (.type "ValueError") = some true
  c_LONGEST_PLACE : ∃ t, mg "LONGEST_PLACE" = some (.int 12 t)
  c_FEWEST_PLACES : ∃ t, mg "FEWEST_PLACES" = some (.int 2 t)
  c_MOST_PLACES : ∃ t, mg "MOST_PLACES" = some (.int 40 t)
/-! ### cells -/
def cel (ns : List Int) (j : Int) : Int := ns.getD j.toNat 0
def spCell (K : PySem.W.Frag) : Sp := fun vs H Q _ => ∃ (l : Addr) (ns : List Int) (j : Int), vs = [.ref l, .int j] ∧ SqL K H l (ns.map V.int) ∧ 0 ≤ j ∧ Q (.int (cel ns j)) H
abbrev s__law_cell_at : Stmt := topS 12
abbrev N__law_cell_at : List Str := ["_law_script", "_law_k"]
theorem sc__law_cell_at : FnScope N__law_cell_at ["_law_script", "_law_k"] (defScope s__law_cell_at) := ⟨rfl, rfl, rfl, by decide +kernel, rfl, by decide +kernel, by decide +kernel⟩
section
variable {Pg : Program} {w : World} {K : PySem.W.Frag} {mg : Str → Option Value} {base : Heap} {CF CP CJ : Addr}
theorem ok_cell {f : Addr} {fd : FuncData} (F : Fun K "_law_cell_at" "_law_cell_at" s__law_cell_at f fd) (T : Txt K mg CF CP CJ) : FnOk Pg w K mg base (L2.CX Pg w) 1 f fd ["_law_script", "_law_k"] (spCell K) := by
  refine F.okX sc__law_cell_at (fun vs H Q E h => ?_) (fun cdv A outer s H vs Q E hr h => ?_)
  · obtain ⟨l, ns, j, rfl, _⟩ := h
    rfl
  · obtain ⟨l, ns, j, rfl, hs, hj, q⟩ := h
    refine ⟨_, (pss_cons (ps_if (pt_cmpR op_lt (pv 1) (pe_callB call_len_seq (by rfl) T.n_len (by decide +kernel) (pa_cons (pv 0) pa_nil)) (nomark _)) (pss_one (ps_ret (pe_ix ix_list (pv 0) (pv 1) (fun _ _ => rfl)))) pss_nil)
      (pss_one (ps_ret pe_int))), ?_⟩
    walk_at "s"
    refine ifD (fun c => ?_) (fun c => ?_)
    · rw [List.length_map] at c
      walk_at "s"
      refine ⟨_, _, _, _, rfl, rfl, hs, atI_map hj (by omega), q⟩
    · rw [List.length_map] at c
      have e : cel ns j = 0 := by
        unfold cel
        rw [List.getD_eq_getElem?_getD, List.getElem?_eq_none (by omega)]; rfl
      rw [e] at q
      exact q
end
end Fb

namespace Fb
open PySem PySem.Spec PyProof.Rows L2
local macro_rules | `(tactic| walk_at "s") => `(tactic| repeat (first | refine ⟨_, rfl, ?_⟩ | refine ⟨_, _, rfl, rfl, ?_⟩ | refine ⟨_, _, rfl, Or.inl (by assumption), ?_⟩ | refine ⟨rfl, ?_⟩ | refine ⟨(by decide : (0 : Int) < _), ?_⟩ | refine ⟨⟨by decide, by decide⟩, ?_⟩ | refine ⟨_, _, _, rfl, (by assumption), (by first | decide | omega), ?_⟩))
/-! ### a place by a cell -/
def spPlace : Sp := fun vs H Q _ => ∃ c : Int, vs = [.int c] ∧ ∀ (z : Str) (H' : Hp), okS 12 z → Same H H' → Q (.str z) H'
abbrev s__law_place : Stmt := topS 13
abbrev N__law_place : List Str := ["_law_cell", "_law_letters", "_law_k"]
theorem sc__law_place : FnScope N__law_place ["_law_cell"] (defScope s__law_place) := ⟨rfl, rfl, rfl, by decide +kernel, rfl, by decide +kernel, by decide +kernel⟩
section
variable {Pg : Program} {w : World} {K : PySem.W.Frag} {mg : Str → Option Value} {base : Heap} {CF CP CJ : Addr}
theorem ok_place {f : Addr} {fd : FuncData} (F : Fun K "_law_place" "_law_place" s__law_place f fd) (T : Txt K mg CF CP CJ) : FnOk Pg w K mg base (L2.CX Pg w) 1 f fd ["_law_cell"] spPlace := by
  refine F.okX sc__law_place (fun vs H Q E h => ?_) (fun cdv A outer s H vs Q E hr h => ?_)
  · obtain ⟨c, rfl, _⟩ := h
    rfl
  · obtain ⟨c, rfl, q⟩ := h
    refine ⟨_, (pss_cons (ps_set (i := 1) sc__law_place.nd rfl (by first | exact Or.inl rfl | exact Or.inr rfl) pe_str)
      (pss_one (ps_ret (pe_bm PySem.F.plainAttrs_str PySem.F.slot_str_join PySem.F.type_str_join mt_join pe_str (pa_cons (pe_lc (own := [("_law_k", 2)]) (g := (gName 2)) (tt := tYes) rfl sc__law_place.nd (pi_range1 (by rfl) T.n_range (pa_cons (pe_op op_add pe_int (pe_op op_mod (pv 0) pe_int)) pa_nil)) (blkOk_by (own := [("_law_k", 2)]) (N := N__law_place) (sc := (defScope s__law_place)) (by decide +kernel)) (fun _ _ _ _ _ => (pg_name (i := 2) sc__law_place.nd rfl (by first | exact Or.inl rfl | exact Or.inr rfl))) (fun _ _ _ _ _ => pts_nil) (fun _ _ _ _ _ => (pe_ix ix_str (pv 1) (pe_op op_mod (pe_op op_add (pe_op op_fdiv (pv 0) pe_int) (pe_op op_mul (pv 2) (pe_op op_mod (pe_op op_fdiv (pv 0) pe_int) pe_int))) pe_int) (fun _ _ => rfl)))) pa_nil))))), ?_⟩
    walk_at "s"
    refine ⟨by omega, by omega, fun D hD => ?_⟩
    refine lc_rangeR (fun i v _ => ∃ x, v = .str ⟨#[x]⟩ ∧ x < 1114112) (fun _ _ _ _ _ r => r) hD (by omega) (fun v => rfl) ?_ ?_
    · intro i H2 acc hi s2 hDl Q2 q2
      walk_at "s"
      refine ⟨mulSmall (by omega) (by omega), ?_⟩
      walk_at "s"
      refine ⟨_, _, _, rfl, rfl, abc_len, abc_at (by omega) (by omega), ?_⟩
      exact q2 _ _ (Same.refl _) ⟨_, rfl, by omega⟩
    · intro H2 ys s2 hDl hl hr
      have hz : ∃ zs : List Str, ys = zs.map V.str ∧ ∀ z ∈ zs, okS 1 z := by
        clear hl hDl
        induction ys with
        | nil => exact ⟨[], rfl, fun z hz => by cases hz⟩
        | cons y r ih =>
          obtain ⟨x, e, hx⟩ := hr 0 y rfl
          obtain ⟨zs, e2, h2⟩ := ih fun i v e => hr (i + 1) v e
          refine ⟨⟨#[x]⟩ :: zs, by rw [e, e2]; rfl, fun z hz => ?_⟩
          rcases List.mem_cons.mp hz with e3 | e3
          · rw [e3]; exact okS.one hx
          · exact h2 z e3
      obtain ⟨zs, rfl, hzs⟩ := hz
      rw [List.length_map] at hl
      have hs := sum_ones hzs
      walk_at "s"
      refine ⟨_, _, zs, rfl, rfl, .inl (SqL.of hDl), ?_, ?_⟩
      · have e0 : (Str.ofString "").length = 0 := by decide
        rw [e0]
        omega
      · exact q _ _ (okS.join (by decide +kernel) (by omega) hzs) s2
end
/-! ### no place by a cell -/
def thing (v : V) : Prop := v = .non ∨ v = .int 5 ∨ ∃ z, v = .str z ∧ okS 400 z
def spBad : Sp := fun vs H Q _ => ∃ (c : Int) (z : Str), vs = [.int c, .str z] ∧ okS 12 z ∧ ∀ (v : V) (H' : Hp), thing v → Same H H' → Q v H'
abbrev s__law_bad : Stmt := topS 15
abbrev N__law_bad : List Str := ["_law_cell", "_law_name", "_law_at", "_law_odd"]
theorem sc__law_bad : FnScope N__law_bad ["_law_cell", "_law_name"] (defScope s__law_bad) := ⟨rfl, rfl, rfl, by decide +kernel, rfl, by decide +kernel, by decide +kernel⟩
abbrev s__law_row : Stmt := topS 14
abbrev N__law_row : List Str := ["_law_script", "_law_size", "_law_row_here", "_law_k", "_law_name"]
theorem sc__law_row : FnScope N__law_row ["_law_script"] (defScope s__law_row) := ⟨rfl, rfl, rfl, by decide +kernel, rfl, by decide +kernel, by decide +kernel⟩
def spRow (K : PySem.W.Frag) : Sp := fun vs H Q _ => ∃ (l : Addr) (ns : List Int), vs = [.ref l] ∧ SqL K H l (ns.map V.int) ∧ ∀ (p : Addr) (H' : Hp) (xs : List V), H p = none → Same H H' → H' p = some (.lst xs) → xs.length ≤ 42 → (∀ v ∈ xs, ∃ z, v = .str z ∧ okS 12 z) → Q (.ref p) H'
section
variable {Pg : Program} {w : World} {K : PySem.W.Frag} {mg : Str → Option Value} {base : Heap} {CF CP CJ : Addr}
theorem ok_bad {f : Addr} {fd : FuncData} (F : Fun K "_law_bad" "_law_bad" s__law_bad f fd) (T : Txt K mg CF CP CJ) : FnOk Pg w K mg base (L2.CX Pg w) 1 f fd ["_law_cell", "_law_name"] spBad := by
  refine F.okX sc__law_bad (fun vs H Q E h => ?_) (fun cdv A outer s H vs Q E hr h => ?_)
  · obtain ⟨c, z, rfl, _⟩ := h
    rfl
  · obtain ⟨c, z, rfl, hz, q⟩ := h
    have hzl : z.length ≤ sizeLine := szl (by have := hz.1; omega)
    refine ⟨_, (pss_cons (ps_set (i := 2) sc__law_bad.nd rfl (by first | exact Or.inl rfl | exact Or.inr rfl) (pe_op op_mod (pe_op op_fdiv (pv 0) pe_int) pe_int))
      (pss_cons (ps_set (i := 3) sc__law_bad.nd rfl (by first | exact Or.inl rfl | exact Or.inr rfl) (pe_op op_add_str (pe_slice sl_str (pv 1) po_none (po_some (pv 2))) (pe_ix ix_str pe_str (pe_op op_mod (pe_op op_fdiv (pv 0) pe_int) pe_int) (fun _ _ => rfl))))
      (pss_cons (ps_set (i := 3) sc__law_bad.nd rfl (by first | exact Or.inl rfl | exact Or.inr rfl) (pe_op op_add_str (pv 3) (pe_slice sl_str (pe_slice sl_str (pv 1) (po_some (pv 2)) po_none) po_none (po_some pe_int))))
      (pss_one (ps_ret (pe_ix ix_list (pe_lst (pa_cons pe_str (pa_cons (pe_op op_repS (pe_slice sl_str (pv 1) po_none (po_some pe_int)) pe_int) (pa_cons (pe_slice sl_str (pv 3) po_none (po_some pe_int)) (pa_cons pe_non (pa_cons pe_int (pa_cons (pe_op op_repS (pe_slice sl_str (pv 1) po_none (po_some pe_int)) pe_int) (pa_cons (pe_slice sl_str (pv 3) po_none (po_some pe_int)) pa_nil)))))))) (pe_op op_mod (pv 0) pe_int) (fun _ _ => rfl))))))), ?_⟩
    obtain ⟨sg, hsg, hsgl⟩ := at_small (z := Str.ofString "AZ09_ -.[`{@/") (n := 13) (i := c / 84 % 13) (by decide +kernel) (by decide +kernel) (by omega) (by omega)
    walk_at "s"
    refine ⟨hzl, ?_⟩
    walk_at "s"
    refine ⟨_, _, _, rfl, rfl, (by decide +kernel), hsg, ?_⟩
    have h1 := okS.app (okS.cut hz none (some (c / 7 % 12))) (okS.one hsgl)
    walk_at "s"
    refine ⟨szl (by have := h1.1; rw [len_app] at this; exact Nat.le_trans this (by decide)), ?_⟩
    walk_at "s"
    refine ⟨hzl, ?_⟩
    walk_at "s"
    have h2 := okS.cut (okS.cut hz (some (c / 7 % 12)) none) none (some 11)
    refine ⟨szl (by have := (okS.cut hz (some (c / 7 % 12)) none).1; omega), ?_⟩
    have h3 := okS.app h1 h2
    walk_at "s"
    refine ⟨szl (by have := h3.1; rw [len_app] at this; exact Nat.le_trans this (by decide)), ?_⟩
    have h4 := okS.cut hz none (some 1)
    have h5 := okS.cut h3 none (some 12)
    have m13 := okS.mul (k := 13) h4 (by decide)
    have m20 := okS.mul (k := 20) h4 (by decide)
    walk_at "s"
    refine ⟨hzl, ?_⟩
    walk_at "s"
    refine ⟨mulOk_small (by decide) (by decide) (by have := h4.1; omega), ?_⟩
    walk_at "s"
    refine ⟨szl (Nat.le_trans h3.1 (by decide)), ?_⟩
    walk_at "s"
    refine ⟨hzl, ?_⟩
    walk_at "s"
    refine ⟨mulOk_small (by decide) (by decide) (by have := h4.1; omega), ?_⟩
    walk_at "s"
    refine ⟨szl (Nat.le_trans h3.1 (by decide)), ?_⟩
    walk_at "s"
    refine ⟨(by show 7 ≤ sizeLine; decide), fun l hl => ?_⟩
    walk_at "s"
    obtain ⟨v, hv, hm⟩ := atI_mem (xs := [V.str (Str.ofString ""), V.str (Txt.mul (cutS z none (some 1)) 13), V.str (cutS (cutS z none (some (c / 7 % 12)) ++ ⟨#[sg]⟩ ++ cutS (cutS z (some (c / 7 % 12)) none) none (some 11)) none (some 12)), V.non, V.int 5, V.str (Txt.mul (cutS z none (some 1)) 20), V.str (cutS (cutS z none (some (c / 7 % 12)) ++ ⟨#[sg]⟩ ++ cutS (cutS z (some (c / 7 % 12)) none) none (some 11)) none (some 12))]) (i := c % 7) (by omega) (by show c % 7 < 7; omega)
    refine ⟨_, _, _, _, rfl, rfl, SqL.of upd_same, hv, q _ _ ?_ (same_new hl)⟩
    simp only [List.mem_cons, List.not_mem_nil, or_false] at hm
    rcases hm with e | e | e | e | e | e | e
    · exact .inr (.inr ⟨_, e, by decide, by decide +kernel⟩)
    · exact .inr (.inr ⟨_, e, m13.mono (by decide)⟩)
    · exact .inr (.inr ⟨_, e, h5.mono (by decide)⟩)
    · exact .inl e
    · exact .inr (.inl e)
    · exact .inr (.inr ⟨_, e, m20.mono (by decide)⟩)
    · exact .inr (.inr ⟨_, e, h5.mono (by decide)⟩)
theorem ok_row {f : Addr} {fd : FuncData} (F : Fun K "_law_row" "_law_row" s__law_row f fd) (T : Txt K mg CF CP CJ) (D_cell_at : Dn Pg w K mg base 1 "_law_cell_at" ["_law_script", "_law_k"] (spCell K)) (D_place : Dn Pg w K mg base 1 "_law_place" ["_law_cell"] spPlace) : FnOk Pg w K mg base (L2.CX Pg w) 2 f fd ["_law_script"] (spRow K) := by
  refine F.okX sc__law_row (fun vs H Q E h => ?_) (fun cdv A outer s H vs Q E hr h => ?_)
  · obtain ⟨l, ns, rfl, _⟩ := h
    rfl
  · obtain ⟨l, ns, rfl, hs, q⟩ := h
    have PO : PassesOwn (model Pg w) (A.deeper (envOfC "_law_row" (defScope s__law_row) s.heap.objs.size f cdv)) (envOfC "_law_row" (defScope s__law_row) s.heap.objs.size f cdv) (cxOf (L2.CX Pg w) Pg w K mg base N__law_row "_law_row" (defScope s__law_row) f cdv A outer s H E).xe := passes_of rfl
    refine ⟨_, (pss_cons (ps_set (i := 1) sc__law_row.nd rfl (by first | exact Or.inl rfl | exact Or.inr rfl) (pe_op op_mod (pe_fn D_cell_at (hr.mono (by decide)) (pa_cons (pv 0) (pa_cons pe_int pa_nil))) pe_int))
      (C8.pss_cut (ps_if (pt_cmpR op_eq (pe_op op_mod (pe_op op_fdiv (pe_fn D_cell_at (hr.mono (by decide)) (pa_cons (pv 0) (pa_cons pe_int pa_nil))) pe_int) pe_int) pe_int (nomark _)) (pss_one (ps_set (i := 1) sc__law_row.nd rfl (by first | exact Or.inl rfl | exact Or.inr rfl) (pe_ix ix_list (pe_lst (pa_cons pe_int (pa_cons pe_int (pa_cons pe_int (pa_cons pe_int (pa_cons pe_int (pa_cons pe_int pa_nil))))))) (pe_op op_mod (pe_op op_fdiv (pe_fn D_cell_at (hr.mono (by decide)) (pa_cons (pv 0) (pa_cons pe_int pa_nil))) pe_int) pe_int) (fun _ _ => rfl)))) pss_nil)
      (pss_cons (ps_set (i := 2) sc__law_row.nd rfl (by first | exact Or.inl rfl | exact Or.inr rfl) (pe_lst pa_nil))
      (pss_cons (ps_for PO rfl (pi_range1 (by rfl) T.n_range (pa_cons (pv 1) pa_nil)) (pg_name (i := 3) sc__law_row.nd rfl (by first | exact Or.inl rfl | exact Or.inr rfl))
        (pss_cons (ps_set (i := 4) sc__law_row.nd rfl (by first | exact Or.inl rfl | exact Or.inr rfl) (pe_fn D_place (hr.mono (by decide)) (pa_cons (pe_op op_add (pe_fn D_cell_at (hr.mono (by decide)) (pa_cons (pv 0) (pa_cons (pe_op op_add pe_int (pe_op op_mod (pv 3) pe_int)) pa_nil))) (pe_op op_mul pe_int (pe_op op_fdiv (pv 3) pe_int))) pa_nil)))
          (C8.pss_cut (ps_if (PW.pt (pw_and (pt_cmpR op_gt (pv 3) pe_int (nomark _)) (pw_and1 (pt_cmpR op_eq (pv 4) (pe_ix ix_list (pv 2) (pe_op op_sub (pv 3) pe_int) (fun _ _ => rfl)) (nomark _))))) (pss_one (ps_set (i := 4) sc__law_row.nd rfl (by first | exact Or.inl rfl | exact Or.inr rfl) (pe_ix ix_list (pe_lst (pa_cons pe_str (pa_cons pe_str pa_nil))) (pe_callTy call_int1 (by rfl) T.n_int (by decide +kernel) (pa_cons (pe_cmpR op_eq (pv 4) pe_str (nomark _)) pa_nil)) (fun _ _ => rfl)))) pss_nil)
          (pss_one (ps_expr (pe_bm PySem.F.plainAttrs_list PySem.F.slot_list_append PySem.F.type_list_append mt_append (pv 2) (pa_cons (pv 4) pa_nil)))))))
      (pss_one (ps_ret (pv 2))))))), ?_⟩
    walk_at "s"
    refine ⟨fun σ1 H1 => ∃ z : Int, 0 ≤ z ∧ z ≤ 42 ∧ Same H H1 ∧ σ1 = [some (.ref l), some (.int z), none, none, none], ?_, ?_⟩
    · walk_at "s"
      refine ifD (fun c1 => ?_) (fun c1 => ?_)
      · walk_at "s"
        refine ⟨(by show 6 ≤ sizeLine; decide), fun lx hlx => ?_⟩
        have hs1 : SqL K (upd H lx (.lst [.int 0, .int 1, .int 2, .int 39, .int 40, .int 41])) l (ns.map V.int) := (same_new hlx).seq hs
        walk_at "s"
        obtain ⟨v, hv, hm⟩ := atI_mem (xs := [V.int 0, .int 1, .int 2, .int 39, .int 40, .int 41]) (i := cel ns 0 / 129 % 6) (by omega) (by show cel ns 0 / 129 % 6 < 6; omega)
        refine ⟨_, _, _, _, rfl, rfl, SqL.of upd_same, hv, ?_⟩
        simp only [List.mem_cons, List.not_mem_nil, or_false] at hm
        rcases hm with e | e | e | e | e | e <;> (subst e; exact ⟨_, by decide, by decide, same_new hlx, rfl⟩)
      · exact ⟨_, by omega, by omega, Same.refl _, rfl⟩
    · rintro σ1 H1 ⟨z, hz0, hz1, s1, rfl⟩
      walk_at "s"
      refine ⟨Nat.zero_le _, fun p hp => ?_⟩
      have hp0 : H p = none := s1.free hp
      walk_at "s"
      refine ⟨by omega, by omega, ?_⟩
      refine for_range (fun i σ H' => ∃ xs kv nv, σ = [some (.ref l), some (.int z), some (.ref p), kv, nv] ∧ Same H H' ∧ H' p = some (.lst xs) ∧ xs.length = i ∧ ∀ v ∈ xs, ∃ z, v = .str z ∧ okS 12 z) ⟨[], none, none, rfl, same_mut s1 hp0, upd_same, rfl, fun v hv => by cases hv⟩ ?_ ?_
      · rintro i σ H2 hi ⟨xs, kv, nv, rfl, s2, hpx, hl, hx⟩
        have hs2 : SqL K H2 l (ns.map V.int) := s2.seq hs
        walk_at "s"
        refine ⟨mulSmall (by decide) (by decide), ?_⟩
        walk_at "s"
        intro nm H3 hnm s3
        have hpx3 := s3 _ _ hpx
        refine ⟨fun σ H' => ∃ nm, okS 12 nm ∧ σ = [some (.ref l), some (.int z), some (.ref p), some (.int (0 + i)), some (.str nm)] ∧ Same H H' ∧ H' p = some (.lst xs), ?_, ?_⟩
        · walk_at "s"
          refine ifD (fun c1 => ?_) (fun c1 => ?_)
          · walk_at "s"
            obtain ⟨v, hv, hm⟩ := atI_mem (xs := xs) (i := 0 + (i : Int) - 1) (by omega) (by omega)
            obtain ⟨zv, rfl, hzv⟩ := hx v hm
            refine ⟨_, _, _, _, rfl, rfl, SqL.of hpx3, hv, rfl, ?_⟩
            walk_at "s"
            refine ifD (fun c2 => ?_) (fun c2 => ?_)
            · walk_at "s"
              refine ⟨(by show 2 ≤ sizeLine; decide), fun lx hlx => ?_⟩
              walk_at "s"
              refine .inr ⟨_, rfl, ?_⟩
              have hpx4 : upd H3 lx (.lst [.str (Str.ofString "a"), .str (Str.ofString "b")]) p = some (.lst xs) := by rw [upd_ne (ne_of_none hpx3 hlx)]; exact hpx3
              have s4 := same_mut (o := .lst [.str (Str.ofString "a"), .str (Str.ofString "b")]) (Same.trans s2 s3) ((Same.trans s2 s3).free hlx)
              by_cases c3 : V.str nm = V.str (Str.ofString "a")
              · rw [decide_eq_true c3]
                exact ⟨_, _, 1, _, rfl, rfl, SqL.of upd_same, rfl, _, ⟨by decide, by decide +kernel⟩, rfl, s4, hpx4⟩
              · rw [decide_eq_false c3]
                exact ⟨_, _, 0, _, rfl, rfl, SqL.of upd_same, rfl, _, ⟨by decide, by decide +kernel⟩, rfl, s4, hpx4⟩
            · exact ⟨_, hnm, rfl, Same.trans s2 s3, hpx3⟩
          · walk_at "s"
            exact ⟨_, hnm, rfl, Same.trans s2 s3, hpx3⟩
        · rintro σ' H4 ⟨nm', hnm', rfl, s4, hpx4⟩
          refine ⟨_, rfl, .inl ⟨rfl, _, SqL.of hpx4⟩, _, rfl, _, _, _, rfl, rfl, hpx4, szlt (by omega), ?_⟩
          refine ⟨xs ++ [.str nm'], _, _, rfl, same_mut s4 hp0, upd_same, by rw [List.length_append]; simp [hl], fun v hv => ?_⟩
          rcases List.mem_append.mp hv with h1 | h1
          · exact hx v h1
          · exact ⟨nm', by simpa using h1, hnm'⟩
      · rintro σ H2 ⟨xs, kv, nv, rfl, s2, hpx, hl, hx⟩
        walk_at "s"
        exact q p H2 xs hp0 s2 hpx (by omega) hx
end
end Fb

namespace Fb
open PySem PySem.Spec PyProof.Rows L2
local macro_rules | `(tactic| walk_at "s") => `(tactic| repeat (first | refine ⟨_, rfl, ?_⟩ | refine ⟨_, _, rfl, rfl, ?_⟩ | refine ⟨_, _, rfl, Or.inl (by assumption), ?_⟩ | refine ⟨rfl, ?_⟩ | refine ⟨(by decide : (0 : Int) < _), ?_⟩ | refine ⟨⟨by decide, by decide⟩, ?_⟩ | refine ⟨_, _, _, rfl, (by assumption), (by first | decide | omega), ?_⟩))
/-! ### is_place -/
def spIsPlace (P : Addr) : Sp := fun vs H Q _ => ∃ v : V, vs = [v] ∧ ask v ∧ H P = some (TabO P) ∧ Q (.bl (isP v)) H
def spLIsPlace : Sp := fun vs H Q _ => ∃ v : V, vs = [v] ∧ ask v ∧ ∀ H', Same H H' → Q (.bl (isP v)) H'
abbrev s_is_place : Stmt := topS 6
abbrev N_is_place : List Str := ["thing"]
theorem sc_is_place : FnScope N_is_place ["thing"] (defScope s_is_place) := ⟨rfl, rfl, rfl, by decide +kernel, rfl, by decide +kernel, by decide +kernel⟩
abbrev s__law_is_place : Stmt := topS 16
abbrev N__law_is_place : List Str := ["_law_thing", "_law_sign"]
theorem sc__law_is_place : FnScope N__law_is_place ["_law_thing"] (defScope s__law_is_place) := ⟨rfl, rfl, rfl, by decide +kernel, rfl, by decide +kernel, by decide +kernel⟩
section
variable {Pg : Program} {w : World} {K : PySem.W.Frag} {mg : Str → Option Value} {base : Heap} {CF CP CJ : Addr}
theorem ok_is_place {f c P : Addr} {fd : FuncData} (F : FunC K "is_place" "is_place" s_is_place f fd c) (T : Txt K mg CF CP CJ) (TB : GxR.TabB base mg c P) : FnOk Pg w K mg base (L2.CX Pg w) 2 f fd ["thing"] (spIsPlace P) := by
  refine F.okX sc_is_place (fun vs H Q E h => ?_) (fun A outer s H vs Q E hr h => ?_)
  · obtain ⟨c, rfl, _⟩ := h
    rfl
  · obtain ⟨v, rfl, ha, hP, q⟩ := h
    refine ⟨_, (pss_cons (ps_if (pt_not (pt_val (pe_callB call_isi (by rfl) T.n_isinstance (by decide +kernel) (pa_cons (pv 0) (pa_cons (pe_bltn (v := .ty "str") (by rfl) T.n_str (by decide +kernel) rfl) pa_nil))))) (pss_one (ps_ret pe_bl)) pss_nil)
      (pss_cons (ps_if (pt_not (pt_chain op_le op_le pe_int (pe_callB call_len_str (by rfl) T.n_len (by decide +kernel) (pa_cons (pv 0) pa_nil)) (pe_gint T.c_LONGEST_PLACE rfl))) (pss_one (ps_ret pe_bl)) pss_nil)
      (pss_one (ps_ret (pe_allP (i := 0) (GxR.pe_allS hr rfl T.n_all (by decide +kernel) TB rfl ⟨rfl, rfl, by decide +kernel, rfl, rfl, nofree_ex (by decide +kernel)⟩ (pv 0) (elt_btw rfl rfl) (fun _ => rfl))))))), ?_⟩
    rcases ha with rfl | ⟨b, rfl⟩ | ⟨i, rfl⟩ | ⟨z, rfl, hz⟩
    · walk_at "s"
      exact ⟨_, _, _, _, false, rfl, .ty "str", .base .non, kit_ty (by decide +kernel), _, rfl, q⟩
    · walk_at "s"
      exact ⟨_, _, _, _, false, rfl, .ty "str", .base (.bl b), kit_ty (by decide +kernel), _, rfl, q⟩
    · walk_at "s"
      exact ⟨_, _, _, _, false, rfl, .ty "str", .base (.int i), kit_ty (by decide +kernel), _, rfl, q⟩
    · walk_at "s"
      refine ⟨_, _, _, _, true, rfl, .ty "str", .base (.str z), kit_ty (by decide +kernel), _, rfl, ?_⟩
      walk_at "s"
      refine ⟨szl (Nat.le_trans hz.1 (by decide)), ?_⟩
      walk_at "s"
      refine ifD (fun c1 => ?_) (fun c1 => ?_)
      · walk_at "s"
        refine ifND (fun c2 => ?_) (fun c2 => ?_)
        · rw [isP_long c2] at q
          exact q
        · refine ⟨z, rfl, hP, ?_⟩
          rw [isP_mid c1 c2] at q
          rw [show (fun c => !decide (([c] : List Nat) < (Str.ofString "a").cps.toList) && !decide ((Str.ofString "z").cps.toList < ([c] : List Nat))) = letter from funext btw_letter]
          exact q
      · walk_at "s"
        refine ifT1 ?_
        rw [isP_short c1] at q
        exact q
theorem ok_lis_place {f : Addr} {fd : FuncData} (F : Fun K "_law_is_place" "_law_is_place" s__law_is_place f fd) (T : Txt K mg CF CP CJ) : FnOk Pg w K mg base (L2.CX Pg w) 1 f fd ["_law_thing"] spLIsPlace := by
  refine F.okX sc__law_is_place (fun vs H Q E h => ?_) (fun cdv A outer s H vs Q E hr h => ?_)
  · obtain ⟨c, rfl, _⟩ := h
    rfl
  · obtain ⟨v, rfl, ha, q⟩ := h
    have q0 := q H (Same.refl H)
    refine ⟨_, (pss_cons (ps_if (PW.pt (pw_or (pt_not (pt_val (pe_callB call_isi (by rfl) T.n_isinstance (by decide +kernel) (pa_cons (pv 0) (pa_cons (pe_bltn (v := .ty "str") (by rfl) T.n_str (by decide +kernel) rfl) pa_nil))))) (pw_or1 (pt_not (pt_chain op_le op_le pe_int (pe_callB call_len_str (by rfl) T.n_len (by decide +kernel) (pa_cons (pv 0) pa_nil)) pe_int))))) (pss_one (ps_ret pe_bl)) pss_nil)
      (pss_one (ps_ret (pe_cmpR (op_eqD hr.units) (pe_lc (own := [("_law_sign", 1)]) (g := (gName 1)) (tt := _) rfl sc__law_is_place.nd (pi_str (pv 0)) (blkOk_by (own := [("_law_sign", 1)]) (N := N__law_is_place) (sc := (defScope s__law_is_place)) (by decide +kernel)) (fun _ _ _ _ _ => (pg_name (i := 1) sc__law_is_place.nd rfl (by first | exact Or.inl rfl | exact Or.inr rfl))) (fun _ _ _ _ _ => pts_one (pt_cmpR op_notIn_sign (pv 1) pe_str rfl)) (fun _ _ _ _ _ => (pv 1))) (pe_lst pa_nil) (nomark _))))), ?_⟩
    rcases ha with rfl | ⟨b, rfl⟩ | ⟨i, rfl⟩ | ⟨z, rfl, hz⟩
    · walk_at "s"
      exact ⟨_, _, _, _, false, rfl, .ty "str", .base .non, kit_ty (by decide +kernel), _, rfl, q0⟩
    · walk_at "s"
      exact ⟨_, _, _, _, false, rfl, .ty "str", .base (.bl b), kit_ty (by decide +kernel), _, rfl, q0⟩
    · walk_at "s"
      exact ⟨_, _, _, _, false, rfl, .ty "str", .base (.int i), kit_ty (by decide +kernel), _, rfl, q0⟩
    · walk_at "s"
      refine ⟨_, _, _, _, true, rfl, .ty "str", .base (.str z), kit_ty (by decide +kernel), _, rfl, ?_⟩
      walk_at "s"
      refine ⟨szl (Nat.le_trans hz.1 (by decide)), ?_⟩
      walk_at "s"
      refine ifD (fun c1 => ?_) (fun c1 => ?_)
      · walk_at "s"
        refine ifND (fun c2 => ?_) (fun c2 => ?_)
        · rw [isP_long c2] at q0
          exact q0
        · walk_at "s"
          intro D hD
          refine lc_signs (fun c => !letter c) hD hz.1 (fun v => rfl) (fun c H2 s2 Q2 q2 => ?_) (fun c H2 s2 Q2 q2 => ⟨_, rfl, q2⟩) (fun H2 s2 hDl => ?_)
          · rw [← notin_letter] at q2
            exact ⟨_, rfl, _, _, rfl, rfl, _, rfl, q2⟩
          · walk_at "s"
            refine ⟨Nat.zero_le _, fun D2 hD2 => ?_⟩
            have hf := flat_signs (l := z.cps.toList.filter fun c => !letter c) fun c hc => hz.2 c (List.mem_filter.mp hc).1
            refine ⟨_, .list [], .lst (SqL.of (by rw [upd_ne (ne_of_none hDl hD2)]; exact hDl)) (dpAll_flat hf), .lst (SqL.of upd_same) .nil, shaped_list hf, shaped_list (xs := []) (fun v hv => by cases hv), ?_⟩
            rw [eqv_nil, isEmpty_all, ← isP_mid c1 c2]
            exact q _ (Same.trans s2 (same_new hD2))
      · walk_at "s"
        refine ifT1 ?_
        rw [isP_short c1] at q0
        exact q0
end
/-! ### what is due, and need_journey -/
def spDue (K : PySem.W.Frag) : Sp := fun vs H Q _ => ∃ (l : Addr) (xs : List V), vs = [.ref l] ∧ SqL K H l xs ∧ xs.length ≤ 100 ∧ (∀ v ∈ xs, ask v) ∧ ∀ H', Same H H' → Q (.str (word (due xs))) H'
def spNeed (K : PySem.W.Frag) (P CP CJ : Addr) : Sp := fun vs H Q E => ∃ (l : Addr) (xs : List V), vs = [.ref l] ∧ SqL K H l xs ∧ xs.length ≤ 100 ∧ (∀ v ∈ xs, ask v) ∧ H P = some (TabO P) ∧
  (due xs = 0 → ∀ (p : Addr) (H' : Hp), H p = none → Same H H' → H' p = some (.lst xs) → Q (.ref p) H') ∧ (due xs = 1 → ∀ H', Same H H' → E (.ref CP) none H') ∧ (due xs = 2 → ∀ H', Same H H' → E (.ref CJ) none H')
abbrev s__law_due : Stmt := topS 17
abbrev N__law_due : List Str := ["_law_row_here", "_law_k"]
theorem sc__law_due : FnScope N__law_due ["_law_row_here"] (defScope s__law_due) := ⟨rfl, rfl, rfl, by decide +kernel, rfl, by decide +kernel, by decide +kernel⟩
abbrev s_need_journey : Stmt := topS 10
abbrev N_need_journey : List Str := ["places", "number", "place"]
theorem sc_need_journey : FnScope N_need_journey ["places"] (defScope s_need_journey) := ⟨rfl, rfl, rfl, by decide +kernel, rfl, by decide +kernel, by decide +kernel⟩
section
variable {Pg : Program} {w : World} {K : PySem.W.Frag} {mg : Str → Option Value} {base : Heap} {CF CP CJ : Addr}
theorem ok_due {f : Addr} {fd : FuncData} (F : Fun K "_law_due" "_law_due" s__law_due f fd) (T : Txt K mg CF CP CJ) (D_is_place : Dn Pg w K mg base 1 "_law_is_place" ["_law_thing"] spLIsPlace) : FnOk Pg w K mg base (L2.CX Pg w) 2 f fd ["_law_row_here"] (spDue K) := by
  refine F.okX sc__law_due (fun vs H Q E h => ?_) (fun cdv A outer s H vs Q E hr h => ?_)
  · obtain ⟨c, _, rfl, _⟩ := h
    rfl
  · obtain ⟨l, xs, rfl, hs, hlen, hask, q⟩ := h
    have PO : PassesOwn (model Pg w) (A.deeper (envOfC "_law_due" (defScope s__law_due) s.heap.objs.size f cdv)) (envOfC "_law_due" (defScope s__law_due) s.heap.objs.size f cdv) (cxOf (L2.CX Pg w) Pg w K mg base N__law_due "_law_due" (defScope s__law_due) f cdv A outer s H E).xe := passes_of rfl
    refine ⟨_, (pss_cons (ps_if (pt_not (pt_chain op_le op_le pe_int (pe_callB call_len_seq (by rfl) T.n_len (by decide +kernel) (pa_cons (pv 0) pa_nil)) pe_int)) (pss_one (ps_ret pe_str)) pss_nil)
      (pss_cons (ps_for PO rfl (pi_range1 (by rfl) T.n_range (pa_cons (pe_callB call_len_seq (by rfl) T.n_len (by decide +kernel) (pa_cons (pv 0) pa_nil)) pa_nil)) (pg_name (i := 1) sc__law_due.nd rfl (by first | exact Or.inl rfl | exact Or.inr rfl))
        (pss_cons (ps_if (pt_not (pt_val (pe_fn D_is_place (hr.mono (by decide)) (pa_cons (pe_ix ix_list (pv 0) (pv 1) (fun _ _ => rfl)) pa_nil)))) (pss_one (ps_ret pe_str)) pss_nil)
          (pss_one (ps_if (PW.pt (pw_and (pt_cmpR op_gt (pv 1) pe_int (nomark _)) (pw_and1 (pt_cmpR op_eq (pe_ix ix_list (pv 0) (pv 1) (fun _ _ => rfl)) (pe_ix ix_list (pv 0) (pe_op op_sub (pv 1) pe_int) (fun _ _ => rfl)) (nomark _))))) (pss_one (ps_ret pe_str)) pss_nil))))
      (pss_one (ps_ret pe_str)))), ?_⟩
    walk_at "s"
    refine ifD (fun c1 => ?_) (fun c1 => ?_)
    · walk_at "s"
      refine ifND (fun c2 => ?_) (fun c2 => ?_)
      · have e := due_out (xs := xs) (fun z => by omega)
        rw [e] at q
        exact q _ (Same.refl _)
      · walk_at "s"
        refine ⟨by omega, by omega, ?_⟩
        have e0 := due_in (xs := xs) (by omega) (by omega)
        refine for_range (fun i σ H' => ∃ kv, σ = [some (.ref l), kv] ∧ Same H H' ∧ dueAt xs i = due xs) ⟨none, rfl, Same.refl _, e0.symm⟩ ?_ ?_
        · rintro i σ H2 hi ⟨kv, rfl, s2, hd⟩
          have hil : i < xs.length := by omega
          have hs2 : SqL K H2 l xs := s2.seq hs
          have hx : xs[i]? = some xs[i] := List.getElem?_eq_getElem hil
          have hax := hask _ (List.getElem_mem hil)
          walk_at "s"
          refine ⟨_, _, _, _, rfl, rfl, hs2, atI_of (by omega) (by rw [show (0 + (i : Int)).toNat = i by omega]; exact hx), _, rfl, hax, fun H3 s3 => ?_⟩
          have hs3 : SqL K H3 l xs := s3.seq hs2
          walk_at "s"
          refine ifNB (fun c3 => ?_) (fun c3 => ?_)
          · have e1 := due_place hx c3
            rw [hd] at e1
            rw [e1] at q
            exact q _ (Same.trans s2 s3)
          · walk_at "s"
            refine ifD (fun c4 => ?_) (fun c4 => ?_)
            · walk_at "s"
              have hil2 : i - 1 < xs.length := by omega
              have hx2 : xs[i - 1]? = some xs[i - 1] := List.getElem?_eq_getElem hil2
              obtain ⟨z, hz⟩ := isP_str c3
              refine ⟨_, _, _, _, rfl, rfl, hs3, atI_of (by omega) (by rw [show (0 + (i : Int)).toNat = i by omega]; exact hx), ?_⟩
              walk_at "s"
              refine ⟨_, _, _, _, rfl, rfl, hs3, atI_of (by omega) (by rw [show (0 + (i : Int) - 1).toNat = i - 1 by omega]; exact hx2), (by rw [hz]; exact scal_str (hask _ (List.getElem_mem hil2))), ?_⟩
              walk_at "s"
              refine ifD (fun c5 => ?_) (fun c5 => ?_)
              · have e1 := due_same hx c3 (by omega) (by rw [hx2, c5])
                rw [hd] at e1
                rw [e1] at q
                exact q _ (Same.trans s2 s3)
              · exact ⟨_, rfl, Same.trans s2 s3, by rw [← hd]; exact (due_go hx c3 fun _ e => c5 (by rw [hx2] at e; exact (Option.some.inj e).symm)).symm⟩
            · exact ⟨_, rfl, Same.trans s2 s3, by rw [← hd]; exact (due_go hx c3 fun h0 => by omega).symm⟩
        · rintro σ H2 ⟨kv, rfl, s2, hd⟩
          have e1 : due xs = 0 := by
            rw [← hd]
            have e2 : (Int.toNat (xs.length : Int)) = xs.length := by omega
            rw [e2]; exact dueAt_end xs
          rw [e1] at q
          exact q _ s2
    · walk_at "s"
      refine ifT1 ?_
      have e := due_out (xs := xs) (fun z => by omega)
      rw [e] at q
      exact q _ (Same.refl _)
theorem ok_need {f P : Addr} {fd : FuncData} (F : Fun K "need_journey" "need_journey" s_need_journey f fd) (T : Txt K mg CF CP CJ) (D_is_place : Dn Pg w K mg base 2 "is_place" ["thing"] (spIsPlace P)) : FnOk Pg w K mg base (L2.CX Pg w) 3 f fd ["places"] (spNeed K P CP CJ) := by
  refine F.okX sc_need_journey (fun vs H Q E h => ?_) (fun cdv A outer s H vs Q E hr h => ?_)
  · obtain ⟨c, _, rfl, _⟩ := h
    rfl
  · obtain ⟨l, xs, rfl, hs, hlen, hask, hP, q0, q1, q2⟩ := h
    have PO : PassesOwn (model Pg w) (A.deeper (envOfC "need_journey" (defScope s_need_journey) s.heap.objs.size f cdv)) (envOfC "need_journey" (defScope s_need_journey) s.heap.objs.size f cdv) (cxOf (L2.CX Pg w) Pg w K mg base N_need_journey "need_journey" (defScope s_need_journey) f cdv A outer s H E).xe := passes_of rfl
    refine ⟨_, (pss_cons (ps_if (pt_not (pt_chain op_le op_le (pe_gint T.c_FEWEST_PLACES rfl) (pe_callB call_len_seq (by rfl) T.n_len (by decide +kernel) (pa_cons (pv 0) pa_nil)) (pe_gint T.c_MOST_PLACES rfl))) (pss_one (ps_raise rfl (takes_of rfl rfl rfl rfl) (SkE.pmk_own1 PySem.F.excBase_ValueError T.x_BadJourney.x T.x_BadJourney.g T.x_BadJourney.k (raises_own T.x_BadJourney.b T.x_BadJourney.t) rfl (pe_joined (PJ.cons pe_str (PJ.cons (pe_fmt (pe_gint T.c_FEWEST_PLACES rfl)) (PJ.cons pe_str (PJ.cons (pe_fmt (pe_gint T.c_MOST_PLACES rfl)) (PJ.cons pe_str PJ.nil))))))))) pss_nil)
      (pss_cons (ps_for PO rfl (pi_enum (by rfl) T.n_enumerate (pa_cons (pv 0) pa_nil)) (pg_tup rfl (pgs_cons (pg_name (i := 1) sc_need_journey.nd rfl (by first | exact Or.inl rfl | exact Or.inr rfl)) (pgs_cons (pg_name (i := 2) sc_need_journey.nd rfl (by first | exact Or.inl rfl | exact Or.inr rfl)) pgs_nil)))
        (pss_cons (ps_if (pt_not (pt_val (pe_fn D_is_place (hr.mono (by decide)) (pa_cons (pv 2) pa_nil)))) (pss_one (ps_raise rfl (takes_of rfl rfl rfl rfl) (SkE.pmk_own1 PySem.F.excBase_ValueError T.x_BadPlace.x T.x_BadPlace.g T.x_BadPlace.k (raises_own T.x_BadPlace.b T.x_BadPlace.t) rfl (pe_joined (PJ.cons pe_str (PJ.cons (pe_fmt (pv 1)) (PJ.cons pe_str PJ.nil))))))) pss_nil)
          (pss_one (ps_if (PW.pt (pw_and (pt_cmpR op_gt (pv 1) pe_int (nomark _)) (pw_and1 (pt_cmpR op_eq (pv 2) (pe_ix ix_list (pv 0) (pe_op op_sub (pv 1) pe_int) (fun _ _ => rfl)) (nomark _))))) (pss_one (ps_raise rfl (takes_of rfl rfl rfl rfl) (SkE.pmk_own1 PySem.F.excBase_ValueError T.x_BadJourney.x T.x_BadJourney.g T.x_BadJourney.k (raises_own T.x_BadJourney.b T.x_BadJourney.t) rfl (pe_joined (PJ.cons pe_str (PJ.cons (pe_fmt (pv 1)) (PJ.cons pe_str PJ.nil))))))) pss_nil))))
      (pss_one (ps_ret (pe_callTy call_list_of (by rfl) T.n_list (by decide +kernel) (pa_cons (pv 0) pa_nil)))))), ?_⟩
    walk_at "s"
    refine ifD (fun c1 => ?_) (fun c1 => ?_)
    · walk_at "s"
      refine ifND (fun c2 => ?_) (fun c2 => ?_)
      · walk_at "s"
        refine ⟨by decide +kernel, ?_⟩
        walk_at "s"
        refine .inr ⟨2, rfl, by decide, ?_⟩
        walk_at "s"
        refine ⟨by decide +kernel, ?_⟩
        walk_at "s"
        refine ⟨by decide +kernel, ?_⟩
        walk_at "s"
        refine .inr ⟨40, rfl, by decide, ?_⟩
        walk_at "s"
        refine ⟨by decide +kernel, ?_⟩
        walk_at "s"
        exact ⟨by decide +kernel, q2 (due_out fun z => by omega) _ (Same.refl _)⟩
      · have e0 := due_in (xs := xs) (by omega) (by omega)
        walk_at "s"
        refine ⟨_, _, rfl, hs, ?_⟩
        refine for_enum (K := K) (a := l) (xs := xs) (fun i σ H' => ∃ kv pv, σ = [some (.ref l), kv, pv] ∧ Same H H' ∧ dueAt xs i = due xs) ⟨none, none, rfl, Same.refl _, e0.symm⟩ (fun i σ H' _ ⟨_, _, _, s2, _⟩ => s2.seq hs) ?_ ?_
        · rintro i x σ H2 U hx ⟨kv, pv, rfl, s2, hd⟩ hU
          have hil : i < xs.length := (List.getElem?_eq_some_iff.mp hx).1
          have hax := hask x (List.mem_of_getElem? hx)
          have s3 : Same H (upd H2 U (.tup [.int (i : Nat), x])) := Same.trans s2 (same_new hU)
          have hs3 : SqL K (upd H2 U (.tup [.int (i : Nat), x])) l xs := s3.seq hs
          refine ⟨_, _, rfl, SqT.of upd_same, rfl, _, _, rfl, _, _, rfl, rfl, ?_⟩
          walk_at "s"
          refine ⟨hax, s3 _ _ hP, ?_⟩
          walk_at "s"
          refine ifNB (fun c3 => ?_) (fun c3 => ?_)
          · have e1 := due_place hx c3
            rw [hd] at e1
            have la : (Str.empty ++ Str.ofString "number ").length ≤ 50 := by decide +kernel
            have lb := lapp la (num_small i (by omega))
            have lc := lapp lb (show (Str.ofString " of the journey is no place").length ≤ 100 by decide +kernel)
            walk_at "s"
            refine ⟨szl (by omega), ?_⟩
            walk_at "s"
            refine .inr ⟨(i : Int), rfl, log_small (by omega), ?_⟩
            walk_at "s"
            refine ⟨szl (by omega), ?_⟩
            walk_at "s"
            refine ⟨szl (by omega), ?_⟩
            exact q1 e1 _ s3
          · walk_at "s"
            refine ifD (fun c4 => ?_) (fun c4 => ?_)
            · walk_at "s"
              have hil2 : i - 1 < xs.length := by omega
              have hx2 : xs[i - 1]? = some xs[i - 1] := List.getElem?_eq_getElem hil2
              obtain ⟨z, hz⟩ := isP_str c3
              refine ⟨_, _, _, _, rfl, rfl, hs3, atI_of (by omega) (by rw [show ((i : Int) - 1).toNat = i - 1 by omega]; exact hx2), (by rw [hz]; exact scal_str (hask _ (List.getElem_mem hil2))), ?_⟩
              walk_at "s"
              refine ifD (fun c5 => ?_) (fun c5 => ?_)
              · have e1 := due_same hx c3 (by omega) (by rw [hx2, c5])
                rw [hd] at e1
                have la : (Str.empty ++ Str.ofString "number ").length ≤ 50 := by decide +kernel
                have lb := lapp la (num_small i (by omega))
                have lc := lapp lb (show (Str.ofString " of the journey is the place right ahead of it").length ≤ 100 by decide +kernel)
                walk_at "s"
                refine ⟨szl (by omega), ?_⟩
                walk_at "s"
                refine .inr ⟨(i : Int), rfl, log_small (by omega), ?_⟩
                walk_at "s"
                refine ⟨szl (by omega), ?_⟩
                walk_at "s"
                refine ⟨szl (by omega), ?_⟩
                exact q2 e1 _ s3
              · exact ⟨_, _, rfl, s3, by rw [← hd]; exact (due_go hx c3 fun _ e => c5 (by rw [hx2] at e; exact (Option.some.inj e).symm)).symm⟩
            · exact ⟨_, _, rfl, s3, by rw [← hd]; exact (due_go hx c3 fun h0 => by omega).symm⟩
        · rintro σ H2 ⟨kv, pv, rfl, s2, hd⟩
          have e1 : due xs = 0 := by rw [← hd]; exact dueAt_end xs
          have hs2 : SqL K H2 l xs := s2.seq hs
          walk_at "s"
          intro p hp
          exact q0 e1 p _ (s2.free hp) (same_mut s2 (s2.free hp)) upd_same
    · walk_at "s"
      refine ⟨by decide +kernel, ?_⟩
      walk_at "s"
      refine .inr ⟨2, rfl, by decide, ?_⟩
      walk_at "s"
      refine ⟨by decide +kernel, ?_⟩
      walk_at "s"
      refine ⟨by decide +kernel, ?_⟩
      walk_at "s"
      refine .inr ⟨40, rfl, by decide, ?_⟩
      walk_at "s"
      refine ⟨by decide +kernel, ?_⟩
      walk_at "s"
      exact ⟨by decide +kernel, q2 (due_out fun z => by omega) _ (Same.refl _)⟩
end
end Fb

namespace Fb
open PySem PySem.Spec PyProof.Rows L2
local macro_rules | `(tactic| walk_at "s") => `(tactic| repeat (first | refine ⟨_, rfl, ?_⟩ | refine ⟨_, _, rfl, rfl, ?_⟩ | refine ⟨_, _, rfl, Or.inl (by assumption), ?_⟩ | refine ⟨rfl, ?_⟩ | refine ⟨(by decide : (0 : Int) < _), ?_⟩ | refine ⟨⟨by decide, by decide⟩, ?_⟩ | refine ⟨_, _, _, rfl, (by assumption), (by first | decide | omega), ?_⟩))
/-! ### the law -/
def spLaw (K : PySem.W.Frag) (P : Addr) : Sp := fun vs H Q _ => ∃ (l : Addr) (ns : List Int), vs = [.ref l] ∧ SqL K H l (ns.map V.int) ∧ H P = some (TabO P) ∧ ∀ H', H' P = some (TabO P) → Q (.bl true) H'
abbrev s_law : Stmt := topS 18
abbrev N_law : List Str := ["_law_script", "_law_row_here", "_law_kind", "_law_turn", "_law_at", "_law_cell", "_law_handed", "_law_due_here", "_law_found", "error", "_law_told"]
theorem sc_law : FnScope N_law ["_law_script"] (defScope s_law) := ⟨rfl, rfl, rfl, by decide +kernel, rfl, by decide +kernel, by decide +kernel⟩
section
variable {Pg : Program} {w : World} {K : PySem.W.Frag} {mg : Str → Option Value} {base : Heap} {CF CP CJ : Addr}
theorem ok_law {f P : Addr} {fd : FuncData} (F : Fun K "law" "law" s_law f fd) (T : Txt K mg CF CP CJ) (D_cell_at : Dn Pg w K mg base 1 "_law_cell_at" ["_law_script", "_law_k"] (spCell K)) (D_place : Dn Pg w K mg base 1 "_law_place" ["_law_cell"] spPlace)
    (D_row : Dn Pg w K mg base 2 "_law_row" ["_law_script"] (spRow K)) (D_bad : Dn Pg w K mg base 1 "_law_bad" ["_law_cell", "_law_name"] spBad) (D_due : Dn Pg w K mg base 2 "_law_due" ["_law_row_here"] (spDue K))
    (D_need_journey : Dn Pg w K mg base 3 "need_journey" ["places"] (spNeed K P CP CJ)) : FnOk Pg w K mg base (L2.CX Pg w) 4 f fd ["_law_script"] (spLaw K P) := by
  refine F.okX sc_law (fun vs H Q E h => ?_) (fun cdv A outer s H vs Q E hr h => ?_)
  · obtain ⟨c, _, rfl, _⟩ := h
    rfl
  · obtain ⟨l, ns, rfl, hs, hP, q⟩ := h
    have PO : PassesOwn (model Pg w) (A.deeper (envOfC "law" (defScope s_law) s.heap.objs.size f cdv)) (envOfC "law" (defScope s_law) s.heap.objs.size f cdv) (cxOf (L2.CX Pg w) Pg w K mg base N_law "law" (defScope s_law) f cdv A outer s H E).xe := passes_of rfl
    refine ⟨_, (pss_cons (ps_set (i := 1) sc_law.nd rfl (by first | exact Or.inl rfl | exact Or.inr rfl) (pe_fn D_row (hr.mono (by decide)) (pa_cons (pv 0) pa_nil)))
      (pss_cons (ps_set (i := 2) sc_law.nd rfl (by first | exact Or.inl rfl | exact Or.inr rfl) (pe_op op_mod (pe_fn D_cell_at (hr.mono (by decide)) (pa_cons (pv 0) (pa_cons pe_int pa_nil))) pe_int))
      (pss_cons (ps_for PO rfl (pi_range1 (by rfl) T.n_range (pa_cons (pv 2) pa_nil)) (pg_name (i := 3) sc_law.nd rfl (by first | exact Or.inl rfl | exact Or.inr rfl))
        (pss_one (ps_if (pt_cmpR op_gt (pe_callB call_len_seq (by rfl) T.n_len (by decide +kernel) (pa_cons (pv 1) pa_nil)) pe_int (nomark _)) (pss_cons (ps_set (i := 4) sc_law.nd rfl (by first | exact Or.inl rfl | exact Or.inr rfl) (pe_op op_mod (pe_fn D_cell_at (hr.mono (by decide)) (pa_cons (pv 0) (pa_cons (pe_op op_add pe_int (pv 3)) pa_nil))) (pe_callB call_len_seq (by rfl) T.n_len (by decide +kernel) (pa_cons (pv 1) pa_nil))))
            (pss_cons (ps_set (i := 5) sc_law.nd rfl (by first | exact Or.inl rfl | exact Or.inr rfl) (pe_fn D_cell_at (hr.mono (by decide)) (pa_cons (pv 0) (pa_cons (pe_op op_sub pe_int (pv 3)) pa_nil))))
            (pss_one (ps_if (PW.pt (pw_or (pt_cmpR op_eq (pv 4) pe_int (nomark _)) (pw_or1 (pt_cmpR op_eq (pe_op op_mod (pe_op op_fdiv (pe_fn D_cell_at (hr.mono (by decide)) (pa_cons (pv 0) (pa_cons pe_int pa_nil))) (pe_op op_add pe_int (pv 3))) pe_int) pe_int (nomark _))))) (pss_one (ps_asg (pe_fn D_bad (hr.mono (by decide)) (pa_cons (pv 5) (pa_cons (pe_fn D_place (hr.mono (by decide)) (pa_cons (pe_op op_fdiv (pv 5) pe_int) pa_nil)) pa_nil))) (pg_sub (pv 1) (pv 4) set_list))) (pss_one (ps_asg (pe_ix ix_list (pv 1) (pe_op op_sub (pv 4) pe_int) (fun _ _ => rfl)) (pg_sub (pv 1) (pv 4) set_list))))))) pss_nil)))
      (pss_cons (ps_set (i := 6) sc_law.nd rfl (by first | exact Or.inl rfl | exact Or.inr rfl) (pe_callTy call_list_of (by rfl) T.n_list (by decide +kernel) (pa_cons (pv 1) pa_nil)))
      (pss_cons (ps_set (i := 7) sc_law.nd rfl (by first | exact Or.inl rfl | exact Or.inr rfl) (pe_fn D_due (hr.mono (by decide)) (pa_cons (pv 1) pa_nil)))
      (pss_cons (ps_try_as (i := 9) rfl rfl sc_law.nd rfl rfl ⟨rfl, by decide, .inl T.x_FareError.g⟩ takes0
        (fun W pn xe tk PO => (pss_one (ps_set (i := 8) sc_law.nd rfl (by first | exact Or.inl rfl | exact Or.inr rfl) (pe_fnS D_need_journey (hr.mono (by decide)) (fun σ => passAt tk σ) (pa_cons (pv 6) pa_nil)))))
        (fun a_e oe cls d pn hz hf => (pss_cons (ps_set (i := 10) sc_law.nd rfl (by first | exact Or.inl rfl | exact Or.inr rfl) (pe_ix (ix_listS (K := K)) (pe_lst (pa_cons pe_str (pa_cons pe_str pa_nil))) (pe_callTy call_int1 (by rfl) T.n_int (by decide +kernel) (pa_cons (pe_callB (call_isG hz hf) (by rfl) T.n_isinstance (by decide +kernel) (pa_cons (pv 9) (pa_cons (pe_cls T.x_BadJourney.g) pa_nil))) pa_nil)) (fun _ _ => rfl)))
          (pss_cons (ps_if (PW.pt (pw_or (pt_cmpR op_eq (pe_callB (call_isG hz hf) (by rfl) T.n_isinstance (by decide +kernel) (pa_cons (pv 9) (pa_cons (pe_cls T.x_BadPlace.g) pa_nil))) (pe_callB (call_isG hz hf) (by rfl) T.n_isinstance (by decide +kernel) (pa_cons (pv 9) (pa_cons (pe_cls T.x_BadJourney.g) pa_nil))) (nomark _)) (pw_or1 (pt_not (pt_val (pe_callB (call_isG hz hf) (by rfl) T.n_isinstance (by decide +kernel) (pa_cons (pv 9) (pa_cons (pe_bty (n := "ValueError") T.n_ValueError (by decide +kernel)) pa_nil)))))))) (pss_one (ps_ret pe_bl)) pss_nil)
          (pss_one (ps_ret (pe_and (pe_cmpR op_eq (pv 10) (pv 7) (nomark _)) (pe_one (pe_cmpR (op_eqS (K := K) hr.units) (pv 6) (pv 1) (nomark _))))))))))
      (pss_cons (ps_if (PW.pt (pw_or (pt_not (pt_val (pe_callB call_isi (by rfl) T.n_isinstance (by decide +kernel) (pa_cons (pv 8) (pa_cons (pe_bty (n := "list") T.n_list (by decide +kernel)) pa_nil))))) (pw_or (pt_cmpR op_ne (pv 7) pe_str (nomark _)) (pw_or1 (pt_cmpR (op_neD hr.units) (pv 8) (pv 1) (nomark _)))))) (pss_one (ps_ret pe_bl)) pss_nil)
      (pss_cons (ps_expr (pe_bm PySem.F.plainAttrs_list PySem.F.slot_list_append PySem.F.type_list_append mt_append (pv 8) (pa_cons pe_str pa_nil)))
      (pss_one (ps_ret (pe_cmpR (op_eqD hr.units) (pv 6) (pv 1) (nomark _)))))))))))), ?_⟩
    walk_at "s"
    refine ⟨_, _, rfl, hs, fun p H1 xs0 hp s1 hpx0 hxl0 hxo0 => ?_⟩
    have hs1 : SqL K H1 l (ns.map V.int) := s1.seq hs
    walk_at "s"
    refine ⟨by omega, by omega, ?_⟩
    refine for_range (fun i σ H' => ∃ xs kv av cv, σ = [some (.ref l), some (.ref p), some (.int (cel ns 1 % 3)), kv, av, cv, none, none, none, none, none] ∧ Same H H' ∧ H' p = some (.lst xs) ∧ xs.length ≤ 42 ∧ ∀ v ∈ xs, thing v)
      ⟨xs0, none, none, none, rfl, s1, hpx0, hxl0, fun v hv => by obtain ⟨z, hz, hk⟩ := hxo0 v hv; exact .inr (.inr ⟨z, hz, hk.mono (by decide)⟩)⟩ ?_ ?_
    · rintro i σ H2 hi ⟨xs, kv, av, cv, rfl, s2, hpx, hxl, hxo⟩
      have hs2 : SqL K H2 l (ns.map V.int) := s2.seq hs
      have hp2 : SqL K H2 p xs := SqL.of hpx
      walk_at "s"
      refine ifD (fun c1 => ?_) (fun c1 => ?_)
      · walk_at "s"
        refine ⟨by omega, ?_⟩
        walk_at "s"
        have m0 : 0 ≤ cel ns (2 + (0 + (i : Int))) % (xs.length : Int) := Int.emod_nonneg _ (by omega)
        have m1 : cel ns (2 + (0 + (i : Int))) % (xs.length : Int) < (xs.length : Int) := Int.emod_lt_of_pos _ (by omega)
        refine ifD (fun c2 => ?_) (fun c2 => ?_)
        · walk_at "s"
          intro zp H3 hzp s3
          walk_at "s"
          refine ⟨_, _, rfl, hzp.mono (by decide), fun v H4 hv s4 => ?_⟩
          have hpx4 := s4 _ _ (s3 _ _ hpx)
          walk_at "s"
          refine ⟨_, _, _, _, rfl, rfl, hpx4, ixN_of (by omega) (by omega), ?_⟩
          refine ⟨_, _, _, _, rfl, same_mut (Same.trans s2 (Same.trans s3 s4)) hp, upd_same, by rw [List.length_set]; exact hxl, fun u hu => ?_⟩
          rcases List.mem_or_eq_of_mem_set hu with h1 | h1
          · exact hxo u h1
          · rw [h1]; exact hv
        · walk_at "s"
          refine ⟨⟨by omega, by omega⟩, ?_⟩
          walk_at "s"
          refine ifD (fun c3 => ?_) (fun c3 => ?_)
          · walk_at "s"
            intro zp H3 hzp s3
            walk_at "s"
            refine ⟨_, _, rfl, hzp.mono (by decide), fun v H4 hv s4 => ?_⟩
            have hpx4 := s4 _ _ (s3 _ _ hpx)
            walk_at "s"
            refine ⟨_, _, _, _, rfl, rfl, hpx4, ixN_of (by omega) (by omega), ?_⟩
            refine ⟨_, _, _, _, rfl, same_mut (Same.trans s2 (Same.trans s3 s4)) hp, upd_same, by rw [List.length_set]; exact hxl, fun u hu => ?_⟩
            rcases List.mem_or_eq_of_mem_set hu with h1 | h1
            · exact hxo u h1
            · rw [h1]; exact hv
          · walk_at "s"
            have c2' : ¬ (cel ns (2 + (0 + (i : Int))) % (xs.length : Int)) = 0 := fun z => c2 (congrArg V.int z)
            obtain ⟨v, hv, hm⟩ := atI_mem (xs := xs) (i := cel ns (2 + (0 + (i : Int))) % (xs.length : Int) - 1) (by omega) (by omega)
            refine ⟨_, _, _, _, rfl, rfl, SqL.of hpx, hv, ?_⟩
            walk_at "s"
            refine ⟨_, _, _, _, rfl, rfl, hpx, ixN_of (by omega) (by omega), ?_⟩
            refine ⟨_, _, _, _, rfl, same_mut s2 hp, upd_same, by rw [List.length_set]; exact hxl, fun u hu => ?_⟩
            rcases List.mem_or_eq_of_mem_set hu with h1 | h1
            · exact hxo u h1
            · rw [h1]; exact hxo v hm
      · exact ⟨_, _, _, _, rfl, s2, hpx, hxl, hxo⟩
    · rintro σ H2 ⟨xs, kv, av, cv, rfl, s2, hpx, hxl, hxo⟩
      have hask : ∀ v ∈ xs, ask v := fun v hv => by
        rcases hxo v hv with h | h | ⟨z, h, hz⟩
        · exact .inl h
        · exact .inr (.inr (.inl ⟨_, h⟩))
        · exact .inr (.inr (.inr ⟨z, h, hz.mono (by decide)⟩))
      have hflat : ∀ v ∈ xs, flat v := fun v hv => ask_flat (hask v hv)
      have hp2 : SqL K H2 p xs := SqL.of hpx
      walk_at "s"
      intro g hg
      have s3 : Same H (upd H2 g (.lst xs)) := same_mut s2 (s2.free hg)
      have hpx3 : upd H2 g (.lst xs) p = some (.lst xs) := by rw [upd_ne (ne_of_none hpx hg)]; exact hpx
      have hgx3 : upd H2 g (.lst xs) g = some (.lst xs) := upd_same
      have hp3 : SqL K (upd H2 g (.lst xs)) p xs := SqL.of hpx3
      have hg3 : SqL K (upd H2 g (.lst xs)) g xs := SqL.of hgx3
      walk_at "s"
      refine ⟨_, _, rfl, hp3, by omega, hask, fun H4 s4 => ?_⟩
      walk_at "s"
      refine ⟨_, _, rfl, s4.seq hg3, by omega, hask, s4 _ _ (s3 _ _ hP), fun d pf H5 hpf s5 hf5 => ?_, fun d H5 s5 => ?_, fun d H5 s5 => ?_⟩
      · have hpx5 := s5 _ _ (s4 _ _ hpx3)
        have hgx5 := s5 _ _ (s4 _ _ hgx3)
        have hP5 := s5 _ _ (s4 _ _ (s3 _ _ hP))
        have ew : word (due xs) = Str.ofString "" := by rw [d]; rfl
        rw [ew]
        walk_at "s"
        refine ⟨_, _, _, _, true, rfl, .ty "list", .base (.lst hf5), kit_ty (by decide +kernel), ?_⟩
        walk_at "s"
        refine ⟨_, _, .lst (SqL.of hf5) (dpAll_flat hflat), .lst (SqL.of hpx5) (dpAll_flat hflat), shaped_list hflat, shaped_list hflat, ?_⟩
        rw [eqv_self (shaped_list hflat)]
        walk_at "s"
        refine ⟨.inl ⟨rfl, _, SqL.of hf5⟩, _, _, _, rfl, rfl, hf5, szlt (by omega), ?_⟩
        have npf : ∀ b o, H b = some o → b ≠ pf := fun b o e z => by
          have h9 := s4 _ _ (s3 _ _ e)
          rw [z, hpf] at h9; cases h9
        have hpx6 : upd H5 pf (.lst (xs ++ [.str (Str.ofString "x")])) p = some (.lst xs) := by rw [upd_ne (ne_of_none (s4 _ _ hpx3) hpf)]; exact hpx5
        have hgx6 : upd H5 pf (.lst (xs ++ [.str (Str.ofString "x")])) g = some (.lst xs) := by rw [upd_ne (ne_of_none (s4 _ _ hgx3) hpf)]; exact hgx5
        walk_at "s"
        refine ⟨_, _, .lst (SqL.of hgx6) (dpAll_flat hflat), .lst (SqL.of hpx6) (dpAll_flat hflat), shaped_list hflat, shaped_list hflat, ?_⟩
        rw [eqv_self (shaped_list hflat)]
        exact q _ (by rw [upd_ne (npf _ _ hP)]; exact hP5)
      · refine ⟨true, T.e_P, fun _ a ha => ?_, fun z => nomatch z⟩
        have hpx5 := s5 _ _ (s4 _ _ hpx3)
        have hgx5 := s5 _ _ (s4 _ _ hgx3)
        have hP5 := s5 _ _ (s4 _ _ (s3 _ _ hP))
        have ew : word (due xs) = Str.ofString "place" := by rw [d]; rfl
        rw [ew]
        walk_at "s"
        refine ⟨(by show 2 ≤ sizeLine; decide), fun u hu => ?_⟩
        have hpx6 : upd H5 u (.lst [.str (Str.ofString "place"), .str (Str.ofString "journey")]) p = some (.lst xs) := by rw [upd_ne (ne_of_none hpx5 hu)]; exact hpx5
        have hgx6 : upd H5 u (.lst [.str (Str.ofString "place"), .str (Str.ofString "journey")]) g = some (.lst xs) := by rw [upd_ne (ne_of_none hgx5 hu)]; exact hgx5
        have hP6 : upd H5 u (.lst [.str (Str.ofString "place"), .str (Str.ofString "journey")]) P = some (TabO P) := by rw [upd_ne (ne_of_none hP5 hu)]; exact hP5
        walk_at "s"
        refine ⟨_, _, _, false, rfl, rfl, rfl, T.i_P, rel_cls, T.k_PJ, ?_⟩
        walk_at "s"
        refine .inr ⟨_, rfl, ?_⟩
        refine ⟨_, _, _, _, rfl, rfl, SqL.of upd_same, rfl, ?_⟩
        walk_at "s"
        refine ⟨_, _, _, true, rfl, rfl, rfl, T.i_P, rel_cls, T.k_PP, ?_⟩
        walk_at "s"
        refine ⟨_, _, _, false, rfl, rfl, rfl, T.i_P, rel_cls, T.k_PJ, ?_⟩
        walk_at "s"
        refine ⟨_, _, _, true, rfl, rfl, rfl, T.i_P, rel_ty, T.k_PV, ?_⟩
        walk_at "s"
        refine ⟨_, _, .lst (SqL.of hgx6) (dpAll_flat hflat), .lst (SqL.of hpx6) (dpAll_flat hflat), shaped_list hflat, shaped_list hflat, ?_⟩
        rw [eqv_self (shaped_list hflat)]
        exact q _ hP6
      · refine ⟨true, T.e_J, fun _ a ha => ?_, fun z => nomatch z⟩
        have hpx5 := s5 _ _ (s4 _ _ hpx3)
        have hgx5 := s5 _ _ (s4 _ _ hgx3)
        have hP5 := s5 _ _ (s4 _ _ (s3 _ _ hP))
        have ew : word (due xs) = Str.ofString "journey" := by rw [d]; rfl
        rw [ew]
        walk_at "s"
        refine ⟨(by show 2 ≤ sizeLine; decide), fun u hu => ?_⟩
        have hpx6 : upd H5 u (.lst [.str (Str.ofString "place"), .str (Str.ofString "journey")]) p = some (.lst xs) := by rw [upd_ne (ne_of_none hpx5 hu)]; exact hpx5
        have hgx6 : upd H5 u (.lst [.str (Str.ofString "place"), .str (Str.ofString "journey")]) g = some (.lst xs) := by rw [upd_ne (ne_of_none hgx5 hu)]; exact hgx5
        have hP6 : upd H5 u (.lst [.str (Str.ofString "place"), .str (Str.ofString "journey")]) P = some (TabO P) := by rw [upd_ne (ne_of_none hP5 hu)]; exact hP5
        walk_at "s"
        refine ⟨_, _, _, true, rfl, rfl, rfl, T.i_J, rel_cls, T.k_JJ, ?_⟩
        walk_at "s"
        refine .inr ⟨_, rfl, ?_⟩
        refine ⟨_, _, _, _, rfl, rfl, SqL.of upd_same, rfl, ?_⟩
        walk_at "s"
        refine ⟨_, _, _, false, rfl, rfl, rfl, T.i_J, rel_cls, T.k_JP, ?_⟩
        walk_at "s"
        refine ⟨_, _, _, true, rfl, rfl, rfl, T.i_J, rel_cls, T.k_JJ, ?_⟩
        walk_at "s"
        refine ⟨_, _, _, true, rfl, rfl, rfl, T.i_J, rel_ty, T.k_JV, ?_⟩
        walk_at "s"
        refine ⟨_, _, .lst (SqL.of hgx6) (dpAll_flat hflat), .lst (SqL.of hpx6) (dpAll_flat hflat), shaped_list hflat, shaped_list hflat, ?_⟩
        rw [eqv_self (shaped_list hflat)]
        exact q _ hP6
end
end Fb

namespace Fb
open PySem PySem.Spec PyProof.Rows L2
theorem all_mk {Pg : Program} {w : World} {K : PySem.W.Frag} {h : Heap} {mg : Str → Option Value} {fa CF CP CJ fP fN fC fL fR fB fI fD fW c P : Addr} {l : PySem.W.OpenLaw} (hl : l.prog = Pg) (X : K.In h) (G : h.Ns mainGlobals mg) (hfa : mg "law" = some (.ref fa)) (tabs : ∀ g ∈ (["is_place"] : List Str), TabN mg h g)
    (eF : EA K "FareError" CF) (eP : EA K "BadPlace" CP) (eJ : EA K "BadJourney" CJ)
    (sPF : PySem.W.subIn K (.ref CP) (.ref CF) = some true) (sJF : PySem.W.subIn K (.ref CJ) (.ref CF) = some true) (sPJ : PySem.W.subIn K (.ref CP) (.ref CJ) = some false) (sJP : PySem.W.subIn K (.ref CJ) (.ref CP) = some false)
    (nPJ : (Value.ref CP == Value.ref CJ) = false) (nJP : (Value.ref CJ == Value.ref CP) = false)
    (g1 : ∃ t, PySem.W.nsIn K mainGlobals "LONGEST_PLACE" = some (some (.int 12 t))) (g2 : ∃ t, PySem.W.nsIn K mainGlobals "FEWEST_PLACES" = some (some (.int 2 t))) (g3 : ∃ t, PySem.W.nsIn K mainGlobals "MOST_PLACES" = some (some (.int 40 t)))
    (n1 : PySem.W.nsIn K mainGlobals "isinstance" = some none) (n2 : PySem.W.nsIn K mainGlobals "str" = some none) (n3 : PySem.W.nsIn K mainGlobals "len" = some none) (n4 : PySem.W.nsIn K mainGlobals "range" = some none) (n5 : PySem.W.nsIn K mainGlobals "enumerate" = some none)
    (n6 : PySem.W.nsIn K mainGlobals "list" = some none) (n7 : PySem.W.nsIn K mainGlobals "int" = some none) (n8 : PySem.W.nsIn K mainGlobals "all" = some none) (n9 : PySem.W.nsIn K mainGlobals "ValueError" = some none)
    (aP : FAC K "is_place" s_is_place fP c P) (aN : FA K "need_journey" s_need_journey fN) (aC : FA K "_law_cell_at" s__law_cell_at fC) (aL : FA K "_law_place" s__law_place fL) (aR : FA K "_law_row" s__law_row fR)
    (aB : FA K "_law_bad" s__law_bad fB) (aI : FA K "_law_is_place" s__law_is_place fI) (aD : FA K "_law_due" s__law_due fD) (aW : FA K "law" s_law fW) : LawT l w K 4 63 "_law_script" mg fa h := by
  have e := hfa.symm.trans (PySem.W.mg_of X G aW.a)
  cases e
  have T : Txt K mg CF CP CJ :=
    { n_isinstance := PySem.W.mg_none_of X G n1, n_str := PySem.W.mg_none_of X G n2, n_len := PySem.W.mg_none_of X G n3, n_range := PySem.W.mg_none_of X G n4, n_enumerate := PySem.W.mg_none_of X G n5, n_list := PySem.W.mg_none_of X G n6, n_int := PySem.W.mg_none_of X G n7, n_all := PySem.W.mg_none_of X G n8, n_ValueError := PySem.W.mg_none_of X G n9
      x_BadPlace := eP.exk X G, x_BadJourney := eJ.exk X G, x_FareError := eF.exk X G, e_P := eF.exm sPF, e_J := eF.exm sJF, i_P := eP.exc, i_J := eJ.exc, k_PP := kit_self, k_PJ := eJ.kit sPJ nPJ, k_JP := eP.kit sJP nJP, k_JJ := kit_self, k_PV := eP.kitV, k_JV := eJ.kitV
      c_LONGEST_PLACE := FA.gint X G g1, c_FEWEST_PLACES := FA.gint X G g2, c_MOST_PLACES := FA.gint X G g3 }
  obtain ⟨hT, hC⟩ := aP.tab X G (tabs _ List.mem_cons_self)
  obtain ⟨oc, od, kV, dc, pm, an, cd, ct, osl, lL, cL⟩ := aW.l
  refine ⟨PySem.W.fnOf "law" "law" (defArgs s_law) (defBody s_law) (defScope s_law) .none kV dc pm an cd ct, [(c, P)], spLaw K P, fun p hp => ?_, fun p hp => ?_, fun p hp => ?_, fun s u => .of_eq rfl, fun H a ns _ _ hP hS => ?_, fun base hb hn hB => ?_⟩
  · rw [List.mem_singleton.mp hp]; exact hT
  · rw [List.mem_singleton.mp hp]; exact aP.n
  · rw [List.mem_singleton.mp hp]; exact hC
  · exact ⟨a, ns, rfl, hS, hP _ List.mem_cons_self, fun H' hP' => ⟨fun p hp => by rw [List.mem_singleton.mp hp]; exact hP', rfl⟩⟩
  · subst hl
    have TB := hB _ List.mem_cons_self
    have D1 : Dn l.prog w K mg base 2 "is_place" ["thing"] (spIsPlace P) := aP.dn X G (fun _ F => ok_is_place F T TB) fun _ _ _ _ _ _ us hl => match us, hl with | [_], _ => rfl
    have D2 : Dn l.prog w K mg base 3 "need_journey" ["places"] (spNeed K P CP CJ) := aN.dn X G (fun _ F => ok_need F T D1) fun _ _ _ _ _ _ us hl => match us, hl with | [_], _ => rfl
    have D3 : Dn l.prog w K mg base 1 "_law_cell_at" ["_law_script", "_law_k"] (spCell K) := aC.dn X G (fun _ F => ok_cell F T) fun _ _ _ _ _ _ us hl => match us, hl with | [_, _], _ => rfl
    have D4 : Dn l.prog w K mg base 1 "_law_place" ["_law_cell"] spPlace := aL.dn X G (fun _ F => ok_place F T) fun _ _ _ _ _ _ us hl => match us, hl with | [_], _ => rfl
    have D5 : Dn l.prog w K mg base 2 "_law_row" ["_law_script"] (spRow K) := aR.dn X G (fun _ F => ok_row F T D3 D4) fun _ _ _ _ _ _ us hl => match us, hl with | [_], _ => rfl
    have D6 : Dn l.prog w K mg base 1 "_law_bad" ["_law_cell", "_law_name"] spBad := aB.dn X G (fun _ F => ok_bad F T) fun _ _ _ _ _ _ us hl => match us, hl with | [_, _], _ => rfl
    have D7 : Dn l.prog w K mg base 1 "_law_is_place" ["_law_thing"] spLIsPlace := aI.dn X G (fun _ F => ok_lis_place F T) fun _ _ _ _ _ _ us hl => match us, hl with | [_], _ => rfl
    have D8 : Dn l.prog w K mg base 2 "_law_due" ["_law_row_here"] (spDue K) := aD.dn X G (fun _ F => ok_due F T D7) fun _ _ _ _ _ _ us hl => match us, hl with | [_], _ => rfl
    exact ok_law (fun_mk (st := s_law) lL cL aW.k) T D3 D4 D5 D6 D8 D2
end Fb
open PySem PySem.W PyProof.Rows
set_option maxRecDepth 100000 in
set_option maxHeartbeats 0 in
theorem PySem.Challenge.cw_farebreak_k03_journeys_holds : PySem.Challenge.rw_farebreak_k03_journeys.Holds := by
  w_on; o_law; k_head; (case hw => w_witness2)
  k_fill
  refine Fb.walk_tab (l := PySem.Challenge.rw_farebreak_k03_journeys) (n := 63) (k := 4) (x := "_law_script") ["is_place"] rfl (by decide) rfl ⟨rfl, by decide, by decide⟩ (fun g hg => ?R) (fun w h Y => PySem.W.kIn_of Y) ?F
  case R =>
    rw [List.mem_singleton.mp hg]
    first | decide +kernel | rfl
  case F =>
    intro w mg fa h Y KX G hmg tabs
    refine' Fb.all_mk (l := PySem.Challenge.rw_farebreak_k03_journeys) rfl KX G hmg tabs ?eF ?eP ?eJ ?sPF ?sJF ?sPJ ?sJP ?nPJ ?nJP ?g1 ?g2 ?g3 ?n1 ?n2 ?n3 ?n4 ?n5 ?n6 ?n7 ?n8 ?n9 ?aP ?aN ?aC ?aL ?aR ?aB ?aI ?aD ?aW
    (case eF => exact Fb.EA.mk (by k_is) (by k_is) (by k_exc) (by k_is) (by k_is) (by k_is) (by k_is) (by k_is) (by k_is) (by k_is) (by k_is) (by k_is) (by k_is) (by k_is)); (case eP => exact Fb.EA.mk (by k_is) (by k_is) (by k_exc) (by k_is) (by k_is) (by k_is) (by k_is) (by k_is) (by k_is) (by k_is) (by k_is) (by k_is) (by k_is) (by k_is)); (case eJ => exact Fb.EA.mk (by k_is) (by k_is) (by k_exc) (by k_is) (by k_is) (by k_is) (by k_is) (by k_is) (by k_is) (by k_is) (by k_is) (by k_is) (by k_is) (by k_is))
    (case sPF => k_is); (case sJF => k_is); (case sPJ => k_is); (case sJP => k_is)
    (case nPJ => first | rfl | decide); (case nJP => first | rfl | decide)
    (case g1 => exact Fb.gi_mk (by k_is)); (case g2 => exact Fb.gi_mk (by k_is)); (case g3 => exact Fb.gi_mk (by k_is))
    (case n1 => k_is); (case n2 => k_is); (case n3 => k_is); (case n4 => k_is); (case n5 => k_is); (case n6 => k_is); (case n7 => k_is); (case n8 => k_is); (case n9 => k_is)
    (case aN => exact Fb.fa_mk (by k_is) (by k_is) (by k_is) (by k_is)); (case aC => exact Fb.fa_mk (by k_is) (by k_is) (by k_is) (by k_is)); (case aL => exact Fb.fa_mk (by k_is) (by k_is) (by k_is) (by k_is)); (case aR => exact Fb.fa_mk (by k_is) (by k_is) (by k_is) (by k_is)); (case aB => exact Fb.fa_mk (by k_is) (by k_is) (by k_is) (by k_is)); (case aI => exact Fb.fa_mk (by k_is) (by k_is) (by k_is) (by k_is)); (case aD => exact Fb.fa_mk (by k_is) (by k_is) (by k_is) (by k_is)); (case aW => exact Fb.fa_mk (by k_is) (by k_is) (by k_is) (by k_is))
    (case aP => exact Fb.fac_mk (by k_is) (by k_is) (by k_is) (by k_is) (by k_is) (by rfl) (by first | rfl | decide +kernel))
#print axioms PySem.Challenge.cw_farebreak_k03_journeys_holds
