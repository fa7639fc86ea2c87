import PyProof.Rows.All
import HandS.ExcCtx
import Wide.All
import OpenK.AllK
import Wide.FinOn
import HandS.ForMost
import HandS.Exc
import HandS.ExcOwn
import HandS.TryOnly
import HandS.WordsExc
import HandS.FStr
import HandS.RaiseMore
import HandS.ExcIs
import HandS.IsInst
import HandS.AnyAll
import HandS.EndTab
import HandS.EndOwn
import HandS.Wide
import HandS.Evl
import HandS.Codes
import HandS.DictTup
import HandS.TupLen
import HandS.CallSlots
import HandS.HotCalls
import HandS.SetKeys
import HandS.RevRange
import HandS.Strs
import HandS.Style
import PySem.Challenge.RW_farebreak_k13_no_journeys
set_option Elab.async false
set_option linter.all false
set_option maxRecDepth 100000
set_option maxHeartbeats 2000000
/-! own tools over the hand layer -/
namespace Fb
open PySem PySem.Spec PyProof.Rows L2

/-! ### a code object's table as an object that only is what it is -/
def TabP (P : Addr) : Heap → Prop := fun h => ∃ ps : Array Value, h.get? P = some { cls := .none, data := .fields ps } ∧ TriplesOk ps.toList
def TabO (P : Addr) : HO := .ext (TabP P)
theorem tabO_ok {Pg : Program} {w : World} {H : Hp} {h : Heap} {P : Addr} {ps : Array Value} (e : h.get? P = some { cls := .none, data := .fields ps }) (t : TriplesOk ps.toList) : ObjOk Pg w H h P (TabO P) :=
  ⟨⟨ps, e, t⟩, ⟨_, e⟩, fun h1 h2 ⟨qs, e1, t1⟩ k => ⟨qs, k _ e1, t1⟩⟩
theorem mut_tabO {P : Addr} : Mut (some (TabO P)) := trivial
section
variable {X : Cx} {pins : List (Addr × Obj)} {σ : L2.St} {H H2 : Hp} {s s' : Shared} {P : Addr}
/-- from the table as such to the table by its fields -/
theorem tab_open (I : Inv X pins σ H s) (hP : H P = some (TabO P)) : ∃ ps : Array Value, TriplesOk ps.toList ∧ Inv X pins σ (upd H P (.tbl ps)) s := by
  obtain ⟨⟨ps, e, t⟩, _, _⟩ := I.hok P _ hP
  refine ⟨ps, t, ?_⟩
  have J := I.write (h' := s.heap) (t' := s.toks) (x := P) (e := P) (o := .tbl ps) (by rw [hP]; exact mut_tabO) (Or.inl rfl) (fun b u _ q => q) ⟨_, e⟩ (show ObjOk X.prog X.w _ s.heap P (.tbl ps) from e)
  exact J
theorem tab_shut (I : Inv X pins σ H s) (hP : H P = some (TabO P)) (J : Inv X pins σ H2 s') (hT : GxR.TabG H2 P) (hE : ∀ b, b ≠ P → H2 b = H b) : Inv X pins σ H s' := by
  obtain ⟨ps, hps, ht⟩ := hT
  have e : s'.heap.get? P = some { cls := .none, data := .fields ps } := J.hok P _ hps
  have at_ : ∀ b, H b = none → H2 b = none := fun b n => by rw [hE b (fun z => by rw [z, hP] at n; cases n)]; exact n
  have to_ : ∀ b, H2 b = none → H b = none := fun b n => by rw [← hE b (fun z => by rw [z, hps] at n; cases n)]; exact n
  refine ⟨J.ok, J.os, J.bare, ⟨J.base.keep, J.base.slot, fun b o h1 h2 h3 => to_ b (J.base.free b o h1 h2 h3), J.base.there, fun b xs h1 => ?_, fun b o u h1 => ?_, fun b qs h1 => ?_⟩, J.loc, J.cell, to_ _ J.free, fun x c h1 => to_ _ (J.freeC x c h1), fun p hp => ?_, fun a o ha => ?_, J.len⟩
  · have h2 := J.base.tups b xs h1
    have nb : b ≠ P := fun z => by rw [z, hps] at h2; cases h2
    rw [← hE b nb]; exact h2
  · have h2 := J.base.frzs b o u h1
    have nb : b ≠ P := fun z => by rw [z, hps] at h2; cases h2
    rw [← hE b nb]; exact h2
  · obtain ⟨m1, h2⟩ := I.base.tbls b qs h1
    have nb : b ≠ P := fun z => by rw [z, hP] at h2; cases h2
    obtain ⟨m2, h3⟩ := J.base.tbls b qs h1
    exact ⟨m2, by rw [← hE b nb]; exact h3⟩
  · obtain ⟨e1, n, r⟩ := J.pin p hp
    exact ⟨e1, to_ _ n, r⟩
  · by_cases hb : a = P
    · subst hb
      rw [hP] at ha; cases ha
      exact tabO_ok e ht
    · have ha2 : H2 a = some o := by rw [hE a hb]; exact ha
      refine (J.hok a o ha2).stay (fun d v _ q => q) (fun d q => ?_) fun d xs q => ?_
      · have nb : d ≠ P := fun z => by rw [z, hps] at q; cases q
        rw [← hE d nb]; exact q
      · have nb : d ≠ P := fun z => by rw [z, hps] at q; cases q
        rw [← hE d nb]; exact q
end
/-- an expression that reads a text and may let the table at P grow: seen from outside nothing changes -/
theorem pe_allP {X : Cx} {e : Expr} {P : Addr} {pb : Nat → Bool} {i : Nat} (h : PE X e (GxR.tAllS P pb (tVar i))) :
    PE X e (fun σ H Q => ∃ a : Str, σ[i]? = some (some (.str a)) ∧ H P = some (TabO P) ∧ Q (.bl (a.cps.toList.all pb)) H) := by
  refine ⟨fun pins s σ H Q I hq => ?_⟩
  obtain ⟨a, ha, hP, q⟩ := hq
  obtain ⟨ps, ht, J⟩ := tab_open I hP
  refine thn (h.run pins s σ (upd H P (.tbl ps)) (fun v H2 => v = .bl (a.cps.toList.all pb) ∧ GxR.Tabbed P (upd H P (.tbl ps)) H2) J ⟨.str a, ha, a, rfl, ⟨ps, upd_same, ht⟩, fun H2 hT => ⟨rfl, hT⟩⟩) fun u s1 ⟨v, H2, J2, r, ev, hT⟩ => ?_
  subst ev
  exact ⟨_, H, tab_shut I hP J2 hT.1 (fun b hb => (hT.2 b hb).trans (upd_ne hb)), r, q⟩
/-- 'a' <= sign <= 'z' -/
theorem elt_btw {prog : Program} {w : World} {scope : Scope} {x a b : Str} {j1 j2 : Nat} {p1 p2 p3 p4 : Pos} (hk : scope.kind = .function) (hl : scope.names.lookup x = some .local) (hd : (x == ("__debug__" : Str)) = false := by decide) :
    GxR.EltP prog w scope x (.Compare (.Constant (.str a) j1 p1) [.LtE, .LtE] [.Name x p2, .Constant (.str b) j2 p3] p4) (fun c => !decide ([c] < a.cps.toList) && !decide (b.cps.toList < [c])) := by
  intro cenv A' E' c t s₂ m₂ hs hn hm
  refine Compare_chain (Calls.Constant_str (chain_link ?_)) (by with_unfolding_all rfl)
  refine wpAny_Name (wpAny_loadName_local (by rw [hs]; exact hk) (show cenv.scope.names.lookup x = some .local by rw [hs]; exact hl) (show Heap.Ns _ cenv.locals m₂ from hn) hm ?_) hd
  refine PySem.P.le_str ?_
  refine wpAny_truthy_bool ?_
  show if (!decide (([c] : List Nat) < a.cps.toList)) = true then _ else _
  cases h1 : decide (([c] : List Nat) < a.cps.toList) with
  | true => exact ⟨(by show Value.bool (!true) = Value.bool (!decide (([c] : List Nat) < a.cps.toList) && !decide (b.cps.toList < [c])); rw [h1]; rfl), GxR.keeps_tok _ _⟩
  | false =>
    show wpAny _ _ _ _ _ _
    refine chain_last (Calls.Constant_str (PySem.P.le_str ⟨?_, GxR.keeps_tok _ _⟩))
    show Value.bool (!decide (b.cps.toList < ([c] : List Nat))) = Value.bool (!decide (([c] : List Nat) < a.cps.toList) && !decide (b.cps.toList < [c]))
    rw [h1]; rfl

/-! ### texts -/
theorem op_repS {X : Cx} : OpR X (binaryOp .Mult) (fun x y H Q => ∃ z n, x = .str z ∧ y = .int n ∧ MulOk z n ∧ Q (.str (Txt.mul z n)) H) := by
  intro pins s σ H x y v u Q I rx ry h
  obtain ⟨z, n, rfl, rfl, hok, q⟩ := h
  obtain ⟨t, rfl⟩ := rx
  obtain ⟨t', rfl⟩ := ry
  exact SB.mul hok fun t'' k => ⟨.str _, H, I.tok _, ⟨_, rfl⟩, q⟩
theorem mulOk_small {z : Str} {n : Int} (h0 : 0 ≤ n) (h1 : n ≤ 1000) (hz : z.length ≤ 1000) : MulOk z n := by
  refine ⟨?_, fun h2 _ => ?_, fun h2 _ => ?_⟩
  · rw [decide_eq_false (by omega), decide_eq_false (by omega)]; rfl
  · have h3 : (9223372036854775807 : Int) / n ≥ 9223372036854775 := by
      have h4 : (9223372036854775 : Int) * n ≤ 9223372036854775807 := by omega
      exact (Int.le_ediv_iff_mul_le (by omega)).mpr h4
    have h5 : ((2 : Int) ^ 63 - 1) = 9223372036854775807 := by decide
    rw [h5]
    omega
  · unfold Builtin.Str.tooLong
    refine decide_eq_false ?_
    rw [sizeLine_eq]
    have h6 : z.length * n.toNat ≤ 1000 * 1000 := Nat.mul_le_mul hz (by omega)
    omega
theorem foldl_app_size (x : Array Nat) : ∀ (n : Nat) (acc : Array Nat), ((List.replicate n x).foldl (· ++ ·) acc).size = acc.size + n * x.size
  | 0, acc => by simp
  | n + 1, acc => by
    rw [List.replicate_succ, List.foldl_cons, foldl_app_size x n (acc ++ x), Array.size_append, Nat.succ_mul]
    omega
theorem mul_length (z : Str) (n : Int) (h0 : 0 ≤ n) : (Txt.mul z n).length = z.length * n.toNat := by
  unfold Txt.mul
  by_cases h1 : n < 1
  · rw [if_pos h1]
    have e : n = 0 := by omega
    subst e
    show Str.empty.length = _
    simp [Str.empty, Str.length]
  · rw [if_neg h1]
    by_cases h2 : (n == 1 || z.length == 0) = true
    · rw [if_pos h2]
      rcases Bool.or_eq_true_iff.mp h2 with h3 | h3
      · have e : n = 1 := by simpa using h3
        subst e; simp
      · have e : z.length = 0 := by simpa using h3
        rw [e]; simp
    · rw [if_neg h2]
      show ((List.replicate n.toNat z.cps).foldl (· ++ ·) #[]).size = z.cps.size * n.toNat
      rw [foldl_app_size]
      simp [Nat.mul_comm]

/-! ### a module's whole number -/
theorem pe_gint {X : Cx} {x : Str} {i : Int} {pos : Pos} (h : ∃ t, X.mg x = some (.int i t)) (hg : Gl X x) (hd : (x == ("__debug__" : Str)) = false := by decide) : PE X (.Name x pos) (tC (.int i)) := by
  obtain ⟨t, e⟩ := h
  exact pe_glob hg e ⟨t, rfl⟩ hd

/-! ### wishes about errors whose context is None -/
theorem passLN {X : Cx} : Passes (L2N.CX X.prog X.w) X E0 := fun _ _ _ _ _ _ _ h => by
  obtain ⟨_, _, _, _, _, _, _, _, _, _, _, _, z⟩ := h
  exact False.elim z
theorem takesN0 {X : Cx} : L2N.Takes X (fun _ _ _ _ => False) := fun _ _ x => by
  obtain ⟨_, _, _, _, _, _, _, _, _, _, _, _, _, _, _, _, z⟩ := x
  exact False.elim z
/-- X(e), its context None -/
theorem pmk_ownN1 {X : Cx} {D : Addr} {bs : List Value} {bn nw ini : String} {y : Str} {arg : Expr} {tw : TE} {p1 p2 : Pos} (F : ExcBaseFacts bn nw ini bs) (ei : PySem.W.excIn X.K D bs nw = true) (gD : X.mg y = some (.ref D))
    (kD : PySem.W.keepIn X.K (.ref D) = true) (rs : Raises X (.ref D)) (gl : Gl X y) (hw : PE X arg tw) (st : starEach [arg] X.env = (false, eval arg X.env) :: starEach [] X.env := by rfl)
    (db : (y == ("__debug__" : Str)) = false := by decide) : L2N.PMk X (.Call (.Name y p1) [arg] [] p2) (fun σ H Q => tw σ H fun _ J => Q (.ref D) none J) := fun pins s σ H Q I wish => by
  refine wpAny_Call_Name_kw (ld_glob I gl gD (PySem.W.callWith_K (h₀ := X.base) I.ok.mod.kin kD ?_ st (by rfl)) db)
  rw [st]
  refine Calls.spliced_cons (thn (hw.run pins s σ H _ I wish) fun u s1 got => Calls.spliced_nil ?_)
  obtain ⟨v, J, I1, _, q1⟩ := got
  refine ⟨I1.kIn, ?_⟩
  obtain ⟨_, _, _, _, _, _, _, _, _, _, _, _, _, _, _, _, _, a1, a2, a3, a4⟩ := exc_obj I1.kIn ei
  exact wpAny_call_exc_subT F a4 a1 a2 a3 (fun h' e made => L2N.mk_of I1 made rs q1 (I1.hok.gone made.new)) (Nat.le_trans (by decide : 1 ≤ 1000) (by decide))

/-! ### own defs, ready to be called -/
structure Dn (Pg : Program) (w : World) (K : PySem.W.Frag) (mg : Str → Option Value) (base : Heap) (k : Nat) (x : Str) (ps : List Str) (sp : Sp) : Prop where
  ex : ∃ f fd, FnOk Pg w K mg base (L2N.CX Pg w) k f fd ps sp ∧ mg x = some (.ref f) ∧ PySem.W.keepIn K (.ref f) = true ∧ Binds K fd ps []
section
variable {X : Cx} {k : Nat} {x : Str} {ps : List Str} {sp : Sp} {p pos : Pos} {e : Expr} {es : List Expr} {t : TA}
theorem pe_fnE {E : XK} (D : Dn X.prog X.w X.K X.mg X.base k x ps sp) (hr : Room k X.A) (hx : Passes (L2N.CX X.prog X.w) X E) (ha : PA X (e :: es) t) (hg : Gl X x := by rfl)
    (hdb : (x == ("__debug__" : Str)) = false := by decide) (he : starEach (e :: es) X.env = (false, eval e X.env) :: starEach es X.env := by rfl) (hpl : (backTo pos (starEach es X.env)).any (·.1) = false := by rfl) :
    PE X (.Call (.Name x p) (e :: es) [] pos) (tCall sp [] E t) := by
  obtain ⟨f, fd, F, hm, hk, hb⟩ := D.ex
  exact pe_call F hr hg hm hk hb .nil hx ha hdb he hpl
/-- a def that raises nothing that is wished -/
theorem pe_fn (D : Dn X.prog X.w X.K X.mg X.base k x ps sp) (hr : Room k X.A) (ha : PA X (e :: es) t) (hg : Gl X x := by rfl)
    (hdb : (x == ("__debug__" : Str)) = false := by decide) (he : starEach (e :: es) X.env = (false, eval e X.env) :: starEach es X.env := by rfl) (hpl : (backTo pos (starEach es X.env)).any (·.1) = false := by rfl) :
    PE X (.Call (.Name x p) (e :: es) [] pos) (tCall sp [] E0 t) := pe_fnE D hr passLN ha hg hdb he hpl
/-- in a try's body -/
theorem pe_fnS {E : L2.St → XK} (D : Dn X.prog X.w X.K X.mg X.base k x ps sp) (hr : Room k X.A) (hx : ∀ σ, PassesAt (L2N.CX X.prog X.w) X σ (E σ)) (ha : PA X (e :: es) t) (hg : Gl X x := by rfl)
    (hdb : (x == ("__debug__" : Str)) = false := by decide) (he : starEach (e :: es) X.env = (false, eval e X.env) :: starEach es X.env := by rfl) (hpl : (backTo pos (starEach es X.env)).any (·.1) = false := by rfl) :
    PE X (.Call (.Name x p) (e :: es) [] pos) (tCallS sp E t) := by
  obtain ⟨f, fd, F, hm, hk, hb⟩ := D.ex
  exact pe_callS F hr hg hm hk hb hx ha hdb he hpl
end

/-! ### own error classes -/
structure ExK (K : PySem.W.Frag) (mg : Str → Option Value) (x : Str) (C : Addr) (bm : List Value) : Prop where
  g : mg x = some (.ref C)
  k : PySem.W.keepIn K (.ref C) = true
  x : PySem.W.excIn K C bm "ValueError.__new__" = true
  b : PySem.W.subIn K (.ref C) (.type "BaseException") = some true
  t : PySem.W.typeIn K (.ref C) = some (.type "type")
/-- isinstance(e, c) in a suite -/
def rIsG (K : PySem.W.Frag) (a : Addr) (cls : Value) (d : Option Addr) : List V → Hp → VK → Prop := fun xs H Q => ∃ (D : Addr) (c : V) (cv : Value) (b : Bool), xs = [.ref a, c] ∧ cls = .ref D ∧ d = none ∧ ExcC K D ∧ (∀ u, RelV c u → u = cv) ∧ PySem.W.kitOne K (.ref D) cv = some b ∧ Q (.bl b) H
theorem call_isG {X : Cx} {a : Addr} {cls : Value} {d : Option Addr} {oe : Obj} {pn : List (Addr × Obj)} (hz : Zc cls d oe) (hf : ∃ vs, oe.data = .fields vs) : CallR (X.suite a ((a, oe) :: pn)) (.builtin "isinstance") (rIsG X.K a cls d) := by
  intro pins s σ H xs us Q I r h
  obtain ⟨D, c, cv, b, e1, e2, e3, C, hcv, e, q⟩ := h
  subst e2 e3
  exact call_isE C hz hf pins s σ H xs us Q I r ⟨c, cv, b, e1, hcv, e, q⟩

/-! ### heaps -/
theorem same_new {H : Hp} {p : Addr} {o : HO} (h : H p = none) : Same H (upd H p o) := fun b u e => by
  rw [upd_ne (ne_of_none e h)]; exact e
theorem same_mut {H H' : Hp} {p : Addr} {o : HO} (s : Same H H') (h : H p = none) : Same H (upd H' p o) := fun b u e => by
  rw [upd_ne (ne_of_none e h)]; exact s b u e
theorem same_t {K : PySem.W.Frag} {H H' : Hp} {a : Addr} {xs : List V} (e : Same H H') (h : SqT K H a xs) : SqT K H' a xs := by
  rcases h with (h | ⟨o, h⟩) | h
  · exact .inl (.inl (e _ _ h))
  · exact .inl (.inr ⟨o, e _ _ h⟩)
  · exact .inr h
mutual
theorem Dp.same {K : PySem.W.Frag} {H H' : Hp} (s : Same H H') : ∀ {d : PyData} {v : V}, Dp K H v d → Dp K H' v d
  | _, _, .non => .non
  | _, _, .bl b => .bl b
  | _, _, .int i => .int i
  | _, _, .str x => .str x
  | _, _, .lst h ha => .lst (s.seq h) (DpAll.same s ha)
  | _, _, .tup h ha => .tup (same_t s h) (DpAll.same s ha)
theorem DpAll.same {K : PySem.W.Frag} {H H' : Hp} (s : Same H H') : ∀ {ds : List PyData} {vs : List V}, DpAll K H vs ds → DpAll K H' vs ds
  | _, _, .nil => .nil
  | _, _, .cons h ha => .cons (Dp.same s h) (DpAll.same s ha)
end
theorem szl {n : Nat} (h : n ≤ 100000) : n ≤ sizeLine := Nat.le_trans h (by decide)
theorem szlt {n : Nat} (h : n < 100000) : n < sizeLine := Nat.lt_of_lt_of_le h (by decide)
end Fb

namespace Fb
open PySem PySem.Spec PyProof.Rows L2
/-! ### the law's own call: the tables are shut -/
def shut (Ps : List Addr) (H : Hp) : Hp := fun b => if b ∈ Ps then some (TabO b) else H b
theorem shut_in {Ps : List Addr} {H : Hp} {b : Addr} (h : b ∈ Ps) : shut Ps H b = some (TabO b) := if_pos h
theorem shut_out {Ps : List Addr} {H : Hp} {b : Addr} (h : b ∉ Ps) : shut Ps H b = H b := if_neg h
def reopen (Ps : List Addr) (h : Heap) (H : Hp) : Hp := fun b => if b ∈ Ps then (match h.get? b with | some o => (match o.data with | .fields ps => some (.tbl ps) | _ => H b) | none => H b) else H b
theorem reopen_in {Ps : List Addr} {h : Heap} {H : Hp} {b : Addr} {ps : Array Value} (hb : b ∈ Ps) (e : h.get? b = some { cls := .none, data := .fields ps }) : reopen Ps h H b = some (.tbl ps) := by
  unfold reopen
  rw [if_pos hb, e]
theorem reopen_out {Ps : List Addr} {h : Heap} {H : Hp} {b : Addr} (hb : b ∉ Ps) : reopen Ps h H b = H b := if_neg hb
theorem FnOk.tabs {Pg : Program} {w : World} {K : PySem.W.Frag} {mg : Str → Option Value} {base : Heap} {k : Nat} {f : Addr} {fd : FuncData} {ps : List Str} {sp : Sp} {Ps : List Addr} (F : FnOk Pg w K mg base (L2N.CX Pg w) k f fd ps sp) :
    FnOk Pg w K mg base (L2N.CX Pg w) k f fd ps (fun vs H Q E => (∀ p ∈ Ps, H p = some (.tbl #[])) ∧ sp vs (shut Ps H) (fun v H' => (∀ p ∈ Ps, H' p = some (TabO p)) ∧ ∀ H2, Q v H2) (fun _ _ _ => False)) := by
  refine ⟨fun vs H Q E q => F.len _ _ _ _ q.2, fun A outer s H args us vs Q E hr he hb hv hs => ?_⟩
  obtain ⟨hT, hs⟩ := hs
  have tabs : ∀ p ∈ Ps, s.heap.get? p = some { cls := .none, data := .fields #[] } := fun p hp => he.hok p _ (hT p hp)
  have nb : ∀ b u, H b = some u → (∀ q, u ≠ .tbl q) → b ∉ Ps := fun b u e h1 hp => by
    rw [hT b hp] at e
    cases e
    exact h1 _ rfl
  have nn : ∀ b, H b = none → b ∉ Ps := fun b e hp => by rw [hT b hp] at e; cases e
  have he' : Env0 Pg w K mg base A outer s (shut Ps H) := by
    refine ⟨he.frames, he.mod, fun b o e => ⟨(he.bs b o e).1, by rw [shut_out (nn b (he.bs b o e).2)]; exact (he.bs b o e).2⟩, he.bsz, he.funs, fun b hb => by rw [shut_out (nn b (he.frf b hb))]; exact he.frf b hb, fun a o e => ?_, he.bare⟩
    by_cases ha : a ∈ Ps
    · rw [shut_in ha] at e
      cases e
      exact tabO_ok (tabs a ha) trivial
    · rw [shut_out ha] at e
      refine (he.hok a o e).stay (fun d v _ q => q) (fun d q => ?_) fun d xs q => ?_
      · rw [shut_out (nb d _ q fun _ z => nomatch z)]; exact q
      · rw [shut_out (nb d _ q fun _ z => nomatch z)]; exact q
  refine codeAny_mono (F.run A outer s (shut Ps H) args us vs _ _ hr he' hb hv hs) fun r s' h => ?_
  cases r with
  | error e =>
    obtain ⟨_, _, _, _, _, _, _, _, _, _, _, _, z⟩ := h
    exact z.elim
  | ok fl =>
    cases fl with
    | next => exact False.elim h
    | brk => exact False.elim h
    | cont => exact False.elim h
    | ret u =>
      obtain ⟨v, H', os, bare, un, hok, r, hP, q⟩ := h
      have tb : ∀ p ∈ Ps, ∃ ps : Array Value, s'.heap.get? p = some { cls := .none, data := .fields ps } := fun p hp => by
        obtain ⟨⟨qs, e, _⟩, _, _⟩ := hok p _ (hP p hp)
        exact ⟨qs, e⟩
      have n2 : ∀ b u, H' b = some u → (∀ a, u ≠ TabO a) → b ∉ Ps := fun b u e h1 hp => by
        rw [hP b hp] at e
        cases e
        exact h1 _ rfl
      refine ⟨v, reopen Ps s'.heap H', os, bare, ⟨fun b o e n => un.keep b o e (by rw [shut_out (nn b n)]; exact n), fun b o e n => un.slot b o e (by rw [shut_out (nn b n)]; exact n), fun b o e n hx => ?_, un.there, fun b xs e => ?_, fun b o u e => ?_, fun b qs e => ?_⟩, fun a o e => ?_, r, q _⟩
      · rw [reopen_out (nn b n)]
        exact un.free b o e (by rw [shut_out (nn b n)]; exact n) hx
      · have h1 := nb b _ e fun _ z => nomatch z
        rw [reopen_out h1]
        exact un.tups b xs (by rw [shut_out h1]; exact e)
      · have h1 := nb b _ e fun _ z => nomatch z
        rw [reopen_out h1]
        exact un.frzs b o u (by rw [shut_out h1]; exact e)
      · by_cases hb : b ∈ Ps
        · rw [hT b hb] at e
          cases e
          obtain ⟨ps, e2⟩ := tb b hb
          exact ⟨ps, by rw [reopen_in hb e2]; simp⟩
        · rw [reopen_out hb]
          exact un.tbls b qs (by rw [shut_out hb]; exact e)
      · by_cases ha : a ∈ Ps
        · obtain ⟨ps, e2⟩ := tb a ha
          rw [reopen_in ha e2] at e
          cases e
          exact e2
        · rw [reopen_out ha] at e
          refine (hok a o e).stay (fun d v _ q => q) (fun d q => ?_) fun d xs q => ?_
          · rw [reopen_out (n2 d _ q fun _ z => nomatch z)]; exact q
          · rw [reopen_out (n2 d _ q fun _ z => nomatch z)]; exact q

/-! ### the end -/
/-- what the ground says of a def's table -/
def TabN (mg : Str → Option Value) (h : Heap) (x : Str) : Prop := ∃ (a c P : Addr) (o : Obj) (fd : FuncData), mg x = some (.ref a) ∧ h.get? a = some o ∧ o.data = .func fd ∧ fd.code = .ref c ∧ PySem.W.CodeHd h c P ∧ h.get? P = some { cls := .none, data := .fields #[] } ∧ ∃ oc vc, h.get? c = some oc ∧ oc.data = .fields vc ∧ vc[11]? = some (.ref P)
/-- what is to be shown of the law at the head's heap -/
def LawT (l : PySem.W.OpenLaw) (w : World) (K : PySem.W.Frag) (k n : Nat) (x : Str) (mg : Str → Option Value) (fa : Addr) (h : Heap) : Prop :=
  ∃ (fd : FuncData) (cs : List (Addr × Addr)) (sp : Sp), (∀ p ∈ cs, h.get? p.2 = some { cls := .none, data := .fields #[] }) ∧ (∀ p ∈ cs, K.lookup p.2 = none) ∧ (∀ p ∈ cs, PySem.W.CodeHd h p.1 p.2) ∧ (∀ (s : Shared) (u : Value), BindsTo s fd ⟨[u], []⟩ [(x, u)]) ∧
    (∀ (H : Hp) (a : Addr) (ns : List Int), ns.length ≤ n → (∀ z ∈ ns, Builtin.Int.intBits z ≤ 1048576) → (∀ p ∈ cs, H p.2 = some (TabO p.2)) → SqL K H a (ns.map V.int) → sp [.ref a] H (fun v H' => (∀ p ∈ cs, H' p.2 = some (TabO p.2)) ∧ v = .bl true) fun _ _ _ => False) ∧
    ∀ base : Heap, K.In base → base.Ns mainGlobals mg → (∀ p ∈ cs, GxR.TabB base mg p.1 p.2) → FnOk l.prog w K mg base (L2N.CX l.prog w) k fa fd [x] sp
theorem walk_tab {l : PySem.W.OpenLaw} {n k : Nat} {q : Program} {loose : List Str} {XP : (Str → Option Value) → Heap → Prop} {YP : World → Heap → Prop} {d : DefRec} {K : Params → PySem.W.Frag} {x : Str} (gs : List Str)
    (hn : l.most = some n) (hn2 : n ≤ sizeLine) (hdf : d.params.defaults = []) (hr : Room k callerA) (hrec : ∀ g ∈ gs, ((recsOf q).any fun e => e.name == g) = true) (hY : ∀ (w : World) (h : Heap), YP w h → (K w.params).In h)
    (F : ∀ (w : World) (mg : Str → Option Value) (fa : Addr) (h : Heap), YP w h → (K w.params).In h → h.Ns mainGlobals mg → mg d.name = some (.ref fa) → (∀ g ∈ gs, TabN mg h g) → LawT l w (K w.params) k n x mg fa h) :
    PySem.W.WalkO q loose XP YP l.row.toRowW d [] (fun f vs => PySem.call f vs) := by
  refine Att.attach_callB hn hdf fun w s₀ s₁ mg mb fa o pm cd doc a vs ns G Y ho hd hcd hmg hobj hints hlen hbits hg => ?_
  have KX := hY w _ Y
  have tabs : ∀ g ∈ gs, TabN mg s₁.heap g := fun g hgm => by
    obtain ⟨dL, hm, hn1⟩ := List.any_eq_true.mp (hrec g hgm)
    have hn2 : dL.name = g := beq_iff_eq.mp hn1
    obtain ⟨a', o', fd', c', P', h1, h2, h3, h4, h5, h6⟩ := G.T.tab dL hm
    rw [hn2] at h1
    obtain ⟨⟨oc, vc, e1, e2, e3, e4⟩, hP⟩ := id h6
    exact ⟨a', c', P', o', fd', h1, h2, h3, h4, PySem.W.CodeHd.of h5 h6, hP, oc, vc, e1, e3, e4⟩
  obtain ⟨fd, cs, sp, hT, nT, C, hb, hsp, hF⟩ := F w mg fa _ Y KX G.T.g hmg tabs
  refine LamX.law_callTs (CX := L2N.CX l.prog w) (cs := cs) KX G.T.g G.T.b G.T.builtins G.T.nolimit hg hT nT C G.T.bmain hobj hints (Nat.le_trans hlen hn2) hr (fun base hK hN hB => FnOk.tabs (Ps := cs.map (·.2)) (hF base hK hN fun p hp => ⟨(hB p hp).code, (hB p hp).bm, (hB p hp).gP⟩)) hb (fun H hH hS => ⟨?ga, ?gb⟩) fun H e s' h => ?gc
  case ga =>
    intro p hp
    obtain ⟨y, hy, e⟩ := List.mem_map.mp hp
    rw [← e]; exact hH y hy
  case gb =>
    have na : a ∉ cs.map (·.2) := fun z => by
      obtain ⟨y, hy, e⟩ := List.mem_map.mp z
      have q := hT y hy
      rw [e, hobj] at q
      have z' : Data.seq vs.toArray _ = Data.fields #[] := congrArg Obj.data (Option.some.inj q)
      cases z'
    have hS' : SqL (K w.params) (shut (cs.map (·.2)) H) a (ns.map V.int) := by
      rcases hS with (z | ⟨o, z⟩) | z
      · exact .inl (.inl (by rw [shut_out na]; exact z))
      · exact .inl (.inr ⟨o, by rw [shut_out na]; exact z⟩)
      · exact .inr z
    have r := hsp (shut (cs.map (·.2)) H) a ns hlen hbits (fun p hp => shut_in (List.mem_map.mpr ⟨p, hp, rfl⟩)) hS'
    refine cast (congrArg (fun Q => sp [.ref a] (shut (cs.map (·.2)) H) Q fun _ _ _ => False) ?_) r
    funext v H'
    refine propext ⟨fun ⟨h1, h2⟩ => ⟨fun p hp => ?_, fun _ => h2⟩, fun ⟨h1, h2⟩ => ⟨fun p hp => h1 _ (List.mem_map.mpr ⟨p, hp, rfl⟩), h2 H'⟩⟩
    obtain ⟨y, hy, e⟩ := List.mem_map.mp hp
    rw [← e]; exact h1 y hy
  case gc =>
    obtain ⟨_, _, _, _, _, _, _, _, _, _, _, _, z⟩ := h
    exact z
end Fb
namespace Fb
open PySem L2
theorem ifD {p A B : Prop} [Decidable p] (h1 : p → A) (h2 : ¬ p → B) : if decide p = true then A else B := by
  by_cases h : p
  · rw [if_pos (decide_eq_true h)]; exact h1 h
  · rw [if_neg (by simp [h])]; exact h2 h
theorem ifB {c : Bool} {A B : Prop} (h1 : c = true → A) (h2 : c = false → B) : if c = true then A else B := by
  cases c with
  | true => rw [if_pos rfl]; exact h1 rfl
  | false => rw [if_neg Bool.false_ne_true]; exact h2 rfl
theorem ifP {p A B : Prop} [Decidable p] (h : p) (a : A) : if decide p = true then A else B := by rw [if_pos (decide_eq_true h)]; exact a
theorem ifN {p A B : Prop} [Decidable p] (h : ¬ p) (b : B) : if decide p = true then A else B := by rw [if_neg (by simp [h])]; exact b
theorem atI_map {ns : List Int} {j : Int} (h0 : 0 ≤ j) (h1 : j.toNat < ns.length) : atI (ns.map V.int) j = some (.int (ns.getD j.toNat 0)) := by
  have h2 : ixN (ns.map V.int).length j = some j.toNat := by
    unfold ixN
    rw [List.length_map, if_pos h0, if_pos (by omega)]
  unfold atI
  rw [h2]
  show (ns.map V.int)[j.toNat]? = _
  rw [List.getElem?_map, List.getElem?_eq_getElem h1]
  simp [List.getD, List.getElem?_eq_getElem h1]
theorem atI_of {α : Type} {xs : List α} {j : Int} {v : α} (h0 : 0 ≤ j) (h : xs[j.toNat]? = some v) : atI xs j = some v := by
  have hl : j.toNat < xs.length := (List.getElem?_eq_some_iff.mp h).1
  have h2 : ixN xs.length j = some j.toNat := by
    unfold ixN
    rw [if_pos h0, if_pos (by omega)]
  unfold atI
  rw [h2]
  exact h
end Fb

namespace Fb
open PySem PySem.Spec PyProof.Rows L2
/-! ### texts by their signs -/
/-- a text of at most n signs, each of them one that the model knows -/
def okS (n : Nat) (z : Str) : Prop := z.length ≤ n ∧ ∀ c ∈ z.cps.toList, c < 1114112
theorem len_tl (z : Str) : z.length = z.cps.toList.length := by simp [Str.length]
theorem okS.mono {n m : Nat} {z : Str} (h : okS n z) (hm : n ≤ m) : okS m z := ⟨Nat.le_trans h.1 hm, h.2⟩
theorem cps_app (a b : Str) : (a ++ b).cps.toList = a.cps.toList ++ b.cps.toList := by
  show (a.cps ++ b.cps).toList = _
  simp
theorem len_app (a b : Str) : (a ++ b).length = a.length + b.length := by
  rw [len_tl, cps_app, List.length_append, ← len_tl, ← len_tl]
theorem okS.app {n m : Nat} {a b : Str} (h : okS n a) (g : okS m b) : okS (n + m) (a ++ b) := by
  refine ⟨by rw [len_app]; exact Nat.add_le_add h.1 g.1, fun c hc => ?_⟩
  rw [cps_app] at hc
  exact (List.mem_append.mp hc).elim (h.2 c) (g.2 c)
theorem cut_len (z : Str) (lo hi : Option Int) : (cutS z lo hi).length ≤ z.length := by
  rw [len_tl, len_tl]
  unfold cutS
  show (_ : List Nat).length ≤ _
  rw [List.length_take, List.length_drop]
  omega
theorem okS.cut {n : Nat} {z : Str} (h : okS n z) (lo hi : Option Int) : okS n (cutS z lo hi) := by
  refine ⟨Nat.le_trans (cut_len z lo hi) h.1, fun c hc => h.2 c ?_⟩
  have h1 : c ∈ ((z.cps.toList.drop (HT.sIx z.length 0 lo)).take (HT.sIx z.length z.length hi - HT.sIx z.length 0 lo)) := hc
  exact List.mem_of_mem_drop (List.mem_of_mem_take h1)
/-- cut at most k signs from the front -/
theorem cut_to (z : Str) (k : Nat) : (cutS z none (some (k : Int))).length ≤ k := by
  rw [len_tl]
  unfold cutS
  show (_ : List Nat).length ≤ _
  rw [List.length_take, HT.sIx_none, HT.sIx_nat]
  omega
theorem okS.one {c : Nat} (h : c < 1114112) : okS 1 ⟨#[c]⟩ := by
  refine ⟨Nat.le_refl _, fun d hd => ?_⟩
  have e : d = c := by simpa using hd
  rw [e]; exact h
theorem mem_rep {x : Array Nat} {c : Nat} : ∀ (n : Nat) (acc : Array Nat), c ∈ ((List.replicate n x).foldl (· ++ ·) acc).toList → c ∈ acc.toList ∨ c ∈ x.toList
  | 0, acc, h => Or.inl h
  | n + 1, acc, h => by
    rw [List.replicate_succ, List.foldl_cons] at h
    rcases mem_rep n (acc ++ x) h with g | g
    · rw [Array.toList_append] at g
      exact (List.mem_append.mp g)
    · exact Or.inr g
theorem okS.mul {n : Nat} {z : Str} {k : Int} (h : okS n z) (h0 : 0 ≤ k) : okS (n * k.toNat) (Txt.mul z k) := by
  refine ⟨by rw [mul_length z k h0]; exact Nat.mul_le_mul_right _ h.1, fun c hc => h.2 c ?_⟩
  unfold Txt.mul at hc
  split at hc
  · simp [Str.empty] at hc
  · split at hc
    · exact hc
    · rcases mem_rep _ _ hc with g | g
      · simp at g
      · exact g
theorem okS_data {n : Nat} {z : Str} (h : okS n z) : PyData.strOk z = true := by
  unfold PyData.strOk
  rw [Array.all_eq_true]
  intro i hi
  exact decide_eq_true (h.2 _ (by rw [← Array.getElem_toList]; exact List.getElem_mem _))
theorem joinL_nil : ∀ parts : List (List Nat), TL.joinL [] parts = parts.flatten
  | [] => rfl
  | [p] => by simp [TL.joinL]
  | p :: q :: r => by
    show p ++ ([] ++ TL.joinL [] (q :: r)) = _
    rw [joinL_nil (q :: r)]
    simp
theorem join_tl (y : Str) (hy : y.cps.toList = []) (ys : List Str) : (Txt.join y ys).cps.toList = (ys.map TL.tl).flatten := by
  rw [TL.join_eq]
  show TL.tl _ = _
  rw [TL.tl_join, show TL.tl y = [] from hy, joinL_nil]
theorem okS.join {y : Str} (hy : y.cps.toList = []) {ys : List Str} {n : Nat} (hn : ys.length ≤ n) (h : ∀ z ∈ ys, okS 1 z) : okS n (Txt.join y ys) := by
  refine ⟨?_, fun c hc => ?_⟩
  · rw [len_tl, join_tl y hy]
    refine Nat.le_trans ?_ hn
    clear hn
    induction ys with
    | nil => simp
    | cons z r ih =>
      have h1 := (h z List.mem_cons_self).1
      have h2 := ih fun q hq => h q (List.mem_cons_of_mem _ hq)
      rw [len_tl] at h1
      simp only [List.map_cons, List.flatten_cons, List.length_append, List.length_cons]
      show z.cps.toList.length + _ ≤ _
      omega
  · rw [join_tl y hy] at hc
    obtain ⟨l, hl, hc⟩ := List.mem_flatten.mp hc
    obtain ⟨z, hz, rfl⟩ := List.mem_map.mp hl
    exact (h z hz).2 c hc
theorem sum_ones {ys : List Str} (h : ∀ z ∈ ys, okS 1 z) : (ys.map (·.length)).sum ≤ ys.length := by
  induction ys with
  | nil => simp
  | cons z r ih =>
    have h1 := (h z List.mem_cons_self).1
    have h2 := ih fun q hq => h q (List.mem_cons_of_mem _ hq)
    simp only [List.map_cons, List.sum_cons, List.length_cons]
    omega

/-! ### comprehensions over a range, over a list: each turn leaves what stood; R: what is known of the i-th item, for good (D itself, the new list, grows) -/
/-- what stood anywhere but at D stands -/
def SameB (D : Addr) (H H' : Hp) : Prop := ∀ b o, b ≠ D → H b = some o → H' b = some o
theorem Same.but {D : Addr} {H H' : Hp} (s : Same H H') : SameB D H H' := fun b o _ e => s b o e
section
variable {K : PySem.W.Frag} {te : TE} {vs : List Nat} {σ : L2.St} {H1 : Hp} {D : Addr} {Qd : Hp → Prop}
theorem yes_go {Q : VK} {N : Hp → Prop} {H : Hp} (h : te σ H Q) : tYes σ H fun b H3 => if b = true then te σ H3 Q else N H3 := by
  show (if true = true then te σ H Q else N H)
  exact iteT h
theorem lc_step {R : Nat → V → Hp → Prop} {i : Nat} {ys : List V} {v : V} {H H' : Hp} (hR : ∀ i v H H', SameB D H H' → R i v H → R i v H') (hl : ys.length = i) (s2 : Same H H') (hr : ∀ k u, ys[k]? = some u → R k u H) (r : R i v H') :
    ∀ k u, (ys ++ [v])[k]? = some u → R k u (upd H' D (.lst (ys ++ [v]))) := fun k u e => by
  have hu : SameB D H' (upd H' D (.lst (ys ++ [v]))) := fun b o nb e => by rw [upd_ne nb]; exact e
  by_cases hk : k < ys.length
  · rw [List.getElem?_append_left hk] at e
    exact hR _ _ _ _ hu (hR _ _ _ _ (Same.but s2) (hr k u e))
  · have hk2 : k = i := by
      have h3 := (List.getElem?_eq_some_iff.mp e).1
      rw [List.length_append] at h3
      simp at h3
      omega
    subst hk2
    rw [List.getElem?_append_right (by omega), hl, Nat.sub_self] at e
    have e2 : v = u := by simpa using e
    subst e2
    exact hR _ _ _ _ hu r
theorem lc_rangeR {lo : Int} {n j : Nat} (R : Nat → V → Hp → Prop) (hR : ∀ i v H H', SameB D H H' → R i v H → R i v H') (hD : H1 D = none) (hn : n ≤ 100000) (hw : ∀ v, wipe ((wipe σ vs).set j (some v)) vs = wipe σ vs)
    (hs : ∀ i H acc, i < n → Same H1 H → H D = some (.lst acc) → ∀ Q : VK, (∀ v H', Same H H' → R i v H' → Q v H') → te ((wipe σ vs).set j (some (.int (lo + i)))) H Q)
    (hd : ∀ H ys, Same H1 H → H D = some (.lst ys) → ys.length = n → (∀ i v, ys[i]? = some v → R i v H) → Qd H) :
    ∃ W : Nat → Nat → Hp → Prop, (∃ m, W 0 m (upd H1 D (.lst []))) ∧ ∀ i m H, W i m H →
      ((Itr lo n).stop i H ∧ Qd H) ∨ ((Itr lo n).go i H ∧ ∃ Nx : Hp → Prop, (∀ H', Nx H' → ∃ m', m' < m ∧ W (i + 1) m' H') ∧ ∀ x H', (Itr lo n).yld i H x H' → (gName j) x (wipe σ vs) H' fun σ2 H2 => wipe σ2 vs = wipe σ vs ∧ tYes σ2 H2 fun b H3 =>
        if b = true then te σ2 H3 fun y H4 => ∃ acc, H4 D = some (.lst acc) ∧ acc.length < sizeLine ∧ Nx (upd H4 D (.lst (acc ++ [y]))) else Nx H3) := by
  refine lc_range (fun i H => ∃ ys, Same H1 H ∧ H D = some (.lst ys) ∧ ys.length = i ∧ ∀ k v, ys[k]? = some v → R k v H) ⟨[], same_new hD, upd_same, rfl, fun k v e => by simp at e⟩ ?_ ?_
  · rintro i H hi ⟨ys, s1, hDl, hl, hr⟩
    refine ⟨hw _, ?_⟩
    refine yes_go ?_
    exact hs i H ys hi s1 hDl _ fun v H' s2 r => ⟨ys, s2 _ _ hDl, szlt (by omega), ys ++ [v], same_mut (Same.trans s1 s2) hD, upd_same, by rw [List.length_append]; simp [hl], lc_step hR hl s2 hr r⟩
  · rintro H ⟨ys, s1, hDl, hl, hr⟩
    exact hd H ys s1 hDl hl hr
theorem lc_listR {a : Addr} {xs : List V} {j : Nat} (R : Nat → V → Hp → Prop) (hR : ∀ i v H H', SameB D H H' → R i v H → R i v H') (hD : H1 D = none) (hx : SqL K H1 a xs) (hn : xs.length ≤ 100000) (hw : ∀ v, wipe ((wipe σ vs).set j (some v)) vs = wipe σ vs)
    (hs : ∀ i x H acc, xs[i]? = some x → Same H1 H → H D = some (.lst acc) → ∀ Q : VK, (∀ v H', Same H H' → R i v H' → Q v H') → te ((wipe σ vs).set j (some x)) H Q)
    (hd : ∀ H ys, Same H1 H → H D = some (.lst ys) → ys.length = xs.length → (∀ i v, ys[i]? = some v → R i v H) → Qd H) :
    ∃ W : Nat → Nat → Hp → Prop, (∃ m, W 0 m (upd H1 D (.lst []))) ∧ ∀ i m H, W i m H →
      ((Itl K a).stop i H ∧ Qd H) ∨ ((Itl K a).go i H ∧ ∃ Nx : Hp → Prop, (∀ H', Nx H' → ∃ m', m' < m ∧ W (i + 1) m' H') ∧ ∀ x H', (Itl K a).yld i H x H' → (gName j) x (wipe σ vs) H' fun σ2 H2 => wipe σ2 vs = wipe σ vs ∧ tYes σ2 H2 fun b H3 =>
        if b = true then te σ2 H3 fun y H4 => ∃ acc, H4 D = some (.lst acc) ∧ acc.length < sizeLine ∧ Nx (upd H4 D (.lst (acc ++ [y]))) else Nx H3) := by
  refine lc_list (K := K) (a := a) (xs := xs) (fun i H => ∃ ys, Same H1 H ∧ H D = some (.lst ys) ∧ ys.length = i ∧ ∀ k v, ys[k]? = some v → R k v H) ⟨[], same_new hD, upd_same, rfl, fun k v e => by simp at e⟩ (fun i H _ ⟨_, s1, _⟩ => s1.seq hx) ?_ ?_
  · rintro i x H hi ⟨ys, s1, hDl, hl, hr⟩
    have hil := (List.getElem?_eq_some_iff.mp hi).1
    refine ⟨hw _, ?_⟩
    refine yes_go ?_
    exact hs i x H ys hi s1 hDl _ fun v H' s2 r => ⟨ys, s2 _ _ hDl, szlt (by omega), ys ++ [v], same_mut (Same.trans s1 s2) hD, upd_same, by rw [List.length_append]; simp [hl], lc_step hR hl s2 hr r⟩
  · rintro H ⟨ys, s1, hDl, hl, hr⟩
    exact hd H ys s1 hDl hl hr
end

/-! ### for k, x in enumerate(xs) -/
theorem for_enum {K : PySem.W.Frag} {a : Addr} {xs : List V} {g : TG} {tb : TS} {D : Ends} {σ : L2.St} {H : Hp} (Pv : Nat → L2.St → Hp → Prop) (h0 : Pv 0 σ H) (hl : ∀ i σ H, i ≤ xs.length → Pv i σ H → SqL K H a xs)
    (hs : ∀ i x σ H T, xs[i]? = some x → Pv i σ H → H T = none → g (.ref T) σ (upd H T (.tup [.int (i : Nat), x])) fun σ2 H2 => tb { D with nx := Pv (i + 1), ct := Pv (i + 1), bk := D.nx } σ2 H2) (hd : ∀ σ H, Pv xs.length σ H → D.nx σ H) :
    ∃ W : Nat → Nat → L2.St → Hp → Prop, (∃ m, W 0 m σ H) ∧ ∀ i m σ H, W i m σ H →
      ((Ite K a).stop i H ∧ D.nx σ H) ∨ ((Ite K a).go i H ∧ ∃ N : L2.St → Hp → Prop, (∀ σ' H', N σ' H' → ∃ m', m' < m ∧ W (i + 1) m' σ' H') ∧ ∀ x H', (Ite K a).yld i H x H' → g x σ H' fun σ2 H2 => tb { D with nx := N, ct := N, bk := D.nx } σ2 H2) := by
  refine ⟨fun i m σ H => m = xs.length - i ∧ i ≤ xs.length ∧ Pv i σ H, ⟨xs.length, by simp, Nat.zero_le _, h0⟩, ?_⟩
  rintro i m σ H ⟨rfl, hi, p⟩
  have q := hl i σ H hi p
  by_cases hlt : i < xs.length
  · refine .inr ⟨⟨xs, xs[i], q, by simp [hlt]⟩, Pv (i + 1), fun σ' H' p' => ⟨xs.length - (i + 1), by omega, rfl, hlt, p'⟩, fun x H' y => ?_⟩
    obtain ⟨T, x', rfl, hT, rfl, y⟩ := y
    exact hs i x' σ H T (y xs q) p hT
  · have e : i = xs.length := by omega
    subst e
    exact .inl ⟨⟨xs, q, Nat.le_refl _⟩, hd σ H p⟩

/-! ### the letters -/
abbrev abc : Str := Str.ofString "abcdefghijklmnopqrstuvwxyz"
theorem abc_list : abc.cps.toList = (List.range 26).map (· + 97) := by decide +kernel
theorem abc_len : abc.length ≤ sizeLine := by
  rw [len_tl, abc_list]
  simp
  decide
theorem abc_at {i : Int} (h0 : 0 ≤ i) (h1 : i < 26) : atI abc.cps.toList i = some (i.toNat + 97) := by
  refine atI_of h0 ?_
  rw [abc_list, List.getElem?_map, List.getElem?_range (by omega)]
  rfl
theorem abc_mem (c : Nat) : c ∈ abc.cps.toList ↔ 97 ≤ c ∧ c ≤ 122 := by
  rw [abc_list, List.mem_map]
  constructor
  · rintro ⟨k, hk, rfl⟩
    have := List.mem_range.mp hk
    omega
  · intro h
    exact ⟨c - 97, List.mem_range.mpr (by omega), by omega⟩
/-- signs written in the text -/
theorem at_small {z : Str} {n : Nat} {i : Int} (hn : z.cps.toList.length = n) (hc : z.cps.toList.all (· < 1114112) = true) (h0 : 0 ≤ i) (h1 : i < n) : ∃ c, atI z.cps.toList i = some c ∧ c < 1114112 := by
  have hl : i.toNat < z.cps.toList.length := by omega
  refine ⟨z.cps.toList[i.toNat], atI_of h0 (List.getElem?_eq_getElem hl), ?_⟩
  exact of_decide_eq_true (List.all_eq_true.mp hc _ (List.getElem_mem hl))
theorem mulSmall {i j : Int} (h0 : -1000000000000000000 ≤ i) (h1 : i ≤ 1000000000000000000) : CMul i j := .inl ⟨by omega, by omega⟩
theorem mulSmall2 {i j : Int} (h0 : -1000000000000000000 ≤ j) (h1 : j ≤ 1000000000000000000) : CMul i j := .inr ⟨by omega, by omega⟩
theorem atI_mem {xs : List V} {i : Int} (h0 : 0 ≤ i) (h1 : i < xs.length) : ∃ v, atI xs i = some v ∧ v ∈ xs := by
  have hl : i.toNat < xs.length := by omega
  exact ⟨xs[i.toNat], atI_of h0 (List.getElem?_eq_getElem hl), List.getElem_mem hl⟩
end Fb

namespace Fb
open PySem PySem.Spec PyProof.Rows L2
/-! ### a def whose code object is known -/
structure FunC (K : PySem.W.Frag) (x qual : Str) (st : Stmt) (f : Addr) (fd : FuncData) (c : Addr) : Prop where
  ex : ∃ (oc : Value) (od : Option Addr) (kV doc pm : Value) (an : Option Addr) (ct : Value) (osl : Array (Option Value)),
    fd = PySem.W.fnOf x qual (defArgs st) (defBody st) (defScope st) .none kV doc pm an (.ref c) ct ∧ K.lookup f = some ⟨oc, od, .func fd, osl⟩ ∧ PySem.W.codeIn K (.ref c) qual = true
section
variable {P : Program} {w : World} {K : PySem.W.Frag} {mg : Str → Option Value} {base : Heap}
theorem FunC.okX {x qual : Str} {st : Stmt} {f c : Addr} {fd : FuncData} {N ps : List Str} {k : Nat} {sp : Sp} (F : FunC K x qual st f fd c) (S : FnScope N ps (defScope st)) (len : ∀ vs H Q E, sp vs H Q E → vs.length = ps.length)
    (hbody : ∀ (A : Around) (outer : List Env) (s : Shared) (H : Hp) (vs : List V) (Q : VK) (E : XK), Room k (A.deeper (envOfC qual (defScope st) s.heap.objs.size f (.ref c))) → sp vs H Q E →
      ∃ t, PSs (cxOf (L2N.CX P w) P w K mg base N qual (defScope st) f (.ref c) A outer s H E) (defBody st) t ∧ t { nx := fun _ H' => Q .non H', rt := Q } (start N vs) H) : FnOk P w K mg base (L2N.CX P w) (k + 1) f fd ps sp := by
  obtain ⟨oc, od, kV, doc, pm, an, ct, osl, rfl, lk, hcd⟩ := F.ex
  exact fn_of lk hcd S len fun A outer s H vs Q E hr hsp => hbody A outer s H vs Q E hr hsp
end
/-! ### flat data: None, truth values, numbers, texts -/
def dat : V → PyData
  | .non => .none
  | .bl b => .bool b
  | .int i => .int i
  | .str z => .str z
  | _ => .none
def flat (v : V) : Prop := v = .non ∨ (∃ b, v = .bl b) ∨ (∃ i, v = .int i) ∨ ∃ z, v = .str z ∧ PyData.strOk z = true
theorem dp_flat {K : PySem.W.Frag} {H : Hp} {v : V} (h : flat v) : Dp K H v (dat v) := by
  rcases h with rfl | ⟨b, rfl⟩ | ⟨i, rfl⟩ | ⟨z, rfl, _⟩
  · exact .non
  · exact .bl b
  · exact .int i
  · exact .str z
theorem dpAll_flat {K : PySem.W.Frag} {H : Hp} : ∀ {xs : List V}, (∀ v ∈ xs, flat v) → DpAll K H xs (xs.map dat)
  | [], _ => .nil
  | v :: r, h => .cons (dp_flat (h v List.mem_cons_self)) (dpAll_flat fun u hu => h u (List.mem_cons_of_mem _ hu))
theorem lay_flat {v : V} (h : flat v) : PyData.canLay0 (dat v) = true ∧ PyData.depth (dat v) = 0 := by
  rcases h with rfl | ⟨b, rfl⟩ | ⟨i, rfl⟩ | ⟨z, rfl, hz⟩
  · exact ⟨by simp [dat, PyData.canLay0], by simp [dat, PyData.depth]⟩
  · exact ⟨by simp [dat, PyData.canLay0], by simp [dat, PyData.depth]⟩
  · exact ⟨by simp [dat, PyData.canLay0], by simp [dat, PyData.depth]⟩
  · exact ⟨by simpa [dat, PyData.canLay0] using hz, by simp [dat, PyData.depth]⟩
theorem layAll_flat : ∀ {xs : List V}, (∀ v ∈ xs, flat v) → PyData.canLayAll0 (xs.map dat) = true ∧ PyData.depthAll (xs.map dat) = 0
  | [], _ => ⟨by simp [PyData.canLayAll0], by simp [PyData.depthAll]⟩
  | v :: r, h => by
    have h1 := lay_flat (h v List.mem_cons_self)
    have h2 := layAll_flat (xs := r) fun u hu => h u (List.mem_cons_of_mem _ hu)
    refine ⟨?_, ?_⟩
    · rw [List.map_cons, PyData.canLayAll0, h1.1, h2.1]; rfl
    · rw [List.map_cons, PyData.depthAll, h1.2, h2.2]; rfl
theorem shaped_flat {v : V} (h : flat v) : SeqAt.shaped (dat v) = true := by
  have h1 := lay_flat h
  unfold SeqAt.shaped
  rw [h1.1, h1.2]; rfl
theorem shaped_list {xs : List V} (h : ∀ v ∈ xs, flat v) : SeqAt.shaped (.list (xs.map dat)) = true := by
  have h1 := layAll_flat h
  unfold SeqAt.shaped
  rw [PyData.canLay0, h1.1, PyData.depth, h1.2]; rfl
theorem shaped_tup {xs : List V} (h : ∀ v ∈ xs, flat v) : SeqAt.shaped (.tuple (xs.map dat)) = true := by
  have h1 := layAll_flat h
  unfold SeqAt.shaped
  rw [PyData.canLay0, h1.1, PyData.depth, h1.2]; rfl
theorem eqv_self {d : PyData} (h : SeqAt.shaped d = true) : PyData.eqv d d = true := SeqAt.eqv_refl d (SeqAt.canLay_of_shaped h)

/-! ### the signs of a text that pass a test -/
section
variable {K : PySem.W.Frag} {tt : TT} {te : TE} {vs : List Nat} {σ : L2.St} {H1 : Hp} {D : Addr} {Qd : Hp → Prop}
theorem filter_snoc {pf : Nat → Bool} {l : List Nat} {i c : Nat} (h : l[i]? = some c) : (l.take (i + 1)).filter pf = (l.take i).filter pf ++ (if pf c then [c] else []) := by
  rw [List.take_add_one, h]
  simp only [Option.toList_some, List.filter_append, List.filter_cons, List.filter_nil]
theorem lc_signs {x : Str} {j : Nat} (pf : Nat → Bool) (hD : H1 D = none) (hn : x.length ≤ 90000) (hw : ∀ v, wipe ((wipe σ vs).set j (some v)) vs = wipe σ vs)
    (ht : ∀ c H, Same H1 H → ∀ Q : Bool → Hp → Prop, Q (pf c) H → tt ((wipe σ vs).set j (some (.str ⟨#[c]⟩))) H Q) (he : ∀ c H, Same H1 H → ∀ Q : VK, Q (.str ⟨#[c]⟩) H → te ((wipe σ vs).set j (some (.str ⟨#[c]⟩))) H Q)
    (hd : ∀ H, Same H1 H → H D = some (.lst ((x.cps.toList.filter pf).map fun c => .str ⟨#[c]⟩)) → Qd H) :
    ∃ W : Nat → Nat → Hp → Prop, (∃ m, W 0 m (upd H1 D (.lst []))) ∧ ∀ i m H, W i m H →
      ((Its x).stop i H ∧ Qd H) ∨ ((Its x).go i H ∧ ∃ Nx : Hp → Prop, (∀ H', Nx H' → ∃ m', m' < m ∧ W (i + 1) m' H') ∧ ∀ y H', (Its x).yld i H y H' → (gName j) y (wipe σ vs) H' fun σ2 H2 => wipe σ2 vs = wipe σ vs ∧ tt σ2 H2 fun b H3 =>
        if b = true then te σ2 H3 fun y H4 => ∃ acc, H4 D = some (.lst acc) ∧ acc.length < sizeLine ∧ Nx (upd H4 D (.lst (acc ++ [y]))) else Nx H3) := by
  have ez : x.cps.size = x.cps.toList.length := by simp
  refine ⟨fun i m H => m = x.cps.size - i ∧ i ≤ x.cps.size ∧ Same H1 H ∧ H D = some (.lst (((x.cps.toList.take i).filter pf).map fun c => .str ⟨#[c]⟩)), ⟨x.cps.size, by simp, Nat.zero_le _, same_new hD, upd_same⟩, ?_⟩
  rintro i m H ⟨rfl, hi, s1, hl⟩
  by_cases hlt : i < x.cps.size
  · refine .inr ⟨hlt, fun H' => Same H1 H' ∧ H' D = some (.lst (((x.cps.toList.take (i + 1)).filter pf).map fun c => .str ⟨#[c]⟩)), fun H' p' => ⟨x.cps.size - (i + 1), by omega, rfl, hlt, p'⟩, fun y H' yl => ?_⟩
    obtain ⟨rfl, c, hc, rfl⟩ := yl
    have hc2 : x.cps.toList[i]? = some c := by rw [Array.getElem?_toList]; exact hc
    refine ⟨hw _, ?_⟩
    refine ht c H' s1 _ ?_
    have fs := filter_snoc (pf := pf) hc2
    cases hp : pf c with
    | true =>
      refine iteT ?_
      refine he c H' s1 _ ⟨_, hl, szlt ?_, same_mut s1 hD, ?_⟩
      · rw [List.length_map]
        have h1 := List.length_filter_le pf (x.cps.toList.take i)
        have h2 : (x.cps.toList.take i).length ≤ x.cps.toList.length := by rw [List.length_take]; omega
        have h3 : x.length = x.cps.toList.length := len_tl x
        omega
      · rw [upd_same, fs, hp]
        simp
    | false =>
      refine iteF ⟨s1, ?_⟩
      rw [fs, hp]
      simpa using hl
  · have e : i = x.cps.size := by omega
    subst e
    refine .inl ⟨Nat.le_refl _, hd H s1 ?_⟩
    rw [ez, List.take_length] at hl
    exact hl
end

/-! ### is it a place -/
def letter (c : Nat) : Bool := decide (97 ≤ c) && decide (c ≤ 122)
def isP : V → Bool
  | .str z => decide (1 ≤ z.length) && decide (z.length ≤ 12) && z.cps.toList.all letter
  | _ => false
theorem btw_letter (c : Nat) : (!decide (([c] : List Nat) < (Str.ofString "a").cps.toList) && !decide ((Str.ofString "z").cps.toList < ([c] : List Nat))) = letter c := by
  have e1 : (Str.ofString "a").cps.toList = [97] := by decide +kernel
  have e2 : (Str.ofString "z").cps.toList = [122] := by decide +kernel
  rw [e1, e2]
  have h1 : (([c] : List Nat) < [97]) ↔ c < 97 := by
    constructor
    · intro h
      cases h with
      | rel h => exact h
      | cons h => cases h
    · intro h; exact List.Lex.rel h
  have h2 : (([122] : List Nat) < [c]) ↔ 122 < c := by
    constructor
    · intro h
      cases h with
      | rel h => exact h
      | cons h => cases h
    · intro h; exact List.Lex.rel h
  unfold letter
  have g1 : decide (([c] : List Nat) < [97]) = decide (c < 97) := decide_eq_decide.mpr h1
  have g2 : decide (([122] : List Nat) < [c]) = decide (122 < c) := decide_eq_decide.mpr h2
  rw [g1, g2]
  by_cases a : c < 97 <;> by_cases b : 122 < c <;> simp [a, b] <;> omega
theorem notin_letter (c : Nat) : (!decide (c ∈ abc.cps.toList)) = !letter c := by
  unfold letter
  have g : decide (c ∈ abc.cps.toList) = decide (97 ≤ c ∧ c ≤ 122) := decide_eq_decide.mpr (abc_mem c)
  rw [g]
  by_cases a : 97 ≤ c <;> by_cases b : c ≤ 122 <;> simp [a, b]
theorem nofree_ex {names : List (Str × NameKind)} {cells : List (Str × Addr)} (h : ∀ y ∈ names, y.2 ≠ .free) : ∀ y ∈ names, y.2 = .free → ∃ c, cells.lookup y.1 = some c := fun y hy e => absurd e (h y hy)
theorem ifND {p A B : Prop} [Decidable p] (h1 : ¬ p → A) (h2 : p → B) : if (!decide p) = true then A else B := by
  by_cases h : p
  · rw [decide_eq_true h]; exact iteF (h2 h)
  · rw [decide_eq_false h]; exact iteT (h1 h)
theorem ifNB {b : Bool} {A B : Prop} (h1 : b = false → A) (h2 : b = true → B) : if (!b) = true then A else B := by
  cases b with
  | true => exact iteF (h2 rfl)
  | false => exact iteT (h1 rfl)
theorem ifT1 {A B : Prop} (h : A) : if (!false) = true then A else B := iteT h
theorem ifF1 {A B : Prop} (h : B) : if (!true) = true then A else B := iteF h
theorem isP_short {z : Str} (h : ¬ (1 : Int) ≤ (z.length : Int)) : isP (.str z) = false := by
  show (decide (1 ≤ z.length) && decide (z.length ≤ 12) && z.cps.toList.all letter) = _
  rw [decide_eq_false (show ¬ 1 ≤ z.length by omega)]; rfl
theorem isP_long {z : Str} (h : ¬ (z.length : Int) ≤ (12 : Int)) : isP (.str z) = false := by
  show (decide (1 ≤ z.length) && decide (z.length ≤ 12) && z.cps.toList.all letter) = _
  rw [decide_eq_false (show ¬ z.length ≤ 12 by omega)]; simp
theorem isP_mid {z : Str} (h1 : (1 : Int) ≤ (z.length : Int)) (h2 : (z.length : Int) ≤ (12 : Int)) : isP (.str z) = z.cps.toList.all letter := by
  show (decide (1 ≤ z.length) && decide (z.length ≤ 12) && z.cps.toList.all letter) = _
  rw [decide_eq_true (show 1 ≤ z.length by omega), decide_eq_true (show z.length ≤ 12 by omega)]; rfl
theorem filter_all {pf : Nat → Bool} {l : List Nat} : (l.filter fun c => !pf c) = [] ↔ l.all pf = true := by
  rw [List.filter_eq_nil_iff, List.all_eq_true]
  exact ⟨fun h c hc => by simpa using h c hc, fun h c hc => by simp [h c hc]⟩
theorem eqv_nil (xs : List V) : PyData.eqv (.list (xs.map dat)) (.list []) = xs.isEmpty := by
  cases xs with
  | nil => simp [PyData.eqv, PyData.eqvAll]
  | cons v r => simp [PyData.eqv, PyData.eqvAll]
theorem flat_sign {c : Nat} (h : c < 1114112) : flat (.str ⟨#[c]⟩) := .inr (.inr (.inr ⟨_, rfl, okS_data (okS.one h)⟩))
theorem flat_signs {l : List Nat} (h : ∀ c ∈ l, c < 1114112) : ∀ v ∈ l.map (fun c => V.str ⟨#[c]⟩), flat v := fun v hv => by
  obtain ⟨c, hc, rfl⟩ := List.mem_map.mp hv
  exact flat_sign (h c hc)
theorem isEmpty_all {pf : Nat → Bool} {l : List Nat} {α : Type} (f : Nat → α) : ((l.filter fun c => !pf c).map f).isEmpty = l.all pf := by
  rw [Bool.eq_iff_iff, List.isEmpty_iff, List.map_eq_nil_iff]
  exact filter_all
end Fb

namespace Fb
open PySem PySem.Spec PyProof.Rows L2
/-! ### what is wrong with a journey: 0 nothing, 1 a place, 2 the journey -/
def ask (v : V) : Prop := v = .non ∨ (∃ b, v = .bl b) ∨ (∃ i, v = .int i) ∨ ∃ z, v = .str z ∧ okS 90000 z
theorem ask_flat {v : V} (h : ask v) : flat v := by
  rcases h with h | h | h | ⟨z, h, hz⟩
  · exact .inl h
  · exact .inr (.inl h)
  · exact .inr (.inr (.inl h))
  · exact .inr (.inr (.inr ⟨z, h, okS_data hz⟩))
def dueFrom : Option V → List V → Nat
  | _, [] => 0
  | p, x :: r => if isP x = true then (if p = some x then 2 else dueFrom (some x) r) else 1
def due (xs : List V) : Nat := if 2 ≤ xs.length ∧ xs.length ≤ 40 then dueFrom none xs else 2
def prev (xs : List V) (i : Nat) : Option V := if i = 0 then none else xs[i - 1]?
def dueAt (xs : List V) (i : Nat) : Nat := dueFrom (prev xs i) (xs.drop i)
theorem dueAt_end (xs : List V) : dueAt xs xs.length = 0 := by
  unfold dueAt
  rw [List.drop_length]
  rfl
theorem dueAt_zero (xs : List V) : dueAt xs 0 = dueFrom none xs := rfl
theorem dueAt_step {xs : List V} {i : Nat} {x : V} (h : xs[i]? = some x) : dueAt xs i = if isP x = true then (if prev xs i = some x then 2 else dueAt xs (i + 1)) else 1 := by
  obtain ⟨hl, e⟩ := List.getElem?_eq_some_iff.mp h
  unfold dueAt
  rw [List.drop_eq_getElem_cons hl, e]
  show (if isP x = true then (if prev xs i = some x then 2 else dueFrom (some x) (xs.drop (i + 1))) else 1) = _
  have e2 : prev xs (i + 1) = some x := by
    unfold prev
    rw [if_neg (by omega), Nat.add_sub_cancel, h]
  rw [e2]
theorem due_in {xs : List V} (h1 : 2 ≤ xs.length) (h2 : xs.length ≤ 40) : due xs = dueAt xs 0 := if_pos ⟨h1, h2⟩
theorem due_out {xs : List V} (h : ¬ (2 ≤ xs.length ∧ xs.length ≤ 40)) : due xs = 2 := if_neg h
theorem due_place {xs : List V} {i : Nat} {x : V} (h : xs[i]? = some x) (hp : isP x = false) : dueAt xs i = 1 := by
  rw [dueAt_step h, hp]; rfl
theorem due_same {xs : List V} {i : Nat} {x : V} (h : xs[i]? = some x) (hp : isP x = true) (h0 : i ≠ 0) (hs : xs[i - 1]? = some x) : dueAt xs i = 2 := by
  rw [dueAt_step h, if_pos hp, if_pos (by unfold prev; rw [if_neg h0]; exact hs)]
theorem due_go {xs : List V} {i : Nat} {x : V} (h : xs[i]? = some x) (hp : isP x = true) (hs : i ≠ 0 → xs[i - 1]? ≠ some x) : dueAt xs i = dueAt xs (i + 1) := by
  rw [dueAt_step h, if_pos hp, if_neg (fun e => ?_)]
  unfold prev at e
  by_cases h0 : i = 0
  · rw [if_pos h0] at e; cases e
  · rw [if_neg h0] at e; exact hs h0 e
def word : Nat → Str
  | 0 => Str.ofString ""
  | 1 => Str.ofString "place"
  | _ => Str.ofString "journey"
theorem isP_str {v : V} (h : isP v = true) : ∃ z, v = .str z := by
  cases v with
  | str z => exact ⟨z, rfl⟩
  | _ => cases h
theorem scal_str {z : Str} {v : V} (h : ask v) : scal (.str z) v = true := by
  rcases h with rfl | ⟨b, rfl⟩ | ⟨i, rfl⟩ | ⟨y, rfl, _⟩ <;> rfl
theorem num_small : ∀ i : Nat, i < 300 → ((toString (i : Int) : Str)).length ≤ 3 := by decide +kernel
theorem log_small {i : Nat} (h : i < 1000) : (i : Int).natAbs.log2 < 1920 := by
  have h1 : (i : Int).natAbs = i := by simp
  rw [h1]
  exact Nat.lt_of_le_of_lt (Nat.log2_le_self i) (by omega)
theorem lapp {a b : Str} {n m : Nat} (h : a.length ≤ n) (g : b.length ≤ m) : (a ++ b).length ≤ n + m := by rw [len_app]; omega
/-! ### within a suite: what the outer text says, by K -/
theorem pe_cls {X : Cx} {x : Str} {C : Addr} {pos : Pos} (hm : X.mg x = some (.ref C)) (hg : Gl X x := by rfl) (hd : (x == ("__debug__" : Str)) = false := by decide) : PE X (.Name x pos) (tC (.ref C)) := pe_glob hg hm rfl hd
theorem pe_bty {X : Cx} {x : Str} {n : String} {pos : Pos} (hm : X.mg x = none) (hv : bootBuiltins x = some (.type n)) (hg : Gl X x := by rfl) (hn : x ≠ "__name__" := by decide) (hd : (x == ("__debug__" : Str)) = false := by decide) : PE X (.Name x pos) (tC (.ty n)) := pe_bltn hg hm hv rfl hn hd
theorem op_eqS {X : Cx} {K : PySem.W.Frag} (hu : X.A.units + 64 < cLine) (hK : X.K = K := by rfl) : OpR X (compareOp .Eq) (rEqD K) := hK ▸ op_eqD hu
theorem op_neS {X : Cx} {K : PySem.W.Frag} (hu : X.A.units + 64 < cLine) (hK : X.K = K := by rfl) : OpR X (compareOp .NotEq) (rNeD K) := hK ▸ op_neD hu
theorem ix_listS {X : Cx} {K : PySem.W.Frag} (hK : X.K = K := by rfl) : IxR X (rIxL K) := hK ▸ ix_list
theorem ixN_of {n : Nat} {j : Int} (h0 : 0 ≤ j) (h : j < n) : ixN n j = some j.toNat := by
  unfold ixN
  rw [if_pos h0, if_pos h]
theorem rel_cls {C : Addr} : ∀ u, L2.RelV (.ref C) u → u = Value.ref C := fun _ h => h
theorem rel_ty {n : String} : ∀ u, L2.RelV (.ty n) u → u = Value.type n := fun _ h => h
end Fb

namespace Fb
open PySem PySem.Spec PyProof.Rows L2
/-! ### what the top has left, by facts -/
structure FA (K : PySem.W.Frag) (x : Str) (st : Stmt) (f : Addr) : Prop where
  a : PySem.W.nsIn K mainGlobals x = some (some (.ref f))
  l : ∃ (oc : Value) (od : Option Addr) (kV dc pm : Value) (an : Option Addr) (cd ct : Value) (osl : Array (Option Value)), K.lookup f = some ⟨oc, od, .func (PySem.W.fnOf x x (defArgs st) (defBody st) (defScope st) .none kV dc pm an cd ct), osl⟩ ∧ PySem.W.codeIn K cd x = true
  k : PySem.W.keepIn K (.ref f) = true
/-- .. with its code object and that one's table -/
structure FAC (K : PySem.W.Frag) (x : Str) (st : Stmt) (f c P : Addr) : Prop where
  a : PySem.W.nsIn K mainGlobals x = some (some (.ref f))
  l : ∃ (oc : Value) (od : Option Addr) (kV dc pm : Value) (an : Option Addr) (ct : Value) (osl : Array (Option Value)), K.lookup f = some ⟨oc, od, .func (PySem.W.fnOf x x (defArgs st) (defBody st) (defScope st) .none kV dc pm an (.ref c) ct), osl⟩
  q : PySem.W.codeIn K (.ref c) x = true
  k : PySem.W.keepIn K (.ref f) = true
  c : ∃ (oc : Value) (od : Option Addr) (vs : Array Value) (osl : Array (Option Value)), K.lookup c = some ⟨oc, od, .fields vs, osl⟩ ∧ vs[11]? = some (.ref P)
  n : K.lookup P = none
section
variable {Pg : Program} {w : World} {K : PySem.W.Frag} {mg : Str → Option Value} {base h : Heap} {x : Str} {st : Stmt} {f c P : Addr} {ps : List Str} {sp : Sp} {k : Nat}
theorem FA.dn (A : FA K x st f) (X : K.In h) (G : h.Ns mainGlobals mg) (ok : ∀ fd, Fun K x x st f fd → FnOk Pg w K mg base (L2N.CX Pg w) k f fd ps sp)
    (hb : ∀ (kV doc pm : Value) (an : Option Addr) (cdv ct : Value) (us : List Value), us.length = ps.length → bindArgs (PySem.W.fnOf x x (defArgs st) (defBody st) (defScope st) .none kV doc pm an cdv ct) ⟨us, []⟩ = pure (ps.zip us)) : Dn Pg w K mg base k x ps sp := by
  obtain ⟨oc, od, kV, dc, pm, an, cd, ct, osl, l, c⟩ := A.l
  have F := fun_mk (st := st) l c A.k
  exact ⟨f, _, ok _ F, PySem.W.mg_of X G A.a, A.k, F.binds (ps := ps) hb⟩
theorem FAC.dn (A : FAC K x st f c P) (X : K.In h) (G : h.Ns mainGlobals mg) (ok : ∀ fd, FunC K x x st f fd c → FnOk Pg w K mg base (L2N.CX Pg w) k f fd ps sp)
    (hb : ∀ (kV doc pm : Value) (an : Option Addr) (cdv ct : Value) (us : List Value), us.length = ps.length → bindArgs (PySem.W.fnOf x x (defArgs st) (defBody st) (defScope st) .none kV doc pm an cdv ct) ⟨us, []⟩ = pure (ps.zip us)) : Dn Pg w K mg base k x ps sp := by
  obtain ⟨oc, od, kV, dc, pm, an, ct, osl, l⟩ := A.l
  have F := fun_mk (st := st) l A.q A.k
  exact ⟨f, _, ok _ ⟨oc, od, kV, dc, pm, an, ct, osl, rfl, l, A.q⟩, PySem.W.mg_of X G A.a, A.k, F.binds (ps := ps) hb⟩
/-- the table of such a def at the head's heap -/
theorem FAC.tab (A : FAC K x st f c P) (X : K.In h) (G : h.Ns mainGlobals mg) (T : TabN mg h x) : h.get? P = some { cls := .none, data := .fields #[] } ∧ PySem.W.CodeHd h c P := by
  obtain ⟨a, c', P', o, fd, h1, h2, h3, h4, h5, h6, oc, vc, h7, h8, h9⟩ := T
  rw [PySem.W.mg_of X G A.a] at h1
  cases h1
  obtain ⟨oc2, od, kV, dc, pm, an, ct, osl, l⟩ := A.l
  have g1 := X _ _ l
  rw [h2] at g1
  cases g1
  cases h3
  cases h4
  obtain ⟨oc3, od3, vs, osl3, l3, v11⟩ := A.c
  have g2 := X _ _ l3
  rw [h7] at g2
  cases g2
  cases h8
  rw [v11] at h9
  cases h9
  exact ⟨h6, h5⟩
theorem FA.gint {i : Int} (X : K.In h) (G : h.Ns mainGlobals mg) (a : ∃ t, PySem.W.nsIn K mainGlobals x = some (some (.int i t))) : ∃ t, mg x = some (.int i t) := by
  obtain ⟨t, a⟩ := a
  exact ⟨t, PySem.W.mg_of X G a⟩
end
/-- an own class of errors, by facts -/
structure EA (K : PySem.W.Frag) (x : Str) (C : Addr) : Prop where
  a : PySem.W.nsIn K mainGlobals x = some (some (.ref C))
  k : PySem.W.keepIn K (.ref C) = true
  x : PySem.W.excIn K C [.type "ValueError", .type "Exception", .type "BaseException", .type "object"] "ValueError.__new__" = true
  b : PySem.W.subIn K (.ref C) (.type "BaseException") = some true
  t : PySem.W.typeIn K (.ref C) = some (.type "type")
  i : PySem.W.isClsIn K C = true
  hg : PySem.W.findIn K (.ref C) "__getattribute__" = some (some (.builtin "BaseException.__getattribute__"))
  hk : PySem.W.findIn K (.ref C) "__getattr__" = some none
  hd : PySem.W.hasDictIn K C = true
  ha : PySem.W.findIn K (.ref C) "__class__" = some (some (.builtin "object.__class__"))
  hn : PySem.W.specialIn K (.builtin "object.__class__") "__get__" = some (some (.builtin "getset_descriptor.__get__"))
  ht : PySem.W.takesIn K (.builtin "object.__class__") = some true
  hm : PySem.W.mroIn K C (.type "object") = some true
  v : PySem.W.subIn K (.ref C) (.type "ValueError") = some true
theorem EA.exk {K : PySem.W.Frag} {mg : Str → Option Value} {h : Heap} {x : Str} {C : Addr} (A : EA K x C) (X : K.In h) (G : h.Ns mainGlobals mg) : ExK K mg x C [.type "ValueError", .type "Exception", .type "BaseException", .type "object"] := ⟨PySem.W.mg_of X G A.a, A.k, A.x, A.b, A.t⟩
theorem EA.exc {K : PySem.W.Frag} {x : Str} {C : Addr} (A : EA K x C) : ExcC K C := ⟨A.hg, A.hk, A.b, A.hd, A.ha, A.hn, A.ht, A.hm⟩
theorem kit_self {K : PySem.W.Frag} {C : Addr} : PySem.W.kitOne K (.ref C) (.ref C) = some true := by
  unfold PySem.W.kitOne
  rw [if_pos (by simp)]
theorem EA.kit {K : PySem.W.Frag} {x : Str} {C D : Addr} {b : Bool} (A : EA K x D) (hs : PySem.W.subIn K (.ref C) (.ref D) = some b) (hn : (Value.ref C == Value.ref D) = false) : PySem.W.kitOne K (.ref C) (.ref D) = some b := by
  have h1 : (PySem.W.clsIn K D).isSome = true := A.i
  have e2 : ((PySem.W.clsIn K D).isSome && PySem.W.typeIn K (.ref D) == some (.type "type")) = true := by rw [h1, A.t]; rfl
  unfold PySem.W.kitOne
  rw [hn, if_neg Bool.false_ne_true]
  show (if ((PySem.W.clsIn K D).isSome && PySem.W.typeIn K (.ref D) == some (.type "type")) = true then PySem.W.subIn K (.ref C) (.ref D) else none) = some b
  rw [if_pos e2]
  exact hs
theorem EA.kitV {K : PySem.W.Frag} {x : Str} {C : Addr} (A : EA K x C) : PySem.W.kitOne K (.ref C) (.type "ValueError") = some true := by
  unfold PySem.W.kitOne
  rw [if_neg (by simp)]
  show (if PySem.W.kitMeta "ValueError" = true then PySem.W.subIn K (.ref C) (.type "ValueError") else none) = some true
  rw [if_pos (by decide +kernel)]
  exact A.v
theorem EA.exm {K : PySem.W.Frag} {x : Str} {C D : Addr} {b : Bool} (A : EA K x D) (hs : PySem.W.subIn K (.ref C) (.ref D) = some b) : PySem.W.exmOne K (.ref C) (.ref D) = some b := PySem.W.exm_ref A.b A.hd A.t hs
theorem fa_mk {K : PySem.W.Frag} {x : Str} {st : Stmt} {f : Addr} {oc kV dc pm cd ct : Value} {od an : Option Addr} {osl : Array (Option Value)} (a : PySem.W.nsIn K mainGlobals x = some (some (.ref f)))
    (l : K.lookup f = some ⟨oc, od, .func (PySem.W.fnOf x x (defArgs st) (defBody st) (defScope st) .none kV dc pm an cd ct), osl⟩) (c : PySem.W.codeIn K cd x = true) (k : PySem.W.keepIn K (.ref f) = true) : FA K x st f := ⟨a, ⟨oc, od, kV, dc, pm, an, cd, ct, osl, l, c⟩, k⟩
theorem fac_mk {K : PySem.W.Frag} {x : Str} {st : Stmt} {f c P : Addr} {oc kV dc pm ct oc2 : Value} {od an od2 : Option Addr} {osl osl2 : Array (Option Value)} {vs : Array Value} (a : PySem.W.nsIn K mainGlobals x = some (some (.ref f)))
    (l : K.lookup f = some ⟨oc, od, .func (PySem.W.fnOf x x (defArgs st) (defBody st) (defScope st) .none kV dc pm an (.ref c) ct), osl⟩) (q : PySem.W.codeIn K (.ref c) x = true) (k : PySem.W.keepIn K (.ref f) = true)
    (lc : K.lookup c = some ⟨oc2, od2, .fields vs, osl2⟩) (v : vs[11]? = some (.ref P)) (n : K.lookup P = none) : FAC K x st f c P := ⟨a, ⟨oc, od, kV, dc, pm, an, ct, osl, l⟩, q, k, ⟨oc2, od2, vs, osl2, lc, v⟩, n⟩
theorem gi_mk {K : PySem.W.Frag} {x : Str} {i : Int} {t : Tok} (a : PySem.W.nsIn K mainGlobals x = some (some (.int i t))) : ∃ t, PySem.W.nsIn K mainGlobals x = some (some (.int i t)) := ⟨t, a⟩
end Fb

namespace Fb
open PySem PySem.Spec PyProof.Rows L2
/-! ### for (a, b), v in d.items(), d a dict with tuple keys that stands locked -/
section
variable {X : Cx} {pins : List (Addr × Obj)} {σ : L2.St} {H : Hp} {s : Shared} {d : Addr} {o : Obj}
theorem frzT2 {kvs : List (List Key × V)} (I : Inv X pins σ H s) (h : H d = some (.frz o (.dT kvs))) :
    (d == sysModules) = false ∧ s.heap.get? d = some o ∧ o.ExactDict ∧ ∃ (es : Array DictEntry) (ep : Nat), o.data = .dict es ep ∧ es.size = kvs.length ∧
      ∀ (i : Nat) (k : List Key) (v : V), kvs[i]? = some (k, v) → ∃ (en : DictEntry) (q : Addr), es[i]? = some en ∧ en.key = .ref q ∧ H q = some (.tup (k.map kV)) ∧ L2.RelV v en.val := by
  obtain ⟨hd, z, hs, xs, pr, o', es, ep, ho, hx, hdt, he, _⟩ := I.hok d _ h
  rw [hd] at ho
  cases ho
  refine ⟨hs, hd, hx, es, ep, hdt, ?_, fun i k v e => ?_⟩
  · have l1 : es.size = xs.length := size_of_entries he
    have l2 : kvs.length = xs.length := Paired.length pr
    omega
  · obtain ⟨b, hb, e1, e2, e3⟩ := paired_get pr e
    have q := entry_at he i
    rw [hb] at q
    exact ⟨_, b.2.1, q, rfl, e2, e3⟩
end
def Itit (d : Addr) (o : Obj) (kvs : List (List Key × V)) : It :=
  ⟨fun i H => H d = some (.frz o (.dT kvs)) ∧ i < kvs.length, fun i H x H' => ∃ (T q : Addr) (k : List Key) (v : V), kvs[i]? = some (k, v) ∧ x = .ref T ∧ H T = none ∧ H q = some (.tup (k.map kV)) ∧ H' = upd H T (.tup [.ref q, v]), fun i H => H d = some (.frz o (.dT kvs)) ∧ kvs.length ≤ i⟩
section
variable {P : Program} {w : World} {K : PySem.W.Frag} {d : Addr} {o : Obj} {es : Array DictEntry} {ep : Nat}
theorem turn_itemsT {kvs : List (List Key × V)} {elts : List Expr} {kk : Nat} {tpos : Pos} (it : Addr) (hod : o.data = .dict es ep) :
    Turn P w K (.Tuple elts kk tpos) (Itit d o kvs) [it] it (fun i h => ∃ ok ov, IsItemIter h it d i kvs.length ep ok ov) where
  mem := by simp
  obj := fun i h st b hb => by
    have e : b = it := by simpa using hb
    subst e
    obtain ⟨ok, ov, e⟩ := st
    exact ⟨_, e, fun v z => nomatch z⟩
  keep := fun i h h' st k => let ⟨ok, ov, e⟩ := st; ⟨ok, ov, k it (by simp) _ e⟩
  item := by
    intro X hP hw hK hc i pins s σ H E I hf st hg
    subst hP hw hK
    obtain ⟨hd, hi⟩ := hg
    obtain ⟨hs, hgd, hx, es', ep', hdt, hsz, ent⟩ := frzT2 I hd
    obtain ⟨rfl, rfl⟩ := dict_ep hod hdt
    obtain ⟨⟨k, v⟩, hkv⟩ : ∃ p, kvs[i]? = some p := ⟨kvs[i], List.getElem?_eq_getElem hi⟩
    obtain ⟨en, q, hen, hkey, hq, rv⟩ := ent i k v hkv
    obtain ⟨ok, ov, he⟩ := st
    rw [← hsz] at he
    have hi2 : i < es'.size := by rw [hsz]; exact hi
    have hen2 : es'[i] = en := by
      have := (Array.getElem?_eq_some_iff.mp hen).2
      exact this
    have hlt : it < s.heap.objs.size := Heap.lt_size he
    refine DT.nextI he ⟨o, hgd, hx, hdt⟩ hi2 fun h' ho hT hz hk => ?_
    rw [hen2] at ho hT
    refine ⟨_, rfl, wpAny_letOwnedTupleGo_items (s := { s with heap := h' }) ho fun h'' he' sb => ?_⟩
    have hT2 : h''.get? s.heap.objs.size = some { cls := .type "tuple", data := .seq #[en.key, en.val] } := (sb.2 _ (Nat.ne_of_gt hlt)).trans hT
    have new : ObjOk X.prog X.w (upd H s.heap.objs.size (.tup [.ref q, v])) h'' s.heap.objs.size (.tup [.ref q, v]) :=
      ⟨by show 2 ≤ sizeLine; decide, [en.key, en.val], .cons hkey (.cons rv .nil), ⟨_, hT2, rfl, _, rfl⟩⟩
    have I1 : Inv X pins σ (upd H s.heap.objs.size (.tup [.ref q, v])) { s with heap := h'' } :=
      I.turnedNew (t' := s.toks) (ch := [it]) (fun b ob hb e => (sb.2 b (by simpa using hb)).trans (hk b ob (by simpa using hb) e)) hf (Nat.le_refl _) new
    refine ⟨.ref s.heap.objs.size, _, I1, rfl, ⟨_, q, k, v, hkv, rfl, I.hok.fresh (Nat.le_refl _), hq, rfl⟩, ⟨en.key, en.val, ?_⟩, fun b hb => ?_⟩
    · rw [← hsz]; exact he'
    · have e : b = it := by simpa using hb
      rw [e, upd_ne (Nat.ne_of_lt hlt)]
      exact (hf it (by simp)).1
  done := by
    intro X hP hw hK hc i pins s σ H E I hf st hg
    subst hP hw hK
    obtain ⟨hd, hi⟩ := hg
    obtain ⟨f0, f1, f2, f3, f4, f5⟩ := hf it (by simp)
    obtain ⟨hs, hgd, hx, es', ep', hdt, hsz, ent⟩ := frzT2 I hd
    obtain ⟨rfl, rfl⟩ := dict_ep hod hdt
    obtain ⟨ok, ov, he⟩ := st
    rw [← hsz] at he
    exact DT.endI (I.ok.hd hc) he ⟨o, hgd, hx, hdt⟩ (by omega) fun h' eb => ⟨rfl, I.turned (t' := s.toks) (fun b ob hb e => eb b ob hb e) f0 f1 f3 f4 f5⟩
  self := fun A i s Q E st h => let ⟨_, _, e⟩ := st; PySem.W.kcp_self e h
end
def iItemsT (td : TE) : TI := fun σ H R => td σ H fun x H1 => ∃ d o kvs, x = .ref d ∧ H1 d = some (.frz o (.dT kvs)) ∧ R (Itit d o kvs) H1
theorem pi_itemsT {X : Cx} {e : Expr} {td : TE} {apos cpos tpos : Pos} {elts : List Expr} {kk : Nat} (he : PE X e td) (hbase : attributeBase e "items" X.env (eval e X.env) = eval e X.env := by rfl) (hline : (apos.endLine == cpos.line) = true := by rfl) :
    PI X (.Tuple elts kk tpos) (.Call (.Attribute e "items" apos) [] [] cpos) (iItemsT td) := by
  refine ⟨fun pins s σ H R I h => ?_⟩
  refine wpAny_Call_method (T := "dict") (id := "dict.items") hbase rfl hline F.plainAttrs_dict F.slot_dict_items F.type_dict_items (thn (he.run pins s σ H _ I h) fun u s1 ⟨x, H1, I1, rx, d, o, kvs, ex, hd, q⟩ => ?_)
  subst ex
  obtain rfl : u = Value.ref d := rx
  obtain ⟨hs, hgd, hx, es, ep, hdt, hsz, ent⟩ := frzT2 I1 hd
  have raw : DT.Raw s1.heap d es ep := ⟨o, hgd, hx, hdt⟩
  refine ⟨raw.typeIs, fun a e => by cases e; exact ⟨o, hgd, hx.2.1⟩, ?_⟩
  have I2 : Inv X pins σ H1 { s1 with heap := s1.heap.push { cls := .type "dict_items", data := .fields #[.ref d] } } := I1.kept (t' := s1.toks) fun b ob q => Heap.get?_push_of_some _ q
  have fin : wpAny (model X.prog X.w) X.A (pyIter (.ref s1.heap.objs.size)) (PIE X pins σ (.Tuple elts kk tpos) R) X.xe { s1 with heap := s1.heap.push { cls := .type "dict_items", data := .fields #[.ref d] } } := by
    refine DT.iterI (d := d) ⟨_, Heap.get?_push_size _ rfl, rfl, rfl⟩ (raw.push _) (pi_one (tk := s1.toks) I2 _ (turn_itemsT _ hdt) ⟨.none, .none, ?_⟩ q)
    rw [← hsz]
    exact Heap.get?_push_size _ rfl
  show wpAny _ _ (callWith cpos (.builtin "dict.items") [.ref d] [] []) _ X.xe s1
  exact method_meetsIn F.slot_dict_items F.entry_dict_items rfl (PySem.evalArgs_none ⟨rfl, raw.typeIs, F.args_dict_items_1 _, _, DT.meetsItems (es := es) (ep := ep) hs, raw, fin⟩)
end Fb

namespace Fb
open PySem PySem.Spec PyProof.Rows L2
/-! ### addresses of the program's classes -/
structure Ads where
  FareError : Addr
  BadPlace : Addr
  BadPrice : Addr
  TwiceTold : Addr
  TooMany : Addr
  BadJourney : Addr
  BadCuts : Addr
  NotHeld : Addr
  NoParting : Addr
  BadLine : Addr
  Tariff : Addr
abbrev veMro : List Value := [.type "ValueError", .type "Exception", .type "BaseException", .type "object"]
/-! ### own methods and classes, ready to be called -/
structure Dm (Pg : Program) (w : World) (K : PySem.W.Frag) (mg : Str → Option Value) (base : Heap) (k : Nat) (C : Addr) (m : Str) (ps : List Str) (sp : Sp) : Prop where
  ex : ∃ f fd, FnOk Pg w K mg base (L2N.CX Pg w) k f fd ps sp ∧ Meth K C m f ∧ Binds K fd ps []
/-- a class that is made by its own __init__ -/
structure Dk (Pg : Program) (w : World) (K : PySem.W.Frag) (mg : Str → Option Value) (base : Heap) (k : Nat) (x : Str) (C : Addr) (ps : List Str) (sp : Sp) : Prop where
  g : mg x = some (.ref C)
  ex : ∃ f fd, FnOk Pg w K mg base (L2N.CX Pg w) k f fd ps sp ∧ Mk K C f ∧ Binds K fd ps []
def tMdS (C : Addr) (m : Str) (sp : Sp) (E : L2.St → XK) (ta : TE) (t : TA) : TE := fun σ H Q => ta σ H fun x H1 => ∃ a dx fs, x = .ref a ∧ H1 a = some (.ins C dx fs) ∧ fs.lookup m = none ∧ t σ H1 fun vs H2 => sp (.ref a :: vs) H2 Q (E σ)
def tMkS (C : Addr) (sp : Sp) (E : L2.St → XK) (t : TA) : TE := fun σ H Q => t σ H fun vs H1 => ∀ x dx, H1 x = none → H1 dx = none → dx ≠ x → sp (.ref x :: vs) (upd (upd H1 dx (.own x)) x (.ins C dx [])) (fun v H2 => v = .non ∧ Q (.ref x) H2) (E σ)
section
variable {X : Cx} {k : Nat} {x m : Str} {C : Addr} {ps : List Str} {sp : Sp} {p apos pos : Pos} {o e : Expr} {es : List Expr} {ta : TE} {t : TA} {E : L2.St → XK}
theorem passC (σ : L2.St) : PassesAt (L2N.CX X.prog X.w) X σ E0 := fun pins H s e s' I c => passLN pins σ H s e s' I c
theorem app_nil_run {f : Addr} {fd : FuncData} {pins : List (Addr × Obj)} {σ : L2.St} {H : Hp} {s : Shared} {Q : VK} {us : List Value} {vs : List V} {Ex : XK} (F : FnOk X.prog X.w X.K X.mg X.base (L2N.CX X.prog X.w) k f fd ps sp) (hr : Room k X.A) (hb : Binds X.K fd ps [])
    (hx : PassesAt (L2N.CX X.prog X.w) X σ Ex) (I : Inv X pins σ H s) (r : Vals vs us) (h : sp vs H Q Ex) : wpAny (model X.prog X.w) X.A (call (.ref f) us) (EP X pins σ Q) X.xe s := run_fnS (E := fun _ => Ex) F hr hb hx I r h
/-- o.m(e, ..) -/
theorem pe_mdS {pl : Sem Bool} (he : PE X o ta) (c : Cls X.K C) (D : Dm X.prog X.w X.K X.mg X.base k C m ps sp) (hr : Room k X.A) (hx : ∀ σ, PassesAt (L2N.CX X.prog X.w) X σ (E σ)) (ha : PA X (e :: es) t)
    (hst : starEach (e :: es) X.env = (false, eval e X.env) :: starEach es X.env := by rfl) (hpl : (backTo pos (starEach es X.env)).any (·.1) = false := by rfl)
    (ht : eval (.Call (.Attribute o m apos) (e :: es) [] pos) X.env = (do
      let ov ← eval o X.env
      standAt apos.atName
      let (f, first) ← holding [ov] (getMethod ov m pl)
      callWith pos f first (backTo pos (starEach (e :: es) X.env)) (backToKw pos (keywordEach [] X.env))) := by rfl) :
    PE X (.Call (.Attribute o m apos) (e :: es) [] pos) (tMdS C m sp E ta t) := by
  obtain ⟨f, fd, F, hm, hb⟩ := D.ex
  constructor
  intro pins s σ H Q I h
  refine PySem.W.methodCall_KW (pl := pl) (thn (he.run pins s σ H _ I h) fun u s1 hu => ?_) ht
  obtain ⟨y, H1, I1, ry, a, dx, fs, ey, ea, l, q⟩ := hu
  subst ey
  have eu : u = Value.ref a := ry
  subst eu
  refine getmeth_ok I1 ea c hm l ?_
  refine PySem.W.callWith_K (first := [.ref a]) (h₀ := X.base) I.ok.mod.kin hm.kp (thn (ha.run pos pins s1 σ H1 _ I1 q) fun us s2 hv => ?_) hst hpl
  obtain ⟨vs, H2, I2, r, q2⟩ := hv
  exact ⟨I2.kIn, app_nil_run (us := .ref a :: us) (vs := .ref a :: vs) F hr hb (hx σ) I2 (.cons rfl r) q2⟩
/-- o.m() -/
theorem pe_mdS0 {pl : Sem Bool} (he : PE X o ta) (c : Cls X.K C) (D : Dm X.prog X.w X.K X.mg X.base k C m ps sp) (hr : Room k X.A) (hx : ∀ σ, PassesAt (L2N.CX X.prog X.w) X σ (E σ))
    (ht : eval (.Call (.Attribute o m apos) [] [] pos) X.env = (do
      let ov ← eval o X.env
      standAt apos.atName
      let (f, first) ← holding [ov] (getMethod ov m pl)
      callWith pos f first (backTo pos (starEach [] X.env)) (backToKw pos (keywordEach [] X.env))) := by rfl) :
    PE X (.Call (.Attribute o m apos) [] [] pos) (tMdS C m sp E ta tNil) := by
  obtain ⟨f, fd, F, hm, hb⟩ := D.ex
  constructor
  intro pins s σ H Q I h
  refine PySem.W.methodCall_KW (pl := pl) (thn (he.run pins s σ H _ I h) fun u s1 hu => ?_) ht
  obtain ⟨y, H1, I1, ry, a, dx, fs, ey, ea, l, q⟩ := hu
  subst ey
  have eu : u = Value.ref a := ry
  subst eu
  refine getmeth_ok I1 ea c hm l ?_
  exact PySem.W.callWith_K0 (first := [.ref a]) I1.kIn hm.kp (app_nil_run (us := [.ref a]) (vs := [.ref a]) F hr hb (hx σ) I1 (.cons rfl .nil) q)
/-- C(e, ..) -/
theorem pe_mkS (D : Dk X.prog X.w X.K X.mg X.base k x C ps sp) (hr : Room (k + 1) X.A) (hx : ∀ σ, PassesAt (L2N.CX X.prog X.w) X σ (E σ)) (ha : PA X (e :: es) t) (hg : Gl X x := by rfl)
    (hdb : (x == ("__debug__" : Str)) = false := by decide) (he : starEach (e :: es) X.env = (false, eval e X.env) :: starEach es X.env := by rfl) (hpl : (backTo pos (starEach es X.env)).any (·.1) = false := by rfl) :
    PE X (.Call (.Name x p) (e :: es) [] pos) (tMkS C sp E t) := by
  obtain ⟨f, fd, F, M, hb⟩ := D.ex
  constructor
  intro pins s σ H Q I h
  refine wpAny_Call_Name_kw (ld_glob I hg D.g ?_ hdb)
  refine PySem.W.callWith_K (h₀ := X.base) I.ok.mod.kin M.kp (thn (ha.run pos pins s σ H _ I h) fun us s1 hv => ?_) he hpl
  obtain ⟨vs, H1, I1, r, q⟩ := hv
  refine ⟨I1.kIn, ?_⟩
  have fresh1 : H1 (s1.heap.objs.size + 1) = none := I1.hok.fresh (Nat.le_succ _)
  have fresh0 : H1 s1.heap.objs.size = none := I1.hok.fresh (Nat.le_refl _)
  have want := q _ _ fresh1 fresh0 (Nat.ne_of_lt (Nat.lt_succ_self _))
  have J := Inv.made (C := C) I1
  have rr : Vals (V.ref (s1.heap.objs.size + 1) :: vs) (Value.ref (s1.heap.objs.size + 1) :: us) := .cons rfl r
  have ln : (Value.ref (s1.heap.objs.size + 1) :: us).length = ps.length := by rw [← rr.length]; exact F.len _ _ _ _ want
  have bd := hb _ (Value.ref (s1.heap.objs.size + 1) :: us) J.kIn (by rw [List.append_nil]; exact ln)
  rw [List.append_nil] at bd
  refine wpAny_call (make_map (f := f) I1.kIn M.makes M.init (beq_iff_eq.mp M.fn) (codeAny_mono (F.run _ X.stack _ _ ⟨Value.ref (s1.heap.objs.size + 1) :: us, []⟩ _ _ _ _ (hr.make C us []) (J.env0.make C us []) bd rr want) fun res s' hq => ?_))
  cases res with
  | error er => exact hx σ pins _ _ er s' J hq
  | ok fl =>
    cases fl with
    | ret u =>
      obtain ⟨v, H', I3, rv, ev, q3⟩ := J.after hq
      subst ev
      exact ⟨rv, ⟨V.ref (s1.heap.objs.size + 1), H', I3, rfl, q3⟩⟩
    | next => exact hq.elim
    | brk => exact hq.elim
    | cont => exact hq.elim
end
end Fb

namespace Fb
open PySem PySem.Spec PyProof.Rows L2
/-! ### tariffs: the rows, and what is wrong with one more: 0 nothing, 1 a place, 2 the price, 3 told twice, 4 too many -/
abbrev Row := Str × Str × Int
def rowK (r : Row) : List Key × V := ([.inr r.1, .inr r.2.1], .int r.2.2)
def isC : V → Bool
  | .int i => decide (0 ≤ i) && decide (i ≤ 1000000000000)
  | _ => false
def strOf : V → Str
  | .str z => z
  | _ => Str.ofString ""
def intOf : V → Int
  | .int i => i
  | _ => 0
def mkRow (a b c : V) : Row := (strOf a, strOf b, intOf c)
def isTold (rs : List Row) (a b : V) : Bool := (valV (rs.map rowK) [.inr (strOf a), .inr (strOf b)]).isSome
def putDue (rs : List Row) (a b c : V) : Nat :=
  if isP a = true then (if isP b = true then (if a = b then 1 else if isC c = true then (if isTold rs a b = true then 3 else if 160 ≤ rs.length then 4 else 0) else 2) else 1) else 1
/-- the rows one by one, from the rows rs on -/
def takeRows : List Row → List (V × V × V) → Nat × List Row
  | rs, [] => (0, rs)
  | rs, (a, b, c) :: r => if putDue rs a b c = 0 then takeRows (rs ++ [mkRow a b c]) r else (putDue rs a b c, rs)
def errOf (a : Ads) : Nat → Addr
  | 1 => a.BadPlace
  | 2 => a.BadPrice
  | 3 => a.TwiceTold
  | _ => a.TooMany
structure TarAt (C : Addr) (H : Hp) (p d : Addr) (rs : List Row) : Prop where
  ob : ∃ dx, H p = some (.ins C dx [("_prices", .ref d)])
  dc : H d = some (.dT (rs.map rowK))
theorem TarAt.keep {C : Addr} {H H' : Hp} {p d : Addr} {rs : List Row} (T : TarAt C H p d rs) (k : ∀ b o, b = p ∨ b = d → H b = some o → H' b = some o) : TarAt C H' p d rs := by
  obtain ⟨dx, h⟩ := T.ob
  exact ⟨⟨dx, k _ _ (.inl rfl) h⟩, k _ _ (.inr rfl) T.dc⟩
theorem TarAt.same {C : Addr} {H H' : Hp} {p d : Addr} {rs : List Row} (T : TarAt C H p d rs) (s : Same H H') : TarAt C H' p d rs := T.keep fun b o _ e => s b o e
theorem TarAt.ne {C : Addr} {H : Hp} {p d : Addr} {rs : List Row} (T : TarAt C H p d rs) : p ≠ d := by
  obtain ⟨dx, h⟩ := T.ob
  exact ne_of h T.dc (by intro z; cases z)
theorem rowK_put {rs : List Row} {a b : Str} {n : Int} (h : valV (rs.map rowK) [.inr a, .inr b] = none) : putK (rs.map rowK) [.inr a, .inr b] (.int n) = (rs ++ [(a, b, n)]).map rowK := by
  rw [putK_new _ h, List.map_append]
  rfl
theorem prices_lookup (d : Addr) : List.lookup ("_prices" : Str) [(("_prices" : Str), V.ref d)] = some (.ref d) := by simp [List.lookup]
theorem prices_no (d : Addr) {m : Str} (h : (m == ("_prices" : Str)) = false) : List.lookup m [(("_prices" : Str), V.ref d)] = none := by simp [List.lookup, h]
/-- the rows as they are told -/
def IsRow (H : Hp) (t : Addr) (r : Row) : Prop := H t = some (.tup [.str r.1, .str r.2.1, .int r.2.2])
/-- what stands at t is handed in as a row -/
def IsGiven (K : PySem.W.Frag) (H : Hp) (t : Addr) (r : V × V × V) : Prop := SqT K H t [r.1, r.2.1, r.2.2]
theorem IsRow.given {K : PySem.W.Frag} {H : Hp} {t : Addr} {r : Row} (h : IsRow H t r) : IsGiven K H t (.str r.1, .str r.2.1, .int r.2.2) := SqT.of h

structure MonoG (g : TG) : Prop where
  to : ∀ (x : V) (σ : L2.St) (H : Hp) (Q Q' : L2.St → Hp → Prop), (∀ σ H, Q σ H → Q' σ H) → g x σ H Q → g x σ H Q'
structure MonoGs (g : TGs) : Prop where
  to : ∀ (xs : List V) (σ : L2.St) (H : Hp) (Q Q' : L2.St → Hp → Prop), (∀ σ H, Q σ H → Q' σ H) → g xs σ H Q → g xs σ H Q'
theorem mono_name {i : Nat} : MonoG (gName i) := ⟨fun _ _ _ _ _ h q => h _ _ q⟩
theorem mono_nil : MonoGs gNil := ⟨fun _ _ _ _ _ h q => ⟨q.1, h _ _ q.2⟩⟩
theorem mono_cons {t : TG} {u : TGs} (ht : MonoG t) (hu : MonoGs u) : MonoGs (gCons t u) := ⟨fun _ _ _ _ _ h q => by
  obtain ⟨v, r, e, q⟩ := q
  exact ⟨v, r, e, ht.to _ _ _ _ _ (fun σ H z => hu.to _ _ _ _ _ h z) q⟩⟩
theorem mono_tup {K : PySem.W.Frag} {n : Nat} {t : TGs} (ht : MonoGs t) : MonoG (gTup K n t) := ⟨fun _ _ _ _ _ h q => by
  obtain ⟨p, xs, e, hs, hl, q⟩ := q
  exact ⟨p, xs, e, hs, hl, ht.to _ _ _ _ _ h q⟩⟩

section
variable {te : TE} {g : TG} {vs : List Nat} {σ : L2.St} {H1 : Hp} {D d : Addr} {o : Obj} {kvs : List (List Key × V)} {Qd : Hp → Prop}
theorem lc_itemsT (R : Nat → V → Hp → Prop) (hR : ∀ i v H H', SameB D H H' → R i v H → R i v H') (hD : H1 D = none) (hd : H1 d = some (.frz o (.dT kvs))) (hn : kvs.length ≤ 90000)
    (hs : ∀ i k v T q H acc, kvs[i]? = some (k, v) → Same H1 H → H D = some (.lst acc) → H T = some (.tup [.ref q, v]) → H q = some (.tup (k.map kV)) → ∀ Q : VK, (∀ y H', Same H H' → R i y H' → Q y H') → g (.ref T) (wipe σ vs) H fun σ2 H2 => wipe σ2 vs = wipe σ vs ∧ te σ2 H2 Q)
    (hk : MonoG g)
    (he : ∀ H ys, Same H1 H → H D = some (.lst ys) → ys.length = kvs.length → (∀ i v, ys[i]? = some v → R i v H) → Qd H) :
    ∃ W : Nat → Nat → Hp → Prop, (∃ m, W 0 m (upd H1 D (.lst []))) ∧ ∀ i m H, W i m H →
      ((Itit d o kvs).stop i H ∧ Qd H) ∨ ((Itit d o kvs).go i H ∧ ∃ Nx : Hp → Prop, (∀ H', Nx H' → ∃ m', m' < m ∧ W (i + 1) m' H') ∧ ∀ x H', (Itit d o kvs).yld i H x H' → g x (wipe σ vs) H' fun σ2 H2 => wipe σ2 vs = wipe σ vs ∧ tYes σ2 H2 fun b H3 =>
        if b = true then te σ2 H3 fun y H4 => ∃ acc, H4 D = some (.lst acc) ∧ acc.length < sizeLine ∧ Nx (upd H4 D (.lst (acc ++ [y]))) else Nx H3) := by
  refine ⟨fun i m H => m = kvs.length - i ∧ i ≤ kvs.length ∧ ∃ ys, Same H1 H ∧ H D = some (.lst ys) ∧ ys.length = i ∧ ∀ k v, ys[k]? = some v → R k v H, ⟨kvs.length, by simp, Nat.zero_le _, [], same_new hD, upd_same, rfl, fun k v e => by simp at e⟩, ?_⟩
  rintro i m H ⟨rfl, hi, ys, s1, hDl, hl, hr⟩
  by_cases hlt : i < kvs.length
  · refine .inr ⟨⟨s1 _ _ hd, hlt⟩, fun H' => ∃ ys, Same H1 H' ∧ H' D = some (.lst ys) ∧ ys.length = i + 1 ∧ ∀ k v, ys[k]? = some v → R k v H', fun H' p' => ⟨kvs.length - (i + 1), by omega, rfl, hlt, p'⟩, fun x H' yl => ?_⟩
    obtain ⟨T, q, k, v, hkv, rfl, hT, hq, rfl⟩ := yl
    have sT : Same H (upd H T (.tup [.ref q, v])) := same_new hT
    have hDl2 := sT _ _ hDl
    refine hk.to _ _ _ _ _ (fun σ2 H2 h => ⟨h.1, yes_go h.2⟩) (hs i k v T q _ ys hkv (Same.trans s1 sT) hDl2 upd_same (sT _ _ hq) _ fun y H3 s3 r => ?_)
    refine ⟨ys, s3 _ _ hDl2, szlt (by omega), ys ++ [y], same_mut (Same.trans (Same.trans s1 sT) s3) hD, upd_same, by rw [List.length_append]; simp [hl], lc_step hR hl (Same.trans sT s3) hr r⟩
  · have e : i = kvs.length := by omega
    subst e
    exact .inl ⟨⟨s1 _ _ hd, Nat.le_refl _⟩, he H ys s1 hDl hl hr⟩
end
theorem pair_of {α : Type} {R : Addr → α → Prop} : ∀ {ys : List V} {rs : List α}, ys.length = rs.length → (∀ (i : Nat) v, ys[i]? = some v → ∃ t, v = .ref t ∧ ∃ r, rs[i]? = some r ∧ R t r) → ∃ ts : List Addr, ys = ts.map V.ref ∧ Paired R ts rs
  | [], [], _, _ => ⟨[], rfl, .nil⟩
  | [], _ :: _, h, _ => by simp at h
  | _ :: _, [], h, _ => by simp at h
  | y :: ys, r :: rs, h, k => by
    obtain ⟨t, e, r', e2, hr⟩ := k 0 y rfl
    have e3 : r = r' := by simpa using e2
    subst e3
    obtain ⟨ts, e4, hp⟩ := pair_of (ys := ys) (rs := rs) (by simpa using h) fun i v hv => by
      have := k (i + 1) v (by simpa using hv)
      simpa using this
    exact ⟨t :: ts, by rw [e, e4]; rfl, .cons hr hp⟩

end Fb

namespace Fb
open PySem PySem.Spec PyProof.Rows L2
/-! ### the law's names -/
def code (x : Int) : Nat := (x % 26).toNat + 97
theorem code_letter (x : Int) : letter (code x) = true := by
  unfold letter code
  have h1 : (x % 26).toNat < 26 := by omega
  simp only [Bool.and_eq_true, decide_eq_true_eq]
  omega
theorem code_lt (x : Int) : code x < 1114112 := by unfold code; omega
theorem abc_code (x : Int) : atI abc.cps.toList (x % 26) = some (code x) := abc_at (by omega) (by omega)
def nmSize (c : Int) : Nat := (c / 26 % 11).toNat
def nmPlace (c : Int) : Nat := (c / 286 % ((nmSize c : Int) + 1)).toNat
def nmBase (c : Int) (k : Nat) : List Nat := (List.range (nmSize c)).map fun (j : Nat) => code (c / 3 + (k : Int) * k * (c / 3432 % 2) + 5 * (j : Int))
def nmOne (c : Int) : Bool := decide (c / 6864 % 4 = 1)
def nameL (c : Int) (k : Nat) : List Nat :=
  if nmOne c = true then List.replicate (1 + k % 12) (code (c + ((k / 12 : Nat) : Int)))
  else (nmBase c k).take (nmPlace c) ++ [code (c + (k : Int))] ++ (nmBase c k).drop (nmPlace c) ++ List.replicate (k / 26) 120
def nameOf (c : Int) (k : Nat) : Str := ⟨(nameL c k).toArray⟩
theorem nmSize_le (c : Int) : nmSize c ≤ 10 := by unfold nmSize; omega
theorem nmPlace_le (c : Int) : nmPlace c ≤ nmSize c := by
  unfold nmPlace
  have h := Int.emod_lt_of_pos (c / 286) (show (0 : Int) < (nmSize c : Int) + 1 by omega)
  have h0 := Int.emod_nonneg (c / 286) (show ((nmSize c : Int) + 1) ≠ 0 by omega)
  omega
theorem nmBase_len (c : Int) (k : Nat) : (nmBase c k).length = nmSize c := by unfold nmBase; simp
theorem nameL_len2 (c : Int) (k : Nat) (h : nmOne c = false) : (nameL c k).length = nmSize c + 1 + k / 26 := by
  unfold nameL
  rw [h, if_neg Bool.false_ne_true]
  have h1 := nmPlace_le c
  simp only [List.length_append, List.length_take, List.length_drop, List.length_replicate, List.length_cons, List.length_nil, nmBase_len]
  omega
theorem nameL_letters (c : Int) (k : Nat) : ∀ x ∈ nameL c k, letter x = true := by
  intro x hx
  unfold nameL at hx
  have hb : ∀ y ∈ nmBase c k, letter y = true := fun y hy => by
    obtain ⟨j, _, rfl⟩ := List.mem_map.mp hy
    exact code_letter _
  split at hx
  · rw [(List.mem_replicate.mp hx).2]; exact code_letter _
  · rcases List.mem_append.mp hx with h | h
    · rcases List.mem_append.mp h with h | h
      · rcases List.mem_append.mp h with h | h
        · exact hb x (List.mem_of_mem_take h)
        · rw [List.mem_singleton.mp h]; exact code_letter _
      · exact hb x (List.mem_of_mem_drop h)
    · rw [(List.mem_replicate.mp h).2]; decide
theorem name_len (c : Int) (k : Nat) : (nameOf c k).length = (nameL c k).length := by rw [len_tl]; rfl
theorem name_isP {c : Int} {k : Nat} (hk : k < 52) : isP (.str (nameOf c k)) = true := by
  show (decide (1 ≤ (nameOf c k).length) && decide ((nameOf c k).length ≤ 12) && (nameL c k).all letter) = true
  rw [name_len]
  have h3 : (nameL c k).all letter = true := List.all_eq_true.mpr (nameL_letters c k)
  have h1 : 1 ≤ (nameL c k).length ∧ (nameL c k).length ≤ 12 := by
    cases h : nmOne c with
    | true =>
      unfold nameL
      rw [h, if_pos rfl, List.length_replicate]
      omega
    | false =>
      rw [nameL_len2 c k h]
      have := nmSize_le c
      omega
  rw [h3, decide_eq_true h1.1, decide_eq_true h1.2]; rfl
theorem code_inj {x y : Int} (h : code x = code y) (h1 : -26 < x - y) (h2 : x - y < 26) : x = y := by
  unfold code at h
  omega
theorem name_inj {c : Int} {k l : Nat} (hk : k < 52) (hl : l < 52) (h : nameOf c k = nameOf c l) : k = l := by
  have h1 : nameL c k = nameL c l := congrArg (fun z : Str => z.cps.toList) h
  cases ho : nmOne c with
  | true =>
    unfold nameL at h1
    rw [ho, if_pos rfl, if_pos rfl] at h1
    have l1 := congrArg List.length h1
    rw [List.length_replicate, List.length_replicate] at l1
    have h2 := congrArg (fun z : List Nat => z[0]?) h1
    simp only [List.getElem?_replicate] at h2
    rw [if_pos (by omega), if_pos (by omega)] at h2
    have h3 := code_inj (Option.some.inj h2) (by omega) (by omega)
    omega
  | false =>
    have l1 := congrArg List.length h1
    rw [nameL_len2 c k ho, nameL_len2 c l ho] at l1
    have hp := nmPlace_le c
    have at_ : ∀ m : Nat, (nameL c m)[nmPlace c]? = some (code (c + (m : Int))) := fun m => by
      unfold nameL
      rw [ho, if_neg Bool.false_ne_true]
      rw [List.append_assoc, List.append_assoc, List.getElem?_append_right (by rw [List.length_take, nmBase_len]; omega), List.length_take, nmBase_len]
      rw [show nmPlace c - min (nmPlace c) (nmSize c) = 0 by omega]
      rfl
    have h2 := congrArg (fun z : List Nat => z[nmPlace c]?) h1
    simp only [at_] at h2
    have h3 := code_inj (Option.some.inj h2) (by omega) (by omega)
    omega
/-! texts by parts -/
theorem cut_take (z : Str) (k : Nat) (h : k ≤ z.cps.toList.length) : (cutS z none (some (k : Int))).cps.toList = z.cps.toList.take k := by
  unfold cutS
  show ((z.cps.toList.drop (HT.sIx z.length 0 none)).take (HT.sIx z.length z.length (some (k : Int)) - HT.sIx z.length 0 none)) = _
  rw [HT.sIx_none, HT.sIx_nat, List.drop_zero, len_tl, Nat.min_eq_left h, Nat.sub_zero]
theorem cut_drop (z : Str) (k : Nat) (h : k ≤ z.cps.toList.length) : (cutS z (some (k : Int)) none).cps.toList = z.cps.toList.drop k := by
  unfold cutS
  show ((z.cps.toList.drop (HT.sIx z.length 0 (some (k : Int)))).take (HT.sIx z.length z.length none - HT.sIx z.length 0 (some (k : Int)))) = _
  rw [HT.sIx_none, HT.sIx_nat, len_tl, Nat.min_eq_left h]
  rw [List.take_of_length_le (by rw [List.length_drop]; exact Nat.le_refl _)]
theorem fold_one (x : Nat) : ∀ (n : Nat) (acc : Array Nat), ((List.replicate n #[x]).foldl (· ++ ·) acc).toList = acc.toList ++ List.replicate n x
  | 0, acc => by simp
  | n + 1, acc => by
    rw [List.replicate_succ, List.foldl_cons, fold_one x n (acc ++ #[x])]
    simp [List.replicate_succ]
theorem mul_sign (x : Nat) (n : Int) (h : 0 ≤ n) : (Txt.mul ⟨#[x]⟩ n).cps.toList = List.replicate n.toNat x := by
  unfold Txt.mul
  by_cases h1 : n < 1
  · rw [if_pos h1]
    have e : n = 0 := by omega
    subst e; rfl
  · rw [if_neg h1]
    by_cases h2 : n = 1
    · subst h2; rfl
    · rw [if_neg (by
        have e1 : (n == 1) = false := by simpa using h2
        rw [e1]
        show ¬ (false || (1 == 0)) = true
        decide)]
      show ((List.replicate n.toNat #[x]).foldl (· ++ ·) #[]).toList = _
      rw [fold_one]; simp
theorem str_ext {a b : Str} (h : a.cps.toList = b.cps.toList) : a = b := TL.ext_tl h
theorem signs_of {n : Nat} {f : Nat → Nat} {ys : List V} (hl : ys.length = n) (hr : ∀ i v, ys[i]? = some v → v = V.str ⟨#[f i]⟩) : ∃ zs : List Str, ys = zs.map V.str ∧ (zs.map TL.tl).flatten = (List.range n).map f ∧ (∀ z ∈ zs, z.length = 1) := by
  have e : ys = (List.range n).map fun i => V.str ⟨#[f i]⟩ := by
    refine List.ext_getElem? fun i => ?_
    by_cases h : i < n
    · rw [List.getElem?_map, List.getElem?_range h]
      have h2 : i < ys.length := by omega
      rw [List.getElem?_eq_getElem h2, hr i _ (List.getElem?_eq_getElem h2)]
      rfl
    · rw [List.getElem?_eq_none (by omega), List.getElem?_eq_none (by simp; omega)]
  refine ⟨(List.range n).map fun i => ⟨#[f i]⟩, by rw [e, List.map_map]; rfl, ?_, fun z hz => ?_⟩
  · rw [List.map_map]
    clear e hr hl
    induction (List.range n) with
    | nil => rfl
    | cons a r ih => rw [List.map_cons, List.flatten_cons, ih]; rfl
  · obtain ⟨i, _, rfl⟩ := List.mem_map.mp hz
    rfl
end Fb

namespace Fb
open PySem PySem.Spec PyProof.Rows L2
/-! ### good rows -/
def wayK (x y : Str) : List Key := [.inr x, .inr y]
structure GoodRow (r : Row) : Prop where
  p1 : isP (.str r.1) = true
  p2 : isP (.str r.2.1) = true
  ne : r.1 ≠ r.2.1
  c : isC (.int r.2.2) = true
structure GoodRows (rs : List Row) : Prop where
  ok : ∀ r ∈ rs, GoodRow r
  nd : (rs.map fun r => (r.1, r.2.1)).Nodup
theorem valV_none {κ : Type} [DecidableEq κ] {kvs : List (κ × V)} {k : κ} (h : ∀ v, (k, v) ∉ kvs) : valV kvs k = none := by
  induction kvs with
  | nil => rfl
  | cons q r ih =>
    have n : ¬ q.1 = k := fun e => h q.2 (by rw [← e]; exact List.mem_cons_self)
    rw [valV_neg n]
    exact ih fun v hv => h v (List.mem_cons_of_mem _ hv)
theorem valV_some {κ : Type} [DecidableEq κ] {kvs : List (κ × V)} {k : κ} {v : V} (h : valV kvs k = some v) : (k, v) ∈ kvs := by
  induction kvs with
  | nil => cases h
  | cons q r ih =>
    by_cases e : q.1 = k
    · rw [valV_pos e] at h
      cases h
      rw [← e]
      exact List.mem_cons_self
    · rw [valV_neg e] at h
      exact List.mem_cons_of_mem _ (ih h)
theorem wayK_inj {x y x' y' : Str} (h : wayK x y = wayK x' y') : x = x' ∧ y = y' := by
  unfold wayK at h
  have h1 := List.cons.inj h
  have h2 := List.cons.inj h1.2
  exact ⟨Sum.inr.inj h1.1, Sum.inr.inj h2.1⟩
theorem way_new {rs : List Row} {x y : Str} (f : Row → V) (h : valV (rs.map fun r => (wayK r.1 r.2.1, f r)) (wayK x y) = none) : (x, y) ∉ rs.map fun r => (r.1, r.2.1) := by
  induction rs with
  | nil => simp
  | cons q r ih =>
    intro hm
    by_cases e : wayK q.1 q.2.1 = wayK x y
    · rw [List.map_cons, valV_pos (show (wayK q.1 q.2.1, f q).1 = wayK x y from e)] at h
      cases h
    · rw [List.map_cons, valV_neg (show ¬ (wayK q.1 q.2.1, f q).1 = wayK x y from e)] at h
      rcases List.mem_cons.mp hm with e2 | e2
      · have e3 : x = q.1 ∧ y = q.2.1 := by simpa using e2
        exact e (by rw [e3.1, e3.2])
      · exact ih h e2
theorem way_none {rs : List Row} {x y : Str} (f : Row → V) (h : (x, y) ∉ rs.map fun r => (r.1, r.2.1)) : valV (rs.map fun r => (wayK r.1 r.2.1, f r)) (wayK x y) = none := by
  refine valV_none fun v hv => ?_
  obtain ⟨r, hr, e⟩ := List.mem_map.mp hv
  have e1 := (Prod.mk.inj e).1
  obtain ⟨e2, e3⟩ := wayK_inj e1
  exact h (List.mem_map.mpr ⟨r, hr, by rw [e2, e3]⟩)
def givenOf (r : Row) : V × V × V := (.str r.1, .str r.2.1, .int r.2.2)
theorem isP_ask {z : Str} (h : isP (.str z) = true) : ask (.str z) := by
  have h1 : (decide (1 ≤ z.length) && decide (z.length ≤ 12) && z.cps.toList.all letter) = true := h
  simp only [Bool.and_eq_true, decide_eq_true_eq] at h1
  refine .inr (.inr (.inr ⟨z, rfl, by omega, fun c hc => ?_⟩))
  have h2 := List.all_eq_true.mp h1.2 c hc
  unfold letter at h2
  simp only [Bool.and_eq_true, decide_eq_true_eq] at h2
  omega
theorem put_good {rs : List Row} {r : Row} (h : GoodRow r) (hn : (r.1, r.2.1) ∉ rs.map fun r => (r.1, r.2.1)) (hl : rs.length < 160) : putDue rs (.str r.1) (.str r.2.1) (.int r.2.2) = 0 := by
  unfold putDue
  have e : isTold rs (.str r.1) (.str r.2.1) = false := by
    unfold isTold
    rw [show valV (rs.map rowK) [Sum.inr (strOf (.str r.1)), Sum.inr (strOf (.str r.2.1))] = none from way_none (fun r => .int r.2.2) hn]
    rfl
  rw [if_pos h.p1, if_pos h.p2, if_neg (fun z => h.ne (V.str.inj z)), if_pos h.c, e, if_neg Bool.false_ne_true, if_neg (by omega)]
theorem take_good {rs' : List Row} : ∀ {rs : List Row}, GoodRows (rs ++ rs') → (rs ++ rs').length ≤ 160 → takeRows rs (rs'.map givenOf) = (0, rs ++ rs') := by
  induction rs' with
  | nil => intro rs _ _; rw [List.append_nil]; rfl
  | cons r r' ih =>
    intro rs g hl
    have hg := g.ok r (by simp)
    have nd := g.nd
    rw [List.map_append, List.map_cons] at nd
    have hn : (r.1, r.2.1) ∉ rs.map fun r => (r.1, r.2.1) := fun hm => (List.nodup_append.mp nd).2.2 _ hm _ List.mem_cons_self rfl
    have h0 := put_good hg hn (by rw [List.length_append, List.length_cons] at hl; omega)
    show (if putDue rs (.str r.1) (.str r.2.1) (.int r.2.2) = 0 then takeRows (rs ++ [mkRow (.str r.1) (.str r.2.1) (.int r.2.2)]) (r'.map givenOf) else _) = _
    rw [if_pos h0]
    have e : rs ++ [mkRow (.str r.1) (.str r.2.1) (.int r.2.2)] ++ r' = rs ++ r :: r' := by rw [List.append_assoc]; rfl
    rw [ih (rs := rs ++ [mkRow (.str r.1) (.str r.2.1) (.int r.2.2)]) (by rw [e]; exact g) (by rw [e]; exact hl), e]
theorem good_snoc {rs : List Row} {r : Row} (g : GoodRows rs) (h : GoodRow r) (hn : (r.1, r.2.1) ∉ rs.map fun r => (r.1, r.2.1)) : GoodRows (rs ++ [r]) := by
  refine ⟨fun q hq => ?_, ?_⟩
  · rcases List.mem_append.mp hq with h1 | h1
    · exact g.ok q h1
    · rw [List.mem_singleton.mp h1]; exact h
  · rw [List.map_append]
    refine List.nodup_append.mpr ⟨g.nd, by simp, fun a ha b hb e => ?_⟩
    rw [List.map_cons, List.map_nil, List.mem_singleton] at hb
    rw [e, hb] at ha
    exact hn ha
theorem good_ask {rs : List Row} (g : GoodRows rs) : ∀ q ∈ rs.map givenOf, ask q.1 ∧ ask q.2.1 ∧ ask q.2.2 := fun q hq => by
  obtain ⟨r, hr, rfl⟩ := List.mem_map.mp hq
  have h := g.ok r hr
  exact ⟨isP_ask h.p1, isP_ask h.p2, .inr (.inr (.inl ⟨_, rfl⟩))⟩
/-! rows as data -/
def rowV (r : Row) : List V := [.str r.1, .str r.2.1, .int r.2.2]
def rowD (r : Row) : PyData := .tuple ((rowV r).map dat)
theorem row_flat {r : Row} (h : GoodRow r) : ∀ v ∈ rowV r, flat v := fun v hv => by
  unfold rowV at hv
  simp only [List.mem_cons, List.not_mem_nil, or_false] at hv
  rcases hv with e | e | e
  · rw [e]; exact ask_flat (isP_ask h.p1)
  · rw [e]; exact ask_flat (isP_ask h.p2)
  · rw [e]; exact .inr (.inr (.inl ⟨_, rfl⟩))
theorem dp_row {K : PySem.W.Frag} {H : Hp} {t : Addr} {r : Row} (h : GoodRow r) (e : IsRow H t r) : Dp K H (.ref t) (rowD r) := .tup (SqT.of e) (dpAll_flat (row_flat h))
theorem dp_rows {K : PySem.W.Frag} {H : Hp} : ∀ {ts : List Addr} {rs : List Row}, (∀ r ∈ rs, GoodRow r) → Paired (IsRow H) ts rs → DpAll K H (ts.map V.ref) (rs.map rowD)
  | _, _, _, .nil => .nil
  | _, _, g, .cons h t => .cons (dp_row (g _ List.mem_cons_self) h) (dp_rows (fun r hr => g r (List.mem_cons_of_mem _ hr)) t)
theorem shaped_row {r : Row} (h : GoodRow r) : SeqAt.shaped (rowD r) = true := shaped_tup (row_flat h)
theorem lay_rows : ∀ {rs : List Row}, (∀ r ∈ rs, GoodRow r) → PyData.canLayAll0 (rs.map rowD) = true ∧ PyData.depthAll (rs.map rowD) ≤ 1
  | [], _ => ⟨by simp [PyData.canLayAll0], by simp [PyData.depthAll]⟩
  | r :: rs, g => by
    have h1 := layAll_flat (row_flat (g r List.mem_cons_self))
    have h2 := lay_rows (rs := rs) fun q hq => g q (List.mem_cons_of_mem _ hq)
    have e1 : PyData.canLay0 (rowD r) = true := by unfold rowD; rw [PyData.canLay0, h1.1]
    have e2 : PyData.depth (rowD r) = 1 := by unfold rowD; rw [PyData.depth, h1.2]
    refine ⟨?_, ?_⟩
    · rw [List.map_cons, PyData.canLayAll0, e1, h2.1]; rfl
    · rw [List.map_cons, PyData.depthAll, e2]
      exact Nat.max_le.mpr ⟨Nat.le_refl _, h2.2⟩
theorem shaped_rows {rs : List Row} (g : ∀ r ∈ rs, GoodRow r) : SeqAt.shaped (.list (rs.map rowD)) = true := by
  have h := lay_rows g
  unfold SeqAt.shaped
  rw [PyData.canLay0, h.1, PyData.depth]
  have h2 : PyData.depthAll (rs.map rowD) + 1 ≤ 64 := by omega
  rw [decide_eq_true h2]; rfl
theorem nodup_take {α : Type} : ∀ {l : List α} {i : Nat} {x : α}, l.Nodup → l[i]? = some x → x ∉ l.take i
  | [], _, _, _, h => by simp at h
  | y :: l, 0, x, _, _ => by simp
  | y :: l, i + 1, x, nd, h => by
    have h1 := List.nodup_cons.mp nd
    have h2 : l[i]? = some x := by simpa using h
    have h3 := nodup_take (l := l) (i := i) h1.2 h2
    rw [List.take_succ_cons]
    intro hm
    rcases List.mem_cons.mp hm with e | e
    · rw [← e] at h1; exact h1.1 (List.mem_of_getElem? h2)
    · exact h3 e
theorem way_fresh {rs : List Row} {i : Nat} {r : Row} (g : GoodRows rs) (h : rs[i]? = some r) : valV ((rs.take i).map rowK) [.inr r.1, .inr r.2.1] = none := by
  refine way_none (rs := rs.take i) (fun r => .int r.2.2) ?_
  have h1 : (rs.map fun r => (r.1, r.2.1))[i]? = some (r.1, r.2.1) := by rw [List.getElem?_map, h]; rfl
  have h2 := nodup_take g.nd h1
  rw [← List.map_take] at h2
  exact h2
theorem take_rowK {rs : List Row} {i : Nat} {r : Row} (g : GoodRows rs) (h : rs[i]? = some r) : putK ((rs.take i).map rowK) [.inr r.1, .inr r.2.1] (.int r.2.2) = (rs.take (i + 1)).map rowK := by
  rw [rowK_put (way_fresh g h), List.take_add_one, h]
  rfl
theorem shaped_two {r1 r2 : List Row} (g1 : ∀ r ∈ r1, GoodRow r) (g2 : ∀ r ∈ r2, GoodRow r) : SeqAt.shaped (.list [.list (r1.map rowD), .list (r2.map rowD)]) = true := by
  have h1 := lay_rows g1
  have h2 := lay_rows g2
  have e : PyData.depthAll [.list (r1.map rowD), .list (r2.map rowD)] ≤ 2 := by
    rw [PyData.depthAll, PyData.depthAll, PyData.depthAll, PyData.depth, PyData.depth]
    omega
  unfold SeqAt.shaped
  rw [PyData.canLay0, PyData.canLayAll0, PyData.canLayAll0, PyData.canLayAll0, PyData.canLay0, PyData.canLay0, h1.1, h2.1, PyData.depth]
  rw [decide_eq_true (show PyData.depthAll [.list (r1.map rowD), .list (r2.map rowD)] + 1 ≤ 64 by omega)]
  rfl
theorem given_rows {K : PySem.W.Frag} {H : Hp} {ts : List Addr} {rs : List Row} (h : Paired (IsRow H) ts rs) : Paired (IsGiven K H) ts (rs.map givenOf) := by
  induction h with
  | nil => exact .nil
  | cons h t ih => exact .cons (SqT.of h) ih
theorem rows_same {H H' : Hp} {ts : List Addr} {rs : List Row} (s : Same H H') (h : Paired (IsRow H) ts rs) : Paired (IsRow H') ts rs := Paired.mapP h fun _ _ e => s _ _ e
theorem rows_but {H H' : Hp} {D : Addr} {o : HO} {ts : List Addr} {rs : List Row} (s : SameB D H H') (hD : H D = some o) (n : ∀ xs, o ≠ .tup xs) (h : Paired (IsRow H) ts rs) : Paired (IsRow H') ts rs :=
  Paired.mapP h fun _ _ e => s _ _ (ne_of e hD fun z => n _ z.symm) e
end Fb

namespace Fb
open PySem PySem.Spec PyProof.Rows L2
/-! ### methods, by facts -/
structure FM (K : PySem.W.Frag) (C : Addr) (m qual : Str) (st : Stmt) (f : Addr) : Prop where
  a : PySem.W.findIn K (.ref C) m = some (some (.ref f))
  i : PySem.W.isFn K (.ref f) = true
  l : ∃ (oc : Value) (od : Option Addr) (kV dc pm : Value) (an : Option Addr) (cd ct : Value) (osl : Array (Option Value)), K.lookup f = some ⟨oc, od, .func (PySem.W.fnOf m qual (defArgs st) (defBody st) (defScope st) .none kV dc pm an cd ct), osl⟩ ∧ PySem.W.codeIn K cd qual = true
  k : PySem.W.keepIn K (.ref f) = true
theorem fm_mk {K : PySem.W.Frag} {C : Addr} {m qual : Str} {st : Stmt} {f : Addr} {oc kV dc pm cd ct : Value} {od an : Option Addr} {osl : Array (Option Value)} (a : PySem.W.findIn K (.ref C) m = some (some (.ref f))) (i : PySem.W.isFn K (.ref f) = true)
    (l : K.lookup f = some ⟨oc, od, .func (PySem.W.fnOf m qual (defArgs st) (defBody st) (defScope st) .none kV dc pm an cd ct), osl⟩) (c : PySem.W.codeIn K cd qual = true) (k : PySem.W.keepIn K (.ref f) = true) : FM K C m qual st f := ⟨a, i, ⟨oc, od, kV, dc, pm, an, cd, ct, osl, l, c⟩, k⟩
structure CA (K : PySem.W.Frag) (x : Str) (C : Addr) : Prop where
  a : PySem.W.nsIn K mainGlobals x = some (some (.ref C))
  pg : PySem.W.plainGet K C Str.empty = true
  hd : PySem.W.hasDictIn K C = true
  po : PySem.W.plainOver K C = true
  sa : PySem.W.findIn K (.ref C) "__setattr__" = some (some (.builtin "object.__setattr__"))
  mks : PySem.W.makesIn K C = true
  k : PySem.W.keepIn K (.ref C) = true
theorem CA.cls {K : PySem.W.Frag} {x : Str} {C : Addr} (A : CA K x C) : Cls K C := ⟨A.pg, A.hd, A.po, A.sa⟩
section
variable {Pg : Program} {w : World} {K : PySem.W.Frag} {mg : Str → Option Value} {base h : Heap} {x m qual : Str} {st : Stmt} {f C : Addr} {ps : List Str} {sp : Sp} {k : Nat}
theorem FM.fn (A : FM K C m qual st f) (ok : ∀ fd, Fun K m qual st f fd → FnOk Pg w K mg base (L2N.CX Pg w) k f fd ps sp)
    (hb : ∀ (kV doc pm : Value) (an : Option Addr) (cdv ct : Value) (us : List Value), us.length = ps.length → bindArgs (PySem.W.fnOf m qual (defArgs st) (defBody st) (defScope st) .none kV doc pm an cdv ct) ⟨us, []⟩ = pure (ps.zip us)) :
    ∃ fd, FnOk Pg w K mg base (L2N.CX Pg w) k f fd ps sp ∧ Binds K fd ps [] := by
  obtain ⟨oc, od, kV, dc, pm, an, cd, ct, osl, l, c⟩ := A.l
  have F := fun_mk (st := st) l c A.k
  exact ⟨_, ok _ F, F.binds (ps := ps) hb⟩
theorem FM.dm (A : FM K C m qual st f) (ok : ∀ fd, Fun K m qual st f fd → FnOk Pg w K mg base (L2N.CX Pg w) k f fd ps sp)
    (hb : ∀ (kV doc pm : Value) (an : Option Addr) (cdv ct : Value) (us : List Value), us.length = ps.length → bindArgs (PySem.W.fnOf m qual (defArgs st) (defBody st) (defScope st) .none kV doc pm an cdv ct) ⟨us, []⟩ = pure (ps.zip us)) :
    Dm Pg w K mg base k C m ps sp := by
  obtain ⟨fd, h1, h2⟩ := A.fn ok hb
  exact ⟨f, fd, h1, ⟨A.a, A.i, A.k⟩, h2⟩
theorem FM.dk (A : FM K C "__init__" qual st f) (B : CA K x C) (X : K.In h) (G : h.Ns mainGlobals mg) (ok : ∀ fd, Fun K "__init__" qual st f fd → FnOk Pg w K mg base (L2N.CX Pg w) k f fd ps sp)
    (hb : ∀ (kV doc pm : Value) (an : Option Addr) (cdv ct : Value) (us : List Value), us.length = ps.length → bindArgs (PySem.W.fnOf "__init__" qual (defArgs st) (defBody st) (defScope st) .none kV doc pm an cdv ct) ⟨us, []⟩ = pure (ps.zip us)) :
    Dk Pg w K mg base k x C ps sp := by
  obtain ⟨fd, h1, h2⟩ := A.fn ok hb
  exact ⟨PySem.W.mg_of X G B.a, f, fd, h1, ⟨B.mks, A.a, A.i, B.k⟩, h2⟩
end
end Fb

namespace Fb
open PySem PySem.Spec PyProof.Rows L2 HotX
/-! ### walks while an error is handled -/
section
variable {prog : Program} {w : World} {A : Around} {E : Value → Shared → Prop} {s : Shared}
/-- StopIteration is raised there: a new error, its context the one that is handled; nothing else changes -/
theorem hot_stop {α : Type} {x1 : Addr} {Q : α → Shared → Prop} (hot : HotAt A x1 s.heap)
    (post : ∀ (h' : Heap) (a : Addr), (∀ b o, s.heap.get? b = some o → h'.get? b = some o) → (∃ o, h'.get? a = some o ∧ o.cls = .type "StopIteration") → E (.ref a) { s with heap := h' }) :
    wpAny (model prog w) A (newExc (.type "StopIteration") [] >>= fun e => (raiseNew e : Sem α)) Q E s := by
  obtain ⟨hh, oe, fe, ge, de, ce⟩ := hot
  refine wpAny_bind ?_
  simp only [newExc, newTuple]
  refine wpAny_bind (wpAny_newObj_type ?_ (by size_fits))
  refine wpAny_bind (m := firstArgMember _ _) (wpAny_of_eq (a := Value.none) (by first | rfl | (simp only [firstArgMember]; rfl)) (wpAny_newObj_type ?_ (by size_fits)))
  have g1 := Heap.get?_push_of_some { cls := .type "tuple", data := .seq ([] : List Value).toArray } ge
  refine raiseNew_hot ⟨hh, oe, fe, Heap.get?_push_of_some _ g1, de, ce⟩ (Nat.ne_of_lt (Heap.lt_size g1)) (Heap.get?_push_size _ rfl) rfl (by first | (simp; done) | (simp; omega)) ?_
  refine post _ _ (fun b o e => ?_) ⟨_, Heap.get?_update_self _ (Heap.get?_push_size _ rfl) rfl, rfl⟩
  have g2 := Heap.get?_push_of_some { cls := .type "tuple", data := .seq ([] : List Value).toArray } e
  rw [Heap.get?_update_other _ _ (Nat.ne_of_gt (Heap.lt_size g2))]
  exact Heap.get?_push_of_some _ g2
theorem hot_list_end {it l x1 : Addr} {i : Nat} {its : Array Value} {Q : Option Value → Shared → Prop} (hot : HotAt A x1 s.heap) (iter : s.heap.IsListIter it l i) (lst : s.heap.IsList l its) (last : its[i]? = none)
    (post : ∀ h', Heap.ExtBut it s.heap h' → Q none { s with heap := h' }) : wpAny (model prog w) A (pyNext (.ref it)) Q E s := by
  obtain ⟨hh, oe, fe, ge, de, ce⟩ := hot
  obtain ⟨oi, gi, ci, di⟩ := id iter
  obtain ⟨ol, gl, _, nl, dl⟩ := lst
  have ne : it ≠ x1 := fun z => by
    rw [← z, gi] at ge
    cases ge
    rw [di] at de
    cases de
    simp at ce
  unfold pyNext
  refine wpAny_bind (wpAny_attempt (wpAny_callSpecial?_slot (name := Str.ofString "__next__") iter.typeIs slot_listiter_next (wpAny_call_entry slot_listiter_next iter.typeIs entry_listiter_next ?_ (args_listiter_next _))))
  show wpAny _ _ (field (.ref it) 0 >>= _) _ _ s
  refine wpAny_bind (wpAny_field gi di (x := .ref l) rfl ?_)
  show wpAny _ _ (if (Value.ref l == Value.none) = true then _ else _) _ _ s
  rw [if_neg (show (Value.ref l == Value.none) ≠ true from fun z => Bool.false_ne_true z)]
  show wpAny _ _ (field (.ref it) 1 >>= _) _ _ s
  refine wpAny_bind (wpAny_field gi di (x := .int i 0) rfl ?_)
  show wpAny _ _ (seqItems? (.ref l) >>= _) _ _ s
  refine wpAny_bind (wpAny_seqItems gl dl ?_)
  simp only [Int.toNat_natCast, last]
  refine wpAny_bind (wpAny_rule (wpAny_bind (wpAny_setField gi di (by simp) ?_)))
  refine hot_stop (x1 := x1) ⟨hh, oe, fe, (Heap.get?_update_other _ _ ne).trans ge, de, ce⟩ fun h' a kept isStop => ?_
  refine wpAny_bind (wpAny_isInstance (T := "StopIteration") (b := true) isStop isSubtype_stop (wpAny_pure (post h' fun b o nb e => kept b o ?_)))
  rw [Heap.get?_update_other _ _ (Ne.symm nb)]
  exact e
end
end Fb

namespace Fb
open PySem PySem.Spec PyProof.Rows L2 HotX
/-- an iterator and what it tells, turn by turn, also while an error is handled -/
structure TurnA (Pg : Program) (w : World) (K : PySem.W.Frag) (tg : Expr) (J : It) (own : List Addr) (it : Addr) (st : Nat → Heap → Prop) : Prop where
  mem : it ∈ own
  obj : ∀ n h, st n h → ∀ c ∈ own, ∃ ob, h.get? c = some ob ∧ ∀ v, ob.data ≠ .cell v
  keep : ∀ n h h', st n h → (∀ c ∈ own, ∀ ob, h.get? c = some ob → h'.get? c = some ob) → st n h'
  item : ∀ (X : Cx), X.prog = Pg → X.w = w → X.K = K → ∀ (n : Nat) (pins : List (Addr × Obj)) (z : Shared) (σ : L2.St) (H : Hp) (E : Value → Shared → Prop), Inv X pins σ H z → (∀ c ∈ own, FpOk X pins H c) → st n z.heap → J.go n H →
    wpAny (model Pg w) X.A (pyNext (.ref it)) (fun r z1 => ∃ u, r = some u ∧ wpAny (model Pg w) X.A (letOwnedTupleGo tg (.ref it) u)
      (fun _ z2 => ∃ x H', Inv X pins σ H' z2 ∧ RelV x u ∧ J.yld n H x H' ∧ st (n + 1) z2.heap ∧ ∀ c ∈ own, H' c = none) E z1) E z
  done : ∀ (X : Cx), X.prog = Pg → X.w = w → X.K = K → ∀ (x1 : Addr) (n : Nat) (pins : List (Addr × Obj)) (z : Shared) (σ : L2.St) (H : Hp) (E : Value → Shared → Prop), HotAt X.A x1 z.heap → Inv X pins σ H z → (∀ c ∈ own, FpOk X pins H c) →
    st n z.heap → J.stop n H → wpAny (model Pg w) X.A (pyNext (.ref it)) (fun r z1 => r = none ∧ Inv X pins σ H z1) E z
  self : ∀ (A : Around) (n : Nat) (z : Shared) (Q : Value → Shared → Prop) (E : Value → Shared → Prop), st n z.heap → Q (.ref it) z → wpAny (model Pg w) A (pyIter (.ref it)) Q E z
def PIEA (X : Cx) (pins : List (Addr × Obj)) (σ : L2.St) (tg : Expr) (R : It → Hp → Prop) (itv : Value) (z : Shared) : Prop :=
  ∃ (it : Addr) (own : List Addr) (st : Nat → Heap → Prop) (J : It) (H' : Hp), itv = .ref it ∧ Inv X pins σ H' z ∧ TurnA X.prog X.w X.K tg J own it st ∧ st 0 z.heap ∧ (∀ c ∈ own, FpOk X pins H' c) ∧ R J H'
structure PIA (X : Cx) (tg iter : Expr) (wi : TI) : Prop where
  run : ∀ (pins : List (Addr × Obj)) (z : Shared) (σ : L2.St) (H : Hp) (R : It → Hp → Prop), Inv X pins σ H z → wi σ H R →
    wpAny (model X.prog X.w) X.A (eval iter X.env) (fun v z1 => wpAny (model X.prog X.w) X.A (pyIter v) (PIEA X pins σ tg R) X.xe z1) X.xe z
theorem turn_listA {Pg : Program} {w : World} {K : PySem.W.Frag} {tg : Expr} (l it : Addr) : TurnA Pg w K tg (Itl K l) [it] it (fun n h => h.IsListIter it l n) where
  mem := List.mem_singleton.mpr rfl
  obj := fun n h t c hc => by
    rw [List.mem_singleton.mp hc]
    obtain ⟨ob, g, _, d⟩ := t
    exact ⟨ob, g, fun v z => by rw [d] at z; cases z⟩
  keep := fun n h h' t k => t.at fun ob g => k it (List.mem_singleton.mpr rfl) ob g
  item := fun X e1 e2 e3 n pins z σ H E I free t go => by
    subst e1 e2 e3
    obtain ⟨xs, x, sq, at_⟩ := go
    obtain ⟨us, rel, pl, _⟩ := I.list sq
    obtain ⟨u, hu, ru⟩ := rel.get at_
    have F := free it (List.mem_singleton.mpr rfl)
    refine wpAny_pyNext_list_item t pl.isList (x := u) (by simpa using hu) fun h' t' but => ?_
    have I' : Inv X pins σ H { z with heap := h' } := I.turned (t' := z.toks) (fun c ob nc g => (but.2 c nc).trans g) F.1 F.2.1 F.2.2.2.1 F.2.2.2.2.1 F.2.2.2.2.2
    obtain ⟨ob, g, c, d⟩ := id t'
    exact ⟨u, rfl, go_of (s := { z with heap := h' }) g c d (by decide) ⟨x, H, I', ru, ⟨rfl, fun ys hy => by rw [I.list_inj hy sq]; exact at_⟩, t', fun c hc => (free c hc).1⟩⟩
  done := fun X e1 e2 e3 x1 n pins z σ H E hot I free t stop => by
    subst e1 e2 e3
    obtain ⟨xs, sq, le⟩ := stop
    obtain ⟨us, rel, pl, _⟩ := I.list sq
    have F := free it (List.mem_singleton.mpr rfl)
    have len := rel.length
    exact hot_list_end hot t pl.isList (by simp; omega) fun h' but => ⟨rfl, I.turned (t' := z.toks) (fun c ob nc g => but c ob nc g) F.1 F.2.1 F.2.2.2.1 F.2.2.2.2.1 F.2.2.2.2.2⟩
  self := fun _ _ _ _ _ t q => wpAny_pyIter_listiter t q
theorem turn_rangeA {Pg : Program} {w : World} {K : PySem.W.Frag} {tg : Expr} (it : Addr) (lo : Int) (m : Nat) : TurnA Pg w K tg (Itr lo m) [it] it (fun n h => IsRangeIter h it (lo + (n : Nat) * 1) ((m : Int) - (n : Nat)) 1) where
  mem := List.mem_singleton.mpr rfl
  obj := fun n h t c hc => by
    rw [List.mem_singleton.mp hc]
    exact ⟨_, t, fun v z => nomatch (show Data.fields _ = Data.cell v from z)⟩
  keep := fun n h h' t k => k it (List.mem_singleton.mpr rfl) _ t
  item := fun X e1 e2 e3 n pins z σ H E I free t go => by
    subst e1 e2 e3
    have F := free it (List.mem_singleton.mpr rfl)
    have lt : n < m := go
    refine wpAny_pyNext_range_item t (by omega) fun h' t' but => ?_
    have t2 : IsRangeIter h' it (lo + ((n + 1 : Nat) : Int) * 1) ((m : Int) - ((n + 1 : Nat) : Int)) 1 := by
      rw [show lo + ((n + 1 : Nat) : Int) * 1 = lo + ((n : Nat) : Int) * 1 + 1 by omega, show (m : Int) - ((n + 1 : Nat) : Int) = (m : Int) - ((n : Nat) : Int) - 1 by omega]
      exact t'
    have I' : Inv X pins σ H { z with heap := h', toks := z.toks + 1 } := I.turned (fun c ob nc g => (but.2 c nc).trans g) F.1 F.2.1 F.2.2.2.1 F.2.2.2.2.1 F.2.2.2.2.2
    refine ⟨_, rfl, go_of (s := { z with heap := h', toks := z.toks + 1 }) (n := "range_iterator") t2 rfl rfl (by decide) ⟨.int (lo + n), H, I', ⟨z.toks, ?_⟩, ⟨rfl, rfl⟩, t2, fun c hc => (free c hc).1⟩⟩
    rw [Int.mul_one]
  done := fun X e1 e2 e3 x1 n pins z σ H E hot I free t stop => by
    subst e1 e2 e3
    have F := free it (List.mem_singleton.mpr rfl)
    exact pyNext_range_end_hot hot t (by have : m ≤ n := stop; omega) fun h' k => ⟨rfl, I.turned (t' := z.toks) (fun c ob _ g => k c ob g) F.1 F.2.1 F.2.2.2.1 F.2.2.2.2.1 F.2.2.2.2.2⟩
  self := fun _ _ _ _ _ t q => wpAny_pyIter_rangeiter t q
section
variable {X : Cx} {tg : Expr}
theorem pi_listA {l : Expr} {tl : TE} (hl : PE X l tl) : PIA X tg l (iList X.K tl) := ⟨fun pins z σ H R I wish => by
  refine thn (hl.run pins z σ H _ I wish) fun v z1 got => ?_
  obtain ⟨x, H1, I1, r1, a, rfl, ⟨xs, sq⟩, q⟩ := got
  cases r1
  obtain ⟨us, rel, pl, _⟩ := I1.list sq
  refine wpAny_pyIter_list pl.isList ⟨z1.heap.objs.size, [z1.heap.objs.size], _, _, H1, rfl, I1.kept (t' := z1.toks) fun b o e => Heap.get?_push_of_some _ e, turn_listA a _, ⟨_, Heap.get?_push_size _ rfl, rfl, rfl⟩, fun c hc => ?_, q⟩
  rw [List.mem_singleton.mp hc]
  exact I1.fpOk (Nat.le_refl _) (I1.hok.fresh (Nat.le_refl _))⟩
end
end Fb

namespace Fb
open PySem PySem.Spec PyProof.Rows L2 HotX
section
variable {X : Cx}
/-- a list's comprehension while an error is handled -/
theorem pe_lcA {elt tg iter : Expr} {ifs : List Expr} {sc : Scope} {own : List (Str × Nat)} {pos : Pos} {wi : TI} {g : TG} {tt : TT} {te : TE} (hot : L2H.HotC X) (nd : X.N.Nodup) (hi : PIA X tg iter wi) (ok : BlkOk X.N X.env.scope sc own)
    (hg : ∀ (z : Shared) (H : Hp) (C : Addr) (cl : List (Str × Addr)) (fp : List Addr), PG (X.blk z H sc (compEnvC sc cl C X.env) fp) tg g)
    (ht : ∀ (z : Shared) (H : Hp) (C : Addr) (cl : List (Str × Addr)) (fp : List Addr), PTs (X.blk z H sc (compEnvC sc cl C X.env) fp) ifs tt)
    (he : ∀ (z : Shared) (H : Hp) (C : Addr) (cl : List (Str × Addr)) (fp : List Addr), PE (X.blk z H sc (compEnvC sc cl C X.env) fp) elt te)
    (hs : ∀ x, foldedSetIterable iter X.env x = pure x := by intro _; rfl) : PE X (.ListComp elt [⟨tg, iter, ifs, 0⟩] sc pos) (tLc wi g tt te (own.map (·.2))) := by
  refine ⟨fun pins z0 σ H Q I wish => ?_⟩
  rw [eval_ListComp]
  obtain ⟨p, ⟨hh, fe, de, cx⟩, pm⟩ := hot
  have frees : ∀ y ∈ sc.names, y.2 = .free → ∃ c, X.env.cells.lookup y.1 = some c := fun y hy e => (ok.free y hy e).elim (fun k => I.ok.has _ (.inl k)) fun k => I.ok.has _ (.inr k)
  refine wpAny_comprehension_free rfl hs (closure_ok frees) ok.kind (fun y hy e => by rw [ok.uniq y hy, e]) (thn (hi.run pins z0 σ H _ I wish) fun xv z1 hx => thn hx fun itv z2 got => ?_)
  obtain ⟨it, fp, tn, J, H2, rfl, I2, T, t2, f2, q⟩ := got
  refine wpAny_newObj_type (newEnv_comp ?_) (Nat.zero_le _)
  generalize eD : z2.heap.objs.size = D
  have freeD : H2 D = none := I2.hok.fresh (Nat.le_of_eq eD)
  obtain ⟨W, ⟨m0, w0⟩, turn⟩ := q D freeD
  generalize e3 : ({ z2 with heap := z2.heap.push { cls := .type "list", data := .seq ([] : List Value).toArray } } : Shared) = z3
  have I3 : Inv X pins σ (upd H2 D (.lst [])) z3 := by
    rw [← e3]
    refine I2.laid (t' := z2.toks) (fun b o e => Heap.get?_push_of_some _ e) (Nat.le_of_eq eD) ⟨Nat.zero_le _, [], 0, .nil, ?_⟩
    rw [← eD]
    exact Heap.get?_push_size _ rfl
  have h3 : z3.heap = z2.heap.push { cls := .type "list", data := .seq ([] : List Value).toArray } := by rw [← e3]
  have below : ∀ c ∈ fp, c < z2.heap.objs.size := fun c hc => by
    obtain ⟨ob, e, _⟩ := T.obj _ _ t2 c hc
    exact Heap.lt_size e
  have f3 : ∀ c ∈ fp, FpOk X pins (upd H2 D (.lst [])) c ∧ c < z3.heap.objs.size := fun c hc => by
    have lt := below c hc
    refine ⟨⟨?_, (f2 c hc).2⟩, by rw [h3, Heap.size_push]; exact Nat.lt_succ_of_lt lt⟩
    rw [upd_ne (by rw [← eD]; exact Nat.ne_of_lt lt)]
    exact (f2 c hc).1
  have t3 : tn 0 z3.heap := T.keep _ _ _ t2 fun c _ o e => by rw [h3]; exact Heap.get?_push_of_some _ e
  have I4 := block_start I3 ok nd f3
  -- the error stands where the block begins
  have P3 := I3.pin p (List.mem_append_left _ pm)
  have pstk : p.1 ∉ frs X.stack := fun z => (List.mem_cons.mp (I3.stkSub p.1 z)).elim P3.2.2.1 P3.2.2.2.1
  have pfp : p.1 ∉ fp := fun z => (f3 p.1 z).1.2.2.2.2.2 p (List.mem_append_left _ pm) rfl
  have pg := hg z3 (upd H2 D (.lst [])) z3.heap.objs.size (cellsFrom (z3.heap.objs.size + 1) sc.names (cloFrom X.env.cells sc.names [])) fp
  have pt := ht z3 (upd H2 D (.lst [])) z3.heap.objs.size (cellsFrom (z3.heap.objs.size + 1) sc.names (cloFrom X.env.cells sc.names [])) fp
  have pe := he z3 (upd H2 D (.lst [])) z3.heap.objs.size (cellsFrom (z3.heap.objs.size + 1) sc.names (cloFrom X.env.cells sc.names [])) fp
  show codeAny _ _ (.compStart (.ListComp elt [⟨tg, iter, ifs, 0⟩] sc pos) 0 (.ref it) (.ref D) (compEnvC sc (cellsFrom (z3.heap.objs.size + 1) sc.names (cloFrom X.env.cells sc.names [])) z3.heap.objs.size X.env)) (compPost (model X.prog X.w) X.A X.xe none _ (.ref D) z3.heap.objs.size)
    { z3 with heap := pushCells (z3.heap.push { cls := .type "dict", data := .dict #[] }) sc.names }
  have none3 : ∀ c ∈ fp, (upd H2 D (.lst [])) c = none := fun c hc => (f3 c hc).1.1
  generalize ece : compEnvC sc (cellsFrom (z3.heap.objs.size + 1) sc.names (cloFrom X.env.cells sc.names [])) z3.heap.objs.size X.env = ce at I4 pg pt pe ⊢
  have cL : ce.locals = z3.heap.objs.size := by rw [← ece]; rfl
  generalize eH : upd H2 D (.lst []) = H3 at I3 I4 pg pt pe w0 none3 f3 P3
  generalize e4 : ({ z3 with heap := pushCells (z3.heap.push { cls := .type "dict", data := .dict #[] }) sc.names } : Shared) = z4 at I4 ⊢
  have t4 : tn 0 z4.heap := T.keep _ _ _ t3 fun c _ o e => by rw [← e4]; exact pushCells_keeps _ _ _ _ (Heap.get?_push_of_some _ e)
  have hotB : ∀ {σ' : L2.St} {H' : Hp} {z : Shared} {ps : List (Addr × Obj)}, Inv (X.blk z3 H3 sc ce fp) ps σ' H' z → HotAt X.A p.1 z.heap := fun {σ' H' z ps} I' => ⟨hh, p.2, fe, I'.base.keep p.1 p.2 P3.1 P3.2.1 pstk pfp, de, cx⟩
  have stay : ∀ {σ' : L2.St} {H' : Hp} {z : Shared}, Inv (X.blk z3 H3 sc ce fp) [] σ' H' z → (∀ c ∈ fp, H' c = none) → ∀ c ∈ fp, FpOk (X.blk z3 H3 sc ce fp) [] H' c := fun {σ' H' z} I' hn c hc =>
    ⟨hn c hc, (I'.ok.exf c hc).1, I'.ok.exfs c hc, .inl hc, fun y a e => (I'.ok.exf c hc).2 y a e, fun r hr => nomatch (show r ∈ ([] : List (Addr × Obj)) from hr)⟩
  refine codeAny_compStart_list ?_ (T.self X.A 0 _ _ _ t4 ?_)
  all_goals
    refine compLoop_any (fun k z => ∃ n H', Inv (X.blk z3 H3 sc ce fp) [] (wipe σ (own.map (·.2))) H' z ∧ tn n z.heap ∧ (∀ c ∈ fp, H' c = none) ∧ W n k H') ?_ m0 ⟨0, H3, I4, t4, none3, w0⟩
    rintro k z5 ⟨n, H5, I5, t5, none5, w5⟩
    rcases turn n k H5 w5 with ⟨stop, qq⟩ | ⟨go, Nx, dec, step⟩
    · refine thnF (T.done (X.blk z3 H3 sc ce fp) rfl rfl rfl p.1 n [] z5 _ H5 (fun _ _ => False) (hotB I5) I5 (stay I5 none5) t5 stop) fun r z6 got => ?_
      obtain ⟨rfl, I6⟩ := got
      have I7 : Inv X pins σ H5 z6 := I3.call' (ch := fp) I6.os I6.base I6.hok I6.bare fun c hc => ⟨(f3 c hc).1.2.2.2.1, (f3 c hc).1.2.1, (f3 c hc).1.2.2.2.2.1, (f3 c hc).1.2.2.2.2.2⟩
      have nC : H5 z3.heap.objs.size = none := by
        have y : H5 ce.locals = none := I6.free
        rw [cL] at y
        exact y
      obtain ⟨m, hn, _⟩ := I6.loc
      have hn : z6.heap.Ns ce.locals m := hn
      rw [cL] at hn
      obtain ⟨a0, a1, a2, a3, a4, a5⟩ := I3.fpOk (Nat.le_refl _) nC
      exact ⟨m, hn, fun h'' sb => ⟨.ref D, H5, I7.turned (t' := z6.toks) (fun b o nb e => (sb.2 b nb).trans e) a0 a1 a3 a4 a5, rfl, qq⟩⟩
    · refine thnF (T.item (X.blk z3 H3 sc ce fp) rfl rfl rfl n [] z5 _ H5 (fun _ _ => False) I5 (stay I5 none5) t5 go) fun r z6 got => ?_
      obtain ⟨u, rfl, h6⟩ := got
      refine thnF h6 fun _ z7 got => ?_
      obtain ⟨x, H7, I7, r7, y7, t7, none7⟩ := got
      refine thnF (pg.run _ z7 _ H7 x u _ (I7.pinned (stay I7 none7) (T.obj _ _ t7)) r7 (step x H7 y7)) fun _ z8 got => ?_
      obtain ⟨σ8, H8, I8, wiped, q8⟩ := got
      refine thnF (pt.run _ z8 σ8 H8 _ I8 q8) fun b z9 got => ?_
      obtain ⟨H9, I9, q9⟩ := got
      have again : ∀ {z : Shared} {H' : Hp}, Inv (X.blk z3 H3 sc ce fp) ([] ++ pinsAt fp z7.heap) σ8 H' z → Nx H' → ∃ m, m < k ∧ ∃ n H', Inv (X.blk z3 H3 sc ce fp) [] (wipe σ (own.map (·.2))) H' z ∧ tn n z.heap ∧ (∀ c ∈ fp, H' c = none) ∧ W n m H' := fun {z H'} I' nx => by
        obtain ⟨m', lt, w'⟩ := dec H' nx
        have same : ∀ c ∈ fp, ∀ o, z7.heap.get? c = some o → z.heap.get? c = some o ∧ H' c = none := fun c hc o e =>
          let y := I'.pin (c, o) (List.mem_append_right _ (List.mem_append_right _ (mem_pinsAt hc e)))
          ⟨y.1, y.2.1⟩
        refine ⟨m', lt, n + 1, H', (I'.unpinned (pins := [])).weak (by rw [← wiped, wipe_length]) (fun j v e => ?_), T.keep _ _ _ t7 fun c hc o e => (same c hc o e).1, fun c hc => ?_, w'⟩
        · rw [← wiped] at e
          exact (wipe_some e).1
        · obtain ⟨o, e, _⟩ := T.obj _ _ t7 c hc
          exact (same c hc o e).2
      cases b with
      | false =>
        rw [if_neg Bool.false_ne_true] at q9 ⊢
        exact again I9 q9
      | true =>
        rw [if_pos rfl] at q9 ⊢
        refine thnF (pe.run _ z9 σ8 H9 _ I9 q9) fun y z10 got => ?_
        obtain ⟨yv, H10, I10, r10, acc, hD, room, nx⟩ := got
        exact app_ok (X := X.blk z3 H3 sc ce fp) I10 hD room r10 fun z11 I11 => again I11 nx
end
end Fb

namespace Fb
open PySem PySem.Spec PyProof.Rows L2 HotX
section
variable {prog : Program} {w : World} {A : Around} {E : Value → Shared → Prop} {s : Shared}
theorem walk_listA {x1 I ax : Addr} {ob : Obj} {fe : Array Value} (hh : A.handled = some (.ref x1)) (de : ob.data = .fields fe) (cx : fe[2]? = some .none) (ne : ax ≠ I) (its : Array Value) :
    Walks prog w A I [I, ax, x1] [I] its.size (fun i v => its[i]? = some v) (fun i h => h.IsListIter I ax i ∧ h.IsList ax its ∧ h.get? x1 = some ob) where
  sub := fun b hb => by rw [List.mem_singleton.mp hb]; exact List.mem_cons_self
  frame := fun _ _ _ t k => ⟨t.1.at fun o e => k I (by simp) o e, t.2.1.at fun o e => k ax (by simp) o e, k x1 (by simp) _ t.2.2⟩
  item := fun i s Q E lt t post => by
    obtain ⟨t1, t2, t3⟩ := t
    have nx : x1 ≠ I := fun z => by
      obtain ⟨oi, gi, _, di⟩ := t1
      rw [z, gi] at t3
      cases t3
      rw [di] at de
      cases de
      simp at cx
    refine wpAny_pyNext_list_item t1 t2 (x := its[i]) (by simp [lt]) fun h' t' but => ?_
    exact post _ h' s.toks (by simp [lt]) ⟨t', t2.extBut but.extBut ne, but.extBut x1 ob nx t3⟩ fun b o nb e => but.extBut b o (fun z => nb (by simp [z])) e
  done := fun s Q E t post => hot_list_end ⟨hh, ob, fe, t.2.2, de, cx⟩ t.1 t.2.1 (by simp) fun h' but => post h' s.toks fun b o nb e => but b o (fun z => nb (by simp [z])) e
  self := fun _ _ _ _ t q => wpAny_pyIter_listiter t.1 q
end
section
variable {X : Cx}
theorem cr_sumA (c : L2H.HotC X) : CallR X (.builtin "sum") (rSum X.K) := fun pins s σ H vs us Q I r wish => by
  obtain ⟨a, ns, rfl, sq, q⟩ := wish
  obtain ⟨p, ⟨hh, fe, de, cx⟩, pm⟩ := c
  have gp := (I.pin p (List.mem_append_left _ pm)).1
  obtain ⟨its, rv, hl, _⟩ := I.list sq
  rw [Vals.ref1 r]
  have hi := rv.ints
  obtain ⟨xs, e⟩ := hi.allInts.items
  have hn : numsOf (intItems xs).toList = ns := by rw [← e]; exact hi.numsOf
  rw [nums_intItems] at hn
  have hl' := hl.isList
  rw [e] at hl'
  have kept : ∀ {h' : Heap} {tk : Nat} {t' : Tok}, (∀ b o, s.heap.get? b = some o → h'.get? b = some o) → EP X pins σ Q (.int ns.sum t') { s with heap := h', toks := tk } := fun hk => ⟨.int _, H, I.kept hk, ⟨_, rfl⟩, q⟩
  refine call_sum_walkG (iter_intList hl' fun s2 e2 st hfp hlI => ?_)
  subst e2
  refine ⟨_, _, _, _, _, _, numAt xs, rfl, walk_listA (A := X.A.in1) (ob := p.2) hh de cx hlI (intItems xs), ⟨st.1, st.2, Heap.get?_push_of_some _ gp⟩, fun b hb => ?_, fun _ _ => intItems_at, fun h' tk t' hk => ?_⟩
  · rcases List.mem_cons.mp hb with z | hb
    · exact hfp b (by rw [z]; exact List.mem_cons_self)
    · rcases List.mem_cons.mp hb with z | hb
      · exact hfp b (by rw [z]; simp)
      · rw [List.mem_singleton.mp hb]
        exact Heap.lt_size (Heap.get?_push_of_some _ gp)
  · have k2 := kept (h' := h') (tk := tk) (t' := t') (old_kept hk)
    rw [← hn] at k2
    rw [show preSum (numAt xs) (intItems xs).size = (xs.toList.map (·.1)).sum from by rw [preSum_eq, List.take_of_length_le (by simp [intItems])]]
    exact k2
/-! ### an error in the hands of a def -/
theorem call_isP {p : Addr × Obj} {D : Addr} (hp : p ∈ X.pn) (hz : Zc (.ref D) none p.2) (hf : ∃ vs, p.2.data = .fields vs) : CallR X (.builtin "isinstance") (rIsG X.K p.1 (.ref D) none) := fun pins s σ H xs us Q I r wish => by
  obtain ⟨D', c, cv, b, rfl, e2, _, C, hcv, e, q⟩ := wish
  cases e2
  cases r with
  | cons rx rr =>
    cases rr with
    | cons rt rr =>
      cases rr
      cases rx
      have ec := hcv _ rt
      subst ec
      obtain ⟨get, _⟩ := I.pin p (List.mem_append_left _ hp)
      obtain ⟨vs, hv⟩ := hf
      have J : PySem.W.InstAt s.heap p.1 p.2 D none := by
        obtain ⟨ad, oc, od, oda, osl⟩ := p
        obtain ⟨h1, h2⟩ := hz
        dsimp only at h1 h2 hv get ⊢
        subst h1 h2 hv
        exact ⟨get, rfl, rfl, trivial⟩
      exact PySem.W.kia_one (PySem.W.handS_kitx_exc C.hg C.hk C.hs C.hd C.ha C.hn C.ht C.hm) I.kIn J e (fun z => nomatch z) fun tk => ⟨.bl b, H, I.kept (t' := tk) fun _ _ z => z, rfl, q⟩
end
/-- an error of the class C with no context -/
structure Err1 (C : Addr) (p : Addr × Obj) : Prop where
  zc : Zc (.ref C) none p.2
  ctx : ∃ fs : Array Value, p.2.data = .fields fs ∧ fs[2]? = some .none
theorem Err1.fields {C : Addr} {p : Addr × Obj} (e : Err1 C p) : ∃ vs, p.2.data = .fields vs := let ⟨fs, h, _⟩ := e.ctx; ⟨fs, h⟩
/-- what a def promises that is called while the error at e, of the class C, is handled -/
abbrev SpE := Addr → Addr → Sp
structure FnE (Pg : Program) (w : World) (K : PySem.W.Frag) (mg : Str → Option Value) (base : Heap) (k : Nat) (f : Addr) (fd : FuncData) (ps : List Str) (sp : SpE) : Prop where
  len : ∀ e C vs H Q E, sp e C vs H Q E → vs.length = ps.length
  run : ∀ (A : Around) (outer : List Env) (s : Shared) (H : Hp) (args : Args) (us : List Value) (vs : List V) (Q : VK) (E : XK) (p : Addr × Obj) (C : Addr), L2H.RoomH k A → A.handled = some (.ref p.1) → Err1 C p → L2H.PinOk outer H s p → Env0 Pg w K mg base A outer s H →
    BindsTo s fd args (ps.zip us) → Vals vs us → sp p.1 C vs H Q E → codeAny (model Pg w) A (.call (.ref f) args) (CR (L2N.CX Pg w) outer Pg w H s Q E) s
section
variable {Pg : Program} {w : World} {K : PySem.W.Frag} {mg : Str → Option Value} {base : Heap}
theorem _root_.L2.Fun.okN {x qual : Str} {st : Stmt} {f : Addr} {fd : FuncData} {N ps : List Str} {k : Nat} {sp : Sp} (F : Fun K x qual st f fd) (S : FnScope N ps (defScope st)) (len : ∀ vs H Q E, sp vs H Q E → vs.length = ps.length)
    (hbody : ∀ (cdv : Value) (A : Around) (outer : List Env) (s : Shared) (H : Hp) (vs : List V) (Q : VK) (E : XK), Room k (A.deeper (envOfC qual (defScope st) s.heap.objs.size f cdv)) → sp vs H Q E →
      ∃ t, PSs (cxOf (L2N.CX Pg w) Pg w K mg base N qual (defScope st) f cdv A outer s H E) (defBody st) t ∧ t { nx := fun _ H' => Q .non H', rt := Q } (L2.start N vs) H) : FnOk Pg w K mg base (L2N.CX Pg w) (k + 1) f fd ps sp := by
  obtain ⟨oc, od, kV, doc, pm, an, cdv, ct, osl, rfl, lk, code⟩ := F.ex
  exact fn_of lk code S len fun A outer s H vs Q E room wish => hbody cdv A outer s H vs Q E room wish
theorem FunC.okN {x qual : Str} {st : Stmt} {f c : Addr} {fd : FuncData} {N ps : List Str} {k : Nat} {sp : Sp} (F : FunC K x qual st f fd c) (S : FnScope N ps (defScope st)) (len : ∀ vs H Q E, sp vs H Q E → vs.length = ps.length)
    (hbody : ∀ (A : Around) (outer : List Env) (s : Shared) (H : Hp) (vs : List V) (Q : VK) (E : XK), Room k (A.deeper (envOfC qual (defScope st) s.heap.objs.size f (.ref c))) → sp vs H Q E →
      ∃ t, PSs (cxOf (L2N.CX Pg w) Pg w K mg base N qual (defScope st) f (.ref c) A outer s H E) (defBody st) t ∧ t { nx := fun _ H' => Q .non H', rt := Q } (L2.start N vs) H) : FnOk Pg w K mg base (L2N.CX Pg w) (k + 1) f fd ps sp := F.okX S len hbody
theorem okE {x qual : Str} {st : Stmt} {f : Addr} {fd : FuncData} {N ps : List Str} {k : Nat} {sp : SpE} (F : Fun K x qual st f fd) (S : FnScope N ps (defScope st)) (len : ∀ e C vs H Q E, sp e C vs H Q E → vs.length = ps.length)
    (hbody : ∀ (cdv : Value) (A : Around) (outer : List Env) (s : Shared) (H : Hp) (vs : List V) (Q : VK) (E : XK) (p : Addr × Obj) (C : Addr), A.handled = some (.ref p.1) → Err1 C p → L2H.RoomH k (A.deeper (envOfC qual (defScope st) s.heap.objs.size f cdv)) → sp p.1 C vs H Q E →
      ∃ t, PSs (L2H.cxH (L2N.CX Pg w) Pg w K mg base N qual (defScope st) f cdv A outer s H E p) (defBody st) t ∧ t { nx := fun _ H' => Q .non H', rt := Q } (L2.start N vs) H) : FnE Pg w K mg base (k + 1) f fd ps sp := by
  obtain ⟨oc, od, kV, doc, pm, an, cdv, ct, osl, rfl, lk, code⟩ := F.ex
  refine ⟨len, fun A outer s H args us vs Q E p C room hh er pin env binds rel wish => ?_⟩
  have ln := len _ _ _ _ _ _ wish
  have down : ∀ b o, base.get? b = some o → s.heap.get? b = some o := fun b o e => (env.bs b o e).1
  have KX : K.In s.heap := env.mod.kin.keeps down
  have kinds : ∀ y ∈ ps.zip us, (defScope st).names.lookup y.1 = some .local ∨ ((defScope st).names.lookup y.1 = some .cell ∧ ((cellsFrom (s.heap.objs.size + 1) (defScope st).names []).lookup y.1).isSome = true) := fun y hy =>
    (S.par y.1 (List.of_mem_zip (a := y.1) (b := y.2) hy).1).imp id fun q => ⟨q, PySem.W.cellsFrom_some _ _ _ (.inl q)⟩
  refine codeAny_call_function room.depth (KX _ _ lk) rfl S.co S.gen rfl (PySem.W.codeRec_of KX code) (binds _ _ _ _ (wpAny_newFunctionEnv_cells S.kind kinds fun env' he s1 x => ?_))
  subst he
  refine ⟨(env.mod.nolimit.keeps down).keeps x.toInCall.keep, codeAny_func ?_⟩
  obtain ⟨t, ht, got⟩ := hbody cdv A outer s H vs Q E p C hh er (room.deeper _) wish
  have I : Inv (L2H.cxH (L2N.CX Pg w) Pg w K mg base N qual (defScope st) f cdv A outer s H E p) [] (L2.start N vs) H s1 := L2H.inv_startH S pin env ln rel x
  refine wpAny_mono (ht.run [] s1 (L2.start N vs) H _ I got) (fun fl s' hs => ?_) fun _ _ hs => hs
  cases fl with
  | ret u => obtain ⟨v, _, H', J, rv, q⟩ := hs; exact ⟨v, H', J.os, J.bare, J.base, J.hok, rv, q⟩
  | next => obtain ⟨_, H', J, q⟩ := hs; exact ⟨V.non, H', J.os, J.bare, J.base, J.hok, rfl, q⟩
  | brk => obtain ⟨_, _, _, q⟩ := hs; exact q.elim
  | cont => obtain ⟨_, _, _, q⟩ := hs; exact q.elim
end
structure DnE (Pg : Program) (w : World) (K : PySem.W.Frag) (mg : Str → Option Value) (base : Heap) (k : Nat) (x : Str) (ps : List Str) (sp : SpE) : Prop where
  ex : ∃ f fd, FnE Pg w K mg base k f fd ps sp ∧ mg x = some (.ref f) ∧ PySem.W.keepIn K (.ref f) = true ∧ Binds K fd ps []
section
variable {X : Cx} {k : Nat} {x : Str} {ps : List Str} {sp : SpE} {p pos : Pos} {e : Expr} {es : List Expr} {t : TA} {E : L2.St → XK}
def tCallE (a C : Addr) (sp : SpE) (E : L2.St → XK) (t : TA) : TE := tCallS (fun vs H Q Ex => sp a C vs H Q Ex) E t
/-- f(e, ..) while the error q is handled -/
theorem pe_fnE1 {q : Addr × Obj} {C : Addr} (D : DnE X.prog X.w X.K X.mg X.base k x ps sp) (hr : L2H.RoomH k X.A) (hq : q ∈ X.pn) (hh : X.A.handled = some (.ref q.1)) (er : Err1 C q) (hx : ∀ σ, PassesAt (L2N.CX X.prog X.w) X σ (E σ)) (ha : PA X (e :: es) t) (hg : Gl X x := by rfl)
    (hdb : (x == ("__debug__" : Str)) = false := by decide) (he : starEach (e :: es) X.env = (false, eval e X.env) :: starEach es X.env := by rfl) (hpl : (backTo pos (starEach es X.env)).any (·.1) = false := by rfl) :
    PE X (.Call (.Name x p) (e :: es) [] pos) (tCallE q.1 C sp E t) := by
  obtain ⟨f, fd, F, hm, hk, hb⟩ := D.ex
  refine ⟨fun pins s σ H Q I wish => ?_⟩
  refine wpAny_Call_Name_kw (ld_glob I hg hm (PySem.W.callWith_K (h₀ := X.base) I.ok.mod.kin hk (thn (ha.run pos pins s σ H _ I wish) fun us s1 got => ?_) he hpl) hdb)
  obtain ⟨vs, H1, I1, r, w1⟩ := got
  refine ⟨I1.kIn, ?_⟩
  have ln : us.length = ps.length := by rw [← r.length]; exact F.len _ _ _ _ _ _ w1
  have b := hb s1 us I1.kIn (by rw [List.append_nil]; exact ln)
  rw [List.append_nil] at b
  have P1 := I1.pin q (List.mem_append_left _ hq)
  refine wpAny_call (codeAny_mono (F.run X.A X.stack s1 H1 ⟨us, []⟩ us vs Q (E σ) q C hr hh er ⟨P1.1, P1.2.1, fun hm => (List.mem_cons.mp (I1.stkSub q.1 hm)).elim P1.2.2.1 P1.2.2.2.1, P1.2.2.2.2⟩ I1.env0 b r w1) fun r s' hq => ?_)
  cases r with
  | error er => exact hx σ pins H1 s1 er s' I1 hq
  | ok fl =>
    cases fl with
    | ret u => exact I1.after hq
    | next => exact hq.elim
    | brk => exact hq.elim
    | cont => exact hq.elim
/-- .. in the suite, the error's class open -/
theorem pe_fnEG {Y : Cx} {a : Addr} {oe : Obj} {cls : Value} {d : Option Addr} {pn : List (Addr × Obj)} (D : DnE Y.prog Y.w Y.K Y.mg Y.base k x ps sp) (hr : L2H.RoomH k (Y.suite a ((a, oe) :: pn)).A) (hz : L2N.Zn cls d oe) (hf : ∃ vs, oe.data = .fields vs)
    (hx : ∀ σ, PassesAt (L2N.CX Y.prog Y.w) (Y.suite a ((a, oe) :: pn)) σ (E σ)) (ha : PA (Y.suite a ((a, oe) :: pn)) (e :: es) t) (hg : Gl (Y.suite a ((a, oe) :: pn)) x := by rfl)
    (hdb : (x == ("__debug__" : Str)) = false := by decide) (he : starEach (e :: es) Y.env = (false, eval e Y.env) :: starEach es Y.env := by rfl) (hpl : (backTo pos (starEach es Y.env)).any (·.1) = false := by rfl) :
    PE (Y.suite a ((a, oe) :: pn)) (.Call (.Name x p) (e :: es) [] pos) (fun σ H Q => ∃ C, cls = .ref C ∧ d = none ∧ tCallE a C sp E t σ H Q) := by
  refine ⟨fun pins s σ H Q I wish => ?_⟩
  obtain ⟨C, rfl, rfl, wish⟩ := wish
  obtain ⟨vs, hv⟩ := hf
  exact (pe_fnE1 (X := Y.suite a ((a, oe) :: pn)) (q := (a, oe)) D hr List.mem_cons_self rfl ⟨hz.zc, vs, hv, hz.2.2 vs hv⟩ hx ha hg hdb he hpl).run pins s σ H Q I wish
end
end Fb

namespace Fb
open PySem PySem.Spec PyProof.Rows L2
/-! ### [f(x) for x in xs if p(x)] -/
section
variable {K : PySem.W.Frag} {tt : TT} {te : TE} {vs : List Nat} {σ : L2.St} {H1 : Hp} {D : Addr} {Qd : Hp → Prop}
def pick (pf : Nat → Bool) (f : Nat → V) (n : Nat) : List V := ((List.range n).filter pf).map f
theorem pick_succ (pf : Nat → Bool) (f : Nat → V) (n : Nat) : pick pf f (n + 1) = if pf n = true then pick pf f n ++ [f n] else pick pf f n := by
  unfold pick
  rw [List.range_succ, List.filter_append]
  cases h : pf n with
  | true => rw [if_pos rfl]; simp [h]
  | false => rw [if_neg Bool.false_ne_true]; simp [h]
theorem pick_le (pf : Nat → Bool) (f : Nat → V) (n : Nat) : (pick pf f n).length ≤ n := by
  unfold pick
  rw [List.length_map]
  exact Nat.le_trans (List.length_filter_le _ _) (by simp)
theorem lc_pick {a : Addr} {xs : List V} {j : Nat} (pf : Nat → Bool) (f : Nat → V) (hD : H1 D = none) (hx : SqL K H1 a xs) (hn : xs.length ≤ 90000) (hw : ∀ v, wipe ((wipe σ vs).set j (some v)) vs = wipe σ vs)
    (ht : ∀ i x H, xs[i]? = some x → Same H1 H → ∀ Q : Bool → Hp → Prop, (∀ H', Same H H' → Q (pf i) H') → tt ((wipe σ vs).set j (some x)) H Q)
    (he : ∀ i x H, xs[i]? = some x → Same H1 H → ∀ Q : VK, (∀ H', Same H H' → Q (f i) H') → te ((wipe σ vs).set j (some x)) H Q)
    (hd : ∀ H, Same H1 H → H D = some (.lst (pick pf f xs.length)) → Qd H) :
    ∃ W : Nat → Nat → Hp → Prop, (∃ m, W 0 m (upd H1 D (.lst []))) ∧ ∀ i m H, W i m H →
      ((Itl K a).stop i H ∧ Qd H) ∨ ((Itl K a).go i H ∧ ∃ Nx : Hp → Prop, (∀ H', Nx H' → ∃ m', m' < m ∧ W (i + 1) m' H') ∧ ∀ x H', (Itl K a).yld i H x H' → (gName j) x (wipe σ vs) H' fun σ2 H2 => wipe σ2 vs = wipe σ vs ∧ tt σ2 H2 fun b H3 =>
        if b = true then te σ2 H3 fun y H4 => ∃ acc, H4 D = some (.lst acc) ∧ acc.length < sizeLine ∧ Nx (upd H4 D (.lst (acc ++ [y]))) else Nx H3) := by
  refine ⟨fun i m H => m = xs.length - i ∧ i ≤ xs.length ∧ Same H1 H ∧ H D = some (.lst (pick pf f i)), ⟨xs.length, by simp, Nat.zero_le _, same_new hD, upd_same⟩, ?_⟩
  rintro i m H ⟨rfl, hi, s1, hl⟩
  by_cases hlt : i < xs.length
  · refine .inr ⟨⟨xs, xs[i], s1.seq hx, List.getElem?_eq_getElem hlt⟩, fun H' => Same H1 H' ∧ H' D = some (.lst (pick pf f (i + 1))), fun H' p' => ⟨xs.length - (i + 1), by omega, rfl, hlt, p'⟩, fun y H' yl => ?_⟩
    obtain ⟨rfl, hy⟩ := yl
    have hy' := hy xs (s1.seq hx)
    refine ⟨hw _, ht i y H' hy' s1 _ fun H2 s2 => ?_⟩
    have e := pick_succ pf f i
    have hl2 := s2 _ _ hl
    cases hp : pf i with
    | true =>
      refine iteT (he i y H2 hy' (Same.trans s1 s2) _ fun H3 s3 => ⟨_, s3 _ _ hl2, szlt ?_, same_mut (Same.trans (Same.trans s1 s2) s3) hD, ?_⟩)
      · have := pick_le pf f i; omega
      · rw [upd_same, e, hp, if_pos rfl]
    | false =>
      refine iteF ⟨Same.trans s1 s2, ?_⟩
      rw [e, hp, if_neg Bool.false_ne_true]
      exact hl2
  · have e : i = xs.length := by omega
    subst e
    exact .inl ⟨⟨xs, s1.seq hx, Nat.le_refl _⟩, hd H s1 hl⟩
end
theorem pick_nil {pf : Nat → Bool} {f : Nat → V} {n : Nat} : (pick pf f n).isEmpty = true ↔ ∀ i, i < n → pf i = false := by
  unfold pick
  rw [List.isEmpty_iff, List.map_eq_nil_iff, List.filter_eq_nil_iff]
  exact ⟨fun h i hi => by simpa using h i (List.mem_range.mpr hi), fun h i hi => by simp [h i (List.mem_range.mp hi)]⟩
/-! ### the law's other places -/
def fa (k : Nat) : Str := Str.ofString "aa" ++ ⟨#[k % 25 + 97]⟩
def fb (k : Nat) : Str := Str.ofString "bb" ++ ⟨#[k / 25 + 97]⟩
theorem fa_tl (k : Nat) : (fa k).cps.toList = [97, 97, k % 25 + 97] := by
  have e : (Str.ofString "aa").cps.toList = [97, 97] := by decide +kernel
  have h : (fa k).cps.toList = (Str.ofString "aa").cps.toList ++ [k % 25 + 97] := TL.tl_append _ _
  rw [h, e]; rfl
theorem fb_tl (k : Nat) : (fb k).cps.toList = [98, 98, k / 25 + 97] := by
  have e : (Str.ofString "bb").cps.toList = [98, 98] := by decide +kernel
  have h : (fb k).cps.toList = (Str.ofString "bb").cps.toList ++ [k / 25 + 97] := TL.tl_append _ _
  rw [h, e]; rfl
theorem isP_three {z : Str} {x y u : Nat} (h : z.cps.toList = [x, y, u]) (hx : letter x = true) (hy : letter y = true) (hu : letter u = true) : isP (.str z) = true := by
  have hl : z.length = 3 := by rw [len_tl, h]; rfl
  show (decide (1 ≤ z.length) && decide (z.length ≤ 12) && z.cps.toList.all letter) = true
  rw [hl, h]
  simp [hx, hy, hu]
theorem let_ok {n : Nat} (h1 : 97 ≤ n) (h2 : n ≤ 122) : letter n = true := by
  unfold letter
  rw [decide_eq_true h1, decide_eq_true h2]; rfl
theorem fa_isP (k : Nat) : isP (.str (fa k)) = true := isP_three (fa_tl k) (by decide) (by decide) (let_ok (by omega) (by omega))
theorem fb_isP {k : Nat} (h : k < 175) : isP (.str (fb k)) = true := isP_three (fb_tl k) (by decide) (by decide) (let_ok (by omega) (by omega))
theorem fa_ne_fb (k l : Nat) : fa k ≠ fb l := fun e => by
  have h := congrArg (fun z : Str => z.cps.toList) e
  simp only [fa_tl, fb_tl] at h
  have := (List.cons.inj h).1
  omega
theorem f_inj {k l : Nat} (h1 : fa k = fa l) (h2 : fb k = fb l) : k = l := by
  have e1 := congrArg (fun z : Str => z.cps.toList) h1
  have e2 := congrArg (fun z : Str => z.cps.toList) h2
  simp only [fa_tl, fb_tl, List.cons.injEq, true_and, and_true] at e1 e2
  omega
theorem no_aabb {c : Int} {k l : Nat} : ¬ (fa k = nameOf c 20 ∧ fb l = nameOf c 21) := by
  rintro ⟨h1, h2⟩
  have e1 : [97, 97, k % 25 + 97] = nameL c 20 := by rw [← fa_tl, h1]; rfl
  have e2 : [98, 98, l / 25 + 97] = nameL c 21 := by rw [← fb_tl, h2]; rfl
  cases ho : nmOne c with
  | true =>
    have z := congrArg List.length e1
    unfold nameL at z
    rw [ho, if_pos rfl, List.length_replicate] at z
    simp at z
  | false =>
    have z := congrArg List.length e1
    rw [nameL_len2 c 20 ho] at z
    simp only [List.length_cons, List.length_nil] at z
    have hs : nmSize c = 2 := by omega
    have hp := nmPlace_le c
    have base : ∀ m : Nat, nmBase c m = [code (c / 3 + (m : Int) * m * (c / 3432 % 2) + 5 * ((0 : Nat) : Int)), code (c / 3 + (m : Int) * m * (c / 3432 % 2) + 5 * ((1 : Nat) : Int))] := fun m => by
      unfold nmBase
      rw [hs]; rfl
    unfold nameL at e1 e2
    rw [ho, if_neg Bool.false_ne_true, base] at e1 e2
    have hm : c / 3432 % 2 = 0 ∨ c / 3432 % 2 = 1 := by omega
    have cases3 : nmPlace c = 0 ∨ nmPlace c = 1 ∨ nmPlace c = 2 := by omega
    rcases cases3 with h | h | h <;> rw [h] at e1 e2 <;> simp only [List.take, List.drop, List.nil_append, List.cons_append, List.append_nil, List.append_assoc, List.cons.injEq, show (20 / 26 : Nat) = 0 from rfl, show (21 / 26 : Nat) = 0 from rfl, List.replicate] at e1 e2 <;> unfold code at e1 e2 <;> rcases hm with q | q <;> rw [q] at e1 e2 <;> omega
end Fb

namespace Fb
open PySem PySem.Spec PyProof.Rows L2
section
variable {Pg : Program} {w : World} {K : PySem.W.Frag} {mg : Str → Option Value} {base h : Heap} {x : Str} {st : Stmt} {f : Addr} {ps : List Str} {sp : SpE} {k : Nat}
theorem FA.dne (A : FA K x st f) (X : K.In h) (G : h.Ns mainGlobals mg) (ok : ∀ fd, Fun K x x st f fd → FnE Pg w K mg base k f fd ps sp)
    (hb : ∀ (kV doc pm : Value) (an : Option Addr) (cdv ct : Value) (us : List Value), us.length = ps.length → bindArgs (PySem.W.fnOf x x (defArgs st) (defBody st) (defScope st) .none kV doc pm an cdv ct) ⟨us, []⟩ = pure (ps.zip us)) : DnE Pg w K mg base k x ps sp := by
  obtain ⟨oc, od, kV, dc, pm, an, cd, ct, osl, l, c⟩ := A.l
  have F := fun_mk (st := st) l c A.k
  exact ⟨f, _, ok _ F, PySem.W.mg_of X G A.a, A.k, F.binds (ps := ps) hb⟩
end
end Fb

namespace Fb
open PySem PySem.Spec PyProof.Rows L2 HotX
/-! ### further walks while an error is handled -/
section
variable {prog : Program} {w : World} {A : Around} {E : Value → Shared → Prop} {s : Shared}
theorem hot_ascii_end {it x1 : Addr} {x : Str} {t : Tok} {i : Nat} {Q : Option Value → Shared → Prop} (hot : HotAt A x1 s.heap) (iter : s.heap.IsStrIter it "str_ascii_iterator" x t i) (last : x.cps[i]? = none)
    (post : ∀ h', Heap.ExtBut it s.heap h' → Q none { s with heap := h' }) : wpAny (model prog w) A (pyNext (.ref it)) Q E s := by
  obtain ⟨hh, oe, fe, ge, de, ce⟩ := hot
  obtain ⟨oi, gi, ci, di⟩ := id iter
  have ne : it ≠ x1 := fun z => by
    rw [← z, gi] at ge
    cases ge
    rw [di] at de
    cases de
    simp at ce
  unfold pyNext
  refine wpAny_bind (wpAny_attempt (wpAny_callSpecial?_slot (name := Str.ofString "__next__") iter.typeIs F.slot_str_ascii_iterator_next (wpAny_call_entry F.slot_str_ascii_iterator_next iter.typeIs F.entry_str_ascii_iterator_next ?_ (F.args_str_ascii_iterator_next_1 _))))
  show wpAny _ _ (field (.ref it) 0 >>= _) _ _ s
  refine wpAny_bind (wpAny_field gi di (x := .str x t) rfl ?_)
  show wpAny _ _ (field (.ref it) 1 >>= _) _ _ s
  refine wpAny_bind (wpAny_field gi di (x := .int i 0) rfl ?_)
  simp only [Int.toNat_natCast, last]
  refine wpAny_bind (wpAny_rule (wpAny_bind (wpAny_setField gi di (by simp) (wpAny_bind (wpAny_letGo ?_)))))
  refine hot_stop (x1 := x1) ⟨hh, oe, fe, (Heap.get?_update_other _ _ ne).trans ge, de, ce⟩ fun h' a kept isStop => ?_
  refine wpAny_bind (wpAny_isInstance (T := "StopIteration") (b := true) isStop isSubtype_stop (wpAny_pure (post h' fun b o nb e => kept b o ?_)))
  rw [Heap.get?_update_other _ _ (Ne.symm nb)]
  exact e
theorem hot_wide_end {it x1 : Addr} {x : Str} {t : Tok} {i : Nat} {Q : Option Value → Shared → Prop} (hot : HotAt A x1 s.heap) (iter : s.heap.IsStrIter it "str_iterator" x t i) (last : x.cps[i]? = none)
    (post : ∀ h', Heap.ExtBut it s.heap h' → Q none { s with heap := h' }) : wpAny (model prog w) A (pyNext (.ref it)) Q E s := by
  obtain ⟨hh, oe, fe, ge, de, ce⟩ := hot
  obtain ⟨oi, gi, ci, di⟩ := id iter
  have ne : it ≠ x1 := fun z => by
    rw [← z, gi] at ge
    cases ge
    rw [di] at de
    cases de
    simp at ce
  unfold pyNext
  refine wpAny_bind (wpAny_attempt (wpAny_callSpecial?_slot (name := Str.ofString "__next__") iter.typeIs F.slot_str_iterator_next (wpAny_call_entry F.slot_str_iterator_next iter.typeIs F.entry_str_iterator_next ?_ (F.args_str_iterator_next_1 _))))
  show wpAny _ _ (field (.ref it) 0 >>= _) _ _ s
  refine wpAny_bind (wpAny_field gi di (x := .str x t) rfl ?_)
  show wpAny _ _ (field (.ref it) 1 >>= _) _ _ s
  refine wpAny_bind (wpAny_field gi di (x := .int i 0) rfl ?_)
  simp only [Int.toNat_natCast, last]
  refine wpAny_bind (wpAny_rule (wpAny_bind (wpAny_setField gi di (by simp) (wpAny_bind (wpAny_letGo ?_)))))
  refine hot_stop (x1 := x1) ⟨hh, oe, fe, (Heap.get?_update_other _ _ ne).trans ge, de, ce⟩ fun h' a kept isStop => ?_
  refine wpAny_bind (wpAny_isInstance (T := "StopIteration") (b := true) isStop isSubtype_stop (wpAny_pure (post h' fun b o nb e => kept b o ?_)))
  rw [Heap.get?_update_other _ _ (Ne.symm nb)]
  exact e
theorem hot_items_end {it d x1 : Addr} {i ep : Nat} {es : Array DictEntry} {ok ov : Value} {Q : Option Value → Shared → Prop} (hot : HotAt A x1 s.heap) (iter : IsItemIter s.heap it d i es.size ep ok ov) (raw : DT.Raw s.heap d es ep) (last : es.size ≤ i)
    (post : ∀ h', Heap.ExtBut it s.heap h' → Q none { s with heap := h' }) : wpAny (model prog w) A (pyNext (.ref it)) Q E s := by
  obtain ⟨hh, oe, fe, ge, de, ce⟩ := hot
  obtain ⟨od, god, cod, dod⟩ := id raw
  have gi := id iter
  have ne : it ≠ x1 := fun z => by
    have g2 : s.heap.get? it = some _ := gi
    rw [z, ge] at g2
    cases g2
    cases de
    simp [rawInt] at ce
  have hT : s.TypeIs (.ref it) "dict_itemiterator" := ⟨_, iter, rfl⟩
  unfold pyNext
  refine wpAny_bind (wpAny_attempt (wpAny_callSpecial?_slot (name := Str.ofString "__next__") hT F.slot_dict_itemiterator_next (wpAny_call_entry F.slot_dict_itemiterator_next hT F.entry_dict_itemiterator_next ?_ (F.args_dict_itemiterator_next_1 _))))
  refine wpAny_bind (wpAny_pure (wpAny_bind (wpAny_bind ?_)))
  first | refine wpAny_bind (wpAny_typeNameOfWhole_itemiter hT (wpAny_pure ?_)) | refine wpAny_bind (wpAny_typeNameOf_itemiter hT (wpAny_pure ?_))
  refine wpAny_bind (wpAny_fieldsOf iter rfl ?_)
  simp only [show Builtin.Dict_items.ownsTuple "dict_itemiterator" = true from by decide, if_true]
  show wpAny _ _ (if (Value.ref d == Value.none) = true then _ else _) _ _ s
  rw [if_neg (show (Value.ref d == Value.none) ≠ true from fun z => Bool.false_ne_true z)]
  refine wpAny_bind (wpAny_pure (wpAny_bind (wpAny_dictEntries god dod ?_)))
  rw [if_neg (by simp)]
  refine wpAny_bind (wpAny_pure (wpAny_bind (wpAny_dictEpoch god dod ?_)))
  rw [if_neg (by simp)]
  refine wpAny_pure ?_
  simp only [show ¬ ((i : Int) < 0) from by omega, if_false, Int.toNat_natCast, Array.getElem?_eq_none last]
  refine wpAny_bind ?_
  first | refine wpAny_bind (wpAny_typeNameOfWhole_itemiter hT (wpAny_pure ?_)) | refine wpAny_bind (wpAny_typeNameOf_itemiter hT (wpAny_pure ?_))
  show wpAny _ _ (setField (.ref it) 2 .none >>= _) _ _ s
  refine wpAny_bind (wpAny_setField iter rfl (by simp) ?_)
  refine hot_stop (x1 := x1) ⟨hh, oe, fe, (Heap.get?_update_other _ _ ne).trans ge, de, ce⟩ fun h' a kept isStop => ?_
  refine wpAny_bind (wpAny_isInstance (T := "StopIteration") (b := true) isStop isSubtype_stop (wpAny_pure (post h' fun b o nb e => kept b o ?_)))
  rw [Heap.get?_update_other _ _ (Ne.symm nb)]
  exact e
end
end Fb

namespace Fb
open PySem PySem.Spec PyProof.Rows L2 HotX
theorem turn_strA {Pg : Program} {w : World} {K : PySem.W.Frag} {tg : Expr} (it : Addr) (x : Str) (t : Tok) (ty : String) (hty : ty = "str_ascii_iterator" ∨ ty = "str_iterator") : TurnA Pg w K tg (Its x) [it] it (fun n h => h.IsStrIter it ty x t n) where
  mem := List.mem_singleton.mpr rfl
  obj := fun n h st c hc => by
    rw [List.mem_singleton.mp hc]
    obtain ⟨ob, g, _, d⟩ := st
    exact ⟨ob, g, fun v z => by rw [d] at z; cases z⟩
  keep := fun n h h' st k => let ⟨ob, g, r⟩ := st; ⟨ob, k it (List.mem_singleton.mpr rfl) ob g, r⟩
  item := fun X e1 e2 e3 n pins z σ H E I free st go => by
    subst e1 e2 e3
    have F := free it (List.mem_singleton.mpr rfl)
    have lt : n < x.cps.size := go
    have hx : x.cps[n]? = some x.cps[n] := Array.getElem?_eq_getElem lt
    have hno : ["enumerate", "zip", "dict_itemiterator", "dict_reverseitemiterator", "odict_iterator", "itertools.zip_longest", "itertools.pairwise"].contains ty = false := by rcases hty with e | e <;> rw [e] <;> decide
    have fin : ∀ h', h'.IsStrIter it ty x t (n + 1) → Heap.SameBut it z.heap h' → ∃ u, some (Value.str ⟨#[x.cps[n]]⟩ z.toks) = some u ∧ wpAny (model X.prog X.w) X.A (letOwnedTupleGo tg (.ref it) u)
        (fun _ z2 => ∃ y H', Inv X pins σ H' z2 ∧ RelV y u ∧ (Its x).yld n H y H' ∧ z2.heap.IsStrIter it ty x t (n + 1) ∧ ∀ c ∈ [it], H' c = none) E { z with heap := h', toks := z.toks + 1 } := fun h' st' but => by
      have I1 : Inv X pins σ H { z with heap := h', toks := z.toks + 1 } := I.turned (fun c ob nc g => (but.2 c nc).trans g) F.1 F.2.1 F.2.2.2.1 F.2.2.2.2.1 F.2.2.2.2.2
      obtain ⟨oi, g, cc, dd⟩ := id st'
      exact ⟨_, rfl, go_of (s := { z with heap := h', toks := z.toks + 1 }) g cc dd hno ⟨.str ⟨#[x.cps[n]]⟩, H, I1, ⟨_, rfl⟩, ⟨rfl, _, hx, rfl⟩, st', fun c hc => (free c hc).1⟩⟩
    rcases hty with e | e
    · subst e; exact wpAny_pyNext_ascii_item st hx fun h' st' but => fin h' st' but
    · subst e; exact wpAny_pyNext_wide_item st hx fun h' st' but => fin h' st' but
  done := fun X e1 e2 e3 x1 n pins z σ H E hot I free st stop => by
    subst e1 e2 e3
    have F := free it (List.mem_singleton.mpr rfl)
    have hx : x.cps[n]? = none := Array.getElem?_eq_none stop
    rcases hty with e | e
    · subst e; exact hot_ascii_end hot st hx fun h' but => ⟨rfl, I.turned (t' := z.toks) (fun c ob nc g => but c ob nc g) F.1 F.2.1 F.2.2.2.1 F.2.2.2.2.1 F.2.2.2.2.2⟩
    · subst e; exact hot_wide_end hot st hx fun h' but => ⟨rfl, I.turned (t' := z.toks) (fun c ob nc g => but c ob nc g) F.1 F.2.1 F.2.2.2.1 F.2.2.2.2.1 F.2.2.2.2.2⟩
  self := fun _ _ _ _ _ st q => by
    rcases hty with e | e
    · rw [e] at st; exact wpAny_pyIter_striter_ascii st q
    · rw [e] at st; exact wpAny_pyIter_striter_wide st q
theorem turn_itemsTA {Pg : Program} {w : World} {K : PySem.W.Frag} {d : Addr} {o : Obj} {es : Array DictEntry} {ep : Nat} {kvs : List (List Key × V)} {elts : List Expr} {kk : Nat} {tpos : Pos} (it : Addr) (hod : o.data = .dict es ep) :
    TurnA Pg w K (.Tuple elts kk tpos) (Itit d o kvs) [it] it (fun n h => ∃ ok ov, IsItemIter h it d n kvs.length ep ok ov) where
  mem := List.mem_singleton.mpr rfl
  obj := fun n h st c hc => by
    rw [List.mem_singleton.mp hc]
    obtain ⟨ok, ov, e⟩ := st
    exact ⟨_, e, fun v z => nomatch z⟩
  keep := fun n h h' st k => let ⟨ok, ov, e⟩ := st; ⟨ok, ov, k it (List.mem_singleton.mpr rfl) _ e⟩
  item := fun X e1 e2 e3 n pins z σ H E I free st go => by
    subst e1 e2 e3
    obtain ⟨hd, hi⟩ := go
    obtain ⟨hs, hgd, hx, es', ep', hdt, hsz, ent⟩ := frzT2 I hd
    obtain ⟨rfl, rfl⟩ := dict_ep hod hdt
    obtain ⟨⟨k, v⟩, hkv⟩ : ∃ p, kvs[n]? = some p := ⟨kvs[n], List.getElem?_eq_getElem hi⟩
    obtain ⟨en, q, hen, hkey, hq, rv⟩ := ent n k v hkv
    obtain ⟨ok, ov, he⟩ := st
    rw [← hsz] at he
    have hi2 : n < es'.size := by rw [hsz]; exact hi
    have hen2 : es'[n] = en := (Array.getElem?_eq_some_iff.mp hen).2
    have hlt : it < z.heap.objs.size := Heap.lt_size he
    refine DT.nextI he ⟨o, hgd, hx, hdt⟩ hi2 fun h' ho hT hz hk => ?_
    rw [hen2] at ho hT
    refine ⟨_, rfl, wpAny_letOwnedTupleGo_items (s := { z with heap := h' }) ho fun h'' he' sb => ?_⟩
    have hT2 : h''.get? z.heap.objs.size = some { cls := .type "tuple", data := .seq #[en.key, en.val] } := (sb.2 _ (Nat.ne_of_gt hlt)).trans hT
    have new : ObjOk X.prog X.w (upd H z.heap.objs.size (.tup [.ref q, v])) h'' z.heap.objs.size (.tup [.ref q, v]) := ⟨by show 2 ≤ sizeLine; decide, [en.key, en.val], .cons hkey (.cons rv .nil), ⟨_, hT2, rfl, _, rfl⟩⟩
    have I1 : Inv X pins σ (upd H z.heap.objs.size (.tup [.ref q, v])) { z with heap := h'' } :=
      I.turnedNew (t' := z.toks) (ch := [it]) (fun b ob hb e => (sb.2 b (by simpa using hb)).trans (hk b ob (by simpa using hb) e)) free (Nat.le_refl _) new
    refine ⟨.ref z.heap.objs.size, _, I1, rfl, ⟨_, q, k, v, hkv, rfl, I.hok.fresh (Nat.le_refl _), hq, rfl⟩, ⟨en.key, en.val, ?_⟩, fun c hc => ?_⟩
    · rw [← hsz]; exact he'
    · rw [List.mem_singleton.mp hc, upd_ne (Nat.ne_of_lt hlt)]
      exact (free it (List.mem_singleton.mpr rfl)).1
  done := fun X e1 e2 e3 x1 n pins z σ H E hot I free st stop => by
    subst e1 e2 e3
    obtain ⟨hd, hi⟩ := stop
    have F := free it (List.mem_singleton.mpr rfl)
    obtain ⟨hs, hgd, hx, es', ep', hdt, hsz, ent⟩ := frzT2 I hd
    obtain ⟨rfl, rfl⟩ := dict_ep hod hdt
    obtain ⟨ok, ov, he⟩ := st
    rw [← hsz] at he
    exact hot_items_end hot he ⟨o, hgd, hx, hdt⟩ (by omega) fun h' but => ⟨rfl, I.turned (t' := z.toks) (fun c ob nc g => but c ob nc g) F.1 F.2.1 F.2.2.2.1 F.2.2.2.2.1 F.2.2.2.2.2⟩
  self := fun _ _ _ _ _ st q => let ⟨_, _, e⟩ := st; PySem.W.kcp_self e q
section
variable {X : Cx} {tg : Expr}
theorem pi_oneA {pins : List (Addr × Obj)} {σ : L2.St} {H : Hp} {s : Shared} {R : It → Hp → Prop} {J : It} {st : Nat → Heap → Prop} {h' : Heap} (I : Inv X pins σ H s) (kept : ∀ b o, s.heap.get? b = some o → h'.get? b = some o)
    (T : TurnA X.prog X.w X.K tg J [s.heap.objs.size] s.heap.objs.size st) (s0 : st 0 h') (q : R J H) : PIEA X pins σ tg R (.ref s.heap.objs.size) { s with heap := h' } := by
  refine ⟨s.heap.objs.size, [s.heap.objs.size], st, J, H, rfl, I.kept (t' := s.toks) kept, T, s0, fun c hc => ?_, q⟩
  rw [List.mem_singleton.mp hc]
  exact I.fpOk (Nat.le_refl _) (I.hok.fresh (Nat.le_refl _))
theorem pi_strA {e : Expr} {te : TE} (he : PE X e te) : PIA X tg e (iStr te) := ⟨fun pins z σ H R I wish => by
  refine thn (he.run pins z σ H _ I wish) fun v z1 got => ?_
  obtain ⟨y, H1, I1, r1, x, rfl, q⟩ := got
  obtain ⟨t, rfl⟩ := r1
  cases ha : x.cps.all (· < 128) with
  | false => exact wpAny_pyIter_wide ha (pi_oneA I1 (fun b o e => Heap.get?_push_of_some _ e) (turn_strA _ x t "str_iterator" (.inr rfl)) ⟨_, Heap.get?_push_size _ rfl, rfl, rfl⟩ q)
  | true => exact wpAny_pyIter_ascii ha (pi_oneA I1 (fun b o e => Heap.get?_push_of_some _ e) (turn_strA _ x t "str_ascii_iterator" (.inl rfl)) ⟨_, Heap.get?_push_size _ rfl, rfl, rfl⟩ q)⟩
theorem pi_itemsTA {e : Expr} {td : TE} {apos cpos tpos : Pos} {elts : List Expr} {kk : Nat} (he : PE X e td) (hbase : attributeBase e "items" X.env (eval e X.env) = eval e X.env := by rfl) (hline : (apos.endLine == cpos.line) = true := by rfl) :
    PIA X (.Tuple elts kk tpos) (.Call (.Attribute e "items" apos) [] [] cpos) (iItemsT td) := ⟨fun pins z σ H R I wish => by
  refine wpAny_Call_method (T := "dict") (id := "dict.items") hbase rfl hline F.plainAttrs_dict F.slot_dict_items F.type_dict_items (thn (he.run pins z σ H _ I wish) fun u z1 got => ?_)
  obtain ⟨x, H1, I1, rx, d, o, kvs, rfl, hd, q⟩ := got
  obtain rfl : u = Value.ref d := rx
  obtain ⟨hs, hgd, hx, es, ep, hdt, hsz, ent⟩ := frzT2 I1 hd
  have raw : DT.Raw z1.heap d es ep := ⟨o, hgd, hx, hdt⟩
  refine ⟨raw.typeIs, fun a e => by cases e; exact ⟨o, hgd, hx.2.1⟩, ?_⟩
  have I2 : Inv X pins σ H1 { z1 with heap := z1.heap.push { cls := .type "dict_items", data := .fields #[.ref d] } } := I1.kept (t' := z1.toks) fun b ob q => Heap.get?_push_of_some _ q
  have fin : wpAny (model X.prog X.w) X.A (pyIter (.ref z1.heap.objs.size)) (PIEA X pins σ (.Tuple elts kk tpos) R) X.xe { z1 with heap := z1.heap.push { cls := .type "dict_items", data := .fields #[.ref d] } } := by
    refine DT.iterI (d := d) ⟨_, Heap.get?_push_size _ rfl, rfl, rfl⟩ (raw.push _) (pi_oneA I2 (fun b o e => Heap.get?_push_of_some _ e) (turn_itemsTA _ hdt) ⟨.none, .none, ?_⟩ q)
    rw [← hsz]
    exact Heap.get?_push_size _ rfl
  show wpAny _ _ (callWith cpos (.builtin "dict.items") [.ref d] [] []) _ X.xe z1
  exact method_meetsIn F.slot_dict_items F.entry_dict_items rfl (PySem.evalArgs_none ⟨rfl, raw.typeIs, F.args_dict_items_1 _, _, DT.meetsItems (es := es) (ep := ep) hs, raw, fin⟩)⟩
end
end Fb

namespace Fb
open PySem PySem.Spec PyProof.Rows L2 HotX
section
variable {X : Cx} {tg : Expr}
theorem pi_range1A {e : Expr} {ta : TA} {p pos : Pos} (hg : Gl X "range") (hm : X.mg "range" = none) (ha : PA X [e] ta) (hs : starEach [e] X.env = [(false, eval e X.env)] := by rfl) : PIA X tg (.Call (.Name "range" p) [e] [] pos) (iRng1 ta) := ⟨fun pins z σ H R I wish => by
  refine Call_ (ld_blt I hg hm boot_range (PyProof.Rows.callWith_type1 (thn (ha.run pos pins z σ H _ I wish) fun us z1 got => ?_) hs rfl))
  obtain ⟨vs, H1, I1, r1, j, rfl, q1, q2, q⟩ := got
  cases r1 with
  | cons r rr =>
    cases rr
    obtain ⟨t, rfl⟩ := r
    refine call_range_1 (wpAny_pyIter_range (IsRange.new ..) (small_one (by omega) (by omega) q1 q2) ?_)
    have sz : ∀ (o : Obj), (z1.heap.push o).objs.size = z1.heap.objs.size + 1 := fun o => Heap.size_push ..
    refine ⟨_, [_], _, _, H1, rfl, I1.kept fun b o e => Heap.get?_push_of_some _ (Heap.get?_push_of_some _ e), turn_rangeA _ 0 (j - 0).toNat, ?_, fun c hc => ?_, by simpa using q⟩
    · have e1 : (0 : Int) + ((0 : Nat) : Int) * 1 = 0 := by simp
      have e2 : (((j - 0).toNat : Nat) : Int) - ((0 : Nat) : Int) = Builtin.Range.rangeSize 0 j 1 := by rw [rangeSize_one]; split <;> omega
      show IsRangeIter _ _ ((0 : Int) + ((0 : Nat) : Int) * 1) ((((j - 0).toNat : Nat) : Int) - ((0 : Nat) : Int)) 1
      rw [e1, e2]
      exact Heap.get?_push_size _ rfl
    · rw [List.mem_singleton.mp hc]
      exact I1.fpOk (Nat.le_of_lt (by rw [sz]; omega)) (I1.hok.fresh (Nat.le_of_lt (by rw [sz]; omega)))⟩
end
/-! ### methods called while an error is handled -/
structure DmE (Pg : Program) (w : World) (K : PySem.W.Frag) (mg : Str → Option Value) (base : Heap) (k : Nat) (C : Addr) (m : Str) (ps : List Str) (sp : SpE) : Prop where
  ex : ∃ f fd, FnE Pg w K mg base k f fd ps sp ∧ Meth K C m f ∧ Binds K fd ps []
def tMdE (q D C : Addr) (m : Str) (sp : SpE) (E : L2.St → XK) (ta : TE) (t : TA) : TE := tMdS D m (fun vs H Q Ex => sp q C vs H Q Ex) E ta t
section
variable {X : Cx} {k : Nat} {m : Str} {C D : Addr} {ps : List Str} {sp : SpE} {apos pos : Pos} {o e : Expr} {es : List Expr} {ta : TE} {t : TA} {E : L2.St → XK} {q : Addr × Obj} {f : Addr} {fd : FuncData}
theorem run_E {pins : List (Addr × Obj)} {σ : L2.St} {H : Hp} {s : Shared} {Q : VK} {us : List Value} {vs : List V} {Ex : XK} (F : FnE X.prog X.w X.K X.mg X.base k f fd ps sp) (hr : L2H.RoomH k X.A) (hq : q ∈ X.pn) (hh : X.A.handled = some (.ref q.1)) (er : Err1 C q)
    (hb : Binds X.K fd ps []) (hx : PassesAt (L2N.CX X.prog X.w) X σ Ex) (I : Inv X pins σ H s) (r : Vals vs us) (w1 : sp q.1 C vs H Q Ex) : wpAny (model X.prog X.w) X.A (call (.ref f) us) (EP X pins σ Q) X.xe s := by
  have ln : us.length = ps.length := by rw [← r.length]; exact F.len _ _ _ _ _ _ w1
  have b := hb s us I.kIn (by rw [List.append_nil]; exact ln)
  rw [List.append_nil] at b
  have P1 := I.pin q (List.mem_append_left _ hq)
  refine wpAny_call (codeAny_mono (F.run X.A X.stack s H ⟨us, []⟩ us vs Q Ex q C hr hh er ⟨P1.1, P1.2.1, fun hm => (List.mem_cons.mp (I.stkSub q.1 hm)).elim P1.2.2.1 P1.2.2.2.1, P1.2.2.2.2⟩ I.env0 b r w1) fun r s' hq => ?_)
  cases r with
  | error er => exact hx pins H s er s' I hq
  | ok fl =>
    cases fl with
    | ret u => exact I.after hq
    | next => exact hq.elim
    | brk => exact hq.elim
    | cont => exact hq.elim
theorem pe_mdE {pl : Sem Bool} (he : PE X o ta) (c : Cls X.K D) (M : DmE X.prog X.w X.K X.mg X.base k D m ps sp) (hr : L2H.RoomH k X.A) (hq : q ∈ X.pn) (hh : X.A.handled = some (.ref q.1)) (er : Err1 C q) (hx : ∀ σ, PassesAt (L2N.CX X.prog X.w) X σ (E σ)) (ha : PA X (e :: es) t)
    (hst : starEach (e :: es) X.env = (false, eval e X.env) :: starEach es X.env := by rfl) (hpl : (backTo pos (starEach es X.env)).any (·.1) = false := by rfl)
    (ht : eval (.Call (.Attribute o m apos) (e :: es) [] pos) X.env = (do
      let ov ← eval o X.env
      standAt apos.atName
      let (f, first) ← holding [ov] (getMethod ov m pl)
      callWith pos f first (backTo pos (starEach (e :: es) X.env)) (backToKw pos (keywordEach [] X.env))) := by rfl) :
    PE X (.Call (.Attribute o m apos) (e :: es) [] pos) (tMdE q.1 D C m sp E ta t) := by
  obtain ⟨f, fd, F, hm, hb⟩ := M.ex
  refine ⟨fun pins s σ H Q I wish => ?_⟩
  refine PySem.W.methodCall_KW (pl := pl) (thn (he.run pins s σ H _ I wish) fun u s1 got => ?_) ht
  obtain ⟨y, H1, I1, ry, a, dx, fs, rfl, ea, l, w1⟩ := got
  obtain rfl : u = Value.ref a := ry
  refine getmeth_ok I1 ea c hm l (PySem.W.callWith_K (first := [.ref a]) (h₀ := X.base) I.ok.mod.kin hm.kp (thn (ha.run pos pins s1 σ H1 _ I1 w1) fun us s2 got => ?_) hst hpl)
  obtain ⟨vs, H2, I2, r, w2⟩ := got
  exact ⟨I2.kIn, run_E (us := .ref a :: us) (vs := .ref a :: vs) F hr hq hh er hb (hx σ) I2 (.cons rfl r) w2⟩
theorem pe_mdE0 {pl : Sem Bool} (he : PE X o ta) (c : Cls X.K D) (M : DmE X.prog X.w X.K X.mg X.base k D m ps sp) (hr : L2H.RoomH k X.A) (hq : q ∈ X.pn) (hh : X.A.handled = some (.ref q.1)) (er : Err1 C q) (hx : ∀ σ, PassesAt (L2N.CX X.prog X.w) X σ (E σ))
    (ht : eval (.Call (.Attribute o m apos) [] [] pos) X.env = (do
      let ov ← eval o X.env
      standAt apos.atName
      let (f, first) ← holding [ov] (getMethod ov m pl)
      callWith pos f first (backTo pos (starEach [] X.env)) (backToKw pos (keywordEach [] X.env))) := by rfl) :
    PE X (.Call (.Attribute o m apos) [] [] pos) (tMdE q.1 D C m sp E ta tNil) := by
  obtain ⟨f, fd, F, hm, hb⟩ := M.ex
  refine ⟨fun pins s σ H Q I wish => ?_⟩
  refine PySem.W.methodCall_KW (pl := pl) (thn (he.run pins s σ H _ I wish) fun u s1 got => ?_) ht
  obtain ⟨y, H1, I1, ry, a, dx, fs, rfl, ea, l, w1⟩ := got
  obtain rfl : u = Value.ref a := ry
  refine getmeth_ok I1 ea c hm l ?_
  exact PySem.W.callWith_K0 (first := [.ref a]) I1.kIn hm.kp (run_E (us := [.ref a]) (vs := [.ref a]) F hr hq hh er hb (hx σ) I1 (.cons rfl .nil) w1)
end
section
variable {Y : Cx} {k : Nat} {m : Str} {D : Addr} {ps : List Str} {sp : SpE} {apos pos : Pos} {o e : Expr} {es : List Expr} {ta : TE} {t : TA} {E : L2.St → XK} {a : Addr} {oe : Obj} {cls : Value} {d : Option Addr} {pn : List (Addr × Obj)}
/-- o.m() in the suite, the error's class open -/
theorem pe_mdEG0 {pl : Sem Bool} (he : PE (Y.suite a ((a, oe) :: pn)) o ta) (c : Cls Y.K D) (M : DmE Y.prog Y.w Y.K Y.mg Y.base k D m ps sp) (hr : L2H.RoomH k (Y.suite a ((a, oe) :: pn)).A) (hz : L2N.Zn cls d oe) (hf : ∃ vs, oe.data = .fields vs)
    (hx : ∀ σ, PassesAt (L2N.CX Y.prog Y.w) (Y.suite a ((a, oe) :: pn)) σ (E σ))
    (ht : eval (.Call (.Attribute o m apos) [] [] pos) Y.env = (do
      let ov ← eval o Y.env
      standAt apos.atName
      let (f, first) ← holding [ov] (getMethod ov m pl)
      callWith pos f first (backTo pos (starEach [] Y.env)) (backToKw pos (keywordEach [] Y.env))) := by rfl) :
    PE (Y.suite a ((a, oe) :: pn)) (.Call (.Attribute o m apos) [] [] pos) (fun σ H Q => ∃ C, cls = .ref C ∧ d = none ∧ tMdE a D C m sp E ta tNil σ H Q) := by
  refine ⟨fun pins s σ H Q I wish => ?_⟩
  obtain ⟨C, rfl, rfl, wish⟩ := wish
  obtain ⟨vs, hv⟩ := hf
  exact (pe_mdE0 (X := Y.suite a ((a, oe) :: pn)) (q := (a, oe)) (pl := pl) he c M hr List.mem_cons_self rfl ⟨hz.zc, vs, hv, hz.2.2 vs hv⟩ hx ht).run pins s σ H Q I wish
end
section
variable {Pg : Program} {w : World} {K : PySem.W.Frag} {mg : Str → Option Value} {base h : Heap} {m qual : Str} {st : Stmt} {f C : Addr} {ps : List Str} {sp : SpE} {k : Nat}
theorem FM.dme (A : FM K C m qual st f) (ok : ∀ fd, Fun K m qual st f fd → FnE Pg w K mg base k f fd ps sp)
    (hb : ∀ (kV doc pm : Value) (an : Option Addr) (cdv ct : Value) (us : List Value), us.length = ps.length → bindArgs (PySem.W.fnOf m qual (defArgs st) (defBody st) (defScope st) .none kV doc pm an cdv ct) ⟨us, []⟩ = pure (ps.zip us)) :
    DmE Pg w K mg base k C m ps sp := by
  obtain ⟨oc, od, kV, dc, pm, an, cd, ct, osl, l, c⟩ := A.l
  have F := fun_mk (st := st) l c A.k
  exact ⟨f, _, ok _ F, ⟨A.a, A.i, A.k⟩, F.binds (ps := ps) hb⟩
end
end Fb

namespace Fb
open PySem PySem.Spec PyProof.Rows L2 HotX
/-- in every state of the context an error is handled whose context is None -/
def HotIn (X : Cx) : Prop := ∀ (pins : List (Addr × Obj)) (σ : L2.St) (H : Hp) (s : Shared), Inv X pins σ H s → ∃ x1, HotAt X.A x1 s.heap
theorem hotIn_of {X : Cx} (c : L2H.HotC X) : HotIn X := fun _ _ _ _ I => c.at I
section
variable {prog : Program} {w : World} {A : Around} {E : Value → Shared → Prop} {s : Shared}
theorem hot_tuple_end {it l x1 : Addr} {i : Nat} {its : Array Value} {Q : Option Value → Shared → Prop} (hot : HotAt A x1 s.heap) (iter : IsTupIter s.heap it l i) (lst : IsTup s.heap l its) (last : its[i]? = none)
    (post : ∀ h', Heap.ExtBut it s.heap h' → Q none { s with heap := h' }) : wpAny (model prog w) A (pyNext (.ref it)) Q E s := by
  obtain ⟨hh, oe, fe, ge, de, ce⟩ := hot
  obtain ⟨oi, gi, ci, di⟩ := id iter
  obtain ⟨ol, gl, _, nl, dl⟩ := lst
  have ne : it ≠ x1 := fun z => by
    rw [← z, gi] at ge
    cases ge
    rw [di] at de
    cases de
    simp at ce
  unfold pyNext
  refine wpAny_bind (wpAny_attempt (wpAny_callSpecial?_slot (name := Str.ofString "__next__") iter.typeIs slot_tupleiter_next (wpAny_call_entry slot_tupleiter_next iter.typeIs entry_tupleiter_next ?_ (args_tupleiter_next _))))
  show wpAny _ _ (field (.ref it) 0 >>= _) _ _ s
  refine wpAny_bind (wpAny_field gi di (x := .ref l) rfl ?_)
  show wpAny _ _ (if (Value.ref l == Value.none) = true then _ else _) _ _ s
  rw [if_neg (show (Value.ref l == Value.none) ≠ true from fun z => Bool.false_ne_true z)]
  show wpAny _ _ (field (.ref it) 1 >>= _) _ _ s
  refine wpAny_bind (wpAny_field gi di (x := .int i 0) rfl ?_)
  show wpAny _ _ (seqItems? (.ref l) >>= _) _ _ s
  refine wpAny_bind (wpAny_seqItems gl dl ?_)
  simp only [Int.toNat_natCast, last]
  refine wpAny_bind (wpAny_rule (wpAny_bind (wpAny_setField gi di (by simp) ?_)))
  refine hot_stop (x1 := x1) ⟨hh, oe, fe, (Heap.get?_update_other _ _ ne).trans ge, de, ce⟩ fun h' a kept isStop => ?_
  refine wpAny_bind (wpAny_isInstance (T := "StopIteration") (b := true) isStop isSubtype_stop (wpAny_pure (post h' fun b o nb e => kept b o ?_)))
  rw [Heap.get?_update_other _ _ (Ne.symm nb)]
  exact e
theorem hot_unpack {t x1 : Addr} {its : Array Value} {Q : List Value → Shared → Prop} (hot : HotAt A x1 s.heap) (ht : IsTup s.heap t its)
    (post : ∀ h', Heap.ExtBut s.heap.objs.size s.heap h' → Q its.toList { s with heap := h' }) : wpAny (model prog w) A (unpackItems (.ref t) its.size none) Q E s := by
  have ne : t ≠ s.heap.objs.size := by obtain ⟨o, ho, _⟩ := ht; exact Nat.ne_of_lt (Heap.lt_size ho)
  obtain ⟨hh, oe, fe, ge, de, ce⟩ := hot
  have nx : x1 ≠ s.heap.objs.size := Nat.ne_of_lt (Heap.lt_size ge)
  unfold unpackItems
  refine wpAny_bind ?_
  unfold notIterableAtAll
  refine wpAny_bind (wpAny_specialOf ht.typeIs slot_tuple_iter.lookup (wpAny_pure ?_))
  simp only [Bool.false_eq_true, if_false]
  refine wpAny_bind (wpAny_holding (iter_tuple ht ?_))
  refine wpAny_bind (wpAny_holding (draw_tuple ne its.size 0 _ _ ⟨_, Heap.get?_push_size _ rfl, rfl, rfl⟩ (ht.push _) (by omega) fun h1 hit1 but1 => ?_))
  rw [List.drop_zero, List.take_of_length_le (by simp), if_neg (by simp)]
  refine wpAny_bind (wpAny_holding (hot_tuple_end (x1 := x1) ⟨hh, oe, fe, but1.extBut x1 oe nx (Heap.get?_push_of_some _ ge), de, ce⟩ hit1 ((ht.push _).extBut but1.extBut ne) (by simp) fun h2 but2 => ?_))
  simp only [Option.isSome_none, Bool.false_eq_true, if_false]
  exact wpAny_pure (post h2 fun b o nb e => but2 b o nb (but1.extBut b o nb (Heap.get?_push_of_some _ e)))
end
theorem pg_tupA {X : Cx} {es : List Expr} {k : Nat} {t : TGs} {n : Nat} {pos : Pos} (hot : HotIn X) (h : PGs X es t) (hn : (assignEach es X.env).length = n := by rfl) (hst : (assignEach es X.env).findIdx? (·.1) = none := by rfl) : PG X (.Tuple es k pos) (gTup X.K n t) := ⟨fun pins s σ H v u Q I r wish => by
  obtain ⟨a, xs, rfl, hq, hl, wish⟩ := wish
  cases r
  obtain ⟨its, rv, ht, hz⟩ := I.tuple hq
  obtain ⟨x1, hx⟩ := hot pins σ H s I
  have ln : (assignEach es X.env).length = its.toArray.size := by simp [hn, ← hl, rv.length]
  rw [assign_Tuple]
  refine wpAny_bind (wpAny_standAt ?_)
  unfold unpack
  rw [ln, hst]
  refine wpAny_bind (wpAny_holding (hot_unpack hx ht fun h' ext => ?_))
  have I1 : Inv X pins σ H { s with heap := h' } := I.kept (t' := s.toks) fun b o e => ext b o (Nat.ne_of_lt (Heap.lt_size e)) e
  exact h.run pins _ σ H xs _ Q I1 (by simpa using rv) wish⟩
section
variable {X : Cx}
/-- a list's comprehension while an error is handled -/
theorem pe_lcH {elt tg iter : Expr} {ifs : List Expr} {sc : Scope} {own : List (Str × Nat)} {pos : Pos} {wi : TI} {g : TG} {tt : TT} {te : TE} (hot : L2H.HotC X) (nd : X.N.Nodup) (hi : PIA X tg iter wi) (ok : BlkOk X.N X.env.scope sc own)
    (hg : ∀ (z : Shared) (H : Hp) (C : Addr) (cl : List (Str × Addr)) (fp : List Addr), HotIn (X.blk z H sc (compEnvC sc cl C X.env) fp) → PG (X.blk z H sc (compEnvC sc cl C X.env) fp) tg g)
    (ht : ∀ (z : Shared) (H : Hp) (C : Addr) (cl : List (Str × Addr)) (fp : List Addr), HotIn (X.blk z H sc (compEnvC sc cl C X.env) fp) → PTs (X.blk z H sc (compEnvC sc cl C X.env) fp) ifs tt)
    (he : ∀ (z : Shared) (H : Hp) (C : Addr) (cl : List (Str × Addr)) (fp : List Addr), HotIn (X.blk z H sc (compEnvC sc cl C X.env) fp) → PE (X.blk z H sc (compEnvC sc cl C X.env) fp) elt te)
    (hs : ∀ x, foldedSetIterable iter X.env x = pure x := by intro _; rfl) : PE X (.ListComp elt [⟨tg, iter, ifs, 0⟩] sc pos) (tLc wi g tt te (own.map (·.2))) := by
  refine ⟨fun pins z0 σ H Q I wish => ?_⟩
  rw [eval_ListComp]
  obtain ⟨p, ⟨hh, fe, de, cx⟩, pm⟩ := hot
  have frees : ∀ y ∈ sc.names, y.2 = .free → ∃ c, X.env.cells.lookup y.1 = some c := fun y hy e => (ok.free y hy e).elim (fun k => I.ok.has _ (.inl k)) fun k => I.ok.has _ (.inr k)
  refine wpAny_comprehension_free rfl hs (closure_ok frees) ok.kind (fun y hy e => by rw [ok.uniq y hy, e]) (thn (hi.run pins z0 σ H _ I wish) fun xv z1 hx => thn hx fun itv z2 got => ?_)
  obtain ⟨it, fp, tn, J, H2, rfl, I2, T, t2, f2, q⟩ := got
  refine wpAny_newObj_type (newEnv_comp ?_) (Nat.zero_le _)
  generalize eD : z2.heap.objs.size = D
  have freeD : H2 D = none := I2.hok.fresh (Nat.le_of_eq eD)
  obtain ⟨W, ⟨m0, w0⟩, turn⟩ := q D freeD
  generalize e3 : ({ z2 with heap := z2.heap.push { cls := .type "list", data := .seq ([] : List Value).toArray } } : Shared) = z3
  have I3 : Inv X pins σ (upd H2 D (.lst [])) z3 := by
    rw [← e3]
    refine I2.laid (t' := z2.toks) (fun b o e => Heap.get?_push_of_some _ e) (Nat.le_of_eq eD) ⟨Nat.zero_le _, [], 0, .nil, ?_⟩
    rw [← eD]
    exact Heap.get?_push_size _ rfl
  have h3 : z3.heap = z2.heap.push { cls := .type "list", data := .seq ([] : List Value).toArray } := by rw [← e3]
  have below : ∀ c ∈ fp, c < z2.heap.objs.size := fun c hc => by
    obtain ⟨ob, e, _⟩ := T.obj _ _ t2 c hc
    exact Heap.lt_size e
  have f3 : ∀ c ∈ fp, FpOk X pins (upd H2 D (.lst [])) c ∧ c < z3.heap.objs.size := fun c hc => by
    have lt := below c hc
    refine ⟨⟨?_, (f2 c hc).2⟩, by rw [h3, Heap.size_push]; exact Nat.lt_succ_of_lt lt⟩
    rw [upd_ne (by rw [← eD]; exact Nat.ne_of_lt lt)]
    exact (f2 c hc).1
  have t3 : tn 0 z3.heap := T.keep _ _ _ t2 fun c _ o e => by rw [h3]; exact Heap.get?_push_of_some _ e
  have I4 := block_start I3 ok nd f3
  -- the error stands where the block begins
  have P3 := I3.pin p (List.mem_append_left _ pm)
  have pstk : p.1 ∉ frs X.stack := fun z => (List.mem_cons.mp (I3.stkSub p.1 z)).elim P3.2.2.1 P3.2.2.2.1
  have pfp : p.1 ∉ fp := fun z => (f3 p.1 z).1.2.2.2.2.2 p (List.mem_append_left _ pm) rfl
  have hotI : HotIn (X.blk z3 (upd H2 D (.lst [])) sc (compEnvC sc (cellsFrom (z3.heap.objs.size + 1) sc.names (cloFrom X.env.cells sc.names [])) z3.heap.objs.size X.env) fp) := fun ps σ' H' z I' => ⟨p.1, hh, p.2, fe, I'.base.keep p.1 p.2 P3.1 P3.2.1 pstk pfp, de, cx⟩
  have pg := hg z3 (upd H2 D (.lst [])) z3.heap.objs.size (cellsFrom (z3.heap.objs.size + 1) sc.names (cloFrom X.env.cells sc.names [])) fp hotI
  have pt := ht z3 (upd H2 D (.lst [])) z3.heap.objs.size (cellsFrom (z3.heap.objs.size + 1) sc.names (cloFrom X.env.cells sc.names [])) fp hotI
  have pe := he z3 (upd H2 D (.lst [])) z3.heap.objs.size (cellsFrom (z3.heap.objs.size + 1) sc.names (cloFrom X.env.cells sc.names [])) fp hotI
  clear hotI
  show codeAny _ _ (.compStart (.ListComp elt [⟨tg, iter, ifs, 0⟩] sc pos) 0 (.ref it) (.ref D) (compEnvC sc (cellsFrom (z3.heap.objs.size + 1) sc.names (cloFrom X.env.cells sc.names [])) z3.heap.objs.size X.env)) (compPost (model X.prog X.w) X.A X.xe none _ (.ref D) z3.heap.objs.size)
    { z3 with heap := pushCells (z3.heap.push { cls := .type "dict", data := .dict #[] }) sc.names }
  have none3 : ∀ c ∈ fp, (upd H2 D (.lst [])) c = none := fun c hc => (f3 c hc).1.1
  generalize ece : compEnvC sc (cellsFrom (z3.heap.objs.size + 1) sc.names (cloFrom X.env.cells sc.names [])) z3.heap.objs.size X.env = ce at I4 pg pt pe ⊢
  have cL : ce.locals = z3.heap.objs.size := by rw [← ece]; rfl
  generalize eH : upd H2 D (.lst []) = H3 at I3 I4 pg pt pe w0 none3 f3 P3
  generalize e4 : ({ z3 with heap := pushCells (z3.heap.push { cls := .type "dict", data := .dict #[] }) sc.names } : Shared) = z4 at I4 ⊢
  have t4 : tn 0 z4.heap := T.keep _ _ _ t3 fun c _ o e => by rw [← e4]; exact pushCells_keeps _ _ _ _ (Heap.get?_push_of_some _ e)
  have hotB : ∀ {σ' : L2.St} {H' : Hp} {z : Shared} {ps : List (Addr × Obj)}, Inv (X.blk z3 H3 sc ce fp) ps σ' H' z → HotAt X.A p.1 z.heap := fun {σ' H' z ps} I' => ⟨hh, p.2, fe, I'.base.keep p.1 p.2 P3.1 P3.2.1 pstk pfp, de, cx⟩
  have stay : ∀ {σ' : L2.St} {H' : Hp} {z : Shared}, Inv (X.blk z3 H3 sc ce fp) [] σ' H' z → (∀ c ∈ fp, H' c = none) → ∀ c ∈ fp, FpOk (X.blk z3 H3 sc ce fp) [] H' c := fun {σ' H' z} I' hn c hc =>
    ⟨hn c hc, (I'.ok.exf c hc).1, I'.ok.exfs c hc, .inl hc, fun y a e => (I'.ok.exf c hc).2 y a e, fun r hr => nomatch (show r ∈ ([] : List (Addr × Obj)) from hr)⟩
  refine codeAny_compStart_list ?_ (T.self X.A 0 _ _ _ t4 ?_)
  all_goals
    refine compLoop_any (fun k z => ∃ n H', Inv (X.blk z3 H3 sc ce fp) [] (wipe σ (own.map (·.2))) H' z ∧ tn n z.heap ∧ (∀ c ∈ fp, H' c = none) ∧ W n k H') ?_ m0 ⟨0, H3, I4, t4, none3, w0⟩
    rintro k z5 ⟨n, H5, I5, t5, none5, w5⟩
    rcases turn n k H5 w5 with ⟨stop, qq⟩ | ⟨go, Nx, dec, step⟩
    · refine thnF (T.done (X.blk z3 H3 sc ce fp) rfl rfl rfl p.1 n [] z5 _ H5 (fun _ _ => False) (hotB I5) I5 (stay I5 none5) t5 stop) fun r z6 got => ?_
      obtain ⟨rfl, I6⟩ := got
      have I7 : Inv X pins σ H5 z6 := I3.call' (ch := fp) I6.os I6.base I6.hok I6.bare fun c hc => ⟨(f3 c hc).1.2.2.2.1, (f3 c hc).1.2.1, (f3 c hc).1.2.2.2.2.1, (f3 c hc).1.2.2.2.2.2⟩
      have nC : H5 z3.heap.objs.size = none := by
        have y : H5 ce.locals = none := I6.free
        rw [cL] at y
        exact y
      obtain ⟨m, hn, _⟩ := I6.loc
      have hn : z6.heap.Ns ce.locals m := hn
      rw [cL] at hn
      obtain ⟨a0, a1, a2, a3, a4, a5⟩ := I3.fpOk (Nat.le_refl _) nC
      exact ⟨m, hn, fun h'' sb => ⟨.ref D, H5, I7.turned (t' := z6.toks) (fun b o nb e => (sb.2 b nb).trans e) a0 a1 a3 a4 a5, rfl, qq⟩⟩
    · refine thnF (T.item (X.blk z3 H3 sc ce fp) rfl rfl rfl n [] z5 _ H5 (fun _ _ => False) I5 (stay I5 none5) t5 go) fun r z6 got => ?_
      obtain ⟨u, rfl, h6⟩ := got
      refine thnF h6 fun _ z7 got => ?_
      obtain ⟨x, H7, I7, r7, y7, t7, none7⟩ := got
      refine thnF (pg.run _ z7 _ H7 x u _ (I7.pinned (stay I7 none7) (T.obj _ _ t7)) r7 (step x H7 y7)) fun _ z8 got => ?_
      obtain ⟨σ8, H8, I8, wiped, q8⟩ := got
      refine thnF (pt.run _ z8 σ8 H8 _ I8 q8) fun b z9 got => ?_
      obtain ⟨H9, I9, q9⟩ := got
      have again : ∀ {z : Shared} {H' : Hp}, Inv (X.blk z3 H3 sc ce fp) ([] ++ pinsAt fp z7.heap) σ8 H' z → Nx H' → ∃ m, m < k ∧ ∃ n H', Inv (X.blk z3 H3 sc ce fp) [] (wipe σ (own.map (·.2))) H' z ∧ tn n z.heap ∧ (∀ c ∈ fp, H' c = none) ∧ W n m H' := fun {z H'} I' nx => by
        obtain ⟨m', lt, w'⟩ := dec H' nx
        have same : ∀ c ∈ fp, ∀ o, z7.heap.get? c = some o → z.heap.get? c = some o ∧ H' c = none := fun c hc o e =>
          let y := I'.pin (c, o) (List.mem_append_right _ (List.mem_append_right _ (mem_pinsAt hc e)))
          ⟨y.1, y.2.1⟩
        refine ⟨m', lt, n + 1, H', (I'.unpinned (pins := [])).weak (by rw [← wiped, wipe_length]) (fun j v e => ?_), T.keep _ _ _ t7 fun c hc o e => (same c hc o e).1, fun c hc => ?_, w'⟩
        · rw [← wiped] at e
          exact (wipe_some e).1
        · obtain ⟨o, e, _⟩ := T.obj _ _ t7 c hc
          exact (same c hc o e).2
      cases b with
      | false =>
        rw [if_neg Bool.false_ne_true] at q9 ⊢
        exact again I9 q9
      | true =>
        rw [if_pos rfl] at q9 ⊢
        refine thnF (pe.run _ z9 σ8 H9 _ I9 q9) fun y z10 got => ?_
        obtain ⟨yv, H10, I10, r10, acc, hD, room, nx⟩ := got
        exact app_ok (X := X.blk z3 H3 sc ce fp) I10 hD room r10 fun z11 I11 => again I11 nx
end
end Fb

namespace Fb
open PySem PySem.Spec PyProof.Rows L2
/-! ### rules whose new heap is left open -/
theorem _root_.L2.PE.weak {X : Cx} {e : Expr} {t t' : TE} (h : PE X e t) (w : ∀ σ H Q, t' σ H Q → t σ H Q) : PE X e t' := ⟨fun pins s σ H Q I q => h.run pins s σ H Q I (w _ _ _ q)⟩
def monoA (t : TA) : TA := fun σ H Q => ∃ Q0 : List V → Hp → Prop, t σ H Q0 ∧ ∀ vs H1, Q0 vs H1 → Q vs H1
theorem _root_.L2.PA.mono {X : Cx} {es : List Expr} {t : TA} (h : PA X es t) : PA X es (monoA t) := ⟨fun pos pins s σ H Q I ⟨Q0, q, m⟩ => thn (h.run pos pins s σ H Q0 I q) fun us s1 ⟨vs, H1, I1, r, q1⟩ => ⟨vs, H1, I1, r, m _ _ q1⟩⟩
def tLstN (t : TA) : TE := fun σ H Q => t σ H fun xs H1 => xs.length ≤ 100000 ∧ ∀ p H', H1 p = none → Same H1 H' → H' p = some (.lst xs) → Q (.ref p) H'
def tTupN (t : TA) : TE := fun σ H Q => t σ H fun xs H1 => xs.length ≤ 100000 ∧ ∀ p H', H1 p = none → Same H1 H' → H' p = some (.tup xs) → Q (.ref p) H'
def tDNewTN : TE := fun _ H Q => ∀ p H', H p = none → Same H H' → H' p = some (.dT []) → Q (.ref p) H'
section
variable {X : Cx} {es : List Expr} {t : TA} {pos : Pos}
theorem pe_lstN (h : PA X es t) : PE X (.List es pos) (tLstN t) := (pe_lst h.mono).weak fun σ H Q q => ⟨_, q, fun vs H1 ⟨l, q1⟩ => ⟨szl l, fun p hp => q1 p _ hp (same_new hp) upd_same⟩⟩
theorem pe_tupN {x1} (h : PA X es t) : PE X (.Tuple es x1 pos) (tTupN t) := (pe_tup h.mono).weak fun σ H Q q => ⟨_, q, fun vs H1 ⟨l, q1⟩ => ⟨szl l, fun p hp => q1 p _ hp (same_new hp) upd_same⟩⟩
theorem pe_dnewTN : PE X (.Dict [] [] pos) tDNewTN := pe_dnewT.weak fun σ H Q q => fun p hp => q p _ hp (same_new hp) upd_same
end
def rCatN (K : PySem.W.Frag) : R2 := fun x y H Q => ∃ l b xs zs, x = .ref l ∧ y = .ref b ∧ H l = some (.lst xs) ∧ H b = some (.lst zs) ∧ xs.length + zs.length ≤ 100000 ∧ ∀ p H', H p = none → Same H H' → H' p = some (.lst (xs ++ zs)) → Q (.ref p) H'
def rRepN : R2 := fun x y H Q => ∃ l k xs, x = .ref l ∧ y = .int k ∧ H l = some (.lst xs) ∧ -1000000 ≤ k ∧ k < 1000000 ∧ xs.length * k.toNat ≤ 100000 ∧ ∀ p H', H p = none → Same H H' → H' p = some (.lst (List.replicate k.toNat xs).flatten) → Q (.ref p) H'
def rSlLN (K : PySem.W.Frag) : V → Option Int → Option Int → Hp → VK → Prop := fun x lo hi H Q => ∃ a xs, x = .ref a ∧ SqL K H a xs ∧ ∀ p H', H p = none → Same H H' → H' p = some (.lst (cutV xs lo hi)) → Q (.ref p) H'
def rListOfN (K : PySem.W.Frag) : List V → Hp → VK → Prop := fun xs H Q => ∃ p ys, xs = [.ref p] ∧ (SqL K H p ys ∨ SqT K H p ys) ∧ ∀ l H', H l = none → Same H H' → H' l = some (.lst ys) → Q (.ref l) H'
def rAppendN : V → List V → Hp → VK → Prop := fun x vs H Q => ∃ l xs y, x = .ref l ∧ vs = [y] ∧ H l = some (.lst xs) ∧ xs.length < 100000 ∧ ∀ H', SameB l H H' → H' l = some (.lst (xs ++ [y])) → Q .non H'
def rExtendN : V → List V → Hp → VK → Prop := fun x vs H Q => ∃ l b xs zs, x = .ref l ∧ vs = [.ref b] ∧ H l = some (.lst xs) ∧ H b = some (.lst zs) ∧ xs.length + zs.length ≤ 100000 ∧ ∀ H', SameB l H H' → H' l = some (.lst (xs ++ zs)) → Q .non H'
def rClearN : V → List V → Hp → VK → Prop := fun x vs H Q => ∃ l xs, x = .ref l ∧ vs = [] ∧ H l = some (.lst xs) ∧ ∀ H', SameB l H H' → H' l = some (.lst []) → Q .non H'
theorem sameB_upd {H : Hp} {p : Addr} {o : HO} : SameB p H (upd H p o) := fun b u nb e => by rw [upd_ne nb]; exact e
def rSetLN : TSet := fun o i v H Q => ∃ p xs k j, o = .ref p ∧ i = .int k ∧ H p = some (.lst xs) ∧ ixN xs.length k = some j ∧ ∀ H', SameB p H H' → H' p = some (.lst (xs.set j v)) → Q H'
section
variable {X : Cx}
theorem op_catN : OpR X (binaryOp .Add) (rCatN X.K) := fun pins s σ H x y v u Q I rx ry ⟨l, b, xs, zs, e1, e2, h1, h2, hl, q⟩ => op_cat pins s σ H x y v u Q I rx ry ⟨l, b, xs, zs, e1, e2, h1, h2, szl hl, fun p hp => q p _ hp (same_new hp) upd_same⟩
theorem op_repN : OpR X (binaryOp .Mult) rRepN := fun pins s σ H x y v u Q I rx ry ⟨l, k, xs, e1, e2, h1, b1, b2, hl, q⟩ => op_rep pins s σ H x y v u Q I rx ry ⟨l, k, xs, e1, e2, h1, by omega, by omega, szl hl, fun p hp => q p _ hp (same_new hp) upd_same⟩
theorem sl_listN : SlR X (rSlLN X.K) := fun pins s σ H x v vl vu lo hi sl Q I rx hs pl pu ⟨a, xs, e, hx, q⟩ => sl_list pins s σ H x v vl vu lo hi sl Q I rx hs pl pu ⟨a, xs, e, hx, fun p hp => q p _ hp (same_new hp) upd_same⟩
theorem call_list_ofN : CallR X (.type "list") (rListOfN X.K) := fun pins s σ H xs us Q I r ⟨p, ys, e, hx, q⟩ => call_list_of pins s σ H xs us Q I r ⟨p, ys, e, hx, fun p hp => q p _ hp (same_new hp) upd_same⟩
theorem mt_appendN : MtM X "list.append" rAppendN := fun pins s σ H x vs v us Q I rx rv ⟨l, xs, y, e1, e2, h, hl, q⟩ => mt_append pins s σ H x vs v us Q I rx rv ⟨l, xs, y, e1, e2, h, szlt hl, q _ sameB_upd upd_same⟩
theorem mt_extendN : MtM X "list.extend" rExtendN := fun pins s σ H x vs v us Q I rx rv ⟨l, b, xs, zs, e1, e2, h, h2, hl, q⟩ => mt_extend pins s σ H x vs v us Q I rx rv ⟨l, b, xs, zs, e1, e2, h, h2, szl hl, q _ sameB_upd upd_same⟩
theorem mt_clearN : MtM X "list.clear" rClearN := fun pins s σ H x vs v us Q I rx rv ⟨l, xs, e1, e2, h, q⟩ => mt_clear pins s σ H x vs v us Q I rx rv ⟨l, xs, e1, e2, h, q _ sameB_upd upd_same⟩
theorem set_listN : PSet X rSetLN := fun pins s σ H o i v ov iv vv Q I ro ri rv ⟨p, xs, k, j, e1, e2, h, hj, q⟩ => set_list pins s σ H o i v ov iv vv Q I ro ri rv ⟨p, xs, k, j, e1, e2, h, hj, q _ sameB_upd upd_same⟩
end
/-! ### what is never come to -/
theorem pss_no {X : Cx} {st : List Stmt} : PSs X st (fun _ _ _ => False) := ⟨fun _ _ _ _ _ _ h => h.elim⟩
def spNo : Sp := fun _ _ _ _ => False
theorem no_ok {Pg : Program} {w : World} {K : PySem.W.Frag} {mg : Str → Option Value} {base : Heap} {f : Addr} {fd : FuncData} {ps : List Str} : FnOk Pg w K mg base (L2N.CX Pg w) 1 f fd ps spNo := ⟨fun _ _ _ _ h => h.elim, fun _ _ _ _ _ _ _ _ _ _ _ _ _ h => h.elim⟩
/-! ### what is kept -/
theorem same_mutB {H0 H H' : Hp} {D : Addr} (s : Same H0 H) (n : H0 D = none) (b : SameB D H H') : Same H0 H' := fun c o e => b c o (ne_of_none e n) (s c o e)
theorem SameB.refl {H : Hp} {D : Addr} : SameB D H H := fun _ _ _ e => e
theorem SameB.trans {H H1 H2 : Hp} {D : Addr} (a : SameB D H H1) (b : SameB D H1 H2) : SameB D H H2 := fun c o n e => b c o n (a c o n e)
theorem SameB.same {H H1 H2 : Hp} {D : Addr} (a : SameB D H H1) (b : Same H1 H2) : SameB D H H2 := fun c o n e => b c o (a c o n e)
theorem Same.b {H H1 H2 : Hp} {D : Addr} (a : Same H H1) (b : SameB D H1 H2) : SameB D H H2 := fun c o n e => b c o n (a c o e)
theorem ne_lt {H : Hp} {l t : Addr} {xs ys : List V} (h : H l = some (.lst xs)) (g : H t = some (.tup ys)) : t ≠ l := ne_of g h (by intro z; cases z)
section
variable {K : PySem.W.Frag} {H H' : Hp} {D l : Addr} {xs ys : List V}
/-- a list changes: tuples stay -/
theorem keep_t (s : SameB D H H') (hD : H D = some (.lst ys)) (h : SqT K H l xs) : SqT K H' l xs := by
  rcases h with (h | ⟨ob, h⟩) | h
  · exact .inl (.inl (s _ _ (ne_lt hD h) h))
  · exact .inl (.inr ⟨ob, s _ _ (ne_of h hD (by intro z; cases z)) h⟩)
  · exact .inr h
/-- a list changes: another list stays -/
theorem keep_l (s : SameB D H H') (n : l ≠ D) (h : SqL K H l xs) : SqL K H' l xs := by
  rcases h with (h | ⟨ob, h⟩) | h
  · exact .inl (.inl (s _ _ n h))
  · exact .inl (.inr ⟨ob, s _ _ n h⟩)
  · exact .inr h
theorem keep_lt {o : HO} (s : SameB D H H') (hD : H D = some o) (n1 : ∀ xs, o ≠ .lst xs) (n2 : ∀ ob u, o ≠ .frz ob u) (h : SqL K H l xs) : SqL K H' l xs := by
  rcases h with (h | ⟨ob, h⟩) | h
  · exact .inl (.inl (s _ _ (ne_of h hD fun e => n1 _ e.symm) h))
  · exact .inl (.inr ⟨ob, s _ _ (ne_of h hD fun e => n2 _ _ e.symm) h⟩)
  · exact .inr h
theorem keep_rows {ts : List Addr} {rs : List Row} (s : SameB D H H') (hD : H D = some (.lst ys)) (h : Paired (IsRow H) ts rs) : Paired (IsRow H') ts rs :=
  Paired.mapP h fun _ _ e => s _ _ (ne_lt hD e) e
theorem keep_tar {C p d : Addr} {rs : List Row} (s : SameB D H H') (hD : H D = some (.lst ys)) (h : TarAt C H p d rs) : TarAt C H' p d rs := h.keep fun b o hb e => by
  obtain ⟨dx, hob⟩ := h.ob
  rcases hb with rfl | rfl
  · exact s _ _ (ne_of hob hD (by intro z; cases z)) e
  · exact s _ _ (ne_of h.dc hD (by intro z; cases z)) e
theorem keep_tab {P : Addr} (s : SameB D H H') (hD : H D = some (.lst ys)) (h : H P = some (TabO P)) : H' P = some (TabO P) := s _ _ (ne_of h hD (by intro z; cases z)) h
theorem keep_dT {d : Addr} {kvs : List (List Key × V)} (s : SameB D H H') (hD : H D = some (.lst ys)) (h : H d = some (.dT kvs)) : H' d = some (.dT kvs) := s _ _ (ne_of h hD (by intro z; cases z)) h
end
theorem ix_tupS {X : Cx} {K : PySem.W.Frag} (hK : X.K = K := by rfl) : IxR X (rIxT K) := hK ▸ ix_tup
theorem roomE {j k : Nat} {A : Around} {v : Option Value} (r : Room k A) (h : j ≤ k) : L2H.RoomH j (A.mark v) := ⟨(r.mono h).dp, (r.mono h).un⟩
theorem hotU {k : Nat} {A : Around} (r : L2H.RoomH k A) : A.units + 64 < cLine := by have := r.un; omega
theorem cutV_take {xs : List V} {k : Nat} (h : k ≤ xs.length) : cutV xs none (some (k : Int)) = xs.take k := by
  unfold cutV
  rw [HT.sIx_none, HT.sIx_nat, List.drop_zero, Nat.min_eq_left h, Nat.sub_zero]
theorem cutV_drop {xs : List V} {k : Nat} (h : k ≤ xs.length) : cutV xs (some (k : Int)) none = xs.drop k := by
  unfold cutV
  rw [HT.sIx_none, HT.sIx_nat, Nat.min_eq_left h]
  exact List.take_of_length_le (by rw [List.length_drop]; exact Nat.le_refl _)
theorem cutV_mid {xs : List V} {i j : Nat} (hij : i ≤ j) (h : j ≤ xs.length) : cutV xs (some (i : Int)) (some (j : Int)) = (xs.take j).drop i := by
  unfold cutV
  rw [HT.sIx_nat, HT.sIx_nat, Nat.min_eq_left (show i ≤ xs.length by omega), Nat.min_eq_left h, List.drop_take]
/-! ### lists by parts -/
theorem paired_at {α β : Type} {R : α → β → Prop} : ∀ {xs : List α} {ys : List β} {i : Nat} {x : α}, Paired R xs ys → xs[i]? = some x → ∃ y, ys[i]? = some y ∧ R x y
  | _, _, _, _, .nil, h => by simp at h
  | _, _, 0, _, .cons r _, h => by
    simp only [List.getElem?_cons_zero, Option.some.injEq] at h
    subst h
    exact ⟨_, rfl, r⟩
  | _, _, i + 1, x, .cons _ t, h => paired_at (i := i) (x := x) t (by simpa using h)
theorem paired_app {α β : Type} {R : α → β → Prop} : ∀ {xs xs' : List α} {ys ys' : List β}, Paired R xs ys → Paired R xs' ys' → Paired R (xs ++ xs') (ys ++ ys')
  | _, _, _, _, .nil, h => h
  | _, _, _, _, .cons r t, h => .cons r (paired_app t h)
theorem paired_take {α β : Type} {R : α → β → Prop} : ∀ {xs : List α} {ys : List β} (k : Nat), Paired R xs ys → Paired R (xs.take k) (ys.take k)
  | _, _, 0, h => by rw [List.take_zero, List.take_zero]; exact .nil
  | _, _, k + 1, .nil => by rw [List.take_nil, List.take_nil]; exact .nil
  | _, _, k + 1, .cons r t => .cons r (paired_take k t)
theorem paired_drop {α β : Type} {R : α → β → Prop} : ∀ {xs : List α} {ys : List β} (k : Nat), Paired R xs ys → Paired R (xs.drop k) (ys.drop k)
  | _, _, 0, h => h
  | _, _, k + 1, .nil => by rw [List.drop_nil, List.drop_nil]; exact .nil
  | _, _, k + 1, .cons r t => paired_drop k t
theorem good_take {rs : List Row} (g : GoodRows rs) (k : Nat) : GoodRows (rs.take k) := by
  refine ⟨fun r hr => g.ok r (List.mem_of_mem_take hr), ?_⟩
  have h := g.nd
  rw [List.map_take]
  exact h.sublist (List.take_sublist _ _)
/-! ### rows: what stands in them -/
def lookR (rs : List Row) (x y : Str) : V := (valV (rs.map rowK) [.inr x, .inr y]).getD .non
def hitR (rs : List Row) (x y : Str) (i : Nat) : Bool := match rs[i]? with
  | some r => decide (r.1 = x) && decide (r.2.1 = y)
  | none => false
theorem hitR_at {rs : List Row} {x y : Str} {i : Nat} {r : Row} (h : rs[i]? = some r) : hitR rs x y i = (decide (r.1 = x) && decide (r.2.1 = y)) := by unfold hitR; rw [h]
theorem told_iff {rs : List Row} {x y : Str} : isTold rs (.str x) (.str y) = true ↔ (x, y) ∈ rs.map fun r => (r.1, r.2.1) := by
  have e : isTold rs (.str x) (.str y) = (valV (rs.map fun r => (wayK r.1 r.2.1, V.int r.2.2)) (wayK x y)).isSome := rfl
  rw [e]
  constructor
  · intro h
    exact Classical.byContradiction fun n => by rw [way_none (fun r => V.int r.2.2) n] at h; cases h
  · intro h
    cases e2 : valV (rs.map fun r => (wayK r.1 r.2.1, V.int r.2.2)) (wayK x y) with
    | none => exact absurd h (way_new (fun r => V.int r.2.2) e2)
    | some v => rfl
theorem told_pick {rs : List Row} {x y : Str} {f : Nat → V} : (pick (hitR rs x y) f rs.length).isEmpty = !isTold rs (.str x) (.str y) := by
  cases h : isTold rs (.str x) (.str y) with
  | true =>
    obtain ⟨r, hr, e⟩ := List.mem_map.mp (told_iff.mp h)
    obtain ⟨i, hi⟩ := List.getElem?_of_mem hr
    cases h2 : (pick (hitR rs x y) f rs.length).isEmpty with
    | false => rfl
    | true =>
      have h3 := pick_nil.mp h2 i (List.getElem?_eq_some_iff.mp hi).1
      rw [hitR_at hi, decide_eq_true (Prod.mk.inj e).1, decide_eq_true (Prod.mk.inj e).2] at h3
      cases h3
  | false =>
    refine pick_nil.mpr fun i hi => ?_
    have e1 : rs[i]? = some rs[i] := List.getElem?_eq_getElem hi
    rw [hitR_at e1]
    cases h2 : (decide (rs[i].1 = x) && decide (rs[i].2.1 = y)) with
    | false => rfl
    | true =>
      simp only [Bool.and_eq_true, decide_eq_true_eq] at h2
      have := told_iff.mpr (List.mem_map.mpr ⟨rs[i], List.getElem_mem hi, by rw [h2.1, h2.2]⟩)
      rw [h] at this; cases this
theorem uniq_way : ∀ {rs : List Row} {r r' : Row}, (rs.map fun r => (r.1, r.2.1)).Nodup → r ∈ rs → r' ∈ rs → (r.1, r.2.1) = (r'.1, r'.2.1) → r = r'
  | [], _, _, _, h, _, _ => by cases h
  | q :: rs, r, r', nd, h, h', e => by
    rw [List.map_cons] at nd
    have nd1 := List.nodup_cons.mp nd
    rcases List.mem_cons.mp h with h1 | h1
    · rcases List.mem_cons.mp h' with h2 | h2
      · rw [h1, h2]
      · exact absurd (List.mem_map.mpr ⟨r', h2, by rw [← e, h1]⟩) nd1.1
    · rcases List.mem_cons.mp h' with h2 | h2
      · exact absurd (List.mem_map.mpr ⟨r, h1, by rw [e, h2]⟩) nd1.1
      · exact uniq_way nd1.2 h1 h2 e
theorem look_row {rs : List Row} {r : Row} (g : GoodRows rs) (h : r ∈ rs) : lookR rs r.1 r.2.1 = .int r.2.2 := by
  unfold lookR
  cases e : valV (rs.map rowK) [.inr r.1, .inr r.2.1] with
  | none => exact absurd (List.mem_map.mpr ⟨r, h, rfl⟩) (way_new (fun r => V.int r.2.2) e)
  | some v =>
    obtain ⟨r', hr', e2⟩ := List.mem_map.mp (valV_some e)
    have e3 := Prod.mk.inj e2
    have e4 := wayK_inj (show wayK r'.1 r'.2.1 = wayK r.1 r.2.1 from e3.1)
    have e5 := uniq_way g.nd hr' h (by rw [e4.1, e4.2])
    rw [e5] at e3
    rw [← e3.2]; rfl
theorem look_none {rs : List Row} {x y : Str} (h : (x, y) ∉ rs.map fun r => (r.1, r.2.1)) : lookR rs x y = .non := by
  unfold lookR
  rw [show valV (rs.map rowK) [Sum.inr x, Sum.inr y] = none from way_none (fun r => .int r.2.2) h]
  rfl
/-- the price that the rows tell -/
def pri (rs : List Row) (x y : Str) : Option Int := match lookR rs x y with
  | .int n => some n
  | _ => none
def optV : Option Int → V
  | some n => .int n
  | none => .non
theorem look_pri {rs : List Row} {x y : Str} : lookR rs x y = optV (pri rs x y) := by
  have h : lookR rs x y = .non ∨ ∃ n, lookR rs x y = .int n := by
    unfold lookR
    cases e : valV (rs.map rowK) [.inr x, .inr y] with
    | none => exact .inl rfl
    | some v =>
      obtain ⟨r, _, e2⟩ := List.mem_map.mp (valV_some e)
      exact .inr ⟨r.2.2, by rw [← (Prod.mk.inj e2).2]; rfl⟩
  unfold pri
  rcases h with h | ⟨n, h⟩ <;> rw [h] <;> rfl
theorem pri_val {rs : List Row} {x y : Str} {n : Int} (h : pri rs x y = some n) : valV (rs.map rowK) [.inr x, .inr y] = some (.int n) := by
  have e := look_pri (rs := rs) (x := x) (y := y)
  rw [h] at e
  unfold lookR at e
  cases q : valV (rs.map rowK) [.inr x, .inr y] with
  | none => rw [q] at e; cases e
  | some v => rw [q] at e; exact congrArg some e
theorem pri_non {rs : List Row} {x y : Str} (h : pri rs x y = none) : valV (rs.map rowK) [.inr x, .inr y] = none := by
  have e := look_pri (rs := rs) (x := x) (y := y)
  rw [h] at e
  unfold lookR at e
  cases q : valV (rs.map rowK) [.inr x, .inr y] with
  | none => rfl
  | some v =>
    rw [q] at e
    obtain ⟨r, _, e2⟩ := List.mem_map.mp (valV_some q)
    have e3 : v = .non := e
    rw [← (Prod.mk.inj e2).2] at e3
    cases e3
theorem pri_row {rs : List Row} {r : Row} (g : GoodRows rs) (h : r ∈ rs) : pri rs r.1 r.2.1 = some r.2.2 := by
  unfold pri
  rw [look_row g h]
theorem pri_mem {rs : List Row} {x y : Str} {n : Int} (h : pri rs x y = some n) : (x, y, n) ∈ rs := by
  obtain ⟨r, hr, e⟩ := List.mem_map.mp (valV_some (pri_val h))
  have e1 := wayK_inj (show wayK r.1 r.2.1 = wayK x y from (Prod.mk.inj e).1)
  have e2 : r.2.2 = n := V.int.inj (Prod.mk.inj e).2
  have e3 : r = (x, y, n) := by rw [← e1.1, ← e1.2, ← e2]
  rw [← e3]; exact hr
end Fb

namespace Fb
open PySem PySem.Spec PyProof.Rows L2
local macro_rules | `(tactic| walk_at "s") => `(tactic| repeat (first | refine ⟨_, rfl, ?_⟩ | refine ⟨_, _, rfl, rfl, ?_⟩ | refine ⟨_, _, rfl, Or.inl (by assumption), ?_⟩ | refine ⟨rfl, ?_⟩ | refine ⟨(by decide : (0 : Int) < _), ?_⟩ | refine ⟨⟨by decide, by decide⟩, ?_⟩ | refine ⟨_, _, _, rfl, (by assumption), (by first | decide | omega), ?_⟩))
def topS (i : Nat) : Stmt := PySem.Challenge.pw_farebreak_k13_no_journeys.main.body.getD i (.Pass ⟨0, 0, 0, 0⟩)
structure Txt (K : PySem.W.Frag) (mg : Str → Option Value) (a : Ads) : Prop where
  n_len : mg "len" = none
  n_int : mg "int" = none
  n_str : mg "str" = none
  n_list : mg "list" = none
  n_tuple : mg "tuple" = none
  n_dict : mg "dict" = none
  n_isinstance : mg "isinstance" = none
  n_range : mg "range" = none
  n_enumerate : mg "enumerate" = none
  n_all : mg "all" = none
  n_any : mg "any" = none
  n_sum : mg "sum" = none
  n_min : mg "min" = none
  n_max : mg "max" = none
  n_abs : mg "abs" = none
  n_sorted : mg "sorted" = none
  n_zip : mg "zip" = none
  n_reversed : mg "reversed" = none
  n_bool : mg "bool" = none
  n_ValueError : mg "ValueError" = none
  n_set : mg "set" = none
  c_LONGEST_PLACE : ∃ t, mg "LONGEST_PLACE" = some (.int 12 t)
  c_HIGHEST_PRICE : ∃ t, mg "HIGHEST_PRICE" = some (.int 1000000000000 t)
  c_MOST_ROWS : ∃ t, mg "MOST_ROWS" = some (.int 160 t)
  c_FEWEST_PLACES : ∃ t, mg "FEWEST_PLACES" = some (.int 2 t)
  c_MOST_PLACES : ∃ t, mg "MOST_PLACES" = some (.int 40 t)
  x_FareError : ExK K mg "FareError" a.FareError veMro
  x_BadPlace : ExK K mg "BadPlace" a.BadPlace veMro
  x_BadPrice : ExK K mg "BadPrice" a.BadPrice veMro
  x_TwiceTold : ExK K mg "TwiceTold" a.TwiceTold veMro
  x_TooMany : ExK K mg "TooMany" a.TooMany veMro
  x_BadJourney : ExK K mg "BadJourney" a.BadJourney veMro
  x_BadCuts : ExK K mg "BadCuts" a.BadCuts veMro
  x_NotHeld : ExK K mg "NotHeld" a.NotHeld veMro
  x_NoParting : ExK K mg "NoParting" a.NoParting veMro
  e_BadPlace : PySem.W.exmOne K (.ref a.BadPlace) (.ref a.FareError) = some true
  i_BadPlace : ExcC K a.BadPlace
  v_BadPlace : PySem.W.kitOne K (.ref a.BadPlace) (.type "ValueError") = some true
  k_BadPlace_BadPlace : PySem.W.kitOne K (.ref a.BadPlace) (.ref a.BadPlace) = some true
  k_BadPlace_BadJourney : PySem.W.kitOne K (.ref a.BadPlace) (.ref a.BadJourney) = some false
  e_BadPrice : PySem.W.exmOne K (.ref a.BadPrice) (.ref a.FareError) = some true
  i_BadPrice : ExcC K a.BadPrice
  v_BadPrice : PySem.W.kitOne K (.ref a.BadPrice) (.type "ValueError") = some true
  k_BadPrice_BadPrice : PySem.W.kitOne K (.ref a.BadPrice) (.ref a.BadPrice) = some true
  e_TwiceTold : PySem.W.exmOne K (.ref a.TwiceTold) (.ref a.FareError) = some true
  i_TwiceTold : ExcC K a.TwiceTold
  v_TwiceTold : PySem.W.kitOne K (.ref a.TwiceTold) (.type "ValueError") = some true
  k_TwiceTold_TwiceTold : PySem.W.kitOne K (.ref a.TwiceTold) (.ref a.TwiceTold) = some true
  e_TooMany : PySem.W.exmOne K (.ref a.TooMany) (.ref a.FareError) = some true
  i_TooMany : ExcC K a.TooMany
  v_TooMany : PySem.W.kitOne K (.ref a.TooMany) (.type "ValueError") = some true
  k_TooMany_TooMany : PySem.W.kitOne K (.ref a.TooMany) (.ref a.TooMany) = some true
  e_BadJourney : PySem.W.exmOne K (.ref a.BadJourney) (.ref a.FareError) = some true
  i_BadJourney : ExcC K a.BadJourney
  v_BadJourney : PySem.W.kitOne K (.ref a.BadJourney) (.type "ValueError") = some true
  k_BadJourney_BadPlace : PySem.W.kitOne K (.ref a.BadJourney) (.ref a.BadPlace) = some false
  k_BadJourney_BadJourney : PySem.W.kitOne K (.ref a.BadJourney) (.ref a.BadJourney) = some true
  e_BadCuts : PySem.W.exmOne K (.ref a.BadCuts) (.ref a.FareError) = some true
  i_BadCuts : ExcC K a.BadCuts
  v_BadCuts : PySem.W.kitOne K (.ref a.BadCuts) (.type "ValueError") = some true
  k_BadCuts_BadCuts : PySem.W.kitOne K (.ref a.BadCuts) (.ref a.BadCuts) = some true
  e_NotHeld : PySem.W.exmOne K (.ref a.NotHeld) (.ref a.FareError) = some true
  i_NotHeld : ExcC K a.NotHeld
  v_NotHeld : PySem.W.kitOne K (.ref a.NotHeld) (.type "ValueError") = some true
  k_NotHeld_NotHeld : PySem.W.kitOne K (.ref a.NotHeld) (.ref a.NotHeld) = some true
  e_NoParting : PySem.W.exmOne K (.ref a.NoParting) (.ref a.FareError) = some true
  i_NoParting : ExcC K a.NoParting
  v_NoParting : PySem.W.kitOne K (.ref a.NoParting) (.type "ValueError") = some true
  k_NoParting_NoParting : PySem.W.kitOne K (.ref a.NoParting) (.ref a.NoParting) = some true
  cl_Tariff : Cls K a.Tariff
  na_prices : NoAttr K a.Tariff "_prices"
/-! ### is_place, is_price -/
def spIsPlace (P : Addr) : Sp := fun vs H Q _ => ∃ v : V, vs = [v] ∧ ask v ∧ H P = some (TabO P) ∧ Q (.bl (isP v)) H
def spIsPrice : Sp := fun vs H Q _ => ∃ v : V, vs = [v] ∧ ask v ∧ Q (.bl (isC v)) H
abbrev s_is_place : Stmt := topS 14
abbrev N_is_place : List Str := ["thing"]
theorem sc_is_place : FnScope N_is_place ["thing"] (defScope s_is_place) := ⟨rfl, rfl, rfl, by decide +kernel, rfl, by decide +kernel, by decide +kernel⟩
abbrev s_is_price : Stmt := topS 15
abbrev N_is_price : List Str := ["thing"]
theorem sc_is_price : FnScope N_is_price ["thing"] (defScope s_is_price) := ⟨rfl, rfl, rfl, by decide +kernel, rfl, by decide +kernel, by decide +kernel⟩
section
variable {Pg : Program} {w : World} {K : PySem.W.Frag} {mg : Str → Option Value} {base : Heap} {a : Ads}
theorem ok_is_place {f c P : Addr} {fd : FuncData} (F : FunC K "is_place" "is_place" s_is_place f fd c) (T : Txt K mg a) (TB : GxR.TabB base mg c P) : FnOk Pg w K mg base (L2N.CX Pg w) 2 f fd ["thing"] (spIsPlace P) := by
  refine F.okN sc_is_place (fun vs H Q E h => ?_) (fun A outer s H vs Q E hr h => ?_)
  · obtain ⟨c, rfl, _⟩ := h
    rfl
  · obtain ⟨v, rfl, ha, hP, q⟩ := h
    refine ⟨_, (pss_cons (ps_if (pt_not (pt_val (pe_callB call_isi (by rfl) T.n_isinstance (by decide +kernel) (pa_cons (pv 0) (pa_cons (pe_bty (n := "str") T.n_str (by decide +kernel)) pa_nil))))) (pss_one (ps_ret pe_bl)) pss_nil)
      (pss_cons (ps_if (pt_not (pt_chain op_le op_le pe_int (pe_callB call_len_str (by rfl) T.n_len (by decide +kernel) (pa_cons (pv 0) pa_nil)) (pe_gint T.c_LONGEST_PLACE rfl))) (pss_one (ps_ret pe_bl)) pss_nil)
      (pss_one (ps_ret (pe_allP (i := 0) (GxR.pe_allS hr rfl T.n_all (by decide +kernel) TB rfl ⟨rfl, rfl, by decide +kernel, rfl, rfl, nofree_ex (by decide +kernel)⟩ (pv 0) (elt_btw rfl rfl) (fun _ => rfl))))))), ?_⟩
    rcases ha with rfl | ⟨b, rfl⟩ | ⟨i, rfl⟩ | ⟨z, rfl, hz⟩
    · walk_at "s"
      exact ⟨_, _, _, _, false, rfl, .ty "str", .base .non, kit_ty (by decide +kernel), _, rfl, q⟩
    · walk_at "s"
      exact ⟨_, _, _, _, false, rfl, .ty "str", .base (.bl b), kit_ty (by decide +kernel), _, rfl, q⟩
    · walk_at "s"
      exact ⟨_, _, _, _, false, rfl, .ty "str", .base (.int i), kit_ty (by decide +kernel), _, rfl, q⟩
    · walk_at "s"
      refine ⟨_, _, _, _, true, rfl, .ty "str", .base (.str z), kit_ty (by decide +kernel), _, rfl, ?_⟩
      walk_at "s"
      refine ⟨szl (Nat.le_trans hz.1 (by decide)), ?_⟩
      walk_at "s"
      refine ifD (fun c1 => ?_) (fun c1 => ?_)
      · walk_at "s"
        refine ifND (fun c2 => ?_) (fun c2 => ?_)
        · rw [isP_long c2] at q
          exact q
        · refine ⟨z, rfl, hP, ?_⟩
          rw [isP_mid c1 c2] at q
          rw [show (fun c => !decide (([c] : List Nat) < (Str.ofString "a").cps.toList) && !decide ((Str.ofString "z").cps.toList < ([c] : List Nat))) = letter from funext btw_letter]
          exact q
      · walk_at "s"
        refine ifT1 ?_
        rw [isP_short c1] at q
        exact q
theorem ok_is_price {f : Addr} {fd : FuncData} (F : Fun K "is_price" "is_price" s_is_price f fd) (T : Txt K mg a) : FnOk Pg w K mg base (L2N.CX Pg w) 1 f fd ["thing"] spIsPrice := by
  refine F.okN sc_is_price (fun vs H Q E h => ?_) (fun cdv A outer s H vs Q E hr h => ?_)
  · obtain ⟨c, rfl, _⟩ := h
    rfl
  · obtain ⟨v, rfl, ha, q⟩ := h
    refine ⟨_, (pss_cons (ps_if (PW.pt (pw_or (pt_val (pe_callB call_isi (by rfl) T.n_isinstance (by decide +kernel) (pa_cons (pv 0) (pa_cons (pe_bty (n := "bool") T.n_bool (by decide +kernel)) pa_nil)))) (pw_or1 (pt_not (pt_val (pe_callB call_isi (by rfl) T.n_isinstance (by decide +kernel) (pa_cons (pv 0) (pa_cons (pe_bty (n := "int") T.n_int (by decide +kernel)) pa_nil)))))))) (pss_one (ps_ret pe_bl)) pss_nil)
      (pss_one (ps_ret (pe_chain op_le op_le pe_int (pv 0) (pe_gint T.c_HIGHEST_PRICE rfl))))), ?_⟩
    rcases ha with rfl | ⟨b, rfl⟩ | ⟨i, rfl⟩ | ⟨z, rfl, hz⟩
    · walk_at "s"
      refine ⟨_, _, _, _, false, rfl, .ty "bool", .base .non, kit_ty (by decide +kernel), _, rfl, ?_⟩
      walk_at "s"
      exact ⟨_, _, _, _, false, rfl, .ty "int", .base .non, kit_ty (by decide +kernel), _, rfl, q⟩
    · walk_at "s"
      exact ⟨_, _, _, _, true, rfl, .ty "bool", .base (.bl b), kit_ty (by decide +kernel), _, rfl, q⟩
    · walk_at "s"
      refine ⟨_, _, _, _, false, rfl, .ty "bool", .base (.int i), kit_ty (by decide +kernel), _, rfl, ?_⟩
      walk_at "s"
      refine ⟨_, _, _, _, true, rfl, .ty "int", .base (.int i), kit_ty (by decide +kernel), _, rfl, ?_⟩
      walk_at "s"
      refine ifD (fun c1 => ?_) (fun c1 => ?_)
      · walk_at "s"
        have e : isC (.int i) = decide (i ≤ 1000000000000) := by
          show (decide (0 ≤ i) && decide (i ≤ 1000000000000)) = _
          rw [decide_eq_true c1]; rfl
        rw [e] at q
        exact q
      · have e : isC (.int i) = false := by
          show (decide (0 ≤ i) && decide (i ≤ 1000000000000)) = _
          rw [decide_eq_false c1]; rfl
        rw [e] at q
        exact q
    · walk_at "s"
      refine ⟨_, _, _, _, false, rfl, .ty "bool", .base (.str z), kit_ty (by decide +kernel), _, rfl, ?_⟩
      walk_at "s"
      exact ⟨_, _, _, _, false, rfl, .ty "int", .base (.str z), kit_ty (by decide +kernel), _, rfl, q⟩
end
end Fb

namespace Fb
open PySem PySem.Spec PyProof.Rows L2
local macro_rules | `(tactic| walk_at "s") => `(tactic| repeat (first | refine ⟨_, rfl, ?_⟩ | refine ⟨_, _, rfl, rfl, ?_⟩ | refine ⟨_, _, rfl, Or.inl (by assumption), ?_⟩ | refine ⟨rfl, ?_⟩ | refine ⟨(by decide : (0 : Int) < _), ?_⟩ | refine ⟨⟨by decide, by decide⟩, ?_⟩ | refine ⟨_, _, _, rfl, (by assumption), (by first | decide | omega), ?_⟩))
def spPut (a : Ads) (P : Addr) : Sp := fun vs H Q E => ∃ (p d : Addr) (v1 v2 v3 : V) (rs : List Row), vs = [.ref p, v1, v2, v3] ∧ ask v1 ∧ ask v2 ∧ ask v3 ∧ H P = some (TabO P) ∧ TarAt a.Tariff H p d rs ∧ rs.length ≤ 1000 ∧
  (putDue rs v1 v2 v3 = 0 → ∀ H', SameB d H H' → TarAt a.Tariff H' p d (rs ++ [mkRow v1 v2 v3]) → Q .non H') ∧ (putDue rs v1 v2 v3 ≠ 0 → ∀ H', Same H H' → E (.ref (errOf a (putDue rs v1 v2 v3))) none H')
abbrev s_Tariff_put : Stmt := inClass (topS 16) 1
abbrev N_Tariff_put : List Str := ["self", "here", "there", "price"]
theorem sc_Tariff_put : FnScope N_Tariff_put ["self", "here", "there", "price"] (defScope s_Tariff_put) := ⟨rfl, rfl, rfl, by decide +kernel, rfl, by decide +kernel, by decide +kernel⟩
section
variable {Pg : Program} {w : World} {K : PySem.W.Frag} {mg : Str → Option Value} {base : Heap} {a : Ads}
theorem ok_put {f P : Addr} {fd : FuncData} (F : Fun K "put" "Tariff.put" s_Tariff_put f fd) (T : Txt K mg a) (D_is_place : Dn Pg w K mg base 2 "is_place" ["thing"] (spIsPlace P)) (D_is_price : Dn Pg w K mg base 1 "is_price" ["thing"] spIsPrice) : FnOk Pg w K mg base (L2N.CX Pg w) 3 f fd ["self", "here", "there", "price"] (spPut a P) := by
  refine F.okN sc_Tariff_put (fun vs H Q E h => ?_) (fun cdv A outer s H vs Q E hr h => ?_)
  · obtain ⟨p, d, v1, v2, v3, rs, rfl, _⟩ := h
    rfl
  · obtain ⟨p, d, v1, v2, v3, rs, rfl, h1, h2, h3, hP, hT, hlen, q0, qE⟩ := h
    have hu := hu_of hr
    obtain ⟨dx, hob⟩ := hT.ob
    have hdc := hT.dc
    have npd := hT.ne
    refine ⟨_, (pss_cons (ps_if (pt_not (pt_val (pe_fnS D_is_place (hr.mono (by decide)) passC (pa_cons (pv 1) pa_nil)))) (pss_one (L2N.ps_raise rfl (L2N.takes_of rfl rfl rfl rfl) (L2N.pmk_own PySem.F.excBase_ValueError T.x_BadPlace.x T.x_BadPlace.g T.x_BadPlace.k (raises_own T.x_BadPlace.b T.x_BadPlace.t) rfl))) pss_nil)
      (pss_cons (ps_if (pt_not (pt_val (pe_fnS D_is_place (hr.mono (by decide)) passC (pa_cons (pv 2) pa_nil)))) (pss_one (L2N.ps_raise rfl (L2N.takes_of rfl rfl rfl rfl) (L2N.pmk_own PySem.F.excBase_ValueError T.x_BadPlace.x T.x_BadPlace.g T.x_BadPlace.k (raises_own T.x_BadPlace.b T.x_BadPlace.t) rfl))) pss_nil)
      (pss_cons (ps_if (pt_cmpR op_eq (pv 1) (pv 2) (nomark _)) (pss_one (L2N.ps_raise rfl (L2N.takes_of rfl rfl rfl rfl) (L2N.pmk_own PySem.F.excBase_ValueError T.x_BadPlace.x T.x_BadPlace.g T.x_BadPlace.k (raises_own T.x_BadPlace.b T.x_BadPlace.t) rfl))) pss_nil)
      (pss_cons (ps_if (pt_not (pt_val (pe_fnS D_is_price (hr.mono (by decide)) passC (pa_cons (pv 3) pa_nil)))) (pss_one (L2N.ps_raise rfl (L2N.takes_of rfl rfl rfl rfl) (L2N.pmk_own PySem.F.excBase_ValueError T.x_BadPrice.x T.x_BadPrice.g T.x_BadPrice.k (raises_own T.x_BadPrice.b T.x_BadPrice.t) rfl))) pss_nil)
      (pss_cons (ps_if (pt_cmp (pc_din hu (pe_tup (pa_cons (pv 1) (pa_cons (pv 2) pa_nil))) (pe_fld (pv 0) rfl))) (pss_one (L2N.ps_raise rfl (L2N.takes_of rfl rfl rfl rfl) (pmk_ownN1 PySem.F.excBase_ValueError T.x_TwiceTold.x T.x_TwiceTold.g T.x_TwiceTold.k (raises_own T.x_TwiceTold.b T.x_TwiceTold.t) rfl (pe_joined (PJ.cons pe_str (PJ.cons (pe_fmt (pv 1)) (PJ.cons pe_str (PJ.cons (pe_fmt (pv 2)) (PJ.cons pe_str PJ.nil))))))))) pss_nil)
      (pss_cons (ps_if (pt_cmpR op_ge (pe_callB call_len_dT (by rfl) T.n_len (by decide +kernel) (pa_cons (pe_fld (pv 0) rfl) pa_nil)) (pe_gint T.c_MOST_ROWS rfl) (nomark _)) (pss_one (L2N.ps_raise rfl (L2N.takes_of rfl rfl rfl rfl) (pmk_ownN1 PySem.F.excBase_ValueError T.x_TooMany.x T.x_TooMany.g T.x_TooMany.k (raises_own T.x_TooMany.b T.x_TooMany.t) rfl (pe_joined (PJ.cons pe_str (PJ.cons (pe_fmt (pe_gint T.c_MOST_ROWS rfl)) (PJ.cons pe_str PJ.nil))))))) pss_nil)
      (pss_one (ps_dput hu (pe_fld (pv 0) rfl) (pe_tup (pa_cons (pv 1) (pa_cons (pv 2) pa_nil))) (pv 3) rfl)))))))), ?_⟩
    walk_at "s"
    refine ⟨h1, hP, ?_⟩
    walk_at "s"
    refine ifNB (fun c1 => ?_) (fun c1 => ?_)
    · have e : putDue rs v1 v2 v3 = 1 := by unfold putDue; rw [c1]; rfl
      rw [e] at qE
      exact qE (by decide) _ (Same.refl _)
    walk_at "s"
    refine ⟨h2, hP, ?_⟩
    walk_at "s"
    refine ifNB (fun c2 => ?_) (fun c2 => ?_)
    · have e : putDue rs v1 v2 v3 = 1 := by unfold putDue; rw [if_pos c1, c2]; rfl
      rw [e] at qE
      exact qE (by decide) _ (Same.refl _)
    obtain ⟨z1, rfl⟩ := isP_str c1
    obtain ⟨z2, rfl⟩ := isP_str c2
    walk_at "s"
    refine ifD (fun c3 => ?_) (fun c3 => ?_)
    · have e : putDue rs (.str z1) (.str z2) v3 = 1 := by unfold putDue; rw [if_pos c1, if_pos c2, if_pos c3]
      rw [e] at qE
      exact qE (by decide) _ (Same.refl _)
    walk_at "s"
    refine ⟨h3, ?_⟩
    walk_at "s"
    refine ifNB (fun c4 => ?_) (fun c4 => ?_)
    · have e : putDue rs (.str z1) (.str z2) v3 = 2 := by unfold putDue; rw [if_pos c1, if_pos c2, if_neg c3, c4]; rfl
      rw [e] at qE
      exact qE (by decide) _ (Same.refl _)
    obtain ⟨n, rfl⟩ : ∃ n, v3 = .int n := by
      cases v3 with
      | int n => exact ⟨n, rfl⟩
      | _ => cases c4
    walk_at "s"
    refine ⟨(by show 2 ≤ sizeLine; decide), fun t ht => ?_⟩
    have s1 : Same H (upd H t (.tup [.str z1, .str z2])) := same_new ht
    have hob1 := s1 _ _ hob
    have hdc1 := s1 _ _ hdc
    walk_at "s"
    refine ⟨p, a.Tariff, dx, _, .ref d, rfl, hob1, T.cl_Tariff, T.na_prices, prices_lookup d, d, _, rfl, DGet.t (k := [.inr z1, .inr z2]) hdc1 upd_same, ?_⟩
    have ek : isTold rs (.str z1) (.str z2) = (valV (rs.map rowK) [.inr z1, .inr z2]).isSome := rfl
    have l1 : z1.length ≤ 12 := by
      have := c1
      unfold isP at this
      simp only [Bool.and_eq_true, decide_eq_true_eq] at this
      exact this.1.2
    have l2 : z2.length ≤ 12 := by
      have := c2
      unfold isP at this
      simp only [Bool.and_eq_true, decide_eq_true_eq] at this
      exact this.1.2
    walk_at "s"
    refine ifB (fun c5 => ?_) (fun c5 => ?_)
    · have e : putDue rs (.str z1) (.str z2) (.int n) = 3 := by unfold putDue; rw [if_pos c1, if_pos c2, if_neg c3, if_pos c4, if_pos (by rw [ek]; exact c5)]
      rw [e] at qE
      have la := lapp (show (Str.empty ++ Str.ofString "the way from ").length ≤ 50 by decide +kernel) l1
      have lb := lapp la (show (Str.ofString " to ").length ≤ 10 by decide +kernel)
      have lc := lapp lb l2
      have ld := lapp lc (show (Str.ofString " has a row already").length ≤ 50 by decide +kernel)
      walk_at "s"
      refine ⟨by decide +kernel, ?_⟩
      walk_at "s"
      refine .inl ⟨z1, rfl, szl (by omega), ?_⟩
      walk_at "s"
      refine ⟨szl (by omega), ?_⟩
      walk_at "s"
      refine ⟨szl (by omega), ?_⟩
      walk_at "s"
      refine .inl ⟨z2, rfl, szl (by omega), ?_⟩
      walk_at "s"
      refine ⟨szl (by omega), ?_⟩
      walk_at "s"
      exact ⟨szl (by omega), qE (by decide) _ s1⟩
    have c5' : valV (rs.map rowK) [.inr z1, .inr z2] = none := by simpa using c5
    walk_at "s"
    refine ⟨p, a.Tariff, dx, _, .ref d, rfl, hob1, T.cl_Tariff, T.na_prices, prices_lookup d, d, _, rfl, hdc1, ?_⟩
    walk_at "s"
    refine ifD (fun c6 => ?_) (fun c6 => ?_)
    · rw [List.length_map] at c6
      have e : putDue rs (.str z1) (.str z2) (.int n) = 4 := by unfold putDue; rw [if_pos c1, if_pos c2, if_neg c3, if_pos c4, if_neg (by rw [ek]; simp [c5']), if_pos (by omega)]
      rw [e] at qE
      walk_at "s"
      refine ⟨by decide +kernel, ?_⟩
      walk_at "s"
      refine .inr ⟨160, rfl, by decide, ?_⟩
      walk_at "s"
      refine ⟨by decide +kernel, ?_⟩
      walk_at "s"
      exact ⟨by decide +kernel, qE (by decide) _ s1⟩
    rw [List.length_map] at c6
    have e : putDue rs (.str z1) (.str z2) (.int n) = 0 := by unfold putDue; rw [if_pos c1, if_pos c2, if_neg c3, if_pos c4, if_neg (by rw [ek]; simp [c5']), if_neg (by omega)]
    walk_at "s"
    refine ⟨p, a.Tariff, dx, _, .ref d, rfl, hob1, T.cl_Tariff, T.na_prices, prices_lookup d, ?_⟩
    walk_at "s"
    refine ⟨(by show 2 ≤ sizeLine; decide), fun u hu2 => ?_⟩
    have s2 : Same H (upd (upd H t (.tup [.str z1, .str z2])) u (.tup [.str z1, .str z2])) := Same.trans s1 (same_new hu2)
    have hob2 := s2 _ _ hob
    have hdc2 := s2 _ _ hdc
    refine ⟨d, _, rfl, DPut.t (k := [.inr z1, .inr z2]) hdc2 upd_same (szlt (by rw [List.length_map]; omega)), ?_⟩
    refine q0 e _ (fun b o nb hb => by rw [upd_ne nb]; exact s2 _ _ hb) ⟨⟨dx, by rw [upd_ne npd]; exact hob2⟩, ?_⟩
    rw [upd_same, rowK_put c5']
    rfl
end
end Fb

namespace Fb
open PySem PySem.Spec PyProof.Rows L2
local macro_rules | `(tactic| walk_at "s") => `(tactic| repeat (first | refine ⟨_, rfl, ?_⟩ | refine ⟨_, _, rfl, rfl, ?_⟩ | refine ⟨_, _, rfl, Or.inl (by assumption), ?_⟩ | refine ⟨rfl, ?_⟩ | refine ⟨(by decide : (0 : Int) < _), ?_⟩ | refine ⟨⟨by decide, by decide⟩, ?_⟩ | refine ⟨_, _, _, rfl, (by assumption), (by first | decide | omega), ?_⟩))
theorem but_l {K : PySem.W.Frag} {H H' : Hp} {D l : Addr} {o : HO} {xs : List V} (s : SameB D H H') (hD : H D = some o) (n1 : ∀ xs, o ≠ .lst xs) (n2 : ∀ ob u, o ≠ .frz ob u) (h : SqL K H l xs) : SqL K H' l xs := by
  rcases h with (h | ⟨ob, h⟩) | h
  · exact .inl (.inl (s _ _ (ne_of h hD fun e => n1 _ e.symm) h))
  · exact .inl (.inr ⟨ob, s _ _ (ne_of h hD fun e => n2 _ _ e.symm) h⟩)
  · exact .inr h
theorem but_t {K : PySem.W.Frag} {H H' : Hp} {D l : Addr} {o : HO} {xs : List V} (s : SameB D H H') (hD : H D = some o) (n1 : ∀ xs, o ≠ .tup xs) (n2 : ∀ ob u, o ≠ .frz ob u) (h : SqT K H l xs) : SqT K H' l xs := by
  rcases h with (h | ⟨ob, h⟩) | h
  · exact .inl (.inl (s _ _ (ne_of h hD fun e => n1 _ e.symm) h))
  · exact .inl (.inr ⟨ob, s _ _ (ne_of h hD fun e => n2 _ _ e.symm) h⟩)
  · exact .inr h
theorem take_step {rs : List Row} {gs : List (V × V × V)} {i : Nat} {g : V × V × V} (h : gs[i]? = some g) :
    takeRows rs (gs.drop i) = if putDue rs g.1 g.2.1 g.2.2 = 0 then takeRows (rs ++ [mkRow g.1 g.2.1 g.2.2]) (gs.drop (i + 1)) else (putDue rs g.1 g.2.1 g.2.2, rs) := by
  obtain ⟨hl, e⟩ := List.getElem?_eq_some_iff.mp h
  rw [List.drop_eq_getElem_cons hl, e]
  rfl
def spInit (K : PySem.W.Frag) (a : Ads) (P : Addr) : Sp := fun vs H Q E => ∃ (p dx l : Addr) (ts : List Addr) (gs : List (V × V × V)), vs = [.ref p, .ref l] ∧ H p = some (.ins a.Tariff dx []) ∧ H P = some (TabO P) ∧ SqL K H l (ts.map V.ref) ∧
  Paired (IsGiven K H) ts gs ∧ (∀ g ∈ gs, ask g.1 ∧ ask g.2.1 ∧ ask g.2.2) ∧ gs.length ≤ 400 ∧
  ((takeRows [] gs).1 = 0 → ∀ d H', H d = none → SameB p H H' → TarAt a.Tariff H' p d (takeRows [] gs).2 → Q .non H') ∧
  ((takeRows [] gs).1 ≠ 0 → ∀ H', SameB p H H' → E (.ref (errOf a (takeRows [] gs).1)) none H')
def spPrice (a : Ads) : Sp := fun vs H Q _ => ∃ (p d : Addr) (x y : Str) (rs : List Row), vs = [.ref p, .str x, .str y] ∧ TarAt a.Tariff H p d rs ∧ ∀ H', Same H H' → Q (lookR rs x y) H'
def spTold (a : Ads) : Sp := fun vs H Q _ => ∃ (p d : Addr) (rs : List Row), vs = [.ref p] ∧ TarAt a.Tariff H p d rs ∧ rs.length ≤ 1000 ∧
  ∀ (q : Addr) (H' : Hp) (ts : List Addr), H q = none → Same H H' → H' q = some (.lst (ts.map V.ref)) → Paired (IsRow H') ts rs → Q (.ref q) H'
abbrev s_Tariff_init : Stmt := inClass (topS 16) 0
abbrev N_Tariff_init : List Str := ["self", "rows", "here", "there", "price"]
theorem sc_Tariff_init : FnScope N_Tariff_init ["self", "rows"] (defScope s_Tariff_init) := ⟨rfl, rfl, rfl, by decide +kernel, rfl, by decide +kernel, by decide +kernel⟩
abbrev s_Tariff_price : Stmt := inClass (topS 16) 2
abbrev N_Tariff_price : List Str := ["self", "here", "there"]
theorem sc_Tariff_price : FnScope N_Tariff_price ["self", "here", "there"] (defScope s_Tariff_price) := ⟨rfl, rfl, rfl, by decide +kernel, rfl, by decide +kernel, by decide +kernel⟩
abbrev s_Tariff_told : Stmt := inClass (topS 16) 3
abbrev N_Tariff_told : List Str := ["self", "here", "there", "price"]
theorem sc_Tariff_told : FnScope N_Tariff_told ["self"] (defScope s_Tariff_told) := ⟨rfl, rfl, rfl, by decide +kernel, rfl, by decide +kernel, by decide +kernel⟩
section
variable {Pg : Program} {w : World} {K : PySem.W.Frag} {mg : Str → Option Value} {base : Heap} {a : Ads}
theorem ok_price {f : Addr} {fd : FuncData} (F : Fun K "price" "Tariff.price" s_Tariff_price f fd) (T : Txt K mg a) : FnOk Pg w K mg base (L2N.CX Pg w) 1 f fd ["self", "here", "there"] (spPrice a) := by
  refine F.okN sc_Tariff_price (fun vs H Q E h => ?_) (fun cdv A outer s H vs Q E hr h => ?_)
  · obtain ⟨p, d, x, y, rs, rfl, _⟩ := h
    rfl
  · obtain ⟨p, d, x, y, rs, rfl, hT, q⟩ := h
    have hu := hu_of hr
    obtain ⟨dx, hob⟩ := hT.ob
    refine ⟨_, (pss_one (ps_ret (pe_dget1 hu (pe_fld (pv 0) rfl) (pe_tup (pa_cons (pv 1) (pa_cons (pv 2) pa_nil))) ⟨rfl, rfl, rfl, rfl⟩))), ?_⟩
    walk_at "s"
    refine ⟨p, a.Tariff, dx, _, .ref d, rfl, hob, T.cl_Tariff, T.na_prices, prices_lookup d, d, rfl, .inr ⟨_, .inl hT.dc⟩, ?_⟩
    walk_at "s"
    refine ⟨(by show 2 ≤ sizeLine; decide), fun t ht => ?_⟩
    exact ⟨_, DGet.t (k := [.inr x, .inr y]) ((same_new ht) _ _ hT.dc) upd_same, q _ (same_new ht)⟩
theorem ok_init {f P : Addr} {fd : FuncData} (F : Fun K "__init__" "Tariff.__init__" s_Tariff_init f fd) (T : Txt K mg a) (D_put : Dm Pg w K mg base 3 a.Tariff "put" ["self", "here", "there", "price"] (spPut a P)) : FnOk Pg w K mg base (L2N.CX Pg w) 4 f fd ["self", "rows"] (spInit K a P) := by
  refine F.okN sc_Tariff_init (fun vs H Q E h => ?_) (fun cdv A outer s H vs Q E hr h => ?_)
  · obtain ⟨p, dx, l, ts, gs, rfl, _⟩ := h
    rfl
  · obtain ⟨p, dx, l, ts, gs, rfl, hp, hP, hl, hg, hask, hlen, q0, qE⟩ := h
    have PO : PassesOwn (model Pg w) (A.deeper (envOfC "Tariff.__init__" (defScope s_Tariff_init) s.heap.objs.size f cdv)) (envOfC "Tariff.__init__" (defScope s_Tariff_init) s.heap.objs.size f cdv) (cxOf (L2N.CX Pg w) Pg w K mg base N_Tariff_init "Tariff.__init__" (defScope s_Tariff_init) f cdv A outer s H E).xe := passes_of rfl
    refine ⟨_, (pss_cons (ps_fld (pv 0) pe_dnewT rfl)
      (pss_one (ps_for PO rfl (pi_list (pv 1)) (pg_tup rfl (pgs_cons (pg_name (i := 2) sc_Tariff_init.nd rfl (by first | exact Or.inl rfl | exact Or.inr rfl)) (pgs_cons (pg_name (i := 3) sc_Tariff_init.nd rfl (by first | exact Or.inl rfl | exact Or.inr rfl)) (pgs_cons (pg_name (i := 4) sc_Tariff_init.nd rfl (by first | exact Or.inl rfl | exact Or.inr rfl)) pgs_nil))))
        (pss_one (ps_expr (pe_mdS (pv 0) T.cl_Tariff D_put (hr.mono (by decide)) (fun σ => L2N.passAt (L2N.takes_of rfl rfl rfl rfl) σ) (pa_cons (pv 2) (pa_cons (pv 3) (pa_cons (pv 4) pa_nil))))))))), ?_⟩
    intro d hd
    have npd : p ≠ d := ne_of_none hp hd
    have lts : ts.length = gs.length := Paired.length hg
    refine ⟨_, rfl, p, a.Tariff, dx, [], rfl, (by rw [upd_ne npd]; exact hp), T.cl_Tariff, T.na_prices, (by show 0 < 1000; decide), ?_⟩
    have sb : SameB p H (upd (upd H d (.dT [])) p (.ins a.Tariff dx (putF "_prices" (.ref d) []))) := fun b o nb e => by rw [upd_ne nb, upd_ne (ne_of_none e hd)]; exact e
    have T0 : TarAt a.Tariff (upd (upd H d (.dT [])) p (.ins a.Tariff dx (putF "_prices" (.ref d) []))) p d [] := ⟨⟨dx, upd_same⟩, by rw [upd_ne npd.symm, upd_same]; rfl⟩
    have seq : ∀ H', SameB p H H' → SqL K H' l (ts.map V.ref) := fun H' s => but_l s hp (fun _ z => nomatch z) (fun _ _ z => nomatch z) hl
    have giv : ∀ H' t g, SameB p H H' → IsGiven K H t g → IsGiven K H' t g := fun H' t g s h => but_t s hp (fun _ z => nomatch z) (fun _ _ z => nomatch z) h
    walk_at "s"
    refine ⟨⟨_, seq _ sb⟩, for_list (K := K) (a := l) (xs := ts.map V.ref) (fun i σ H' => ∃ rs v1 v2 v3, σ = [some (.ref p), some (.ref l), v1, v2, v3] ∧ SameB p H H' ∧ TarAt a.Tariff H' p d rs ∧ rs.length ≤ i ∧ takeRows [] gs = takeRows rs (gs.drop i))
      ⟨[], none, none, none, rfl, sb, T0, Nat.le_refl _, rfl⟩ (fun i σ H' _ ⟨_, _, _, _, _, s2, _⟩ => seq _ s2) ?_ ?_⟩
    · rintro i y σ H2 hi ⟨rs, v1, v2, v3, rfl, s2, T2, hlr, ht⟩
      rw [List.getElem?_map] at hi
      obtain ⟨t, ht1, rfl⟩ := Option.map_eq_some_iff.mp hi
      have hil := (List.getElem?_eq_some_iff.mp ht1).1
      obtain ⟨g, hg1, hgv⟩ := paired_at hg ht1
      obtain ⟨a1, a2, a3⟩ := hask g (List.mem_of_getElem? hg1)
      obtain ⟨dx2, hob2⟩ := T2.ob
      have hP2 : H2 P = some (TabO P) := s2 _ _ (ne_of hP hp (by intro z; cases z)) hP
      refine ⟨_, _, rfl, giv _ _ _ s2 hgv, rfl, _, _, rfl, _, _, rfl, _, _, rfl, rfl, ?_⟩
      have step := take_step (rs := rs) hg1
      walk_at "s"
      refine ⟨p, dx2, _, rfl, hob2, prices_no d (by decide), ?_⟩
      walk_at "s"
      refine ⟨p, d, _, _, _, rs, rfl, a1, a2, a3, hP2, T2, by omega, fun e H3 s3 T3 => ?_, fun e H3 s3 => ?_⟩
      · rw [if_pos e] at step
        refine ⟨_, _, _, _, rfl, fun b o nb hb => s3 _ _ (ne_of_none hb hd) (s2 _ _ nb hb), T3, by rw [List.length_append]; simp; omega, by rw [ht, step]⟩
      · rw [if_neg e] at step
        rw [ht, step] at qE
        exact qE e _ fun b o nb hb => s3 _ _ (s2 _ _ nb hb)
    · rintro σ H2 ⟨rs, v1, v2, v3, rfl, s2, T2, hlr, ht⟩
      rw [List.length_map, lts, List.drop_length] at ht
      rw [ht] at q0
      exact q0 rfl d H2 hd s2 T2
end
end Fb

namespace Fb
open PySem PySem.Spec PyProof.Rows L2
local macro_rules | `(tactic| walk_at "s") => `(tactic| repeat (first | refine ⟨_, rfl, ?_⟩ | refine ⟨_, _, rfl, rfl, ?_⟩ | refine ⟨_, _, rfl, Or.inl (by assumption), ?_⟩ | refine ⟨rfl, ?_⟩ | refine ⟨(by decide : (0 : Int) < _), ?_⟩ | refine ⟨⟨by decide, by decide⟩, ?_⟩ | refine ⟨_, _, _, rfl, (by assumption), (by first | decide | omega), ?_⟩))
def spToldE (a : Ads) : SpE := fun _ _ vs H Q _ => ∃ (p d : Addr) (rs : List Row), vs = [.ref p] ∧ TarAt a.Tariff H p d rs ∧ rs.length ≤ 1000 ∧
  ∀ (q : Addr) (H' : Hp) (ts : List Addr), H q = none → Same H H' → H' q = some (.lst (ts.map V.ref)) → Paired (IsRow H') ts rs → Q (.ref q) H'
section
variable {Pg : Program} {w : World} {K : PySem.W.Frag} {mg : Str → Option Value} {base : Heap} {a : Ads}
theorem ok_toldE {f : Addr} {fd : FuncData} (F : Fun K "told" "Tariff.told" s_Tariff_told f fd) (T : Txt K mg a) : FnE Pg w K mg base 1 f fd ["self"] (spToldE a) := by
  refine okE F sc_Tariff_told (fun e C vs H Q E h => ?_) (fun cdv A outer s H vs Q E p1 C hh er hr h => ?_)
  · obtain ⟨p, d, rs, rfl, _⟩ := h
    rfl
  · obtain ⟨p0, d, rs, rfl, hT, hlen, q⟩ := h
    obtain ⟨dx, hob⟩ := hT.ob
    have hdc := hT.dc
    have npd := hT.ne
    obtain ⟨p, ep⟩ : ∃ p, p = p1 := ⟨_, rfl⟩
    subst ep
    refine ⟨_, (pss_one (ps_ret (pe_lock (pe_lcH (own := [("price", 3), ("here", 1), ("there", 2)]) (g := (gTup K 2 (gCons (gTup K 2 (gCons (gName 1) (gCons (gName 2) gNil))) (gCons (gName 3) gNil)))) (tt := tYes) ⟨p, ⟨hh, er.ctx⟩, List.mem_cons_self⟩ sc_Tariff_told.nd (pi_itemsTA (pe_fld (pv 0) rfl)) (blkOk_by (own := [("price", 3), ("here", 1), ("there", 2)]) (N := N_Tariff_told) (sc := (defScope s_Tariff_told)) (by decide +kernel)) (fun _ _ _ _ _ hi => (pg_tupA hi (pgs_cons (pg_tupA hi (pgs_cons (pg_name (i := 1) sc_Tariff_told.nd rfl (by first | exact Or.inl rfl | exact Or.inr rfl)) (pgs_cons (pg_name (i := 2) sc_Tariff_told.nd rfl (by first | exact Or.inl rfl | exact Or.inr rfl)) pgs_nil))) (pgs_cons (pg_name (i := 3) sc_Tariff_told.nd rfl (by first | exact Or.inl rfl | exact Or.inr rfl)) pgs_nil)))) (fun _ _ _ _ _ hi => pts_nil) (fun _ _ _ _ _ hi => (pe_tup (pa_cons (pv 1) (pa_cons (pv 2) (pa_cons (pv 3) pa_nil))))))))), ?_⟩
    refine ⟨d, _, hdc, trivial, fun od => ?_⟩
    have hob1 : upd H d (.frz od (.dT (rs.map rowK))) p0 = some (.ins a.Tariff dx [("_prices", .ref d)]) := by rw [upd_ne npd]; exact hob
    walk_at "s"
    refine ⟨p0, a.Tariff, dx, _, .ref d, rfl, hob1, T.cl_Tariff, T.na_prices, prices_lookup d, d, od, _, rfl, upd_same, fun D hD => ?_⟩
    refine lc_itemsT (fun i v H' => ∃ t, v = .ref t ∧ t ≠ D ∧ ∃ r, rs[i]? = some r ∧ IsRow H' t r) ?_ hD upd_same (by rw [List.length_map]; omega) ?_ ?_ ?_
    · rintro i v H2 H3 sb ⟨t, e, n, r, hr, hx⟩
      exact ⟨t, e, n, r, hr, sb _ _ n hx⟩
    · intro i k v U u H2 acc hkv s2 hDl hU hu Q2 q2
      rw [List.getElem?_map] at hkv
      obtain ⟨r, hr, ek⟩ := Option.map_eq_some_iff.mp hkv
      cases ek
      refine ⟨_, _, rfl, SqT.of hU, rfl, _, _, rfl, ?_⟩
      refine ⟨_, _, rfl, SqT.of hu, rfl, _, _, rfl, _, _, rfl, rfl, ?_⟩
      refine ⟨_, _, rfl, rfl, rfl, ?_⟩
      walk_at "s"
      refine ⟨(by show 3 ≤ sizeLine; decide), fun t ht => ?_⟩
      exact q2 _ _ (same_new ht) ⟨t, rfl, (ne_of_none hDl ht).symm, r, hr, upd_same⟩
    · exact mono_tup (mono_cons (mono_tup (mono_cons mono_name (mono_cons mono_name mono_nil))) (mono_cons mono_name mono_nil))
    · intro H2 ys s2 hDl hl hr
      rw [List.length_map] at hl
      obtain ⟨ts, rfl, hp⟩ := pair_of (R := fun t r => t ≠ D ∧ IsRow H2 t r) hl fun i v hv => by
        obtain ⟨t, e, n, r, h1, h2⟩ := hr i v hv
        exact ⟨t, e, r, h1, n, h2⟩
      have hdf : H2 d = some (.frz od (.dT (rs.map rowK))) := s2 _ _ upd_same
      have back : ∀ b o, b ≠ d → H2 b = some o → upd H2 d (.dT (rs.map rowK)) b = some o := fun b o nb e => by rw [upd_ne nb]; exact e
      have s3 : Same H (upd H2 d (.dT (rs.map rowK))) := fun b o e => by
        by_cases hb : b = d
        · subst hb
          rw [hdc] at e
          cases e
          exact upd_same
        · rw [upd_ne hb]
          exact s2 _ _ (by rw [upd_ne hb]; exact e)
      have hDn : H D = none := by
        have nD : D ≠ d := fun z => by rw [z, upd_same] at hD; cases hD
        rw [upd_ne nD] at hD
        exact hD
      refine ⟨hdf, q D _ ts hDn s3 (back _ _ (fun z => by rw [z, hdf] at hDl; cases hDl) hDl) (Paired.mapP hp fun t r ⟨_, h2⟩ => ?_)⟩
      exact back t _ (fun z => by unfold IsRow at h2; rw [z, hdf] at h2; cases h2) h2
end
end Fb

namespace Fb
open PySem PySem.Spec PyProof.Rows L2
local macro_rules | `(tactic| walk_at "s") => `(tactic| repeat (first | refine ⟨_, rfl, ?_⟩ | refine ⟨_, _, rfl, rfl, ?_⟩ | refine ⟨_, _, rfl, Or.inl (by assumption), ?_⟩ | refine ⟨rfl, ?_⟩ | refine ⟨(by decide : (0 : Int) < _), ?_⟩ | refine ⟨⟨by decide, by decide⟩, ?_⟩ | refine ⟨_, _, _, rfl, (by assumption), (by first | decide | omega), ?_⟩))
/-! ### need_journey -/
def jerr (a : Ads) : Nat → Addr
  | 1 => a.BadPlace
  | _ => a.BadJourney
theorem due_le (xs : List V) : due xs ≤ 2 := by
  have h : ∀ (r : List V) (p : Option V), dueFrom p r ≤ 2 := fun r => by
    induction r with
    | nil => intro p; exact Nat.zero_le _
    | cons x r ih =>
      intro p
      show (if isP x = true then (if p = some x then 2 else dueFrom (some x) r) else 1) ≤ 2
      split
      · split
        · exact Nat.le_refl _
        · exact ih _
      · omega
  unfold due
  split
  · exact h _ _
  · exact Nat.le_refl _
def spNeed (K : PySem.W.Frag) (a : Ads) (P : Addr) : Sp := fun vs H Q E => ∃ (l : Addr) (xs : List V), vs = [.ref l] ∧ SqL K H l xs ∧ xs.length ≤ 100 ∧ (∀ v ∈ xs, ask v) ∧ H P = some (TabO P) ∧
  (due xs = 0 → ∀ (p : Addr) (H' : Hp), H p = none → Same H H' → H' p = some (.lst xs) → Q (.ref p) H') ∧ (due xs ≠ 0 → ∀ H', Same H H' → E (.ref (jerr a (due xs))) none H')
abbrev s_need_journey : Stmt := topS 20
abbrev N_need_journey : List Str := ["places", "number", "place"]
theorem sc_need_journey : FnScope N_need_journey ["places"] (defScope s_need_journey) := ⟨rfl, rfl, rfl, by decide +kernel, rfl, by decide +kernel, by decide +kernel⟩
section
variable {Pg : Program} {w : World} {K : PySem.W.Frag} {mg : Str → Option Value} {base : Heap} {a : Ads}
theorem ok_need {f P : Addr} {fd : FuncData} (F : Fun K "need_journey" "need_journey" s_need_journey f fd) (T : Txt K mg a) (D_is_place : Dn Pg w K mg base 2 "is_place" ["thing"] (spIsPlace P)) : FnOk Pg w K mg base (L2N.CX Pg w) 3 f fd ["places"] (spNeed K a P) := by
  refine F.okN sc_need_journey (fun vs H Q E h => ?_) (fun cdv A outer s H vs Q E hr h => ?_)
  · obtain ⟨c, _, rfl, _⟩ := h
    rfl
  · obtain ⟨l, xs, rfl, hs, hlen, hask, hP, q0, qE⟩ := h
    have q1 : due xs = 1 → ∀ H', Same H H' → E (.ref a.BadPlace) none H' := fun e H' s => by have z := qE (by omega) H' s; rw [e] at z; exact z
    have q2 : due xs = 2 → ∀ H', Same H H' → E (.ref a.BadJourney) none H' := fun e H' s => by have z := qE (by omega) H' s; rw [e] at z; exact z
    have PO : PassesOwn (model Pg w) (A.deeper (envOfC "need_journey" (defScope s_need_journey) s.heap.objs.size f cdv)) (envOfC "need_journey" (defScope s_need_journey) s.heap.objs.size f cdv) (cxOf (L2N.CX Pg w) Pg w K mg base N_need_journey "need_journey" (defScope s_need_journey) f cdv A outer s H E).xe := passes_of rfl
    refine ⟨_, (pss_cons (ps_if (pt_not (pt_chain op_le op_le (pe_gint T.c_FEWEST_PLACES rfl) (pe_callB call_len_seq (by rfl) T.n_len (by decide +kernel) (pa_cons (pv 0) pa_nil)) (pe_gint T.c_MOST_PLACES rfl))) (pss_one (L2N.ps_raise rfl (L2N.takes_of rfl rfl rfl rfl) (pmk_ownN1 PySem.F.excBase_ValueError T.x_BadJourney.x T.x_BadJourney.g T.x_BadJourney.k (raises_own T.x_BadJourney.b T.x_BadJourney.t) rfl (pe_joined (PJ.cons pe_str (PJ.cons (pe_fmt (pe_gint T.c_FEWEST_PLACES rfl)) (PJ.cons pe_str (PJ.cons (pe_fmt (pe_gint T.c_MOST_PLACES rfl)) (PJ.cons pe_str PJ.nil))))))))) pss_nil)
      (pss_cons (ps_for PO rfl (pi_enum (by rfl) T.n_enumerate (pa_cons (pv 0) pa_nil)) (pg_tup rfl (pgs_cons (pg_name (i := 1) sc_need_journey.nd rfl (by first | exact Or.inl rfl | exact Or.inr rfl)) (pgs_cons (pg_name (i := 2) sc_need_journey.nd rfl (by first | exact Or.inl rfl | exact Or.inr rfl)) pgs_nil)))
        (pss_cons (ps_if (pt_not (pt_val (pe_fnS D_is_place (hr.mono (by decide)) passC (pa_cons (pv 2) pa_nil)))) (pss_one (L2N.ps_raise rfl (L2N.takes_of rfl rfl rfl rfl) (pmk_ownN1 PySem.F.excBase_ValueError T.x_BadPlace.x T.x_BadPlace.g T.x_BadPlace.k (raises_own T.x_BadPlace.b T.x_BadPlace.t) rfl (pe_joined (PJ.cons pe_str (PJ.cons (pe_fmt (pv 1)) (PJ.cons pe_str PJ.nil))))))) pss_nil)
          (pss_one (ps_if (PW.pt (pw_and (pt_cmpR op_gt (pv 1) pe_int (nomark _)) (pw_and1 (pt_cmpR op_eq (pv 2) (pe_ix ix_list (pv 0) (pe_op op_sub (pv 1) pe_int) (fun _ _ => rfl)) (nomark _))))) (pss_one (L2N.ps_raise rfl (L2N.takes_of rfl rfl rfl rfl) (pmk_ownN1 PySem.F.excBase_ValueError T.x_BadJourney.x T.x_BadJourney.g T.x_BadJourney.k (raises_own T.x_BadJourney.b T.x_BadJourney.t) rfl (pe_joined (PJ.cons pe_str (PJ.cons (pe_fmt (pv 1)) (PJ.cons pe_str PJ.nil))))))) pss_nil))))
      (pss_one (ps_ret (pe_callTy call_list_of (by rfl) T.n_list (by decide +kernel) (pa_cons (pv 0) pa_nil)))))), ?_⟩
    walk_at "s"
    refine ifD (fun c1 => ?_) (fun c1 => ?_)
    · walk_at "s"
      refine ifND (fun c2 => ?_) (fun c2 => ?_)
      · walk_at "s"
        refine ⟨by decide +kernel, ?_⟩
        walk_at "s"
        refine .inr ⟨2, rfl, by decide, ?_⟩
        walk_at "s"
        refine ⟨by decide +kernel, ?_⟩
        walk_at "s"
        refine ⟨by decide +kernel, ?_⟩
        walk_at "s"
        refine .inr ⟨40, rfl, by decide, ?_⟩
        walk_at "s"
        refine ⟨by decide +kernel, ?_⟩
        walk_at "s"
        exact ⟨by decide +kernel, q2 (due_out fun z => by omega) _ (Same.refl _)⟩
      · have e0 := due_in (xs := xs) (by omega) (by omega)
        walk_at "s"
        refine ⟨_, _, rfl, hs, ?_⟩
        refine for_enum (K := K) (a := l) (xs := xs) (fun i σ H' => ∃ kv pv, σ = [some (.ref l), kv, pv] ∧ Same H H' ∧ dueAt xs i = due xs) ⟨none, none, rfl, Same.refl _, e0.symm⟩ (fun i σ H' _ ⟨_, _, _, s2, _⟩ => s2.seq hs) ?_ ?_
        · rintro i x σ H2 U hx ⟨kv, pv, rfl, s2, hd⟩ hU
          have hil : i < xs.length := (List.getElem?_eq_some_iff.mp hx).1
          have hax := hask x (List.mem_of_getElem? hx)
          have s3 : Same H (upd H2 U (.tup [.int (i : Nat), x])) := Same.trans s2 (same_new hU)
          have hs3 : SqL K (upd H2 U (.tup [.int (i : Nat), x])) l xs := s3.seq hs
          refine ⟨_, _, rfl, SqT.of upd_same, rfl, _, _, rfl, _, _, rfl, rfl, ?_⟩
          walk_at "s"
          refine ⟨hax, s3 _ _ hP, ?_⟩
          walk_at "s"
          refine ifNB (fun c3 => ?_) (fun c3 => ?_)
          · have e1 := due_place hx c3
            rw [hd] at e1
            have la : (Str.empty ++ Str.ofString "number ").length ≤ 50 := by decide +kernel
            have lb := lapp la (num_small i (by omega))
            have lc := lapp lb (show (Str.ofString " of the journey is no place").length ≤ 100 by decide +kernel)
            walk_at "s"
            refine ⟨szl (by omega), ?_⟩
            walk_at "s"
            refine .inr ⟨(i : Int), rfl, log_small (by omega), ?_⟩
            walk_at "s"
            refine ⟨szl (by omega), ?_⟩
            walk_at "s"
            refine ⟨szl (by omega), ?_⟩
            exact q1 e1 _ s3
          · walk_at "s"
            refine ifD (fun c4 => ?_) (fun c4 => ?_)
            · walk_at "s"
              have hil2 : i - 1 < xs.length := by omega
              have hx2 : xs[i - 1]? = some xs[i - 1] := List.getElem?_eq_getElem hil2
              obtain ⟨z, hz⟩ := isP_str c3
              refine ⟨_, _, _, _, rfl, rfl, hs3, atI_of (by omega) (by rw [show ((i : Int) - 1).toNat = i - 1 by omega]; exact hx2), (by rw [hz]; exact scal_str (hask _ (List.getElem_mem hil2))), ?_⟩
              walk_at "s"
              refine ifD (fun c5 => ?_) (fun c5 => ?_)
              · have e1 := due_same hx c3 (by omega) (by rw [hx2, c5])
                rw [hd] at e1
                have la : (Str.empty ++ Str.ofString "number ").length ≤ 50 := by decide +kernel
                have lb := lapp la (num_small i (by omega))
                have lc := lapp lb (show (Str.ofString " of the journey is the place right ahead of it").length ≤ 100 by decide +kernel)
                walk_at "s"
                refine ⟨szl (by omega), ?_⟩
                walk_at "s"
                refine .inr ⟨(i : Int), rfl, log_small (by omega), ?_⟩
                walk_at "s"
                refine ⟨szl (by omega), ?_⟩
                walk_at "s"
                refine ⟨szl (by omega), ?_⟩
                exact q2 e1 _ s3
              · exact ⟨_, _, rfl, s3, by rw [← hd]; exact (due_go hx c3 fun _ e => c5 (by rw [hx2] at e; exact (Option.some.inj e).symm)).symm⟩
            · exact ⟨_, _, rfl, s3, by rw [← hd]; exact (due_go hx c3 fun h0 => by omega).symm⟩
        · rintro σ H2 ⟨kv, pv, rfl, s2, hd⟩
          have e1 : due xs = 0 := by rw [← hd]; exact dueAt_end xs
          have hs2 : SqL K H2 l xs := s2.seq hs
          walk_at "s"
          intro p hp
          exact q0 e1 p _ (s2.free hp) (same_mut s2 (s2.free hp)) upd_same
    · walk_at "s"
      refine ⟨by decide +kernel, ?_⟩
      walk_at "s"
      refine .inr ⟨2, rfl, by decide, ?_⟩
      walk_at "s"
      refine ⟨by decide +kernel, ?_⟩
      walk_at "s"
      refine ⟨by decide +kernel, ?_⟩
      walk_at "s"
      refine .inr ⟨40, rfl, by decide, ?_⟩
      walk_at "s"
      refine ⟨by decide +kernel, ?_⟩
      walk_at "s"
      exact ⟨by decide +kernel, q2 (due_out fun z => by omega) _ (Same.refl _)⟩
end
end Fb

namespace Fb
open PySem PySem.Spec PyProof.Rows L2
local macro_rules | `(tactic| walk_at "s") => `(tactic| repeat (first | refine ⟨_, rfl, ?_⟩ | refine ⟨_, _, rfl, rfl, ?_⟩ | refine ⟨_, _, rfl, Or.inl (by assumption), ?_⟩ | refine ⟨rfl, ?_⟩ | refine ⟨(by decide : (0 : Int) < _), ?_⟩ | refine ⟨⟨by decide, by decide⟩, ?_⟩ | refine ⟨_, _, _, rfl, (by assumption), (by first | decide | omega), ?_⟩))
/-! ### cells of the script -/
def cel (ns : List Int) (j : Int) : Int := ns.getD j.toNat 0
def spCell (K : PySem.W.Frag) : Sp := fun vs H Q _ => ∃ (l : Addr) (ns : List Int) (j : Int), vs = [.ref l, .int j] ∧ SqL K H l (ns.map V.int) ∧ 0 ≤ j ∧ Q (.int (cel ns j)) H
abbrev s__law_cell_at : Stmt := topS 42
abbrev N__law_cell_at : List Str := ["_law_script", "_law_k"]
theorem sc__law_cell_at : FnScope N__law_cell_at ["_law_script", "_law_k"] (defScope s__law_cell_at) := ⟨rfl, rfl, rfl, by decide +kernel, rfl, by decide +kernel, by decide +kernel⟩
section
variable {Pg : Program} {w : World} {K : PySem.W.Frag} {mg : Str → Option Value} {base : Heap} {a : Ads}
theorem ok_cell {f : Addr} {fd : FuncData} (F : Fun K "_law_cell_at" "_law_cell_at" s__law_cell_at f fd) (T : Txt K mg a) : FnOk Pg w K mg base (L2N.CX Pg w) 1 f fd ["_law_script", "_law_k"] (spCell K) := by
  refine F.okN sc__law_cell_at (fun vs H Q E h => ?_) (fun cdv A outer s H vs Q E hr h => ?_)
  · obtain ⟨l, ns, j, rfl, _⟩ := h
    rfl
  · obtain ⟨l, ns, j, rfl, hs, hj, q⟩ := h
    refine ⟨_, (pss_cons (ps_if (pt_cmpR op_lt (pv 1) (pe_callB call_len_seq (by rfl) T.n_len (by decide +kernel) (pa_cons (pv 0) pa_nil)) (nomark _)) (pss_one (ps_ret (pe_ix ix_list (pv 0) (pv 1) (fun _ _ => rfl)))) pss_nil)
      (pss_one (ps_ret pe_int))), ?_⟩
    walk_at "s"
    refine ifD (fun c => ?_) (fun c => ?_)
    · rw [List.length_map] at c
      walk_at "s"
      exact ⟨_, _, _, _, rfl, rfl, hs, atI_map hj (by omega), q⟩
    · rw [List.length_map] at c
      have e : cel ns j = 0 := by
        unfold cel
        rw [List.getD_eq_getElem?_getD, List.getElem?_eq_none (by omega)]; rfl
      rw [e] at q
      exact q
end
end Fb

namespace Fb
open PySem PySem.Spec PyProof.Rows L2
local macro_rules | `(tactic| walk_at "s") => `(tactic| repeat (first | refine ⟨_, rfl, ?_⟩ | refine ⟨_, _, rfl, rfl, ?_⟩ | refine ⟨_, _, rfl, Or.inl (by assumption), ?_⟩ | refine ⟨rfl, ?_⟩ | refine ⟨(by decide : (0 : Int) < _), ?_⟩ | refine ⟨⟨by decide, by decide⟩, ?_⟩ | refine ⟨_, _, _, rfl, (by assumption), (by first | decide | omega), ?_⟩))
/-! ### a place by a cell -/
def spPlace : Sp := fun vs H Q _ => ∃ c : Int, vs = [.int c] ∧ ∀ (z : Str) (H' : Hp), okS 12 z → Same H H' → Q (.str z) H'
abbrev s__law_place : Stmt := topS 43
abbrev N__law_place : List Str := ["_law_cell", "_law_letters", "_law_k"]
theorem sc__law_place : FnScope N__law_place ["_law_cell"] (defScope s__law_place) := ⟨rfl, rfl, rfl, by decide +kernel, rfl, by decide +kernel, by decide +kernel⟩
section
variable {Pg : Program} {w : World} {K : PySem.W.Frag} {mg : Str → Option Value} {base : Heap} {a : Ads}
theorem ok_lplace {f : Addr} {fd : FuncData} (F : Fun K "_law_place" "_law_place" s__law_place f fd) (T : Txt K mg a) : FnOk Pg w K mg base (L2N.CX Pg w) 1 f fd ["_law_cell"] spPlace := by
  refine F.okN sc__law_place (fun vs H Q E h => ?_) (fun cdv A outer s H vs Q E hr h => ?_)
  · obtain ⟨c, rfl, _⟩ := h
    rfl
  · obtain ⟨c, rfl, q⟩ := h
    refine ⟨_, (pss_cons (ps_set (i := 1) sc__law_place.nd rfl (by first | exact Or.inl rfl | exact Or.inr rfl) pe_str)
      (pss_one (ps_ret (pe_bm PySem.F.plainAttrs_str PySem.F.slot_str_join PySem.F.type_str_join mt_join pe_str (pa_cons (pe_lc (own := [("_law_k", 2)]) (g := (gName 2)) (tt := tYes) rfl sc__law_place.nd (pi_range1 (by rfl) T.n_range (pa_cons (pe_op op_add pe_int (pe_op op_mod (pv 0) pe_int)) pa_nil)) (blkOk_by (own := [("_law_k", 2)]) (N := N__law_place) (sc := (defScope s__law_place)) (by decide +kernel)) (fun _ _ _ _ _ => (pg_name (i := 2) sc__law_place.nd rfl (by first | exact Or.inl rfl | exact Or.inr rfl))) (fun _ _ _ _ _ => pts_nil) (fun _ _ _ _ _ => (pe_ix ix_str (pv 1) (pe_op op_mod (pe_op op_add (pe_op op_fdiv (pv 0) pe_int) (pe_op op_mul (pv 2) (pe_op op_mod (pe_op op_fdiv (pv 0) pe_int) pe_int))) pe_int) (fun _ _ => rfl)))) pa_nil))))), ?_⟩
    walk_at "s"
    refine ⟨by omega, by omega, fun D hD => ?_⟩
    refine lc_rangeR (fun i v _ => ∃ x, v = .str ⟨#[x]⟩ ∧ x < 1114112) (fun _ _ _ _ _ r => r) hD (by omega) (fun v => rfl) ?_ ?_
    · intro i H2 acc hi s2 hDl Q2 q2
      walk_at "s"
      refine ⟨mulSmall (by omega) (by omega), ?_⟩
      walk_at "s"
      refine ⟨_, _, _, rfl, rfl, abc_len, abc_at (by omega) (by omega), ?_⟩
      exact q2 _ _ (Same.refl _) ⟨_, rfl, by omega⟩
    · intro H2 ys s2 hDl hl hr
      have hz : ∃ zs : List Str, ys = zs.map V.str ∧ ∀ z ∈ zs, okS 1 z := by
        clear hl hDl
        induction ys with
        | nil => exact ⟨[], rfl, fun z hz => by cases hz⟩
        | cons y r ih =>
          obtain ⟨x, e, hx⟩ := hr 0 y rfl
          obtain ⟨zs, e2, h2⟩ := ih fun i v e => hr (i + 1) v e
          refine ⟨⟨#[x]⟩ :: zs, by rw [e, e2]; rfl, fun z hz => ?_⟩
          rcases List.mem_cons.mp hz with e3 | e3
          · rw [e3]; exact okS.one hx
          · exact h2 z e3
      obtain ⟨zs, rfl, hzs⟩ := hz
      rw [List.length_map] at hl
      have hs := sum_ones hzs
      walk_at "s"
      refine ⟨_, _, zs, rfl, rfl, .inl (SqL.of hDl), ?_, ?_⟩
      · have e0 : (Str.ofString "").length = 0 := by decide
        rw [e0]
        omega
      · exact q _ _ (okS.join (by decide +kernel) (by omega) hzs) s2
end
/-! ### no place by a cell -/
def thing (v : V) : Prop := v = .non ∨ v = .int 5 ∨ ∃ z, v = .str z ∧ okS 400 z
def spBad : Sp := fun vs H Q _ => ∃ (c : Int) (z : Str), vs = [.int c, .str z] ∧ okS 12 z ∧ ∀ (v : V) (H' : Hp), thing v → isP v = false → Same H H' → Q v H'
theorem at_mem {z : Str} {n : Nat} {i : Int} (hn : z.cps.toList.length = n) (h0 : 0 ≤ i) (h1 : i < n) : ∃ c, atI z.cps.toList i = some c ∧ c ∈ z.cps.toList := by
  have hl : i.toNat < z.cps.toList.length := by omega
  exact ⟨z.cps.toList[i.toNat], atI_of h0 (List.getElem?_eq_getElem hl), List.getElem_mem hl⟩
theorem odd_signs : ∀ c ∈ (Str.ofString "AZ09_ -.[`{@/").cps.toList, c < 1114112 ∧ letter c = false := by decide +kernel
theorem cut_takeN (z : Str) (k : Nat) : (cutS z none (some (k : Int))).cps.toList = z.cps.toList.take k := by
  unfold cutS
  show ((z.cps.toList.drop (HT.sIx z.length 0 none)).take (HT.sIx z.length z.length (some (k : Int)) - HT.sIx z.length 0 none)) = _
  rw [HT.sIx_none, HT.sIx_nat, List.drop_zero, Nat.sub_zero, len_tl]
  by_cases h : k ≤ z.cps.toList.length
  · rw [Nat.min_eq_left h]
  · rw [Nat.min_eq_right (by omega), List.take_of_length_le (Nat.le_refl _), List.take_of_length_le (by omega)]
theorem isP_odd {z : Str} {c : Nat} (h : c ∈ z.cps.toList) (hc : letter c = false) : isP (.str z) = false := by
  have e : z.cps.toList.all letter = false := by
    cases q : z.cps.toList.all letter with
    | false => rfl
    | true => rw [List.all_eq_true.mp q c h] at hc; cases hc
  show (decide (1 ≤ z.length) && decide (z.length ≤ 12) && z.cps.toList.all letter) = false
  rw [e]; simp
theorem mem_take12 {A B : List Nat} {c : Nat} (h : A.length < 12) : c ∈ (A ++ [c] ++ B).take 12 := by
  rw [List.append_assoc, List.take_append, List.mem_append]
  right
  rw [show 12 - A.length = (11 - A.length) + 1 by omega]
  show c ∈ ([c] ++ B).take _
  simp
theorem isP_many {z : Str} {n : Nat} (h : z.length ≤ 1) (hn : 12 < n) : isP (.str (Txt.mul z (n : Int))) = false := by
  have e := mul_length z (n : Int) (by omega)
  rw [show ((n : Int)).toNat = n by omega] at e
  have h2 : z.length = 0 ∨ z.length = 1 := by omega
  rcases h2 with h2 | h2
  · rw [h2, Nat.zero_mul] at e
    exact isP_short (by omega)
  · rw [h2, Nat.one_mul] at e
    exact isP_long (by omega)
abbrev s__law_bad : Stmt := topS 45
abbrev N__law_bad : List Str := ["_law_cell", "_law_name", "_law_at", "_law_odd"]
theorem sc__law_bad : FnScope N__law_bad ["_law_cell", "_law_name"] (defScope s__law_bad) := ⟨rfl, rfl, rfl, by decide +kernel, rfl, by decide +kernel, by decide +kernel⟩
abbrev s__law_row : Stmt := topS 44
abbrev N__law_row : List Str := ["_law_script", "_law_size", "_law_row_here", "_law_k", "_law_name"]
theorem sc__law_row : FnScope N__law_row ["_law_script"] (defScope s__law_row) := ⟨rfl, rfl, rfl, by decide +kernel, rfl, by decide +kernel, by decide +kernel⟩
def spRow (K : PySem.W.Frag) : Sp := fun vs H Q _ => ∃ (l : Addr) (ns : List Int), vs = [.ref l] ∧ SqL K H l (ns.map V.int) ∧ ∀ (p : Addr) (H' : Hp) (xs : List V), H p = none → Same H H' → H' p = some (.lst xs) → xs.length ≤ 42 → (∀ v ∈ xs, ∃ z, v = .str z ∧ okS 12 z) → Q (.ref p) H'
section
variable {Pg : Program} {w : World} {K : PySem.W.Frag} {mg : Str → Option Value} {base : Heap} {a : Ads}
theorem ok_bad {f : Addr} {fd : FuncData} (F : Fun K "_law_bad" "_law_bad" s__law_bad f fd) (T : Txt K mg a) : FnOk Pg w K mg base (L2N.CX Pg w) 1 f fd ["_law_cell", "_law_name"] spBad := by
  refine F.okN sc__law_bad (fun vs H Q E h => ?_) (fun cdv A outer s H vs Q E hr h => ?_)
  · obtain ⟨c, z, rfl, _⟩ := h
    rfl
  · obtain ⟨c, z, rfl, hz, q⟩ := h
    have hzl : z.length ≤ sizeLine := szl (by have := hz.1; omega)
    refine ⟨_, (pss_cons (ps_set (i := 2) sc__law_bad.nd rfl (by first | exact Or.inl rfl | exact Or.inr rfl) (pe_op op_mod (pe_op op_fdiv (pv 0) pe_int) pe_int))
      (pss_cons (ps_set (i := 3) sc__law_bad.nd rfl (by first | exact Or.inl rfl | exact Or.inr rfl) (pe_op op_add_str (pe_slice sl_str (pv 1) po_none (po_some (pv 2))) (pe_ix ix_str pe_str (pe_op op_mod (pe_op op_fdiv (pv 0) pe_int) pe_int) (fun _ _ => rfl))))
      (pss_cons (ps_set (i := 3) sc__law_bad.nd rfl (by first | exact Or.inl rfl | exact Or.inr rfl) (pe_op op_add_str (pv 3) (pe_slice sl_str (pe_slice sl_str (pv 1) (po_some (pv 2)) po_none) po_none (po_some pe_int))))
      (pss_one (ps_ret (pe_ix ix_list (pe_lst (pa_cons pe_str (pa_cons (pe_op op_repS (pe_slice sl_str (pv 1) po_none (po_some pe_int)) pe_int) (pa_cons (pe_slice sl_str (pv 3) po_none (po_some pe_int)) (pa_cons pe_non (pa_cons pe_int (pa_cons (pe_op op_repS (pe_slice sl_str (pv 1) po_none (po_some pe_int)) pe_int) (pa_cons (pe_slice sl_str (pv 3) po_none (po_some pe_int)) pa_nil)))))))) (pe_op op_mod (pv 0) pe_int) (fun _ _ => rfl))))))), ?_⟩
    obtain ⟨sg, hsg, hsgm⟩ := at_mem (z := Str.ofString "AZ09_ -.[`{@/") (n := 13) (i := c / 84 % 13) (by decide +kernel) (by omega) (by omega)
    obtain ⟨hsgl, hsgo⟩ := odd_signs sg hsgm
    walk_at "s"
    refine ⟨hzl, ?_⟩
    walk_at "s"
    refine ⟨_, _, _, rfl, rfl, (by decide +kernel), hsg, ?_⟩
    have h1 := okS.app (okS.cut hz none (some (c / 7 % 12))) (okS.one hsgl)
    walk_at "s"
    refine ⟨szl (by have := h1.1; rw [len_app] at this; exact Nat.le_trans this (by decide)), ?_⟩
    walk_at "s"
    refine ⟨hzl, ?_⟩
    walk_at "s"
    have h2 := okS.cut (okS.cut hz (some (c / 7 % 12)) none) none (some 11)
    refine ⟨szl (by have := (okS.cut hz (some (c / 7 % 12)) none).1; omega), ?_⟩
    have h3 := okS.app h1 h2
    walk_at "s"
    refine ⟨szl (by have := h3.1; rw [len_app] at this; exact Nat.le_trans this (by decide)), ?_⟩
    have h4 := okS.cut hz none (some 1)
    have h5 := okS.cut h3 none (some 12)
    have m13 := okS.mul (k := 13) h4 (by decide)
    have m20 := okS.mul (k := 20) h4 (by decide)
    walk_at "s"
    refine ⟨hzl, ?_⟩
    walk_at "s"
    refine ⟨mulOk_small (by decide) (by decide) (by have := h4.1; omega), ?_⟩
    walk_at "s"
    refine ⟨szl (Nat.le_trans h3.1 (by decide)), ?_⟩
    walk_at "s"
    refine ⟨hzl, ?_⟩
    walk_at "s"
    refine ⟨mulOk_small (by decide) (by decide) (by have := h4.1; omega), ?_⟩
    walk_at "s"
    refine ⟨szl (Nat.le_trans h3.1 (by decide)), ?_⟩
    walk_at "s"
    refine ⟨(by show 7 ≤ sizeLine; decide), fun l hl => ?_⟩
    walk_at "s"
    obtain ⟨v, hv, hm⟩ := atI_mem (xs := [V.str (Str.ofString ""), V.str (Txt.mul (cutS z none (some 1)) 13), V.str (cutS (cutS z none (some (c / 7 % 12)) ++ ⟨#[sg]⟩ ++ cutS (cutS z (some (c / 7 % 12)) none) none (some 11)) none (some 12)), V.non, V.int 5, V.str (Txt.mul (cutS z none (some 1)) 20), V.str (cutS (cutS z none (some (c / 7 % 12)) ++ ⟨#[sg]⟩ ++ cutS (cutS z (some (c / 7 % 12)) none) none (some 11)) none (some 12))]) (i := c % 7) (by omega) (by show c % 7 < 7; omega)
    have l1 : (cutS z none (some 1)).length ≤ 1 := cut_to z 1
    have n13 : isP (.str (Txt.mul (cutS z none (some 1)) 13)) = false := isP_many (n := 13) l1 (by decide)
    have n20 : isP (.str (Txt.mul (cutS z none (some 1)) 20)) = false := isP_many (n := 20) l1 (by decide)
    have nod : isP (.str (cutS (cutS z none (some (c / 7 % 12)) ++ ⟨#[sg]⟩ ++ cutS (cutS z (some (c / 7 % 12)) none) none (some 11)) none (some 12))) = false := by
      obtain ⟨k, hk, hk2⟩ : ∃ k : Nat, c / 7 % 12 = (k : Int) ∧ k < 12 := ⟨(c / 7 % 12).toNat, by omega, by omega⟩
      rw [hk]
      refine isP_odd (c := sg) ?_ hsgo
      rw [show (12 : Int) = ((12 : Nat) : Int) from rfl, cut_takeN, cps_app, cps_app, cut_takeN]
      exact mem_take12 (by rw [List.length_take]; omega)
    have both : thing v ∧ isP v = false := ?_
    exact ⟨_, _, _, _, rfl, rfl, SqL.of upd_same, hv, q _ _ both.1 both.2 (same_new hl)⟩
    simp only [List.mem_cons, List.not_mem_nil, or_false] at hm
    rcases hm with e | e | e | e | e | e | e
    · exact ⟨.inr (.inr ⟨_, e, by decide, by decide +kernel⟩), by rw [e]; rfl⟩
    · exact ⟨.inr (.inr ⟨_, e, m13.mono (by decide)⟩), by rw [e]; exact n13⟩
    · exact ⟨.inr (.inr ⟨_, e, h5.mono (by decide)⟩), by rw [e]; exact nod⟩
    · exact ⟨.inl e, by rw [e]; rfl⟩
    · exact ⟨.inr (.inl e), by rw [e]; rfl⟩
    · exact ⟨.inr (.inr ⟨_, e, m20.mono (by decide)⟩), by rw [e]; exact n20⟩
    · exact ⟨.inr (.inr ⟨_, e, h5.mono (by decide)⟩), by rw [e]; exact nod⟩
theorem ok_row {f : Addr} {fd : FuncData} (F : Fun K "_law_row" "_law_row" s__law_row f fd) (T : Txt K mg a) (D_cell_at : Dn Pg w K mg base 1 "_law_cell_at" ["_law_script", "_law_k"] (spCell K)) (D_place : Dn Pg w K mg base 1 "_law_place" ["_law_cell"] spPlace) : FnOk Pg w K mg base (L2N.CX Pg w) 2 f fd ["_law_script"] (spRow K) := by
  refine F.okN sc__law_row (fun vs H Q E h => ?_) (fun cdv A outer s H vs Q E hr h => ?_)
  · obtain ⟨l, ns, rfl, _⟩ := h
    rfl
  · obtain ⟨l, ns, rfl, hs, q⟩ := h
    have PO : PassesOwn (model Pg w) (A.deeper (envOfC "_law_row" (defScope s__law_row) s.heap.objs.size f cdv)) (envOfC "_law_row" (defScope s__law_row) s.heap.objs.size f cdv) (cxOf (L2N.CX Pg w) Pg w K mg base N__law_row "_law_row" (defScope s__law_row) f cdv A outer s H E).xe := passes_of rfl
    refine ⟨_, (pss_cons (ps_set (i := 1) sc__law_row.nd rfl (by first | exact Or.inl rfl | exact Or.inr rfl) (pe_op op_mod (pe_fnS D_cell_at (hr.mono (by decide)) passC (pa_cons (pv 0) (pa_cons pe_int pa_nil))) pe_int))
      (C8.pss_cut (ps_if (pt_cmpR op_eq (pe_op op_mod (pe_op op_fdiv (pe_fnS D_cell_at (hr.mono (by decide)) passC (pa_cons (pv 0) (pa_cons pe_int pa_nil))) pe_int) pe_int) pe_int (nomark _)) (pss_one (ps_set (i := 1) sc__law_row.nd rfl (by first | exact Or.inl rfl | exact Or.inr rfl) (pe_ix ix_list (pe_lst (pa_cons pe_int (pa_cons pe_int (pa_cons pe_int (pa_cons pe_int (pa_cons pe_int (pa_cons pe_int pa_nil))))))) (pe_op op_mod (pe_op op_fdiv (pe_fnS D_cell_at (hr.mono (by decide)) passC (pa_cons (pv 0) (pa_cons pe_int pa_nil))) pe_int) pe_int) (fun _ _ => rfl)))) pss_nil)
      (pss_cons (ps_set (i := 2) sc__law_row.nd rfl (by first | exact Or.inl rfl | exact Or.inr rfl) (pe_lst pa_nil))
      (pss_cons (ps_for PO rfl (pi_range1 (by rfl) T.n_range (pa_cons (pv 1) pa_nil)) (pg_name (i := 3) sc__law_row.nd rfl (by first | exact Or.inl rfl | exact Or.inr rfl))
        (pss_cons (ps_set (i := 4) sc__law_row.nd rfl (by first | exact Or.inl rfl | exact Or.inr rfl) (pe_fnS D_place (hr.mono (by decide)) passC (pa_cons (pe_op op_add (pe_fnS D_cell_at (hr.mono (by decide)) passC (pa_cons (pv 0) (pa_cons (pe_op op_add pe_int (pe_op op_mod (pv 3) pe_int)) pa_nil))) (pe_op op_mul pe_int (pe_op op_fdiv (pv 3) pe_int))) pa_nil)))
          (C8.pss_cut (ps_if (PW.pt (pw_and (pt_cmpR op_gt (pv 3) pe_int (nomark _)) (pw_and1 (pt_cmpR op_eq (pv 4) (pe_ix ix_list (pv 2) (pe_op op_sub (pv 3) pe_int) (fun _ _ => rfl)) (nomark _))))) (pss_one (ps_set (i := 4) sc__law_row.nd rfl (by first | exact Or.inl rfl | exact Or.inr rfl) (pe_ix ix_list (pe_lst (pa_cons pe_str (pa_cons pe_str pa_nil))) (pe_callTy call_int1 (by rfl) T.n_int (by decide +kernel) (pa_cons (pe_cmpR op_eq (pv 4) pe_str (nomark _)) pa_nil)) (fun _ _ => rfl)))) pss_nil)
          (pss_one (ps_expr (pe_bm PySem.F.plainAttrs_list PySem.F.slot_list_append PySem.F.type_list_append mt_append (pv 2) (pa_cons (pv 4) pa_nil)))))))
      (pss_one (ps_ret (pv 2))))))), ?_⟩
    walk_at "s"
    refine ⟨fun σ1 H1 => ∃ z : Int, 0 ≤ z ∧ z ≤ 42 ∧ Same H H1 ∧ σ1 = [some (.ref l), some (.int z), none, none, none], ?_, ?_⟩
    · walk_at "s"
      refine ifD (fun c1 => ?_) (fun c1 => ?_)
      · walk_at "s"
        refine ⟨(by show 6 ≤ sizeLine; decide), fun lx hlx => ?_⟩
        have hs1 : SqL K (upd H lx (.lst [.int 0, .int 1, .int 2, .int 39, .int 40, .int 41])) l (ns.map V.int) := (same_new hlx).seq hs
        walk_at "s"
        obtain ⟨v, hv, hm⟩ := atI_mem (xs := [V.int 0, .int 1, .int 2, .int 39, .int 40, .int 41]) (i := cel ns 0 / 129 % 6) (by omega) (by show cel ns 0 / 129 % 6 < 6; omega)
        refine ⟨_, _, _, _, rfl, rfl, SqL.of upd_same, hv, ?_⟩
        simp only [List.mem_cons, List.not_mem_nil, or_false] at hm
        rcases hm with e | e | e | e | e | e <;> (subst e; exact ⟨_, by decide, by decide, same_new hlx, rfl⟩)
      · exact ⟨_, by omega, by omega, Same.refl _, rfl⟩
    · rintro σ1 H1 ⟨z, hz0, hz1, s1, rfl⟩
      walk_at "s"
      refine ⟨Nat.zero_le _, fun p hp => ?_⟩
      have hp0 : H p = none := s1.free hp
      walk_at "s"
      refine ⟨by omega, by omega, ?_⟩
      refine for_range (fun i σ H' => ∃ xs kv nv, σ = [some (.ref l), some (.int z), some (.ref p), kv, nv] ∧ Same H H' ∧ H' p = some (.lst xs) ∧ xs.length = i ∧ ∀ v ∈ xs, ∃ z, v = .str z ∧ okS 12 z) ⟨[], none, none, rfl, same_mut s1 hp0, upd_same, rfl, fun v hv => by cases hv⟩ ?_ ?_
      · rintro i σ H2 hi ⟨xs, kv, nv, rfl, s2, hpx, hl, hx⟩
        have hs2 : SqL K H2 l (ns.map V.int) := s2.seq hs
        walk_at "s"
        refine ⟨mulSmall (by decide) (by decide), ?_⟩
        walk_at "s"
        intro nm H3 hnm s3
        have hpx3 := s3 _ _ hpx
        refine ⟨fun σ H' => ∃ nm, okS 12 nm ∧ σ = [some (.ref l), some (.int z), some (.ref p), some (.int (0 + i)), some (.str nm)] ∧ Same H H' ∧ H' p = some (.lst xs), ?_, ?_⟩
        · walk_at "s"
          refine ifD (fun c1 => ?_) (fun c1 => ?_)
          · walk_at "s"
            obtain ⟨v, hv, hm⟩ := atI_mem (xs := xs) (i := 0 + (i : Int) - 1) (by omega) (by omega)
            obtain ⟨zv, rfl, hzv⟩ := hx v hm
            refine ⟨_, _, _, _, rfl, rfl, SqL.of hpx3, hv, rfl, ?_⟩
            walk_at "s"
            refine ifD (fun c2 => ?_) (fun c2 => ?_)
            · walk_at "s"
              refine ⟨(by show 2 ≤ sizeLine; decide), fun lx hlx => ?_⟩
              walk_at "s"
              refine .inr ⟨_, rfl, ?_⟩
              have hpx4 : upd H3 lx (.lst [.str (Str.ofString "a"), .str (Str.ofString "b")]) p = some (.lst xs) := by rw [upd_ne (ne_of_none hpx3 hlx)]; exact hpx3
              have s4 := same_mut (o := .lst [.str (Str.ofString "a"), .str (Str.ofString "b")]) (Same.trans s2 s3) ((Same.trans s2 s3).free hlx)
              by_cases c3 : V.str nm = V.str (Str.ofString "a")
              · rw [decide_eq_true c3]
                exact ⟨_, _, 1, _, rfl, rfl, SqL.of upd_same, rfl, _, ⟨by decide, by decide +kernel⟩, rfl, s4, hpx4⟩
              · rw [decide_eq_false c3]
                exact ⟨_, _, 0, _, rfl, rfl, SqL.of upd_same, rfl, _, ⟨by decide, by decide +kernel⟩, rfl, s4, hpx4⟩
            · exact ⟨_, hnm, rfl, Same.trans s2 s3, hpx3⟩
          · walk_at "s"
            exact ⟨_, hnm, rfl, Same.trans s2 s3, hpx3⟩
        · rintro σ' H4 ⟨nm', hnm', rfl, s4, hpx4⟩
          refine ⟨_, rfl, .inl ⟨rfl, _, SqL.of hpx4⟩, _, rfl, _, _, _, rfl, rfl, hpx4, szlt (by omega), ?_⟩
          refine ⟨xs ++ [.str nm'], _, _, rfl, same_mut s4 hp0, upd_same, by rw [List.length_append]; simp [hl], fun v hv => ?_⟩
          rcases List.mem_append.mp hv with h1 | h1
          · exact hx v h1
          · exact ⟨nm', by simpa using h1, hnm'⟩
      · rintro σ H2 ⟨xs, kv, nv, rfl, s2, hpx, hl, hx⟩
        walk_at "s"
        exact q p H2 xs hp0 s2 hpx (by omega) hx
end
end Fb

namespace Fb
open PySem PySem.Spec PyProof.Rows L2
local macro_rules | `(tactic| walk_at "s") => `(tactic| repeat (first | refine ⟨_, rfl, ?_⟩ | refine ⟨_, _, rfl, rfl, ?_⟩ | refine ⟨_, _, rfl, Or.inl (by assumption), ?_⟩ | refine ⟨rfl, ?_⟩ | refine ⟨(by decide : (0 : Int) < _), ?_⟩ | refine ⟨⟨by decide, by decide⟩, ?_⟩ | refine ⟨_, _, _, rfl, (by assumption), (by first | decide | omega), ?_⟩))
def spLIsPlace : Sp := fun vs H Q _ => ∃ v : V, vs = [v] ∧ ask v ∧ ∀ H', Same H H' → Q (.bl (isP v)) H'
def spLIsPlaceE : SpE := fun _ _ vs H Q _ => ∃ v : V, vs = [v] ∧ ask v ∧ ∀ H', Same H H' → Q (.bl (isP v)) H'
def spDueE (K : PySem.W.Frag) : SpE := fun _ _ vs H Q _ => ∃ (l : Addr) (xs : List V), vs = [.ref l] ∧ SqL K H l xs ∧ xs.length ≤ 100 ∧ (∀ v ∈ xs, ask v) ∧ ∀ H', Same H H' → Q (.str (word (due xs))) H'
def spTariff (K : PySem.W.Frag) : Sp := fun vs H Q _ => ∃ (l : Addr) (xs : List V), vs = [.ref l] ∧ SqL K H l xs ∧ xs.length ≤ 100 ∧ (∀ v ∈ xs, ask v) ∧
  ∀ (p : Addr) (H' : Hp) (ts : List Addr) (rs : List Row), H p = none → Same H H' → H' p = some (.lst (ts.map V.ref)) → Paired (IsRow H') ts rs → GoodRows rs → rs.length ≤ 100 → Q (.ref p) H'
abbrev s__law_is_place : Stmt := topS 46
abbrev N__law_is_place : List Str := ["_law_thing", "_law_sign"]
theorem sc__law_is_place : FnScope N__law_is_place ["_law_thing"] (defScope s__law_is_place) := ⟨rfl, rfl, rfl, by decide +kernel, rfl, by decide +kernel, by decide +kernel⟩
abbrev s__law_due : Stmt := topS 47
abbrev N__law_due : List Str := ["_law_row_here", "_law_k"]
theorem sc__law_due : FnScope N__law_due ["_law_row_here"] (defScope s__law_due) := ⟨rfl, rfl, rfl, by decide +kernel, rfl, by decide +kernel, by decide +kernel⟩
abbrev s__law_tariff : Stmt := topS 48
abbrev N__law_tariff : List Str := ["_law_row_here", "_law_rows", "_law_k", "_law_one"]
theorem sc__law_tariff : FnScope N__law_tariff ["_law_row_here"] (defScope s__law_tariff) := ⟨rfl, rfl, rfl, by decide +kernel, rfl, by decide +kernel, by decide +kernel⟩
section
variable {Pg : Program} {w : World} {K : PySem.W.Frag} {mg : Str → Option Value} {base : Heap} {a : Ads}
theorem ok_lis_place {f : Addr} {fd : FuncData} (F : Fun K "_law_is_place" "_law_is_place" s__law_is_place f fd) (T : Txt K mg a) : FnOk Pg w K mg base (L2N.CX Pg w) 1 f fd ["_law_thing"] spLIsPlace := by
  refine F.okN sc__law_is_place (fun vs H Q E h => ?_) (fun cdv A outer s H vs Q E hr h => ?_)
  · obtain ⟨c, rfl, _⟩ := h
    rfl
  · obtain ⟨v, rfl, ha, q⟩ := h
    have q0 := q H (Same.refl H)
    refine ⟨_, (pss_cons (ps_if (PW.pt (pw_or (pt_not (pt_val (pe_callB call_isi (by rfl) T.n_isinstance (by decide +kernel) (pa_cons (pv 0) (pa_cons (pe_bty (n := "str") T.n_str (by decide +kernel)) pa_nil))))) (pw_or1 (pt_not (pt_chain op_le op_le pe_int (pe_callB call_len_str (by rfl) T.n_len (by decide +kernel) (pa_cons (pv 0) pa_nil)) pe_int))))) (pss_one (ps_ret pe_bl)) pss_nil)
      (pss_one (ps_ret (pe_cmpR (op_eqD hr.units) (pe_lc (own := [("_law_sign", 1)]) (g := (gName 1)) (tt := _) rfl sc__law_is_place.nd (pi_str (pv 0)) (blkOk_by (own := [("_law_sign", 1)]) (N := N__law_is_place) (sc := (defScope s__law_is_place)) (by decide +kernel)) (fun _ _ _ _ _ => (pg_name (i := 1) sc__law_is_place.nd rfl (by first | exact Or.inl rfl | exact Or.inr rfl))) (fun _ _ _ _ _ => pts_one (pt_cmpR op_notIn_sign (pv 1) pe_str rfl)) (fun _ _ _ _ _ => (pv 1))) (pe_lstN pa_nil) (nomark _))))), ?_⟩
    rcases ha with rfl | ⟨b, rfl⟩ | ⟨i, rfl⟩ | ⟨z, rfl, hz⟩
    · walk_at "s"
      exact ⟨_, _, _, _, false, rfl, .ty "str", .base .non, kit_ty (by decide +kernel), _, rfl, q0⟩
    · walk_at "s"
      exact ⟨_, _, _, _, false, rfl, .ty "str", .base (.bl b), kit_ty (by decide +kernel), _, rfl, q0⟩
    · walk_at "s"
      exact ⟨_, _, _, _, false, rfl, .ty "str", .base (.int i), kit_ty (by decide +kernel), _, rfl, q0⟩
    · walk_at "s"
      refine ⟨_, _, _, _, true, rfl, .ty "str", .base (.str z), kit_ty (by decide +kernel), _, rfl, ?_⟩
      walk_at "s"
      refine ⟨szl (Nat.le_trans hz.1 (by decide)), ?_⟩
      walk_at "s"
      refine ifD (fun c1 => ?_) (fun c1 => ?_)
      · walk_at "s"
        refine ifND (fun c2 => ?_) (fun c2 => ?_)
        · rw [isP_long c2] at q0
          exact q0
        · walk_at "s"
          intro D hD
          refine lc_signs (fun c => !letter c) hD hz.1 (fun v => rfl) (fun c H2 s2 Q2 q2 => ?_) (fun c H2 s2 Q2 q2 => ⟨_, rfl, q2⟩) (fun H2 s2 hDl => ?_)
          · rw [← notin_letter] at q2
            exact ⟨_, rfl, _, _, rfl, rfl, _, rfl, q2⟩
          · walk_at "s"
            refine ⟨Nat.zero_le _, fun D2 H3 hD2 s3 h3 => ?_⟩
            have hf := flat_signs (l := z.cps.toList.filter fun c => !letter c) fun c hc => hz.2 c (List.mem_filter.mp hc).1
            refine ⟨_, .list [], .lst (SqL.of (s3 _ _ hDl)) (dpAll_flat hf), .lst (SqL.of h3) .nil, shaped_list hf, shaped_list (xs := []) (fun v hv => by cases hv), ?_⟩
            rw [eqv_nil, isEmpty_all, ← isP_mid c1 c2]
            exact q _ (Same.trans s2 s3)
      · walk_at "s"
        refine ifT1 ?_
        rw [isP_short c1] at q0
        exact q0
theorem ok_lis_placeE {f : Addr} {fd : FuncData} (F : Fun K "_law_is_place" "_law_is_place" s__law_is_place f fd) (T : Txt K mg a) : FnE Pg w K mg base 1 f fd ["_law_thing"] spLIsPlaceE := by
  refine okE F sc__law_is_place (fun e C vs H Q E h => ?_) (fun cdv A outer s H vs Q E p C hh er hr h => ?_)
  · obtain ⟨c, rfl, _⟩ := h
    rfl
  · obtain ⟨v, rfl, ha, q⟩ := h
    have q0 := q H (Same.refl H)
    refine ⟨_, (pss_cons (ps_if (PW.pt (pw_or (pt_not (pt_val (pe_callB call_isi (by rfl) T.n_isinstance (by decide +kernel) (pa_cons (pv 0) (pa_cons (pe_bty (n := "str") T.n_str (by decide +kernel)) pa_nil))))) (pw_or1 (pt_not (pt_chain op_le op_le pe_int (pe_callB call_len_str (by rfl) T.n_len (by decide +kernel) (pa_cons (pv 0) pa_nil)) pe_int))))) (pss_one (ps_ret pe_bl)) pss_nil)
      (pss_one (ps_ret (pe_cmpR (op_eqD (hotU hr)) (pe_lcH (own := [("_law_sign", 1)]) (g := (gName 1)) (tt := _) ⟨p, ⟨hh, er.ctx⟩, List.mem_cons_self⟩ sc__law_is_place.nd (pi_strA (pv 0)) (blkOk_by (own := [("_law_sign", 1)]) (N := N__law_is_place) (sc := (defScope s__law_is_place)) (by decide +kernel)) (fun _ _ _ _ _ hi => (pg_name (i := 1) sc__law_is_place.nd rfl (by first | exact Or.inl rfl | exact Or.inr rfl))) (fun _ _ _ _ _ hi => pts_one (pt_cmpR op_notIn_sign (pv 1) pe_str rfl)) (fun _ _ _ _ _ hi => (pv 1))) (pe_lstN pa_nil) (nomark _))))), ?_⟩
    rcases ha with rfl | ⟨b, rfl⟩ | ⟨i, rfl⟩ | ⟨z, rfl, hz⟩
    · walk_at "s"
      exact ⟨_, _, _, _, false, rfl, .ty "str", .base .non, kit_ty (by decide +kernel), _, rfl, q0⟩
    · walk_at "s"
      exact ⟨_, _, _, _, false, rfl, .ty "str", .base (.bl b), kit_ty (by decide +kernel), _, rfl, q0⟩
    · walk_at "s"
      exact ⟨_, _, _, _, false, rfl, .ty "str", .base (.int i), kit_ty (by decide +kernel), _, rfl, q0⟩
    · walk_at "s"
      refine ⟨_, _, _, _, true, rfl, .ty "str", .base (.str z), kit_ty (by decide +kernel), _, rfl, ?_⟩
      walk_at "s"
      refine ⟨szl (Nat.le_trans hz.1 (by decide)), ?_⟩
      walk_at "s"
      refine ifD (fun c1 => ?_) (fun c1 => ?_)
      · walk_at "s"
        refine ifND (fun c2 => ?_) (fun c2 => ?_)
        · rw [isP_long c2] at q0
          exact q0
        · walk_at "s"
          intro D hD
          refine lc_signs (fun c => !letter c) hD hz.1 (fun v => rfl) (fun c H2 s2 Q2 q2 => ?_) (fun c H2 s2 Q2 q2 => ⟨_, rfl, q2⟩) (fun H2 s2 hDl => ?_)
          · rw [← notin_letter] at q2
            exact ⟨_, rfl, _, _, rfl, rfl, _, rfl, q2⟩
          · walk_at "s"
            refine ⟨Nat.zero_le _, fun D2 H3 hD2 s3 h3 => ?_⟩
            have hf := flat_signs (l := z.cps.toList.filter fun c => !letter c) fun c hc => hz.2 c (List.mem_filter.mp hc).1
            refine ⟨_, .list [], .lst (SqL.of (s3 _ _ hDl)) (dpAll_flat hf), .lst (SqL.of h3) .nil, shaped_list hf, shaped_list (xs := []) (fun v hv => by cases hv), ?_⟩
            rw [eqv_nil, isEmpty_all, ← isP_mid c1 c2]
            exact q _ (Same.trans s2 s3)
      · walk_at "s"
        refine ifT1 ?_
        rw [isP_short c1] at q0
        exact q0
theorem ok_dueE {f : Addr} {fd : FuncData} (F : Fun K "_law_due" "_law_due" s__law_due f fd) (T : Txt K mg a) (D_law_is_placeE : DnE Pg w K mg base 1 "_law_is_place" ["_law_thing"] spLIsPlaceE) : FnE Pg w K mg base 2 f fd ["_law_row_here"] (spDueE K) := by
  refine okE F sc__law_due (fun e C vs H Q E h => ?_) (fun cdv A outer s H vs Q E p C hh er hr h => ?_)
  · obtain ⟨c, _, rfl, _⟩ := h
    rfl
  · obtain ⟨l, xs, rfl, hs, hlen, hask, q⟩ := h
    have PO : PassesOwn (model Pg w) (A.deeper (envOfC "_law_due" (defScope s__law_due) s.heap.objs.size f cdv)) (envOfC "_law_due" (defScope s__law_due) s.heap.objs.size f cdv) (L2H.cxH (L2N.CX Pg w) Pg w K mg base N__law_due "_law_due" (defScope s__law_due) f cdv A outer s H E p).xe := passes_of rfl
    refine ⟨_, (pss_cons (ps_if (pt_not (pt_chain op_le op_le pe_int (pe_callB call_len_seq (by rfl) T.n_len (by decide +kernel) (pa_cons (pv 0) pa_nil)) pe_int)) (pss_one (ps_ret pe_str)) pss_nil)
      (pss_cons (L2H.ps_forH PO ⟨p, ⟨hh, er.ctx⟩, List.mem_cons_self⟩ (L2H.pi_range1H (by rfl) T.n_range (pa_cons (pe_callB call_len_seq (by rfl) T.n_len (by decide +kernel) (pa_cons (pv 0) pa_nil)) pa_nil)) (pg_name (i := 1) sc__law_due.nd rfl (by first | exact Or.inl rfl | exact Or.inr rfl))
        (pss_cons (ps_if (pt_not (pt_val (pe_fnE1 D_law_is_placeE (hr.mono (by decide)) List.mem_cons_self hh er passC (pa_cons (pe_ix ix_list (pv 0) (pv 1) (fun _ _ => rfl)) pa_nil)))) (pss_one (ps_ret pe_str)) pss_nil)
          (pss_one (ps_if (PW.pt (pw_and (pt_cmpR op_gt (pv 1) pe_int (nomark _)) (pw_and1 (pt_cmpR op_eq (pe_ix ix_list (pv 0) (pv 1) (fun _ _ => rfl)) (pe_ix ix_list (pv 0) (pe_op op_sub (pv 1) pe_int) (fun _ _ => rfl)) (nomark _))))) (pss_one (ps_ret pe_str)) pss_nil))))
      (pss_one (ps_ret pe_str)))), ?_⟩
    walk_at "s"
    refine ifD (fun c1 => ?_) (fun c1 => ?_)
    · walk_at "s"
      refine ifND (fun c2 => ?_) (fun c2 => ?_)
      · have e := due_out (xs := xs) (fun z => by omega)
        rw [e] at q
        exact q _ (Same.refl _)
      · walk_at "s"
        refine ⟨by omega, by omega, ?_⟩
        have e0 := due_in (xs := xs) (by omega) (by omega)
        refine for_range (fun i σ H' => ∃ kv, σ = [some (.ref l), kv] ∧ Same H H' ∧ dueAt xs i = due xs) ⟨none, rfl, Same.refl _, e0.symm⟩ ?_ ?_
        · rintro i σ H2 hi ⟨kv, rfl, s2, hd⟩
          have hil : i < xs.length := by omega
          have hs2 : SqL K H2 l xs := s2.seq hs
          have hx : xs[i]? = some xs[i] := List.getElem?_eq_getElem hil
          have hax := hask _ (List.getElem_mem hil)
          walk_at "s"
          refine ⟨_, _, _, _, rfl, rfl, hs2, atI_of (by omega) (by rw [show (0 + (i : Int)).toNat = i by omega]; exact hx), _, rfl, hax, fun H3 s3 => ?_⟩
          have hs3 : SqL K H3 l xs := s3.seq hs2
          walk_at "s"
          refine ifNB (fun c3 => ?_) (fun c3 => ?_)
          · have e1 := due_place hx c3
            rw [hd] at e1
            rw [e1] at q
            exact q _ (Same.trans s2 s3)
          · walk_at "s"
            refine ifD (fun c4 => ?_) (fun c4 => ?_)
            · walk_at "s"
              have hil2 : i - 1 < xs.length := by omega
              have hx2 : xs[i - 1]? = some xs[i - 1] := List.getElem?_eq_getElem hil2
              obtain ⟨z, hz⟩ := isP_str c3
              refine ⟨_, _, _, _, rfl, rfl, hs3, atI_of (by omega) (by rw [show (0 + (i : Int)).toNat = i by omega]; exact hx), ?_⟩
              walk_at "s"
              refine ⟨_, _, _, _, rfl, rfl, hs3, atI_of (by omega) (by rw [show (0 + (i : Int) - 1).toNat = i - 1 by omega]; exact hx2), (by rw [hz]; exact scal_str (hask _ (List.getElem_mem hil2))), ?_⟩
              walk_at "s"
              refine ifD (fun c5 => ?_) (fun c5 => ?_)
              · have e1 := due_same hx c3 (by omega) (by rw [hx2, c5])
                rw [hd] at e1
                rw [e1] at q
                exact q _ (Same.trans s2 s3)
              · exact ⟨_, rfl, Same.trans s2 s3, by rw [← hd]; exact (due_go hx c3 fun _ e => c5 (by rw [hx2] at e; exact (Option.some.inj e).symm)).symm⟩
            · exact ⟨_, rfl, Same.trans s2 s3, by rw [← hd]; exact (due_go hx c3 fun h0 => by omega).symm⟩
        · rintro σ H2 ⟨kv, rfl, s2, hd⟩
          have e1 : due xs = 0 := by
            rw [← hd]
            have e2 : (Int.toNat (xs.length : Int)) = xs.length := by omega
            rw [e2]; exact dueAt_end xs
          rw [e1] at q
          exact q _ s2
    · walk_at "s"
      refine ifT1 ?_
      have e := due_out (xs := xs) (fun z => by omega)
      rw [e] at q
      exact q _ (Same.refl _)

theorem ok_tariff {f : Addr} {fd : FuncData} (F : Fun K "_law_tariff" "_law_tariff" s__law_tariff f fd) (T : Txt K mg a) (D_law_is_place : Dn Pg w K mg base 1 "_law_is_place" ["_law_thing"] spLIsPlace) : FnOk Pg w K mg base (L2N.CX Pg w) 2 f fd ["_law_row_here"] (spTariff K) := by
  refine F.okN sc__law_tariff (fun vs H Q E h => ?_) (fun cdv A outer s H vs Q E hr h => ?_)
  · obtain ⟨_, _, rfl, _⟩ := h
    rfl
  · obtain ⟨l, xs, rfl, hs, hlen, hask, q⟩ := h
    have PO : PassesOwn (model Pg w) (A.deeper (envOfC "_law_tariff" (defScope s__law_tariff) s.heap.objs.size f cdv)) (envOfC "_law_tariff" (defScope s__law_tariff) s.heap.objs.size f cdv) (cxOf (L2N.CX Pg w) Pg w K mg base N__law_tariff "_law_tariff" (defScope s__law_tariff) f cdv A outer s H E).xe := passes_of rfl
    refine ⟨_, (pss_cons (ps_set (i := 1) sc__law_tariff.nd rfl (by first | exact Or.inl rfl | exact Or.inr rfl) (pe_lstN pa_nil))
      (pss_cons (ps_for PO rfl (pi_range2 (by rfl) T.n_range (pa_cons pe_int (pa_cons (pe_callB call_len_seq (by rfl) T.n_len (by decide +kernel) (pa_cons (pv 0) pa_nil)) pa_nil))) (pg_name (i := 2) sc__law_tariff.nd rfl (by first | exact Or.inl rfl | exact Or.inr rfl))
        (pss_one (ps_if (PW.pt (pw_and (pt_val (pe_fnS D_law_is_place (hr.mono (by decide)) passC (pa_cons (pe_ix ix_list (pv 0) (pv 2) (fun _ _ => rfl)) pa_nil))) (pw_and (pt_val (pe_fnS D_law_is_place (hr.mono (by decide)) passC (pa_cons (pe_ix ix_list (pv 0) (pe_op op_sub (pv 2) pe_int) (fun _ _ => rfl)) pa_nil))) (pw_and1 (pt_cmpR op_ne (pe_ix ix_list (pv 0) (pv 2) (fun _ _ => rfl)) (pe_ix ix_list (pv 0) (pe_op op_sub (pv 2) pe_int) (fun _ _ => rfl)) (nomark _)))))) (pss_one (ps_if (pt_cmpR (op_eqD hr.units) (pe_lc (own := [("_law_one", 3)]) (g := (gName 3)) (tt := _) rfl sc__law_tariff.nd (pi_list (pv 1)) (blkOk_by (own := [("_law_one", 3)]) (N := N__law_tariff) (sc := (defScope s__law_tariff)) (by decide +kernel)) (fun _ _ _ _ _ => (pg_name (i := 3) sc__law_tariff.nd rfl (by first | exact Or.inl rfl | exact Or.inr rfl))) (fun _ _ _ _ _ => pts_one (PW.pt (pw_and (pt_cmpR op_eq (pe_ix (ix_tupS (K := K)) (pv 3) pe_int (fun _ _ => rfl)) (pe_ix (ix_listS (K := K)) (pv 0) (pe_op op_sub (pv 2) pe_int) (fun _ _ => rfl)) (nomark _)) (pw_and1 (pt_cmpR op_eq (pe_ix (ix_tupS (K := K)) (pv 3) pe_int (fun _ _ => rfl)) (pe_ix (ix_listS (K := K)) (pv 0) (pv 2) (fun _ _ => rfl)) (nomark _)))))) (fun _ _ _ _ _ => pe_int)) (pe_lstN pa_nil) (nomark _)) (pss_one (ps_expr (pe_bm PySem.F.plainAttrs_list PySem.F.slot_list_append PySem.F.type_list_append mt_appendN (pv 1) (pa_cons (pe_tupN (pa_cons (pe_ix ix_list (pv 0) (pe_op op_sub (pv 2) pe_int) (fun _ _ => rfl)) (pa_cons (pe_ix ix_list (pv 0) (pv 2) (fun _ _ => rfl)) (pa_cons (pe_op op_mul pe_int (pv 2)) pa_nil)))) pa_nil)))) pss_nil)) pss_nil)))
      (pss_one (ps_ret (pv 1))))), ?_⟩
    refine ⟨by decide, fun p H1 hp s1 h1 => ?_⟩
    have hs1 := s1.seq hs
    walk_at "s"
    refine ⟨_, _, rfl, ⟨by omega, by omega, by omega, by omega⟩, ?_⟩
    refine for_range (fun i σ H' => ∃ v2 v3 ts rs, σ = [some (.ref l), some (.ref p), v2, v3] ∧ Same H H' ∧ H' p = some (.lst (ts.map V.ref)) ∧ Paired (IsRow H') ts rs ∧ GoodRows rs ∧ rs.length ≤ i) ⟨none, none, [], [], rfl, s1, h1, .nil, ⟨(fun r hr => by cases hr), List.nodup_nil⟩, Nat.le_refl _⟩ ?_ ?_
    · rintro i σ H2 hi ⟨v2, v3, ts, rs, rfl, s2, hpl, hpr, hg, hl⟩
      have hs2 := s2.seq hs
      have hi1 : i + 1 < xs.length := by omega
      have at1 : atI xs (1 + (i : Int)) = some xs[i + 1] := atI_of (by omega) (by rw [show (1 + (i : Int)).toNat = i + 1 by omega]; exact List.getElem?_eq_getElem hi1)
      have at0 : atI xs (1 + (i : Int) - 1) = some xs[i] := atI_of (by omega) (by rw [show (1 + (i : Int) - 1).toNat = i by omega]; exact List.getElem?_eq_getElem (by omega))
      have ak1 := hask _ (List.getElem_mem hi1)
      have ak0 := hask _ (List.getElem_mem (show i < xs.length by omega))
      revert at1 at0 ak1 ak0
      generalize xs[i + 1] = x1
      generalize xs[i] = x0
      intro at1 at0 ak1 ak0
      have stop : ∀ H' v3', Same H2 H' → ∃ v2 v3 ts rs, ([some (V.ref l), some (.ref p), some (.int (1 + (i : Int))), v3'] : L2.St) = [some (.ref l), some (.ref p), v2, v3] ∧ Same H H' ∧ H' p = some (.lst (ts.map V.ref)) ∧ Paired (IsRow H') ts rs ∧ GoodRows rs ∧ rs.length ≤ i + 1 := fun H' v3' s3 => ⟨_, _, ts, rs, rfl, Same.trans s2 s3, s3 _ _ hpl, rows_same s3 hpr, hg, by omega⟩
      walk_at "s"
      refine ⟨_, _, _, _, rfl, rfl, hs2, at1, ?_⟩
      refine ⟨_, rfl, ak1, fun H3 s3 => ?_⟩
      walk_at "s"
      refine ifB (fun c1 => ?_) (fun c1 => stop _ _ s3)
      have hs3 := s3.seq hs2
      walk_at "s"
      refine ⟨_, _, _, _, rfl, rfl, hs3, at0, ?_⟩
      refine ⟨_, rfl, ak0, fun H4 s4 => ?_⟩
      walk_at "s"
      have s34 := Same.trans s3 s4
      refine ifB (fun c2 => ?_) (fun c2 => stop _ _ s34)
      obtain ⟨z1, rfl⟩ := isP_str c1
      obtain ⟨z0, rfl⟩ := isP_str c2
      have hs4 := s4.seq hs3
      walk_at "s"
      refine ⟨_, _, _, _, rfl, rfl, hs4, at1, ?_⟩
      walk_at "s"
      refine ⟨_, _, _, _, rfl, rfl, hs4, at0, ?_⟩
      walk_at "s"
      refine ifND (fun c3 => ?_) (fun c3 => stop _ _ s34)
      have hpl4 := s34 _ _ hpl
      have hpr4 := rows_same s34 hpr
      have lts := Paired.length hpr
      walk_at "s"
      refine ⟨⟨_, SqL.of hpl4⟩, fun D hD => ?_⟩
      refine lc_pick (K := K) (xs := ts.map V.ref) (hitR rs z0 z1) (fun _ => .int 1) hD (SqL.of hpl4) (by rw [List.length_map]; omega) (fun v => rfl) ?_ ?_ ?_
      · intro i2 x H5 hi2 s5 Q2 q2
        rw [List.getElem?_map] at hi2
        obtain ⟨u, hu1, rfl⟩ := Option.map_eq_some_iff.mp hi2
        obtain ⟨rr, hr1, hrow⟩ := paired_at hpr4 hu1
        have hrow5 := s5 _ _ hrow
        have hs5 := s5.seq hs4
        rw [hitR_at hr1] at q2
        walk_at "s"
        refine ⟨_, _, _, _, rfl, rfl, SqT.of hrow5, rfl, ?_⟩
        walk_at "s"
        refine ⟨_, _, _, _, rfl, rfl, hs5, at0, ?_⟩
        walk_at "s"
        refine ifD (fun d1 => ?_) (fun d1 => ?_)
        · rw [decide_eq_true (V.str.inj d1), Bool.true_and] at q2
          walk_at "s"
          refine ⟨_, _, _, _, rfl, rfl, SqT.of hrow5, rfl, ?_⟩
          walk_at "s"
          refine ⟨_, _, _, _, rfl, rfl, hs5, at1, ?_⟩
          walk_at "s"
          rw [show decide (V.str rr.2.1 = V.str z1) = decide (rr.2.1 = z1) from decide_eq_decide.mpr ⟨V.str.inj, fun e => congrArg V.str e⟩]
          exact q2 _ (Same.refl _)
        · rw [decide_eq_false (fun e => d1 (congrArg V.str e)), Bool.false_and] at q2
          exact q2 _ (Same.refl _)
      · intro i2 x H5 hi2 s5 Q2 q2
        exact q2 _ (Same.refl _)
      · intro H5 s5 hDl
        rw [List.length_map, lts] at hDl
        walk_at "s"
        refine ⟨Nat.zero_le _, fun D2 H6 hD2 s6 h6 => ?_⟩
        have hf : ∀ v ∈ pick (hitR rs z0 z1) (fun _ => V.int 1) rs.length, flat v := fun v hv => by
          obtain ⟨_, _, rfl⟩ := List.mem_map.mp hv
          exact .inr (.inr (.inl ⟨_, rfl⟩))
        refine ⟨_, .list [], .lst (SqL.of (s6 _ _ hDl)) (dpAll_flat hf), .lst (SqL.of h6) .nil, shaped_list hf, shaped_list (xs := []) (fun v hv => by cases hv), ?_⟩
        have s36 := Same.trans s34 (Same.trans s5 s6)
        rw [eqv_nil, told_pick]
        walk_at "s"
        refine ifNB (fun c5 => ?_) (fun c5 => stop _ _ s36)
        have hs6 := s36.seq hs2
        have hpl6 := s36 _ _ hpl
        have hpr6 := rows_same s36 hpr
        walk_at "s"
        refine ⟨.inl ⟨rfl, _, SqL.of hpl6⟩, ?_⟩
        walk_at "s"
        refine ⟨_, _, _, _, rfl, rfl, hs6, at0, ?_⟩
        walk_at "s"
        refine ⟨_, _, _, _, rfl, rfl, hs6, at1, ?_⟩
        walk_at "s"
        refine ⟨mulSmall (by decide) (by decide), ?_⟩
        refine ⟨(by simp), fun t H7 ht s7 h7 => ?_⟩
        have hpl7 := s7 _ _ hpl6
        refine ⟨_, _, _, rfl, rfl, hpl7, by rw [List.length_map]; omega, fun H8 s8 h8 => ?_⟩
        have hnew : (z0, z1) ∉ rs.map fun r => (r.1, r.2.1) := fun hm => by rw [told_iff.mpr hm] at c5; cases c5
        have gr : GoodRow (z0, z1, 3 * (1 + (i : Int))) := ⟨c2, c1, fun e => c3 (congrArg V.str e.symm), by
          show (decide (0 ≤ 3 * (1 + (i : Int))) && decide (3 * (1 + (i : Int)) ≤ 1000000000000)) = true
          rw [decide_eq_true (by omega), decide_eq_true (by omega)]; rfl⟩
        refine ⟨_, _, ts ++ [t], rs ++ [(z0, z1, 3 * (1 + (i : Int)))], rfl, same_mutB (Same.trans s2 (Same.trans s36 s7)) hp s8, by rw [h8]; simp, Paired.snoc (keep_rows s8 hpl7 (rows_same s7 hpr6)) (s8 _ _ (ne_lt hpl7 h7) h7), good_snoc hg gr hnew, by rw [List.length_append]; simp; omega⟩
    · rintro σ H2 ⟨v2, v3, ts, rs, rfl, s2, hpl, hpr, hg, hl⟩
      walk_at "s"
      exact q p H2 ts rs hp s2 hpl hpr hg (by omega)
end
end Fb

namespace Fb
open PySem PySem.Spec PyProof.Rows L2
local macro_rules | `(tactic| walk_at "s") => `(tactic| repeat (first | refine ⟨_, rfl, ?_⟩ | refine ⟨_, _, rfl, rfl, ?_⟩ | refine ⟨_, _, rfl, Or.inl (by assumption), ?_⟩ | refine ⟨rfl, ?_⟩ | refine ⟨(by decide : (0 : Int) < _), ?_⟩ | refine ⟨⟨by decide, by decide⟩, ?_⟩ | refine ⟨_, _, _, rfl, (by assumption), (by first | decide | omega), ?_⟩))
/-! ### the seven functions, handed what is no journey -/
def spBadJ (K : PySem.W.Frag) (a : Ads) (P : Addr) (n : Nat) : Sp := fun vs H _ E => ∃ (t l : Addr) (us : List V) (xs : List V), vs = .ref t :: .ref l :: us ∧ us.length + 2 = n ∧ SqL K H l xs ∧ xs.length ≤ 100 ∧ (∀ v ∈ xs, ask v) ∧ H P = some (TabO P) ∧ due xs ≠ 0 ∧ ∀ H', Same H H' → E (.ref (jerr a (due xs))) none H'
abbrev s_ways_on : Stmt := topS 33
abbrev N_ways_on : List Str := ["tariff", "places", "ends", "last", "ways", "at"]
theorem sc_ways_on : FnScope N_ways_on ["tariff", "places"] (defScope s_ways_on) := ⟨rfl, rfl, rfl, by decide +kernel, rfl, by decide +kernel, by decide +kernel⟩
abbrev s_fault : Stmt := topS 26
abbrev N_fault : List Str := ["tariff", "journey", "at", "to", "places"]
theorem sc_fault : FnScope N_fault ["tariff", "journey", "at", "to"] (defScope s_fault) := ⟨rfl, rfl, rfl, by decide +kernel, rfl, by decide +kernel, by decide +kernel⟩
abbrev s_held : Stmt := topS 27
abbrev N_held : List Str := ["tariff", "journey", "places", "many", "at", "to"]
theorem sc_held : FnScope N_held ["tariff", "journey"] (defScope s_held) := ⟨rfl, rfl, rfl, by decide +kernel, rfl, by decide +kernel, by decide +kernel⟩
abbrev s_price_of : Stmt := topS 31
abbrev N_price_of : List Str := ["tariff", "journey", "cuts", "places", "total", "at", "to"]
theorem sc_price_of : FnScope N_price_of ["tariff", "journey", "cuts"] (defScope s_price_of) := ⟨rfl, rfl, rfl, by decide +kernel, rfl, by decide +kernel, by decide +kernel⟩
abbrev s_left : Stmt := topS 35
abbrev N_left : List Str := ["tariff", "journey", "ways", "way"]
theorem sc_left : FnScope N_left ["tariff", "journey"] (defScope s_left) := ⟨rfl, rfl, rfl, by decide +kernel, rfl, by decide +kernel, by decide +kernel⟩
abbrev s_priced : Stmt := topS 36
abbrev N_priced : List Str := ["tariff", "journey", "ways", "price", "_"]
theorem sc_priced : FnScope N_priced ["tariff", "journey"] (defScope s_priced) := ⟨rfl, rfl, rfl, by decide +kernel, rfl, by decide +kernel, by decide +kernel⟩
abbrev s_parted : Stmt := topS 37
abbrev N_parted : List Str := ["tariff", "journey", "_", "cuts"]
theorem sc_parted : FnScope N_parted ["tariff", "journey"] (defScope s_parted) := ⟨rfl, rfl, rfl, by decide +kernel, rfl, by decide +kernel, by decide +kernel⟩
abbrev s_bill : Stmt := topS 40
abbrev N_bill : List Str := ["tariff", "journey", "places", "price", "cuts", "lines", "at", "to"]
theorem sc_bill : FnScope N_bill ["tariff", "journey"] (defScope s_bill) := ⟨rfl, rfl, rfl, by decide +kernel, rfl, by decide +kernel, by decide +kernel⟩
section
variable {Pg : Program} {w : World} {K : PySem.W.Frag} {mg : Str → Option Value} {base : Heap} {a : Ads}
theorem bad_fault {f P : Addr} {fd : FuncData} (F : Fun K "fault" "fault" s_fault f fd) (T : Txt K mg a) (D_need_journey : Dn Pg w K mg base 3 "need_journey" ["places"] (spNeed K a P)) : FnOk Pg w K mg base (L2N.CX Pg w) 4 f fd ["tariff", "journey", "at", "to"] (spBadJ K a P 4) := by
  refine F.okN sc_fault (fun vs H Q E h => ?_) (fun cdv A outer s H vs Q E hr h => ?_)
  · obtain ⟨_, _, us, _, rfl, hn, _⟩ := h
    simpa using hn
  · obtain ⟨t, l, us, xs, rfl, hn, hs, hlen, hask, hP, hd, qE⟩ := h
    obtain ⟨u1, u2, rfl⟩ : ∃ u1 u2, us = [u1, u2] := by match us, hn with | [u1, u2], _ => exact ⟨u1, u2, rfl⟩
    refine ⟨_, (pss_cons (ps_set (i := 4) sc_fault.nd rfl (by first | exact Or.inl rfl | exact Or.inr rfl) (pe_fnS D_need_journey (hr.mono (by decide)) (fun σ => L2N.passAt (L2N.takes_of rfl rfl rfl rfl) σ) (pa_cons (pv 1) pa_nil))) pss_no), ?_⟩
    walk_at "s"
    refine ⟨_, _, rfl, hs, hlen, hask, hP, fun e => absurd e hd, fun _ H1 s1 => qE H1 s1⟩
theorem bad_held {f P : Addr} {fd : FuncData} (F : Fun K "held" "held" s_held f fd) (T : Txt K mg a) (D_need_journey : Dn Pg w K mg base 3 "need_journey" ["places"] (spNeed K a P)) : FnOk Pg w K mg base (L2N.CX Pg w) 4 f fd ["tariff", "journey"] (spBadJ K a P 2) := by
  refine F.okN sc_held (fun vs H Q E h => ?_) (fun cdv A outer s H vs Q E hr h => ?_)
  · obtain ⟨_, _, us, _, rfl, hn, _⟩ := h
    simpa using hn
  · obtain ⟨t, l, us, xs, rfl, hn, hs, hlen, hask, hP, hd, qE⟩ := h
    obtain rfl : us = [] := by match us, hn with | [], _ => rfl
    refine ⟨_, (pss_cons (ps_set (i := 2) sc_held.nd rfl (by first | exact Or.inl rfl | exact Or.inr rfl) (pe_fnS D_need_journey (hr.mono (by decide)) (fun σ => L2N.passAt (L2N.takes_of rfl rfl rfl rfl) σ) (pa_cons (pv 1) pa_nil))) pss_no), ?_⟩
    walk_at "s"
    refine ⟨_, _, rfl, hs, hlen, hask, hP, fun e => absurd e hd, fun _ H1 s1 => qE H1 s1⟩
theorem bad_price_of {f P : Addr} {fd : FuncData} (F : Fun K "price_of" "price_of" s_price_of f fd) (T : Txt K mg a) (D_need_journey : Dn Pg w K mg base 3 "need_journey" ["places"] (spNeed K a P)) : FnOk Pg w K mg base (L2N.CX Pg w) 4 f fd ["tariff", "journey", "cuts"] (spBadJ K a P 3) := by
  refine F.okN sc_price_of (fun vs H Q E h => ?_) (fun cdv A outer s H vs Q E hr h => ?_)
  · obtain ⟨_, _, us, _, rfl, hn, _⟩ := h
    simpa using hn
  · obtain ⟨t, l, us, xs, rfl, hn, hs, hlen, hask, hP, hd, qE⟩ := h
    obtain ⟨u1, rfl⟩ : ∃ u1, us = [u1] := by match us, hn with | [u1], _ => exact ⟨u1, rfl⟩
    refine ⟨_, (pss_cons (ps_set (i := 3) sc_price_of.nd rfl (by first | exact Or.inl rfl | exact Or.inr rfl) (pe_fnS D_need_journey (hr.mono (by decide)) (fun σ => L2N.passAt (L2N.takes_of rfl rfl rfl rfl) σ) (pa_cons (pv 1) pa_nil))) pss_no), ?_⟩
    walk_at "s"
    refine ⟨_, _, rfl, hs, hlen, hask, hP, fun e => absurd e hd, fun _ H1 s1 => qE H1 s1⟩
theorem bad_left {f P : Addr} {fd : FuncData} (F : Fun K "left" "left" s_left f fd) (T : Txt K mg a) (D_ways_on : Dn Pg w K mg base 1 "ways_on" ["tariff", "places"] spNo) (D_need_journey : Dn Pg w K mg base 3 "need_journey" ["places"] (spNeed K a P)) : FnOk Pg w K mg base (L2N.CX Pg w) 4 f fd ["tariff", "journey"] (spBadJ K a P 2) := by
  refine F.okN sc_left (fun vs H Q E h => ?_) (fun cdv A outer s H vs Q E hr h => ?_)
  · obtain ⟨_, _, us, _, rfl, hn, _⟩ := h
    simpa using hn
  · obtain ⟨t, l, us, xs, rfl, hn, hs, hlen, hask, hP, hd, qE⟩ := h
    obtain rfl : us = [] := by match us, hn with | [], _ => rfl
    refine ⟨_, (pss_cons (ps_set (i := 2) sc_left.nd rfl (by first | exact Or.inl rfl | exact Or.inr rfl) (pe_fnS D_ways_on (hr.mono (by decide)) (fun σ => L2N.passAt (L2N.takes_of rfl rfl rfl rfl) σ) (pa_cons (pv 0) (pa_cons (pe_fnS D_need_journey (hr.mono (by decide)) (fun σ => L2N.passAt (L2N.takes_of rfl rfl rfl rfl) σ) (pa_cons (pv 1) pa_nil)) pa_nil)))) pss_no), ?_⟩
    walk_at "s"
    refine ⟨_, _, rfl, hs, hlen, hask, hP, fun e => absurd e hd, fun _ H1 s1 => qE H1 s1⟩
theorem bad_priced {f P : Addr} {fd : FuncData} (F : Fun K "priced" "priced" s_priced f fd) (T : Txt K mg a) (D_ways_on : Dn Pg w K mg base 1 "ways_on" ["tariff", "places"] spNo) (D_need_journey : Dn Pg w K mg base 3 "need_journey" ["places"] (spNeed K a P)) : FnOk Pg w K mg base (L2N.CX Pg w) 4 f fd ["tariff", "journey"] (spBadJ K a P 2) := by
  refine F.okN sc_priced (fun vs H Q E h => ?_) (fun cdv A outer s H vs Q E hr h => ?_)
  · obtain ⟨_, _, us, _, rfl, hn, _⟩ := h
    simpa using hn
  · obtain ⟨t, l, us, xs, rfl, hn, hs, hlen, hask, hP, hd, qE⟩ := h
    obtain rfl : us = [] := by match us, hn with | [], _ => rfl
    refine ⟨_, (pss_cons (ps_set (i := 2) sc_priced.nd rfl (by first | exact Or.inl rfl | exact Or.inr rfl) (pe_fnS D_ways_on (hr.mono (by decide)) (fun σ => L2N.passAt (L2N.takes_of rfl rfl rfl rfl) σ) (pa_cons (pv 0) (pa_cons (pe_fnS D_need_journey (hr.mono (by decide)) (fun σ => L2N.passAt (L2N.takes_of rfl rfl rfl rfl) σ) (pa_cons (pv 1) pa_nil)) pa_nil)))) pss_no), ?_⟩
    walk_at "s"
    refine ⟨_, _, rfl, hs, hlen, hask, hP, fun e => absurd e hd, fun _ H1 s1 => qE H1 s1⟩
theorem bad_parted {f P : Addr} {fd : FuncData} (F : Fun K "parted" "parted" s_parted f fd) (T : Txt K mg a) (D_priced : Dn Pg w K mg base 4 "priced" ["tariff", "journey"] (spBadJ K a P 2)) : FnOk Pg w K mg base (L2N.CX Pg w) 5 f fd ["tariff", "journey"] (spBadJ K a P 2) := by
  refine F.okN sc_parted (fun vs H Q E h => ?_) (fun cdv A outer s H vs Q E hr h => ?_)
  · obtain ⟨_, _, us, _, rfl, hn, _⟩ := h
    simpa using hn
  · obtain ⟨t, l, us, xs, rfl, hn, hs, hlen, hask, hP, hd, qE⟩ := h
    obtain rfl : us = [] := by match us, hn with | [], _ => rfl
    refine ⟨_, (pss_cons (ps_asg (pe_fnS D_priced (hr.mono (by decide)) (fun σ => L2N.passAt (L2N.takes_of rfl rfl rfl rfl) σ) (pa_cons (pv 0) (pa_cons (pv 1) pa_nil))) (pg_tup rfl (pgs_cons (pg_name (i := 2) sc_parted.nd rfl (by first | exact Or.inl rfl | exact Or.inr rfl)) (pgs_cons (pg_name (i := 3) sc_parted.nd rfl (by first | exact Or.inl rfl | exact Or.inr rfl)) pgs_nil)))) pss_no), ?_⟩
    walk_at "s"
    refine ⟨_, _, [], _, rfl, rfl, hs, hlen, hask, hP, hd, fun H1 s1 => qE H1 s1⟩
theorem bad_bill {f P : Addr} {fd : FuncData} (F : Fun K "bill" "bill" s_bill f fd) (T : Txt K mg a) (D_need_journey : Dn Pg w K mg base 3 "need_journey" ["places"] (spNeed K a P)) : FnOk Pg w K mg base (L2N.CX Pg w) 4 f fd ["tariff", "journey"] (spBadJ K a P 2) := by
  refine F.okN sc_bill (fun vs H Q E h => ?_) (fun cdv A outer s H vs Q E hr h => ?_)
  · obtain ⟨_, _, us, _, rfl, hn, _⟩ := h
    simpa using hn
  · obtain ⟨t, l, us, xs, rfl, hn, hs, hlen, hask, hP, hd, qE⟩ := h
    obtain rfl : us = [] := by match us, hn with | [], _ => rfl
    refine ⟨_, (pss_cons (ps_set (i := 2) sc_bill.nd rfl (by first | exact Or.inl rfl | exact Or.inr rfl) (pe_fnS D_need_journey (hr.mono (by decide)) (fun σ => L2N.passAt (L2N.takes_of rfl rfl rfl rfl) σ) (pa_cons (pv 1) pa_nil))) pss_no), ?_⟩
    walk_at "s"
    refine ⟨_, _, rfl, hs, hlen, hask, hP, fun e => absurd e hd, fun _ H1 s1 => qE H1 s1⟩
end
end Fb

namespace Fb
open PySem PySem.Spec PyProof.Rows L2
local macro_rules | `(tactic| walk_at "s") => `(tactic| repeat (first | refine ⟨_, rfl, ?_⟩ | refine ⟨_, _, rfl, rfl, ?_⟩ | refine ⟨_, _, rfl, Or.inl (by assumption), ?_⟩ | refine ⟨rfl, ?_⟩ | refine ⟨(by decide : (0 : Int) < _), ?_⟩ | refine ⟨⟨by decide, by decide⟩, ?_⟩ | refine ⟨_, _, _, rfl, (by assumption), (by first | decide | omega), ?_⟩))
theorem dueFrom_zero : ∀ {r : List V} {p : Option V}, dueFrom p r = 0 → (∀ x ∈ r, isP x = true) ∧ (∀ x, r[0]? = some x → p ≠ some x) ∧ ∀ i x, r[i]? = some x → r[i + 1]? ≠ some x
  | [], p, _ => ⟨fun x hx => (by cases hx), fun x hx => (by simp at hx), fun i x hx => (by simp at hx)⟩
  | y :: r, p, h => by
    have h1 : (if isP y = true then (if p = some y then 2 else dueFrom (some y) r) else 1) = 0 := h
    by_cases c1 : isP y = true
    · rw [if_pos c1] at h1
      by_cases c2 : p = some y
      · rw [if_pos c2] at h1; cases h1
      · rw [if_neg c2] at h1
        obtain ⟨g1, g2, g3⟩ := dueFrom_zero h1
        refine ⟨fun x hx => ?_, fun x hx e => ?_, fun i x hx => ?_⟩
        · rcases List.mem_cons.mp hx with e | e
          · rw [e]; exact c1
          · exact g1 x e
        · have e2 : y = x := by simpa using hx
          rw [← e2] at e; exact c2 e
        · cases i with
          | zero =>
            intro e
            have e2 : y = x := by simpa using hx
            have e3 : r[0]? = some x := by simpa using e
            exact g2 x e3 (by rw [e2])
          | succ i =>
            intro e
            exact g3 i x (by simpa using hx) (by simpa using e)
    · rw [if_neg c1] at h1; cases h1
theorem due_zero {xs : List V} (h : due xs = 0) : 2 ≤ xs.length ∧ xs.length ≤ 40 ∧ (∀ x ∈ xs, isP x = true) ∧ ∀ i x, xs[i]? = some x → xs[i + 1]? ≠ some x := by
  by_cases c : 2 ≤ xs.length ∧ xs.length ≤ 40
  · rw [due_in c.1 c.2] at h
    obtain ⟨h1, _, h3⟩ := dueFrom_zero (show dueFrom none xs = 0 from h)
    exact ⟨c.1, c.2, h1, h3⟩
  · rw [due_out c] at h; cases h
/-- something is wrong -/
def Bad (xs : List V) : Prop := xs.length = 0 ∨ ∃ i x, xs[i]? = some x ∧ (isP x = false ∨ (i ≠ 0 ∧ xs[i - 1]? = some x))
theorem Bad.due {xs : List V} (h : Bad xs) : due xs ≠ 0 := fun e => by
  obtain ⟨h1, h2, h3, h4⟩ := due_zero e
  rcases h with h | ⟨i, x, hx, h | ⟨h0, h⟩⟩
  · omega
  · rw [h3 x (List.mem_of_getElem? hx)] at h; cases h
  · refine h4 (i - 1) x h ?_
    rw [show i - 1 + 1 = i by omega]; exact hx
def spDeed (K : PySem.W.Frag) (a : Ads) (P : Addr) : Sp := fun vs H _ E => ∃ (c : Int) (t l : Addr) (xs : List V), vs = [.int c, .ref t, .ref l] ∧ SqL K H l xs ∧ xs.length ≤ 100 ∧ (∀ v ∈ xs, ask v) ∧ H P = some (TabO P) ∧ due xs ≠ 0 ∧ ∀ H', Same H H' → E (.ref (jerr a (due xs))) none H'
def spLaw (K : PySem.W.Frag) (P : Addr) : Sp := fun vs H Q _ => ∃ (l : Addr) (ns : List Int), vs = [.ref l] ∧ SqL K H l (ns.map V.int) ∧ H P = some (TabO P) ∧ ∀ H', H' P = some (TabO P) → Q (.bl true) H'
abbrev s__law_deed : Stmt := topS 49
abbrev N__law_deed : List Str := ["_law_pick", "_law_tariff_here", "_law_row_here", "_law_more"]
theorem sc__law_deed : FnScope N__law_deed ["_law_pick", "_law_tariff_here", "_law_row_here"] (defScope s__law_deed) := ⟨rfl, rfl, rfl, by decide +kernel, rfl, by decide +kernel, by decide +kernel⟩
abbrev s_law : Stmt := topS 50
abbrev N_law : List Str := ["_law_script", "_law_row_here", "_law_turn", "_law_at", "_law_cell", "_law_rows", "_law_tariff_here", "_law_handed", "error"]
theorem sc_law : FnScope N_law ["_law_script"] (defScope s_law) := ⟨rfl, rfl, rfl, by decide +kernel, rfl, by decide +kernel, by decide +kernel⟩
section
variable {Pg : Program} {w : World} {K : PySem.W.Frag} {mg : Str → Option Value} {base : Heap} {a : Ads}
theorem ok_deed {f P : Addr} {fd : FuncData} (F : Fun K "_law_deed" "_law_deed" s__law_deed f fd) (T : Txt K mg a) (D_fault : Dn Pg w K mg base 4 "fault" ["tariff", "journey", "at", "to"] (spBadJ K a P 4)) (D_held : Dn Pg w K mg base 4 "held" ["tariff", "journey"] (spBadJ K a P 2))
    (D_price_of : Dn Pg w K mg base 4 "price_of" ["tariff", "journey", "cuts"] (spBadJ K a P 3)) (D_left : Dn Pg w K mg base 4 "left" ["tariff", "journey"] (spBadJ K a P 2)) (D_parted : Dn Pg w K mg base 5 "parted" ["tariff", "journey"] (spBadJ K a P 2))
    (D_priced : Dn Pg w K mg base 4 "priced" ["tariff", "journey"] (spBadJ K a P 2)) (D_bill : Dn Pg w K mg base 4 "bill" ["tariff", "journey"] (spBadJ K a P 2)) : FnOk Pg w K mg base (L2N.CX Pg w) 6 f fd ["_law_pick", "_law_tariff_here", "_law_row_here"] (spDeed K a P) := by
  refine F.okN sc__law_deed (fun vs H Q E h => ?_) (fun cdv A outer s H vs Q E hr h => ?_)
  · obtain ⟨_, _, _, _, rfl, _⟩ := h
    rfl
  · obtain ⟨c, t, l, xs, rfl, hs, hlen, hask, hP, hd, qE⟩ := h
    refine ⟨_, (pss_cons (ps_set (i := 3) sc__law_deed.nd rfl (by first | exact Or.inl rfl | exact Or.inr rfl) (pe_op op_mod (pe_op op_fdiv (pv 0) pe_int) pe_int))
      (pss_cons (ps_if (pt_cmpR op_eq (pe_op op_mod (pv 0) pe_int) pe_int (nomark _)) (pss_one (ps_ret (pe_fnS D_fault (hr.mono (by decide)) (fun σ => L2N.passAt (L2N.takes_of rfl rfl rfl rfl) σ) (pa_cons (pv 1) (pa_cons (pv 2) (pa_cons (pe_ix ix_list (pe_lstN (pa_cons pe_int (pa_cons pe_int (pa_cons (pe_un un_neg pe_int) pa_nil)))) (pv 3) (fun _ _ => rfl)) (pa_cons (pe_ix ix_list (pe_lstN (pa_cons pe_int (pa_cons pe_int (pa_cons pe_int pa_nil)))) (pv 3) (fun _ _ => rfl)) pa_nil))))))) pss_nil)
      (pss_cons (ps_if (pt_cmpR op_eq (pe_op op_mod (pv 0) pe_int) pe_int (nomark _)) (pss_one (ps_ret (pe_fnS D_held (hr.mono (by decide)) (fun σ => L2N.passAt (L2N.takes_of rfl rfl rfl rfl) σ) (pa_cons (pv 1) (pa_cons (pv 2) pa_nil))))) pss_nil)
      (pss_cons (ps_if (pt_cmpR op_eq (pe_op op_mod (pv 0) pe_int) pe_int (nomark _)) (pss_one (ps_ret (pe_fnS D_price_of (hr.mono (by decide)) (fun σ => L2N.passAt (L2N.takes_of rfl rfl rfl rfl) σ) (pa_cons (pv 1) (pa_cons (pv 2) (pa_cons (pe_ix ix_list (pe_lstN (pa_cons (pe_lstN (pa_cons pe_int (pa_cons (pe_op op_sub (pe_callB call_len_seq (by rfl) T.n_len (by decide +kernel) (pa_cons (pv 2) pa_nil)) pe_int) pa_nil))) (pa_cons (pe_lstN pa_nil) (pa_cons (pe_lstN (pa_cons pe_int (pa_cons pe_int pa_nil))) pa_nil)))) (pv 3) (fun _ _ => rfl)) pa_nil)))))) pss_nil)
      (pss_cons (ps_if (pt_cmpR op_eq (pe_op op_mod (pv 0) pe_int) pe_int (nomark _)) (pss_one (ps_ret (pe_fnS D_left (hr.mono (by decide)) (fun σ => L2N.passAt (L2N.takes_of rfl rfl rfl rfl) σ) (pa_cons (pv 1) (pa_cons (pv 2) pa_nil))))) pss_nil)
      (pss_cons (ps_if (pt_cmpR op_eq (pe_op op_mod (pv 0) pe_int) pe_int (nomark _)) (pss_one (ps_ret (pe_fnS D_parted (hr.mono (by decide)) (fun σ => L2N.passAt (L2N.takes_of rfl rfl rfl rfl) σ) (pa_cons (pv 1) (pa_cons (pv 2) pa_nil))))) pss_nil)
      (pss_cons (ps_if (pt_cmpR op_eq (pe_op op_mod (pv 0) pe_int) pe_int (nomark _)) (pss_one (ps_ret (pe_fnS D_priced (hr.mono (by decide)) (fun σ => L2N.passAt (L2N.takes_of rfl rfl rfl rfl) σ) (pa_cons (pv 1) (pa_cons (pv 2) pa_nil))))) pss_nil)
      (pss_one (ps_ret (pe_fnS D_bill (hr.mono (by decide)) (fun σ => L2N.passAt (L2N.takes_of rfl rfl rfl rfl) σ) (pa_cons (pv 1) (pa_cons (pv 2) pa_nil)))))))))))), ?_⟩
    have fin : ∀ H1, Same H H1 → ∀ H', Same H1 H' → E (.ref (jerr a (due xs))) none H' := fun H1 s1 H' s2 => qE H' (Same.trans s1 s2)
    walk_at "s"
    refine ifD (fun c0 => ?_) (fun c0 => ?_)
    · walk_at "s"
      refine ⟨(by simp), fun l1 H1 n1 s1 h1 => ?_⟩
      obtain ⟨v, hv, _⟩ := atI_mem (xs := [V.int 0, .int 3, .int (-1)]) (i := c / 7 % 3) (by omega) (by show c / 7 % 3 < 3; omega)
      walk_at "s"
      refine ⟨_, _, _, _, rfl, rfl, SqL.of h1, hv, ?_⟩
      refine ⟨(by simp), fun l2 H2 n2 s2 h2 => ?_⟩
      obtain ⟨v2, hv2, _⟩ := atI_mem (xs := [V.int 1, .int 2, .int 99]) (i := c / 7 % 3) (by omega) (by show c / 7 % 3 < 3; omega)
      walk_at "s"
      refine ⟨_, _, _, _, rfl, rfl, SqL.of h2, hv2, ?_⟩
      have s12 := Same.trans s1 s2
      exact ⟨t, l, [v, v2], xs, rfl, rfl, s12.seq hs, hlen, hask, s12 _ _ hP, hd, fin H2 s12⟩
    walk_at "s"
    refine ifD (fun c1 => ?_) (fun c1 => ?_)
    · walk_at "s"
      exact ⟨t, l, [], xs, rfl, rfl, hs, hlen, hask, hP, hd, fin H (Same.refl _)⟩
    walk_at "s"
    refine ifD (fun c2 => ?_) (fun c2 => ?_)
    · walk_at "s"
      refine ⟨(by simp), fun l1 H1 n1 s1 h1 => ?_⟩
      walk_at "s"
      refine ⟨(by simp), fun l2 H2 n2 s2 h2 => ?_⟩
      walk_at "s"
      refine ⟨(by simp), fun l3 H3 n3 s3 h3 => ?_⟩
      walk_at "s"
      refine ⟨(by simp), fun l4 H4 n4 s4 h4 => ?_⟩
      obtain ⟨v, hv, _⟩ := atI_mem (xs := [V.ref l1, .ref l2, .ref l3]) (i := c / 7 % 3) (by omega) (by show c / 7 % 3 < 3; omega)
      walk_at "s"
      refine ⟨_, _, _, _, rfl, rfl, SqL.of h4, hv, ?_⟩
      have s14 := Same.trans s1 (Same.trans s2 (Same.trans s3 s4))
      exact ⟨t, l, [v], xs, rfl, rfl, s14.seq hs, hlen, hask, s14 _ _ hP, hd, fin H4 s14⟩
    walk_at "s"
    refine ifD (fun c3 => ?_) (fun c3 => ?_)
    · walk_at "s"
      exact ⟨t, l, [], xs, rfl, rfl, hs, hlen, hask, hP, hd, fin H (Same.refl _)⟩
    walk_at "s"
    refine ifD (fun c4 => ?_) (fun c4 => ?_)
    · walk_at "s"
      exact ⟨t, l, [], xs, rfl, rfl, hs, hlen, hask, hP, hd, fin H (Same.refl _)⟩
    walk_at "s"
    refine ifD (fun c5 => ?_) (fun c5 => ?_)
    · walk_at "s"
      exact ⟨t, l, [], xs, rfl, rfl, hs, hlen, hask, hP, hd, fin H (Same.refl _)⟩
    walk_at "s"
    exact ⟨t, l, [], xs, rfl, rfl, hs, hlen, hask, hP, hd, fin H (Same.refl _)⟩
theorem ok_law {f P : Addr} {fd : FuncData} (F : Fun K "law" "law" s_law f fd) (T : Txt K mg a) (D_cell_at : Dn Pg w K mg base 1 "_law_cell_at" ["_law_script", "_law_k"] (spCell K)) (D_place : Dn Pg w K mg base 1 "_law_place" ["_law_cell"] spPlace)
    (D_row : Dn Pg w K mg base 2 "_law_row" ["_law_script"] (spRow K)) (D_bad : Dn Pg w K mg base 1 "_law_bad" ["_law_cell", "_law_name"] spBad) (D_tariff : Dn Pg w K mg base 2 "_law_tariff" ["_law_row_here"] (spTariff K))
    (D_deed : Dn Pg w K mg base 6 "_law_deed" ["_law_pick", "_law_tariff_here", "_law_row_here"] (spDeed K a P)) (D_dueE : DnE Pg w K mg base 2 "_law_due" ["_law_row_here"] (spDueE K)) (D_toldE : DmE Pg w K mg base 1 a.Tariff "told" ["self"] (spToldE a))
    (D_Tariff : Dk Pg w K mg base 4 "Tariff" a.Tariff ["self", "rows"] (spInit K a P)) : FnOk Pg w K mg base (L2N.CX Pg w) 7 f fd ["_law_script"] (spLaw K P) := by
  refine F.okN sc_law (fun vs H Q E h => ?_) (fun cdv A outer s H vs Q E hr h => ?_)
  · obtain ⟨c, _, rfl, _⟩ := h
    rfl
  · obtain ⟨l, ns, rfl, hs, hP, q⟩ := h
    have PO : PassesOwn (model Pg w) (A.deeper (envOfC "law" (defScope s_law) s.heap.objs.size f cdv)) (envOfC "law" (defScope s_law) s.heap.objs.size f cdv) (cxOf (L2N.CX Pg w) Pg w K mg base N_law "law" (defScope s_law) f cdv A outer s H E).xe := passes_of rfl
    refine ⟨_, (pss_cons (ps_set (i := 1) sc_law.nd rfl (by first | exact Or.inl rfl | exact Or.inr rfl) (pe_fnS D_row (hr.mono (by decide)) passC (pa_cons (pv 0) pa_nil)))
      (pss_cons (ps_for PO rfl (pi_range1 (by rfl) T.n_range (pa_cons (pe_op op_add pe_int (pe_op op_mod (pe_fnS D_cell_at (hr.mono (by decide)) passC (pa_cons (pv 0) (pa_cons pe_int pa_nil))) pe_int)) pa_nil)) (pg_name (i := 2) sc_law.nd rfl (by first | exact Or.inl rfl | exact Or.inr rfl))
        (pss_one (ps_if (pt_cmpR op_gt (pe_callB call_len_seq (by rfl) T.n_len (by decide +kernel) (pa_cons (pv 1) pa_nil)) pe_int (nomark _)) (pss_cons (ps_set (i := 3) sc_law.nd rfl (by first | exact Or.inl rfl | exact Or.inr rfl) (pe_op op_mod (pe_fnS D_cell_at (hr.mono (by decide)) passC (pa_cons (pv 0) (pa_cons (pe_op op_add pe_int (pv 2)) pa_nil))) (pe_callB call_len_seq (by rfl) T.n_len (by decide +kernel) (pa_cons (pv 1) pa_nil))))
            (pss_cons (ps_set (i := 4) sc_law.nd rfl (by first | exact Or.inl rfl | exact Or.inr rfl) (pe_fnS D_cell_at (hr.mono (by decide)) passC (pa_cons (pv 0) (pa_cons (pe_op op_sub pe_int (pv 2)) pa_nil))))
            (pss_one (ps_if (PW.pt (pw_or (pt_cmpR op_eq (pv 3) pe_int (nomark _)) (pw_or1 (pt_cmpR op_eq (pe_op op_mod (pe_op op_fdiv (pe_fnS D_cell_at (hr.mono (by decide)) passC (pa_cons (pv 0) (pa_cons pe_int pa_nil))) (pe_op op_add pe_int (pv 2))) pe_int) pe_int (nomark _))))) (pss_one (ps_asg (pe_fnS D_bad (hr.mono (by decide)) passC (pa_cons (pv 4) (pa_cons (pe_fnS D_place (hr.mono (by decide)) passC (pa_cons (pe_op op_fdiv (pv 4) pe_int) pa_nil)) pa_nil))) (pg_sub (pv 1) (pv 3) set_listN))) (pss_one (ps_asg (pe_ix ix_list (pv 1) (pe_op op_sub (pv 3) pe_int) (fun _ _ => rfl)) (pg_sub (pv 1) (pv 3) set_listN))))))) pss_nil)))
      (pss_cons (ps_set (i := 5) sc_law.nd rfl (by first | exact Or.inl rfl | exact Or.inr rfl) (pe_fnS D_tariff (hr.mono (by decide)) passC (pa_cons (pv 1) pa_nil)))
      (pss_cons (ps_set (i := 6) sc_law.nd rfl (by first | exact Or.inl rfl | exact Or.inr rfl) (pe_mkS D_Tariff (hr.mono (by decide)) (fun σ => L2N.passAt (L2N.takes_of rfl rfl rfl rfl) σ) (pa_cons (pv 5) pa_nil)))
      (pss_cons (ps_set (i := 7) sc_law.nd rfl (by first | exact Or.inl rfl | exact Or.inr rfl) (pe_callTy call_list_ofN (by rfl) T.n_list (by decide +kernel) (pa_cons (pv 1) pa_nil)))
      (pss_cons (L2N.ps_try_as (i := 8) rfl rfl sc_law.nd rfl rfl ⟨rfl, by decide, .inl T.x_FareError.g⟩ takesN0
        (fun W pn xe tk PO => (pss_one (ps_expr (pe_fnS D_deed (hr.mono (by decide)) (fun σ => L2N.passAt tk σ) (pa_cons (pe_fnS D_cell_at (hr.mono (by decide)) passC (pa_cons (pv 0) (pa_cons pe_int pa_nil))) (pa_cons (pv 6) (pa_cons (pv 7) pa_nil)))))))
        (fun a_e oe cls d pn hz hf => (pss_cons (ps_if (PW.pt (pw_or (pt_cmpR (op_neS (K := K) hr.units) (pv 7) (pv 1) (nomark _)) (pw_or (pt_cmpR (op_neS (K := K) hr.units) (pe_mdEG0 (pv 6) T.cl_Tariff D_toldE (roomE hr (by decide)) hz hf passC) (pv 5) (nomark _)) (pw_or1 (pt_cmpR op_eq (pe_callB (call_isG hz.zc hf) (by rfl) T.n_isinstance (by decide +kernel) (pa_cons (pv 8) (pa_cons (pe_cls T.x_BadPlace.g) pa_nil))) (pe_callB (call_isG hz.zc hf) (by rfl) T.n_isinstance (by decide +kernel) (pa_cons (pv 8) (pa_cons (pe_cls T.x_BadJourney.g) pa_nil))) (nomark _)))))) (pss_one (ps_ret pe_bl)) pss_nil)
          (pss_one (ps_ret (pe_cmpR op_eq (pe_ix (ix_listS (K := K)) (pe_lstN (pa_cons pe_str (pa_cons pe_str pa_nil))) (pe_callTy call_int1 (by rfl) T.n_int (by decide +kernel) (pa_cons (pe_callB (call_isG hz.zc hf) (by rfl) T.n_isinstance (by decide +kernel) (pa_cons (pv 8) (pa_cons (pe_cls T.x_BadJourney.g) pa_nil))) pa_nil)) (fun _ _ => rfl)) (pe_fnEG D_dueE (roomE hr (by decide)) hz hf passC (pa_cons (pv 1) pa_nil)) (nomark _)))))))
      (pss_one (ps_ret pe_bl)))))))), ?_⟩
    walk_at "s"
    refine ⟨_, _, rfl, hs, fun p H1 xs0 hp s1 hpx0 hxl0 hxo0 => ?_⟩
    have hs1 := s1.seq hs
    walk_at "s"
    refine ⟨by omega, by omega, ?_⟩
    refine for_range (fun i σ H' => ∃ xs kv av cv, σ = [some (.ref l), some (.ref p), kv, av, cv, none, none, none, none] ∧ Same H H' ∧ H' p = some (.lst xs) ∧ xs.length ≤ 42 ∧ (∀ v ∈ xs, thing v) ∧ (i ≠ 0 → Bad xs))
      ⟨xs0, none, none, none, rfl, s1, hpx0, hxl0, (fun v hv => by obtain ⟨z, hz, hk⟩ := hxo0 v hv; exact .inr (.inr ⟨z, hz, hk.mono (by decide)⟩)), fun z => absurd rfl z⟩ ?_ ?_
    · rintro i σ H2 hi ⟨xs, kv, av, cv, rfl, s2, hpx, hxl, hxo, hbad⟩
      have hs2 := s2.seq hs
      have hp2 : SqL K H2 p xs := SqL.of hpx
      walk_at "s"
      refine ifD (fun c1 => ?_) (fun c1 => ?_)
      · walk_at "s"
        refine ⟨by omega, ?_⟩
        obtain ⟨j, ej, hj⟩ : ∃ j : Nat, cel ns (2 + (0 + (i : Int))) % (xs.length : Int) = (j : Int) ∧ j < xs.length := by
          have m0 : 0 ≤ cel ns (2 + (0 + (i : Int))) % (xs.length : Int) := Int.emod_nonneg _ (by omega)
          have m1 : cel ns (2 + (0 + (i : Int))) % (xs.length : Int) < (xs.length : Int) := Int.emod_lt_of_pos _ (by omega)
          exact ⟨(cel ns (2 + (0 + (i : Int))) % (xs.length : Int)).toNat, by omega, by omega⟩
        dsimp only
        rw [ej]
        have put : ∀ v, thing v → isP v = false → ∀ H4 c', Same H H4 → H4 p = some (.lst xs) → ∀ H5, SameB p H4 H5 → H5 p = some (.lst (xs.set j v)) →
            ∃ xs kv av cv, ([some (V.ref l), some (.ref p), some (.int (0 + (i : Int))), some (.int (j : Int)), c', none, none, none, none] : L2.St) = [some (.ref l), some (.ref p), kv, av, cv, none, none, none, none] ∧ Same H H5 ∧ H5 p = some (.lst xs) ∧ xs.length ≤ 42 ∧ (∀ v ∈ xs, thing v) ∧ (i + 1 ≠ 0 → Bad xs) :=
          fun v tv pv H4 c' s4 h4 H5 s5 h5 => ⟨xs.set j v, _, _, _, rfl, same_mutB s4 hp s5, h5, by rw [List.length_set]; exact hxl, (fun u hu => by
            rcases List.mem_or_eq_of_mem_set hu with e | e
            · exact hxo u e
            · rw [e]; exact tv), fun _ => .inr ⟨j, v, by rw [List.getElem?_set_self hj], .inl pv⟩⟩
        walk_at "s"
        refine ifD (fun c2 => ?_) (fun c2 => ?_)
        · walk_at "s"
          intro zp H3 hzp s3
          walk_at "s"
          refine ⟨_, _, rfl, hzp, fun v H4 tv pv s4 => ?_⟩
          have hpx4 := s4 _ _ (s3 _ _ hpx)
          walk_at "s"
          exact ⟨_, _, _, _, rfl, rfl, hpx4, ixN_of (by omega) (by omega), put v tv pv H4 _ (Same.trans s2 (Same.trans s3 s4)) hpx4⟩
        · walk_at "s"
          refine ⟨⟨by omega, by omega⟩, ?_⟩
          walk_at "s"
          refine ifD (fun c3 => ?_) (fun c3 => ?_)
          · walk_at "s"
            intro zp H3 hzp s3
            walk_at "s"
            refine ⟨_, _, rfl, hzp, fun v H4 tv pv s4 => ?_⟩
            have hpx4 := s4 _ _ (s3 _ _ hpx)
            walk_at "s"
            exact ⟨_, _, _, _, rfl, rfl, hpx4, ixN_of (by omega) (by omega), put v tv pv H4 _ (Same.trans s2 (Same.trans s3 s4)) hpx4⟩
          · walk_at "s"
            have c2' : j ≠ 0 := fun z => c2 (by rw [z]; rfl)
            have hv : xs[j - 1]? = some xs[j - 1] := List.getElem?_eq_getElem (by omega)
            have hm := List.getElem_mem (show j - 1 < xs.length by omega)
            revert hv hm
            generalize xs[j - 1] = v
            intro hv hm
            refine ⟨_, _, _, _, rfl, rfl, hp2, atI_of (by omega) (by rw [show ((j : Int) - 1).toNat = j - 1 by omega]; exact hv), ?_⟩
            walk_at "s"
            refine ⟨_, _, _, _, rfl, rfl, hpx, ixN_of (by omega) (by omega), fun H5 s5 h5 => ?_⟩
            refine ⟨xs.set j v, _, _, _, rfl, same_mutB s2 hp s5, h5, by rw [List.length_set]; exact hxl, fun u hu => ?_, fun _ => .inr ⟨j, v, by rw [List.getElem?_set_self hj], .inr ⟨c2', by rw [List.getElem?_set_ne (by omega)]; exact hv⟩⟩⟩
            rcases List.mem_or_eq_of_mem_set hu with e | e
            · exact hxo u e
            · rw [e]; exact hxo v hm
      · exact ⟨xs, _, _, _, rfl, s2, hpx, hxl, hxo, fun _ => .inl (by omega)⟩
    · rintro σ H2 ⟨xs, kv, av, cv, rfl, s2, hpx, hxl, hxo, hbad⟩
      have hd := (hbad (by omega)).due
      have hask : ∀ v ∈ xs, ask v := fun v hv => by
        rcases hxo v hv with h | h | ⟨z, h, hz⟩
        · exact .inl h
        · exact .inr (.inr (.inl ⟨_, h⟩))
        · exact .inr (.inr (.inr ⟨z, h, hz.mono (by decide)⟩))
      have hflat : ∀ v ∈ xs, flat v := fun v hv => ask_flat (hask v hv)
      have hp2 : SqL K H2 p xs := SqL.of hpx
      walk_at "s"
      refine ⟨_, _, rfl, hp2, by omega, hask, fun r H3 ts rs hr3 s3 h3 hpr hg hlen => ?_⟩
      have tk : takeRows [] (rs.map givenOf) = (0, rs) := take_good (rs := []) (by simpa using hg) (by simp; omega)
      have lts := Paired.length hpr
      have s03 := Same.trans s2 s3
      walk_at "s"
      intro x dx hx hdx hne
      have m1 : Same H3 (upd (upd H3 dx (.own x)) x (.ins a.Tariff dx [])) := fun b o e => by rw [upd_ne (ne_of_none e hx), upd_ne (ne_of_none e hdx)]; exact e
      refine ⟨x, dx, r, ts, rs.map givenOf, rfl, upd_same, m1 _ _ (s03 _ _ hP), SqL.of (m1 _ _ h3), given_rows (rows_same m1 hpr), good_ask hg, by rw [List.length_map]; omega, fun _ d H4 hd4 sb4 T4 => ⟨rfl, ?_⟩, fun e => absurd (by rw [tk]) e⟩
      rw [tk] at T4
      have s4 : Same H3 H4 := fun b o e => sb4 _ _ (ne_of_none e hx) (m1 _ _ e)
      have hpx4 := s4 _ _ (s3 _ _ hpx)
      walk_at "s"
      refine ⟨_, _, rfl, .inl (SqL.of hpx4), fun g H5 hg5 s5 h5 => ?_⟩
      have s05 := Same.trans s03 (Same.trans s4 s5)
      have hs5 := s05.seq hs
      walk_at "s"
      refine ⟨_, x, g, xs, rfl, SqL.of h5, by omega, hask, s05 _ _ hP, hd, fun H6 s6 => ?_⟩
      have hn : due xs = 1 ∨ due xs = 2 := by have := due_le xs; omega
      have s56 := Same.trans s5 s6
      have hpx6 := s56 _ _ hpx4
      have hg6 := s6 _ _ h5
      have T6 := T4.same s56
      have hpr6 := rows_same (Same.trans s4 s56) hpr
      have hr6 := s56 _ _ (s4 _ _ h3)
      have hP6 := s6 _ _ (s05 _ _ hP)
      have shr := shaped_rows hg.ok
      have shx := shaped_list hflat
      obtain ⟨dx6, hob6⟩ := T6.ob
      obtain ⟨C, eC, mC, iC, kP, kJ⟩ : ∃ C, jerr a (due xs) = C ∧ PySem.W.exmOne K (.ref C) (.ref a.FareError) = some true ∧ ExcC K C ∧ PySem.W.kitOne K (.ref C) (.ref a.BadPlace) = some (decide (due xs = 1)) ∧ PySem.W.kitOne K (.ref C) (.ref a.BadJourney) = some (decide (due xs = 2)) := by
        rcases hn with e | e
        · refine ⟨_, by rw [e], ?_⟩
          rw [e]
          exact ⟨T.e_BadPlace, T.i_BadPlace, T.k_BadPlace_BadPlace, T.k_BadPlace_BadJourney⟩
        · refine ⟨_, by rw [e], ?_⟩
          rw [e]
          exact ⟨T.e_BadJourney, T.i_BadJourney, T.k_BadJourney_BadPlace, T.k_BadJourney_BadJourney⟩
      rw [eC]
      refine ⟨true, mC, fun _ ae hae => ?_, fun z => nomatch z⟩
      walk_at "s"
      refine ⟨_, _, .lst (SqL.of hg6) (dpAll_flat hflat), .lst (SqL.of hpx6) (dpAll_flat hflat), shx, shx, ?_⟩
      rw [eqv_self shx]
      walk_at "s"
      refine ⟨x, dx6, _, rfl, hob6, prices_no d (by decide), ?_⟩
      refine ⟨x, d, rs, rfl, T6, by omega, fun tl H7 us htl s7 h7 hur => ?_⟩
      have hpr7 := rows_same s7 hpr6
      walk_at "s"
      refine ⟨_, _, .lst (SqL.of h7) (dp_rows hg.ok hur), .lst (SqL.of (s7 _ _ hr6)) (dp_rows hg.ok hpr7), shr, shr, ?_⟩
      rw [eqv_self shr]
      walk_at "s"
      refine ⟨_, _, _, _, rfl, rfl, rfl, iC, rel_cls, kP, ?_⟩
      walk_at "s"
      refine ⟨_, _, _, _, rfl, rfl, rfl, iC, rel_cls, kJ, ?_⟩
      walk_at "s"
      have hpx7 := s7 _ _ hpx6
      have hP7 := s7 _ _ hP6
      refine ifD (fun z => ?_) (fun _ => ?_)
      · exfalso
        rcases hn with e | e <;> rw [e] at z <;> exact absurd (V.bl.inj z) (by decide)
      walk_at "s"
      refine ⟨(by simp), fun w2 H8 hw2 s8 h8 => ?_⟩
      walk_at "s"
      refine ⟨_, _, _, _, rfl, rfl, rfl, iC, rel_cls, kJ, ?_⟩
      walk_at "s"
      refine .inr ⟨_, rfl, ?_⟩
      have hfin : ∀ H9, Same H8 H9 → Q (.bl true) H9 := fun H9 s9 => q _ (s9 _ _ (s8 _ _ hP7))
      have hpx8 : SqL K H8 p xs := SqL.of (s8 _ _ hpx7)
      have hw8 : SqL K H8 w2 [V.str (Str.ofString "place"), V.str (Str.ofString "journey")] := SqL.of h8
      rcases hn with e | e
      · rw [e]
        walk_at "s"
        refine ⟨_, _, _, _, rfl, rfl, hw8, rfl, ?_⟩
        walk_at "s"
        refine ⟨_, _, rfl, hpx8, by omega, hask, fun H9 s9 => ?_⟩
        walk_at "s"
        rw [e]
        exact hfin H9 s9
      · rw [e]
        walk_at "s"
        refine ⟨_, _, _, _, rfl, rfl, hw8, rfl, ?_⟩
        walk_at "s"
        refine ⟨_, _, rfl, hpx8, by omega, hask, fun H9 s9 => ?_⟩
        walk_at "s"
        rw [e]
        exact hfin H9 s9
end
end Fb

namespace Fb
open PySem PySem.Spec PyProof.Rows L2
theorem all_mk {w : World} {K : PySem.W.Frag} {h : Heap} {mg : Str → Option Value} {fa cFareError cBadPlace cBadPrice cTwiceTold cTooMany cBadJourney cBadCuts cNotHeld cNoParting cTariff f_is_place f_is_price f_Tariff_put f_Tariff_init f_Tariff_told f_need_journey f__law_cell_at f__law_place f__law_row f__law_bad f__law_is_place f__law_due f__law_tariff f_fault f_held f_price_of f_ways_on f_left f_priced f_parted f_bill f__law_deed f_law c_is_place P_is_place : Addr} {l : PySem.W.OpenLaw} (X : K.In h) (G : h.Ns mainGlobals mg) (hfa : mg "law" = some (.ref fa)) (tabs : ∀ g ∈ (["is_place"] : List Str), TabN mg h g)
    (hFareError : EA K "FareError" cFareError) (hBadPlace : EA K "BadPlace" cBadPlace) (hBadPrice : EA K "BadPrice" cBadPrice) (hTwiceTold : EA K "TwiceTold" cTwiceTold)
    (hTooMany : EA K "TooMany" cTooMany) (hBadJourney : EA K "BadJourney" cBadJourney) (hBadCuts : EA K "BadCuts" cBadCuts) (hNotHeld : EA K "NotHeld" cNotHeld)
    (hNoParting : EA K "NoParting" cNoParting) (sBadPlace : PySem.W.subIn K (.ref cBadPlace) (.ref cFareError) = some true) (sBadPrice : PySem.W.subIn K (.ref cBadPrice) (.ref cFareError) = some true) (sTwiceTold : PySem.W.subIn K (.ref cTwiceTold) (.ref cFareError) = some true)
    (sTooMany : PySem.W.subIn K (.ref cTooMany) (.ref cFareError) = some true) (sBadJourney : PySem.W.subIn K (.ref cBadJourney) (.ref cFareError) = some true) (sBadCuts : PySem.W.subIn K (.ref cBadCuts) (.ref cFareError) = some true) (sNotHeld : PySem.W.subIn K (.ref cNotHeld) (.ref cFareError) = some true)
    (sNoParting : PySem.W.subIn K (.ref cNoParting) (.ref cFareError) = some true) (sBadPlace_BadJourney : PySem.W.subIn K (.ref cBadPlace) (.ref cBadJourney) = some false) (nBadPlace_BadJourney : (Value.ref cBadPlace == Value.ref cBadJourney) = false) (sBadJourney_BadPlace : PySem.W.subIn K (.ref cBadJourney) (.ref cBadPlace) = some false)
    (nBadJourney_BadPlace : (Value.ref cBadJourney == Value.ref cBadPlace) = false) (hTariff : CA K "Tariff" cTariff) (naP : PySem.W.findIn K (.ref cTariff) "_prices" = some none) (gLONGEST_PLACE : ∃ t, PySem.W.nsIn K mainGlobals "LONGEST_PLACE" = some (some (.int 12 t)))
    (gHIGHEST_PRICE : ∃ t, PySem.W.nsIn K mainGlobals "HIGHEST_PRICE" = some (some (.int 1000000000000 t))) (gMOST_ROWS : ∃ t, PySem.W.nsIn K mainGlobals "MOST_ROWS" = some (some (.int 160 t))) (gFEWEST_PLACES : ∃ t, PySem.W.nsIn K mainGlobals "FEWEST_PLACES" = some (some (.int 2 t))) (gMOST_PLACES : ∃ t, PySem.W.nsIn K mainGlobals "MOST_PLACES" = some (some (.int 40 t)))
    (n_len : PySem.W.nsIn K mainGlobals "len" = some none) (n_int : PySem.W.nsIn K mainGlobals "int" = some none) (n_str : PySem.W.nsIn K mainGlobals "str" = some none) (n_list : PySem.W.nsIn K mainGlobals "list" = some none)
    (n_tuple : PySem.W.nsIn K mainGlobals "tuple" = some none) (n_dict : PySem.W.nsIn K mainGlobals "dict" = some none) (n_isinstance : PySem.W.nsIn K mainGlobals "isinstance" = some none) (n_range : PySem.W.nsIn K mainGlobals "range" = some none)
    (n_enumerate : PySem.W.nsIn K mainGlobals "enumerate" = some none) (n_all : PySem.W.nsIn K mainGlobals "all" = some none) (n_any : PySem.W.nsIn K mainGlobals "any" = some none) (n_sum : PySem.W.nsIn K mainGlobals "sum" = some none)
    (n_min : PySem.W.nsIn K mainGlobals "min" = some none) (n_max : PySem.W.nsIn K mainGlobals "max" = some none) (n_abs : PySem.W.nsIn K mainGlobals "abs" = some none) (n_sorted : PySem.W.nsIn K mainGlobals "sorted" = some none)
    (n_zip : PySem.W.nsIn K mainGlobals "zip" = some none) (n_reversed : PySem.W.nsIn K mainGlobals "reversed" = some none) (n_bool : PySem.W.nsIn K mainGlobals "bool" = some none) (n_ValueError : PySem.W.nsIn K mainGlobals "ValueError" = some none)
    (n_set : PySem.W.nsIn K mainGlobals "set" = some none) (h_is_place : FAC K "is_place" s_is_place f_is_place c_is_place P_is_place) (h_is_price : FA K "is_price" s_is_price f_is_price) (h_Tariff_put : FM K cTariff "put" "Tariff.put" s_Tariff_put f_Tariff_put)
    (h_Tariff_init : FM K cTariff "__init__" "Tariff.__init__" s_Tariff_init f_Tariff_init) (h_Tariff_told : FM K cTariff "told" "Tariff.told" s_Tariff_told f_Tariff_told) (h_need_journey : FA K "need_journey" s_need_journey f_need_journey) (h__law_cell_at : FA K "_law_cell_at" s__law_cell_at f__law_cell_at)
    (h__law_place : FA K "_law_place" s__law_place f__law_place) (h__law_row : FA K "_law_row" s__law_row f__law_row) (h__law_bad : FA K "_law_bad" s__law_bad f__law_bad) (h__law_is_place : FA K "_law_is_place" s__law_is_place f__law_is_place)
    (h__law_due : FA K "_law_due" s__law_due f__law_due) (h__law_tariff : FA K "_law_tariff" s__law_tariff f__law_tariff) (h_fault : FA K "fault" s_fault f_fault) (h_held : FA K "held" s_held f_held)
    (h_price_of : FA K "price_of" s_price_of f_price_of) (h_ways_on : FA K "ways_on" s_ways_on f_ways_on) (h_left : FA K "left" s_left f_left) (h_priced : FA K "priced" s_priced f_priced)
    (h_parted : FA K "parted" s_parted f_parted) (h_bill : FA K "bill" s_bill f_bill) (h__law_deed : FA K "_law_deed" s__law_deed f__law_deed) (h_law : FA K "law" s_law f_law)
    : LawT l w K 7 63 "_law_script" mg fa h := by
  have e := hfa.symm.trans (PySem.W.mg_of X G h_law.a)
  cases e
  obtain ⟨a, ea⟩ : ∃ a : Ads, a = ⟨cFareError, cBadPlace, cBadPrice, cTwiceTold, cTooMany, cBadJourney, cBadCuts, cNotHeld, cNoParting, 0, cTariff⟩ := ⟨_, rfl⟩
  have T : Txt K mg a := by
    rw [ea]
    exact { n_len := PySem.W.mg_none_of X G n_len, n_int := PySem.W.mg_none_of X G n_int, n_str := PySem.W.mg_none_of X G n_str, n_list := PySem.W.mg_none_of X G n_list, n_tuple := PySem.W.mg_none_of X G n_tuple, n_dict := PySem.W.mg_none_of X G n_dict, n_isinstance := PySem.W.mg_none_of X G n_isinstance, n_range := PySem.W.mg_none_of X G n_range, n_enumerate := PySem.W.mg_none_of X G n_enumerate, n_all := PySem.W.mg_none_of X G n_all, n_any := PySem.W.mg_none_of X G n_any, n_sum := PySem.W.mg_none_of X G n_sum, n_min := PySem.W.mg_none_of X G n_min, n_max := PySem.W.mg_none_of X G n_max, n_abs := PySem.W.mg_none_of X G n_abs, n_sorted := PySem.W.mg_none_of X G n_sorted, n_zip := PySem.W.mg_none_of X G n_zip, n_reversed := PySem.W.mg_none_of X G n_reversed, n_bool := PySem.W.mg_none_of X G n_bool, n_ValueError := PySem.W.mg_none_of X G n_ValueError, n_set := PySem.W.mg_none_of X G n_set, c_LONGEST_PLACE := FA.gint X G gLONGEST_PLACE, c_HIGHEST_PRICE := FA.gint X G gHIGHEST_PRICE, c_MOST_ROWS := FA.gint X G gMOST_ROWS, c_FEWEST_PLACES := FA.gint X G gFEWEST_PLACES, c_MOST_PLACES := FA.gint X G gMOST_PLACES, x_FareError := hFareError.exk X G, x_BadPlace := hBadPlace.exk X G, x_BadPrice := hBadPrice.exk X G, x_TwiceTold := hTwiceTold.exk X G, x_TooMany := hTooMany.exk X G, x_BadJourney := hBadJourney.exk X G, x_BadCuts := hBadCuts.exk X G, x_NotHeld := hNotHeld.exk X G, x_NoParting := hNoParting.exk X G, e_BadPlace := hFareError.exm sBadPlace, i_BadPlace := hBadPlace.exc, v_BadPlace := hBadPlace.kitV, k_BadPlace_BadPlace := kit_self, k_BadPlace_BadJourney := hBadJourney.kit sBadPlace_BadJourney nBadPlace_BadJourney, e_BadPrice := hFareError.exm sBadPrice, i_BadPrice := hBadPrice.exc, v_BadPrice := hBadPrice.kitV, k_BadPrice_BadPrice := kit_self, e_TwiceTold := hFareError.exm sTwiceTold, i_TwiceTold := hTwiceTold.exc, v_TwiceTold := hTwiceTold.kitV, k_TwiceTold_TwiceTold := kit_self, e_TooMany := hFareError.exm sTooMany, i_TooMany := hTooMany.exc, v_TooMany := hTooMany.kitV, k_TooMany_TooMany := kit_self, e_BadJourney := hFareError.exm sBadJourney, i_BadJourney := hBadJourney.exc, v_BadJourney := hBadJourney.kitV, k_BadJourney_BadPlace := hBadPlace.kit sBadJourney_BadPlace nBadJourney_BadPlace, k_BadJourney_BadJourney := kit_self, e_BadCuts := hFareError.exm sBadCuts, i_BadCuts := hBadCuts.exc, v_BadCuts := hBadCuts.kitV, k_BadCuts_BadCuts := kit_self, e_NotHeld := hFareError.exm sNotHeld, i_NotHeld := hNotHeld.exc, v_NotHeld := hNotHeld.kitV, k_NotHeld_NotHeld := kit_self, e_NoParting := hFareError.exm sNoParting, i_NoParting := hNoParting.exc, v_NoParting := hNoParting.kitV, k_NoParting_NoParting := kit_self, cl_Tariff := hTariff.cls, na_prices := naP }
  have eT : a.Tariff = cTariff := by rw [ea]
  obtain ⟨hT_is_place, hC_is_place⟩ := h_is_place.tab X G (tabs _ (by simp))
  obtain ⟨oc, od, kV, dc, pm, an, cd, ct, osl, lL, cL⟩ := h_law.l
  refine ⟨PySem.W.fnOf "law" "law" (defArgs s_law) (defBody s_law) (defScope s_law) .none kV dc pm an cd ct, [(c_is_place, P_is_place)], (spLaw K P_is_place), fun p hp => ?_, fun p hp => ?_, fun p hp => ?_, fun s u => .of_eq rfl, fun H b ns _ hbits hP hS => ?_, fun base hb hn hB => ?_⟩
  · simp only [List.mem_cons, List.not_mem_nil, or_false] at hp
    subst hp; exact hT_is_place
  · simp only [List.mem_cons, List.not_mem_nil, or_false] at hp
    subst hp; exact h_is_place.n
  · simp only [List.mem_cons, List.not_mem_nil, or_false] at hp
    subst hp; exact hC_is_place
  · refine ⟨b, ns, rfl, hS, hP (c_is_place, P_is_place) (by simp), fun H' q0 => ⟨fun p hp => ?_, rfl⟩⟩
    simp only [List.mem_cons, List.not_mem_nil, or_false] at hp
    subst hp; exact q0
  · have TB_is_place : GxR.TabB base mg c_is_place P_is_place := hB (c_is_place, P_is_place) (by simp)
    have D_is_place : Dn l.prog w K mg base 2 "is_place" ["thing"] (spIsPlace P_is_place) := h_is_place.dn X G (fun _ F => ok_is_place F T TB_is_place) (fun _ _ _ _ _ _ us hl => match us, hl with | [_], _ => rfl)
    have D_is_price : Dn l.prog w K mg base 1 "is_price" ["thing"] spIsPrice := h_is_price.dn X G (fun _ F => ok_is_price F T ) (fun _ _ _ _ _ _ us hl => match us, hl with | [_], _ => rfl)
    have D_Tariff_put : Dm l.prog w K mg base 3 a.Tariff "put" ["self", "here", "there", "price"] (spPut a P_is_place) := by
      rw [eT]
      exact h_Tariff_put.dm (fun _ F => by have z := ok_put (Pg := l.prog) (w := w) (base := base) F T D_is_place D_is_price; exact z) (fun _ _ _ _ _ _ us hl => match us, hl with | [_, _, _, _], _ => rfl)
    have D_Tariff_init : Dk l.prog w K mg base 4 "Tariff" a.Tariff ["self", "rows"] (spInit K a P_is_place) := by
      have z := h_Tariff_init.dk (Pg := l.prog) (w := w) (base := base) hTariff X G (fun _ F => ok_init F T D_Tariff_put) (fun _ _ _ _ _ _ us hl => match us, hl with | [_, _], _ => rfl)
      rw [eT]; exact z
    have D_Tariff_toldE : DmE l.prog w K mg base 1 a.Tariff "told" ["self"] (spToldE a) := by
      rw [eT]
      exact h_Tariff_told.dme (fun _ F => by have z := ok_toldE (Pg := l.prog) (w := w) (base := base) F T ; exact z) (fun _ _ _ _ _ _ us hl => match us, hl with | [_], _ => rfl)
    have D_need_journey : Dn l.prog w K mg base 3 "need_journey" ["places"] (spNeed K a P_is_place) := h_need_journey.dn X G (fun _ F => ok_need F T D_is_place) (fun _ _ _ _ _ _ us hl => match us, hl with | [_], _ => rfl)
    have D__law_cell_at : Dn l.prog w K mg base 1 "_law_cell_at" ["_law_script", "_law_k"] (spCell K) := h__law_cell_at.dn X G (fun _ F => ok_cell F T ) (fun _ _ _ _ _ _ us hl => match us, hl with | [_, _], _ => rfl)
    have D__law_place : Dn l.prog w K mg base 1 "_law_place" ["_law_cell"] spPlace := h__law_place.dn X G (fun _ F => ok_lplace F T ) (fun _ _ _ _ _ _ us hl => match us, hl with | [_], _ => rfl)
    have D__law_row : Dn l.prog w K mg base 2 "_law_row" ["_law_script"] (spRow K) := h__law_row.dn X G (fun _ F => ok_row F T D__law_cell_at D__law_place) (fun _ _ _ _ _ _ us hl => match us, hl with | [_], _ => rfl)
    have D__law_bad : Dn l.prog w K mg base 1 "_law_bad" ["_law_cell", "_law_name"] spBad := h__law_bad.dn X G (fun _ F => ok_bad F T ) (fun _ _ _ _ _ _ us hl => match us, hl with | [_, _], _ => rfl)
    have D__law_is_place : Dn l.prog w K mg base 1 "_law_is_place" ["_law_thing"] spLIsPlace := h__law_is_place.dn X G (fun _ F => ok_lis_place F T ) (fun _ _ _ _ _ _ us hl => match us, hl with | [_], _ => rfl)
    have D__law_is_placeE : DnE l.prog w K mg base 1 "_law_is_place" ["_law_thing"] spLIsPlaceE := h__law_is_place.dne X G (fun _ F => ok_lis_placeE F T ) (fun _ _ _ _ _ _ us hl => match us, hl with | [_], _ => rfl)
    have D__law_dueE : DnE l.prog w K mg base 2 "_law_due" ["_law_row_here"] (spDueE K) := h__law_due.dne X G (fun _ F => ok_dueE F T D__law_is_placeE) (fun _ _ _ _ _ _ us hl => match us, hl with | [_], _ => rfl)
    have D__law_tariff : Dn l.prog w K mg base 2 "_law_tariff" ["_law_row_here"] (spTariff K) := h__law_tariff.dn X G (fun _ F => ok_tariff F T D__law_is_place) (fun _ _ _ _ _ _ us hl => match us, hl with | [_], _ => rfl)
    have D_fault : Dn l.prog w K mg base 4 "fault" ["tariff", "journey", "at", "to"] (spBadJ K a P_is_place 4) := h_fault.dn X G (fun _ F => bad_fault F T D_need_journey) (fun _ _ _ _ _ _ us hl => match us, hl with | [_, _, _, _], _ => rfl)
    have D_held : Dn l.prog w K mg base 4 "held" ["tariff", "journey"] (spBadJ K a P_is_place 2) := h_held.dn X G (fun _ F => bad_held F T D_need_journey) (fun _ _ _ _ _ _ us hl => match us, hl with | [_, _], _ => rfl)
    have D_price_of : Dn l.prog w K mg base 4 "price_of" ["tariff", "journey", "cuts"] (spBadJ K a P_is_place 3) := h_price_of.dn X G (fun _ F => bad_price_of F T D_need_journey) (fun _ _ _ _ _ _ us hl => match us, hl with | [_, _, _], _ => rfl)
    have D_ways_on : Dn l.prog w K mg base 1 "ways_on" ["tariff", "places"] spNo := h_ways_on.dn X G (fun _ _ => no_ok) (fun _ _ _ _ _ _ us hl => match us, hl with | [_, _], _ => rfl)
    have D_left : Dn l.prog w K mg base 4 "left" ["tariff", "journey"] (spBadJ K a P_is_place 2) := h_left.dn X G (fun _ F => bad_left F T D_ways_on D_need_journey) (fun _ _ _ _ _ _ us hl => match us, hl with | [_, _], _ => rfl)
    have D_priced : Dn l.prog w K mg base 4 "priced" ["tariff", "journey"] (spBadJ K a P_is_place 2) := h_priced.dn X G (fun _ F => bad_priced F T D_ways_on D_need_journey) (fun _ _ _ _ _ _ us hl => match us, hl with | [_, _], _ => rfl)
    have D_parted : Dn l.prog w K mg base 5 "parted" ["tariff", "journey"] (spBadJ K a P_is_place 2) := h_parted.dn X G (fun _ F => bad_parted F T D_priced) (fun _ _ _ _ _ _ us hl => match us, hl with | [_, _], _ => rfl)
    have D_bill : Dn l.prog w K mg base 4 "bill" ["tariff", "journey"] (spBadJ K a P_is_place 2) := h_bill.dn X G (fun _ F => bad_bill F T D_need_journey) (fun _ _ _ _ _ _ us hl => match us, hl with | [_, _], _ => rfl)
    have D__law_deed : Dn l.prog w K mg base 6 "_law_deed" ["_law_pick", "_law_tariff_here", "_law_row_here"] (spDeed K a P_is_place) := h__law_deed.dn X G (fun _ F => ok_deed F T D_fault D_held D_price_of D_left D_parted D_priced D_bill) (fun _ _ _ _ _ _ us hl => match us, hl with | [_, _, _], _ => rfl)
    exact ok_law (fun_mk (st := s_law) lL cL h_law.k) T D__law_cell_at D__law_place D__law_row D__law_bad D__law_tariff D__law_deed D__law_dueE D_Tariff_toldE D_Tariff_init
end Fb
open PySem PySem.W PyProof.Rows
set_option maxRecDepth 100000 in
set_option maxHeartbeats 0 in
theorem PySem.Challenge.cw_farebreak_k13_no_journeys_holds : PySem.Challenge.rw_farebreak_k13_no_journeys.Holds := by
  w_on; o_law; k_head; (case hw => w_witness2)
  k_fill
  refine Fb.walk_tab (l := PySem.Challenge.rw_farebreak_k13_no_journeys) (n := 63) (k := 7) (x := "_law_script") ["is_place"] rfl (by decide) rfl ⟨rfl, by decide, by decide⟩ (fun g hg => ?R) (fun w h Y => PySem.W.kIn_of Y) ?F
  case R =>
    simp only [List.mem_cons, List.not_mem_nil, or_false] at hg
    subst hg; first | decide +kernel | rfl
  case F =>
    intro w mg fa h Y KX G hmg tabs
    refine' Fb.all_mk (l := PySem.Challenge.rw_farebreak_k13_no_journeys) KX G hmg tabs ?ahFareError ?ahBadPlace ?ahBadPrice ?ahTwiceTold ?ahTooMany ?ahBadJourney ?ahBadCuts ?ahNotHeld ?ahNoParting ?asBadPlace ?asBadPrice ?asTwiceTold ?asTooMany ?asBadJourney ?asBadCuts ?asNotHeld ?asNoParting ?asBadPlace_BadJourney ?anBadPlace_BadJourney ?asBadJourney_BadPlace ?anBadJourney_BadPlace ?ahTariff ?anaP ?agLONGEST_PLACE ?agHIGHEST_PRICE ?agMOST_ROWS ?agFEWEST_PLACES ?agMOST_PLACES ?an_len ?an_int ?an_str ?an_list ?an_tuple ?an_dict ?an_isinstance ?an_range ?an_enumerate ?an_all ?an_any ?an_sum ?an_min ?an_max ?an_abs ?an_sorted ?an_zip ?an_reversed ?an_bool ?an_ValueError ?an_set ?ah_is_place ?ah_is_price ?ah_Tariff_put ?ah_Tariff_init ?ah_Tariff_told ?ah_need_journey ?ah__law_cell_at ?ah__law_place ?ah__law_row ?ah__law_bad ?ah__law_is_place ?ah__law_due ?ah__law_tariff ?ah_fault ?ah_held ?ah_price_of ?ah_ways_on ?ah_left ?ah_priced ?ah_parted ?ah_bill ?ah__law_deed ?ah_law
    (case ahFareError => exact Fb.EA.mk (by k_is) (by k_is) (by k_exc) (by k_is) (by k_is) (by k_is) (by k_is) (by k_is) (by k_is) (by k_is) (by k_is) (by k_is) (by k_is) (by k_is))
    (case ahBadPlace => exact Fb.EA.mk (by k_is) (by k_is) (by k_exc) (by k_is) (by k_is) (by k_is) (by k_is) (by k_is) (by k_is) (by k_is) (by k_is) (by k_is) (by k_is) (by k_is))
    (case ahBadPrice => exact Fb.EA.mk (by k_is) (by k_is) (by k_exc) (by k_is) (by k_is) (by k_is) (by k_is) (by k_is) (by k_is) (by k_is) (by k_is) (by k_is) (by k_is) (by k_is))
    (case ahTwiceTold => exact Fb.EA.mk (by k_is) (by k_is) (by k_exc) (by k_is) (by k_is) (by k_is) (by k_is) (by k_is) (by k_is) (by k_is) (by k_is) (by k_is) (by k_is) (by k_is))
    (case ahTooMany => exact Fb.EA.mk (by k_is) (by k_is) (by k_exc) (by k_is) (by k_is) (by k_is) (by k_is) (by k_is) (by k_is) (by k_is) (by k_is) (by k_is) (by k_is) (by k_is))
    (case ahBadJourney => exact Fb.EA.mk (by k_is) (by k_is) (by k_exc) (by k_is) (by k_is) (by k_is) (by k_is) (by k_is) (by k_is) (by k_is) (by k_is) (by k_is) (by k_is) (by k_is))
    (case ahBadCuts => exact Fb.EA.mk (by k_is) (by k_is) (by k_exc) (by k_is) (by k_is) (by k_is) (by k_is) (by k_is) (by k_is) (by k_is) (by k_is) (by k_is) (by k_is) (by k_is))
    (case ahNotHeld => exact Fb.EA.mk (by k_is) (by k_is) (by k_exc) (by k_is) (by k_is) (by k_is) (by k_is) (by k_is) (by k_is) (by k_is) (by k_is) (by k_is) (by k_is) (by k_is))
    (case ahNoParting => exact Fb.EA.mk (by k_is) (by k_is) (by k_exc) (by k_is) (by k_is) (by k_is) (by k_is) (by k_is) (by k_is) (by k_is) (by k_is) (by k_is) (by k_is) (by k_is))
    (case asBadPlace => k_is)
    (case asBadPrice => k_is)
    (case asTwiceTold => k_is)
    (case asTooMany => k_is)
    (case asBadJourney => k_is)
    (case asBadCuts => k_is)
    (case asNotHeld => k_is)
    (case asNoParting => k_is)
    (case asBadPlace_BadJourney => k_is)
    (case anBadPlace_BadJourney => first | rfl | decide)
    (case asBadJourney_BadPlace => k_is)
    (case anBadJourney_BadPlace => first | rfl | decide)
    (case ahTariff => exact Fb.CA.mk (by k_is) (by k_is) (by k_is) (by k_is) (by k_is) (by k_is) (by k_is))
    (case anaP => k_is)
    (case agLONGEST_PLACE => exact Fb.gi_mk (by k_is))
    (case agHIGHEST_PRICE => exact Fb.gi_mk (by k_is))
    (case agMOST_ROWS => exact Fb.gi_mk (by k_is))
    (case agFEWEST_PLACES => exact Fb.gi_mk (by k_is))
    (case agMOST_PLACES => exact Fb.gi_mk (by k_is))
    (case an_len => k_is)
    (case an_int => k_is)
    (case an_str => k_is)
    (case an_list => k_is)
    (case an_tuple => k_is)
    (case an_dict => k_is)
    (case an_isinstance => k_is)
    (case an_range => k_is)
    (case an_enumerate => k_is)
    (case an_all => k_is)
    (case an_any => k_is)
    (case an_sum => k_is)
    (case an_min => k_is)
    (case an_max => k_is)
    (case an_abs => k_is)
    (case an_sorted => k_is)
    (case an_zip => k_is)
    (case an_reversed => k_is)
    (case an_bool => k_is)
    (case an_ValueError => k_is)
    (case an_set => k_is)
    (case ah_is_place => exact Fb.fac_mk (by k_is) (by k_is) (by k_is) (by k_is) (by k_is) (by rfl) (by first | rfl | decide +kernel))
    (case ah_is_price => exact Fb.fa_mk (by k_is) (by k_is) (by k_is) (by k_is))
    (case ah_Tariff_put => exact Fb.fm_mk (by k_is) (by k_is) (by k_is) (by k_is) (by k_is))
    (case ah_Tariff_init => exact Fb.fm_mk (by k_is) (by k_is) (by k_is) (by k_is) (by k_is))
    (case ah_Tariff_told => exact Fb.fm_mk (by k_is) (by k_is) (by k_is) (by k_is) (by k_is))
    (case ah_need_journey => exact Fb.fa_mk (by k_is) (by k_is) (by k_is) (by k_is))
    (case ah__law_cell_at => exact Fb.fa_mk (by k_is) (by k_is) (by k_is) (by k_is))
    (case ah__law_place => exact Fb.fa_mk (by k_is) (by k_is) (by k_is) (by k_is))
    (case ah__law_row => exact Fb.fa_mk (by k_is) (by k_is) (by k_is) (by k_is))
    (case ah__law_bad => exact Fb.fa_mk (by k_is) (by k_is) (by k_is) (by k_is))
    (case ah__law_is_place => exact Fb.fa_mk (by k_is) (by k_is) (by k_is) (by k_is))
    (case ah__law_due => exact Fb.fa_mk (by k_is) (by k_is) (by k_is) (by k_is))
    (case ah__law_tariff => exact Fb.fa_mk (by k_is) (by k_is) (by k_is) (by k_is))
    (case ah_fault => exact Fb.fa_mk (by k_is) (by k_is) (by k_is) (by k_is))
    (case ah_held => exact Fb.fa_mk (by k_is) (by k_is) (by k_is) (by k_is))
    (case ah_price_of => exact Fb.fa_mk (by k_is) (by k_is) (by k_is) (by k_is))
    (case ah_ways_on => exact Fb.fa_mk (by k_is) (by k_is) (by k_is) (by k_is))
    (case ah_left => exact Fb.fa_mk (by k_is) (by k_is) (by k_is) (by k_is))
    (case ah_priced => exact Fb.fa_mk (by k_is) (by k_is) (by k_is) (by k_is))
    (case ah_parted => exact Fb.fa_mk (by k_is) (by k_is) (by k_is) (by k_is))
    (case ah_bill => exact Fb.fa_mk (by k_is) (by k_is) (by k_is) (by k_is))
    (case ah__law_deed => exact Fb.fa_mk (by k_is) (by k_is) (by k_is) (by k_is))
    (case ah_law => exact Fb.fa_mk (by k_is) (by k_is) (by k_is) (by k_is))
#print axioms PySem.Challenge.cw_farebreak_k13_no_journeys_holds
