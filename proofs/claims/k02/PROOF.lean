import PyProof.Rows.All
import HandS.ExcCtx
import Wide.All
import OpenK.AllK
import Wide.FinOn
import HandS.ForMost
import HandS.Exc
import HandS.ExcOwn
import HandS.TryOnly
import HandS.WordsExc
import HandS.FStr
import HandS.RaiseMore
import HandS.ExcIs
import HandS.IsInst
import HandS.AnyAll
import HandS.EndTab
import HandS.EndOwn
import HandS.Wide
import HandS.Evl
import HandS.Codes
import HandS.DictTup
import HandS.TupLen
import HandS.CallSlots
import HandS.HotCalls
import PySem.Challenge.RW_farebreak_k02_refused_rows
set_option Elab.async false
set_option linter.all false
set_option maxRecDepth 100000
set_option maxHeartbeats 2000000
/-! own tools over the hand layer -/
namespace Fb
open PySem PySem.Spec PyProof.Rows L2

/-! ### a code object's table as an object that only is what it is -/
def TabP (P : Addr) : Heap → Prop := fun h => ∃ ps : Array Value, h.get? P = some { cls := .none, data := .fields ps } ∧ TriplesOk ps.toList
def TabO (P : Addr) : HO := .ext (TabP P)
theorem tabO_ok {Pg : Program} {w : World} {H : Hp} {h : Heap} {P : Addr} {ps : Array Value} (e : h.get? P = some { cls := .none, data := .fields ps }) (t : TriplesOk ps.toList) : ObjOk Pg w H h P (TabO P) :=
  ⟨⟨ps, e, t⟩, ⟨_, e⟩, fun h1 h2 ⟨qs, e1, t1⟩ k => ⟨qs, k _ e1, t1⟩⟩
theorem mut_tabO {P : Addr} : Mut (some (TabO P)) := trivial
section
variable {X : Cx} {pins : List (Addr × Obj)} {σ : L2.St} {H H2 : Hp} {s s' : Shared} {P : Addr}
/-- from the table as such to the table by its fields -/
theorem tab_open (I : Inv X pins σ H s) (hP : H P = some (TabO P)) : ∃ ps : Array Value, TriplesOk ps.toList ∧ Inv X pins σ (upd H P (.tbl ps)) s := by
  obtain ⟨⟨ps, e, t⟩, _, _⟩ := I.hok P _ hP
  refine ⟨ps, t, ?_⟩
  have J := I.write (h' := s.heap) (t' := s.toks) (x := P) (e := P) (o := .tbl ps) (by rw [hP]; exact mut_tabO) (Or.inl rfl) (fun b u _ q => q) ⟨_, e⟩ (show ObjOk X.prog X.w _ s.heap P (.tbl ps) from e)
  exact J
theorem tab_shut (I : Inv X pins σ H s) (hP : H P = some (TabO P)) (J : Inv X pins σ H2 s') (hT : GxR.TabG H2 P) (hE : ∀ b, b ≠ P → H2 b = H b) : Inv X pins σ H s' := by
  obtain ⟨ps, hps, ht⟩ := hT
  have e : s'.heap.get? P = some { cls := .none, data := .fields ps } := J.hok P _ hps
  have at_ : ∀ b, H b = none → H2 b = none := fun b n => by rw [hE b (fun z => by rw [z, hP] at n; cases n)]; exact n
  have to_ : ∀ b, H2 b = none → H b = none := fun b n => by rw [← hE b (fun z => by rw [z, hps] at n; cases n)]; exact n
  refine ⟨J.ok, J.os, J.bare, ⟨J.base.keep, J.base.slot, fun b o h1 h2 h3 => to_ b (J.base.free b o h1 h2 h3), J.base.there, fun b xs h1 => ?_, fun b o u h1 => ?_, fun b qs h1 => ?_⟩, J.loc, J.cell, to_ _ J.free, fun x c h1 => to_ _ (J.freeC x c h1), fun p hp => ?_, fun a o ha => ?_, J.len⟩
  · have h2 := J.base.tups b xs h1
    have nb : b ≠ P := fun z => by rw [z, hps] at h2; cases h2
    rw [← hE b nb]; exact h2
  · have h2 := J.base.frzs b o u h1
    have nb : b ≠ P := fun z => by rw [z, hps] at h2; cases h2
    rw [← hE b nb]; exact h2
  · obtain ⟨m1, h2⟩ := I.base.tbls b qs h1
    have nb : b ≠ P := fun z => by rw [z, hP] at h2; cases h2
    obtain ⟨m2, h3⟩ := J.base.tbls b qs h1
    exact ⟨m2, by rw [← hE b nb]; exact h3⟩
  · obtain ⟨e1, n, r⟩ := J.pin p hp
    exact ⟨e1, to_ _ n, r⟩
  · by_cases hb : a = P
    · subst hb
      rw [hP] at ha; cases ha
      exact tabO_ok e ht
    · have ha2 : H2 a = some o := by rw [hE a hb]; exact ha
      refine (J.hok a o ha2).stay (fun d v _ q => q) (fun d q => ?_) fun d xs q => ?_
      · have nb : d ≠ P := fun z => by rw [z, hps] at q; cases q
        rw [← hE d nb]; exact q
      · have nb : d ≠ P := fun z => by rw [z, hps] at q; cases q
        rw [← hE d nb]; exact q
end
/-- an expression that reads a text and may let the table at P grow: seen from outside nothing changes -/
theorem pe_allP {X : Cx} {e : Expr} {P : Addr} {pb : Nat → Bool} {i : Nat} (h : PE X e (GxR.tAllS P pb (tVar i))) :
    PE X e (fun σ H Q => ∃ a : Str, σ[i]? = some (some (.str a)) ∧ H P = some (TabO P) ∧ Q (.bl (a.cps.toList.all pb)) H) := by
  refine ⟨fun pins s σ H Q I hq => ?_⟩
  obtain ⟨a, ha, hP, q⟩ := hq
  obtain ⟨ps, ht, J⟩ := tab_open I hP
  refine thn (h.run pins s σ (upd H P (.tbl ps)) (fun v H2 => v = .bl (a.cps.toList.all pb) ∧ GxR.Tabbed P (upd H P (.tbl ps)) H2) J ⟨.str a, ha, a, rfl, ⟨ps, upd_same, ht⟩, fun H2 hT => ⟨rfl, hT⟩⟩) fun u s1 ⟨v, H2, J2, r, ev, hT⟩ => ?_
  subst ev
  exact ⟨_, H, tab_shut I hP J2 hT.1 (fun b hb => (hT.2 b hb).trans (upd_ne hb)), r, q⟩
/-- 'a' <= sign <= 'z' -/
theorem elt_btw {prog : Program} {w : World} {scope : Scope} {x a b : Str} {j1 j2 : Nat} {p1 p2 p3 p4 : Pos} (hk : scope.kind = .function) (hl : scope.names.lookup x = some .local) (hd : (x == ("__debug__" : Str)) = false := by decide) :
    GxR.EltP prog w scope x (.Compare (.Constant (.str a) j1 p1) [.LtE, .LtE] [.Name x p2, .Constant (.str b) j2 p3] p4) (fun c => !decide ([c] < a.cps.toList) && !decide (b.cps.toList < [c])) := by
  intro cenv A' E' c t s₂ m₂ hs hn hm
  refine Compare_chain (Calls.Constant_str (chain_link ?_)) (by with_unfolding_all rfl)
  refine wpAny_Name (wpAny_loadName_local (by rw [hs]; exact hk) (show cenv.scope.names.lookup x = some .local by rw [hs]; exact hl) (show Heap.Ns _ cenv.locals m₂ from hn) hm ?_) hd
  refine PySem.P.le_str ?_
  refine wpAny_truthy_bool ?_
  show if (!decide (([c] : List Nat) < a.cps.toList)) = true then _ else _
  cases h1 : decide (([c] : List Nat) < a.cps.toList) with
  | true => exact ⟨(by show Value.bool (!true) = Value.bool (!decide (([c] : List Nat) < a.cps.toList) && !decide (b.cps.toList < [c])); rw [h1]; rfl), GxR.keeps_tok _ _⟩
  | false =>
    show wpAny _ _ _ _ _ _
    refine chain_last (Calls.Constant_str (PySem.P.le_str ⟨?_, GxR.keeps_tok _ _⟩))
    show Value.bool (!decide (b.cps.toList < ([c] : List Nat))) = Value.bool (!decide (([c] : List Nat) < a.cps.toList) && !decide (b.cps.toList < [c]))
    rw [h1]; rfl

/-! ### texts -/
theorem op_repS {X : Cx} : OpR X (binaryOp .Mult) (fun x y H Q => ∃ z n, x = .str z ∧ y = .int n ∧ MulOk z n ∧ Q (.str (Txt.mul z n)) H) := by
  intro pins s σ H x y v u Q I rx ry h
  obtain ⟨z, n, rfl, rfl, hok, q⟩ := h
  obtain ⟨t, rfl⟩ := rx
  obtain ⟨t', rfl⟩ := ry
  exact SB.mul hok fun t'' k => ⟨.str _, H, I.tok _, ⟨_, rfl⟩, q⟩
theorem mulOk_small {z : Str} {n : Int} (h0 : 0 ≤ n) (h1 : n ≤ 1000) (hz : z.length ≤ 1000) : MulOk z n := by
  refine ⟨?_, fun h2 _ => ?_, fun h2 _ => ?_⟩
  · rw [decide_eq_false (by omega), decide_eq_false (by omega)]; rfl
  · have h3 : (9223372036854775807 : Int) / n ≥ 9223372036854775 := by
      have h4 : (9223372036854775 : Int) * n ≤ 9223372036854775807 := by omega
      exact (Int.le_ediv_iff_mul_le (by omega)).mpr h4
    have h5 : ((2 : Int) ^ 63 - 1) = 9223372036854775807 := by decide
    rw [h5]
    omega
  · unfold Builtin.Str.tooLong
    refine decide_eq_false ?_
    rw [sizeLine_eq]
    have h6 : z.length * n.toNat ≤ 1000 * 1000 := Nat.mul_le_mul hz (by omega)
    omega
theorem foldl_app_size (x : Array Nat) : ∀ (n : Nat) (acc : Array Nat), ((List.replicate n x).foldl (· ++ ·) acc).size = acc.size + n * x.size
  | 0, acc => by simp
  | n + 1, acc => by
    rw [List.replicate_succ, List.foldl_cons, foldl_app_size x n (acc ++ x), Array.size_append, Nat.succ_mul]
    omega
theorem mul_length (z : Str) (n : Int) (h0 : 0 ≤ n) : (Txt.mul z n).length = z.length * n.toNat := by
  unfold Txt.mul
  by_cases h1 : n < 1
  · rw [if_pos h1]
    have e : n = 0 := by omega
    subst e
    show Str.empty.length = _
    simp [Str.empty, Str.length]
  · rw [if_neg h1]
    by_cases h2 : (n == 1 || z.length == 0) = true
    · rw [if_pos h2]
      rcases Bool.or_eq_true_iff.mp h2 with h3 | h3
      · have e : n = 1 := by simpa using h3
        subst e; simp
      · have e : z.length = 0 := by simpa using h3
        rw [e]; simp
    · rw [if_neg h2]
      show ((List.replicate n.toNat z.cps).foldl (· ++ ·) #[]).size = z.cps.size * n.toNat
      rw [foldl_app_size]
      simp [Nat.mul_comm]

/-! ### a module's whole number -/
theorem pe_gint {X : Cx} {x : Str} {i : Int} {pos : Pos} (h : ∃ t, X.mg x = some (.int i t)) (hg : Gl X x) (hd : (x == ("__debug__" : Str)) = false := by decide) : PE X (.Name x pos) (tC (.int i)) := by
  obtain ⟨t, e⟩ := h
  exact pe_glob hg e ⟨t, rfl⟩ hd

/-! ### wishes about errors whose context is None -/
theorem passLN {X : Cx} : Passes (L2N.CX X.prog X.w) X E0 := fun _ _ _ _ _ _ _ h => by
  obtain ⟨_, _, _, _, _, _, _, _, _, _, _, _, z⟩ := h
  exact False.elim z
theorem takesN0 {X : Cx} : L2N.Takes X (fun _ _ _ _ => False) := fun _ _ x => by
  obtain ⟨_, _, _, _, _, _, _, _, _, _, _, _, _, _, _, _, z⟩ := x
  exact False.elim z
/-- X(e), its context None -/
theorem pmk_ownN1 {X : Cx} {D : Addr} {bs : List Value} {bn nw ini : String} {y : Str} {arg : Expr} {tw : TE} {p1 p2 : Pos} (F : ExcBaseFacts bn nw ini bs) (ei : PySem.W.excIn X.K D bs nw = true) (gD : X.mg y = some (.ref D))
    (kD : PySem.W.keepIn X.K (.ref D) = true) (rs : Raises X (.ref D)) (gl : Gl X y) (hw : PE X arg tw) (st : starEach [arg] X.env = (false, eval arg X.env) :: starEach [] X.env := by rfl)
    (db : (y == ("__debug__" : Str)) = false := by decide) : L2N.PMk X (.Call (.Name y p1) [arg] [] p2) (fun σ H Q => tw σ H fun _ J => Q (.ref D) none J) := fun pins s σ H Q I wish => by
  refine wpAny_Call_Name_kw (ld_glob I gl gD (PySem.W.callWith_K (h₀ := X.base) I.ok.mod.kin kD ?_ st (by rfl)) db)
  rw [st]
  refine Calls.spliced_cons (thn (hw.run pins s σ H _ I wish) fun u s1 got => Calls.spliced_nil ?_)
  obtain ⟨v, J, I1, _, q1⟩ := got
  refine ⟨I1.kIn, ?_⟩
  obtain ⟨_, _, _, _, _, _, _, _, _, _, _, _, _, _, _, _, _, a1, a2, a3, a4⟩ := exc_obj I1.kIn ei
  exact wpAny_call_exc_subT F a4 a1 a2 a3 (fun h' e made => L2N.mk_of I1 made rs q1 (I1.hok.gone made.new)) (Nat.le_trans (by decide : 1 ≤ 1000) (by decide))

/-! ### own defs, ready to be called -/
structure Dn (Pg : Program) (w : World) (K : PySem.W.Frag) (mg : Str → Option Value) (base : Heap) (k : Nat) (x : Str) (ps : List Str) (sp : Sp) : Prop where
  ex : ∃ f fd, FnOk Pg w K mg base (L2N.CX Pg w) k f fd ps sp ∧ mg x = some (.ref f) ∧ PySem.W.keepIn K (.ref f) = true ∧ Binds K fd ps []
section
variable {X : Cx} {k : Nat} {x : Str} {ps : List Str} {sp : Sp} {p pos : Pos} {e : Expr} {es : List Expr} {t : TA}
theorem pe_fnE {E : XK} (D : Dn X.prog X.w X.K X.mg X.base k x ps sp) (hr : Room k X.A) (hx : Passes (L2N.CX X.prog X.w) X E) (ha : PA X (e :: es) t) (hg : Gl X x := by rfl)
    (hdb : (x == ("__debug__" : Str)) = false := by decide) (he : starEach (e :: es) X.env = (false, eval e X.env) :: starEach es X.env := by rfl) (hpl : (backTo pos (starEach es X.env)).any (·.1) = false := by rfl) :
    PE X (.Call (.Name x p) (e :: es) [] pos) (tCall sp [] E t) := by
  obtain ⟨f, fd, F, hm, hk, hb⟩ := D.ex
  exact pe_call F hr hg hm hk hb .nil hx ha hdb he hpl
/-- a def that raises nothing that is wished -/
theorem pe_fn (D : Dn X.prog X.w X.K X.mg X.base k x ps sp) (hr : Room k X.A) (ha : PA X (e :: es) t) (hg : Gl X x := by rfl)
    (hdb : (x == ("__debug__" : Str)) = false := by decide) (he : starEach (e :: es) X.env = (false, eval e X.env) :: starEach es X.env := by rfl) (hpl : (backTo pos (starEach es X.env)).any (·.1) = false := by rfl) :
    PE X (.Call (.Name x p) (e :: es) [] pos) (tCall sp [] E0 t) := pe_fnE D hr passLN ha hg hdb he hpl
/-- in a try's body -/
theorem pe_fnS {E : L2.St → XK} (D : Dn X.prog X.w X.K X.mg X.base k x ps sp) (hr : Room k X.A) (hx : ∀ σ, PassesAt (L2N.CX X.prog X.w) X σ (E σ)) (ha : PA X (e :: es) t) (hg : Gl X x := by rfl)
    (hdb : (x == ("__debug__" : Str)) = false := by decide) (he : starEach (e :: es) X.env = (false, eval e X.env) :: starEach es X.env := by rfl) (hpl : (backTo pos (starEach es X.env)).any (·.1) = false := by rfl) :
    PE X (.Call (.Name x p) (e :: es) [] pos) (tCallS sp E t) := by
  obtain ⟨f, fd, F, hm, hk, hb⟩ := D.ex
  exact pe_callS F hr hg hm hk hb hx ha hdb he hpl
end

/-! ### own error classes -/
structure ExK (K : PySem.W.Frag) (mg : Str → Option Value) (x : Str) (C : Addr) (bm : List Value) : Prop where
  g : mg x = some (.ref C)
  k : PySem.W.keepIn K (.ref C) = true
  x : PySem.W.excIn K C bm "ValueError.__new__" = true
  b : PySem.W.subIn K (.ref C) (.type "BaseException") = some true
  t : PySem.W.typeIn K (.ref C) = some (.type "type")
/-- isinstance(e, c) in a suite -/
def rIsG (K : PySem.W.Frag) (a : Addr) (cls : Value) (d : Option Addr) : List V → Hp → VK → Prop := fun xs H Q => ∃ (D : Addr) (c : V) (cv : Value) (b : Bool), xs = [.ref a, c] ∧ cls = .ref D ∧ d = none ∧ ExcC K D ∧ (∀ u, RelV c u → u = cv) ∧ PySem.W.kitOne K (.ref D) cv = some b ∧ Q (.bl b) H
theorem call_isG {X : Cx} {a : Addr} {cls : Value} {d : Option Addr} {oe : Obj} {pn : List (Addr × Obj)} (hz : Zc cls d oe) (hf : ∃ vs, oe.data = .fields vs) : CallR (X.suite a ((a, oe) :: pn)) (.builtin "isinstance") (rIsG X.K a cls d) := by
  intro pins s σ H xs us Q I r h
  obtain ⟨D, c, cv, b, e1, e2, e3, C, hcv, e, q⟩ := h
  subst e2 e3
  exact call_isE C hz hf pins s σ H xs us Q I r ⟨c, cv, b, e1, hcv, e, q⟩

/-! ### heaps -/
theorem same_new {H : Hp} {p : Addr} {o : HO} (h : H p = none) : Same H (upd H p o) := fun b u e => by
  rw [upd_ne (ne_of_none e h)]; exact e
theorem same_mut {H H' : Hp} {p : Addr} {o : HO} (s : Same H H') (h : H p = none) : Same H (upd H' p o) := fun b u e => by
  rw [upd_ne (ne_of_none e h)]; exact s b u e
theorem same_t {K : PySem.W.Frag} {H H' : Hp} {a : Addr} {xs : List V} (e : Same H H') (h : SqT K H a xs) : SqT K H' a xs := by
  rcases h with (h | ⟨o, h⟩) | h
  · exact .inl (.inl (e _ _ h))
  · exact .inl (.inr ⟨o, e _ _ h⟩)
  · exact .inr h
mutual
theorem Dp.same {K : PySem.W.Frag} {H H' : Hp} (s : Same H H') : ∀ {d : PyData} {v : V}, Dp K H v d → Dp K H' v d
  | _, _, .non => .non
  | _, _, .bl b => .bl b
  | _, _, .int i => .int i
  | _, _, .str x => .str x
  | _, _, .lst h ha => .lst (s.seq h) (DpAll.same s ha)
  | _, _, .tup h ha => .tup (same_t s h) (DpAll.same s ha)
theorem DpAll.same {K : PySem.W.Frag} {H H' : Hp} (s : Same H H') : ∀ {ds : List PyData} {vs : List V}, DpAll K H vs ds → DpAll K H' vs ds
  | _, _, .nil => .nil
  | _, _, .cons h ha => .cons (Dp.same s h) (DpAll.same s ha)
end
theorem szl {n : Nat} (h : n ≤ 100000) : n ≤ sizeLine := Nat.le_trans h (by decide)
theorem szlt {n : Nat} (h : n < 100000) : n < sizeLine := Nat.lt_of_lt_of_le h (by decide)
end Fb

namespace Fb
open PySem PySem.Spec PyProof.Rows L2
/-! ### the law's own call: the tables are shut -/
def shut (Ps : List Addr) (H : Hp) : Hp := fun b => if b ∈ Ps then some (TabO b) else H b
theorem shut_in {Ps : List Addr} {H : Hp} {b : Addr} (h : b ∈ Ps) : shut Ps H b = some (TabO b) := if_pos h
theorem shut_out {Ps : List Addr} {H : Hp} {b : Addr} (h : b ∉ Ps) : shut Ps H b = H b := if_neg h
def reopen (Ps : List Addr) (h : Heap) (H : Hp) : Hp := fun b => if b ∈ Ps then (match h.get? b with | some o => (match o.data with | .fields ps => some (.tbl ps) | _ => H b) | none => H b) else H b
theorem reopen_in {Ps : List Addr} {h : Heap} {H : Hp} {b : Addr} {ps : Array Value} (hb : b ∈ Ps) (e : h.get? b = some { cls := .none, data := .fields ps }) : reopen Ps h H b = some (.tbl ps) := by
  unfold reopen
  rw [if_pos hb, e]
theorem reopen_out {Ps : List Addr} {h : Heap} {H : Hp} {b : Addr} (hb : b ∉ Ps) : reopen Ps h H b = H b := if_neg hb
theorem FnOk.tabs {Pg : Program} {w : World} {K : PySem.W.Frag} {mg : Str → Option Value} {base : Heap} {k : Nat} {f : Addr} {fd : FuncData} {ps : List Str} {sp : Sp} {Ps : List Addr} (F : FnOk Pg w K mg base (L2N.CX Pg w) k f fd ps sp) :
    FnOk Pg w K mg base (L2N.CX Pg w) k f fd ps (fun vs H Q E => (∀ p ∈ Ps, H p = some (.tbl #[])) ∧ sp vs (shut Ps H) (fun v H' => (∀ p ∈ Ps, H' p = some (TabO p)) ∧ ∀ H2, Q v H2) (fun _ _ _ => False)) := by
  refine ⟨fun vs H Q E q => F.len _ _ _ _ q.2, fun A outer s H args us vs Q E hr he hb hv hs => ?_⟩
  obtain ⟨hT, hs⟩ := hs
  have tabs : ∀ p ∈ Ps, s.heap.get? p = some { cls := .none, data := .fields #[] } := fun p hp => he.hok p _ (hT p hp)
  have nb : ∀ b u, H b = some u → (∀ q, u ≠ .tbl q) → b ∉ Ps := fun b u e h1 hp => by
    rw [hT b hp] at e
    cases e
    exact h1 _ rfl
  have nn : ∀ b, H b = none → b ∉ Ps := fun b e hp => by rw [hT b hp] at e; cases e
  have he' : Env0 Pg w K mg base A outer s (shut Ps H) := by
    refine ⟨he.frames, he.mod, fun b o e => ⟨(he.bs b o e).1, by rw [shut_out (nn b (he.bs b o e).2)]; exact (he.bs b o e).2⟩, he.bsz, he.funs, fun b hb => by rw [shut_out (nn b (he.frf b hb))]; exact he.frf b hb, fun a o e => ?_, he.bare⟩
    by_cases ha : a ∈ Ps
    · rw [shut_in ha] at e
      cases e
      exact tabO_ok (tabs a ha) trivial
    · rw [shut_out ha] at e
      refine (he.hok a o e).stay (fun d v _ q => q) (fun d q => ?_) fun d xs q => ?_
      · rw [shut_out (nb d _ q fun _ z => nomatch z)]; exact q
      · rw [shut_out (nb d _ q fun _ z => nomatch z)]; exact q
  refine codeAny_mono (F.run A outer s (shut Ps H) args us vs _ _ hr he' hb hv hs) fun r s' h => ?_
  cases r with
  | error e =>
    obtain ⟨_, _, _, _, _, _, _, _, _, _, _, _, z⟩ := h
    exact z.elim
  | ok fl =>
    cases fl with
    | next => exact False.elim h
    | brk => exact False.elim h
    | cont => exact False.elim h
    | ret u =>
      obtain ⟨v, H', os, bare, un, hok, r, hP, q⟩ := h
      have tb : ∀ p ∈ Ps, ∃ ps : Array Value, s'.heap.get? p = some { cls := .none, data := .fields ps } := fun p hp => by
        obtain ⟨⟨qs, e, _⟩, _, _⟩ := hok p _ (hP p hp)
        exact ⟨qs, e⟩
      have n2 : ∀ b u, H' b = some u → (∀ a, u ≠ TabO a) → b ∉ Ps := fun b u e h1 hp => by
        rw [hP b hp] at e
        cases e
        exact h1 _ rfl
      refine ⟨v, reopen Ps s'.heap H', os, bare, ⟨fun b o e n => un.keep b o e (by rw [shut_out (nn b n)]; exact n), fun b o e n => un.slot b o e (by rw [shut_out (nn b n)]; exact n), fun b o e n hx => ?_, un.there, fun b xs e => ?_, fun b o u e => ?_, fun b qs e => ?_⟩, fun a o e => ?_, r, q _⟩
      · rw [reopen_out (nn b n)]
        exact un.free b o e (by rw [shut_out (nn b n)]; exact n) hx
      · have h1 := nb b _ e fun _ z => nomatch z
        rw [reopen_out h1]
        exact un.tups b xs (by rw [shut_out h1]; exact e)
      · have h1 := nb b _ e fun _ z => nomatch z
        rw [reopen_out h1]
        exact un.frzs b o u (by rw [shut_out h1]; exact e)
      · by_cases hb : b ∈ Ps
        · rw [hT b hb] at e
          cases e
          obtain ⟨ps, e2⟩ := tb b hb
          exact ⟨ps, by rw [reopen_in hb e2]; simp⟩
        · rw [reopen_out hb]
          exact un.tbls b qs (by rw [shut_out hb]; exact e)
      · by_cases ha : a ∈ Ps
        · obtain ⟨ps, e2⟩ := tb a ha
          rw [reopen_in ha e2] at e
          cases e
          exact e2
        · rw [reopen_out ha] at e
          refine (hok a o e).stay (fun d v _ q => q) (fun d q => ?_) fun d xs q => ?_
          · rw [reopen_out (n2 d _ q fun _ z => nomatch z)]; exact q
          · rw [reopen_out (n2 d _ q fun _ z => nomatch z)]; exact q

/-! ### the end -/
/-- what the ground says of a def's table -/
def TabN (mg : Str → Option Value) (h : Heap) (x : Str) : Prop := ∃ (a c P : Addr) (o : Obj) (fd : FuncData), mg x = some (.ref a) ∧ h.get? a = some o ∧ o.data = .func fd ∧ fd.code = .ref c ∧ PySem.W.CodeHd h c P ∧ h.get? P = some { cls := .none, data := .fields #[] } ∧ ∃ oc vc, h.get? c = some oc ∧ oc.data = .fields vc ∧ vc[11]? = some (.ref P)
/-- what is to be shown of the law at the head's heap -/
def LawT (l : PySem.W.OpenLaw) (w : World) (K : PySem.W.Frag) (k n : Nat) (x : Str) (mg : Str → Option Value) (fa : Addr) (h : Heap) : Prop :=
  ∃ (fd : FuncData) (cs : List (Addr × Addr)) (sp : Sp), (∀ p ∈ cs, h.get? p.2 = some { cls := .none, data := .fields #[] }) ∧ (∀ p ∈ cs, K.lookup p.2 = none) ∧ (∀ p ∈ cs, PySem.W.CodeHd h p.1 p.2) ∧ (∀ (s : Shared) (u : Value), BindsTo s fd ⟨[u], []⟩ [(x, u)]) ∧
    (∀ (H : Hp) (a : Addr) (ns : List Int), ns.length ≤ n → (∀ z ∈ ns, Builtin.Int.intBits z ≤ 1048576) → (∀ p ∈ cs, H p.2 = some (TabO p.2)) → SqL K H a (ns.map V.int) → sp [.ref a] H (fun v H' => (∀ p ∈ cs, H' p.2 = some (TabO p.2)) ∧ v = .bl true) fun _ _ _ => False) ∧
    ∀ base : Heap, K.In base → base.Ns mainGlobals mg → (∀ p ∈ cs, GxR.TabB base mg p.1 p.2) → FnOk l.prog w K mg base (L2N.CX l.prog w) k fa fd [x] sp
theorem walk_tab {l : PySem.W.OpenLaw} {n k : Nat} {q : Program} {loose : List Str} {XP : (Str → Option Value) → Heap → Prop} {YP : World → Heap → Prop} {d : DefRec} {K : Params → PySem.W.Frag} {x : Str} (gs : List Str)
    (hn : l.most = some n) (hn2 : n ≤ sizeLine) (hdf : d.params.defaults = []) (hr : Room k callerA) (hrec : ∀ g ∈ gs, ((recsOf q).any fun e => e.name == g) = true) (hY : ∀ (w : World) (h : Heap), YP w h → (K w.params).In h)
    (F : ∀ (w : World) (mg : Str → Option Value) (fa : Addr) (h : Heap), YP w h → (K w.params).In h → h.Ns mainGlobals mg → mg d.name = some (.ref fa) → (∀ g ∈ gs, TabN mg h g) → LawT l w (K w.params) k n x mg fa h) :
    PySem.W.WalkO q loose XP YP l.row.toRowW d [] (fun f vs => PySem.call f vs) := by
  refine Att.attach_callB hn hdf fun w s₀ s₁ mg mb fa o pm cd doc a vs ns G Y ho hd hcd hmg hobj hints hlen hbits hg => ?_
  have KX := hY w _ Y
  have tabs : ∀ g ∈ gs, TabN mg s₁.heap g := fun g hgm => by
    obtain ⟨dL, hm, hn1⟩ := List.any_eq_true.mp (hrec g hgm)
    have hn2 : dL.name = g := beq_iff_eq.mp hn1
    obtain ⟨a', o', fd', c', P', h1, h2, h3, h4, h5, h6⟩ := G.T.tab dL hm
    rw [hn2] at h1
    obtain ⟨⟨oc, vc, e1, e2, e3, e4⟩, hP⟩ := id h6
    exact ⟨a', c', P', o', fd', h1, h2, h3, h4, PySem.W.CodeHd.of h5 h6, hP, oc, vc, e1, e3, e4⟩
  obtain ⟨fd, cs, sp, hT, nT, C, hb, hsp, hF⟩ := F w mg fa _ Y KX G.T.g hmg tabs
  refine LamX.law_callTs (CX := L2N.CX l.prog w) (cs := cs) KX G.T.g G.T.b G.T.builtins G.T.nolimit hg hT nT C G.T.bmain hobj hints (Nat.le_trans hlen hn2) hr (fun base hK hN hB => FnOk.tabs (Ps := cs.map (·.2)) (hF base hK hN fun p hp => ⟨(hB p hp).code, (hB p hp).bm, (hB p hp).gP⟩)) hb (fun H hH hS => ⟨?ga, ?gb⟩) fun H e s' h => ?gc
  case ga =>
    intro p hp
    obtain ⟨y, hy, e⟩ := List.mem_map.mp hp
    rw [← e]; exact hH y hy
  case gb =>
    have na : a ∉ cs.map (·.2) := fun z => by
      obtain ⟨y, hy, e⟩ := List.mem_map.mp z
      have q := hT y hy
      rw [e, hobj] at q
      have z' : Data.seq vs.toArray _ = Data.fields #[] := congrArg Obj.data (Option.some.inj q)
      cases z'
    have hS' : SqL (K w.params) (shut (cs.map (·.2)) H) a (ns.map V.int) := by
      rcases hS with (z | ⟨o, z⟩) | z
      · exact .inl (.inl (by rw [shut_out na]; exact z))
      · exact .inl (.inr ⟨o, by rw [shut_out na]; exact z⟩)
      · exact .inr z
    have r := hsp (shut (cs.map (·.2)) H) a ns hlen hbits (fun p hp => shut_in (List.mem_map.mpr ⟨p, hp, rfl⟩)) hS'
    refine cast (congrArg (fun Q => sp [.ref a] (shut (cs.map (·.2)) H) Q fun _ _ _ => False) ?_) r
    funext v H'
    refine propext ⟨fun ⟨h1, h2⟩ => ⟨fun p hp => ?_, fun _ => h2⟩, fun ⟨h1, h2⟩ => ⟨fun p hp => h1 _ (List.mem_map.mpr ⟨p, hp, rfl⟩), h2 H'⟩⟩
    obtain ⟨y, hy, e⟩ := List.mem_map.mp hp
    rw [← e]; exact h1 y hy
  case gc =>
    obtain ⟨_, _, _, _, _, _, _, _, _, _, _, _, z⟩ := h
    exact z
end Fb
namespace Fb
open PySem L2
theorem ifD {p A B : Prop} [Decidable p] (h1 : p → A) (h2 : ¬ p → B) : if decide p = true then A else B := by
  by_cases h : p
  · rw [if_pos (decide_eq_true h)]; exact h1 h
  · rw [if_neg (by simp [h])]; exact h2 h
theorem ifB {c : Bool} {A B : Prop} (h1 : c = true → A) (h2 : c = false → B) : if c = true then A else B := by
  cases c with
  | true => rw [if_pos rfl]; exact h1 rfl
  | false => rw [if_neg Bool.false_ne_true]; exact h2 rfl
theorem ifP {p A B : Prop} [Decidable p] (h : p) (a : A) : if decide p = true then A else B := by rw [if_pos (decide_eq_true h)]; exact a
theorem ifN {p A B : Prop} [Decidable p] (h : ¬ p) (b : B) : if decide p = true then A else B := by rw [if_neg (by simp [h])]; exact b
theorem atI_map {ns : List Int} {j : Int} (h0 : 0 ≤ j) (h1 : j.toNat < ns.length) : atI (ns.map V.int) j = some (.int (ns.getD j.toNat 0)) := by
  have h2 : ixN (ns.map V.int).length j = some j.toNat := by
    unfold ixN
    rw [List.length_map, if_pos h0, if_pos (by omega)]
  unfold atI
  rw [h2]
  show (ns.map V.int)[j.toNat]? = _
  rw [List.getElem?_map, List.getElem?_eq_getElem h1]
  simp [List.getD, List.getElem?_eq_getElem h1]
theorem atI_of {α : Type} {xs : List α} {j : Int} {v : α} (h0 : 0 ≤ j) (h : xs[j.toNat]? = some v) : atI xs j = some v := by
  have hl : j.toNat < xs.length := (List.getElem?_eq_some_iff.mp h).1
  have h2 : ixN xs.length j = some j.toNat := by
    unfold ixN
    rw [if_pos h0, if_pos (by omega)]
  unfold atI
  rw [h2]
  exact h
end Fb

namespace Fb
open PySem PySem.Spec PyProof.Rows L2
/-! ### texts by their signs -/
/-- a text of at most n signs, each of them one that the model knows -/
def okS (n : Nat) (z : Str) : Prop := z.length ≤ n ∧ ∀ c ∈ z.cps.toList, c < 1114112
theorem len_tl (z : Str) : z.length = z.cps.toList.length := by simp [Str.length]
theorem okS.mono {n m : Nat} {z : Str} (h : okS n z) (hm : n ≤ m) : okS m z := ⟨Nat.le_trans h.1 hm, h.2⟩
theorem cps_app (a b : Str) : (a ++ b).cps.toList = a.cps.toList ++ b.cps.toList := by
  show (a.cps ++ b.cps).toList = _
  simp
theorem len_app (a b : Str) : (a ++ b).length = a.length + b.length := by
  rw [len_tl, cps_app, List.length_append, ← len_tl, ← len_tl]
theorem okS.app {n m : Nat} {a b : Str} (h : okS n a) (g : okS m b) : okS (n + m) (a ++ b) := by
  refine ⟨by rw [len_app]; exact Nat.add_le_add h.1 g.1, fun c hc => ?_⟩
  rw [cps_app] at hc
  exact (List.mem_append.mp hc).elim (h.2 c) (g.2 c)
theorem cut_len (z : Str) (lo hi : Option Int) : (cutS z lo hi).length ≤ z.length := by
  rw [len_tl, len_tl]
  unfold cutS
  show (_ : List Nat).length ≤ _
  rw [List.length_take, List.length_drop]
  omega
theorem okS.cut {n : Nat} {z : Str} (h : okS n z) (lo hi : Option Int) : okS n (cutS z lo hi) := by
  refine ⟨Nat.le_trans (cut_len z lo hi) h.1, fun c hc => h.2 c ?_⟩
  have h1 : c ∈ ((z.cps.toList.drop (HT.sIx z.length 0 lo)).take (HT.sIx z.length z.length hi - HT.sIx z.length 0 lo)) := hc
  exact List.mem_of_mem_drop (List.mem_of_mem_take h1)
/-- cut at most k signs from the front -/
theorem cut_to (z : Str) (k : Nat) : (cutS z none (some (k : Int))).length ≤ k := by
  rw [len_tl]
  unfold cutS
  show (_ : List Nat).length ≤ _
  rw [List.length_take, HT.sIx_none, HT.sIx_nat]
  omega
theorem okS.one {c : Nat} (h : c < 1114112) : okS 1 ⟨#[c]⟩ := by
  refine ⟨Nat.le_refl _, fun d hd => ?_⟩
  have e : d = c := by simpa using hd
  rw [e]; exact h
theorem mem_rep {x : Array Nat} {c : Nat} : ∀ (n : Nat) (acc : Array Nat), c ∈ ((List.replicate n x).foldl (· ++ ·) acc).toList → c ∈ acc.toList ∨ c ∈ x.toList
  | 0, acc, h => Or.inl h
  | n + 1, acc, h => by
    rw [List.replicate_succ, List.foldl_cons] at h
    rcases mem_rep n (acc ++ x) h with g | g
    · rw [Array.toList_append] at g
      exact (List.mem_append.mp g)
    · exact Or.inr g
theorem okS.mul {n : Nat} {z : Str} {k : Int} (h : okS n z) (h0 : 0 ≤ k) : okS (n * k.toNat) (Txt.mul z k) := by
  refine ⟨by rw [mul_length z k h0]; exact Nat.mul_le_mul_right _ h.1, fun c hc => h.2 c ?_⟩
  unfold Txt.mul at hc
  split at hc
  · simp [Str.empty] at hc
  · split at hc
    · exact hc
    · rcases mem_rep _ _ hc with g | g
      · simp at g
      · exact g
theorem okS_data {n : Nat} {z : Str} (h : okS n z) : PyData.strOk z = true := by
  unfold PyData.strOk
  rw [Array.all_eq_true]
  intro i hi
  exact decide_eq_true (h.2 _ (by rw [← Array.getElem_toList]; exact List.getElem_mem _))
theorem joinL_nil : ∀ parts : List (List Nat), TL.joinL [] parts = parts.flatten
  | [] => rfl
  | [p] => by simp [TL.joinL]
  | p :: q :: r => by
    show p ++ ([] ++ TL.joinL [] (q :: r)) = _
    rw [joinL_nil (q :: r)]
    simp
theorem join_tl (y : Str) (hy : y.cps.toList = []) (ys : List Str) : (Txt.join y ys).cps.toList = (ys.map TL.tl).flatten := by
  rw [TL.join_eq]
  show TL.tl _ = _
  rw [TL.tl_join, show TL.tl y = [] from hy, joinL_nil]
theorem okS.join {y : Str} (hy : y.cps.toList = []) {ys : List Str} {n : Nat} (hn : ys.length ≤ n) (h : ∀ z ∈ ys, okS 1 z) : okS n (Txt.join y ys) := by
  refine ⟨?_, fun c hc => ?_⟩
  · rw [len_tl, join_tl y hy]
    refine Nat.le_trans ?_ hn
    clear hn
    induction ys with
    | nil => simp
    | cons z r ih =>
      have h1 := (h z List.mem_cons_self).1
      have h2 := ih fun q hq => h q (List.mem_cons_of_mem _ hq)
      rw [len_tl] at h1
      simp only [List.map_cons, List.flatten_cons, List.length_append, List.length_cons]
      show z.cps.toList.length + _ ≤ _
      omega
  · rw [join_tl y hy] at hc
    obtain ⟨l, hl, hc⟩ := List.mem_flatten.mp hc
    obtain ⟨z, hz, rfl⟩ := List.mem_map.mp hl
    exact (h z hz).2 c hc
theorem sum_ones {ys : List Str} (h : ∀ z ∈ ys, okS 1 z) : (ys.map (·.length)).sum ≤ ys.length := by
  induction ys with
  | nil => simp
  | cons z r ih =>
    have h1 := (h z List.mem_cons_self).1
    have h2 := ih fun q hq => h q (List.mem_cons_of_mem _ hq)
    simp only [List.map_cons, List.sum_cons, List.length_cons]
    omega

/-! ### comprehensions over a range, over a list: each turn leaves what stood; R: what is known of the i-th item, for good (D itself, the new list, grows) -/
/-- what stood anywhere but at D stands -/
def SameB (D : Addr) (H H' : Hp) : Prop := ∀ b o, b ≠ D → H b = some o → H' b = some o
theorem Same.but {D : Addr} {H H' : Hp} (s : Same H H') : SameB D H H' := fun b o _ e => s b o e
section
variable {K : PySem.W.Frag} {te : TE} {vs : List Nat} {σ : L2.St} {H1 : Hp} {D : Addr} {Qd : Hp → Prop}
theorem yes_go {Q : VK} {N : Hp → Prop} {H : Hp} (h : te σ H Q) : tYes σ H fun b H3 => if b = true then te σ H3 Q else N H3 := by
  show (if true = true then te σ H Q else N H)
  exact iteT h
theorem lc_step {R : Nat → V → Hp → Prop} {i : Nat} {ys : List V} {v : V} {H H' : Hp} (hR : ∀ i v H H', SameB D H H' → R i v H → R i v H') (hl : ys.length = i) (s2 : Same H H') (hr : ∀ k u, ys[k]? = some u → R k u H) (r : R i v H') :
    ∀ k u, (ys ++ [v])[k]? = some u → R k u (upd H' D (.lst (ys ++ [v]))) := fun k u e => by
  have hu : SameB D H' (upd H' D (.lst (ys ++ [v]))) := fun b o nb e => by rw [upd_ne nb]; exact e
  by_cases hk : k < ys.length
  · rw [List.getElem?_append_left hk] at e
    exact hR _ _ _ _ hu (hR _ _ _ _ (Same.but s2) (hr k u e))
  · have hk2 : k = i := by
      have h3 := (List.getElem?_eq_some_iff.mp e).1
      rw [List.length_append] at h3
      simp at h3
      omega
    subst hk2
    rw [List.getElem?_append_right (by omega), hl, Nat.sub_self] at e
    have e2 : v = u := by simpa using e
    subst e2
    exact hR _ _ _ _ hu r
theorem lc_rangeR {lo : Int} {n j : Nat} (R : Nat → V → Hp → Prop) (hR : ∀ i v H H', SameB D H H' → R i v H → R i v H') (hD : H1 D = none) (hn : n ≤ 100000) (hw : ∀ v, wipe ((wipe σ vs).set j (some v)) vs = wipe σ vs)
    (hs : ∀ i H acc, i < n → Same H1 H → H D = some (.lst acc) → ∀ Q : VK, (∀ v H', Same H H' → R i v H' → Q v H') → te ((wipe σ vs).set j (some (.int (lo + i)))) H Q)
    (hd : ∀ H ys, Same H1 H → H D = some (.lst ys) → ys.length = n → (∀ i v, ys[i]? = some v → R i v H) → Qd H) :
    ∃ W : Nat → Nat → Hp → Prop, (∃ m, W 0 m (upd H1 D (.lst []))) ∧ ∀ i m H, W i m H →
      ((Itr lo n).stop i H ∧ Qd H) ∨ ((Itr lo n).go i H ∧ ∃ Nx : Hp → Prop, (∀ H', Nx H' → ∃ m', m' < m ∧ W (i + 1) m' H') ∧ ∀ x H', (Itr lo n).yld i H x H' → (gName j) x (wipe σ vs) H' fun σ2 H2 => wipe σ2 vs = wipe σ vs ∧ tYes σ2 H2 fun b H3 =>
        if b = true then te σ2 H3 fun y H4 => ∃ acc, H4 D = some (.lst acc) ∧ acc.length < sizeLine ∧ Nx (upd H4 D (.lst (acc ++ [y]))) else Nx H3) := by
  refine lc_range (fun i H => ∃ ys, Same H1 H ∧ H D = some (.lst ys) ∧ ys.length = i ∧ ∀ k v, ys[k]? = some v → R k v H) ⟨[], same_new hD, upd_same, rfl, fun k v e => by simp at e⟩ ?_ ?_
  · rintro i H hi ⟨ys, s1, hDl, hl, hr⟩
    refine ⟨hw _, ?_⟩
    refine yes_go ?_
    exact hs i H ys hi s1 hDl _ fun v H' s2 r => ⟨ys, s2 _ _ hDl, szlt (by omega), ys ++ [v], same_mut (Same.trans s1 s2) hD, upd_same, by rw [List.length_append]; simp [hl], lc_step hR hl s2 hr r⟩
  · rintro H ⟨ys, s1, hDl, hl, hr⟩
    exact hd H ys s1 hDl hl hr
theorem lc_listR {a : Addr} {xs : List V} {j : Nat} (R : Nat → V → Hp → Prop) (hR : ∀ i v H H', SameB D H H' → R i v H → R i v H') (hD : H1 D = none) (hx : SqL K H1 a xs) (hn : xs.length ≤ 100000) (hw : ∀ v, wipe ((wipe σ vs).set j (some v)) vs = wipe σ vs)
    (hs : ∀ i x H acc, xs[i]? = some x → Same H1 H → H D = some (.lst acc) → ∀ Q : VK, (∀ v H', Same H H' → R i v H' → Q v H') → te ((wipe σ vs).set j (some x)) H Q)
    (hd : ∀ H ys, Same H1 H → H D = some (.lst ys) → ys.length = xs.length → (∀ i v, ys[i]? = some v → R i v H) → Qd H) :
    ∃ W : Nat → Nat → Hp → Prop, (∃ m, W 0 m (upd H1 D (.lst []))) ∧ ∀ i m H, W i m H →
      ((Itl K a).stop i H ∧ Qd H) ∨ ((Itl K a).go i H ∧ ∃ Nx : Hp → Prop, (∀ H', Nx H' → ∃ m', m' < m ∧ W (i + 1) m' H') ∧ ∀ x H', (Itl K a).yld i H x H' → (gName j) x (wipe σ vs) H' fun σ2 H2 => wipe σ2 vs = wipe σ vs ∧ tYes σ2 H2 fun b H3 =>
        if b = true then te σ2 H3 fun y H4 => ∃ acc, H4 D = some (.lst acc) ∧ acc.length < sizeLine ∧ Nx (upd H4 D (.lst (acc ++ [y]))) else Nx H3) := by
  refine lc_list (K := K) (a := a) (xs := xs) (fun i H => ∃ ys, Same H1 H ∧ H D = some (.lst ys) ∧ ys.length = i ∧ ∀ k v, ys[k]? = some v → R k v H) ⟨[], same_new hD, upd_same, rfl, fun k v e => by simp at e⟩ (fun i H _ ⟨_, s1, _⟩ => s1.seq hx) ?_ ?_
  · rintro i x H hi ⟨ys, s1, hDl, hl, hr⟩
    have hil := (List.getElem?_eq_some_iff.mp hi).1
    refine ⟨hw _, ?_⟩
    refine yes_go ?_
    exact hs i x H ys hi s1 hDl _ fun v H' s2 r => ⟨ys, s2 _ _ hDl, szlt (by omega), ys ++ [v], same_mut (Same.trans s1 s2) hD, upd_same, by rw [List.length_append]; simp [hl], lc_step hR hl s2 hr r⟩
  · rintro H ⟨ys, s1, hDl, hl, hr⟩
    exact hd H ys s1 hDl hl hr
end

/-! ### for k, x in enumerate(xs) -/
theorem for_enum {K : PySem.W.Frag} {a : Addr} {xs : List V} {g : TG} {tb : TS} {D : Ends} {σ : L2.St} {H : Hp} (Pv : Nat → L2.St → Hp → Prop) (h0 : Pv 0 σ H) (hl : ∀ i σ H, i ≤ xs.length → Pv i σ H → SqL K H a xs)
    (hs : ∀ i x σ H T, xs[i]? = some x → Pv i σ H → H T = none → g (.ref T) σ (upd H T (.tup [.int (i : Nat), x])) fun σ2 H2 => tb { D with nx := Pv (i + 1), ct := Pv (i + 1), bk := D.nx } σ2 H2) (hd : ∀ σ H, Pv xs.length σ H → D.nx σ H) :
    ∃ W : Nat → Nat → L2.St → Hp → Prop, (∃ m, W 0 m σ H) ∧ ∀ i m σ H, W i m σ H →
      ((Ite K a).stop i H ∧ D.nx σ H) ∨ ((Ite K a).go i H ∧ ∃ N : L2.St → Hp → Prop, (∀ σ' H', N σ' H' → ∃ m', m' < m ∧ W (i + 1) m' σ' H') ∧ ∀ x H', (Ite K a).yld i H x H' → g x σ H' fun σ2 H2 => tb { D with nx := N, ct := N, bk := D.nx } σ2 H2) := by
  refine ⟨fun i m σ H => m = xs.length - i ∧ i ≤ xs.length ∧ Pv i σ H, ⟨xs.length, by simp, Nat.zero_le _, h0⟩, ?_⟩
  rintro i m σ H ⟨rfl, hi, p⟩
  have q := hl i σ H hi p
  by_cases hlt : i < xs.length
  · refine .inr ⟨⟨xs, xs[i], q, by simp [hlt]⟩, Pv (i + 1), fun σ' H' p' => ⟨xs.length - (i + 1), by omega, rfl, hlt, p'⟩, fun x H' y => ?_⟩
    obtain ⟨T, x', rfl, hT, rfl, y⟩ := y
    exact hs i x' σ H T (y xs q) p hT
  · have e : i = xs.length := by omega
    subst e
    exact .inl ⟨⟨xs, q, Nat.le_refl _⟩, hd σ H p⟩

/-! ### the letters -/
abbrev abc : Str := Str.ofString "abcdefghijklmnopqrstuvwxyz"
theorem abc_list : abc.cps.toList = (List.range 26).map (· + 97) := by decide +kernel
theorem abc_len : abc.length ≤ sizeLine := by
  rw [len_tl, abc_list]
  simp
  decide
theorem abc_at {i : Int} (h0 : 0 ≤ i) (h1 : i < 26) : atI abc.cps.toList i = some (i.toNat + 97) := by
  refine atI_of h0 ?_
  rw [abc_list, List.getElem?_map, List.getElem?_range (by omega)]
  rfl
theorem abc_mem (c : Nat) : c ∈ abc.cps.toList ↔ 97 ≤ c ∧ c ≤ 122 := by
  rw [abc_list, List.mem_map]
  constructor
  · rintro ⟨k, hk, rfl⟩
    have := List.mem_range.mp hk
    omega
  · intro h
    exact ⟨c - 97, List.mem_range.mpr (by omega), by omega⟩
/-- signs written in the text -/
theorem at_small {z : Str} {n : Nat} {i : Int} (hn : z.cps.toList.length = n) (hc : z.cps.toList.all (· < 1114112) = true) (h0 : 0 ≤ i) (h1 : i < n) : ∃ c, atI z.cps.toList i = some c ∧ c < 1114112 := by
  have hl : i.toNat < z.cps.toList.length := by omega
  refine ⟨z.cps.toList[i.toNat], atI_of h0 (List.getElem?_eq_getElem hl), ?_⟩
  exact of_decide_eq_true (List.all_eq_true.mp hc _ (List.getElem_mem hl))
theorem mulSmall {i j : Int} (h0 : -1000000000000000000 ≤ i) (h1 : i ≤ 1000000000000000000) : CMul i j := .inl ⟨by omega, by omega⟩
theorem mulSmall2 {i j : Int} (h0 : -1000000000000000000 ≤ j) (h1 : j ≤ 1000000000000000000) : CMul i j := .inr ⟨by omega, by omega⟩
theorem atI_mem {xs : List V} {i : Int} (h0 : 0 ≤ i) (h1 : i < xs.length) : ∃ v, atI xs i = some v ∧ v ∈ xs := by
  have hl : i.toNat < xs.length := by omega
  exact ⟨xs[i.toNat], atI_of h0 (List.getElem?_eq_getElem hl), List.getElem_mem hl⟩
end Fb

namespace Fb
open PySem PySem.Spec PyProof.Rows L2
/-! ### a def whose code object is known -/
structure FunC (K : PySem.W.Frag) (x qual : Str) (st : Stmt) (f : Addr) (fd : FuncData) (c : Addr) : Prop where
  ex : ∃ (oc : Value) (od : Option Addr) (kV doc pm : Value) (an : Option Addr) (ct : Value) (osl : Array (Option Value)),
    fd = PySem.W.fnOf x qual (defArgs st) (defBody st) (defScope st) .none kV doc pm an (.ref c) ct ∧ K.lookup f = some ⟨oc, od, .func fd, osl⟩ ∧ PySem.W.codeIn K (.ref c) qual = true
section
variable {P : Program} {w : World} {K : PySem.W.Frag} {mg : Str → Option Value} {base : Heap}
theorem FunC.okX {x qual : Str} {st : Stmt} {f c : Addr} {fd : FuncData} {N ps : List Str} {k : Nat} {sp : Sp} (F : FunC K x qual st f fd c) (S : FnScope N ps (defScope st)) (len : ∀ vs H Q E, sp vs H Q E → vs.length = ps.length)
    (hbody : ∀ (A : Around) (outer : List Env) (s : Shared) (H : Hp) (vs : List V) (Q : VK) (E : XK), Room k (A.deeper (envOfC qual (defScope st) s.heap.objs.size f (.ref c))) → sp vs H Q E →
      ∃ t, PSs (cxOf (L2N.CX P w) P w K mg base N qual (defScope st) f (.ref c) A outer s H E) (defBody st) t ∧ t { nx := fun _ H' => Q .non H', rt := Q } (start N vs) H) : FnOk P w K mg base (L2N.CX P w) (k + 1) f fd ps sp := by
  obtain ⟨oc, od, kV, doc, pm, an, ct, osl, rfl, lk, hcd⟩ := F.ex
  exact fn_of lk hcd S len fun A outer s H vs Q E hr hsp => hbody A outer s H vs Q E hr hsp
end
/-! ### flat data: None, truth values, numbers, texts -/
def dat : V → PyData
  | .non => .none
  | .bl b => .bool b
  | .int i => .int i
  | .str z => .str z
  | _ => .none
def flat (v : V) : Prop := v = .non ∨ (∃ b, v = .bl b) ∨ (∃ i, v = .int i) ∨ ∃ z, v = .str z ∧ PyData.strOk z = true
theorem dp_flat {K : PySem.W.Frag} {H : Hp} {v : V} (h : flat v) : Dp K H v (dat v) := by
  rcases h with rfl | ⟨b, rfl⟩ | ⟨i, rfl⟩ | ⟨z, rfl, _⟩
  · exact .non
  · exact .bl b
  · exact .int i
  · exact .str z
theorem dpAll_flat {K : PySem.W.Frag} {H : Hp} : ∀ {xs : List V}, (∀ v ∈ xs, flat v) → DpAll K H xs (xs.map dat)
  | [], _ => .nil
  | v :: r, h => .cons (dp_flat (h v List.mem_cons_self)) (dpAll_flat fun u hu => h u (List.mem_cons_of_mem _ hu))
theorem lay_flat {v : V} (h : flat v) : PyData.canLay0 (dat v) = true ∧ PyData.depth (dat v) = 0 := by
  rcases h with rfl | ⟨b, rfl⟩ | ⟨i, rfl⟩ | ⟨z, rfl, hz⟩
  · exact ⟨by simp [dat, PyData.canLay0], by simp [dat, PyData.depth]⟩
  · exact ⟨by simp [dat, PyData.canLay0], by simp [dat, PyData.depth]⟩
  · exact ⟨by simp [dat, PyData.canLay0], by simp [dat, PyData.depth]⟩
  · exact ⟨by simpa [dat, PyData.canLay0] using hz, by simp [dat, PyData.depth]⟩
theorem layAll_flat : ∀ {xs : List V}, (∀ v ∈ xs, flat v) → PyData.canLayAll0 (xs.map dat) = true ∧ PyData.depthAll (xs.map dat) = 0
  | [], _ => ⟨by simp [PyData.canLayAll0], by simp [PyData.depthAll]⟩
  | v :: r, h => by
    have h1 := lay_flat (h v List.mem_cons_self)
    have h2 := layAll_flat (xs := r) fun u hu => h u (List.mem_cons_of_mem _ hu)
    refine ⟨?_, ?_⟩
    · rw [List.map_cons, PyData.canLayAll0, h1.1, h2.1]; rfl
    · rw [List.map_cons, PyData.depthAll, h1.2, h2.2]; rfl
theorem shaped_flat {v : V} (h : flat v) : SeqAt.shaped (dat v) = true := by
  have h1 := lay_flat h
  unfold SeqAt.shaped
  rw [h1.1, h1.2]; rfl
theorem shaped_list {xs : List V} (h : ∀ v ∈ xs, flat v) : SeqAt.shaped (.list (xs.map dat)) = true := by
  have h1 := layAll_flat h
  unfold SeqAt.shaped
  rw [PyData.canLay0, h1.1, PyData.depth, h1.2]; rfl
theorem shaped_tup {xs : List V} (h : ∀ v ∈ xs, flat v) : SeqAt.shaped (.tuple (xs.map dat)) = true := by
  have h1 := layAll_flat h
  unfold SeqAt.shaped
  rw [PyData.canLay0, h1.1, PyData.depth, h1.2]; rfl
theorem eqv_self {d : PyData} (h : SeqAt.shaped d = true) : PyData.eqv d d = true := SeqAt.eqv_refl d (SeqAt.canLay_of_shaped h)

/-! ### the signs of a text that pass a test -/
section
variable {K : PySem.W.Frag} {tt : TT} {te : TE} {vs : List Nat} {σ : L2.St} {H1 : Hp} {D : Addr} {Qd : Hp → Prop}
theorem filter_snoc {pf : Nat → Bool} {l : List Nat} {i c : Nat} (h : l[i]? = some c) : (l.take (i + 1)).filter pf = (l.take i).filter pf ++ (if pf c then [c] else []) := by
  rw [List.take_add_one, h]
  simp only [Option.toList_some, List.filter_append, List.filter_cons, List.filter_nil]
theorem lc_signs {x : Str} {j : Nat} (pf : Nat → Bool) (hD : H1 D = none) (hn : x.length ≤ 90000) (hw : ∀ v, wipe ((wipe σ vs).set j (some v)) vs = wipe σ vs)
    (ht : ∀ c H, Same H1 H → ∀ Q : Bool → Hp → Prop, Q (pf c) H → tt ((wipe σ vs).set j (some (.str ⟨#[c]⟩))) H Q) (he : ∀ c H, Same H1 H → ∀ Q : VK, Q (.str ⟨#[c]⟩) H → te ((wipe σ vs).set j (some (.str ⟨#[c]⟩))) H Q)
    (hd : ∀ H, Same H1 H → H D = some (.lst ((x.cps.toList.filter pf).map fun c => .str ⟨#[c]⟩)) → Qd H) :
    ∃ W : Nat → Nat → Hp → Prop, (∃ m, W 0 m (upd H1 D (.lst []))) ∧ ∀ i m H, W i m H →
      ((Its x).stop i H ∧ Qd H) ∨ ((Its x).go i H ∧ ∃ Nx : Hp → Prop, (∀ H', Nx H' → ∃ m', m' < m ∧ W (i + 1) m' H') ∧ ∀ y H', (Its x).yld i H y H' → (gName j) y (wipe σ vs) H' fun σ2 H2 => wipe σ2 vs = wipe σ vs ∧ tt σ2 H2 fun b H3 =>
        if b = true then te σ2 H3 fun y H4 => ∃ acc, H4 D = some (.lst acc) ∧ acc.length < sizeLine ∧ Nx (upd H4 D (.lst (acc ++ [y]))) else Nx H3) := by
  have ez : x.cps.size = x.cps.toList.length := by simp
  refine ⟨fun i m H => m = x.cps.size - i ∧ i ≤ x.cps.size ∧ Same H1 H ∧ H D = some (.lst (((x.cps.toList.take i).filter pf).map fun c => .str ⟨#[c]⟩)), ⟨x.cps.size, by simp, Nat.zero_le _, same_new hD, upd_same⟩, ?_⟩
  rintro i m H ⟨rfl, hi, s1, hl⟩
  by_cases hlt : i < x.cps.size
  · refine .inr ⟨hlt, fun H' => Same H1 H' ∧ H' D = some (.lst (((x.cps.toList.take (i + 1)).filter pf).map fun c => .str ⟨#[c]⟩)), fun H' p' => ⟨x.cps.size - (i + 1), by omega, rfl, hlt, p'⟩, fun y H' yl => ?_⟩
    obtain ⟨rfl, c, hc, rfl⟩ := yl
    have hc2 : x.cps.toList[i]? = some c := by rw [Array.getElem?_toList]; exact hc
    refine ⟨hw _, ?_⟩
    refine ht c H' s1 _ ?_
    have fs := filter_snoc (pf := pf) hc2
    cases hp : pf c with
    | true =>
      refine iteT ?_
      refine he c H' s1 _ ⟨_, hl, szlt ?_, same_mut s1 hD, ?_⟩
      · rw [List.length_map]
        have h1 := List.length_filter_le pf (x.cps.toList.take i)
        have h2 : (x.cps.toList.take i).length ≤ x.cps.toList.length := by rw [List.length_take]; omega
        have h3 : x.length = x.cps.toList.length := len_tl x
        omega
      · rw [upd_same, fs, hp]
        simp
    | false =>
      refine iteF ⟨s1, ?_⟩
      rw [fs, hp]
      simpa using hl
  · have e : i = x.cps.size := by omega
    subst e
    refine .inl ⟨Nat.le_refl _, hd H s1 ?_⟩
    rw [ez, List.take_length] at hl
    exact hl
end

/-! ### is it a place -/
def letter (c : Nat) : Bool := decide (97 ≤ c) && decide (c ≤ 122)
def isP : V → Bool
  | .str z => decide (1 ≤ z.length) && decide (z.length ≤ 12) && z.cps.toList.all letter
  | _ => false
theorem btw_letter (c : Nat) : (!decide (([c] : List Nat) < (Str.ofString "a").cps.toList) && !decide ((Str.ofString "z").cps.toList < ([c] : List Nat))) = letter c := by
  have e1 : (Str.ofString "a").cps.toList = [97] := by decide +kernel
  have e2 : (Str.ofString "z").cps.toList = [122] := by decide +kernel
  rw [e1, e2]
  have h1 : (([c] : List Nat) < [97]) ↔ c < 97 := by
    constructor
    · intro h
      cases h with
      | rel h => exact h
      | cons h => cases h
    · intro h; exact List.Lex.rel h
  have h2 : (([122] : List Nat) < [c]) ↔ 122 < c := by
    constructor
    · intro h
      cases h with
      | rel h => exact h
      | cons h => cases h
    · intro h; exact List.Lex.rel h
  unfold letter
  have g1 : decide (([c] : List Nat) < [97]) = decide (c < 97) := decide_eq_decide.mpr h1
  have g2 : decide (([122] : List Nat) < [c]) = decide (122 < c) := decide_eq_decide.mpr h2
  rw [g1, g2]
  by_cases a : c < 97 <;> by_cases b : 122 < c <;> simp [a, b] <;> omega
theorem notin_letter (c : Nat) : (!decide (c ∈ abc.cps.toList)) = !letter c := by
  unfold letter
  have g : decide (c ∈ abc.cps.toList) = decide (97 ≤ c ∧ c ≤ 122) := decide_eq_decide.mpr (abc_mem c)
  rw [g]
  by_cases a : 97 ≤ c <;> by_cases b : c ≤ 122 <;> simp [a, b]
theorem nofree_ex {names : List (Str × NameKind)} {cells : List (Str × Addr)} (h : ∀ y ∈ names, y.2 ≠ .free) : ∀ y ∈ names, y.2 = .free → ∃ c, cells.lookup y.1 = some c := fun y hy e => absurd e (h y hy)
theorem ifND {p A B : Prop} [Decidable p] (h1 : ¬ p → A) (h2 : p → B) : if (!decide p) = true then A else B := by
  by_cases h : p
  · rw [decide_eq_true h]; exact iteF (h2 h)
  · rw [decide_eq_false h]; exact iteT (h1 h)
theorem ifNB {b : Bool} {A B : Prop} (h1 : b = false → A) (h2 : b = true → B) : if (!b) = true then A else B := by
  cases b with
  | true => exact iteF (h2 rfl)
  | false => exact iteT (h1 rfl)
theorem ifT1 {A B : Prop} (h : A) : if (!false) = true then A else B := iteT h
theorem ifF1 {A B : Prop} (h : B) : if (!true) = true then A else B := iteF h
theorem isP_short {z : Str} (h : ¬ (1 : Int) ≤ (z.length : Int)) : isP (.str z) = false := by
  show (decide (1 ≤ z.length) && decide (z.length ≤ 12) && z.cps.toList.all letter) = _
  rw [decide_eq_false (show ¬ 1 ≤ z.length by omega)]; rfl
theorem isP_long {z : Str} (h : ¬ (z.length : Int) ≤ (12 : Int)) : isP (.str z) = false := by
  show (decide (1 ≤ z.length) && decide (z.length ≤ 12) && z.cps.toList.all letter) = _
  rw [decide_eq_false (show ¬ z.length ≤ 12 by omega)]; simp
theorem isP_mid {z : Str} (h1 : (1 : Int) ≤ (z.length : Int)) (h2 : (z.length : Int) ≤ (12 : Int)) : isP (.str z) = z.cps.toList.all letter := by
  show (decide (1 ≤ z.length) && decide (z.length ≤ 12) && z.cps.toList.all letter) = _
  rw [decide_eq_true (show 1 ≤ z.length by omega), decide_eq_true (show z.length ≤ 12 by omega)]; rfl
theorem filter_all {pf : Nat → Bool} {l : List Nat} : (l.filter fun c => !pf c) = [] ↔ l.all pf = true := by
  rw [List.filter_eq_nil_iff, List.all_eq_true]
  exact ⟨fun h c hc => by simpa using h c hc, fun h c hc => by simp [h c hc]⟩
theorem eqv_nil (xs : List V) : PyData.eqv (.list (xs.map dat)) (.list []) = xs.isEmpty := by
  cases xs with
  | nil => simp [PyData.eqv, PyData.eqvAll]
  | cons v r => simp [PyData.eqv, PyData.eqvAll]
theorem flat_sign {c : Nat} (h : c < 1114112) : flat (.str ⟨#[c]⟩) := .inr (.inr (.inr ⟨_, rfl, okS_data (okS.one h)⟩))
theorem flat_signs {l : List Nat} (h : ∀ c ∈ l, c < 1114112) : ∀ v ∈ l.map (fun c => V.str ⟨#[c]⟩), flat v := fun v hv => by
  obtain ⟨c, hc, rfl⟩ := List.mem_map.mp hv
  exact flat_sign (h c hc)
theorem isEmpty_all {pf : Nat → Bool} {l : List Nat} {α : Type} (f : Nat → α) : ((l.filter fun c => !pf c).map f).isEmpty = l.all pf := by
  rw [Bool.eq_iff_iff, List.isEmpty_iff, List.map_eq_nil_iff]
  exact filter_all
end Fb

namespace Fb
open PySem PySem.Spec PyProof.Rows L2
/-! ### what is wrong with a journey: 0 nothing, 1 a place, 2 the journey -/
def ask (v : V) : Prop := v = .non ∨ (∃ b, v = .bl b) ∨ (∃ i, v = .int i) ∨ ∃ z, v = .str z ∧ okS 90000 z
theorem ask_flat {v : V} (h : ask v) : flat v := by
  rcases h with h | h | h | ⟨z, h, hz⟩
  · exact .inl h
  · exact .inr (.inl h)
  · exact .inr (.inr (.inl h))
  · exact .inr (.inr (.inr ⟨z, h, okS_data hz⟩))
def dueFrom : Option V → List V → Nat
  | _, [] => 0
  | p, x :: r => if isP x = true then (if p = some x then 2 else dueFrom (some x) r) else 1
def due (xs : List V) : Nat := if 2 ≤ xs.length ∧ xs.length ≤ 40 then dueFrom none xs else 2
def prev (xs : List V) (i : Nat) : Option V := if i = 0 then none else xs[i - 1]?
def dueAt (xs : List V) (i : Nat) : Nat := dueFrom (prev xs i) (xs.drop i)
theorem dueAt_end (xs : List V) : dueAt xs xs.length = 0 := by
  unfold dueAt
  rw [List.drop_length]
  rfl
theorem dueAt_zero (xs : List V) : dueAt xs 0 = dueFrom none xs := rfl
theorem dueAt_step {xs : List V} {i : Nat} {x : V} (h : xs[i]? = some x) : dueAt xs i = if isP x = true then (if prev xs i = some x then 2 else dueAt xs (i + 1)) else 1 := by
  obtain ⟨hl, e⟩ := List.getElem?_eq_some_iff.mp h
  unfold dueAt
  rw [List.drop_eq_getElem_cons hl, e]
  show (if isP x = true then (if prev xs i = some x then 2 else dueFrom (some x) (xs.drop (i + 1))) else 1) = _
  have e2 : prev xs (i + 1) = some x := by
    unfold prev
    rw [if_neg (by omega), Nat.add_sub_cancel, h]
  rw [e2]
theorem due_in {xs : List V} (h1 : 2 ≤ xs.length) (h2 : xs.length ≤ 40) : due xs = dueAt xs 0 := if_pos ⟨h1, h2⟩
theorem due_out {xs : List V} (h : ¬ (2 ≤ xs.length ∧ xs.length ≤ 40)) : due xs = 2 := if_neg h
theorem due_place {xs : List V} {i : Nat} {x : V} (h : xs[i]? = some x) (hp : isP x = false) : dueAt xs i = 1 := by
  rw [dueAt_step h, hp]; rfl
theorem due_same {xs : List V} {i : Nat} {x : V} (h : xs[i]? = some x) (hp : isP x = true) (h0 : i ≠ 0) (hs : xs[i - 1]? = some x) : dueAt xs i = 2 := by
  rw [dueAt_step h, if_pos hp, if_pos (by unfold prev; rw [if_neg h0]; exact hs)]
theorem due_go {xs : List V} {i : Nat} {x : V} (h : xs[i]? = some x) (hp : isP x = true) (hs : i ≠ 0 → xs[i - 1]? ≠ some x) : dueAt xs i = dueAt xs (i + 1) := by
  rw [dueAt_step h, if_pos hp, if_neg (fun e => ?_)]
  unfold prev at e
  by_cases h0 : i = 0
  · rw [if_pos h0] at e; cases e
  · rw [if_neg h0] at e; exact hs h0 e
def word : Nat → Str
  | 0 => Str.ofString ""
  | 1 => Str.ofString "place"
  | _ => Str.ofString "journey"
theorem isP_str {v : V} (h : isP v = true) : ∃ z, v = .str z := by
  cases v with
  | str z => exact ⟨z, rfl⟩
  | _ => cases h
theorem scal_str {z : Str} {v : V} (h : ask v) : scal (.str z) v = true := by
  rcases h with rfl | ⟨b, rfl⟩ | ⟨i, rfl⟩ | ⟨y, rfl, _⟩ <;> rfl
theorem num_small : ∀ i : Nat, i < 300 → ((toString (i : Int) : Str)).length ≤ 3 := by decide +kernel
theorem log_small {i : Nat} (h : i < 1000) : (i : Int).natAbs.log2 < 1920 := by
  have h1 : (i : Int).natAbs = i := by simp
  rw [h1]
  exact Nat.lt_of_le_of_lt (Nat.log2_le_self i) (by omega)
theorem lapp {a b : Str} {n m : Nat} (h : a.length ≤ n) (g : b.length ≤ m) : (a ++ b).length ≤ n + m := by rw [len_app]; omega
/-! ### within a suite: what the outer text says, by K -/
theorem pe_cls {X : Cx} {x : Str} {C : Addr} {pos : Pos} (hm : X.mg x = some (.ref C)) (hg : Gl X x := by rfl) (hd : (x == ("__debug__" : Str)) = false := by decide) : PE X (.Name x pos) (tC (.ref C)) := pe_glob hg hm rfl hd
theorem pe_bty {X : Cx} {x : Str} {n : String} {pos : Pos} (hm : X.mg x = none) (hv : bootBuiltins x = some (.type n)) (hg : Gl X x := by rfl) (hn : x ≠ "__name__" := by decide) (hd : (x == ("__debug__" : Str)) = false := by decide) : PE X (.Name x pos) (tC (.ty n)) := pe_bltn hg hm hv rfl hn hd
theorem op_eqS {X : Cx} {K : PySem.W.Frag} (hu : X.A.units + 64 < cLine) (hK : X.K = K := by rfl) : OpR X (compareOp .Eq) (rEqD K) := hK ▸ op_eqD hu
theorem op_neS {X : Cx} {K : PySem.W.Frag} (hu : X.A.units + 64 < cLine) (hK : X.K = K := by rfl) : OpR X (compareOp .NotEq) (rNeD K) := hK ▸ op_neD hu
theorem ix_listS {X : Cx} {K : PySem.W.Frag} (hK : X.K = K := by rfl) : IxR X (rIxL K) := hK ▸ ix_list
theorem ixN_of {n : Nat} {j : Int} (h0 : 0 ≤ j) (h : j < n) : ixN n j = some j.toNat := by
  unfold ixN
  rw [if_pos h0, if_pos h]
theorem rel_cls {C : Addr} : ∀ u, L2.RelV (.ref C) u → u = Value.ref C := fun _ h => h
theorem rel_ty {n : String} : ∀ u, L2.RelV (.ty n) u → u = Value.type n := fun _ h => h
end Fb

namespace Fb
open PySem PySem.Spec PyProof.Rows L2
/-! ### what the top has left, by facts -/
structure FA (K : PySem.W.Frag) (x : Str) (st : Stmt) (f : Addr) : Prop where
  a : PySem.W.nsIn K mainGlobals x = some (some (.ref f))
  l : ∃ (oc : Value) (od : Option Addr) (kV dc pm : Value) (an : Option Addr) (cd ct : Value) (osl : Array (Option Value)), K.lookup f = some ⟨oc, od, .func (PySem.W.fnOf x x (defArgs st) (defBody st) (defScope st) .none kV dc pm an cd ct), osl⟩ ∧ PySem.W.codeIn K cd x = true
  k : PySem.W.keepIn K (.ref f) = true
/-- .. with its code object and that one's table -/
structure FAC (K : PySem.W.Frag) (x : Str) (st : Stmt) (f c P : Addr) : Prop where
  a : PySem.W.nsIn K mainGlobals x = some (some (.ref f))
  l : ∃ (oc : Value) (od : Option Addr) (kV dc pm : Value) (an : Option Addr) (ct : Value) (osl : Array (Option Value)), K.lookup f = some ⟨oc, od, .func (PySem.W.fnOf x x (defArgs st) (defBody st) (defScope st) .none kV dc pm an (.ref c) ct), osl⟩
  q : PySem.W.codeIn K (.ref c) x = true
  k : PySem.W.keepIn K (.ref f) = true
  c : ∃ (oc : Value) (od : Option Addr) (vs : Array Value) (osl : Array (Option Value)), K.lookup c = some ⟨oc, od, .fields vs, osl⟩ ∧ vs[11]? = some (.ref P)
  n : K.lookup P = none
section
variable {Pg : Program} {w : World} {K : PySem.W.Frag} {mg : Str → Option Value} {base h : Heap} {x : Str} {st : Stmt} {f c P : Addr} {ps : List Str} {sp : Sp} {k : Nat}
theorem FA.dn (A : FA K x st f) (X : K.In h) (G : h.Ns mainGlobals mg) (ok : ∀ fd, Fun K x x st f fd → FnOk Pg w K mg base (L2N.CX Pg w) k f fd ps sp)
    (hb : ∀ (kV doc pm : Value) (an : Option Addr) (cdv ct : Value) (us : List Value), us.length = ps.length → bindArgs (PySem.W.fnOf x x (defArgs st) (defBody st) (defScope st) .none kV doc pm an cdv ct) ⟨us, []⟩ = pure (ps.zip us)) : Dn Pg w K mg base k x ps sp := by
  obtain ⟨oc, od, kV, dc, pm, an, cd, ct, osl, l, c⟩ := A.l
  have F := fun_mk (st := st) l c A.k
  exact ⟨f, _, ok _ F, PySem.W.mg_of X G A.a, A.k, F.binds (ps := ps) hb⟩
theorem FAC.dn (A : FAC K x st f c P) (X : K.In h) (G : h.Ns mainGlobals mg) (ok : ∀ fd, FunC K x x st f fd c → FnOk Pg w K mg base (L2N.CX Pg w) k f fd ps sp)
    (hb : ∀ (kV doc pm : Value) (an : Option Addr) (cdv ct : Value) (us : List Value), us.length = ps.length → bindArgs (PySem.W.fnOf x x (defArgs st) (defBody st) (defScope st) .none kV doc pm an cdv ct) ⟨us, []⟩ = pure (ps.zip us)) : Dn Pg w K mg base k x ps sp := by
  obtain ⟨oc, od, kV, dc, pm, an, ct, osl, l⟩ := A.l
  have F := fun_mk (st := st) l A.q A.k
  exact ⟨f, _, ok _ ⟨oc, od, kV, dc, pm, an, ct, osl, rfl, l, A.q⟩, PySem.W.mg_of X G A.a, A.k, F.binds (ps := ps) hb⟩
/-- the table of such a def at the head's heap -/
theorem FAC.tab (A : FAC K x st f c P) (X : K.In h) (G : h.Ns mainGlobals mg) (T : TabN mg h x) : h.get? P = some { cls := .none, data := .fields #[] } ∧ PySem.W.CodeHd h c P := by
  obtain ⟨a, c', P', o, fd, h1, h2, h3, h4, h5, h6, oc, vc, h7, h8, h9⟩ := T
  rw [PySem.W.mg_of X G A.a] at h1
  cases h1
  obtain ⟨oc2, od, kV, dc, pm, an, ct, osl, l⟩ := A.l
  have g1 := X _ _ l
  rw [h2] at g1
  cases g1
  cases h3
  cases h4
  obtain ⟨oc3, od3, vs, osl3, l3, v11⟩ := A.c
  have g2 := X _ _ l3
  rw [h7] at g2
  cases g2
  cases h8
  rw [v11] at h9
  cases h9
  exact ⟨h6, h5⟩
theorem FA.gint {i : Int} (X : K.In h) (G : h.Ns mainGlobals mg) (a : ∃ t, PySem.W.nsIn K mainGlobals x = some (some (.int i t))) : ∃ t, mg x = some (.int i t) := by
  obtain ⟨t, a⟩ := a
  exact ⟨t, PySem.W.mg_of X G a⟩
end
/-- an own class of errors, by facts -/
structure EA (K : PySem.W.Frag) (x : Str) (C : Addr) : Prop where
  a : PySem.W.nsIn K mainGlobals x = some (some (.ref C))
  k : PySem.W.keepIn K (.ref C) = true
  x : PySem.W.excIn K C [.type "ValueError", .type "Exception", .type "BaseException", .type "object"] "ValueError.__new__" = true
  b : PySem.W.subIn K (.ref C) (.type "BaseException") = some true
  t : PySem.W.typeIn K (.ref C) = some (.type "type")
  i : PySem.W.isClsIn K C = true
  hg : PySem.W.findIn K (.ref C) "__getattribute__" = some (some (.builtin "BaseException.__getattribute__"))
  hk : PySem.W.findIn K (.ref C) "__getattr__" = some none
  hd : PySem.W.hasDictIn K C = true
  ha : PySem.W.findIn K (.ref C) "__class__" = some (some (.builtin "object.__class__"))
  hn : PySem.W.specialIn K (.builtin "object.__class__") "__get__" = some (some (.builtin "getset_descriptor.__get__"))
  ht : PySem.W.takesIn K (.builtin "object.__class__") = some true
  hm : PySem.W.mroIn K C (.type "object") = some true
  v : PySem.W.subIn K (.ref C) (.type "ValueError") = some true
theorem EA.exk {K : PySem.W.Frag} {mg : Str → Option Value} {h : Heap} {x : Str} {C : Addr} (A : EA K x C) (X : K.In h) (G : h.Ns mainGlobals mg) : ExK K mg x C [.type "ValueError", .type "Exception", .type "BaseException", .type "object"] := ⟨PySem.W.mg_of X G A.a, A.k, A.x, A.b, A.t⟩
theorem EA.exc {K : PySem.W.Frag} {x : Str} {C : Addr} (A : EA K x C) : ExcC K C := ⟨A.hg, A.hk, A.b, A.hd, A.ha, A.hn, A.ht, A.hm⟩
theorem kit_self {K : PySem.W.Frag} {C : Addr} : PySem.W.kitOne K (.ref C) (.ref C) = some true := by
  unfold PySem.W.kitOne
  rw [if_pos (by simp)]
theorem EA.kit {K : PySem.W.Frag} {x : Str} {C D : Addr} {b : Bool} (A : EA K x D) (hs : PySem.W.subIn K (.ref C) (.ref D) = some b) (hn : (Value.ref C == Value.ref D) = false) : PySem.W.kitOne K (.ref C) (.ref D) = some b := by
  have h1 : (PySem.W.clsIn K D).isSome = true := A.i
  have e2 : ((PySem.W.clsIn K D).isSome && PySem.W.typeIn K (.ref D) == some (.type "type")) = true := by rw [h1, A.t]; rfl
  unfold PySem.W.kitOne
  rw [hn, if_neg Bool.false_ne_true]
  show (if ((PySem.W.clsIn K D).isSome && PySem.W.typeIn K (.ref D) == some (.type "type")) = true then PySem.W.subIn K (.ref C) (.ref D) else none) = some b
  rw [if_pos e2]
  exact hs
theorem EA.kitV {K : PySem.W.Frag} {x : Str} {C : Addr} (A : EA K x C) : PySem.W.kitOne K (.ref C) (.type "ValueError") = some true := by
  unfold PySem.W.kitOne
  rw [if_neg (by simp)]
  show (if PySem.W.kitMeta "ValueError" = true then PySem.W.subIn K (.ref C) (.type "ValueError") else none) = some true
  rw [if_pos (by decide +kernel)]
  exact A.v
theorem EA.exm {K : PySem.W.Frag} {x : Str} {C D : Addr} {b : Bool} (A : EA K x D) (hs : PySem.W.subIn K (.ref C) (.ref D) = some b) : PySem.W.exmOne K (.ref C) (.ref D) = some b := PySem.W.exm_ref A.b A.hd A.t hs
theorem fa_mk {K : PySem.W.Frag} {x : Str} {st : Stmt} {f : Addr} {oc kV dc pm cd ct : Value} {od an : Option Addr} {osl : Array (Option Value)} (a : PySem.W.nsIn K mainGlobals x = some (some (.ref f)))
    (l : K.lookup f = some ⟨oc, od, .func (PySem.W.fnOf x x (defArgs st) (defBody st) (defScope st) .none kV dc pm an cd ct), osl⟩) (c : PySem.W.codeIn K cd x = true) (k : PySem.W.keepIn K (.ref f) = true) : FA K x st f := ⟨a, ⟨oc, od, kV, dc, pm, an, cd, ct, osl, l, c⟩, k⟩
theorem fac_mk {K : PySem.W.Frag} {x : Str} {st : Stmt} {f c P : Addr} {oc kV dc pm ct oc2 : Value} {od an od2 : Option Addr} {osl osl2 : Array (Option Value)} {vs : Array Value} (a : PySem.W.nsIn K mainGlobals x = some (some (.ref f)))
    (l : K.lookup f = some ⟨oc, od, .func (PySem.W.fnOf x x (defArgs st) (defBody st) (defScope st) .none kV dc pm an (.ref c) ct), osl⟩) (q : PySem.W.codeIn K (.ref c) x = true) (k : PySem.W.keepIn K (.ref f) = true)
    (lc : K.lookup c = some ⟨oc2, od2, .fields vs, osl2⟩) (v : vs[11]? = some (.ref P)) (n : K.lookup P = none) : FAC K x st f c P := ⟨a, ⟨oc, od, kV, dc, pm, an, ct, osl, l⟩, q, k, ⟨oc2, od2, vs, osl2, lc, v⟩, n⟩
theorem gi_mk {K : PySem.W.Frag} {x : Str} {i : Int} {t : Tok} (a : PySem.W.nsIn K mainGlobals x = some (some (.int i t))) : ∃ t, PySem.W.nsIn K mainGlobals x = some (some (.int i t)) := ⟨t, a⟩
end Fb

namespace Fb
open PySem PySem.Spec PyProof.Rows L2
/-! ### for (a, b), v in d.items(), d a dict with tuple keys that stands locked -/
section
variable {X : Cx} {pins : List (Addr × Obj)} {σ : L2.St} {H : Hp} {s : Shared} {d : Addr} {o : Obj}
theorem frzT2 {kvs : List (List Key × V)} (I : Inv X pins σ H s) (h : H d = some (.frz o (.dT kvs))) :
    (d == sysModules) = false ∧ s.heap.get? d = some o ∧ o.ExactDict ∧ ∃ (es : Array DictEntry) (ep : Nat), o.data = .dict es ep ∧ es.size = kvs.length ∧
      ∀ (i : Nat) (k : List Key) (v : V), kvs[i]? = some (k, v) → ∃ (en : DictEntry) (q : Addr), es[i]? = some en ∧ en.key = .ref q ∧ H q = some (.tup (k.map kV)) ∧ L2.RelV v en.val := by
  obtain ⟨hd, z, hs, xs, pr, o', es, ep, ho, hx, hdt, he, _⟩ := I.hok d _ h
  rw [hd] at ho
  cases ho
  refine ⟨hs, hd, hx, es, ep, hdt, ?_, fun i k v e => ?_⟩
  · have l1 : es.size = xs.length := size_of_entries he
    have l2 : kvs.length = xs.length := Paired.length pr
    omega
  · obtain ⟨b, hb, e1, e2, e3⟩ := paired_get pr e
    have q := entry_at he i
    rw [hb] at q
    exact ⟨_, b.2.1, q, rfl, e2, e3⟩
end
def Itit (d : Addr) (o : Obj) (kvs : List (List Key × V)) : It :=
  ⟨fun i H => H d = some (.frz o (.dT kvs)) ∧ i < kvs.length, fun i H x H' => ∃ (T q : Addr) (k : List Key) (v : V), kvs[i]? = some (k, v) ∧ x = .ref T ∧ H T = none ∧ H q = some (.tup (k.map kV)) ∧ H' = upd H T (.tup [.ref q, v]), fun i H => H d = some (.frz o (.dT kvs)) ∧ kvs.length ≤ i⟩
section
variable {P : Program} {w : World} {K : PySem.W.Frag} {d : Addr} {o : Obj} {es : Array DictEntry} {ep : Nat}
theorem turn_itemsT {kvs : List (List Key × V)} {elts : List Expr} {kk : Nat} {tpos : Pos} (it : Addr) (hod : o.data = .dict es ep) :
    Turn P w K (.Tuple elts kk tpos) (Itit d o kvs) [it] it (fun i h => ∃ ok ov, IsItemIter h it d i kvs.length ep ok ov) where
  mem := by simp
  obj := fun i h st b hb => by
    have e : b = it := by simpa using hb
    subst e
    obtain ⟨ok, ov, e⟩ := st
    exact ⟨_, e, fun v z => nomatch z⟩
  keep := fun i h h' st k => let ⟨ok, ov, e⟩ := st; ⟨ok, ov, k it (by simp) _ e⟩
  item := by
    intro X hP hw hK hc i pins s σ H E I hf st hg
    subst hP hw hK
    obtain ⟨hd, hi⟩ := hg
    obtain ⟨hs, hgd, hx, es', ep', hdt, hsz, ent⟩ := frzT2 I hd
    obtain ⟨rfl, rfl⟩ := dict_ep hod hdt
    obtain ⟨⟨k, v⟩, hkv⟩ : ∃ p, kvs[i]? = some p := ⟨kvs[i], List.getElem?_eq_getElem hi⟩
    obtain ⟨en, q, hen, hkey, hq, rv⟩ := ent i k v hkv
    obtain ⟨ok, ov, he⟩ := st
    rw [← hsz] at he
    have hi2 : i < es'.size := by rw [hsz]; exact hi
    have hen2 : es'[i] = en := by
      have := (Array.getElem?_eq_some_iff.mp hen).2
      exact this
    have hlt : it < s.heap.objs.size := Heap.lt_size he
    refine DT.nextI he ⟨o, hgd, hx, hdt⟩ hi2 fun h' ho hT hz hk => ?_
    rw [hen2] at ho hT
    refine ⟨_, rfl, wpAny_letOwnedTupleGo_items (s := { s with heap := h' }) ho fun h'' he' sb => ?_⟩
    have hT2 : h''.get? s.heap.objs.size = some { cls := .type "tuple", data := .seq #[en.key, en.val] } := (sb.2 _ (Nat.ne_of_gt hlt)).trans hT
    have new : ObjOk X.prog X.w (upd H s.heap.objs.size (.tup [.ref q, v])) h'' s.heap.objs.size (.tup [.ref q, v]) :=
      ⟨by show 2 ≤ sizeLine; decide, [en.key, en.val], .cons hkey (.cons rv .nil), ⟨_, hT2, rfl, _, rfl⟩⟩
    have I1 : Inv X pins σ (upd H s.heap.objs.size (.tup [.ref q, v])) { s with heap := h'' } :=
      I.turnedNew (t' := s.toks) (ch := [it]) (fun b ob hb e => (sb.2 b (by simpa using hb)).trans (hk b ob (by simpa using hb) e)) hf (Nat.le_refl _) new
    refine ⟨.ref s.heap.objs.size, _, I1, rfl, ⟨_, q, k, v, hkv, rfl, I.hok.fresh (Nat.le_refl _), hq, rfl⟩, ⟨en.key, en.val, ?_⟩, fun b hb => ?_⟩
    · rw [← hsz]; exact he'
    · have e : b = it := by simpa using hb
      rw [e, upd_ne (Nat.ne_of_lt hlt)]
      exact (hf it (by simp)).1
  done := by
    intro X hP hw hK hc i pins s σ H E I hf st hg
    subst hP hw hK
    obtain ⟨hd, hi⟩ := hg
    obtain ⟨f0, f1, f2, f3, f4, f5⟩ := hf it (by simp)
    obtain ⟨hs, hgd, hx, es', ep', hdt, hsz, ent⟩ := frzT2 I hd
    obtain ⟨rfl, rfl⟩ := dict_ep hod hdt
    obtain ⟨ok, ov, he⟩ := st
    rw [← hsz] at he
    exact DT.endI (I.ok.hd hc) he ⟨o, hgd, hx, hdt⟩ (by omega) fun h' eb => ⟨rfl, I.turned (t' := s.toks) (fun b ob hb e => eb b ob hb e) f0 f1 f3 f4 f5⟩
  self := fun A i s Q E st h => let ⟨_, _, e⟩ := st; PySem.W.kcp_self e h
end
def iItemsT (td : TE) : TI := fun σ H R => td σ H fun x H1 => ∃ d o kvs, x = .ref d ∧ H1 d = some (.frz o (.dT kvs)) ∧ R (Itit d o kvs) H1
theorem pi_itemsT {X : Cx} {e : Expr} {td : TE} {apos cpos tpos : Pos} {elts : List Expr} {kk : Nat} (he : PE X e td) (hbase : attributeBase e "items" X.env (eval e X.env) = eval e X.env := by rfl) (hline : (apos.endLine == cpos.line) = true := by rfl) :
    PI X (.Tuple elts kk tpos) (.Call (.Attribute e "items" apos) [] [] cpos) (iItemsT td) := by
  refine ⟨fun pins s σ H R I h => ?_⟩
  refine wpAny_Call_method (T := "dict") (id := "dict.items") hbase rfl hline F.plainAttrs_dict F.slot_dict_items F.type_dict_items (thn (he.run pins s σ H _ I h) fun u s1 ⟨x, H1, I1, rx, d, o, kvs, ex, hd, q⟩ => ?_)
  subst ex
  obtain rfl : u = Value.ref d := rx
  obtain ⟨hs, hgd, hx, es, ep, hdt, hsz, ent⟩ := frzT2 I1 hd
  have raw : DT.Raw s1.heap d es ep := ⟨o, hgd, hx, hdt⟩
  refine ⟨raw.typeIs, fun a e => by cases e; exact ⟨o, hgd, hx.2.1⟩, ?_⟩
  have I2 : Inv X pins σ H1 { s1 with heap := s1.heap.push { cls := .type "dict_items", data := .fields #[.ref d] } } := I1.kept (t' := s1.toks) fun b ob q => Heap.get?_push_of_some _ q
  have fin : wpAny (model X.prog X.w) X.A (pyIter (.ref s1.heap.objs.size)) (PIE X pins σ (.Tuple elts kk tpos) R) X.xe { s1 with heap := s1.heap.push { cls := .type "dict_items", data := .fields #[.ref d] } } := by
    refine DT.iterI (d := d) ⟨_, Heap.get?_push_size _ rfl, rfl, rfl⟩ (raw.push _) (pi_one (tk := s1.toks) I2 _ (turn_itemsT _ hdt) ⟨.none, .none, ?_⟩ q)
    rw [← hsz]
    exact Heap.get?_push_size _ rfl
  show wpAny _ _ (callWith cpos (.builtin "dict.items") [.ref d] [] []) _ X.xe s1
  exact method_meetsIn F.slot_dict_items F.entry_dict_items rfl (PySem.evalArgs_none ⟨rfl, raw.typeIs, F.args_dict_items_1 _, _, DT.meetsItems (es := es) (ep := ep) hs, raw, fin⟩)
end Fb

namespace Fb
open PySem PySem.Spec PyProof.Rows L2
/-! ### addresses of the program's classes -/
structure Ads where
  FareError : Addr
  BadPlace : Addr
  BadPrice : Addr
  TwiceTold : Addr
  TooMany : Addr
  BadJourney : Addr
  BadCuts : Addr
  NotHeld : Addr
  NoParting : Addr
  BadLine : Addr
  Tariff : Addr
abbrev veMro : List Value := [.type "ValueError", .type "Exception", .type "BaseException", .type "object"]
/-! ### own methods and classes, ready to be called -/
structure Dm (Pg : Program) (w : World) (K : PySem.W.Frag) (mg : Str → Option Value) (base : Heap) (k : Nat) (C : Addr) (m : Str) (ps : List Str) (sp : Sp) : Prop where
  ex : ∃ f fd, FnOk Pg w K mg base (L2N.CX Pg w) k f fd ps sp ∧ Meth K C m f ∧ Binds K fd ps []
/-- a class that is made by its own __init__ -/
structure Dk (Pg : Program) (w : World) (K : PySem.W.Frag) (mg : Str → Option Value) (base : Heap) (k : Nat) (x : Str) (C : Addr) (ps : List Str) (sp : Sp) : Prop where
  g : mg x = some (.ref C)
  ex : ∃ f fd, FnOk Pg w K mg base (L2N.CX Pg w) k f fd ps sp ∧ Mk K C f ∧ Binds K fd ps []
def tMdS (C : Addr) (m : Str) (sp : Sp) (E : L2.St → XK) (ta : TE) (t : TA) : TE := fun σ H Q => ta σ H fun x H1 => ∃ a dx fs, x = .ref a ∧ H1 a = some (.ins C dx fs) ∧ fs.lookup m = none ∧ t σ H1 fun vs H2 => sp (.ref a :: vs) H2 Q (E σ)
def tMkS (C : Addr) (sp : Sp) (E : L2.St → XK) (t : TA) : TE := fun σ H Q => t σ H fun vs H1 => ∀ x dx, H1 x = none → H1 dx = none → dx ≠ x → sp (.ref x :: vs) (upd (upd H1 dx (.own x)) x (.ins C dx [])) (fun v H2 => v = .non ∧ Q (.ref x) H2) (E σ)
section
variable {X : Cx} {k : Nat} {x m : Str} {C : Addr} {ps : List Str} {sp : Sp} {p apos pos : Pos} {o e : Expr} {es : List Expr} {ta : TE} {t : TA} {E : L2.St → XK}
theorem passC (σ : L2.St) : PassesAt (L2N.CX X.prog X.w) X σ E0 := fun pins H s e s' I c => passLN pins σ H s e s' I c
theorem app_nil_run {f : Addr} {fd : FuncData} {pins : List (Addr × Obj)} {σ : L2.St} {H : Hp} {s : Shared} {Q : VK} {us : List Value} {vs : List V} {Ex : XK} (F : FnOk X.prog X.w X.K X.mg X.base (L2N.CX X.prog X.w) k f fd ps sp) (hr : Room k X.A) (hb : Binds X.K fd ps [])
    (hx : PassesAt (L2N.CX X.prog X.w) X σ Ex) (I : Inv X pins σ H s) (r : Vals vs us) (h : sp vs H Q Ex) : wpAny (model X.prog X.w) X.A (call (.ref f) us) (EP X pins σ Q) X.xe s := run_fnS (E := fun _ => Ex) F hr hb hx I r h
/-- o.m(e, ..) -/
theorem pe_mdS {pl : Sem Bool} (he : PE X o ta) (c : Cls X.K C) (D : Dm X.prog X.w X.K X.mg X.base k C m ps sp) (hr : Room k X.A) (hx : ∀ σ, PassesAt (L2N.CX X.prog X.w) X σ (E σ)) (ha : PA X (e :: es) t)
    (hst : starEach (e :: es) X.env = (false, eval e X.env) :: starEach es X.env := by rfl) (hpl : (backTo pos (starEach es X.env)).any (·.1) = false := by rfl)
    (ht : eval (.Call (.Attribute o m apos) (e :: es) [] pos) X.env = (do
      let ov ← eval o X.env
      standAt apos.atName
      let (f, first) ← holding [ov] (getMethod ov m pl)
      callWith pos f first (backTo pos (starEach (e :: es) X.env)) (backToKw pos (keywordEach [] X.env))) := by rfl) :
    PE X (.Call (.Attribute o m apos) (e :: es) [] pos) (tMdS C m sp E ta t) := by
  obtain ⟨f, fd, F, hm, hb⟩ := D.ex
  constructor
  intro pins s σ H Q I h
  refine PySem.W.methodCall_KW (pl := pl) (thn (he.run pins s σ H _ I h) fun u s1 hu => ?_) ht
  obtain ⟨y, H1, I1, ry, a, dx, fs, ey, ea, l, q⟩ := hu
  subst ey
  have eu : u = Value.ref a := ry
  subst eu
  refine getmeth_ok I1 ea c hm l ?_
  refine PySem.W.callWith_K (first := [.ref a]) (h₀ := X.base) I.ok.mod.kin hm.kp (thn (ha.run pos pins s1 σ H1 _ I1 q) fun us s2 hv => ?_) hst hpl
  obtain ⟨vs, H2, I2, r, q2⟩ := hv
  exact ⟨I2.kIn, app_nil_run (us := .ref a :: us) (vs := .ref a :: vs) F hr hb (hx σ) I2 (.cons rfl r) q2⟩
/-- o.m() -/
theorem pe_mdS0 {pl : Sem Bool} (he : PE X o ta) (c : Cls X.K C) (D : Dm X.prog X.w X.K X.mg X.base k C m ps sp) (hr : Room k X.A) (hx : ∀ σ, PassesAt (L2N.CX X.prog X.w) X σ (E σ))
    (ht : eval (.Call (.Attribute o m apos) [] [] pos) X.env = (do
      let ov ← eval o X.env
      standAt apos.atName
      let (f, first) ← holding [ov] (getMethod ov m pl)
      callWith pos f first (backTo pos (starEach [] X.env)) (backToKw pos (keywordEach [] X.env))) := by rfl) :
    PE X (.Call (.Attribute o m apos) [] [] pos) (tMdS C m sp E ta tNil) := by
  obtain ⟨f, fd, F, hm, hb⟩ := D.ex
  constructor
  intro pins s σ H Q I h
  refine PySem.W.methodCall_KW (pl := pl) (thn (he.run pins s σ H _ I h) fun u s1 hu => ?_) ht
  obtain ⟨y, H1, I1, ry, a, dx, fs, ey, ea, l, q⟩ := hu
  subst ey
  have eu : u = Value.ref a := ry
  subst eu
  refine getmeth_ok I1 ea c hm l ?_
  exact PySem.W.callWith_K0 (first := [.ref a]) I1.kIn hm.kp (app_nil_run (us := [.ref a]) (vs := [.ref a]) F hr hb (hx σ) I1 (.cons rfl .nil) q)
/-- C(e, ..) -/
theorem pe_mkS (D : Dk X.prog X.w X.K X.mg X.base k x C ps sp) (hr : Room (k + 1) X.A) (hx : ∀ σ, PassesAt (L2N.CX X.prog X.w) X σ (E σ)) (ha : PA X (e :: es) t) (hg : Gl X x := by rfl)
    (hdb : (x == ("__debug__" : Str)) = false := by decide) (he : starEach (e :: es) X.env = (false, eval e X.env) :: starEach es X.env := by rfl) (hpl : (backTo pos (starEach es X.env)).any (·.1) = false := by rfl) :
    PE X (.Call (.Name x p) (e :: es) [] pos) (tMkS C sp E t) := by
  obtain ⟨f, fd, F, M, hb⟩ := D.ex
  constructor
  intro pins s σ H Q I h
  refine wpAny_Call_Name_kw (ld_glob I hg D.g ?_ hdb)
  refine PySem.W.callWith_K (h₀ := X.base) I.ok.mod.kin M.kp (thn (ha.run pos pins s σ H _ I h) fun us s1 hv => ?_) he hpl
  obtain ⟨vs, H1, I1, r, q⟩ := hv
  refine ⟨I1.kIn, ?_⟩
  have fresh1 : H1 (s1.heap.objs.size + 1) = none := I1.hok.fresh (Nat.le_succ _)
  have fresh0 : H1 s1.heap.objs.size = none := I1.hok.fresh (Nat.le_refl _)
  have want := q _ _ fresh1 fresh0 (Nat.ne_of_lt (Nat.lt_succ_self _))
  have J := Inv.made (C := C) I1
  have rr : Vals (V.ref (s1.heap.objs.size + 1) :: vs) (Value.ref (s1.heap.objs.size + 1) :: us) := .cons rfl r
  have ln : (Value.ref (s1.heap.objs.size + 1) :: us).length = ps.length := by rw [← rr.length]; exact F.len _ _ _ _ want
  have bd := hb _ (Value.ref (s1.heap.objs.size + 1) :: us) J.kIn (by rw [List.append_nil]; exact ln)
  rw [List.append_nil] at bd
  refine wpAny_call (make_map (f := f) I1.kIn M.makes M.init (beq_iff_eq.mp M.fn) (codeAny_mono (F.run _ X.stack _ _ ⟨Value.ref (s1.heap.objs.size + 1) :: us, []⟩ _ _ _ _ (hr.make C us []) (J.env0.make C us []) bd rr want) fun res s' hq => ?_))
  cases res with
  | error er => exact hx σ pins _ _ er s' J hq
  | ok fl =>
    cases fl with
    | ret u =>
      obtain ⟨v, H', I3, rv, ev, q3⟩ := J.after hq
      subst ev
      exact ⟨rv, ⟨V.ref (s1.heap.objs.size + 1), H', I3, rfl, q3⟩⟩
    | next => exact hq.elim
    | brk => exact hq.elim
    | cont => exact hq.elim
end
end Fb

namespace Fb
open PySem PySem.Spec PyProof.Rows L2
/-! ### tariffs: the rows, and what is wrong with one more: 0 nothing, 1 a place, 2 the price, 3 told twice, 4 too many -/
abbrev Row := Str × Str × Int
def rowK (r : Row) : List Key × V := ([.inr r.1, .inr r.2.1], .int r.2.2)
def isC : V → Bool
  | .int i => decide (0 ≤ i) && decide (i ≤ 1000000000000)
  | _ => false
def strOf : V → Str
  | .str z => z
  | _ => Str.ofString ""
def intOf : V → Int
  | .int i => i
  | _ => 0
def mkRow (a b c : V) : Row := (strOf a, strOf b, intOf c)
def isTold (rs : List Row) (a b : V) : Bool := (valV (rs.map rowK) [.inr (strOf a), .inr (strOf b)]).isSome
def putDue (rs : List Row) (a b c : V) : Nat :=
  if isP a = true then (if isP b = true then (if a = b then 1 else if isC c = true then (if isTold rs a b = true then 3 else if 160 ≤ rs.length then 4 else 0) else 2) else 1) else 1
/-- the rows one by one, from the rows rs on -/
def takeRows : List Row → List (V × V × V) → Nat × List Row
  | rs, [] => (0, rs)
  | rs, (a, b, c) :: r => if putDue rs a b c = 0 then takeRows (rs ++ [mkRow a b c]) r else (putDue rs a b c, rs)
def errOf (a : Ads) : Nat → Addr
  | 1 => a.BadPlace
  | 2 => a.BadPrice
  | 3 => a.TwiceTold
  | _ => a.TooMany
structure TarAt (C : Addr) (H : Hp) (p d : Addr) (rs : List Row) : Prop where
  ob : ∃ dx, H p = some (.ins C dx [("_prices", .ref d)])
  dc : H d = some (.dT (rs.map rowK))
theorem TarAt.keep {C : Addr} {H H' : Hp} {p d : Addr} {rs : List Row} (T : TarAt C H p d rs) (k : ∀ b o, b = p ∨ b = d → H b = some o → H' b = some o) : TarAt C H' p d rs := by
  obtain ⟨dx, h⟩ := T.ob
  exact ⟨⟨dx, k _ _ (.inl rfl) h⟩, k _ _ (.inr rfl) T.dc⟩
theorem TarAt.same {C : Addr} {H H' : Hp} {p d : Addr} {rs : List Row} (T : TarAt C H p d rs) (s : Same H H') : TarAt C H' p d rs := T.keep fun b o _ e => s b o e
theorem TarAt.ne {C : Addr} {H : Hp} {p d : Addr} {rs : List Row} (T : TarAt C H p d rs) : p ≠ d := by
  obtain ⟨dx, h⟩ := T.ob
  exact ne_of h T.dc (by intro z; cases z)
theorem rowK_put {rs : List Row} {a b : Str} {n : Int} (h : valV (rs.map rowK) [.inr a, .inr b] = none) : putK (rs.map rowK) [.inr a, .inr b] (.int n) = (rs ++ [(a, b, n)]).map rowK := by
  rw [putK_new _ h, List.map_append]
  rfl
theorem prices_lookup (d : Addr) : List.lookup ("_prices" : Str) [(("_prices" : Str), V.ref d)] = some (.ref d) := by simp [List.lookup]
theorem prices_no (d : Addr) {m : Str} (h : (m == ("_prices" : Str)) = false) : List.lookup m [(("_prices" : Str), V.ref d)] = none := by simp [List.lookup, h]
/-- the rows as they are told -/
def IsRow (H : Hp) (t : Addr) (r : Row) : Prop := H t = some (.tup [.str r.1, .str r.2.1, .int r.2.2])
/-- what stands at t is handed in as a row -/
def IsGiven (K : PySem.W.Frag) (H : Hp) (t : Addr) (r : V × V × V) : Prop := SqT K H t [r.1, r.2.1, r.2.2]
theorem IsRow.given {K : PySem.W.Frag} {H : Hp} {t : Addr} {r : Row} (h : IsRow H t r) : IsGiven K H t (.str r.1, .str r.2.1, .int r.2.2) := SqT.of h

structure MonoG (g : TG) : Prop where
  to : ∀ (x : V) (σ : L2.St) (H : Hp) (Q Q' : L2.St → Hp → Prop), (∀ σ H, Q σ H → Q' σ H) → g x σ H Q → g x σ H Q'
structure MonoGs (g : TGs) : Prop where
  to : ∀ (xs : List V) (σ : L2.St) (H : Hp) (Q Q' : L2.St → Hp → Prop), (∀ σ H, Q σ H → Q' σ H) → g xs σ H Q → g xs σ H Q'
theorem mono_name {i : Nat} : MonoG (gName i) := ⟨fun _ _ _ _ _ h q => h _ _ q⟩
theorem mono_nil : MonoGs gNil := ⟨fun _ _ _ _ _ h q => ⟨q.1, h _ _ q.2⟩⟩
theorem mono_cons {t : TG} {u : TGs} (ht : MonoG t) (hu : MonoGs u) : MonoGs (gCons t u) := ⟨fun _ _ _ _ _ h q => by
  obtain ⟨v, r, e, q⟩ := q
  exact ⟨v, r, e, ht.to _ _ _ _ _ (fun σ H z => hu.to _ _ _ _ _ h z) q⟩⟩
theorem mono_tup {K : PySem.W.Frag} {n : Nat} {t : TGs} (ht : MonoGs t) : MonoG (gTup K n t) := ⟨fun _ _ _ _ _ h q => by
  obtain ⟨p, xs, e, hs, hl, q⟩ := q
  exact ⟨p, xs, e, hs, hl, ht.to _ _ _ _ _ h q⟩⟩

section
variable {te : TE} {g : TG} {vs : List Nat} {σ : L2.St} {H1 : Hp} {D d : Addr} {o : Obj} {kvs : List (List Key × V)} {Qd : Hp → Prop}
theorem lc_itemsT (R : Nat → V → Hp → Prop) (hR : ∀ i v H H', SameB D H H' → R i v H → R i v H') (hD : H1 D = none) (hd : H1 d = some (.frz o (.dT kvs))) (hn : kvs.length ≤ 90000)
    (hs : ∀ i k v T q H acc, kvs[i]? = some (k, v) → Same H1 H → H D = some (.lst acc) → H T = some (.tup [.ref q, v]) → H q = some (.tup (k.map kV)) → ∀ Q : VK, (∀ y H', Same H H' → R i y H' → Q y H') → g (.ref T) (wipe σ vs) H fun σ2 H2 => wipe σ2 vs = wipe σ vs ∧ te σ2 H2 Q)
    (hk : MonoG g)
    (he : ∀ H ys, Same H1 H → H D = some (.lst ys) → ys.length = kvs.length → (∀ i v, ys[i]? = some v → R i v H) → Qd H) :
    ∃ W : Nat → Nat → Hp → Prop, (∃ m, W 0 m (upd H1 D (.lst []))) ∧ ∀ i m H, W i m H →
      ((Itit d o kvs).stop i H ∧ Qd H) ∨ ((Itit d o kvs).go i H ∧ ∃ Nx : Hp → Prop, (∀ H', Nx H' → ∃ m', m' < m ∧ W (i + 1) m' H') ∧ ∀ x H', (Itit d o kvs).yld i H x H' → g x (wipe σ vs) H' fun σ2 H2 => wipe σ2 vs = wipe σ vs ∧ tYes σ2 H2 fun b H3 =>
        if b = true then te σ2 H3 fun y H4 => ∃ acc, H4 D = some (.lst acc) ∧ acc.length < sizeLine ∧ Nx (upd H4 D (.lst (acc ++ [y]))) else Nx H3) := by
  refine ⟨fun i m H => m = kvs.length - i ∧ i ≤ kvs.length ∧ ∃ ys, Same H1 H ∧ H D = some (.lst ys) ∧ ys.length = i ∧ ∀ k v, ys[k]? = some v → R k v H, ⟨kvs.length, by simp, Nat.zero_le _, [], same_new hD, upd_same, rfl, fun k v e => by simp at e⟩, ?_⟩
  rintro i m H ⟨rfl, hi, ys, s1, hDl, hl, hr⟩
  by_cases hlt : i < kvs.length
  · refine .inr ⟨⟨s1 _ _ hd, hlt⟩, fun H' => ∃ ys, Same H1 H' ∧ H' D = some (.lst ys) ∧ ys.length = i + 1 ∧ ∀ k v, ys[k]? = some v → R k v H', fun H' p' => ⟨kvs.length - (i + 1), by omega, rfl, hlt, p'⟩, fun x H' yl => ?_⟩
    obtain ⟨T, q, k, v, hkv, rfl, hT, hq, rfl⟩ := yl
    have sT : Same H (upd H T (.tup [.ref q, v])) := same_new hT
    have hDl2 := sT _ _ hDl
    refine hk.to _ _ _ _ _ (fun σ2 H2 h => ⟨h.1, yes_go h.2⟩) (hs i k v T q _ ys hkv (Same.trans s1 sT) hDl2 upd_same (sT _ _ hq) _ fun y H3 s3 r => ?_)
    refine ⟨ys, s3 _ _ hDl2, szlt (by omega), ys ++ [y], same_mut (Same.trans (Same.trans s1 sT) s3) hD, upd_same, by rw [List.length_append]; simp [hl], lc_step hR hl (Same.trans sT s3) hr r⟩
  · have e : i = kvs.length := by omega
    subst e
    exact .inl ⟨⟨s1 _ _ hd, Nat.le_refl _⟩, he H ys s1 hDl hl hr⟩
end
theorem pair_of {α : Type} {R : Addr → α → Prop} : ∀ {ys : List V} {rs : List α}, ys.length = rs.length → (∀ (i : Nat) v, ys[i]? = some v → ∃ t, v = .ref t ∧ ∃ r, rs[i]? = some r ∧ R t r) → ∃ ts : List Addr, ys = ts.map V.ref ∧ Paired R ts rs
  | [], [], _, _ => ⟨[], rfl, .nil⟩
  | [], _ :: _, h, _ => by simp at h
  | _ :: _, [], h, _ => by simp at h
  | y :: ys, r :: rs, h, k => by
    obtain ⟨t, e, r', e2, hr⟩ := k 0 y rfl
    have e3 : r = r' := by simpa using e2
    subst e3
    obtain ⟨ts, e4, hp⟩ := pair_of (ys := ys) (rs := rs) (by simpa using h) fun i v hv => by
      have := k (i + 1) v (by simpa using hv)
      simpa using this
    exact ⟨t :: ts, by rw [e, e4]; rfl, .cons hr hp⟩

end Fb

namespace Fb
open PySem PySem.Spec PyProof.Rows L2
/-! ### the law's names -/
def code (x : Int) : Nat := (x % 26).toNat + 97
theorem code_letter (x : Int) : letter (code x) = true := by
  unfold letter code
  have h1 : (x % 26).toNat < 26 := by omega
  simp only [Bool.and_eq_true, decide_eq_true_eq]
  omega
theorem code_lt (x : Int) : code x < 1114112 := by unfold code; omega
theorem abc_code (x : Int) : atI abc.cps.toList (x % 26) = some (code x) := abc_at (by omega) (by omega)
def nmSize (c : Int) : Nat := (c / 26 % 11).toNat
def nmPlace (c : Int) : Nat := (c / 286 % ((nmSize c : Int) + 1)).toNat
def nmBase (c : Int) (k : Nat) : List Nat := (List.range (nmSize c)).map fun (j : Nat) => code (c / 3 + (k : Int) * k * (c / 3432 % 2) + 5 * (j : Int))
def nmOne (c : Int) : Bool := decide (c / 6864 % 4 = 1)
def nameL (c : Int) (k : Nat) : List Nat :=
  if nmOne c = true then List.replicate (1 + k % 12) (code (c + ((k / 12 : Nat) : Int)))
  else (nmBase c k).take (nmPlace c) ++ [code (c + (k : Int))] ++ (nmBase c k).drop (nmPlace c) ++ List.replicate (k / 26) 120
def nameOf (c : Int) (k : Nat) : Str := ⟨(nameL c k).toArray⟩
theorem nmSize_le (c : Int) : nmSize c ≤ 10 := by unfold nmSize; omega
theorem nmPlace_le (c : Int) : nmPlace c ≤ nmSize c := by
  unfold nmPlace
  have h := Int.emod_lt_of_pos (c / 286) (show (0 : Int) < (nmSize c : Int) + 1 by omega)
  have h0 := Int.emod_nonneg (c / 286) (show ((nmSize c : Int) + 1) ≠ 0 by omega)
  omega
theorem nmBase_len (c : Int) (k : Nat) : (nmBase c k).length = nmSize c := by unfold nmBase; simp
theorem nameL_len2 (c : Int) (k : Nat) (h : nmOne c = false) : (nameL c k).length = nmSize c + 1 + k / 26 := by
  unfold nameL
  rw [h, if_neg Bool.false_ne_true]
  have h1 := nmPlace_le c
  simp only [List.length_append, List.length_take, List.length_drop, List.length_replicate, List.length_cons, List.length_nil, nmBase_len]
  omega
theorem nameL_letters (c : Int) (k : Nat) : ∀ x ∈ nameL c k, letter x = true := by
  intro x hx
  unfold nameL at hx
  have hb : ∀ y ∈ nmBase c k, letter y = true := fun y hy => by
    obtain ⟨j, _, rfl⟩ := List.mem_map.mp hy
    exact code_letter _
  split at hx
  · rw [(List.mem_replicate.mp hx).2]; exact code_letter _
  · rcases List.mem_append.mp hx with h | h
    · rcases List.mem_append.mp h with h | h
      · rcases List.mem_append.mp h with h | h
        · exact hb x (List.mem_of_mem_take h)
        · rw [List.mem_singleton.mp h]; exact code_letter _
      · exact hb x (List.mem_of_mem_drop h)
    · rw [(List.mem_replicate.mp h).2]; decide
theorem name_len (c : Int) (k : Nat) : (nameOf c k).length = (nameL c k).length := by rw [len_tl]; rfl
theorem name_isP {c : Int} {k : Nat} (hk : k < 52) : isP (.str (nameOf c k)) = true := by
  show (decide (1 ≤ (nameOf c k).length) && decide ((nameOf c k).length ≤ 12) && (nameL c k).all letter) = true
  rw [name_len]
  have h3 : (nameL c k).all letter = true := List.all_eq_true.mpr (nameL_letters c k)
  have h1 : 1 ≤ (nameL c k).length ∧ (nameL c k).length ≤ 12 := by
    cases h : nmOne c with
    | true =>
      unfold nameL
      rw [h, if_pos rfl, List.length_replicate]
      omega
    | false =>
      rw [nameL_len2 c k h]
      have := nmSize_le c
      omega
  rw [h3, decide_eq_true h1.1, decide_eq_true h1.2]; rfl
theorem code_inj {x y : Int} (h : code x = code y) (h1 : -26 < x - y) (h2 : x - y < 26) : x = y := by
  unfold code at h
  omega
theorem name_inj {c : Int} {k l : Nat} (hk : k < 52) (hl : l < 52) (h : nameOf c k = nameOf c l) : k = l := by
  have h1 : nameL c k = nameL c l := congrArg (fun z : Str => z.cps.toList) h
  cases ho : nmOne c with
  | true =>
    unfold nameL at h1
    rw [ho, if_pos rfl, if_pos rfl] at h1
    have l1 := congrArg List.length h1
    rw [List.length_replicate, List.length_replicate] at l1
    have h2 := congrArg (fun z : List Nat => z[0]?) h1
    simp only [List.getElem?_replicate] at h2
    rw [if_pos (by omega), if_pos (by omega)] at h2
    have h3 := code_inj (Option.some.inj h2) (by omega) (by omega)
    omega
  | false =>
    have l1 := congrArg List.length h1
    rw [nameL_len2 c k ho, nameL_len2 c l ho] at l1
    have hp := nmPlace_le c
    have at_ : ∀ m : Nat, (nameL c m)[nmPlace c]? = some (code (c + (m : Int))) := fun m => by
      unfold nameL
      rw [ho, if_neg Bool.false_ne_true]
      rw [List.append_assoc, List.append_assoc, List.getElem?_append_right (by rw [List.length_take, nmBase_len]; omega), List.length_take, nmBase_len]
      rw [show nmPlace c - min (nmPlace c) (nmSize c) = 0 by omega]
      rfl
    have h2 := congrArg (fun z : List Nat => z[nmPlace c]?) h1
    simp only [at_] at h2
    have h3 := code_inj (Option.some.inj h2) (by omega) (by omega)
    omega
/-! texts by parts -/
theorem cut_take (z : Str) (k : Nat) (h : k ≤ z.cps.toList.length) : (cutS z none (some (k : Int))).cps.toList = z.cps.toList.take k := by
  unfold cutS
  show ((z.cps.toList.drop (HT.sIx z.length 0 none)).take (HT.sIx z.length z.length (some (k : Int)) - HT.sIx z.length 0 none)) = _
  rw [HT.sIx_none, HT.sIx_nat, List.drop_zero, len_tl, Nat.min_eq_left h, Nat.sub_zero]
theorem cut_drop (z : Str) (k : Nat) (h : k ≤ z.cps.toList.length) : (cutS z (some (k : Int)) none).cps.toList = z.cps.toList.drop k := by
  unfold cutS
  show ((z.cps.toList.drop (HT.sIx z.length 0 (some (k : Int)))).take (HT.sIx z.length z.length none - HT.sIx z.length 0 (some (k : Int)))) = _
  rw [HT.sIx_none, HT.sIx_nat, len_tl, Nat.min_eq_left h]
  rw [List.take_of_length_le (by rw [List.length_drop]; exact Nat.le_refl _)]
theorem fold_one (x : Nat) : ∀ (n : Nat) (acc : Array Nat), ((List.replicate n #[x]).foldl (· ++ ·) acc).toList = acc.toList ++ List.replicate n x
  | 0, acc => by simp
  | n + 1, acc => by
    rw [List.replicate_succ, List.foldl_cons, fold_one x n (acc ++ #[x])]
    simp [List.replicate_succ]
theorem mul_sign (x : Nat) (n : Int) (h : 0 ≤ n) : (Txt.mul ⟨#[x]⟩ n).cps.toList = List.replicate n.toNat x := by
  unfold Txt.mul
  by_cases h1 : n < 1
  · rw [if_pos h1]
    have e : n = 0 := by omega
    subst e; rfl
  · rw [if_neg h1]
    by_cases h2 : n = 1
    · subst h2; rfl
    · rw [if_neg (by
        have e1 : (n == 1) = false := by simpa using h2
        rw [e1]
        show ¬ (false || (1 == 0)) = true
        decide)]
      show ((List.replicate n.toNat #[x]).foldl (· ++ ·) #[]).toList = _
      rw [fold_one]; simp
theorem str_ext {a b : Str} (h : a.cps.toList = b.cps.toList) : a = b := TL.ext_tl h
theorem signs_of {n : Nat} {f : Nat → Nat} {ys : List V} (hl : ys.length = n) (hr : ∀ i v, ys[i]? = some v → v = V.str ⟨#[f i]⟩) : ∃ zs : List Str, ys = zs.map V.str ∧ (zs.map TL.tl).flatten = (List.range n).map f ∧ (∀ z ∈ zs, z.length = 1) := by
  have e : ys = (List.range n).map fun i => V.str ⟨#[f i]⟩ := by
    refine List.ext_getElem? fun i => ?_
    by_cases h : i < n
    · rw [List.getElem?_map, List.getElem?_range h]
      have h2 : i < ys.length := by omega
      rw [List.getElem?_eq_getElem h2, hr i _ (List.getElem?_eq_getElem h2)]
      rfl
    · rw [List.getElem?_eq_none (by omega), List.getElem?_eq_none (by simp; omega)]
  refine ⟨(List.range n).map fun i => ⟨#[f i]⟩, by rw [e, List.map_map]; rfl, ?_, fun z hz => ?_⟩
  · rw [List.map_map]
    clear e hr hl
    induction (List.range n) with
    | nil => rfl
    | cons a r ih => rw [List.map_cons, List.flatten_cons, ih]; rfl
  · obtain ⟨i, _, rfl⟩ := List.mem_map.mp hz
    rfl
end Fb

namespace Fb
open PySem PySem.Spec PyProof.Rows L2
/-! ### good rows -/
def wayK (x y : Str) : List Key := [.inr x, .inr y]
structure GoodRow (r : Row) : Prop where
  p1 : isP (.str r.1) = true
  p2 : isP (.str r.2.1) = true
  ne : r.1 ≠ r.2.1
  c : isC (.int r.2.2) = true
structure GoodRows (rs : List Row) : Prop where
  ok : ∀ r ∈ rs, GoodRow r
  nd : (rs.map fun r => (r.1, r.2.1)).Nodup
theorem valV_none {κ : Type} [DecidableEq κ] {kvs : List (κ × V)} {k : κ} (h : ∀ v, (k, v) ∉ kvs) : valV kvs k = none := by
  induction kvs with
  | nil => rfl
  | cons q r ih =>
    have n : ¬ q.1 = k := fun e => h q.2 (by rw [← e]; exact List.mem_cons_self)
    rw [valV_neg n]
    exact ih fun v hv => h v (List.mem_cons_of_mem _ hv)
theorem valV_some {κ : Type} [DecidableEq κ] {kvs : List (κ × V)} {k : κ} {v : V} (h : valV kvs k = some v) : (k, v) ∈ kvs := by
  induction kvs with
  | nil => cases h
  | cons q r ih =>
    by_cases e : q.1 = k
    · rw [valV_pos e] at h
      cases h
      rw [← e]
      exact List.mem_cons_self
    · rw [valV_neg e] at h
      exact List.mem_cons_of_mem _ (ih h)
theorem wayK_inj {x y x' y' : Str} (h : wayK x y = wayK x' y') : x = x' ∧ y = y' := by
  unfold wayK at h
  have h1 := List.cons.inj h
  have h2 := List.cons.inj h1.2
  exact ⟨Sum.inr.inj h1.1, Sum.inr.inj h2.1⟩
theorem way_new {rs : List Row} {x y : Str} (f : Row → V) (h : valV (rs.map fun r => (wayK r.1 r.2.1, f r)) (wayK x y) = none) : (x, y) ∉ rs.map fun r => (r.1, r.2.1) := by
  induction rs with
  | nil => simp
  | cons q r ih =>
    intro hm
    by_cases e : wayK q.1 q.2.1 = wayK x y
    · rw [List.map_cons, valV_pos (show (wayK q.1 q.2.1, f q).1 = wayK x y from e)] at h
      cases h
    · rw [List.map_cons, valV_neg (show ¬ (wayK q.1 q.2.1, f q).1 = wayK x y from e)] at h
      rcases List.mem_cons.mp hm with e2 | e2
      · have e3 : x = q.1 ∧ y = q.2.1 := by simpa using e2
        exact e (by rw [e3.1, e3.2])
      · exact ih h e2
theorem way_none {rs : List Row} {x y : Str} (f : Row → V) (h : (x, y) ∉ rs.map fun r => (r.1, r.2.1)) : valV (rs.map fun r => (wayK r.1 r.2.1, f r)) (wayK x y) = none := by
  refine valV_none fun v hv => ?_
  obtain ⟨r, hr, e⟩ := List.mem_map.mp hv
  have e1 := (Prod.mk.inj e).1
  obtain ⟨e2, e3⟩ := wayK_inj e1
  exact h (List.mem_map.mpr ⟨r, hr, by rw [e2, e3]⟩)
def givenOf (r : Row) : V × V × V := (.str r.1, .str r.2.1, .int r.2.2)
theorem isP_ask {z : Str} (h : isP (.str z) = true) : ask (.str z) := by
  have h1 : (decide (1 ≤ z.length) && decide (z.length ≤ 12) && z.cps.toList.all letter) = true := h
  simp only [Bool.and_eq_true, decide_eq_true_eq] at h1
  refine .inr (.inr (.inr ⟨z, rfl, by omega, fun c hc => ?_⟩))
  have h2 := List.all_eq_true.mp h1.2 c hc
  unfold letter at h2
  simp only [Bool.and_eq_true, decide_eq_true_eq] at h2
  omega
theorem put_good {rs : List Row} {r : Row} (h : GoodRow r) (hn : (r.1, r.2.1) ∉ rs.map fun r => (r.1, r.2.1)) (hl : rs.length < 160) : putDue rs (.str r.1) (.str r.2.1) (.int r.2.2) = 0 := by
  unfold putDue
  have e : isTold rs (.str r.1) (.str r.2.1) = false := by
    unfold isTold
    rw [show valV (rs.map rowK) [Sum.inr (strOf (.str r.1)), Sum.inr (strOf (.str r.2.1))] = none from way_none (fun r => .int r.2.2) hn]
    rfl
  rw [if_pos h.p1, if_pos h.p2, if_neg (fun z => h.ne (V.str.inj z)), if_pos h.c, e, if_neg Bool.false_ne_true, if_neg (by omega)]
theorem take_good {rs' : List Row} : ∀ {rs : List Row}, GoodRows (rs ++ rs') → (rs ++ rs').length ≤ 160 → takeRows rs (rs'.map givenOf) = (0, rs ++ rs') := by
  induction rs' with
  | nil => intro rs _ _; rw [List.append_nil]; rfl
  | cons r r' ih =>
    intro rs g hl
    have hg := g.ok r (by simp)
    have nd := g.nd
    rw [List.map_append, List.map_cons] at nd
    have hn : (r.1, r.2.1) ∉ rs.map fun r => (r.1, r.2.1) := fun hm => (List.nodup_append.mp nd).2.2 _ hm _ List.mem_cons_self rfl
    have h0 := put_good hg hn (by rw [List.length_append, List.length_cons] at hl; omega)
    show (if putDue rs (.str r.1) (.str r.2.1) (.int r.2.2) = 0 then takeRows (rs ++ [mkRow (.str r.1) (.str r.2.1) (.int r.2.2)]) (r'.map givenOf) else _) = _
    rw [if_pos h0]
    have e : rs ++ [mkRow (.str r.1) (.str r.2.1) (.int r.2.2)] ++ r' = rs ++ r :: r' := by rw [List.append_assoc]; rfl
    rw [ih (rs := rs ++ [mkRow (.str r.1) (.str r.2.1) (.int r.2.2)]) (by rw [e]; exact g) (by rw [e]; exact hl), e]
theorem good_snoc {rs : List Row} {r : Row} (g : GoodRows rs) (h : GoodRow r) (hn : (r.1, r.2.1) ∉ rs.map fun r => (r.1, r.2.1)) : GoodRows (rs ++ [r]) := by
  refine ⟨fun q hq => ?_, ?_⟩
  · rcases List.mem_append.mp hq with h1 | h1
    · exact g.ok q h1
    · rw [List.mem_singleton.mp h1]; exact h
  · rw [List.map_append]
    refine List.nodup_append.mpr ⟨g.nd, by simp, fun a ha b hb e => ?_⟩
    rw [List.map_cons, List.map_nil, List.mem_singleton] at hb
    rw [e, hb] at ha
    exact hn ha
theorem good_ask {rs : List Row} (g : GoodRows rs) : ∀ q ∈ rs.map givenOf, ask q.1 ∧ ask q.2.1 ∧ ask q.2.2 := fun q hq => by
  obtain ⟨r, hr, rfl⟩ := List.mem_map.mp hq
  have h := g.ok r hr
  exact ⟨isP_ask h.p1, isP_ask h.p2, .inr (.inr (.inl ⟨_, rfl⟩))⟩
/-! rows as data -/
def rowV (r : Row) : List V := [.str r.1, .str r.2.1, .int r.2.2]
def rowD (r : Row) : PyData := .tuple ((rowV r).map dat)
theorem row_flat {r : Row} (h : GoodRow r) : ∀ v ∈ rowV r, flat v := fun v hv => by
  unfold rowV at hv
  simp only [List.mem_cons, List.not_mem_nil, or_false] at hv
  rcases hv with e | e | e
  · rw [e]; exact ask_flat (isP_ask h.p1)
  · rw [e]; exact ask_flat (isP_ask h.p2)
  · rw [e]; exact .inr (.inr (.inl ⟨_, rfl⟩))
theorem dp_row {K : PySem.W.Frag} {H : Hp} {t : Addr} {r : Row} (h : GoodRow r) (e : IsRow H t r) : Dp K H (.ref t) (rowD r) := .tup (SqT.of e) (dpAll_flat (row_flat h))
theorem dp_rows {K : PySem.W.Frag} {H : Hp} : ∀ {ts : List Addr} {rs : List Row}, (∀ r ∈ rs, GoodRow r) → Paired (IsRow H) ts rs → DpAll K H (ts.map V.ref) (rs.map rowD)
  | _, _, _, .nil => .nil
  | _, _, g, .cons h t => .cons (dp_row (g _ List.mem_cons_self) h) (dp_rows (fun r hr => g r (List.mem_cons_of_mem _ hr)) t)
theorem shaped_row {r : Row} (h : GoodRow r) : SeqAt.shaped (rowD r) = true := shaped_tup (row_flat h)
theorem lay_rows : ∀ {rs : List Row}, (∀ r ∈ rs, GoodRow r) → PyData.canLayAll0 (rs.map rowD) = true ∧ PyData.depthAll (rs.map rowD) ≤ 1
  | [], _ => ⟨by simp [PyData.canLayAll0], by simp [PyData.depthAll]⟩
  | r :: rs, g => by
    have h1 := layAll_flat (row_flat (g r List.mem_cons_self))
    have h2 := lay_rows (rs := rs) fun q hq => g q (List.mem_cons_of_mem _ hq)
    have e1 : PyData.canLay0 (rowD r) = true := by unfold rowD; rw [PyData.canLay0, h1.1]
    have e2 : PyData.depth (rowD r) = 1 := by unfold rowD; rw [PyData.depth, h1.2]
    refine ⟨?_, ?_⟩
    · rw [List.map_cons, PyData.canLayAll0, e1, h2.1]; rfl
    · rw [List.map_cons, PyData.depthAll, e2]
      exact Nat.max_le.mpr ⟨Nat.le_refl _, h2.2⟩
theorem shaped_rows {rs : List Row} (g : ∀ r ∈ rs, GoodRow r) : SeqAt.shaped (.list (rs.map rowD)) = true := by
  have h := lay_rows g
  unfold SeqAt.shaped
  rw [PyData.canLay0, h.1, PyData.depth]
  have h2 : PyData.depthAll (rs.map rowD) + 1 ≤ 64 := by omega
  rw [decide_eq_true h2]; rfl
theorem nodup_take {α : Type} : ∀ {l : List α} {i : Nat} {x : α}, l.Nodup → l[i]? = some x → x ∉ l.take i
  | [], _, _, _, h => by simp at h
  | y :: l, 0, x, _, _ => by simp
  | y :: l, i + 1, x, nd, h => by
    have h1 := List.nodup_cons.mp nd
    have h2 : l[i]? = some x := by simpa using h
    have h3 := nodup_take (l := l) (i := i) h1.2 h2
    rw [List.take_succ_cons]
    intro hm
    rcases List.mem_cons.mp hm with e | e
    · rw [← e] at h1; exact h1.1 (List.mem_of_getElem? h2)
    · exact h3 e
theorem way_fresh {rs : List Row} {i : Nat} {r : Row} (g : GoodRows rs) (h : rs[i]? = some r) : valV ((rs.take i).map rowK) [.inr r.1, .inr r.2.1] = none := by
  refine way_none (rs := rs.take i) (fun r => .int r.2.2) ?_
  have h1 : (rs.map fun r => (r.1, r.2.1))[i]? = some (r.1, r.2.1) := by rw [List.getElem?_map, h]; rfl
  have h2 := nodup_take g.nd h1
  rw [← List.map_take] at h2
  exact h2
theorem take_rowK {rs : List Row} {i : Nat} {r : Row} (g : GoodRows rs) (h : rs[i]? = some r) : putK ((rs.take i).map rowK) [.inr r.1, .inr r.2.1] (.int r.2.2) = (rs.take (i + 1)).map rowK := by
  rw [rowK_put (way_fresh g h), List.take_add_one, h]
  rfl
theorem shaped_two {r1 r2 : List Row} (g1 : ∀ r ∈ r1, GoodRow r) (g2 : ∀ r ∈ r2, GoodRow r) : SeqAt.shaped (.list [.list (r1.map rowD), .list (r2.map rowD)]) = true := by
  have h1 := lay_rows g1
  have h2 := lay_rows g2
  have e : PyData.depthAll [.list (r1.map rowD), .list (r2.map rowD)] ≤ 2 := by
    rw [PyData.depthAll, PyData.depthAll, PyData.depthAll, PyData.depth, PyData.depth]
    omega
  unfold SeqAt.shaped
  rw [PyData.canLay0, PyData.canLayAll0, PyData.canLayAll0, PyData.canLayAll0, PyData.canLay0, PyData.canLay0, h1.1, h2.1, PyData.depth]
  rw [decide_eq_true (show PyData.depthAll [.list (r1.map rowD), .list (r2.map rowD)] + 1 ≤ 64 by omega)]
  rfl
theorem given_rows {K : PySem.W.Frag} {H : Hp} {ts : List Addr} {rs : List Row} (h : Paired (IsRow H) ts rs) : Paired (IsGiven K H) ts (rs.map givenOf) := by
  induction h with
  | nil => exact .nil
  | cons h t ih => exact .cons (SqT.of h) ih
theorem rows_same {H H' : Hp} {ts : List Addr} {rs : List Row} (s : Same H H') (h : Paired (IsRow H) ts rs) : Paired (IsRow H') ts rs := Paired.mapP h fun _ _ e => s _ _ e
theorem rows_but {H H' : Hp} {D : Addr} {o : HO} {ts : List Addr} {rs : List Row} (s : SameB D H H') (hD : H D = some o) (n : ∀ xs, o ≠ .tup xs) (h : Paired (IsRow H) ts rs) : Paired (IsRow H') ts rs :=
  Paired.mapP h fun _ _ e => s _ _ (ne_of e hD fun z => n _ z.symm) e
end Fb

namespace Fb
open PySem PySem.Spec PyProof.Rows L2
/-! ### methods, by facts -/
structure FM (K : PySem.W.Frag) (C : Addr) (m qual : Str) (st : Stmt) (f : Addr) : Prop where
  a : PySem.W.findIn K (.ref C) m = some (some (.ref f))
  i : PySem.W.isFn K (.ref f) = true
  l : ∃ (oc : Value) (od : Option Addr) (kV dc pm : Value) (an : Option Addr) (cd ct : Value) (osl : Array (Option Value)), K.lookup f = some ⟨oc, od, .func (PySem.W.fnOf m qual (defArgs st) (defBody st) (defScope st) .none kV dc pm an cd ct), osl⟩ ∧ PySem.W.codeIn K cd qual = true
  k : PySem.W.keepIn K (.ref f) = true
theorem fm_mk {K : PySem.W.Frag} {C : Addr} {m qual : Str} {st : Stmt} {f : Addr} {oc kV dc pm cd ct : Value} {od an : Option Addr} {osl : Array (Option Value)} (a : PySem.W.findIn K (.ref C) m = some (some (.ref f))) (i : PySem.W.isFn K (.ref f) = true)
    (l : K.lookup f = some ⟨oc, od, .func (PySem.W.fnOf m qual (defArgs st) (defBody st) (defScope st) .none kV dc pm an cd ct), osl⟩) (c : PySem.W.codeIn K cd qual = true) (k : PySem.W.keepIn K (.ref f) = true) : FM K C m qual st f := ⟨a, i, ⟨oc, od, kV, dc, pm, an, cd, ct, osl, l, c⟩, k⟩
structure CA (K : PySem.W.Frag) (x : Str) (C : Addr) : Prop where
  a : PySem.W.nsIn K mainGlobals x = some (some (.ref C))
  pg : PySem.W.plainGet K C Str.empty = true
  hd : PySem.W.hasDictIn K C = true
  po : PySem.W.plainOver K C = true
  sa : PySem.W.findIn K (.ref C) "__setattr__" = some (some (.builtin "object.__setattr__"))
  mks : PySem.W.makesIn K C = true
  k : PySem.W.keepIn K (.ref C) = true
theorem CA.cls {K : PySem.W.Frag} {x : Str} {C : Addr} (A : CA K x C) : Cls K C := ⟨A.pg, A.hd, A.po, A.sa⟩
section
variable {Pg : Program} {w : World} {K : PySem.W.Frag} {mg : Str → Option Value} {base h : Heap} {x m qual : Str} {st : Stmt} {f C : Addr} {ps : List Str} {sp : Sp} {k : Nat}
theorem FM.fn (A : FM K C m qual st f) (ok : ∀ fd, Fun K m qual st f fd → FnOk Pg w K mg base (L2N.CX Pg w) k f fd ps sp)
    (hb : ∀ (kV doc pm : Value) (an : Option Addr) (cdv ct : Value) (us : List Value), us.length = ps.length → bindArgs (PySem.W.fnOf m qual (defArgs st) (defBody st) (defScope st) .none kV doc pm an cdv ct) ⟨us, []⟩ = pure (ps.zip us)) :
    ∃ fd, FnOk Pg w K mg base (L2N.CX Pg w) k f fd ps sp ∧ Binds K fd ps [] := by
  obtain ⟨oc, od, kV, dc, pm, an, cd, ct, osl, l, c⟩ := A.l
  have F := fun_mk (st := st) l c A.k
  exact ⟨_, ok _ F, F.binds (ps := ps) hb⟩
theorem FM.dm (A : FM K C m qual st f) (ok : ∀ fd, Fun K m qual st f fd → FnOk Pg w K mg base (L2N.CX Pg w) k f fd ps sp)
    (hb : ∀ (kV doc pm : Value) (an : Option Addr) (cdv ct : Value) (us : List Value), us.length = ps.length → bindArgs (PySem.W.fnOf m qual (defArgs st) (defBody st) (defScope st) .none kV doc pm an cdv ct) ⟨us, []⟩ = pure (ps.zip us)) :
    Dm Pg w K mg base k C m ps sp := by
  obtain ⟨fd, h1, h2⟩ := A.fn ok hb
  exact ⟨f, fd, h1, ⟨A.a, A.i, A.k⟩, h2⟩
theorem FM.dk (A : FM K C "__init__" qual st f) (B : CA K x C) (X : K.In h) (G : h.Ns mainGlobals mg) (ok : ∀ fd, Fun K "__init__" qual st f fd → FnOk Pg w K mg base (L2N.CX Pg w) k f fd ps sp)
    (hb : ∀ (kV doc pm : Value) (an : Option Addr) (cdv ct : Value) (us : List Value), us.length = ps.length → bindArgs (PySem.W.fnOf "__init__" qual (defArgs st) (defBody st) (defScope st) .none kV doc pm an cdv ct) ⟨us, []⟩ = pure (ps.zip us)) :
    Dk Pg w K mg base k x C ps sp := by
  obtain ⟨fd, h1, h2⟩ := A.fn ok hb
  exact ⟨PySem.W.mg_of X G B.a, f, fd, h1, ⟨B.mks, A.a, A.i, B.k⟩, h2⟩
end
end Fb

namespace Fb
open PySem PySem.Spec PyProof.Rows L2 HotX
/-! ### walks while an error is handled -/
section
variable {prog : Program} {w : World} {A : Around} {E : Value → Shared → Prop} {s : Shared}
/-- StopIteration is raised there: a new error, its context the one that is handled; nothing else changes -/
theorem hot_stop {α : Type} {x1 : Addr} {Q : α → Shared → Prop} (hot : HotAt A x1 s.heap)
    (post : ∀ (h' : Heap) (a : Addr), (∀ b o, s.heap.get? b = some o → h'.get? b = some o) → (∃ o, h'.get? a = some o ∧ o.cls = .type "StopIteration") → E (.ref a) { s with heap := h' }) :
    wpAny (model prog w) A (newExc (.type "StopIteration") [] >>= fun e => (raiseNew e : Sem α)) Q E s := by
  obtain ⟨hh, oe, fe, ge, de, ce⟩ := hot
  refine wpAny_bind ?_
  simp only [newExc, newTuple]
  refine wpAny_bind (wpAny_newObj_type ?_ (by size_fits))
  refine wpAny_bind (m := firstArgMember _ _) (wpAny_of_eq (a := Value.none) (by first | rfl | (simp only [firstArgMember]; rfl)) (wpAny_newObj_type ?_ (by size_fits)))
  have g1 := Heap.get?_push_of_some { cls := .type "tuple", data := .seq ([] : List Value).toArray } ge
  refine raiseNew_hot ⟨hh, oe, fe, Heap.get?_push_of_some _ g1, de, ce⟩ (Nat.ne_of_lt (Heap.lt_size g1)) (Heap.get?_push_size _ rfl) rfl (by first | (simp; done) | (simp; omega)) ?_
  refine post _ _ (fun b o e => ?_) ⟨_, Heap.get?_update_self _ (Heap.get?_push_size _ rfl) rfl, rfl⟩
  have g2 := Heap.get?_push_of_some { cls := .type "tuple", data := .seq ([] : List Value).toArray } e
  rw [Heap.get?_update_other _ _ (Nat.ne_of_gt (Heap.lt_size g2))]
  exact Heap.get?_push_of_some _ g2
theorem hot_list_end {it l x1 : Addr} {i : Nat} {its : Array Value} {Q : Option Value → Shared → Prop} (hot : HotAt A x1 s.heap) (iter : s.heap.IsListIter it l i) (lst : s.heap.IsList l its) (last : its[i]? = none)
    (post : ∀ h', Heap.ExtBut it s.heap h' → Q none { s with heap := h' }) : wpAny (model prog w) A (pyNext (.ref it)) Q E s := by
  obtain ⟨hh, oe, fe, ge, de, ce⟩ := hot
  obtain ⟨oi, gi, ci, di⟩ := id iter
  obtain ⟨ol, gl, _, nl, dl⟩ := lst
  have ne : it ≠ x1 := fun z => by
    rw [← z, gi] at ge
    cases ge
    rw [di] at de
    cases de
    simp at ce
  unfold pyNext
  refine wpAny_bind (wpAny_attempt (wpAny_callSpecial?_slot (name := Str.ofString "__next__") iter.typeIs slot_listiter_next (wpAny_call_entry slot_listiter_next iter.typeIs entry_listiter_next ?_ (args_listiter_next _))))
  show wpAny _ _ (field (.ref it) 0 >>= _) _ _ s
  refine wpAny_bind (wpAny_field gi di (x := .ref l) rfl ?_)
  show wpAny _ _ (if (Value.ref l == Value.none) = true then _ else _) _ _ s
  rw [if_neg (show (Value.ref l == Value.none) ≠ true from fun z => Bool.false_ne_true z)]
  show wpAny _ _ (field (.ref it) 1 >>= _) _ _ s
  refine wpAny_bind (wpAny_field gi di (x := .int i 0) rfl ?_)
  show wpAny _ _ (seqItems? (.ref l) >>= _) _ _ s
  refine wpAny_bind (wpAny_seqItems gl dl ?_)
  simp only [Int.toNat_natCast, last]
  refine wpAny_bind (wpAny_rule (wpAny_bind (wpAny_setField gi di (by simp) ?_)))
  refine hot_stop (x1 := x1) ⟨hh, oe, fe, (Heap.get?_update_other _ _ ne).trans ge, de, ce⟩ fun h' a kept isStop => ?_
  refine wpAny_bind (wpAny_isInstance (T := "StopIteration") (b := true) isStop isSubtype_stop (wpAny_pure (post h' fun b o nb e => kept b o ?_)))
  rw [Heap.get?_update_other _ _ (Ne.symm nb)]
  exact e
end
end Fb

namespace Fb
open PySem PySem.Spec PyProof.Rows L2 HotX
/-- an iterator and what it tells, turn by turn, also while an error is handled -/
structure TurnA (Pg : Program) (w : World) (K : PySem.W.Frag) (tg : Expr) (J : It) (own : List Addr) (it : Addr) (st : Nat → Heap → Prop) : Prop where
  mem : it ∈ own
  obj : ∀ n h, st n h → ∀ c ∈ own, ∃ ob, h.get? c = some ob ∧ ∀ v, ob.data ≠ .cell v
  keep : ∀ n h h', st n h → (∀ c ∈ own, ∀ ob, h.get? c = some ob → h'.get? c = some ob) → st n h'
  item : ∀ (X : Cx), X.prog = Pg → X.w = w → X.K = K → ∀ (n : Nat) (pins : List (Addr × Obj)) (z : Shared) (σ : L2.St) (H : Hp) (E : Value → Shared → Prop), Inv X pins σ H z → (∀ c ∈ own, FpOk X pins H c) → st n z.heap → J.go n H →
    wpAny (model Pg w) X.A (pyNext (.ref it)) (fun r z1 => ∃ u, r = some u ∧ wpAny (model Pg w) X.A (letOwnedTupleGo tg (.ref it) u)
      (fun _ z2 => ∃ x H', Inv X pins σ H' z2 ∧ RelV x u ∧ J.yld n H x H' ∧ st (n + 1) z2.heap ∧ ∀ c ∈ own, H' c = none) E z1) E z
  done : ∀ (X : Cx), X.prog = Pg → X.w = w → X.K = K → ∀ (x1 : Addr) (n : Nat) (pins : List (Addr × Obj)) (z : Shared) (σ : L2.St) (H : Hp) (E : Value → Shared → Prop), HotAt X.A x1 z.heap → Inv X pins σ H z → (∀ c ∈ own, FpOk X pins H c) →
    st n z.heap → J.stop n H → wpAny (model Pg w) X.A (pyNext (.ref it)) (fun r z1 => r = none ∧ Inv X pins σ H z1) E z
  self : ∀ (A : Around) (n : Nat) (z : Shared) (Q : Value → Shared → Prop) (E : Value → Shared → Prop), st n z.heap → Q (.ref it) z → wpAny (model Pg w) A (pyIter (.ref it)) Q E z
def PIEA (X : Cx) (pins : List (Addr × Obj)) (σ : L2.St) (tg : Expr) (R : It → Hp → Prop) (itv : Value) (z : Shared) : Prop :=
  ∃ (it : Addr) (own : List Addr) (st : Nat → Heap → Prop) (J : It) (H' : Hp), itv = .ref it ∧ Inv X pins σ H' z ∧ TurnA X.prog X.w X.K tg J own it st ∧ st 0 z.heap ∧ (∀ c ∈ own, FpOk X pins H' c) ∧ R J H'
structure PIA (X : Cx) (tg iter : Expr) (wi : TI) : Prop where
  run : ∀ (pins : List (Addr × Obj)) (z : Shared) (σ : L2.St) (H : Hp) (R : It → Hp → Prop), Inv X pins σ H z → wi σ H R →
    wpAny (model X.prog X.w) X.A (eval iter X.env) (fun v z1 => wpAny (model X.prog X.w) X.A (pyIter v) (PIEA X pins σ tg R) X.xe z1) X.xe z
theorem turn_listA {Pg : Program} {w : World} {K : PySem.W.Frag} {tg : Expr} (l it : Addr) : TurnA Pg w K tg (Itl K l) [it] it (fun n h => h.IsListIter it l n) where
  mem := List.mem_singleton.mpr rfl
  obj := fun n h t c hc => by
    rw [List.mem_singleton.mp hc]
    obtain ⟨ob, g, _, d⟩ := t
    exact ⟨ob, g, fun v z => by rw [d] at z; cases z⟩
  keep := fun n h h' t k => t.at fun ob g => k it (List.mem_singleton.mpr rfl) ob g
  item := fun X e1 e2 e3 n pins z σ H E I free t go => by
    subst e1 e2 e3
    obtain ⟨xs, x, sq, at_⟩ := go
    obtain ⟨us, rel, pl, _⟩ := I.list sq
    obtain ⟨u, hu, ru⟩ := rel.get at_
    have F := free it (List.mem_singleton.mpr rfl)
    refine wpAny_pyNext_list_item t pl.isList (x := u) (by simpa using hu) fun h' t' but => ?_
    have I' : Inv X pins σ H { z with heap := h' } := I.turned (t' := z.toks) (fun c ob nc g => (but.2 c nc).trans g) F.1 F.2.1 F.2.2.2.1 F.2.2.2.2.1 F.2.2.2.2.2
    obtain ⟨ob, g, c, d⟩ := id t'
    exact ⟨u, rfl, go_of (s := { z with heap := h' }) g c d (by decide) ⟨x, H, I', ru, ⟨rfl, fun ys hy => by rw [I.list_inj hy sq]; exact at_⟩, t', fun c hc => (free c hc).1⟩⟩
  done := fun X e1 e2 e3 x1 n pins z σ H E hot I free t stop => by
    subst e1 e2 e3
    obtain ⟨xs, sq, le⟩ := stop
    obtain ⟨us, rel, pl, _⟩ := I.list sq
    have F := free it (List.mem_singleton.mpr rfl)
    have len := rel.length
    exact hot_list_end hot t pl.isList (by simp; omega) fun h' but => ⟨rfl, I.turned (t' := z.toks) (fun c ob nc g => but c ob nc g) F.1 F.2.1 F.2.2.2.1 F.2.2.2.2.1 F.2.2.2.2.2⟩
  self := fun _ _ _ _ _ t q => wpAny_pyIter_listiter t q
theorem turn_rangeA {Pg : Program} {w : World} {K : PySem.W.Frag} {tg : Expr} (it : Addr) (lo : Int) (m : Nat) : TurnA Pg w K tg (Itr lo m) [it] it (fun n h => IsRangeIter h it (lo + (n : Nat) * 1) ((m : Int) - (n : Nat)) 1) where
  mem := List.mem_singleton.mpr rfl
  obj := fun n h t c hc => by
    rw [List.mem_singleton.mp hc]
    exact ⟨_, t, fun v z => nomatch (show Data.fields _ = Data.cell v from z)⟩
  keep := fun n h h' t k => k it (List.mem_singleton.mpr rfl) _ t
  item := fun X e1 e2 e3 n pins z σ H E I free t go => by
    subst e1 e2 e3
    have F := free it (List.mem_singleton.mpr rfl)
    have lt : n < m := go
    refine wpAny_pyNext_range_item t (by omega) fun h' t' but => ?_
    have t2 : IsRangeIter h' it (lo + ((n + 1 : Nat) : Int) * 1) ((m : Int) - ((n + 1 : Nat) : Int)) 1 := by
      rw [show lo + ((n + 1 : Nat) : Int) * 1 = lo + ((n : Nat) : Int) * 1 + 1 by omega, show (m : Int) - ((n + 1 : Nat) : Int) = (m : Int) - ((n : Nat) : Int) - 1 by omega]
      exact t'
    have I' : Inv X pins σ H { z with heap := h', toks := z.toks + 1 } := I.turned (fun c ob nc g => (but.2 c nc).trans g) F.1 F.2.1 F.2.2.2.1 F.2.2.2.2.1 F.2.2.2.2.2
    refine ⟨_, rfl, go_of (s := { z with heap := h', toks := z.toks + 1 }) (n := "range_iterator") t2 rfl rfl (by decide) ⟨.int (lo + n), H, I', ⟨z.toks, ?_⟩, ⟨rfl, rfl⟩, t2, fun c hc => (free c hc).1⟩⟩
    rw [Int.mul_one]
  done := fun X e1 e2 e3 x1 n pins z σ H E hot I free t stop => by
    subst e1 e2 e3
    have F := free it (List.mem_singleton.mpr rfl)
    exact pyNext_range_end_hot hot t (by have : m ≤ n := stop; omega) fun h' k => ⟨rfl, I.turned (t' := z.toks) (fun c ob _ g => k c ob g) F.1 F.2.1 F.2.2.2.1 F.2.2.2.2.1 F.2.2.2.2.2⟩
  self := fun _ _ _ _ _ t q => wpAny_pyIter_rangeiter t q
section
variable {X : Cx} {tg : Expr}
theorem pi_listA {l : Expr} {tl : TE} (hl : PE X l tl) : PIA X tg l (iList X.K tl) := ⟨fun pins z σ H R I wish => by
  refine thn (hl.run pins z σ H _ I wish) fun v z1 got => ?_
  obtain ⟨x, H1, I1, r1, a, rfl, ⟨xs, sq⟩, q⟩ := got
  cases r1
  obtain ⟨us, rel, pl, _⟩ := I1.list sq
  refine wpAny_pyIter_list pl.isList ⟨z1.heap.objs.size, [z1.heap.objs.size], _, _, H1, rfl, I1.kept (t' := z1.toks) fun b o e => Heap.get?_push_of_some _ e, turn_listA a _, ⟨_, Heap.get?_push_size _ rfl, rfl, rfl⟩, fun c hc => ?_, q⟩
  rw [List.mem_singleton.mp hc]
  exact I1.fpOk (Nat.le_refl _) (I1.hok.fresh (Nat.le_refl _))⟩
end
end Fb

namespace Fb
open PySem PySem.Spec PyProof.Rows L2 HotX
section
variable {X : Cx}
/-- a list's comprehension while an error is handled -/
theorem pe_lcA {elt tg iter : Expr} {ifs : List Expr} {sc : Scope} {own : List (Str × Nat)} {pos : Pos} {wi : TI} {g : TG} {tt : TT} {te : TE} (hot : L2H.HotC X) (nd : X.N.Nodup) (hi : PIA X tg iter wi) (ok : BlkOk X.N X.env.scope sc own)
    (hg : ∀ (z : Shared) (H : Hp) (C : Addr) (cl : List (Str × Addr)) (fp : List Addr), PG (X.blk z H sc (compEnvC sc cl C X.env) fp) tg g)
    (ht : ∀ (z : Shared) (H : Hp) (C : Addr) (cl : List (Str × Addr)) (fp : List Addr), PTs (X.blk z H sc (compEnvC sc cl C X.env) fp) ifs tt)
    (he : ∀ (z : Shared) (H : Hp) (C : Addr) (cl : List (Str × Addr)) (fp : List Addr), PE (X.blk z H sc (compEnvC sc cl C X.env) fp) elt te)
    (hs : ∀ x, foldedSetIterable iter X.env x = pure x := by intro _; rfl) : PE X (.ListComp elt [⟨tg, iter, ifs, 0⟩] sc pos) (tLc wi g tt te (own.map (·.2))) := by
  refine ⟨fun pins z0 σ H Q I wish => ?_⟩
  rw [eval_ListComp]
  obtain ⟨p, ⟨hh, fe, de, cx⟩, pm⟩ := hot
  have frees : ∀ y ∈ sc.names, y.2 = .free → ∃ c, X.env.cells.lookup y.1 = some c := fun y hy e => (ok.free y hy e).elim (fun k => I.ok.has _ (.inl k)) fun k => I.ok.has _ (.inr k)
  refine wpAny_comprehension_free rfl hs (closure_ok frees) ok.kind (fun y hy e => by rw [ok.uniq y hy, e]) (thn (hi.run pins z0 σ H _ I wish) fun xv z1 hx => thn hx fun itv z2 got => ?_)
  obtain ⟨it, fp, tn, J, H2, rfl, I2, T, t2, f2, q⟩ := got
  refine wpAny_newObj_type (newEnv_comp ?_) (Nat.zero_le _)
  generalize eD : z2.heap.objs.size = D
  have freeD : H2 D = none := I2.hok.fresh (Nat.le_of_eq eD)
  obtain ⟨W, ⟨m0, w0⟩, turn⟩ := q D freeD
  generalize e3 : ({ z2 with heap := z2.heap.push { cls := .type "list", data := .seq ([] : List Value).toArray } } : Shared) = z3
  have I3 : Inv X pins σ (upd H2 D (.lst [])) z3 := by
    rw [← e3]
    refine I2.laid (t' := z2.toks) (fun b o e => Heap.get?_push_of_some _ e) (Nat.le_of_eq eD) ⟨Nat.zero_le _, [], 0, .nil, ?_⟩
    rw [← eD]
    exact Heap.get?_push_size _ rfl
  have h3 : z3.heap = z2.heap.push { cls := .type "list", data := .seq ([] : List Value).toArray } := by rw [← e3]
  have below : ∀ c ∈ fp, c < z2.heap.objs.size := fun c hc => by
    obtain ⟨ob, e, _⟩ := T.obj _ _ t2 c hc
    exact Heap.lt_size e
  have f3 : ∀ c ∈ fp, FpOk X pins (upd H2 D (.lst [])) c ∧ c < z3.heap.objs.size := fun c hc => by
    have lt := below c hc
    refine ⟨⟨?_, (f2 c hc).2⟩, by rw [h3, Heap.size_push]; exact Nat.lt_succ_of_lt lt⟩
    rw [upd_ne (by rw [← eD]; exact Nat.ne_of_lt lt)]
    exact (f2 c hc).1
  have t3 : tn 0 z3.heap := T.keep _ _ _ t2 fun c _ o e => by rw [h3]; exact Heap.get?_push_of_some _ e
  have I4 := block_start I3 ok nd f3
  -- the error stands where the block begins
  have P3 := I3.pin p (List.mem_append_left _ pm)
  have pstk : p.1 ∉ frs X.stack := fun z => (List.mem_cons.mp (I3.stkSub p.1 z)).elim P3.2.2.1 P3.2.2.2.1
  have pfp : p.1 ∉ fp := fun z => (f3 p.1 z).1.2.2.2.2.2 p (List.mem_append_left _ pm) rfl
  have pg := hg z3 (upd H2 D (.lst [])) z3.heap.objs.size (cellsFrom (z3.heap.objs.size + 1) sc.names (cloFrom X.env.cells sc.names [])) fp
  have pt := ht z3 (upd H2 D (.lst [])) z3.heap.objs.size (cellsFrom (z3.heap.objs.size + 1) sc.names (cloFrom X.env.cells sc.names [])) fp
  have pe := he z3 (upd H2 D (.lst [])) z3.heap.objs.size (cellsFrom (z3.heap.objs.size + 1) sc.names (cloFrom X.env.cells sc.names [])) fp
  show codeAny _ _ (.compStart (.ListComp elt [⟨tg, iter, ifs, 0⟩] sc pos) 0 (.ref it) (.ref D) (compEnvC sc (cellsFrom (z3.heap.objs.size + 1) sc.names (cloFrom X.env.cells sc.names [])) z3.heap.objs.size X.env)) (compPost (model X.prog X.w) X.A X.xe none _ (.ref D) z3.heap.objs.size)
    { z3 with heap := pushCells (z3.heap.push { cls := .type "dict", data := .dict #[] }) sc.names }
  have none3 : ∀ c ∈ fp, (upd H2 D (.lst [])) c = none := fun c hc => (f3 c hc).1.1
  generalize ece : compEnvC sc (cellsFrom (z3.heap.objs.size + 1) sc.names (cloFrom X.env.cells sc.names [])) z3.heap.objs.size X.env = ce at I4 pg pt pe ⊢
  have cL : ce.locals = z3.heap.objs.size := by rw [← ece]; rfl
  generalize eH : upd H2 D (.lst []) = H3 at I3 I4 pg pt pe w0 none3 f3 P3
  generalize e4 : ({ z3 with heap := pushCells (z3.heap.push { cls := .type "dict", data := .dict #[] }) sc.names } : Shared) = z4 at I4 ⊢
  have t4 : tn 0 z4.heap := T.keep _ _ _ t3 fun c _ o e => by rw [← e4]; exact pushCells_keeps _ _ _ _ (Heap.get?_push_of_some _ e)
  have hotB : ∀ {σ' : L2.St} {H' : Hp} {z : Shared} {ps : List (Addr × Obj)}, Inv (X.blk z3 H3 sc ce fp) ps σ' H' z → HotAt X.A p.1 z.heap := fun {σ' H' z ps} I' => ⟨hh, p.2, fe, I'.base.keep p.1 p.2 P3.1 P3.2.1 pstk pfp, de, cx⟩
  have stay : ∀ {σ' : L2.St} {H' : Hp} {z : Shared}, Inv (X.blk z3 H3 sc ce fp) [] σ' H' z → (∀ c ∈ fp, H' c = none) → ∀ c ∈ fp, FpOk (X.blk z3 H3 sc ce fp) [] H' c := fun {σ' H' z} I' hn c hc =>
    ⟨hn c hc, (I'.ok.exf c hc).1, I'.ok.exfs c hc, .inl hc, fun y a e => (I'.ok.exf c hc).2 y a e, fun r hr => nomatch (show r ∈ ([] : List (Addr × Obj)) from hr)⟩
  refine codeAny_compStart_list ?_ (T.self X.A 0 _ _ _ t4 ?_)
  all_goals
    refine compLoop_any (fun k z => ∃ n H', Inv (X.blk z3 H3 sc ce fp) [] (wipe σ (own.map (·.2))) H' z ∧ tn n z.heap ∧ (∀ c ∈ fp, H' c = none) ∧ W n k H') ?_ m0 ⟨0, H3, I4, t4, none3, w0⟩
    rintro k z5 ⟨n, H5, I5, t5, none5, w5⟩
    rcases turn n k H5 w5 with ⟨stop, qq⟩ | ⟨go, Nx, dec, step⟩
    · refine thnF (T.done (X.blk z3 H3 sc ce fp) rfl rfl rfl p.1 n [] z5 _ H5 (fun _ _ => False) (hotB I5) I5 (stay I5 none5) t5 stop) fun r z6 got => ?_
      obtain ⟨rfl, I6⟩ := got
      have I7 : Inv X pins σ H5 z6 := I3.call' (ch := fp) I6.os I6.base I6.hok I6.bare fun c hc => ⟨(f3 c hc).1.2.2.2.1, (f3 c hc).1.2.1, (f3 c hc).1.2.2.2.2.1, (f3 c hc).1.2.2.2.2.2⟩
      have nC : H5 z3.heap.objs.size = none := by
        have y : H5 ce.locals = none := I6.free
        rw [cL] at y
        exact y
      obtain ⟨m, hn, _⟩ := I6.loc
      have hn : z6.heap.Ns ce.locals m := hn
      rw [cL] at hn
      obtain ⟨a0, a1, a2, a3, a4, a5⟩ := I3.fpOk (Nat.le_refl _) nC
      exact ⟨m, hn, fun h'' sb => ⟨.ref D, H5, I7.turned (t' := z6.toks) (fun b o nb e => (sb.2 b nb).trans e) a0 a1 a3 a4 a5, rfl, qq⟩⟩
    · refine thnF (T.item (X.blk z3 H3 sc ce fp) rfl rfl rfl n [] z5 _ H5 (fun _ _ => False) I5 (stay I5 none5) t5 go) fun r z6 got => ?_
      obtain ⟨u, rfl, h6⟩ := got
      refine thnF h6 fun _ z7 got => ?_
      obtain ⟨x, H7, I7, r7, y7, t7, none7⟩ := got
      refine thnF (pg.run _ z7 _ H7 x u _ (I7.pinned (stay I7 none7) (T.obj _ _ t7)) r7 (step x H7 y7)) fun _ z8 got => ?_
      obtain ⟨σ8, H8, I8, wiped, q8⟩ := got
      refine thnF (pt.run _ z8 σ8 H8 _ I8 q8) fun b z9 got => ?_
      obtain ⟨H9, I9, q9⟩ := got
      have again : ∀ {z : Shared} {H' : Hp}, Inv (X.blk z3 H3 sc ce fp) ([] ++ pinsAt fp z7.heap) σ8 H' z → Nx H' → ∃ m, m < k ∧ ∃ n H', Inv (X.blk z3 H3 sc ce fp) [] (wipe σ (own.map (·.2))) H' z ∧ tn n z.heap ∧ (∀ c ∈ fp, H' c = none) ∧ W n m H' := fun {z H'} I' nx => by
        obtain ⟨m', lt, w'⟩ := dec H' nx
        have same : ∀ c ∈ fp, ∀ o, z7.heap.get? c = some o → z.heap.get? c = some o ∧ H' c = none := fun c hc o e =>
          let y := I'.pin (c, o) (List.mem_append_right _ (List.mem_append_right _ (mem_pinsAt hc e)))
          ⟨y.1, y.2.1⟩
        refine ⟨m', lt, n + 1, H', (I'.unpinned (pins := [])).weak (by rw [← wiped, wipe_length]) (fun j v e => ?_), T.keep _ _ _ t7 fun c hc o e => (same c hc o e).1, fun c hc => ?_, w'⟩
        · rw [← wiped] at e
          exact (wipe_some e).1
        · obtain ⟨o, e, _⟩ := T.obj _ _ t7 c hc
          exact (same c hc o e).2
      cases b with
      | false =>
        rw [if_neg Bool.false_ne_true] at q9 ⊢
        exact again I9 q9
      | true =>
        rw [if_pos rfl] at q9 ⊢
        refine thnF (pe.run _ z9 σ8 H9 _ I9 q9) fun y z10 got => ?_
        obtain ⟨yv, H10, I10, r10, acc, hD, room, nx⟩ := got
        exact app_ok (X := X.blk z3 H3 sc ce fp) I10 hD room r10 fun z11 I11 => again I11 nx
end
end Fb

namespace Fb
open PySem PySem.Spec PyProof.Rows L2 HotX
section
variable {prog : Program} {w : World} {A : Around} {E : Value → Shared → Prop} {s : Shared}
theorem walk_listA {x1 I ax : Addr} {ob : Obj} {fe : Array Value} (hh : A.handled = some (.ref x1)) (de : ob.data = .fields fe) (cx : fe[2]? = some .none) (ne : ax ≠ I) (its : Array Value) :
    Walks prog w A I [I, ax, x1] [I] its.size (fun i v => its[i]? = some v) (fun i h => h.IsListIter I ax i ∧ h.IsList ax its ∧ h.get? x1 = some ob) where
  sub := fun b hb => by rw [List.mem_singleton.mp hb]; exact List.mem_cons_self
  frame := fun _ _ _ t k => ⟨t.1.at fun o e => k I (by simp) o e, t.2.1.at fun o e => k ax (by simp) o e, k x1 (by simp) _ t.2.2⟩
  item := fun i s Q E lt t post => by
    obtain ⟨t1, t2, t3⟩ := t
    have nx : x1 ≠ I := fun z => by
      obtain ⟨oi, gi, _, di⟩ := t1
      rw [z, gi] at t3
      cases t3
      rw [di] at de
      cases de
      simp at cx
    refine wpAny_pyNext_list_item t1 t2 (x := its[i]) (by simp [lt]) fun h' t' but => ?_
    exact post _ h' s.toks (by simp [lt]) ⟨t', t2.extBut but.extBut ne, but.extBut x1 ob nx t3⟩ fun b o nb e => but.extBut b o (fun z => nb (by simp [z])) e
  done := fun s Q E t post => hot_list_end ⟨hh, ob, fe, t.2.2, de, cx⟩ t.1 t.2.1 (by simp) fun h' but => post h' s.toks fun b o nb e => but b o (fun z => nb (by simp [z])) e
  self := fun _ _ _ _ t q => wpAny_pyIter_listiter t.1 q
end
section
variable {X : Cx}
theorem cr_sumA (c : L2H.HotC X) : CallR X (.builtin "sum") (rSum X.K) := fun pins s σ H vs us Q I r wish => by
  obtain ⟨a, ns, rfl, sq, q⟩ := wish
  obtain ⟨p, ⟨hh, fe, de, cx⟩, pm⟩ := c
  have gp := (I.pin p (List.mem_append_left _ pm)).1
  obtain ⟨its, rv, hl, _⟩ := I.list sq
  rw [Vals.ref1 r]
  have hi := rv.ints
  obtain ⟨xs, e⟩ := hi.allInts.items
  have hn : numsOf (intItems xs).toList = ns := by rw [← e]; exact hi.numsOf
  rw [nums_intItems] at hn
  have hl' := hl.isList
  rw [e] at hl'
  have kept : ∀ {h' : Heap} {tk : Nat} {t' : Tok}, (∀ b o, s.heap.get? b = some o → h'.get? b = some o) → EP X pins σ Q (.int ns.sum t') { s with heap := h', toks := tk } := fun hk => ⟨.int _, H, I.kept hk, ⟨_, rfl⟩, q⟩
  refine call_sum_walkG (iter_intList hl' fun s2 e2 st hfp hlI => ?_)
  subst e2
  refine ⟨_, _, _, _, _, _, numAt xs, rfl, walk_listA (A := X.A.in1) (ob := p.2) hh de cx hlI (intItems xs), ⟨st.1, st.2, Heap.get?_push_of_some _ gp⟩, fun b hb => ?_, fun _ _ => intItems_at, fun h' tk t' hk => ?_⟩
  · rcases List.mem_cons.mp hb with z | hb
    · exact hfp b (by rw [z]; exact List.mem_cons_self)
    · rcases List.mem_cons.mp hb with z | hb
      · exact hfp b (by rw [z]; simp)
      · rw [List.mem_singleton.mp hb]
        exact Heap.lt_size (Heap.get?_push_of_some _ gp)
  · have k2 := kept (h' := h') (tk := tk) (t' := t') (old_kept hk)
    rw [← hn] at k2
    rw [show preSum (numAt xs) (intItems xs).size = (xs.toList.map (·.1)).sum from by rw [preSum_eq, List.take_of_length_le (by simp [intItems])]]
    exact k2
/-! ### an error in the hands of a def -/
theorem call_isP {p : Addr × Obj} {D : Addr} (hp : p ∈ X.pn) (hz : Zc (.ref D) none p.2) (hf : ∃ vs, p.2.data = .fields vs) : CallR X (.builtin "isinstance") (rIsG X.K p.1 (.ref D) none) := fun pins s σ H xs us Q I r wish => by
  obtain ⟨D', c, cv, b, rfl, e2, _, C, hcv, e, q⟩ := wish
  cases e2
  cases r with
  | cons rx rr =>
    cases rr with
    | cons rt rr =>
      cases rr
      cases rx
      have ec := hcv _ rt
      subst ec
      obtain ⟨get, _⟩ := I.pin p (List.mem_append_left _ hp)
      obtain ⟨vs, hv⟩ := hf
      have J : PySem.W.InstAt s.heap p.1 p.2 D none := by
        obtain ⟨ad, oc, od, oda, osl⟩ := p
        obtain ⟨h1, h2⟩ := hz
        dsimp only at h1 h2 hv get ⊢
        subst h1 h2 hv
        exact ⟨get, rfl, rfl, trivial⟩
      exact PySem.W.kia_one (PySem.W.handS_kitx_exc C.hg C.hk C.hs C.hd C.ha C.hn C.ht C.hm) I.kIn J e (fun z => nomatch z) fun tk => ⟨.bl b, H, I.kept (t' := tk) fun _ _ z => z, rfl, q⟩
end
/-- an error of the class C with no context -/
structure Err1 (C : Addr) (p : Addr × Obj) : Prop where
  zc : Zc (.ref C) none p.2
  ctx : ∃ fs : Array Value, p.2.data = .fields fs ∧ fs[2]? = some .none
theorem Err1.fields {C : Addr} {p : Addr × Obj} (e : Err1 C p) : ∃ vs, p.2.data = .fields vs := let ⟨fs, h, _⟩ := e.ctx; ⟨fs, h⟩
/-- what a def promises that is called while the error at e, of the class C, is handled -/
abbrev SpE := Addr → Addr → Sp
structure FnE (Pg : Program) (w : World) (K : PySem.W.Frag) (mg : Str → Option Value) (base : Heap) (k : Nat) (f : Addr) (fd : FuncData) (ps : List Str) (sp : SpE) : Prop where
  len : ∀ e C vs H Q E, sp e C vs H Q E → vs.length = ps.length
  run : ∀ (A : Around) (outer : List Env) (s : Shared) (H : Hp) (args : Args) (us : List Value) (vs : List V) (Q : VK) (E : XK) (p : Addr × Obj) (C : Addr), L2H.RoomH k A → A.handled = some (.ref p.1) → Err1 C p → L2H.PinOk outer H s p → Env0 Pg w K mg base A outer s H →
    BindsTo s fd args (ps.zip us) → Vals vs us → sp p.1 C vs H Q E → codeAny (model Pg w) A (.call (.ref f) args) (CR (L2N.CX Pg w) outer Pg w H s Q E) s
section
variable {Pg : Program} {w : World} {K : PySem.W.Frag} {mg : Str → Option Value} {base : Heap}
theorem _root_.L2.Fun.okN {x qual : Str} {st : Stmt} {f : Addr} {fd : FuncData} {N ps : List Str} {k : Nat} {sp : Sp} (F : Fun K x qual st f fd) (S : FnScope N ps (defScope st)) (len : ∀ vs H Q E, sp vs H Q E → vs.length = ps.length)
    (hbody : ∀ (cdv : Value) (A : Around) (outer : List Env) (s : Shared) (H : Hp) (vs : List V) (Q : VK) (E : XK), Room k (A.deeper (envOfC qual (defScope st) s.heap.objs.size f cdv)) → sp vs H Q E →
      ∃ t, PSs (cxOf (L2N.CX Pg w) Pg w K mg base N qual (defScope st) f cdv A outer s H E) (defBody st) t ∧ t { nx := fun _ H' => Q .non H', rt := Q } (L2.start N vs) H) : FnOk Pg w K mg base (L2N.CX Pg w) (k + 1) f fd ps sp := by
  obtain ⟨oc, od, kV, doc, pm, an, cdv, ct, osl, rfl, lk, code⟩ := F.ex
  exact fn_of lk code S len fun A outer s H vs Q E room wish => hbody cdv A outer s H vs Q E room wish
theorem FunC.okN {x qual : Str} {st : Stmt} {f c : Addr} {fd : FuncData} {N ps : List Str} {k : Nat} {sp : Sp} (F : FunC K x qual st f fd c) (S : FnScope N ps (defScope st)) (len : ∀ vs H Q E, sp vs H Q E → vs.length = ps.length)
    (hbody : ∀ (A : Around) (outer : List Env) (s : Shared) (H : Hp) (vs : List V) (Q : VK) (E : XK), Room k (A.deeper (envOfC qual (defScope st) s.heap.objs.size f (.ref c))) → sp vs H Q E →
      ∃ t, PSs (cxOf (L2N.CX Pg w) Pg w K mg base N qual (defScope st) f (.ref c) A outer s H E) (defBody st) t ∧ t { nx := fun _ H' => Q .non H', rt := Q } (L2.start N vs) H) : FnOk Pg w K mg base (L2N.CX Pg w) (k + 1) f fd ps sp := F.okX S len hbody
theorem okE {x qual : Str} {st : Stmt} {f : Addr} {fd : FuncData} {N ps : List Str} {k : Nat} {sp : SpE} (F : Fun K x qual st f fd) (S : FnScope N ps (defScope st)) (len : ∀ e C vs H Q E, sp e C vs H Q E → vs.length = ps.length)
    (hbody : ∀ (cdv : Value) (A : Around) (outer : List Env) (s : Shared) (H : Hp) (vs : List V) (Q : VK) (E : XK) (p : Addr × Obj) (C : Addr), A.handled = some (.ref p.1) → Err1 C p → L2H.RoomH k (A.deeper (envOfC qual (defScope st) s.heap.objs.size f cdv)) → sp p.1 C vs H Q E →
      ∃ t, PSs (L2H.cxH (L2N.CX Pg w) Pg w K mg base N qual (defScope st) f cdv A outer s H E p) (defBody st) t ∧ t { nx := fun _ H' => Q .non H', rt := Q } (L2.start N vs) H) : FnE Pg w K mg base (k + 1) f fd ps sp := by
  obtain ⟨oc, od, kV, doc, pm, an, cdv, ct, osl, rfl, lk, code⟩ := F.ex
  refine ⟨len, fun A outer s H args us vs Q E p C room hh er pin env binds rel wish => ?_⟩
  have ln := len _ _ _ _ _ _ wish
  have down : ∀ b o, base.get? b = some o → s.heap.get? b = some o := fun b o e => (env.bs b o e).1
  have KX : K.In s.heap := env.mod.kin.keeps down
  have kinds : ∀ y ∈ ps.zip us, (defScope st).names.lookup y.1 = some .local ∨ ((defScope st).names.lookup y.1 = some .cell ∧ ((cellsFrom (s.heap.objs.size + 1) (defScope st).names []).lookup y.1).isSome = true) := fun y hy =>
    (S.par y.1 (List.of_mem_zip (a := y.1) (b := y.2) hy).1).imp id fun q => ⟨q, PySem.W.cellsFrom_some _ _ _ (.inl q)⟩
  refine codeAny_call_function room.depth (KX _ _ lk) rfl S.co S.gen rfl (PySem.W.codeRec_of KX code) (binds _ _ _ _ (wpAny_newFunctionEnv_cells S.kind kinds fun env' he s1 x => ?_))
  subst he
  refine ⟨(env.mod.nolimit.keeps down).keeps x.toInCall.keep, codeAny_func ?_⟩
  obtain ⟨t, ht, got⟩ := hbody cdv A outer s H vs Q E p C hh er (room.deeper _) wish
  have I : Inv (L2H.cxH (L2N.CX Pg w) Pg w K mg base N qual (defScope st) f cdv A outer s H E p) [] (L2.start N vs) H s1 := L2H.inv_startH S pin env ln rel x
  refine wpAny_mono (ht.run [] s1 (L2.start N vs) H _ I got) (fun fl s' hs => ?_) fun _ _ hs => hs
  cases fl with
  | ret u => obtain ⟨v, _, H', J, rv, q⟩ := hs; exact ⟨v, H', J.os, J.bare, J.base, J.hok, rv, q⟩
  | next => obtain ⟨_, H', J, q⟩ := hs; exact ⟨V.non, H', J.os, J.bare, J.base, J.hok, rfl, q⟩
  | brk => obtain ⟨_, _, _, q⟩ := hs; exact q.elim
  | cont => obtain ⟨_, _, _, q⟩ := hs; exact q.elim
end
structure DnE (Pg : Program) (w : World) (K : PySem.W.Frag) (mg : Str → Option Value) (base : Heap) (k : Nat) (x : Str) (ps : List Str) (sp : SpE) : Prop where
  ex : ∃ f fd, FnE Pg w K mg base k f fd ps sp ∧ mg x = some (.ref f) ∧ PySem.W.keepIn K (.ref f) = true ∧ Binds K fd ps []
section
variable {X : Cx} {k : Nat} {x : Str} {ps : List Str} {sp : SpE} {p pos : Pos} {e : Expr} {es : List Expr} {t : TA} {E : L2.St → XK}
def tCallE (a C : Addr) (sp : SpE) (E : L2.St → XK) (t : TA) : TE := tCallS (fun vs H Q Ex => sp a C vs H Q Ex) E t
/-- f(e, ..) while the error q is handled -/
theorem pe_fnE1 {q : Addr × Obj} {C : Addr} (D : DnE X.prog X.w X.K X.mg X.base k x ps sp) (hr : L2H.RoomH k X.A) (hq : q ∈ X.pn) (hh : X.A.handled = some (.ref q.1)) (er : Err1 C q) (hx : ∀ σ, PassesAt (L2N.CX X.prog X.w) X σ (E σ)) (ha : PA X (e :: es) t) (hg : Gl X x := by rfl)
    (hdb : (x == ("__debug__" : Str)) = false := by decide) (he : starEach (e :: es) X.env = (false, eval e X.env) :: starEach es X.env := by rfl) (hpl : (backTo pos (starEach es X.env)).any (·.1) = false := by rfl) :
    PE X (.Call (.Name x p) (e :: es) [] pos) (tCallE q.1 C sp E t) := by
  obtain ⟨f, fd, F, hm, hk, hb⟩ := D.ex
  refine ⟨fun pins s σ H Q I wish => ?_⟩
  refine wpAny_Call_Name_kw (ld_glob I hg hm (PySem.W.callWith_K (h₀ := X.base) I.ok.mod.kin hk (thn (ha.run pos pins s σ H _ I wish) fun us s1 got => ?_) he hpl) hdb)
  obtain ⟨vs, H1, I1, r, w1⟩ := got
  refine ⟨I1.kIn, ?_⟩
  have ln : us.length = ps.length := by rw [← r.length]; exact F.len _ _ _ _ _ _ w1
  have b := hb s1 us I1.kIn (by rw [List.append_nil]; exact ln)
  rw [List.append_nil] at b
  have P1 := I1.pin q (List.mem_append_left _ hq)
  refine wpAny_call (codeAny_mono (F.run X.A X.stack s1 H1 ⟨us, []⟩ us vs Q (E σ) q C hr hh er ⟨P1.1, P1.2.1, fun hm => (List.mem_cons.mp (I1.stkSub q.1 hm)).elim P1.2.2.1 P1.2.2.2.1, P1.2.2.2.2⟩ I1.env0 b r w1) fun r s' hq => ?_)
  cases r with
  | error er => exact hx σ pins H1 s1 er s' I1 hq
  | ok fl =>
    cases fl with
    | ret u => exact I1.after hq
    | next => exact hq.elim
    | brk => exact hq.elim
    | cont => exact hq.elim
/-- .. in the suite, the error's class open -/
theorem pe_fnEG {Y : Cx} {a : Addr} {oe : Obj} {cls : Value} {d : Option Addr} {pn : List (Addr × Obj)} (D : DnE Y.prog Y.w Y.K Y.mg Y.base k x ps sp) (hr : L2H.RoomH k (Y.suite a ((a, oe) :: pn)).A) (hz : L2N.Zn cls d oe) (hf : ∃ vs, oe.data = .fields vs)
    (hx : ∀ σ, PassesAt (L2N.CX Y.prog Y.w) (Y.suite a ((a, oe) :: pn)) σ (E σ)) (ha : PA (Y.suite a ((a, oe) :: pn)) (e :: es) t) (hg : Gl (Y.suite a ((a, oe) :: pn)) x := by rfl)
    (hdb : (x == ("__debug__" : Str)) = false := by decide) (he : starEach (e :: es) Y.env = (false, eval e Y.env) :: starEach es Y.env := by rfl) (hpl : (backTo pos (starEach es Y.env)).any (·.1) = false := by rfl) :
    PE (Y.suite a ((a, oe) :: pn)) (.Call (.Name x p) (e :: es) [] pos) (fun σ H Q => ∃ C, cls = .ref C ∧ d = none ∧ tCallE a C sp E t σ H Q) := by
  refine ⟨fun pins s σ H Q I wish => ?_⟩
  obtain ⟨C, rfl, rfl, wish⟩ := wish
  obtain ⟨vs, hv⟩ := hf
  exact (pe_fnE1 (X := Y.suite a ((a, oe) :: pn)) (q := (a, oe)) D hr List.mem_cons_self rfl ⟨hz.zc, vs, hv, hz.2.2 vs hv⟩ hx ha hg hdb he hpl).run pins s σ H Q I wish
end
end Fb

namespace Fb
open PySem PySem.Spec PyProof.Rows L2
/-! ### [f(x) for x in xs if p(x)] -/
section
variable {K : PySem.W.Frag} {tt : TT} {te : TE} {vs : List Nat} {σ : L2.St} {H1 : Hp} {D : Addr} {Qd : Hp → Prop}
def pick (pf : Nat → Bool) (f : Nat → V) (n : Nat) : List V := ((List.range n).filter pf).map f
theorem pick_succ (pf : Nat → Bool) (f : Nat → V) (n : Nat) : pick pf f (n + 1) = if pf n = true then pick pf f n ++ [f n] else pick pf f n := by
  unfold pick
  rw [List.range_succ, List.filter_append]
  cases h : pf n with
  | true => rw [if_pos rfl]; simp [h]
  | false => rw [if_neg Bool.false_ne_true]; simp [h]
theorem pick_le (pf : Nat → Bool) (f : Nat → V) (n : Nat) : (pick pf f n).length ≤ n := by
  unfold pick
  rw [List.length_map]
  exact Nat.le_trans (List.length_filter_le _ _) (by simp)
theorem lc_pick {a : Addr} {xs : List V} {j : Nat} (pf : Nat → Bool) (f : Nat → V) (hD : H1 D = none) (hx : SqL K H1 a xs) (hn : xs.length ≤ 90000) (hw : ∀ v, wipe ((wipe σ vs).set j (some v)) vs = wipe σ vs)
    (ht : ∀ i x H, xs[i]? = some x → Same H1 H → ∀ Q : Bool → Hp → Prop, (∀ H', Same H H' → Q (pf i) H') → tt ((wipe σ vs).set j (some x)) H Q)
    (he : ∀ i x H, xs[i]? = some x → Same H1 H → ∀ Q : VK, (∀ H', Same H H' → Q (f i) H') → te ((wipe σ vs).set j (some x)) H Q)
    (hd : ∀ H, Same H1 H → H D = some (.lst (pick pf f xs.length)) → Qd H) :
    ∃ W : Nat → Nat → Hp → Prop, (∃ m, W 0 m (upd H1 D (.lst []))) ∧ ∀ i m H, W i m H →
      ((Itl K a).stop i H ∧ Qd H) ∨ ((Itl K a).go i H ∧ ∃ Nx : Hp → Prop, (∀ H', Nx H' → ∃ m', m' < m ∧ W (i + 1) m' H') ∧ ∀ x H', (Itl K a).yld i H x H' → (gName j) x (wipe σ vs) H' fun σ2 H2 => wipe σ2 vs = wipe σ vs ∧ tt σ2 H2 fun b H3 =>
        if b = true then te σ2 H3 fun y H4 => ∃ acc, H4 D = some (.lst acc) ∧ acc.length < sizeLine ∧ Nx (upd H4 D (.lst (acc ++ [y]))) else Nx H3) := by
  refine ⟨fun i m H => m = xs.length - i ∧ i ≤ xs.length ∧ Same H1 H ∧ H D = some (.lst (pick pf f i)), ⟨xs.length, by simp, Nat.zero_le _, same_new hD, upd_same⟩, ?_⟩
  rintro i m H ⟨rfl, hi, s1, hl⟩
  by_cases hlt : i < xs.length
  · refine .inr ⟨⟨xs, xs[i], s1.seq hx, List.getElem?_eq_getElem hlt⟩, fun H' => Same H1 H' ∧ H' D = some (.lst (pick pf f (i + 1))), fun H' p' => ⟨xs.length - (i + 1), by omega, rfl, hlt, p'⟩, fun y H' yl => ?_⟩
    obtain ⟨rfl, hy⟩ := yl
    have hy' := hy xs (s1.seq hx)
    refine ⟨hw _, ht i y H' hy' s1 _ fun H2 s2 => ?_⟩
    have e := pick_succ pf f i
    have hl2 := s2 _ _ hl
    cases hp : pf i with
    | true =>
      refine iteT (he i y H2 hy' (Same.trans s1 s2) _ fun H3 s3 => ⟨_, s3 _ _ hl2, szlt ?_, same_mut (Same.trans (Same.trans s1 s2) s3) hD, ?_⟩)
      · have := pick_le pf f i; omega
      · rw [upd_same, e, hp, if_pos rfl]
    | false =>
      refine iteF ⟨Same.trans s1 s2, ?_⟩
      rw [e, hp, if_neg Bool.false_ne_true]
      exact hl2
  · have e : i = xs.length := by omega
    subst e
    exact .inl ⟨⟨xs, s1.seq hx, Nat.le_refl _⟩, hd H s1 hl⟩
end
theorem pick_nil {pf : Nat → Bool} {f : Nat → V} {n : Nat} : (pick pf f n).isEmpty = true ↔ ∀ i, i < n → pf i = false := by
  unfold pick
  rw [List.isEmpty_iff, List.map_eq_nil_iff, List.filter_eq_nil_iff]
  exact ⟨fun h i hi => by simpa using h i (List.mem_range.mpr hi), fun h i hi => by simp [h i (List.mem_range.mp hi)]⟩
/-! ### the law's other places -/
def fa (k : Nat) : Str := Str.ofString "aa" ++ ⟨#[k % 25 + 97]⟩
def fb (k : Nat) : Str := Str.ofString "bb" ++ ⟨#[k / 25 + 97]⟩
theorem fa_tl (k : Nat) : (fa k).cps.toList = [97, 97, k % 25 + 97] := by
  have e : (Str.ofString "aa").cps.toList = [97, 97] := by decide +kernel
  have h : (fa k).cps.toList = (Str.ofString "aa").cps.toList ++ [k % 25 + 97] := TL.tl_append _ _
  rw [h, e]; rfl
theorem fb_tl (k : Nat) : (fb k).cps.toList = [98, 98, k / 25 + 97] := by
  have e : (Str.ofString "bb").cps.toList = [98, 98] := by decide +kernel
  have h : (fb k).cps.toList = (Str.ofString "bb").cps.toList ++ [k / 25 + 97] := TL.tl_append _ _
  rw [h, e]; rfl
theorem isP_three {z : Str} {x y u : Nat} (h : z.cps.toList = [x, y, u]) (hx : letter x = true) (hy : letter y = true) (hu : letter u = true) : isP (.str z) = true := by
  have hl : z.length = 3 := by rw [len_tl, h]; rfl
  show (decide (1 ≤ z.length) && decide (z.length ≤ 12) && z.cps.toList.all letter) = true
  rw [hl, h]
  simp [hx, hy, hu]
theorem let_ok {n : Nat} (h1 : 97 ≤ n) (h2 : n ≤ 122) : letter n = true := by
  unfold letter
  rw [decide_eq_true h1, decide_eq_true h2]; rfl
theorem fa_isP (k : Nat) : isP (.str (fa k)) = true := isP_three (fa_tl k) (by decide) (by decide) (let_ok (by omega) (by omega))
theorem fb_isP {k : Nat} (h : k < 175) : isP (.str (fb k)) = true := isP_three (fb_tl k) (by decide) (by decide) (let_ok (by omega) (by omega))
theorem fa_ne_fb (k l : Nat) : fa k ≠ fb l := fun e => by
  have h := congrArg (fun z : Str => z.cps.toList) e
  simp only [fa_tl, fb_tl] at h
  have := (List.cons.inj h).1
  omega
theorem f_inj {k l : Nat} (h1 : fa k = fa l) (h2 : fb k = fb l) : k = l := by
  have e1 := congrArg (fun z : Str => z.cps.toList) h1
  have e2 := congrArg (fun z : Str => z.cps.toList) h2
  simp only [fa_tl, fb_tl, List.cons.injEq, true_and, and_true] at e1 e2
  omega
theorem no_aabb {c : Int} {k l : Nat} : ¬ (fa k = nameOf c 20 ∧ fb l = nameOf c 21) := by
  rintro ⟨h1, h2⟩
  have e1 : [97, 97, k % 25 + 97] = nameL c 20 := by rw [← fa_tl, h1]; rfl
  have e2 : [98, 98, l / 25 + 97] = nameL c 21 := by rw [← fb_tl, h2]; rfl
  cases ho : nmOne c with
  | true =>
    have z := congrArg List.length e1
    unfold nameL at z
    rw [ho, if_pos rfl, List.length_replicate] at z
    simp at z
  | false =>
    have z := congrArg List.length e1
    rw [nameL_len2 c 20 ho] at z
    simp only [List.length_cons, List.length_nil] at z
    have hs : nmSize c = 2 := by omega
    have hp := nmPlace_le c
    have base : ∀ m : Nat, nmBase c m = [code (c / 3 + (m : Int) * m * (c / 3432 % 2) + 5 * ((0 : Nat) : Int)), code (c / 3 + (m : Int) * m * (c / 3432 % 2) + 5 * ((1 : Nat) : Int))] := fun m => by
      unfold nmBase
      rw [hs]; rfl
    unfold nameL at e1 e2
    rw [ho, if_neg Bool.false_ne_true, base] at e1 e2
    have hm : c / 3432 % 2 = 0 ∨ c / 3432 % 2 = 1 := by omega
    have cases3 : nmPlace c = 0 ∨ nmPlace c = 1 ∨ nmPlace c = 2 := by omega
    rcases cases3 with h | h | h <;> rw [h] at e1 e2 <;> simp only [List.take, List.drop, List.nil_append, List.cons_append, List.append_nil, List.append_assoc, List.cons.injEq, show (20 / 26 : Nat) = 0 from rfl, show (21 / 26 : Nat) = 0 from rfl, List.replicate] at e1 e2 <;> unfold code at e1 e2 <;> rcases hm with q | q <;> rw [q] at e1 e2 <;> omega
end Fb

namespace Fb
open PySem PySem.Spec PyProof.Rows L2
section
variable {Pg : Program} {w : World} {K : PySem.W.Frag} {mg : Str → Option Value} {base h : Heap} {x : Str} {st : Stmt} {f : Addr} {ps : List Str} {sp : SpE} {k : Nat}
theorem FA.dne (A : FA K x st f) (X : K.In h) (G : h.Ns mainGlobals mg) (ok : ∀ fd, Fun K x x st f fd → FnE Pg w K mg base k f fd ps sp)
    (hb : ∀ (kV doc pm : Value) (an : Option Addr) (cdv ct : Value) (us : List Value), us.length = ps.length → bindArgs (PySem.W.fnOf x x (defArgs st) (defBody st) (defScope st) .none kV doc pm an cdv ct) ⟨us, []⟩ = pure (ps.zip us)) : DnE Pg w K mg base k x ps sp := by
  obtain ⟨oc, od, kV, dc, pm, an, cd, ct, osl, l, c⟩ := A.l
  have F := fun_mk (st := st) l c A.k
  exact ⟨f, _, ok _ F, PySem.W.mg_of X G A.a, A.k, F.binds (ps := ps) hb⟩
end
end Fb

namespace Fb
open PySem PySem.Spec PyProof.Rows L2
local macro_rules | `(tactic| walk_at "s") => `(tactic| repeat (first | refine ⟨_, rfl, ?_⟩ | refine ⟨_, _, rfl, rfl, ?_⟩ | refine ⟨_, _, rfl, Or.inl (by assumption), ?_⟩ | refine ⟨rfl, ?_⟩ | refine ⟨(by decide : (0 : Int) < _), ?_⟩ | refine ⟨⟨by decide, by decide⟩, ?_⟩ | refine ⟨_, _, _, rfl, (by assumption), (by first | decide | omega), ?_⟩))
def topS (i : Nat) : Stmt := PySem.Challenge.pw_farebreak_k02_refused_rows.main.body.getD i (.Pass ⟨0, 0, 0, 0⟩)
structure Txt (K : PySem.W.Frag) (mg : Str → Option Value) (a : Ads) : Prop where
  n_len : mg "len" = none
  n_int : mg "int" = none
  n_str : mg "str" = none
  n_list : mg "list" = none
  n_tuple : mg "tuple" = none
  n_dict : mg "dict" = none
  n_isinstance : mg "isinstance" = none
  n_range : mg "range" = none
  n_enumerate : mg "enumerate" = none
  n_all : mg "all" = none
  n_any : mg "any" = none
  n_sum : mg "sum" = none
  n_min : mg "min" = none
  n_max : mg "max" = none
  n_abs : mg "abs" = none
  n_sorted : mg "sorted" = none
  n_zip : mg "zip" = none
  n_reversed : mg "reversed" = none
  n_bool : mg "bool" = none
  n_ValueError : mg "ValueError" = none
  c_LONGEST_PLACE : ∃ t, mg "LONGEST_PLACE" = some (.int 12 t)
  c_HIGHEST_PRICE : ∃ t, mg "HIGHEST_PRICE" = some (.int 1000000000000 t)
  c_MOST_ROWS : ∃ t, mg "MOST_ROWS" = some (.int 160 t)
  x_FareError : ExK K mg "FareError" a.FareError veMro
  x_BadPlace : ExK K mg "BadPlace" a.BadPlace veMro
  x_BadPrice : ExK K mg "BadPrice" a.BadPrice veMro
  x_TwiceTold : ExK K mg "TwiceTold" a.TwiceTold veMro
  x_TooMany : ExK K mg "TooMany" a.TooMany veMro
  e_BadPlace : PySem.W.exmOne K (.ref a.BadPlace) (.ref a.FareError) = some true
  i_BadPlace : ExcC K a.BadPlace
  v_BadPlace : PySem.W.kitOne K (.ref a.BadPlace) (.type "ValueError") = some true
  k_BadPlace_BadPlace : PySem.W.kitOne K (.ref a.BadPlace) (.ref a.BadPlace) = some true
  k_BadPlace_BadPrice : PySem.W.kitOne K (.ref a.BadPlace) (.ref a.BadPrice) = some false
  k_BadPlace_TwiceTold : PySem.W.kitOne K (.ref a.BadPlace) (.ref a.TwiceTold) = some false
  k_BadPlace_TooMany : PySem.W.kitOne K (.ref a.BadPlace) (.ref a.TooMany) = some false
  e_BadPrice : PySem.W.exmOne K (.ref a.BadPrice) (.ref a.FareError) = some true
  i_BadPrice : ExcC K a.BadPrice
  v_BadPrice : PySem.W.kitOne K (.ref a.BadPrice) (.type "ValueError") = some true
  k_BadPrice_BadPlace : PySem.W.kitOne K (.ref a.BadPrice) (.ref a.BadPlace) = some false
  k_BadPrice_BadPrice : PySem.W.kitOne K (.ref a.BadPrice) (.ref a.BadPrice) = some true
  k_BadPrice_TwiceTold : PySem.W.kitOne K (.ref a.BadPrice) (.ref a.TwiceTold) = some false
  k_BadPrice_TooMany : PySem.W.kitOne K (.ref a.BadPrice) (.ref a.TooMany) = some false
  e_TwiceTold : PySem.W.exmOne K (.ref a.TwiceTold) (.ref a.FareError) = some true
  i_TwiceTold : ExcC K a.TwiceTold
  v_TwiceTold : PySem.W.kitOne K (.ref a.TwiceTold) (.type "ValueError") = some true
  k_TwiceTold_BadPlace : PySem.W.kitOne K (.ref a.TwiceTold) (.ref a.BadPlace) = some false
  k_TwiceTold_BadPrice : PySem.W.kitOne K (.ref a.TwiceTold) (.ref a.BadPrice) = some false
  k_TwiceTold_TwiceTold : PySem.W.kitOne K (.ref a.TwiceTold) (.ref a.TwiceTold) = some true
  k_TwiceTold_TooMany : PySem.W.kitOne K (.ref a.TwiceTold) (.ref a.TooMany) = some false
  e_TooMany : PySem.W.exmOne K (.ref a.TooMany) (.ref a.FareError) = some true
  i_TooMany : ExcC K a.TooMany
  v_TooMany : PySem.W.kitOne K (.ref a.TooMany) (.type "ValueError") = some true
  k_TooMany_BadPlace : PySem.W.kitOne K (.ref a.TooMany) (.ref a.BadPlace) = some false
  k_TooMany_BadPrice : PySem.W.kitOne K (.ref a.TooMany) (.ref a.BadPrice) = some false
  k_TooMany_TwiceTold : PySem.W.kitOne K (.ref a.TooMany) (.ref a.TwiceTold) = some false
  k_TooMany_TooMany : PySem.W.kitOne K (.ref a.TooMany) (.ref a.TooMany) = some true
  cl_Tariff : Cls K a.Tariff
  na_prices : NoAttr K a.Tariff "_prices"
/-! ### is_place, is_price -/
def spIsPlace (P : Addr) : Sp := fun vs H Q _ => ∃ v : V, vs = [v] ∧ ask v ∧ H P = some (TabO P) ∧ Q (.bl (isP v)) H
def spIsPrice : Sp := fun vs H Q _ => ∃ v : V, vs = [v] ∧ ask v ∧ Q (.bl (isC v)) H
abbrev s_is_place : Stmt := topS 10
abbrev N_is_place : List Str := ["thing"]
theorem sc_is_place : FnScope N_is_place ["thing"] (defScope s_is_place) := ⟨rfl, rfl, rfl, by decide +kernel, rfl, by decide +kernel, by decide +kernel⟩
abbrev s_is_price : Stmt := topS 11
abbrev N_is_price : List Str := ["thing"]
theorem sc_is_price : FnScope N_is_price ["thing"] (defScope s_is_price) := ⟨rfl, rfl, rfl, by decide +kernel, rfl, by decide +kernel, by decide +kernel⟩
section
variable {Pg : Program} {w : World} {K : PySem.W.Frag} {mg : Str → Option Value} {base : Heap} {a : Ads}
theorem ok_is_place {f c P : Addr} {fd : FuncData} (F : FunC K "is_place" "is_place" s_is_place f fd c) (T : Txt K mg a) (TB : GxR.TabB base mg c P) : FnOk Pg w K mg base (L2N.CX Pg w) 2 f fd ["thing"] (spIsPlace P) := by
  refine F.okN sc_is_place (fun vs H Q E h => ?_) (fun A outer s H vs Q E hr h => ?_)
  · obtain ⟨c, rfl, _⟩ := h
    rfl
  · obtain ⟨v, rfl, ha, hP, q⟩ := h
    refine ⟨_, (pss_cons (ps_if (pt_not (pt_val (pe_callB call_isi (by rfl) T.n_isinstance (by decide +kernel) (pa_cons (pv 0) (pa_cons (pe_bty (n := "str") T.n_str (by decide +kernel)) pa_nil))))) (pss_one (ps_ret pe_bl)) pss_nil)
      (pss_cons (ps_if (pt_not (pt_chain op_le op_le pe_int (pe_callB call_len_str (by rfl) T.n_len (by decide +kernel) (pa_cons (pv 0) pa_nil)) (pe_gint T.c_LONGEST_PLACE rfl))) (pss_one (ps_ret pe_bl)) pss_nil)
      (pss_one (ps_ret (pe_allP (i := 0) (GxR.pe_allS hr rfl T.n_all (by decide +kernel) TB rfl ⟨rfl, rfl, by decide +kernel, rfl, rfl, nofree_ex (by decide +kernel)⟩ (pv 0) (elt_btw rfl rfl) (fun _ => rfl))))))), ?_⟩
    rcases ha with rfl | ⟨b, rfl⟩ | ⟨i, rfl⟩ | ⟨z, rfl, hz⟩
    · walk_at "s"
      exact ⟨_, _, _, _, false, rfl, .ty "str", .base .non, kit_ty (by decide +kernel), _, rfl, q⟩
    · walk_at "s"
      exact ⟨_, _, _, _, false, rfl, .ty "str", .base (.bl b), kit_ty (by decide +kernel), _, rfl, q⟩
    · walk_at "s"
      exact ⟨_, _, _, _, false, rfl, .ty "str", .base (.int i), kit_ty (by decide +kernel), _, rfl, q⟩
    · walk_at "s"
      refine ⟨_, _, _, _, true, rfl, .ty "str", .base (.str z), kit_ty (by decide +kernel), _, rfl, ?_⟩
      walk_at "s"
      refine ⟨szl (Nat.le_trans hz.1 (by decide)), ?_⟩
      walk_at "s"
      refine ifD (fun c1 => ?_) (fun c1 => ?_)
      · walk_at "s"
        refine ifND (fun c2 => ?_) (fun c2 => ?_)
        · rw [isP_long c2] at q
          exact q
        · refine ⟨z, rfl, hP, ?_⟩
          rw [isP_mid c1 c2] at q
          rw [show (fun c => !decide (([c] : List Nat) < (Str.ofString "a").cps.toList) && !decide ((Str.ofString "z").cps.toList < ([c] : List Nat))) = letter from funext btw_letter]
          exact q
      · walk_at "s"
        refine ifT1 ?_
        rw [isP_short c1] at q
        exact q
theorem ok_is_price {f : Addr} {fd : FuncData} (F : Fun K "is_price" "is_price" s_is_price f fd) (T : Txt K mg a) : FnOk Pg w K mg base (L2N.CX Pg w) 1 f fd ["thing"] spIsPrice := by
  refine F.okN sc_is_price (fun vs H Q E h => ?_) (fun cdv A outer s H vs Q E hr h => ?_)
  · obtain ⟨c, rfl, _⟩ := h
    rfl
  · obtain ⟨v, rfl, ha, q⟩ := h
    refine ⟨_, (pss_cons (ps_if (PW.pt (pw_or (pt_val (pe_callB call_isi (by rfl) T.n_isinstance (by decide +kernel) (pa_cons (pv 0) (pa_cons (pe_bty (n := "bool") T.n_bool (by decide +kernel)) pa_nil)))) (pw_or1 (pt_not (pt_val (pe_callB call_isi (by rfl) T.n_isinstance (by decide +kernel) (pa_cons (pv 0) (pa_cons (pe_bty (n := "int") T.n_int (by decide +kernel)) pa_nil)))))))) (pss_one (ps_ret pe_bl)) pss_nil)
      (pss_one (ps_ret (pe_chain op_le op_le pe_int (pv 0) (pe_gint T.c_HIGHEST_PRICE rfl))))), ?_⟩
    rcases ha with rfl | ⟨b, rfl⟩ | ⟨i, rfl⟩ | ⟨z, rfl, hz⟩
    · walk_at "s"
      refine ⟨_, _, _, _, false, rfl, .ty "bool", .base .non, kit_ty (by decide +kernel), _, rfl, ?_⟩
      walk_at "s"
      exact ⟨_, _, _, _, false, rfl, .ty "int", .base .non, kit_ty (by decide +kernel), _, rfl, q⟩
    · walk_at "s"
      exact ⟨_, _, _, _, true, rfl, .ty "bool", .base (.bl b), kit_ty (by decide +kernel), _, rfl, q⟩
    · walk_at "s"
      refine ⟨_, _, _, _, false, rfl, .ty "bool", .base (.int i), kit_ty (by decide +kernel), _, rfl, ?_⟩
      walk_at "s"
      refine ⟨_, _, _, _, true, rfl, .ty "int", .base (.int i), kit_ty (by decide +kernel), _, rfl, ?_⟩
      walk_at "s"
      refine ifD (fun c1 => ?_) (fun c1 => ?_)
      · walk_at "s"
        have e : isC (.int i) = decide (i ≤ 1000000000000) := by
          show (decide (0 ≤ i) && decide (i ≤ 1000000000000)) = _
          rw [decide_eq_true c1]; rfl
        rw [e] at q
        exact q
      · have e : isC (.int i) = false := by
          show (decide (0 ≤ i) && decide (i ≤ 1000000000000)) = _
          rw [decide_eq_false c1]; rfl
        rw [e] at q
        exact q
    · walk_at "s"
      refine ⟨_, _, _, _, false, rfl, .ty "bool", .base (.str z), kit_ty (by decide +kernel), _, rfl, ?_⟩
      walk_at "s"
      exact ⟨_, _, _, _, false, rfl, .ty "int", .base (.str z), kit_ty (by decide +kernel), _, rfl, q⟩
end
end Fb

namespace Fb
open PySem PySem.Spec PyProof.Rows L2
local macro_rules | `(tactic| walk_at "s") => `(tactic| repeat (first | refine ⟨_, rfl, ?_⟩ | refine ⟨_, _, rfl, rfl, ?_⟩ | refine ⟨_, _, rfl, Or.inl (by assumption), ?_⟩ | refine ⟨rfl, ?_⟩ | refine ⟨(by decide : (0 : Int) < _), ?_⟩ | refine ⟨⟨by decide, by decide⟩, ?_⟩ | refine ⟨_, _, _, rfl, (by assumption), (by first | decide | omega), ?_⟩))
def spPut (a : Ads) (P : Addr) : Sp := fun vs H Q E => ∃ (p d : Addr) (v1 v2 v3 : V) (rs : List Row), vs = [.ref p, v1, v2, v3] ∧ ask v1 ∧ ask v2 ∧ ask v3 ∧ H P = some (TabO P) ∧ TarAt a.Tariff H p d rs ∧ rs.length ≤ 1000 ∧
  (putDue rs v1 v2 v3 = 0 → ∀ H', SameB d H H' → TarAt a.Tariff H' p d (rs ++ [mkRow v1 v2 v3]) → Q .non H') ∧ (putDue rs v1 v2 v3 ≠ 0 → ∀ H', Same H H' → E (.ref (errOf a (putDue rs v1 v2 v3))) none H')
abbrev s_Tariff_put : Stmt := inClass (topS 12) 1
abbrev N_Tariff_put : List Str := ["self", "here", "there", "price"]
theorem sc_Tariff_put : FnScope N_Tariff_put ["self", "here", "there", "price"] (defScope s_Tariff_put) := ⟨rfl, rfl, rfl, by decide +kernel, rfl, by decide +kernel, by decide +kernel⟩
section
variable {Pg : Program} {w : World} {K : PySem.W.Frag} {mg : Str → Option Value} {base : Heap} {a : Ads}
theorem ok_put {f P : Addr} {fd : FuncData} (F : Fun K "put" "Tariff.put" s_Tariff_put f fd) (T : Txt K mg a) (D_is_place : Dn Pg w K mg base 2 "is_place" ["thing"] (spIsPlace P)) (D_is_price : Dn Pg w K mg base 1 "is_price" ["thing"] spIsPrice) : FnOk Pg w K mg base (L2N.CX Pg w) 3 f fd ["self", "here", "there", "price"] (spPut a P) := by
  refine F.okN sc_Tariff_put (fun vs H Q E h => ?_) (fun cdv A outer s H vs Q E hr h => ?_)
  · obtain ⟨p, d, v1, v2, v3, rs, rfl, _⟩ := h
    rfl
  · obtain ⟨p, d, v1, v2, v3, rs, rfl, h1, h2, h3, hP, hT, hlen, q0, qE⟩ := h
    have hu := hu_of hr
    obtain ⟨dx, hob⟩ := hT.ob
    have hdc := hT.dc
    have npd := hT.ne
    refine ⟨_, (pss_cons (ps_if (pt_not (pt_val (pe_fnS D_is_place (hr.mono (by decide)) passC (pa_cons (pv 1) pa_nil)))) (pss_one (L2N.ps_raise rfl (L2N.takes_of rfl rfl rfl rfl) (L2N.pmk_own PySem.F.excBase_ValueError T.x_BadPlace.x T.x_BadPlace.g T.x_BadPlace.k (raises_own T.x_BadPlace.b T.x_BadPlace.t) rfl))) pss_nil)
      (pss_cons (ps_if (pt_not (pt_val (pe_fnS D_is_place (hr.mono (by decide)) passC (pa_cons (pv 2) pa_nil)))) (pss_one (L2N.ps_raise rfl (L2N.takes_of rfl rfl rfl rfl) (L2N.pmk_own PySem.F.excBase_ValueError T.x_BadPlace.x T.x_BadPlace.g T.x_BadPlace.k (raises_own T.x_BadPlace.b T.x_BadPlace.t) rfl))) pss_nil)
      (pss_cons (ps_if (pt_cmpR op_eq (pv 1) (pv 2) (nomark _)) (pss_one (L2N.ps_raise rfl (L2N.takes_of rfl rfl rfl rfl) (L2N.pmk_own PySem.F.excBase_ValueError T.x_BadPlace.x T.x_BadPlace.g T.x_BadPlace.k (raises_own T.x_BadPlace.b T.x_BadPlace.t) rfl))) pss_nil)
      (pss_cons (ps_if (pt_not (pt_val (pe_fnS D_is_price (hr.mono (by decide)) passC (pa_cons (pv 3) pa_nil)))) (pss_one (L2N.ps_raise rfl (L2N.takes_of rfl rfl rfl rfl) (L2N.pmk_own PySem.F.excBase_ValueError T.x_BadPrice.x T.x_BadPrice.g T.x_BadPrice.k (raises_own T.x_BadPrice.b T.x_BadPrice.t) rfl))) pss_nil)
      (pss_cons (ps_if (pt_cmp (pc_din hu (pe_tup (pa_cons (pv 1) (pa_cons (pv 2) pa_nil))) (pe_fld (pv 0) rfl))) (pss_one (L2N.ps_raise rfl (L2N.takes_of rfl rfl rfl rfl) (pmk_ownN1 PySem.F.excBase_ValueError T.x_TwiceTold.x T.x_TwiceTold.g T.x_TwiceTold.k (raises_own T.x_TwiceTold.b T.x_TwiceTold.t) rfl (pe_joined (PJ.cons pe_str (PJ.cons (pe_fmt (pv 1)) (PJ.cons pe_str (PJ.cons (pe_fmt (pv 2)) (PJ.cons pe_str PJ.nil))))))))) pss_nil)
      (pss_cons (ps_if (pt_cmpR op_ge (pe_callB call_len_dT (by rfl) T.n_len (by decide +kernel) (pa_cons (pe_fld (pv 0) rfl) pa_nil)) (pe_gint T.c_MOST_ROWS rfl) (nomark _)) (pss_one (L2N.ps_raise rfl (L2N.takes_of rfl rfl rfl rfl) (pmk_ownN1 PySem.F.excBase_ValueError T.x_TooMany.x T.x_TooMany.g T.x_TooMany.k (raises_own T.x_TooMany.b T.x_TooMany.t) rfl (pe_joined (PJ.cons pe_str (PJ.cons (pe_fmt (pe_gint T.c_MOST_ROWS rfl)) (PJ.cons pe_str PJ.nil))))))) pss_nil)
      (pss_one (ps_dput hu (pe_fld (pv 0) rfl) (pe_tup (pa_cons (pv 1) (pa_cons (pv 2) pa_nil))) (pv 3) rfl)))))))), ?_⟩
    walk_at "s"
    refine ⟨h1, hP, ?_⟩
    walk_at "s"
    refine ifNB (fun c1 => ?_) (fun c1 => ?_)
    · have e : putDue rs v1 v2 v3 = 1 := by unfold putDue; rw [c1]; rfl
      rw [e] at qE
      exact qE (by decide) _ (Same.refl _)
    walk_at "s"
    refine ⟨h2, hP, ?_⟩
    walk_at "s"
    refine ifNB (fun c2 => ?_) (fun c2 => ?_)
    · have e : putDue rs v1 v2 v3 = 1 := by unfold putDue; rw [if_pos c1, c2]; rfl
      rw [e] at qE
      exact qE (by decide) _ (Same.refl _)
    obtain ⟨z1, rfl⟩ := isP_str c1
    obtain ⟨z2, rfl⟩ := isP_str c2
    walk_at "s"
    refine ifD (fun c3 => ?_) (fun c3 => ?_)
    · have e : putDue rs (.str z1) (.str z2) v3 = 1 := by unfold putDue; rw [if_pos c1, if_pos c2, if_pos c3]
      rw [e] at qE
      exact qE (by decide) _ (Same.refl _)
    walk_at "s"
    refine ⟨h3, ?_⟩
    walk_at "s"
    refine ifNB (fun c4 => ?_) (fun c4 => ?_)
    · have e : putDue rs (.str z1) (.str z2) v3 = 2 := by unfold putDue; rw [if_pos c1, if_pos c2, if_neg c3, c4]; rfl
      rw [e] at qE
      exact qE (by decide) _ (Same.refl _)
    obtain ⟨n, rfl⟩ : ∃ n, v3 = .int n := by
      cases v3 with
      | int n => exact ⟨n, rfl⟩
      | _ => cases c4
    walk_at "s"
    refine ⟨(by show 2 ≤ sizeLine; decide), fun t ht => ?_⟩
    have s1 : Same H (upd H t (.tup [.str z1, .str z2])) := same_new ht
    have hob1 := s1 _ _ hob
    have hdc1 := s1 _ _ hdc
    walk_at "s"
    refine ⟨p, a.Tariff, dx, _, .ref d, rfl, hob1, T.cl_Tariff, T.na_prices, prices_lookup d, d, _, rfl, DGet.t (k := [.inr z1, .inr z2]) hdc1 upd_same, ?_⟩
    have ek : isTold rs (.str z1) (.str z2) = (valV (rs.map rowK) [.inr z1, .inr z2]).isSome := rfl
    have l1 : z1.length ≤ 12 := by
      have := c1
      unfold isP at this
      simp only [Bool.and_eq_true, decide_eq_true_eq] at this
      exact this.1.2
    have l2 : z2.length ≤ 12 := by
      have := c2
      unfold isP at this
      simp only [Bool.and_eq_true, decide_eq_true_eq] at this
      exact this.1.2
    walk_at "s"
    refine ifB (fun c5 => ?_) (fun c5 => ?_)
    · have e : putDue rs (.str z1) (.str z2) (.int n) = 3 := by unfold putDue; rw [if_pos c1, if_pos c2, if_neg c3, if_pos c4, if_pos (by rw [ek]; exact c5)]
      rw [e] at qE
      have la := lapp (show (Str.empty ++ Str.ofString "the way from ").length ≤ 50 by decide +kernel) l1
      have lb := lapp la (show (Str.ofString " to ").length ≤ 10 by decide +kernel)
      have lc := lapp lb l2
      have ld := lapp lc (show (Str.ofString " has a row already").length ≤ 50 by decide +kernel)
      walk_at "s"
      refine ⟨by decide +kernel, ?_⟩
      walk_at "s"
      refine .inl ⟨z1, rfl, szl (by omega), ?_⟩
      walk_at "s"
      refine ⟨szl (by omega), ?_⟩
      walk_at "s"
      refine ⟨szl (by omega), ?_⟩
      walk_at "s"
      refine .inl ⟨z2, rfl, szl (by omega), ?_⟩
      walk_at "s"
      refine ⟨szl (by omega), ?_⟩
      walk_at "s"
      exact ⟨szl (by omega), qE (by decide) _ s1⟩
    have c5' : valV (rs.map rowK) [.inr z1, .inr z2] = none := by simpa using c5
    walk_at "s"
    refine ⟨p, a.Tariff, dx, _, .ref d, rfl, hob1, T.cl_Tariff, T.na_prices, prices_lookup d, d, _, rfl, hdc1, ?_⟩
    walk_at "s"
    refine ifD (fun c6 => ?_) (fun c6 => ?_)
    · rw [List.length_map] at c6
      have e : putDue rs (.str z1) (.str z2) (.int n) = 4 := by unfold putDue; rw [if_pos c1, if_pos c2, if_neg c3, if_pos c4, if_neg (by rw [ek]; simp [c5']), if_pos (by omega)]
      rw [e] at qE
      walk_at "s"
      refine ⟨by decide +kernel, ?_⟩
      walk_at "s"
      refine .inr ⟨160, rfl, by decide, ?_⟩
      walk_at "s"
      refine ⟨by decide +kernel, ?_⟩
      walk_at "s"
      exact ⟨by decide +kernel, qE (by decide) _ s1⟩
    rw [List.length_map] at c6
    have e : putDue rs (.str z1) (.str z2) (.int n) = 0 := by unfold putDue; rw [if_pos c1, if_pos c2, if_neg c3, if_pos c4, if_neg (by rw [ek]; simp [c5']), if_neg (by omega)]
    walk_at "s"
    refine ⟨p, a.Tariff, dx, _, .ref d, rfl, hob1, T.cl_Tariff, T.na_prices, prices_lookup d, ?_⟩
    walk_at "s"
    refine ⟨(by show 2 ≤ sizeLine; decide), fun u hu2 => ?_⟩
    have s2 : Same H (upd (upd H t (.tup [.str z1, .str z2])) u (.tup [.str z1, .str z2])) := Same.trans s1 (same_new hu2)
    have hob2 := s2 _ _ hob
    have hdc2 := s2 _ _ hdc
    refine ⟨d, _, rfl, DPut.t (k := [.inr z1, .inr z2]) hdc2 upd_same (szlt (by rw [List.length_map]; omega)), ?_⟩
    refine q0 e _ (fun b o nb hb => by rw [upd_ne nb]; exact s2 _ _ hb) ⟨⟨dx, by rw [upd_ne npd]; exact hob2⟩, ?_⟩
    rw [upd_same, rowK_put c5']
    rfl
end
end Fb

namespace Fb
open PySem PySem.Spec PyProof.Rows L2
local macro_rules | `(tactic| walk_at "s") => `(tactic| repeat (first | refine ⟨_, rfl, ?_⟩ | refine ⟨_, _, rfl, rfl, ?_⟩ | refine ⟨_, _, rfl, Or.inl (by assumption), ?_⟩ | refine ⟨rfl, ?_⟩ | refine ⟨(by decide : (0 : Int) < _), ?_⟩ | refine ⟨⟨by decide, by decide⟩, ?_⟩ | refine ⟨_, _, _, rfl, (by assumption), (by first | decide | omega), ?_⟩))
theorem but_l {K : PySem.W.Frag} {H H' : Hp} {D l : Addr} {o : HO} {xs : List V} (s : SameB D H H') (hD : H D = some o) (n1 : ∀ xs, o ≠ .lst xs) (n2 : ∀ ob u, o ≠ .frz ob u) (h : SqL K H l xs) : SqL K H' l xs := by
  rcases h with (h | ⟨ob, h⟩) | h
  · exact .inl (.inl (s _ _ (ne_of h hD fun e => n1 _ e.symm) h))
  · exact .inl (.inr ⟨ob, s _ _ (ne_of h hD fun e => n2 _ _ e.symm) h⟩)
  · exact .inr h
theorem but_t {K : PySem.W.Frag} {H H' : Hp} {D l : Addr} {o : HO} {xs : List V} (s : SameB D H H') (hD : H D = some o) (n1 : ∀ xs, o ≠ .tup xs) (n2 : ∀ ob u, o ≠ .frz ob u) (h : SqT K H l xs) : SqT K H' l xs := by
  rcases h with (h | ⟨ob, h⟩) | h
  · exact .inl (.inl (s _ _ (ne_of h hD fun e => n1 _ e.symm) h))
  · exact .inl (.inr ⟨ob, s _ _ (ne_of h hD fun e => n2 _ _ e.symm) h⟩)
  · exact .inr h
theorem paired_at {α β : Type} {R : α → β → Prop} : ∀ {xs : List α} {ys : List β} {i : Nat} {x : α}, Paired R xs ys → xs[i]? = some x → ∃ y, ys[i]? = some y ∧ R x y
  | _, _, _, _, .nil, h => by simp at h
  | _, _, 0, _, .cons r _, h => by
    simp only [List.getElem?_cons_zero, Option.some.injEq] at h
    subst h
    exact ⟨_, rfl, r⟩
  | _, _, i + 1, x, .cons _ t, h => paired_at (i := i) (x := x) t (by simpa using h)
theorem take_step {rs : List Row} {gs : List (V × V × V)} {i : Nat} {g : V × V × V} (h : gs[i]? = some g) :
    takeRows rs (gs.drop i) = if putDue rs g.1 g.2.1 g.2.2 = 0 then takeRows (rs ++ [mkRow g.1 g.2.1 g.2.2]) (gs.drop (i + 1)) else (putDue rs g.1 g.2.1 g.2.2, rs) := by
  obtain ⟨hl, e⟩ := List.getElem?_eq_some_iff.mp h
  rw [List.drop_eq_getElem_cons hl, e]
  rfl
def spInit (K : PySem.W.Frag) (a : Ads) (P : Addr) : Sp := fun vs H Q E => ∃ (p dx l : Addr) (ts : List Addr) (gs : List (V × V × V)), vs = [.ref p, .ref l] ∧ H p = some (.ins a.Tariff dx []) ∧ H P = some (TabO P) ∧ SqL K H l (ts.map V.ref) ∧
  Paired (IsGiven K H) ts gs ∧ (∀ g ∈ gs, ask g.1 ∧ ask g.2.1 ∧ ask g.2.2) ∧ gs.length ≤ 400 ∧
  ((takeRows [] gs).1 = 0 → ∀ d H', H d = none → SameB p H H' → TarAt a.Tariff H' p d (takeRows [] gs).2 → Q .non H') ∧
  ((takeRows [] gs).1 ≠ 0 → ∀ H', SameB p H H' → E (.ref (errOf a (takeRows [] gs).1)) none H')
def lookR (rs : List Row) (x y : Str) : V := (valV (rs.map rowK) [.inr x, .inr y]).getD .non
def spPrice (a : Ads) : Sp := fun vs H Q _ => ∃ (p d : Addr) (x y : Str) (rs : List Row), vs = [.ref p, .str x, .str y] ∧ TarAt a.Tariff H p d rs ∧ ∀ H', Same H H' → Q (lookR rs x y) H'
def spTold (a : Ads) : Sp := fun vs H Q _ => ∃ (p d : Addr) (rs : List Row), vs = [.ref p] ∧ TarAt a.Tariff H p d rs ∧ rs.length ≤ 1000 ∧
  ∀ (q : Addr) (H' : Hp) (ts : List Addr), H q = none → Same H H' → H' q = some (.lst (ts.map V.ref)) → Paired (IsRow H') ts rs → Q (.ref q) H'
abbrev s_Tariff_init : Stmt := inClass (topS 12) 0
abbrev N_Tariff_init : List Str := ["self", "rows", "here", "there", "price"]
theorem sc_Tariff_init : FnScope N_Tariff_init ["self", "rows"] (defScope s_Tariff_init) := ⟨rfl, rfl, rfl, by decide +kernel, rfl, by decide +kernel, by decide +kernel⟩
abbrev s_Tariff_price : Stmt := inClass (topS 12) 2
abbrev N_Tariff_price : List Str := ["self", "here", "there"]
theorem sc_Tariff_price : FnScope N_Tariff_price ["self", "here", "there"] (defScope s_Tariff_price) := ⟨rfl, rfl, rfl, by decide +kernel, rfl, by decide +kernel, by decide +kernel⟩
abbrev s_Tariff_told : Stmt := inClass (topS 12) 3
abbrev N_Tariff_told : List Str := ["self", "here", "there", "price"]
theorem sc_Tariff_told : FnScope N_Tariff_told ["self"] (defScope s_Tariff_told) := ⟨rfl, rfl, rfl, by decide +kernel, rfl, by decide +kernel, by decide +kernel⟩
section
variable {Pg : Program} {w : World} {K : PySem.W.Frag} {mg : Str → Option Value} {base : Heap} {a : Ads}
theorem ok_price {f : Addr} {fd : FuncData} (F : Fun K "price" "Tariff.price" s_Tariff_price f fd) (T : Txt K mg a) : FnOk Pg w K mg base (L2N.CX Pg w) 1 f fd ["self", "here", "there"] (spPrice a) := by
  refine F.okN sc_Tariff_price (fun vs H Q E h => ?_) (fun cdv A outer s H vs Q E hr h => ?_)
  · obtain ⟨p, d, x, y, rs, rfl, _⟩ := h
    rfl
  · obtain ⟨p, d, x, y, rs, rfl, hT, q⟩ := h
    have hu := hu_of hr
    obtain ⟨dx, hob⟩ := hT.ob
    refine ⟨_, (pss_one (ps_ret (pe_dget1 hu (pe_fld (pv 0) rfl) (pe_tup (pa_cons (pv 1) (pa_cons (pv 2) pa_nil))) ⟨rfl, rfl, rfl, rfl⟩))), ?_⟩
    walk_at "s"
    refine ⟨p, a.Tariff, dx, _, .ref d, rfl, hob, T.cl_Tariff, T.na_prices, prices_lookup d, d, rfl, .inr ⟨_, .inl hT.dc⟩, ?_⟩
    walk_at "s"
    refine ⟨(by show 2 ≤ sizeLine; decide), fun t ht => ?_⟩
    exact ⟨_, DGet.t (k := [.inr x, .inr y]) ((same_new ht) _ _ hT.dc) upd_same, q _ (same_new ht)⟩
theorem ok_init {f P : Addr} {fd : FuncData} (F : Fun K "__init__" "Tariff.__init__" s_Tariff_init f fd) (T : Txt K mg a) (D_put : Dm Pg w K mg base 3 a.Tariff "put" ["self", "here", "there", "price"] (spPut a P)) : FnOk Pg w K mg base (L2N.CX Pg w) 4 f fd ["self", "rows"] (spInit K a P) := by
  refine F.okN sc_Tariff_init (fun vs H Q E h => ?_) (fun cdv A outer s H vs Q E hr h => ?_)
  · obtain ⟨p, dx, l, ts, gs, rfl, _⟩ := h
    rfl
  · obtain ⟨p, dx, l, ts, gs, rfl, hp, hP, hl, hg, hask, hlen, q0, qE⟩ := h
    have PO : PassesOwn (model Pg w) (A.deeper (envOfC "Tariff.__init__" (defScope s_Tariff_init) s.heap.objs.size f cdv)) (envOfC "Tariff.__init__" (defScope s_Tariff_init) s.heap.objs.size f cdv) (cxOf (L2N.CX Pg w) Pg w K mg base N_Tariff_init "Tariff.__init__" (defScope s_Tariff_init) f cdv A outer s H E).xe := passes_of rfl
    refine ⟨_, (pss_cons (ps_fld (pv 0) pe_dnewT rfl)
      (pss_one (ps_for PO rfl (pi_list (pv 1)) (pg_tup rfl (pgs_cons (pg_name (i := 2) sc_Tariff_init.nd rfl (by first | exact Or.inl rfl | exact Or.inr rfl)) (pgs_cons (pg_name (i := 3) sc_Tariff_init.nd rfl (by first | exact Or.inl rfl | exact Or.inr rfl)) (pgs_cons (pg_name (i := 4) sc_Tariff_init.nd rfl (by first | exact Or.inl rfl | exact Or.inr rfl)) pgs_nil))))
        (pss_one (ps_expr (pe_mdS (pv 0) T.cl_Tariff D_put (hr.mono (by decide)) (fun σ => L2N.passAt (L2N.takes_of rfl rfl rfl rfl) σ) (pa_cons (pv 2) (pa_cons (pv 3) (pa_cons (pv 4) pa_nil))))))))), ?_⟩
    intro d hd
    have npd : p ≠ d := ne_of_none hp hd
    have lts : ts.length = gs.length := Paired.length hg
    refine ⟨_, rfl, p, a.Tariff, dx, [], rfl, (by rw [upd_ne npd]; exact hp), T.cl_Tariff, T.na_prices, (by show 0 < 1000; decide), ?_⟩
    have sb : SameB p H (upd (upd H d (.dT [])) p (.ins a.Tariff dx (putF "_prices" (.ref d) []))) := fun b o nb e => by rw [upd_ne nb, upd_ne (ne_of_none e hd)]; exact e
    have T0 : TarAt a.Tariff (upd (upd H d (.dT [])) p (.ins a.Tariff dx (putF "_prices" (.ref d) []))) p d [] := ⟨⟨dx, upd_same⟩, by rw [upd_ne npd.symm, upd_same]; rfl⟩
    have seq : ∀ H', SameB p H H' → SqL K H' l (ts.map V.ref) := fun H' s => but_l s hp (fun _ z => nomatch z) (fun _ _ z => nomatch z) hl
    have giv : ∀ H' t g, SameB p H H' → IsGiven K H t g → IsGiven K H' t g := fun H' t g s h => but_t s hp (fun _ z => nomatch z) (fun _ _ z => nomatch z) h
    walk_at "s"
    refine ⟨⟨_, seq _ sb⟩, for_list (K := K) (a := l) (xs := ts.map V.ref) (fun i σ H' => ∃ rs v1 v2 v3, σ = [some (.ref p), some (.ref l), v1, v2, v3] ∧ SameB p H H' ∧ TarAt a.Tariff H' p d rs ∧ rs.length ≤ i ∧ takeRows [] gs = takeRows rs (gs.drop i))
      ⟨[], none, none, none, rfl, sb, T0, Nat.le_refl _, rfl⟩ (fun i σ H' _ ⟨_, _, _, _, _, s2, _⟩ => seq _ s2) ?_ ?_⟩
    · rintro i y σ H2 hi ⟨rs, v1, v2, v3, rfl, s2, T2, hlr, ht⟩
      rw [List.getElem?_map] at hi
      obtain ⟨t, ht1, rfl⟩ := Option.map_eq_some_iff.mp hi
      have hil := (List.getElem?_eq_some_iff.mp ht1).1
      obtain ⟨g, hg1, hgv⟩ := paired_at hg ht1
      obtain ⟨a1, a2, a3⟩ := hask g (List.mem_of_getElem? hg1)
      obtain ⟨dx2, hob2⟩ := T2.ob
      have hP2 : H2 P = some (TabO P) := s2 _ _ (ne_of hP hp (by intro z; cases z)) hP
      refine ⟨_, _, rfl, giv _ _ _ s2 hgv, rfl, _, _, rfl, _, _, rfl, _, _, rfl, rfl, ?_⟩
      have step := take_step (rs := rs) hg1
      walk_at "s"
      refine ⟨p, dx2, _, rfl, hob2, prices_no d (by decide), ?_⟩
      walk_at "s"
      refine ⟨p, d, _, _, _, rs, rfl, a1, a2, a3, hP2, T2, by omega, fun e H3 s3 T3 => ?_, fun e H3 s3 => ?_⟩
      · rw [if_pos e] at step
        refine ⟨_, _, _, _, rfl, fun b o nb hb => s3 _ _ (ne_of_none hb hd) (s2 _ _ nb hb), T3, by rw [List.length_append]; simp; omega, by rw [ht, step]⟩
      · rw [if_neg e] at step
        rw [ht, step] at qE
        exact qE e _ fun b o nb hb => s3 _ _ (s2 _ _ nb hb)
    · rintro σ H2 ⟨rs, v1, v2, v3, rfl, s2, T2, hlr, ht⟩
      rw [List.length_map, lts, List.drop_length] at ht
      rw [ht] at q0
      exact q0 rfl d H2 hd s2 T2
end
end Fb

namespace Fb
open PySem PySem.Spec PyProof.Rows L2
local macro_rules | `(tactic| walk_at "s") => `(tactic| repeat (first | refine ⟨_, rfl, ?_⟩ | refine ⟨_, _, rfl, rfl, ?_⟩ | refine ⟨_, _, rfl, Or.inl (by assumption), ?_⟩ | refine ⟨rfl, ?_⟩ | refine ⟨(by decide : (0 : Int) < _), ?_⟩ | refine ⟨⟨by decide, by decide⟩, ?_⟩ | refine ⟨_, _, _, rfl, (by assumption), (by first | decide | omega), ?_⟩))
section
variable {Pg : Program} {w : World} {K : PySem.W.Frag} {mg : Str → Option Value} {base : Heap} {a : Ads}
theorem ok_told {f : Addr} {fd : FuncData} (F : Fun K "told" "Tariff.told" s_Tariff_told f fd) (T : Txt K mg a) : FnOk Pg w K mg base (L2N.CX Pg w) 1 f fd ["self"] (spTold a) := by
  refine F.okN sc_Tariff_told (fun vs H Q E h => ?_) (fun cdv A outer s H vs Q E hr h => ?_)
  · obtain ⟨p, d, rs, rfl, _⟩ := h
    rfl
  · obtain ⟨p, d, rs, rfl, hT, hlen, q⟩ := h
    obtain ⟨dx, hob⟩ := hT.ob
    have hdc := hT.dc
    have npd := hT.ne
    refine ⟨_, (pss_one (ps_ret (pe_lock (pe_lc (own := [("price", 3), ("here", 1), ("there", 2)]) (g := (gTup K 2 (gCons (gTup K 2 (gCons (gName 1) (gCons (gName 2) gNil))) (gCons (gName 3) gNil)))) (tt := tYes) rfl sc_Tariff_told.nd (pi_itemsT (pe_fld (pv 0) rfl)) (blkOk_by (own := [("price", 3), ("here", 1), ("there", 2)]) (N := N_Tariff_told) (sc := (defScope s_Tariff_told)) (by decide +kernel)) (fun _ _ _ _ _ => (pg_tup rfl (pgs_cons (pg_tup rfl (pgs_cons (pg_name (i := 1) sc_Tariff_told.nd rfl (by first | exact Or.inl rfl | exact Or.inr rfl)) (pgs_cons (pg_name (i := 2) sc_Tariff_told.nd rfl (by first | exact Or.inl rfl | exact Or.inr rfl)) pgs_nil))) (pgs_cons (pg_name (i := 3) sc_Tariff_told.nd rfl (by first | exact Or.inl rfl | exact Or.inr rfl)) pgs_nil)))) (fun _ _ _ _ _ => pts_nil) (fun _ _ _ _ _ => (pe_tup (pa_cons (pv 1) (pa_cons (pv 2) (pa_cons (pv 3) pa_nil))))))))), ?_⟩
    refine ⟨d, _, hdc, trivial, fun od => ?_⟩
    have hob1 : upd H d (.frz od (.dT (rs.map rowK))) p = some (.ins a.Tariff dx [("_prices", .ref d)]) := by rw [upd_ne npd]; exact hob
    walk_at "s"
    refine ⟨p, a.Tariff, dx, _, .ref d, rfl, hob1, T.cl_Tariff, T.na_prices, prices_lookup d, d, od, _, rfl, upd_same, fun D hD => ?_⟩
    refine lc_itemsT (fun i v H' => ∃ t, v = .ref t ∧ t ≠ D ∧ ∃ r, rs[i]? = some r ∧ IsRow H' t r) ?_ hD upd_same (by rw [List.length_map]; omega) ?_ ?_ ?_
    · rintro i v H2 H3 sb ⟨t, e, n, r, hr, hx⟩
      exact ⟨t, e, n, r, hr, sb _ _ n hx⟩
    · intro i k v U u H2 acc hkv s2 hDl hU hu Q2 q2
      rw [List.getElem?_map] at hkv
      obtain ⟨r, hr, ek⟩ := Option.map_eq_some_iff.mp hkv
      cases ek
      refine ⟨_, _, rfl, SqT.of hU, rfl, _, _, rfl, ?_⟩
      refine ⟨_, _, rfl, SqT.of hu, rfl, _, _, rfl, _, _, rfl, rfl, ?_⟩
      refine ⟨_, _, rfl, rfl, rfl, ?_⟩
      walk_at "s"
      refine ⟨(by show 3 ≤ sizeLine; decide), fun t ht => ?_⟩
      exact q2 _ _ (same_new ht) ⟨t, rfl, (ne_of_none hDl ht).symm, r, hr, upd_same⟩
    · exact mono_tup (mono_cons (mono_tup (mono_cons mono_name (mono_cons mono_name mono_nil))) (mono_cons mono_name mono_nil))
    · intro H2 ys s2 hDl hl hr
      rw [List.length_map] at hl
      obtain ⟨ts, rfl, hp⟩ := pair_of (R := fun t r => t ≠ D ∧ IsRow H2 t r) hl fun i v hv => by
        obtain ⟨t, e, n, r, h1, h2⟩ := hr i v hv
        exact ⟨t, e, r, h1, n, h2⟩
      have hdf : H2 d = some (.frz od (.dT (rs.map rowK))) := s2 _ _ upd_same
      have back : ∀ b o, b ≠ d → H2 b = some o → upd H2 d (.dT (rs.map rowK)) b = some o := fun b o nb e => by rw [upd_ne nb]; exact e
      have s3 : Same H (upd H2 d (.dT (rs.map rowK))) := fun b o e => by
        by_cases hb : b = d
        · subst hb
          rw [hdc] at e
          cases e
          exact upd_same
        · rw [upd_ne hb]
          exact s2 _ _ (by rw [upd_ne hb]; exact e)
      have hDn : H D = none := by
        have nD : D ≠ d := fun z => by rw [z, upd_same] at hD; cases hD
        rw [upd_ne nD] at hD
        exact hD
      refine ⟨hdf, q D _ ts hDn s3 (back _ _ (fun z => by rw [z, hdf] at hDl; cases hDl) hDl) (Paired.mapP hp fun t r ⟨_, h2⟩ => ?_)⟩
      exact back t _ (fun z => by unfold IsRow at h2; rw [z, hdf] at h2; cases h2) h2
end
end Fb

namespace Fb
open PySem PySem.Spec PyProof.Rows L2
local macro_rules | `(tactic| walk_at "s") => `(tactic| repeat (first | refine ⟨_, rfl, ?_⟩ | refine ⟨_, _, rfl, rfl, ?_⟩ | refine ⟨_, _, rfl, Or.inl (by assumption), ?_⟩ | refine ⟨rfl, ?_⟩ | refine ⟨(by decide : (0 : Int) < _), ?_⟩ | refine ⟨⟨by decide, by decide⟩, ?_⟩ | refine ⟨_, _, _, rfl, (by assumption), (by first | decide | omega), ?_⟩))
/-! ### cells of the script, names -/
def cel (ns : List Int) (j : Int) : Int := ns.getD j.toNat 0
def spCell (K : PySem.W.Frag) : Sp := fun vs H Q _ => ∃ (l : Addr) (ns : List Int) (j : Int), vs = [.ref l, .int j] ∧ SqL K H l (ns.map V.int) ∧ 0 ≤ j ∧ Q (.int (cel ns j)) H
def spNames : Sp := fun vs H Q _ => ∃ (c : Int) (n : Nat), vs = [.int c, .int (n : Int)] ∧ n ≤ 52 ∧ ∀ (p : Addr) (H' : Hp), H p = none → Same H H' → H' p = some (.lst ((List.range n).map fun k => V.str (nameOf c k))) → Q (.ref p) H'
abbrev s__law_cell_at : Stmt := topS 14
abbrev N__law_cell_at : List Str := ["_law_script", "_law_k"]
theorem sc__law_cell_at : FnScope N__law_cell_at ["_law_script", "_law_k"] (defScope s__law_cell_at) := ⟨rfl, rfl, rfl, by decide +kernel, rfl, by decide +kernel, by decide +kernel⟩
abbrev s__law_names : Stmt := topS 15
abbrev N__law_names : List Str := ["_law_cell", "_law_many", "_law_letters", "_law_size", "_law_place", "_law_k", "_law_names_here", "_law_turn", "_law_name", "_law_j", "_law_sign"]
theorem sc__law_names : FnScope N__law_names ["_law_cell", "_law_many"] (defScope s__law_names) := ⟨rfl, rfl, rfl, by decide +kernel, rfl, by decide +kernel, by decide +kernel⟩
section
variable {Pg : Program} {w : World} {K : PySem.W.Frag} {mg : Str → Option Value} {base : Heap} {a : Ads}
theorem ok_cell {f : Addr} {fd : FuncData} (F : Fun K "_law_cell_at" "_law_cell_at" s__law_cell_at f fd) (T : Txt K mg a) : FnOk Pg w K mg base (L2N.CX Pg w) 1 f fd ["_law_script", "_law_k"] (spCell K) := by
  refine F.okN sc__law_cell_at (fun vs H Q E h => ?_) (fun cdv A outer s H vs Q E hr h => ?_)
  · obtain ⟨l, ns, j, rfl, _⟩ := h
    rfl
  · obtain ⟨l, ns, j, rfl, hs, hj, q⟩ := h
    refine ⟨_, (pss_cons (ps_if (pt_cmpR op_lt (pv 1) (pe_callB call_len_seq (by rfl) T.n_len (by decide +kernel) (pa_cons (pv 0) pa_nil)) (nomark _)) (pss_one (ps_ret (pe_ix ix_list (pv 0) (pv 1) (fun _ _ => rfl)))) pss_nil)
      (pss_one (ps_ret pe_int))), ?_⟩
    walk_at "s"
    refine ifD (fun c => ?_) (fun c => ?_)
    · rw [List.length_map] at c
      walk_at "s"
      exact ⟨_, _, _, _, rfl, rfl, hs, atI_map hj (by omega), q⟩
    · rw [List.length_map] at c
      have e : cel ns j = 0 := by
        unfold cel
        rw [List.getD_eq_getElem?_getD, List.getElem?_eq_none (by omega)]; rfl
      rw [e] at q
      exact q
theorem ok_names {f : Addr} {fd : FuncData} (F : Fun K "_law_names" "_law_names" s__law_names f fd) (T : Txt K mg a) : FnOk Pg w K mg base (L2N.CX Pg w) 1 f fd ["_law_cell", "_law_many"] spNames := by
  refine F.okN sc__law_names (fun vs H Q E h => ?_) (fun cdv A outer s H vs Q E hr h => ?_)
  · obtain ⟨c, n, rfl, _⟩ := h
    rfl
  · obtain ⟨c, n, rfl, hn, q⟩ := h
    have PO : PassesOwn (model Pg w) (A.deeper (envOfC "_law_names" (defScope s__law_names) s.heap.objs.size f cdv)) (envOfC "_law_names" (defScope s__law_names) s.heap.objs.size f cdv) (cxOf (L2N.CX Pg w) Pg w K mg base N__law_names "_law_names" (defScope s__law_names) f cdv A outer s H E).xe := passes_of rfl
    refine ⟨_, (pss_cons (ps_set (i := 2) sc__law_names.nd rfl (by first | exact Or.inl rfl | exact Or.inr rfl) pe_str)
      (pss_cons (ps_set (i := 3) sc__law_names.nd rfl (by first | exact Or.inl rfl | exact Or.inr rfl) (pe_op op_mod (pe_op op_fdiv (pv 0) pe_int) pe_int))
      (pss_cons (ps_set (i := 4) sc__law_names.nd rfl (by first | exact Or.inl rfl | exact Or.inr rfl) (pe_op op_mod (pe_op op_fdiv (pv 0) pe_int) (pe_op op_add (pv 3) pe_int)))
      (pss_cons (ps_if (pt_cmpR op_eq (pe_op op_mod (pe_op op_fdiv (pv 0) pe_int) pe_int) pe_int (nomark _)) (pss_one (ps_ret (pe_lc (own := [("_law_k", 5)]) (g := (gName 5)) (tt := tYes) rfl sc__law_names.nd (pi_range1 (by rfl) T.n_range (pa_cons (pv 1) pa_nil)) (blkOk_by (own := [("_law_k", 5)]) (N := N__law_names) (sc := (defScope s__law_names)) (by decide +kernel)) (fun _ _ _ _ _ => (pg_name (i := 5) sc__law_names.nd rfl (by first | exact Or.inl rfl | exact Or.inr rfl))) (fun _ _ _ _ _ => pts_nil) (fun _ _ _ _ _ => (pe_op op_repS (pe_ix ix_str (pv 2) (pe_op op_mod (pe_op op_add (pv 0) (pe_op op_fdiv (pv 5) pe_int)) pe_int) (fun _ _ => rfl)) (pe_op op_add pe_int (pe_op op_mod (pv 5) pe_int))))))) pss_nil)
      (pss_cons (ps_set (i := 6) sc__law_names.nd rfl (by first | exact Or.inl rfl | exact Or.inr rfl) (pe_lst pa_nil))
      (pss_cons (ps_for PO rfl (pi_range1 (by rfl) T.n_range (pa_cons (pv 1) pa_nil)) (pg_name (i := 5) sc__law_names.nd rfl (by first | exact Or.inl rfl | exact Or.inr rfl))
        (pss_cons (ps_set (i := 7) sc__law_names.nd rfl (by first | exact Or.inl rfl | exact Or.inr rfl) (pe_op op_add (pe_op op_fdiv (pv 0) pe_int) (pe_op op_mul (pe_op op_mul (pv 5) (pv 5)) (pe_op op_mod (pe_op op_fdiv (pv 0) pe_int) pe_int))))
          (pss_cons (ps_set (i := 8) sc__law_names.nd rfl (by first | exact Or.inl rfl | exact Or.inr rfl) (pe_bm PySem.F.plainAttrs_str PySem.F.slot_str_join PySem.F.type_str_join mt_join pe_str (pa_cons (pe_lc (own := [("_law_j", 9)]) (g := (gName 9)) (tt := tYes) rfl sc__law_names.nd (pi_range1 (by rfl) T.n_range (pa_cons (pv 3) pa_nil)) (blkOk_by (own := [("_law_j", 9)]) (N := N__law_names) (sc := (defScope s__law_names)) (by decide +kernel)) (fun _ _ _ _ _ => (pg_name (i := 9) sc__law_names.nd rfl (by first | exact Or.inl rfl | exact Or.inr rfl))) (fun _ _ _ _ _ => pts_nil) (fun _ _ _ _ _ => (pe_ix ix_str (pv 2) (pe_op op_mod (pe_op op_add (pv 7) (pe_op op_mul pe_int (pv 9))) pe_int) (fun _ _ => rfl)))) pa_nil)))
          (pss_cons (ps_set (i := 10) sc__law_names.nd rfl (by first | exact Or.inl rfl | exact Or.inr rfl) (pe_ix ix_str (pv 2) (pe_op op_mod (pe_op op_add (pv 0) (pv 5)) pe_int) (fun _ _ => rfl)))
          (pss_one (ps_expr (pe_bm PySem.F.plainAttrs_list PySem.F.slot_list_append PySem.F.type_list_append mt_append (pv 6) (pa_cons (pe_op op_add_str (pe_op op_add_str (pe_op op_add_str (pe_slice sl_str (pv 8) po_none (po_some (pv 4))) (pv 10)) (pe_slice sl_str (pv 8) (po_some (pv 4)) po_none)) (pe_op op_repS pe_str (pe_op op_fdiv (pv 5) pe_int))) pa_nil))))))))
      (pss_one (ps_ret (pv 6))))))))), ?_⟩
    have eSz : c / 26 % 11 = (nmSize c : Int) := by unfold nmSize; omega
    have hPl : (0 : Int) ≤ c / 286 % (c / 26 % 11 + 1) := Int.emod_nonneg _ (by omega)
    have ePl : c / 286 % (c / 26 % 11 + 1) = (nmPlace c : Int) := by unfold nmPlace; rw [← eSz]; omega
    walk_at "s"
    refine ⟨by omega, ?_⟩
    walk_at "s"
    refine ifD (fun c1 => ?_) (fun c1 => ?_)
    · have ho : nmOne c = true := decide_eq_true (V.int.inj c1)
      walk_at "s"
      refine ⟨by omega, by omega, fun D hD => ?_⟩
      refine lc_rangeR (fun i v _ => v = .str (nameOf c i)) (fun _ _ _ _ _ r => r) hD (by omega) (fun v => rfl) ?_ ?_
      · intro i H2 acc hi s2 hDl Q2 q2
        walk_at "s"
        refine ⟨_, _, _, rfl, rfl, abc_len, abc_code _, ?_⟩
        walk_at "s"
        refine ⟨mulOk_small (by omega) (by omega) (show 1 ≤ 1000 by decide), ?_⟩
        refine q2 _ _ (Same.refl _) ?_
        refine congrArg V.str (str_ext ?_)
        rw [mul_sign _ _ (by omega)]
        show _ = nameL c i
        unfold nameL
        rw [if_pos ho, show (1 + (0 + (i : Int)) % 12).toNat = 1 + i % 12 by omega, show c + (0 + (i : Int)) / 12 = c + ((i / 12 : Nat) : Int) by omega]
      · intro H2 ys s2 hDl hl hr
        have e : ys = (List.range n).map fun k => V.str (nameOf c k) := by
          refine List.ext_getElem? fun i => ?_
          by_cases h : i < n
          · have h2 : i < ys.length := by omega
            rw [List.getElem?_map, List.getElem?_range h, List.getElem?_eq_getElem h2, hr i _ (List.getElem?_eq_getElem h2)]
            rfl
          · rw [List.getElem?_eq_none (by omega), List.getElem?_eq_none (by simp; omega)]
        rw [e] at hDl
        exact q D H2 hD s2 hDl
    · have ho : nmOne c = false := decide_eq_false fun z => c1 (congrArg V.int z)
      refine ⟨Nat.zero_le _, fun p hp => ?_⟩
      walk_at "s"
      refine ⟨by omega, by omega, ?_⟩
      refine for_range (fun i σ H' => ∃ v5 v7 v8 v10, σ = [some (.int c), some (.int n), some (.str abc), some (.int (c / 26 % 11)), some (.int (c / 286 % (c / 26 % 11 + 1))), v5, some (.ref p), v7, v8, none, v10] ∧ Same H H' ∧ H' p = some (.lst ((List.range i).map fun k => V.str (nameOf c k))))
        ⟨none, none, none, none, rfl, same_new hp, upd_same⟩ ?_ ?_
      · rintro i σ H2 hi ⟨v5, v7, v8, v10, rfl, s2, hpl⟩
        walk_at "s"
        refine ⟨mulSmall (by omega) (by omega), ?_⟩
        walk_at "s"
        refine ⟨mulSmall2 (by omega) (by omega), ?_⟩
        walk_at "s"
        refine ⟨by omega, by omega, fun D hD => ?_⟩
        refine lc_rangeR (fun j v _ => v = .str ⟨#[code (c / 3 + (i : Int) * i * (c / 3432 % 2) + 5 * (j : Int))]⟩) (fun _ _ _ _ _ r => r) hD (by omega) (fun v => rfl) ?_ ?_
        · intro j H3 acc hj s3 hDl Q2 q2
          walk_at "s"
          refine ⟨mulSmall (by decide) (by decide), ?_⟩
          walk_at "s"
          refine ⟨_, _, _, rfl, rfl, abc_len, abc_code _, ?_⟩
          refine q2 _ _ (Same.refl _) ?_
          rw [Int.zero_add, Int.zero_add]
        · intro H3 ys s3 hDl hl hr
          obtain ⟨zs, rfl, hz, h1⟩ := signs_of (f := fun j => code (c / 3 + (i : Int) * i * (c / 3432 % 2) + 5 * (j : Int))) hl hr
          rw [List.length_map] at hl
          have hbase : (Txt.join (Str.ofString "") zs).cps.toList = nmBase c i := by
            rw [join_tl _ (by decide +kernel), hz, show (c / 26 % 11).toNat = nmSize c from rfl]
            rfl
          have hsum : (zs.map (·.length)).sum ≤ zs.length := by
            clear hl hz hDl hr hbase
            induction zs with
            | nil => simp
            | cons z r ih =>
              have h3 := ih fun q hq => h1 q (List.mem_cons_of_mem _ hq)
              rw [List.map_cons, List.sum_cons, List.length_cons, h1 z List.mem_cons_self]
              omega
          have lb : (Txt.join (Str.ofString "") zs).length = nmSize c := by rw [len_tl, hbase, nmBase_len]
          have hsz := nmSize_le c
          have hpp := nmPlace_le c
          walk_at "s"
          refine ⟨_, _, zs, rfl, rfl, .inl (SqL.of hDl), ?_, ?_⟩
          · have e0 : (Str.ofString "").length = 0 := by decide
            rw [e0]; omega
          walk_at "s"
          refine ⟨_, _, _, rfl, rfl, abc_len, abc_code _, ?_⟩
          have s23 := Same.trans s2 s3
          have hpl3 := s3 _ _ hpl
          walk_at "s"
          refine ⟨.inl ⟨rfl, _, SqL.of hpl3⟩, ?_⟩
          walk_at "s"
          refine ⟨szl (by omega), ?_⟩
          rw [ePl]
          walk_at "s"
          have c1l := cut_len (Txt.join (Str.ofString "") zs) none (some (nmPlace c : Int))
          have c2l := cut_len (Txt.join (Str.ofString "") zs) (some (nmPlace c : Int)) none
          refine ⟨szl (show _ + 1 ≤ _ by omega), ?_⟩
          walk_at "s"
          refine ⟨szl (by omega), ?_⟩
          walk_at "s"
          refine ⟨szl (by rw [len_app]; show _ + 1 + _ ≤ _; omega), ?_⟩
          walk_at "s"
          refine ⟨mulOk_small (by omega) (by omega) (show 1 ≤ 1000 by decide), ?_⟩
          have mlen : (Txt.mul (Str.ofString "x") ((0 + (i : Int)) / 26)).length = ((0 + (i : Int)) / 26).toNat := by
            rw [mul_length _ _ (by omega)]
            exact Nat.one_mul _
          walk_at "s"
          refine ⟨szl (by rw [len_app, len_app]; show _ + 1 + _ + _ ≤ _; omega), ?_⟩
          refine ⟨_, _, _, rfl, rfl, hpl3, szlt (by simp; omega), ?_⟩
          refine ⟨_, _, _, _, rfl, same_mut s23 hp, ?_⟩
          have eZ : cutS (Txt.join (Str.ofString "") zs) none (some (nmPlace c : Int)) ++ (⟨#[code (c + (0 + (i : Int)))]⟩ : Str) ++ cutS (Txt.join (Str.ofString "") zs) (some (nmPlace c : Int)) none ++ Txt.mul (Str.ofString "x") ((0 + (i : Int)) / 26) = nameOf c i := by
            refine str_ext ?_
            rw [cps_app, cps_app, cps_app, cut_take _ _ (by rw [hbase, nmBase_len]; exact hpp), cut_drop _ _ (by rw [hbase, nmBase_len]; exact hpp), hbase]
            rw [show Str.ofString "x" = ⟨#[120]⟩ by decide +kernel, mul_sign _ _ (by omega)]
            show _ = nameL c i
            unfold nameL
            rw [if_neg (by rw [ho]; exact Bool.false_ne_true), show ((0 + (i : Int)) / 26).toNat = i / 26 by omega, Int.zero_add]
          rw [upd_same, eZ, List.range_succ, List.map_append]
          rfl
      · rintro σ H2 ⟨v5, v7, v8, v10, rfl, s2, hpl⟩
        walk_at "s"
        exact q p H2 hp s2 (by simpa using hpl)
end
end Fb

namespace Fb
open PySem PySem.Spec PyProof.Rows L2
local macro_rules | `(tactic| walk_at "s") => `(tactic| repeat (first | refine ⟨_, rfl, ?_⟩ | refine ⟨_, _, rfl, rfl, ?_⟩ | refine ⟨_, _, rfl, Or.inl (by assumption), ?_⟩ | refine ⟨rfl, ?_⟩ | refine ⟨(by decide : (0 : Int) < _), ?_⟩ | refine ⟨⟨by decide, by decide⟩, ?_⟩ | refine ⟨_, _, _, rfl, (by assumption), (by first | decide | omega), ?_⟩))
/-! ### prices, what is no place, what is no price -/
def prc (c : Int) : Int := c * 48271 % 1000000000001
theorem prc_ok (c : Int) : isC (.int (prc c)) = true := by
  have h1 : 0 ≤ prc c := Int.emod_nonneg _ (by decide)
  have h2 : prc c < 1000000000001 := Int.emod_lt_of_pos _ (by decide)
  show (decide (0 ≤ prc c) && decide (prc c ≤ 1000000000000)) = true
  rw [decide_eq_true h1, decide_eq_true (by omega)]; rfl
def spPrc : Sp := fun vs H Q _ => ∃ c : Int, vs = [.int c] ∧ Q (.int (prc c)) H
def spBadP : Sp := fun vs H Q _ => ∃ c : Int, vs = [.int c] ∧ ∀ (v : V) (H' : Hp), ask v → Same H H' → Q v H'
def spLIsPlace : Sp := fun vs H Q _ => ∃ v : V, vs = [v] ∧ ask v ∧ ∀ H', Same H H' → Q (.bl (isP v)) H'
abbrev s__law_price : Stmt := topS 16
abbrev N__law_price : List Str := ["_law_cell"]
theorem sc__law_price : FnScope N__law_price ["_law_cell"] (defScope s__law_price) := ⟨rfl, rfl, rfl, by decide +kernel, rfl, by decide +kernel, by decide +kernel⟩
abbrev s__law_bad_place : Stmt := topS 18
abbrev N__law_bad_place : List Str := ["_law_cell", "_law_letter", "_law_good", "_law_at", "_law_odd"]
theorem sc__law_bad_place : FnScope N__law_bad_place ["_law_cell"] (defScope s__law_bad_place) := ⟨rfl, rfl, rfl, by decide +kernel, rfl, by decide +kernel, by decide +kernel⟩
abbrev s__law_bad_price : Stmt := topS 19
abbrev N__law_bad_price : List Str := ["_law_cell", "_law_size"]
theorem sc__law_bad_price : FnScope N__law_bad_price ["_law_cell"] (defScope s__law_bad_price) := ⟨rfl, rfl, rfl, by decide +kernel, rfl, by decide +kernel, by decide +kernel⟩
abbrev s__law_is_place : Stmt := topS 21
abbrev N__law_is_place : List Str := ["_law_thing", "_law_sign"]
theorem sc__law_is_place : FnScope N__law_is_place ["_law_thing"] (defScope s__law_is_place) := ⟨rfl, rfl, rfl, by decide +kernel, rfl, by decide +kernel, by decide +kernel⟩
abbrev s__law_is_price : Stmt := topS 22
abbrev N__law_is_price : List Str := ["_law_thing"]
theorem sc__law_is_price : FnScope N__law_is_price ["_law_thing"] (defScope s__law_is_price) := ⟨rfl, rfl, rfl, by decide +kernel, rfl, by decide +kernel, by decide +kernel⟩
section
variable {Pg : Program} {w : World} {K : PySem.W.Frag} {mg : Str → Option Value} {base : Heap} {a : Ads}
theorem ok_prc {f : Addr} {fd : FuncData} (F : Fun K "_law_price" "_law_price" s__law_price f fd) (T : Txt K mg a) : FnOk Pg w K mg base (L2N.CX Pg w) 1 f fd ["_law_cell"] spPrc := by
  refine F.okN sc__law_price (fun vs H Q E h => ?_) (fun cdv A outer s H vs Q E hr h => ?_)
  · obtain ⟨c, rfl, _⟩ := h
    rfl
  · obtain ⟨c, rfl, q⟩ := h
    refine ⟨_, (pss_one (ps_ret (pe_op op_mod (pe_op op_mul (pv 0) pe_int) pe_int))), ?_⟩
    walk_at "s"
    refine ⟨mulSmall2 (by decide) (by decide), ?_⟩
    walk_at "s"
    exact q
theorem ok_badplace {f : Addr} {fd : FuncData} (F : Fun K "_law_bad_place" "_law_bad_place" s__law_bad_place f fd) (T : Txt K mg a) : FnOk Pg w K mg base (L2N.CX Pg w) 1 f fd ["_law_cell"] spBadP := by
  refine F.okN sc__law_bad_place (fun vs H Q E h => ?_) (fun cdv A outer s H vs Q E hr h => ?_)
  · obtain ⟨c, rfl, _⟩ := h
    rfl
  · obtain ⟨c, rfl, q⟩ := h
    refine ⟨_, (pss_cons (ps_set (i := 1) sc__law_bad_place.nd rfl (by first | exact Or.inl rfl | exact Or.inr rfl) (pe_ix ix_str pe_str (pe_op op_mod (pe_op op_fdiv (pv 0) pe_int) pe_int) (fun _ _ => rfl)))
      (pss_cons (ps_set (i := 2) sc__law_bad_place.nd rfl (by first | exact Or.inl rfl | exact Or.inr rfl) (pe_op op_repS (pv 1) (pe_op op_add pe_int (pe_op op_mod (pe_op op_fdiv (pv 0) pe_int) pe_int))))
      (pss_cons (ps_set (i := 3) sc__law_bad_place.nd rfl (by first | exact Or.inl rfl | exact Or.inr rfl) (pe_op op_mod (pe_op op_fdiv (pv 0) pe_int) (pe_op op_add (pe_callB call_len_str (by rfl) T.n_len (by decide +kernel) (pa_cons (pv 2) pa_nil)) pe_int)))
      (pss_cons (ps_set (i := 4) sc__law_bad_place.nd rfl (by first | exact Or.inl rfl | exact Or.inr rfl) (pe_op op_add_str (pe_op op_add_str (pe_slice sl_str (pv 2) po_none (po_some (pv 3))) (pe_ix ix_str pe_str (pe_op op_mod (pv 0) pe_int) (fun _ _ => rfl))) (pe_slice sl_str (pv 2) (po_some (pv 3)) po_none)))
      (pss_one (ps_ret (pe_ix ix_list (pe_lst (pa_cons pe_str (pa_cons (pe_op op_repS (pv 1) pe_int) (pa_cons (pe_op op_repS (pv 1) pe_int) (pa_cons (pv 4) (pa_cons (pv 4) (pa_cons pe_non (pa_cons pe_int pa_nil)))))))) (pe_op op_mod (pe_op op_fdiv (pv 0) pe_int) pe_int) (fun _ _ => rfl)))))))), ?_⟩
    obtain ⟨sg, hsg, hsgl⟩ := at_small (z := Str.ofString "ABZ09_ -.[`{@/") (n := 14) (i := c % 13) (by decide +kernel) (by decide +kernel) (by omega) (by omega)
    walk_at "s"
    refine ⟨_, _, _, rfl, rfl, abc_len, abc_code _, ?_⟩
    have h0 := okS.one (code_lt (c / 13))
    have hg := okS.mul (k := 1 + c / 7 % 11) h0 (by omega)
    have hg2 : okS 11 (Txt.mul ⟨#[code (c / 13)]⟩ (1 + c / 7 % 11)) := hg.mono (by omega)
    have hzl : (Txt.mul ⟨#[code (c / 13)]⟩ (1 + c / 7 % 11)).length ≤ sizeLine := szl (by have := hg2.1; omega)
    walk_at "s"
    refine ⟨mulOk_small (by omega) (by omega) (show 1 ≤ 1000 by decide), ?_⟩
    revert hg2 hzl
    clear hg
    generalize Txt.mul ⟨#[code (c / 13)]⟩ (1 + c / 7 % 11) = gd
    intro hg2 hzl
    walk_at "s"
    refine ⟨hzl, ?_⟩
    walk_at "s"
    refine ⟨by omega, ?_⟩
    walk_at "s"
    refine ⟨hzl, ?_⟩
    walk_at "s"
    refine ⟨_, _, _, rfl, rfl, (by decide +kernel), hsg, ?_⟩
    have h1 := okS.app (okS.cut hg2 none (some (c / 91 % ((gd.length : Int) + 1)))) (okS.one hsgl)
    walk_at "s"
    refine ⟨szl (by have := h1.1; rw [len_app] at this; exact Nat.le_trans this (by decide)), ?_⟩
    walk_at "s"
    refine ⟨hzl, ?_⟩
    have h3 := okS.app h1 (okS.cut hg2 (some (c / 91 % ((gd.length : Int) + 1))) none)
    walk_at "s"
    refine ⟨szl (by have := h3.1; rw [len_app] at this; exact Nat.le_trans this (by decide)), ?_⟩
    have m13 := okS.mul (k := 13) h0 (by decide)
    have m12 := okS.mul (k := 12) h0 (by decide)
    walk_at "s"
    refine ⟨mulOk_small (by decide) (by decide) (show 1 ≤ 1000 by decide), ?_⟩
    walk_at "s"
    refine ⟨mulOk_small (by decide) (by decide) (show 1 ≤ 1000 by decide), ?_⟩
    walk_at "s"
    refine ⟨(by show 7 ≤ sizeLine; decide), fun l hl => ?_⟩
    walk_at "s"
    obtain ⟨v, hv, hm⟩ := atI_mem (xs := [V.str (Str.ofString ""), V.str (Txt.mul ⟨#[code (c / 13)]⟩ 13), V.str (Txt.mul ⟨#[code (c / 13)]⟩ 12), V.str (cutS gd none (some (c / 91 % ((gd.length : Int) + 1))) ++ ⟨#[sg]⟩ ++ cutS gd (some (c / 91 % ((gd.length : Int) + 1))) none), V.str (cutS gd none (some (c / 91 % ((gd.length : Int) + 1))) ++ ⟨#[sg]⟩ ++ cutS gd (some (c / 91 % ((gd.length : Int) + 1))) none), V.non, V.int 7]) (i := c / 17 % 7) (by omega) (by show c / 17 % 7 < 7; omega)
    refine ⟨_, _, _, _, rfl, rfl, SqL.of upd_same, hv, q _ _ ?_ (same_new hl)⟩
    simp only [List.mem_cons, List.not_mem_nil, or_false] at hm
    rcases hm with e | e | e | e | e | e | e
    · exact .inr (.inr (.inr ⟨_, e, by decide, by decide +kernel⟩))
    · exact .inr (.inr (.inr ⟨_, e, m13.mono (by decide)⟩))
    · exact .inr (.inr (.inr ⟨_, e, m12.mono (by decide)⟩))
    · exact .inr (.inr (.inr ⟨_, e, h3.mono (by decide)⟩))
    · exact .inr (.inr (.inr ⟨_, e, h3.mono (by decide)⟩))
    · exact .inl e
    · exact .inr (.inr (.inl ⟨_, e⟩))
theorem ok_badprice {f : Addr} {fd : FuncData} (F : Fun K "_law_bad_price" "_law_bad_price" s__law_bad_price f fd) (T : Txt K mg a) : FnOk Pg w K mg base (L2N.CX Pg w) 1 f fd ["_law_cell"] spBadP := by
  refine F.okN sc__law_bad_price (fun vs H Q E h => ?_) (fun cdv A outer s H vs Q E hr h => ?_)
  · obtain ⟨c, rfl, _⟩ := h
    rfl
  · obtain ⟨c, rfl, q⟩ := h
    refine ⟨_, (pss_cons (ps_set (i := 1) sc__law_bad_price.nd rfl (by first | exact Or.inl rfl | exact Or.inr rfl) (pe_op op_mod (pv 0) (pe_op op_pow pe_int pe_int)))
      (pss_one (ps_ret (pe_ix ix_list (pe_lst (pa_cons (pe_un un_neg pe_int) (pa_cons pe_int (pa_cons pe_bl (pa_cons pe_bl (pa_cons pe_non (pa_cons (pe_op op_sub (pe_op op_mulW (pe_un un_neg (pv 1)) (pv 1)) pe_int) (pa_cons (pe_op op_add pe_int (pe_op op_mulW (pv 1) (pv 1))) pa_nil)))))))) (pe_op op_mod (pv 0) pe_int) (fun _ _ => rfl))))), ?_⟩
    have e1 : (10 : Int) ^ (Int.toNat 30) = 1000000000000000000000000000000 := by decide +kernel
    obtain ⟨z, ez⟩ : ∃ z, z = c % 10 ^ Int.toNat 30 := ⟨_, rfl⟩
    have b1 : 0 ≤ z := by rw [ez, e1]; exact Int.emod_nonneg _ (by decide)
    have b2 : z < 1000000000000000000000000000000 := by rw [ez, e1]; exact Int.emod_lt_of_pos _ (by decide)
    have w1 : z.natAbs < 2 ^ 100 := by
      have : (2 : Nat) ^ 100 = 1267650600228229401496703205376 := by decide +kernel
      omega
    have w2 : (-z).natAbs < 2 ^ 100 := by rw [Int.natAbs_neg]; exact w1
    rw [ez] at w1 w2
    walk_at "s"
    refine ⟨wide_mul w2 w1 (by decide) (by decide) (by decide), ?_⟩
    walk_at "s"
    refine ⟨wide_mul w1 w1 (by decide) (by decide) (by decide), ?_⟩
    walk_at "s"
    refine ⟨(by show 7 ≤ sizeLine; decide), fun l hl => ?_⟩
    walk_at "s"
    obtain ⟨v, hv, hm⟩ := atI_mem (xs := [V.int (-1), V.int 1000000000001, V.bl true, V.bl false, V.non, V.int (-(c % 10 ^ Int.toNat 30) * (c % 10 ^ Int.toNat 30) - 1), V.int (1000000000001 + (c % 10 ^ Int.toNat 30) * (c % 10 ^ Int.toNat 30))]) (i := c % 7) (by omega) (by show c % 7 < 7; omega)
    refine ⟨_, _, _, _, rfl, rfl, SqL.of upd_same, hv, q _ _ ?_ (same_new hl)⟩
    simp only [List.mem_cons, List.not_mem_nil, or_false] at hm
    rcases hm with e | e | e | e | e | e | e
    · exact .inr (.inr (.inl ⟨_, e⟩))
    · exact .inr (.inr (.inl ⟨_, e⟩))
    · exact .inr (.inl ⟨_, e⟩)
    · exact .inr (.inl ⟨_, e⟩)
    · exact .inl e
    · exact .inr (.inr (.inl ⟨_, e⟩))
    · exact .inr (.inr (.inl ⟨_, e⟩))
theorem ok_lis_place {f : Addr} {fd : FuncData} (F : Fun K "_law_is_place" "_law_is_place" s__law_is_place f fd) (T : Txt K mg a) : FnOk Pg w K mg base (L2N.CX Pg w) 1 f fd ["_law_thing"] spLIsPlace := by
  refine F.okN sc__law_is_place (fun vs H Q E h => ?_) (fun cdv A outer s H vs Q E hr h => ?_)
  · obtain ⟨c, rfl, _⟩ := h
    rfl
  · obtain ⟨v, rfl, ha, q⟩ := h
    have q0 := q H (Same.refl H)
    refine ⟨_, (pss_cons (ps_if (PW.pt (pw_or (pt_not (pt_val (pe_callB call_isi (by rfl) T.n_isinstance (by decide +kernel) (pa_cons (pv 0) (pa_cons (pe_bty (n := "str") T.n_str (by decide +kernel)) pa_nil))))) (pw_or1 (pt_not (pt_chain op_le op_le pe_int (pe_callB call_len_str (by rfl) T.n_len (by decide +kernel) (pa_cons (pv 0) pa_nil)) pe_int))))) (pss_one (ps_ret pe_bl)) pss_nil)
      (pss_one (ps_ret (pe_cmpR (op_eqD hr.units) (pe_lc (own := [("_law_sign", 1)]) (g := (gName 1)) (tt := _) rfl sc__law_is_place.nd (pi_str (pv 0)) (blkOk_by (own := [("_law_sign", 1)]) (N := N__law_is_place) (sc := (defScope s__law_is_place)) (by decide +kernel)) (fun _ _ _ _ _ => (pg_name (i := 1) sc__law_is_place.nd rfl (by first | exact Or.inl rfl | exact Or.inr rfl))) (fun _ _ _ _ _ => pts_one (pt_cmpR op_notIn_sign (pv 1) pe_str rfl)) (fun _ _ _ _ _ => (pv 1))) (pe_lst pa_nil) (nomark _))))), ?_⟩
    rcases ha with rfl | ⟨b, rfl⟩ | ⟨i, rfl⟩ | ⟨z, rfl, hz⟩
    · walk_at "s"
      exact ⟨_, _, _, _, false, rfl, .ty "str", .base .non, kit_ty (by decide +kernel), _, rfl, q0⟩
    · walk_at "s"
      exact ⟨_, _, _, _, false, rfl, .ty "str", .base (.bl b), kit_ty (by decide +kernel), _, rfl, q0⟩
    · walk_at "s"
      exact ⟨_, _, _, _, false, rfl, .ty "str", .base (.int i), kit_ty (by decide +kernel), _, rfl, q0⟩
    · walk_at "s"
      refine ⟨_, _, _, _, true, rfl, .ty "str", .base (.str z), kit_ty (by decide +kernel), _, rfl, ?_⟩
      walk_at "s"
      refine ⟨szl (Nat.le_trans hz.1 (by decide)), ?_⟩
      walk_at "s"
      refine ifD (fun c1 => ?_) (fun c1 => ?_)
      · walk_at "s"
        refine ifND (fun c2 => ?_) (fun c2 => ?_)
        · rw [isP_long c2] at q0
          exact q0
        · walk_at "s"
          intro D hD
          refine lc_signs (fun c => !letter c) hD hz.1 (fun v => rfl) (fun c H2 s2 Q2 q2 => ?_) (fun c H2 s2 Q2 q2 => ⟨_, rfl, q2⟩) (fun H2 s2 hDl => ?_)
          · rw [← notin_letter] at q2
            exact ⟨_, rfl, _, _, rfl, rfl, _, rfl, q2⟩
          · walk_at "s"
            refine ⟨Nat.zero_le _, fun D2 hD2 => ?_⟩
            have hf := flat_signs (l := z.cps.toList.filter fun c => !letter c) fun c hc => hz.2 c (List.mem_filter.mp hc).1
            refine ⟨_, .list [], .lst (SqL.of (by rw [upd_ne (ne_of_none hDl hD2)]; exact hDl)) (dpAll_flat hf), .lst (SqL.of upd_same) .nil, shaped_list hf, shaped_list (xs := []) (fun v hv => by cases hv), ?_⟩
            rw [eqv_nil, isEmpty_all, ← isP_mid c1 c2]
            exact q _ (Same.trans s2 (same_new hD2))
      · walk_at "s"
        refine ifT1 ?_
        rw [isP_short c1] at q0
        exact q0
theorem ok_lis_price {f : Addr} {fd : FuncData} (F : Fun K "_law_is_price" "_law_is_price" s__law_is_price f fd) (T : Txt K mg a) : FnOk Pg w K mg base (L2N.CX Pg w) 1 f fd ["_law_thing"] spIsPrice := by
  refine F.okN sc__law_is_price (fun vs H Q E h => ?_) (fun cdv A outer s H vs Q E hr h => ?_)
  · obtain ⟨c, rfl, _⟩ := h
    rfl
  · obtain ⟨v, rfl, ha, q⟩ := h
    refine ⟨_, (pss_one (ps_ret (pe_and (pe_callB call_isi (by rfl) T.n_isinstance (by decide +kernel) (pa_cons (pv 0) (pa_cons (pe_bty (n := "int") T.n_int (by decide +kernel)) pa_nil))) (pe_and (pe_not (pe_callB call_isi (by rfl) T.n_isinstance (by decide +kernel) (pa_cons (pv 0) (pa_cons (pe_bty (n := "bool") T.n_bool (by decide +kernel)) pa_nil)))) (pe_one (pe_chain op_le op_le pe_int (pv 0) pe_int)))))), ?_⟩
    rcases ha with rfl | ⟨b, rfl⟩ | ⟨i, rfl⟩ | ⟨z, rfl, hz⟩
    · walk_at "s"
      exact ⟨_, _, _, _, false, rfl, .ty "int", .base .non, kit_ty (by decide +kernel), _, rfl, q⟩
    · walk_at "s"
      refine ⟨_, _, _, _, true, rfl, .ty "int", .base (.bl b), kit_ty (by decide +kernel), ?_⟩
      walk_at "s"
      refine ⟨_, _, _, _, true, rfl, .ty "bool", .base (.bl b), kit_ty (by decide +kernel), ?_⟩
      walk_at "s"
      exact q
    · walk_at "s"
      refine ⟨_, _, _, _, true, rfl, .ty "int", .base (.int i), kit_ty (by decide +kernel), ?_⟩
      walk_at "s"
      refine ⟨_, _, _, _, false, rfl, .ty "bool", .base (.int i), kit_ty (by decide +kernel), ?_⟩
      walk_at "s"
      refine ifD (fun c1 => ?_) (fun c1 => ?_)
      · walk_at "s"
        have e : isC (.int i) = decide (i ≤ 1000000000000) := by
          show (decide (0 ≤ i) && decide (i ≤ 1000000000000)) = _
          rw [decide_eq_true c1]; rfl
        rw [e] at q
        exact q
      · have e : isC (.int i) = false := by
          show (decide (0 ≤ i) && decide (i ≤ 1000000000000)) = _
          rw [decide_eq_false c1]; rfl
        rw [e] at q
        exact q
    · walk_at "s"
      exact ⟨_, _, _, _, false, rfl, .ty "int", .base (.str z), kit_ty (by decide +kernel), _, rfl, q⟩
end
end Fb

namespace Fb
open PySem PySem.Spec PyProof.Rows L2
local macro_rules | `(tactic| walk_at "s") => `(tactic| repeat (first | refine ⟨_, rfl, ?_⟩ | refine ⟨_, _, rfl, rfl, ?_⟩ | refine ⟨_, _, rfl, Or.inl (by assumption), ?_⟩ | refine ⟨rfl, ?_⟩ | refine ⟨(by decide : (0 : Int) < _), ?_⟩ | refine ⟨⟨by decide, by decide⟩, ?_⟩ | refine ⟨_, _, _, rfl, (by assumption), (by first | decide | omega), ?_⟩))
def namesV (c : Int) (n : Nat) : List V := (List.range n).map fun k => V.str (nameOf c k)
theorem namesV_at {c : Int} {n : Nat} {j : Int} (h0 : 0 ≤ j) (h1 : j < n) : atI (namesV c n) j = some (.str (nameOf c j.toNat)) := by
  refine atI_of h0 ?_
  unfold namesV
  rw [List.getElem?_map, List.getElem?_range (by omega)]
  rfl
/-- the way that the law puts at last -/
def isMore (c : Int) (r : Row) : Prop := r.1 = nameOf c 20 ∧ r.2.1 = nameOf c 21
def spRows (K : PySem.W.Frag) : Sp := fun vs H Q _ => ∃ (l nl : Addr) (ns : List Int) (c : Int), vs = [.ref l, .ref nl] ∧ SqL K H l (ns.map V.int) ∧ SqL K H nl (namesV c 22) ∧
  ∀ (p : Addr) (H' : Hp) (ts : List Addr) (rs : List Row), H p = none → Same H H' → H' p = some (.lst (ts.map V.ref)) → Paired (IsRow H') ts rs → GoodRows rs → rs.length ≤ 160 → (∀ r ∈ rs, ¬ isMore c r) → Q (.ref p) H'
def toldK (rs : List Row) : List (List Key × V) := rs.map fun r => (wayK r.1 r.2.1, V.bl true)
abbrev s__law_rows : Stmt := topS 17
abbrev N__law_rows : List Str := ["_law_script", "_law_names_here", "_law_rows_here", "_law_told", "_law_k", "_law_letters", "_law_way"]
theorem sc__law_rows : FnScope N__law_rows ["_law_script", "_law_names_here"] (defScope s__law_rows) := ⟨rfl, rfl, rfl, by decide +kernel, rfl, by decide +kernel, by decide +kernel⟩
section
variable {Pg : Program} {w : World} {K : PySem.W.Frag} {mg : Str → Option Value} {base : Heap} {a : Ads}
theorem ok_rows {f : Addr} {fd : FuncData} (F : Fun K "_law_rows" "_law_rows" s__law_rows f fd) (T : Txt K mg a) (D_cell_at : Dn Pg w K mg base 1 "_law_cell_at" ["_law_script", "_law_k"] (spCell K)) (D_price : Dn Pg w K mg base 1 "_law_price" ["_law_cell"] spPrc) : FnOk Pg w K mg base (L2N.CX Pg w) 2 f fd ["_law_script", "_law_names_here"] (spRows K) := by
  refine F.okN sc__law_rows (fun vs H Q E h => ?_) (fun cdv A outer s H vs Q E hr h => ?_)
  · obtain ⟨l, nl, ns, c, rfl, _⟩ := h
    rfl
  · obtain ⟨l, nl, ns, c, rfl, hs, hn, q⟩ := h
    have hu := hu_of hr
    have PO : PassesOwn (model Pg w) (A.deeper (envOfC "_law_rows" (defScope s__law_rows) s.heap.objs.size f cdv)) (envOfC "_law_rows" (defScope s__law_rows) s.heap.objs.size f cdv) (cxOf (L2N.CX Pg w) Pg w K mg base N__law_rows "_law_rows" (defScope s__law_rows) f cdv A outer s H E).xe := passes_of rfl
    refine ⟨_, (pss_cons (ps_set (i := 2) sc__law_rows.nd rfl (by first | exact Or.inl rfl | exact Or.inr rfl) (pe_lst pa_nil))
      (pss_cons (ps_set (i := 3) sc__law_rows.nd rfl (by first | exact Or.inl rfl | exact Or.inr rfl) pe_dnewT)
      (pss_cons (ps_for PO rfl (pi_range1 (by rfl) T.n_range (pa_cons (pe_op op_mod (pe_fnS D_cell_at (hr.mono (by decide)) passC (pa_cons (pv 0) (pa_cons pe_int pa_nil))) pe_int) pa_nil)) (pg_name (i := 4) sc__law_rows.nd rfl (by first | exact Or.inl rfl | exact Or.inr rfl))
        (pss_cons (ps_dput hu (pv 3) (pe_tup (pa_cons (pe_ix ix_list (pv 1) (pv 4) (fun _ _ => rfl)) (pa_cons (pe_ix ix_list (pv 1) (pe_op op_add (pv 4) pe_int) (fun _ _ => rfl)) pa_nil))) pe_bl rfl)
          (pss_one (ps_expr (pe_bm PySem.F.plainAttrs_list PySem.F.slot_list_append PySem.F.type_list_append mt_append (pv 2) (pa_cons (pe_tup (pa_cons (pe_ix ix_list (pv 1) (pv 4) (fun _ _ => rfl)) (pa_cons (pe_ix ix_list (pv 1) (pe_op op_add (pv 4) pe_int) (fun _ _ => rfl)) (pa_cons (pe_fnS D_price (hr.mono (by decide)) passC (pa_cons (pe_fnS D_cell_at (hr.mono (by decide)) passC (pa_cons (pv 0) (pa_cons (pe_op op_add pe_int (pv 4)) pa_nil))) pa_nil)) pa_nil)))) pa_nil))))))
      (pss_cons (ps_set (i := 5) sc__law_rows.nd rfl (by first | exact Or.inl rfl | exact Or.inr rfl) pe_str)
      (pss_cons (ps_for PO rfl (pi_range1 (by rfl) T.n_range (pa_cons pe_int pa_nil)) (pg_name (i := 4) sc__law_rows.nd rfl (by first | exact Or.inl rfl | exact Or.inr rfl))
        (pss_cons (ps_set (i := 6) sc__law_rows.nd rfl (by first | exact Or.inl rfl | exact Or.inr rfl) (pe_tup (pa_cons (pe_op op_add_str pe_str (pe_ix ix_str (pv 5) (pe_op op_mod (pv 4) pe_int) (fun _ _ => rfl))) (pa_cons (pe_op op_add_str pe_str (pe_ix ix_str (pv 5) (pe_op op_fdiv (pv 4) pe_int) (fun _ _ => rfl))) pa_nil))))
          (pss_one (ps_if (PW.pt (pw_and (pt_cmpR op_eq (pe_op op_mod (pe_op op_fdiv (pe_fnS D_cell_at (hr.mono (by decide)) passC (pa_cons (pv 0) (pa_cons pe_int pa_nil))) pe_int) pe_int) pe_int (nomark _)) (pw_and (pt_cmpR op_lt (pe_callB call_len_seq (by rfl) T.n_len (by decide +kernel) (pa_cons (pv 2) pa_nil)) pe_int (nomark _)) (pw_and1 (pt_cmp (pc_dnotin hu (pv 6) (pv 3))))))) (pss_one (ps_expr (pe_bm PySem.F.plainAttrs_list PySem.F.slot_list_append PySem.F.type_list_append mt_append (pv 2) (pa_cons (pe_tup (pa_cons (pe_ix ix_tup (pv 6) pe_int (fun _ _ => rfl)) (pa_cons (pe_ix ix_tup (pv 6) pe_int (fun _ _ => rfl)) (pa_cons (pv 4) pa_nil)))) pa_nil)))) pss_nil))))
      (pss_one (ps_ret (pv 2)))))))), ?_⟩
    walk_at "s"
    refine ⟨Nat.zero_le _, fun p hp => ?_⟩
    intro td htd
    have npt : p ≠ td := fun z => by rw [← z, upd_same] at htd; cases htd
    have htd0 : H td = none := by rw [upd_ne npt.symm] at htd; exact htd
    have s1 : Same H (upd (upd H p (.lst [])) td (.dT [])) := Same.trans (same_new hp) (same_new htd)
    have hs1 : SqL K (upd (upd H p (.lst [])) td (.dT [])) l (ns.map V.int) := s1.seq hs
    walk_at "s"
    refine ⟨by omega, by omega, ?_⟩
    refine for_range (fun i σ H' => ∃ ts rs v4, σ = [some (.ref l), some (.ref nl), some (.ref p), some (.ref td), v4, none, none] ∧ Same H H' ∧ H' p = some (.lst (ts.map V.ref)) ∧ H' td = some (.dT (toldK rs)) ∧ Paired (IsRow H') ts rs ∧ GoodRows rs ∧ rs.length ≤ i ∧ ∀ r ∈ rs, ∃ j, j < i ∧ r.1 = nameOf c j ∧ r.2.1 = nameOf c (j + 1))
      ⟨[], [], none, rfl, s1, by rw [upd_ne npt, upd_same]; rfl, upd_same, .nil, ⟨(fun r hr => by cases hr), List.nodup_nil⟩, Nat.le_refl _, fun r hr => by cases hr⟩ ?_ ?_
    · rintro i σ H2 hi ⟨ts, rs, v4, rfl, s2, hpl, htl, hpr, hg, hl, hw⟩
      have hi9 : i < 9 := by omega
      have hs2 : SqL K H2 l (ns.map V.int) := s2.seq hs
      have hn2 : SqL K H2 nl (namesV c 22) := s2.seq hn
      have npt2 : p ≠ td := npt
      obtain ⟨z1, hz1, e1⟩ : ∃ z, atI (namesV c 22) (0 + (i : Int)) = some (.str z) ∧ z = nameOf c i := ⟨_, namesV_at (by omega) (by omega), by rw [show (0 + (i : Int)).toNat = i by omega]⟩
      obtain ⟨z2, hz2, e2⟩ : ∃ z, atI (namesV c 22) (0 + (i : Int) + 1) = some (.str z) ∧ z = nameOf c (i + 1) := ⟨_, namesV_at (by omega) (by omega), by rw [show (0 + (i : Int) + 1).toNat = i + 1 by omega]⟩
      have hne : z1 ≠ z2 := fun z => by
        have := name_inj (by omega) (by omega) (show nameOf c i = nameOf c (i + 1) by rw [← e1, ← e2]; exact z)
        omega
      have p1 : isP (.str z1) = true := by rw [e1]; exact name_isP (by omega)
      have p2 : isP (.str z2) = true := by rw [e2]; exact name_isP (by omega)
      have hnew : (z1, z2) ∉ rs.map fun r => (r.1, r.2.1) := fun hm => by
        obtain ⟨r, hr1, er⟩ := List.mem_map.mp hm
        obtain ⟨j, hj, ej, _⟩ := hw r hr1
        have := name_inj (by omega) (by omega) (show nameOf c j = nameOf c i by rw [← ej, ← e1]; exact (Prod.mk.inj er).1)
        omega
      have cn : valV (toldK rs) (wayK z1 z2) = none := way_none (fun _ => V.bl true) hnew
      walk_at "s"
      refine ⟨_, _, _, _, rfl, rfl, hn2, hz1, ?_⟩
      walk_at "s"
      refine ⟨_, _, _, _, rfl, rfl, hn2, hz2, ?_⟩
      walk_at "s"
      refine ⟨(by show 2 ≤ sizeLine; decide), fun u hu2 => ?_⟩
      have s4 : Same H2 (upd H2 u (.tup [.str z1, .str z2])) := same_new hu2
      have h4 : upd H2 u (.tup [.str z1, .str z2]) u = some (.tup [.str z1, .str z2]) := upd_same
      revert s4 h4
      generalize upd H2 u (.tup [.str z1, .str z2]) = H4
      intro s4 h4
      have hpl4 := s4 _ _ hpl
      have htl4 := s4 _ _ htl
      have hpr4 : Paired (IsRow H4) ts rs := Paired.mapP hpr fun _ _ h => s4 _ _ h
      refine ⟨td, _, rfl, DPut.t (k := wayK z1 z2) htl4 h4 (szlt (by unfold toldK; rw [List.length_map]; omega)), ?_⟩
      rw [putK_new _ cn]
      have s5 : SameB td H4 (upd H4 td (.dT (toldK rs ++ [(wayK z1 z2, .bl true)]))) := fun b o nb e => by rw [upd_ne nb]; exact e
      have h5 : upd H4 td (.dT (toldK rs ++ [(wayK z1 z2, .bl true)])) td = some (.dT (toldK rs ++ [(wayK z1 z2, .bl true)])) := upd_same
      revert s5 h5
      generalize upd H4 td (.dT (toldK rs ++ [(wayK z1 z2, .bl true)])) = H5
      intro s5 h5
      have hpl5 := s5 _ _ npt2 hpl4
      have hpr5 : Paired (IsRow H5) ts rs := Paired.mapP hpr4 fun t r h => s5 _ _ (ne_of h htl4 (by intro z; cases z)) h
      have hn5 : SqL K H5 nl (namesV c 22) := but_l s5 htl4 (fun _ z => nomatch z) (fun _ _ z => nomatch z) (s4.seq hn2)
      have hs5 : SqL K H5 l (ns.map V.int) := but_l s5 htl4 (fun _ z => nomatch z) (fun _ _ z => nomatch z) (s4.seq hs2)
      walk_at "s"
      refine ⟨.inl ⟨rfl, _, SqL.of hpl5⟩, ?_⟩
      walk_at "s"
      refine ⟨_, _, _, _, rfl, rfl, hn5, hz1, ?_⟩
      walk_at "s"
      refine ⟨_, _, _, _, rfl, rfl, hn5, hz2, ?_⟩
      walk_at "s"
      refine ⟨(by show 3 ≤ sizeLine; decide), fun v hv => ?_⟩
      have pc := prc_ok (cel ns (5 + (0 + (i : Int))))
      revert pc hv
      generalize prc (cel ns (5 + (0 + (i : Int)))) = pr
      intro hv pc
      have s6 : Same H5 (upd H5 v (.tup [.str z1, .str z2, .int pr])) := same_new hv
      have h6 : upd H5 v (.tup [.str z1, .str z2, .int pr]) v = some (.tup [.str z1, .str z2, .int pr]) := upd_same
      revert s6 h6
      generalize upd H5 v (.tup [.str z1, .str z2, .int pr]) = H6
      intro s6 h6
      have hpl6 := s6 _ _ hpl5
      have lts := Paired.length hpr
      refine ⟨_, _, _, rfl, rfl, hpl6, szlt (by rw [List.length_map]; omega), ?_⟩
      have hpr6 : Paired (IsRow H6) ts rs := Paired.mapP hpr5 fun t r h => s6 _ _ h
      refine ⟨ts ++ [v], rs ++ [(z1, z2, pr)], _, rfl, ?_, ?_, ?_, ?_, ?_, ?_, ?_⟩
      · refine same_mut (fun b o e => s6 _ _ (s5 _ _ (fun z => ?_) (s4 _ _ (s2 _ _ e)))) hp
        rw [z, htd0] at e; cases e
      · rw [upd_same, List.map_append]; rfl
      · rw [upd_ne npt2.symm, s6 _ _ h5]
        unfold toldK
        rw [List.map_append]; rfl
      · refine Paired.snoc (Paired.mapP hpr6 fun t r h => ?_) ?_
        · show upd _ _ _ _ = _
          rw [upd_ne (ne_of h hpl6 (by intro z; cases z))]; exact h
        · show upd _ _ _ _ = _
          rw [upd_ne (ne_of h6 hpl6 (by intro z; cases z))]; exact h6
      · exact good_snoc hg ⟨p1, p2, hne, pc⟩ hnew
      · rw [List.length_append]; simp; omega
      · intro r hr2
        rcases List.mem_append.mp hr2 with h | h
        · obtain ⟨j, hj, e⟩ := hw r h
          exact ⟨j, by omega, e⟩
        · rw [List.mem_singleton.mp h]
          exact ⟨i, by omega, e1, e2⟩
    · rintro σ H2 ⟨ts, rs, v4, rfl, s2, hpl, htl, hpr, hg, hl, hw⟩
      have hl9 : rs.length ≤ 9 := by omega
      have hw9 : ∀ r ∈ rs, ∃ j, j < 9 ∧ r.1 = nameOf c j ∧ r.2.1 = nameOf c (j + 1) := fun r hr1 => by
        obtain ⟨j, hj, e⟩ := hw r hr1
        exact ⟨j, by omega, e⟩
      walk_at "s"
      refine ⟨by decide, by decide, ?_⟩
      refine for_range (fun i σ H' => ∃ ts' rs' v4 v6, σ = [some (.ref l), some (.ref nl), some (.ref p), some (.ref td), v4, some (.str abc), v6] ∧ Same H H' ∧ H' p = some (.lst (ts'.map V.ref)) ∧ H' td = some (.dT (toldK rs)) ∧ Paired (IsRow H') ts' rs' ∧ GoodRows rs' ∧ rs'.length ≤ 160 ∧
          (∀ r ∈ rs', r ∈ rs ∨ ∃ j, j < i ∧ r.1 = fa j ∧ r.2.1 = fb j)) ⟨ts, rs, _, none, rfl, s2, hpl, htl, hpr, hg, by omega, fun r hr1 => .inl hr1⟩ ?_ ?_
      · rintro i σ H3 hi ⟨ts', rs', v4', v6, rfl, s3, hpl3, htl3, hpr3, hg3, hl3, hw3⟩
        have hi175 : i < 175 := by omega
        have hs3 : SqL K H3 l (ns.map V.int) := s3.seq hs
        have lts := Paired.length hpr3
        have eA : Str.ofString "aa" ++ (⟨#[((0 + (i : Int)) % 25).toNat + 97]⟩ : Str) = fa i := by
          unfold fa
          rw [show ((0 + (i : Int)) % 25).toNat = i % 25 by omega]
        have eB : Str.ofString "bb" ++ (⟨#[((0 + (i : Int)) / 25).toNat + 97]⟩ : Str) = fb i := by
          unfold fb
          rw [show ((0 + (i : Int)) / 25).toNat = i / 25 by omega]
        walk_at "s"
        refine ⟨_, _, _, rfl, rfl, abc_len, abc_at (by omega) (by omega), ?_⟩
        walk_at "s"
        refine ⟨(by show 2 + 1 ≤ sizeLine; decide), ?_⟩
        walk_at "s"
        refine ⟨_, _, _, rfl, rfl, abc_len, abc_at (by omega) (by omega), ?_⟩
        walk_at "s"
        refine ⟨(by show 2 + 1 ≤ sizeLine; decide), ?_⟩
        rw [eA, eB]
        refine ⟨(by show 2 ≤ sizeLine; decide), fun t ht => ?_⟩
        have s4 : Same H3 (upd H3 t (.tup [.str (fa i), .str (fb i)])) := same_new ht
        have h4 : upd H3 t (.tup [.str (fa i), .str (fb i)]) t = some (.tup [.str (fa i), .str (fb i)]) := upd_same
        revert s4 h4
        generalize upd H3 t (.tup [.str (fa i), .str (fb i)]) = H4
        intro s4 h4
        have hs4 := s4.seq hs3
        have hpl4 := s4 _ _ hpl3
        have htl4 := s4 _ _ htl3
        have hq4 : SqL K H4 p (ts'.map V.ref) := SqL.of hpl4
        have hpr4 : Paired (IsRow H4) ts' rs' := Paired.mapP hpr3 fun _ _ h => s4 _ _ h
        have stay : ∃ ts'' rs'' v4 v6, ([some (.ref l), some (.ref nl), some (.ref p), some (.ref td), some (.int (0 + (i : Int))), some (.str abc), some (.ref t)] : L2.St) = [some (.ref l), some (.ref nl), some (.ref p), some (.ref td), v4, some (.str abc), v6] ∧ Same H H4 ∧ H4 p = some (.lst (ts''.map V.ref)) ∧ H4 td = some (.dT (toldK rs)) ∧ Paired (IsRow H4) ts'' rs'' ∧ GoodRows rs'' ∧ rs''.length ≤ 160 ∧
            (∀ r ∈ rs'', r ∈ rs ∨ ∃ j, j < i + 1 ∧ r.1 = fa j ∧ r.2.1 = fb j) := ⟨ts', rs', _, _, rfl, Same.trans s3 s4, hpl4, htl4, hpr4, hg3, hl3, fun r hr1 => (hw3 r hr1).imp id fun ⟨j, hj, e⟩ => ⟨j, by omega, e⟩⟩
        walk_at "s"
        refine ifD (fun c1 => ?_) (fun c1 => stay)
        walk_at "s"
        refine ifD (fun c2 => ?_) (fun c2 => stay)
        rw [List.length_map] at c2
        walk_at "s"
        refine ⟨td, _, rfl, DGet.t (k := wayK (fa i) (fb i)) htl4 h4, ?_⟩
        walk_at "s"
        refine ifNB (fun c3 => ?_) (fun c3 => stay)
        have cn : valV (toldK rs) (wayK (fa i) (fb i)) = none := by simpa using c3
        have hnew0 := way_new (fun _ => V.bl true) cn
        have hnew : (fa i, fb i) ∉ rs'.map fun r => (r.1, r.2.1) := fun hm => by
          obtain ⟨r, hr1, er⟩ := List.mem_map.mp hm
          rcases hw3 r hr1 with h | ⟨j, hj, ej1, ej2⟩
          · exact hnew0 (List.mem_map.mpr ⟨r, h, er⟩)
          · have := f_inj (k := j) (l := i) (by rw [← ej1]; exact (Prod.mk.inj er).1) (by rw [← ej2]; exact (Prod.mk.inj er).2)
            omega
        walk_at "s"
        refine ⟨.inl ⟨rfl, _, hq4⟩, ?_⟩
        walk_at "s"
        refine ⟨_, _, _, _, rfl, rfl, SqT.of h4, rfl, ?_⟩
        walk_at "s"
        refine ⟨_, _, _, _, rfl, rfl, SqT.of h4, rfl, ?_⟩
        walk_at "s"
        refine ⟨(by show 3 ≤ sizeLine; decide), fun v hv => ?_⟩
        have s6 : Same H4 (upd H4 v (.tup [.str (fa i), .str (fb i), .int (0 + (i : Int))])) := same_new hv
        have h6 : upd H4 v (.tup [.str (fa i), .str (fb i), .int (0 + (i : Int))]) v = some (.tup [.str (fa i), .str (fb i), .int (0 + (i : Int))]) := upd_same
        revert s6 h6
        generalize upd H4 v (.tup [.str (fa i), .str (fb i), .int (0 + (i : Int))]) = H6
        intro s6 h6
        have hpl6 := s6 _ _ hpl4
        refine ⟨_, _, _, rfl, rfl, hpl6, szlt (by rw [List.length_map]; omega), ?_⟩
        have hpr6 : Paired (IsRow H6) ts' rs' := Paired.mapP hpr4 fun t r h => s6 _ _ h
        refine ⟨ts' ++ [v], rs' ++ [(fa i, fb i, 0 + (i : Int))], _, _, rfl, ?_, ?_, ?_, ?_, ?_, ?_, ?_⟩
        · exact same_mut (Same.trans s3 (Same.trans s4 s6)) hp
        · rw [upd_same, List.map_append]; rfl
        · rw [upd_ne npt.symm]; exact s6 _ _ htl4
        · refine Paired.snoc (Paired.mapP hpr6 fun t r h => ?_) ?_
          · show upd _ _ _ _ = _
            rw [upd_ne (ne_of h hpl6 (by intro z; cases z))]; exact h
          · show upd _ _ _ _ = _
            rw [upd_ne (ne_of h6 hpl6 (by intro z; cases z))]; exact h6
        · refine good_snoc hg3 ⟨fa_isP i, fb_isP hi175, fa_ne_fb i i, ?_⟩ hnew
          show (decide (0 ≤ 0 + (i : Int)) && decide (0 + (i : Int) ≤ 1000000000000)) = true
          rw [decide_eq_true (by omega), decide_eq_true (by omega)]; rfl
        · rw [List.length_append]; simp; omega
        · intro r hr2
          rcases List.mem_append.mp hr2 with h | h
          · exact (hw3 r h).imp id fun ⟨j, hj, e⟩ => ⟨j, by omega, e⟩
          · rw [List.mem_singleton.mp h]
            exact .inr ⟨i, by omega, rfl, rfl⟩
      · rintro σ H3 ⟨ts', rs', v4', v6, rfl, s3, hpl3, htl3, hpr3, hg3, hl3, hw3⟩
        walk_at "s"
        refine q p H3 ts' rs' hp s3 hpl3 hpr3 hg3 hl3 fun r hr1 hm => ?_
        rcases hw3 r hr1 with h | ⟨j, _, e1, e2⟩
        · obtain ⟨j, hj, e, _⟩ := hw9 r h
          have := name_inj (by omega) (by omega) (show nameOf c j = nameOf c 20 by rw [← e, ← hm.1])
          omega
        · exact no_aabb ⟨by rw [← e1]; exact hm.1, by rw [← e2]; exact hm.2⟩
end
end Fb

namespace Fb
open PySem PySem.Spec PyProof.Rows L2
local macro_rules | `(tactic| walk_at "s") => `(tactic| repeat (first | refine ⟨_, rfl, ?_⟩ | refine ⟨_, _, rfl, rfl, ?_⟩ | refine ⟨_, _, rfl, Or.inl (by assumption), ?_⟩ | refine ⟨rfl, ?_⟩ | refine ⟨(by decide : (0 : Int) < _), ?_⟩ | refine ⟨⟨by decide, by decide⟩, ?_⟩ | refine ⟨_, _, _, rfl, (by assumption), (by first | decide | omega), ?_⟩))
theorem ix_tupS {X : Cx} {K : PySem.W.Frag} (hK : X.K = K := by rfl) : IxR X (rIxT K) := hK ▸ ix_tup
def dueW : Nat → Str
  | 0 => Str.ofString ""
  | 1 => Str.ofString "place"
  | 2 => Str.ofString "price"
  | 3 => Str.ofString "twice"
  | _ => Str.ofString "many"
def hitR (rs : List Row) (x y : Str) (i : Nat) : Bool := match rs[i]? with
  | some r => decide (r.1 = x) && decide (r.2.1 = y)
  | none => false
def prAt (rs : List Row) (i : Nat) : V := match rs[i]? with
  | some r => .int r.2.2
  | none => .non
theorem hitR_at {rs : List Row} {x y : Str} {i : Nat} {r : Row} (h : rs[i]? = some r) : hitR rs x y i = (decide (r.1 = x) && decide (r.2.1 = y)) := by unfold hitR; rw [h]
theorem prAt_at {rs : List Row} {i : Nat} {r : Row} (h : rs[i]? = some r) : prAt rs i = .int r.2.2 := by unfold prAt; rw [h]
theorem told_iff {rs : List Row} {x y : Str} : isTold rs (.str x) (.str y) = true ↔ (x, y) ∈ rs.map fun r => (r.1, r.2.1) := by
  have e : isTold rs (.str x) (.str y) = (valV (rs.map fun r => (wayK r.1 r.2.1, V.int r.2.2)) (wayK x y)).isSome := rfl
  rw [e]
  constructor
  · intro h
    exact Classical.byContradiction fun n => by rw [way_none (fun r => V.int r.2.2) n] at h; cases h
  · intro h
    cases e2 : valV (rs.map fun r => (wayK r.1 r.2.1, V.int r.2.2)) (wayK x y) with
    | none => exact absurd h (way_new (fun r => V.int r.2.2) e2)
    | some v => rfl
theorem told_pick {rs : List Row} {x y : Str} {f : Nat → V} : (pick (hitR rs x y) f rs.length).isEmpty = !isTold rs (.str x) (.str y) := by
  cases h : isTold rs (.str x) (.str y) with
  | true =>
    obtain ⟨r, hr, e⟩ := List.mem_map.mp (told_iff.mp h)
    obtain ⟨i, hi⟩ := List.getElem?_of_mem hr
    cases h2 : (pick (hitR rs x y) f rs.length).isEmpty with
    | false => rfl
    | true =>
      have h3 := pick_nil.mp h2 i (List.getElem?_eq_some_iff.mp hi).1
      rw [hitR_at hi, decide_eq_true (Prod.mk.inj e).1, decide_eq_true (Prod.mk.inj e).2] at h3
      cases h3
  | false =>
    refine pick_nil.mpr fun i hi => ?_
    have e1 : rs[i]? = some rs[i] := List.getElem?_eq_getElem hi
    rw [hitR_at e1]
    cases h2 : (decide (rs[i].1 = x) && decide (rs[i].2.1 = y)) with
    | false => rfl
    | true =>
      simp only [Bool.and_eq_true, decide_eq_true_eq] at h2
      have := told_iff.mpr (List.mem_map.mpr ⟨rs[i], List.getElem_mem hi, by rw [h2.1, h2.2]⟩)
      rw [h] at this; cases this
def spDue (K : PySem.W.Frag) : Sp := fun vs H Q _ => ∃ (t r : Addr) (v1 v2 v3 : V) (ts : List Addr) (rs : List Row), vs = [.ref t, .ref r] ∧ SqT K H t [v1, v2, v3] ∧ ask v1 ∧ ask v2 ∧ ask v3 ∧ SqL K H r (ts.map V.ref) ∧ Paired (IsRow H) ts rs ∧ rs.length ≤ 1000 ∧
  ∀ H', Same H H' → Q (.str (dueW (putDue rs v1 v2 v3))) H'
abbrev s__law_due : Stmt := topS 23
abbrev N__law_due : List Str := ["_law_row", "_law_rows_here", "_law_one"]
theorem sc__law_due : FnScope N__law_due ["_law_row", "_law_rows_here"] (defScope s__law_due) := ⟨rfl, rfl, rfl, by decide +kernel, rfl, by decide +kernel, by decide +kernel⟩
section
variable {Pg : Program} {w : World} {K : PySem.W.Frag} {mg : Str → Option Value} {base : Heap} {a : Ads}
theorem ok_due {f : Addr} {fd : FuncData} (F : Fun K "_law_due" "_law_due" s__law_due f fd) (T : Txt K mg a) (D_law_is_place : Dn Pg w K mg base 1 "_law_is_place" ["_law_thing"] spLIsPlace) (D_law_is_price : Dn Pg w K mg base 1 "_law_is_price" ["_law_thing"] spIsPrice) :
    FnOk Pg w K mg base (L2N.CX Pg w) 2 f fd ["_law_row", "_law_rows_here"] (spDue K) := by
  refine F.okN sc__law_due (fun vs H Q E h => ?_) (fun cdv A outer s H vs Q E hr h => ?_)
  · obtain ⟨_, _, _, _, _, _, _, rfl, _⟩ := h
    rfl
  · obtain ⟨t, r, v1, v2, v3, ts, rs, rfl, ht, a1, a2, a3, hrl, hpr, hlen, q⟩ := h
    have lts := Paired.length hpr
    refine ⟨_, (pss_cons (ps_if (PW.pt (pw_or (pt_not (pt_val (pe_fnS D_law_is_place (hr.mono (by decide)) passC (pa_cons (pe_ix ix_tup (pv 0) pe_int (fun _ _ => rfl)) pa_nil)))) (pw_or (pt_not (pt_val (pe_fnS D_law_is_place (hr.mono (by decide)) passC (pa_cons (pe_ix ix_tup (pv 0) pe_int (fun _ _ => rfl)) pa_nil)))) (pw_or1 (pt_cmpR op_eq (pe_ix ix_tup (pv 0) pe_int (fun _ _ => rfl)) (pe_ix ix_tup (pv 0) pe_int (fun _ _ => rfl)) (nomark _)))))) (pss_one (ps_ret pe_str)) pss_nil)
      (pss_cons (ps_if (pt_not (pt_val (pe_fnS D_law_is_price (hr.mono (by decide)) passC (pa_cons (pe_ix ix_tup (pv 0) pe_int (fun _ _ => rfl)) pa_nil)))) (pss_one (ps_ret pe_str)) pss_nil)
      (pss_cons (ps_if (pt_cmpR (op_neD hr.units) (pe_lc (own := [("_law_one", 2)]) (g := (gName 2)) (tt := _) rfl sc__law_due.nd (pi_list (pv 1)) (blkOk_by (own := [("_law_one", 2)]) (N := N__law_due) (sc := (defScope s__law_due)) (by decide +kernel)) (fun _ _ _ _ _ => (pg_name (i := 2) sc__law_due.nd rfl (by first | exact Or.inl rfl | exact Or.inr rfl))) (fun _ _ _ _ _ => pts_one (PW.pt (pw_and (pt_cmpR op_eq (pe_ix (ix_tupS (K := K)) (pv 2) pe_int (fun _ _ => rfl)) (pe_ix (ix_tupS (K := K)) (pv 0) pe_int (fun _ _ => rfl)) (nomark _)) (pw_and1 (pt_cmpR op_eq (pe_ix (ix_tupS (K := K)) (pv 2) pe_int (fun _ _ => rfl)) (pe_ix (ix_tupS (K := K)) (pv 0) pe_int (fun _ _ => rfl)) (nomark _)))))) (fun _ _ _ _ _ => pe_int)) (pe_lst pa_nil) (nomark _)) (pss_one (ps_ret pe_str)) pss_nil)
      (pss_one (ps_ret (pe_ix ix_list (pe_lst (pa_cons pe_str (pa_cons pe_str pa_nil))) (pe_callTy call_int1 (by rfl) T.n_int (by decide +kernel) (pa_cons (pe_cmpR op_ge (pe_callB call_len_seq (by rfl) T.n_len (by decide +kernel) (pa_cons (pv 1) pa_nil)) pe_int (nomark _)) pa_nil)) (fun _ _ => rfl))))))), ?_⟩
    walk_at "s"
    refine ⟨_, _, _, _, rfl, rfl, ht, rfl, ?_⟩
    refine ⟨_, rfl, a1, fun H1 s1 => ?_⟩
    walk_at "s"
    refine ifNB (fun c1 => ?_) (fun c1 => ?_)
    · have e : putDue rs v1 v2 v3 = 1 := by unfold putDue; rw [c1]; rfl
      rw [e] at q
      walk_at "s"
      exact q _ s1
    have ht1 := same_t s1 ht
    walk_at "s"
    refine ⟨_, _, _, _, rfl, rfl, ht1, rfl, ?_⟩
    refine ⟨_, rfl, a2, fun H2 s2 => ?_⟩
    walk_at "s"
    have s12 := Same.trans s1 s2
    refine ifNB (fun c2 => ?_) (fun c2 => ?_)
    · have e : putDue rs v1 v2 v3 = 1 := by unfold putDue; rw [if_pos c1, c2]; rfl
      rw [e] at q
      walk_at "s"
      exact q _ s12
    obtain ⟨z1, rfl⟩ := isP_str c1
    obtain ⟨z2, rfl⟩ := isP_str c2
    have ht2 := same_t s12 ht
    walk_at "s"
    refine ⟨_, _, _, _, rfl, rfl, ht2, rfl, ?_⟩
    walk_at "s"
    refine ⟨_, _, _, _, rfl, rfl, ht2, rfl, ?_⟩
    walk_at "s"
    refine ifD (fun c3 => ?_) (fun c3 => ?_)
    · have e : putDue rs (.str z1) (.str z2) v3 = 1 := by unfold putDue; rw [if_pos c1, if_pos c2, if_pos c3]
      rw [e] at q
      walk_at "s"
      exact q _ s12
    walk_at "s"
    refine ⟨_, _, _, _, rfl, rfl, ht2, rfl, ?_⟩
    refine ⟨_, rfl, a3, ?_⟩
    walk_at "s"
    refine ifNB (fun c4 => ?_) (fun c4 => ?_)
    · have e : putDue rs (.str z1) (.str z2) v3 = 2 := by unfold putDue; rw [if_pos c1, if_pos c2, if_neg c3, c4]; rfl
      rw [e] at q
      walk_at "s"
      exact q _ s12
    have hrl2 := s12.seq hrl
    have hpr2 : Paired (IsRow H2) ts rs := rows_same s12 hpr
    walk_at "s"
    refine ⟨⟨_, hrl2⟩, fun D hD => ?_⟩
    refine lc_pick (K := K) (xs := ts.map V.ref) (hitR rs z1 z2) (fun _ => .int 1) hD hrl2 (by rw [List.length_map]; omega) (fun v => rfl) ?_ ?_ ?_
    · intro i x H3 hi s3 Q2 q2
      rw [List.getElem?_map] at hi
      obtain ⟨u, hu1, rfl⟩ := Option.map_eq_some_iff.mp hi
      obtain ⟨rr, hr1, hrow⟩ := paired_at hpr2 hu1
      have hrow3 := s3 _ _ hrow
      have ht3 := same_t s3 ht2
      rw [hitR_at hr1] at q2
      walk_at "s"
      refine ⟨_, _, _, _, rfl, rfl, SqT.of hrow3, rfl, ?_⟩
      walk_at "s"
      refine ⟨_, _, _, _, rfl, rfl, ht3, rfl, ?_⟩
      walk_at "s"
      refine ifD (fun d1 => ?_) (fun d1 => ?_)
      · rw [decide_eq_true (V.str.inj d1), Bool.true_and] at q2
        walk_at "s"
        refine ⟨_, _, _, _, rfl, rfl, SqT.of hrow3, rfl, ?_⟩
        walk_at "s"
        refine ⟨_, _, _, _, rfl, rfl, ht3, rfl, ?_⟩
        walk_at "s"
        rw [show decide (V.str rr.2.1 = V.str z2) = decide (rr.2.1 = z2) from decide_eq_decide.mpr ⟨V.str.inj, fun e => congrArg V.str e⟩]
        exact q2 _ (Same.refl _)
      · rw [decide_eq_false (fun e => d1 (congrArg V.str e)), Bool.false_and] at q2
        exact q2 _ (Same.refl _)
    · intro i x H3 hi s3 Q2 q2
      exact q2 _ (Same.refl _)
    · intro H3 s3 hDl
      rw [List.length_map, lts] at hDl
      walk_at "s"
      refine ⟨Nat.zero_le _, fun D2 hD2 => ?_⟩
      have hf : ∀ v ∈ pick (hitR rs z1 z2) (fun _ => V.int 1) rs.length, flat v := fun v hv => by
        obtain ⟨_, _, rfl⟩ := List.mem_map.mp hv
        exact .inr (.inr (.inl ⟨_, rfl⟩))
      have s4 : Same H3 (upd H3 D2 (.lst [])) := same_new hD2
      have hrl4 := (Same.trans s3 s4).seq hrl2
      have sall := Same.trans s12 (Same.trans s3 s4)
      refine ⟨_, .list [], .lst (SqL.of (s4 _ _ hDl)) (dpAll_flat hf), .lst (SqL.of upd_same) .nil, shaped_list hf, shaped_list (xs := []) (fun v hv => by cases hv), ?_⟩
      rw [eqv_nil, told_pick, Bool.not_not]
      revert s4 hrl4 sall
      generalize upd H3 D2 (.lst []) = H4
      intro s4 hrl4 sall
      walk_at "s"
      refine ifB (fun c5 => ?_) (fun c5 => ?_)
      · have e : putDue rs (.str z1) (.str z2) v3 = 3 := by unfold putDue; rw [if_pos c1, if_pos c2, if_neg c3, if_pos c4, if_pos c5]
        rw [e] at q
        walk_at "s"
        exact q _ sall
      · have e : putDue rs (.str z1) (.str z2) v3 = if 160 ≤ rs.length then 4 else 0 := by unfold putDue; rw [if_pos c1, if_pos c2, if_neg c3, if_pos c4, if_neg (by rw [c5]; exact Bool.false_ne_true)]
        rw [e] at q
        walk_at "s"
        refine ⟨(by show 2 ≤ sizeLine; decide), fun D3 hD3 => ?_⟩
        have s5 : Same H4 (upd H4 D3 (.lst [.str (Str.ofString ""), .str (Str.ofString "many")])) := same_new hD3
        have h5 : SqL K (upd H4 D3 (.lst [.str (Str.ofString ""), .str (Str.ofString "many")])) D3 [.str (Str.ofString ""), .str (Str.ofString "many")] := SqL.of upd_same
        have hrl5 := s5.seq hrl4
        have sall5 := Same.trans sall s5
        revert h5 hrl5 sall5 s5
        generalize upd H4 D3 (.lst [.str (Str.ofString ""), .str (Str.ofString "many")]) = H5
        intro s5 h5 hrl5 sall5
        walk_at "s"
        rw [List.length_map, lts]
        refine .inr ⟨_, rfl, ?_⟩
        by_cases h160 : 160 ≤ rs.length
        · rw [if_pos h160] at q
          rw [decide_eq_true (show (160 : Int) ≤ (rs.length : Int) by omega)]
          walk_at "s"
          refine ⟨_, _, _, _, rfl, rfl, h5, rfl, ?_⟩
          exact q _ sall5
        · rw [if_neg h160] at q
          rw [decide_eq_false (show ¬ (160 : Int) ≤ (rs.length : Int) by omega)]
          walk_at "s"
          refine ⟨_, _, _, _, rfl, rfl, h5, rfl, ?_⟩
          exact q _ sall5
end
end Fb

namespace Fb
open PySem PySem.Spec PyProof.Rows L2
local macro_rules | `(tactic| walk_at "s") => `(tactic| repeat (first | refine ⟨_, rfl, ?_⟩ | refine ⟨_, _, rfl, rfl, ?_⟩ | refine ⟨_, _, rfl, Or.inl (by assumption), ?_⟩ | refine ⟨rfl, ?_⟩ | refine ⟨(by decide : (0 : Int) < _), ?_⟩ | refine ⟨⟨by decide, by decide⟩, ?_⟩ | refine ⟨_, _, _, rfl, (by assumption), (by first | decide | omega), ?_⟩))
/-! ### which of the told classes an error is of -/
structure ErrN (K : PySem.W.Frag) (a : Ads) (n : Nat) (C : Addr) : Prop where
  i : ExcC K C
  v : PySem.W.kitOne K (.ref C) (.type "ValueError") = some true
  k1 : PySem.W.kitOne K (.ref C) (.ref a.BadPlace) = some (decide (n = 1))
  k2 : PySem.W.kitOne K (.ref C) (.ref a.BadPrice) = some (decide (n = 2))
  k3 : PySem.W.kitOne K (.ref C) (.ref a.TwiceTold) = some (decide (n = 3))
  k4 : PySem.W.kitOne K (.ref C) (.ref a.TooMany) = some (decide (n = 4))
theorem errN_of {K : PySem.W.Frag} {mg : Str → Option Value} {a : Ads} (T : Txt K mg a) {n : Nat} (h0 : 1 ≤ n) (h1 : n ≤ 4) : ErrN K a n (errOf a n) := by
  have h : n = 1 ∨ n = 2 ∨ n = 3 ∨ n = 4 := by omega
  rcases h with rfl | rfl | rfl | rfl
  · exact ⟨T.i_BadPlace, T.v_BadPlace, T.k_BadPlace_BadPlace, T.k_BadPlace_BadPrice, T.k_BadPlace_TwiceTold, T.k_BadPlace_TooMany⟩
  · exact ⟨T.i_BadPrice, T.v_BadPrice, T.k_BadPrice_BadPlace, T.k_BadPrice_BadPrice, T.k_BadPrice_TwiceTold, T.k_BadPrice_TooMany⟩
  · exact ⟨T.i_TwiceTold, T.v_TwiceTold, T.k_TwiceTold_BadPlace, T.k_TwiceTold_BadPrice, T.k_TwiceTold_TwiceTold, T.k_TwiceTold_TooMany⟩
  · exact ⟨T.i_TooMany, T.v_TooMany, T.k_TooMany_BadPlace, T.k_TooMany_BadPrice, T.k_TooMany_TwiceTold, T.k_TooMany_TooMany⟩
theorem err_exm {K : PySem.W.Frag} {mg : Str → Option Value} {a : Ads} (T : Txt K mg a) {n : Nat} (h0 : 1 ≤ n) (h1 : n ≤ 4) : PySem.W.exmOne K (.ref (errOf a n)) (.ref a.FareError) = some true := by
  have h : n = 1 ∨ n = 2 ∨ n = 3 ∨ n = 4 := by omega
  rcases h with rfl | rfl | rfl | rfl
  · exact T.e_BadPlace
  · exact T.e_BadPrice
  · exact T.e_TwiceTold
  · exact T.e_TooMany
theorem putDue_le (rs : List Row) (x y z : V) : putDue rs x y z ≤ 4 := by
  unfold putDue
  repeat' split
  all_goals omega
theorem takeRows_le : ∀ (gs : List (V × V × V)) (rs : List Row), (takeRows rs gs).1 ≤ 4
  | [], rs => Nat.zero_le _
  | (x, y, z) :: r, rs => by
    show (if putDue rs x y z = 0 then takeRows (rs ++ [mkRow x y z]) r else (putDue rs x y z, rs)).1 ≤ 4
    split
    · exact takeRows_le r _
    · exact putDue_le rs x y z
def fourB (n : Nat) : List Bool := [decide (n = 1), decide (n = 2), decide (n = 3), decide (n = 4)]
def spSaid (a : Ads) : SpE := fun e C vs H Q _ => ∃ n : Nat, vs = [.ref e] ∧ C = errOf a n ∧ 1 ≤ n ∧ n ≤ 4 ∧ ∀ H', Same H H' → Q (.str (dueW n)) H'
abbrev s__law_said : Stmt := topS 24
abbrev N__law_said : List Str := ["_law_error", "_law_found", "_law_one"]
theorem sc__law_said : FnScope N__law_said ["_law_error"] (defScope s__law_said) := ⟨rfl, rfl, rfl, by decide +kernel, rfl, by decide +kernel, by decide +kernel⟩
section
variable {Pg : Program} {w : World} {K : PySem.W.Frag} {mg : Str → Option Value} {base : Heap} {a : Ads}
theorem ok_said {f : Addr} {fd : FuncData} (F : Fun K "_law_said" "_law_said" s__law_said f fd) (T : Txt K mg a) : FnE Pg w K mg base 1 f fd ["_law_error"] (spSaid a) := by
  refine okE F sc__law_said (fun e C vs H Q E h => ?_) (fun cdv A outer s H vs Q E p C hh er hr h => ?_)
  · obtain ⟨_, rfl, _⟩ := h
    rfl
  · obtain ⟨n, rfl, rfl, n0, n1, q⟩ := h
    have N := errN_of T n0 n1
    refine ⟨_, (pss_cons (ps_set (i := 1) sc__law_said.nd rfl (by first | exact Or.inl rfl | exact Or.inr rfl) (pe_lst (pa_cons (pe_callB (call_isP List.mem_cons_self er.zc er.fields) (by rfl) T.n_isinstance (by decide +kernel) (pa_cons (pv 0) (pa_cons (pe_cls T.x_BadPlace.g) pa_nil))) (pa_cons (pe_callB (call_isP List.mem_cons_self er.zc er.fields) (by rfl) T.n_isinstance (by decide +kernel) (pa_cons (pv 0) (pa_cons (pe_cls T.x_BadPrice.g) pa_nil))) (pa_cons (pe_callB (call_isP List.mem_cons_self er.zc er.fields) (by rfl) T.n_isinstance (by decide +kernel) (pa_cons (pv 0) (pa_cons (pe_cls T.x_TwiceTold.g) pa_nil))) pa_nil)))))
      (pss_cons (ps_expr (pe_bm PySem.F.plainAttrs_list PySem.F.slot_list_append PySem.F.type_list_append mt_append (pv 1) (pa_cons (pe_callB (call_isP List.mem_cons_self er.zc er.fields) (by rfl) T.n_isinstance (by decide +kernel) (pa_cons (pv 0) (pa_cons (pe_cls T.x_TooMany.g) pa_nil))) pa_nil)))
      (pss_cons (ps_if (PW.pt (pw_or (pt_not (pt_val (pe_callB (call_isP List.mem_cons_self er.zc er.fields) (by rfl) T.n_isinstance (by decide +kernel) (pa_cons (pv 0) (pa_cons (pe_bty (n := "ValueError") T.n_ValueError (by decide +kernel)) pa_nil))))) (pw_or1 (pt_cmpR op_ne (pe_callB (cr_sumA ⟨p, ⟨hh, er.ctx⟩, List.mem_cons_self⟩) (by rfl) T.n_sum (by decide +kernel) (pa_cons (pe_lcA (own := [("_law_one", 2)]) (g := (gName 2)) (tt := tYes) ⟨p, ⟨hh, er.ctx⟩, List.mem_cons_self⟩ sc__law_said.nd (pi_listA (pv 1)) (blkOk_by (own := [("_law_one", 2)]) (N := N__law_said) (sc := (defScope s__law_said)) (by decide +kernel)) (fun _ _ _ _ _ => (pg_name (i := 2) sc__law_said.nd rfl (by first | exact Or.inl rfl | exact Or.inr rfl))) (fun _ _ _ _ _ => pts_nil) (fun _ _ _ _ _ => (pe_callTy call_int1 (by rfl) T.n_int (by decide +kernel) (pa_cons (pv 2) pa_nil)))) pa_nil)) pe_int (nomark _))))) (pss_one (ps_ret pe_str)) pss_nil)
      (pss_one (ps_ret (pe_ix ix_list (pe_lst (pa_cons pe_str (pa_cons pe_str (pa_cons pe_str (pa_cons pe_str pa_nil))))) (pe_bm PySem.F.plainAttrs_list PySem.F.slot_list_index PySem.F.type_list_index mt_index (pv 1) (pa_cons pe_bl pa_nil)) (fun _ _ => rfl))))))), ?_⟩
    walk_at "s"
    refine ⟨_, _, _, _, rfl, rfl, rfl, N.i, rel_cls, N.k1, ?_⟩
    walk_at "s"
    refine ⟨_, _, _, _, rfl, rfl, rfl, N.i, rel_cls, N.k2, ?_⟩
    walk_at "s"
    refine ⟨_, _, _, _, rfl, rfl, rfl, N.i, rel_cls, N.k3, ?_⟩
    walk_at "s"
    refine ⟨(by show 3 ≤ sizeLine; decide), fun l hl => ?_⟩
    walk_at "s"
    refine ⟨.inl ⟨rfl, _, SqL.of upd_same⟩, ?_⟩
    walk_at "s"
    refine ⟨_, _, _, _, rfl, rfl, rfl, N.i, rel_cls, N.k4, ?_⟩
    walk_at "s"
    refine ⟨_, _, _, rfl, rfl, upd_same, (by show 3 < sizeLine; decide), ?_⟩
    have s1 : Same H (upd (upd H l (.lst [V.bl (decide (n = 1)), V.bl (decide (n = 2)), V.bl (decide (n = 3))])) l (.lst ([V.bl (decide (n = 1)), V.bl (decide (n = 2)), V.bl (decide (n = 3))] ++ [V.bl (decide (n = 4))]))) := same_mut (same_new hl) hl
    have h1 : SqL K (upd (upd H l (.lst [V.bl (decide (n = 1)), V.bl (decide (n = 2)), V.bl (decide (n = 3))])) l (.lst ([V.bl (decide (n = 1)), V.bl (decide (n = 2)), V.bl (decide (n = 3))] ++ [V.bl (decide (n = 4))]))) l ((fourB n).map V.bl) := SqL.of upd_same
    revert s1 h1
    generalize upd (upd H l (.lst [V.bl (decide (n = 1)), V.bl (decide (n = 2)), V.bl (decide (n = 3))])) l (.lst ([V.bl (decide (n = 1)), V.bl (decide (n = 2)), V.bl (decide (n = 3))] ++ [V.bl (decide (n = 4))])) = H1
    intro s1 h1
    walk_at "s"
    refine ⟨_, _, _, _, rfl, rfl, rfl, N.i, rel_ty, N.v, ?_⟩
    walk_at "s"
    refine ⟨⟨_, h1⟩, fun D hD => ?_⟩
    refine lc_listR (K := K) (xs := (fourB n).map V.bl) (fun i v _ => ∃ b, (fourB n)[i]? = some b ∧ v = .int (if b = true then 1 else 0)) (fun _ _ _ _ _ r => r) hD h1 (by show 4 ≤ 100000; decide) (fun v => rfl) ?_ ?_
    · intro i x H2 acc hi s2 hDl Q2 q2
      rw [List.getElem?_map] at hi
      obtain ⟨b, hb, rfl⟩ := Option.map_eq_some_iff.mp hi
      walk_at "s"
      exact .inr ⟨_, rfl, q2 _ _ (Same.refl _) ⟨b, hb, rfl⟩⟩
    · intro H2 ys s2 hDl hl2 hr2
      have e : ys = ((fourB n).map fun b => if b = true then (1 : Int) else 0).map V.int := by
        refine List.ext_getElem? fun i => ?_
        rw [List.map_map, List.getElem?_map]
        cases hy : ys[i]? with
        | none =>
          have h3 := List.getElem?_eq_none_iff.mp hy
          rw [List.getElem?_eq_none (by rw [hl2, List.length_map] at h3; exact h3)]
          rfl
        | some v =>
          obtain ⟨b, hb, rfl⟩ := hr2 i v hy
          rw [hb]; rfl
      rw [e] at hDl
      have hd2 : SqL K H2 D (((fourB n).map fun b => if b = true then (1 : Int) else 0).map V.int) := SqL.of hDl
      have es : ((fourB n).map fun b => if b = true then (1 : Int) else 0).sum = 1 := by
        have h : n = 1 ∨ n = 2 ∨ n = 3 ∨ n = 4 := by omega
        rcases h with rfl | rfl | rfl | rfl <;> decide
      walk_at "s"
      refine ⟨_, _, rfl, hd2, ?_⟩
      rw [es]
      walk_at "s"
      refine ⟨(by show 4 ≤ sizeLine; decide), fun g hg => ?_⟩
      have s3 : Same H2 (upd H2 g (.lst [.str (Str.ofString "place"), .str (Str.ofString "price"), .str (Str.ofString "twice"), .str (Str.ofString "many")])) := same_new hg
      have h3 : SqL K (upd H2 g (.lst [.str (Str.ofString "place"), .str (Str.ofString "price"), .str (Str.ofString "twice"), .str (Str.ofString "many")])) g [.str (Str.ofString "place"), .str (Str.ofString "price"), .str (Str.ofString "twice"), .str (Str.ofString "many")] := SqL.of upd_same
      have h13 := (Same.trans s2 s3).seq h1
      have sall := Same.trans s1 (Same.trans s2 s3)
      revert h3 h13 sall
      generalize upd H2 g (.lst [.str (Str.ofString "place"), .str (Str.ofString "price"), .str (Str.ofString "twice"), .str (Str.ofString "many")]) = H3
      intro h3 h13 sall
      have qq := q _ sall
      walk_at "s"
      refine ⟨.inl ⟨rfl, _, h13⟩, ?_⟩
      walk_at "s"
      have h : n = 1 ∨ n = 2 ∨ n = 3 ∨ n = 4 := by omega
      rcases h with rfl | rfl | rfl | rfl
      · exact ⟨_, _, _, 0, _, rfl, rfl, h13, rfl, rfl, rfl, rfl, fun m z hm => absurd hm (Nat.not_lt_zero _), _, _, _, _, rfl, rfl, h3, rfl, qq⟩
      · exact ⟨_, _, _, 1, _, rfl, rfl, h13, rfl, rfl, rfl, rfl, (fun m z hm e => by have h0 : m = 0 := (by omega); subst h0; cases e; rfl), _, _, _, _, rfl, rfl, h3, rfl, qq⟩
      · exact ⟨_, _, _, 2, _, rfl, rfl, h13, rfl, rfl, rfl, rfl, (fun m z hm e => by have h0 : m = 0 ∨ m = 1 := (by omega); rcases h0 with rfl | rfl <;> cases e <;> rfl), _, _, _, _, rfl, rfl, h3, rfl, qq⟩
      · exact ⟨_, _, _, 3, _, rfl, rfl, h13, rfl, rfl, rfl, rfl, (fun m z hm e => by have h0 : m = 0 ∨ m = 1 ∨ m = 2 := (by omega); rcases h0 with rfl | rfl | rfl <;> cases e <;> rfl), _, _, _, _, rfl, rfl, h3, rfl, qq⟩
end
end Fb

namespace Fb
open PySem PySem.Spec PyProof.Rows L2
local macro_rules | `(tactic| walk_at "s") => `(tactic| repeat (first | refine ⟨_, rfl, ?_⟩ | refine ⟨_, _, rfl, rfl, ?_⟩ | refine ⟨_, _, rfl, Or.inl (by assumption), ?_⟩ | refine ⟨rfl, ?_⟩ | refine ⟨(by decide : (0 : Int) < _), ?_⟩ | refine ⟨⟨by decide, by decide⟩, ?_⟩ | refine ⟨_, _, _, rfl, (by assumption), (by first | decide | omega), ?_⟩))
theorem roomE {j k : Nat} {A : Around} {v : Option Value} (r : Room k A) (h : j ≤ k) : L2H.RoomH j (A.mark v) := ⟨(r.mono h).dp, (r.mono h).un⟩
theorem cutV_take {xs : List V} {k : Nat} (h : k ≤ xs.length) : cutV xs none (some (k : Int)) = xs.take k := by
  unfold cutV
  rw [HT.sIx_none, HT.sIx_nat, List.drop_zero, Nat.min_eq_left h, Nat.sub_zero]
theorem cutV_drop {xs : List V} {k : Nat} (h : k ≤ xs.length) : cutV xs (some (k : Int)) none = xs.drop k := by
  unfold cutV
  rw [HT.sIx_none, HT.sIx_nat, Nat.min_eq_left h]
  exact List.take_of_length_le (by rw [List.length_drop]; exact Nat.le_refl _)
/-- what stands at t is a tuple of these three -/
def IsG (H : Hp) (t : Addr) (g : V × V × V) : Prop := H t = some (.tup [g.1, g.2.1, g.2.2])
theorem isG_given {K : PySem.W.Frag} {H : Hp} {ts : List Addr} {gs : List (V × V × V)} (h : Paired (IsG H) ts gs) : Paired (IsGiven K H) ts gs := Paired.mapP h fun _ _ e => SqT.of e
theorem isG_same {H H' : Hp} {ts : List Addr} {gs : List (V × V × V)} (s : Same H H') (h : Paired (IsG H) ts gs) : Paired (IsG H') ts gs := Paired.mapP h fun _ _ e => s _ _ e
theorem put_row {rs : List Row} {x y z : V} (h : putDue rs x y z = 0) : GoodRow (mkRow x y z) ∧ givenOf (mkRow x y z) = (x, y, z) ∧ ((mkRow x y z).1, (mkRow x y z).2.1) ∉ rs.map (fun r => (r.1, r.2.1)) ∧ rs.length < 160 := by
  unfold putDue at h
  cases c1 : isP x with
  | false => rw [c1] at h; cases h
  | true =>
    rw [if_pos c1] at h
    cases c2 : isP y with
    | false => rw [c2] at h; cases h
    | true =>
      rw [if_pos c2] at h
      obtain ⟨z1, rfl⟩ := isP_str c1
      obtain ⟨z2, rfl⟩ := isP_str c2
      by_cases c3 : V.str z1 = V.str z2
      · rw [if_pos c3] at h; cases h
      · rw [if_neg c3] at h
        cases c4 : isC z with
        | false => rw [c4] at h; cases h
        | true =>
          rw [if_pos c4] at h
          cases c5 : isTold rs (.str z1) (.str z2) with
          | true => rw [c5] at h; cases h
          | false =>
            rw [c5, if_neg Bool.false_ne_true] at h
            obtain ⟨i, rfl⟩ : ∃ i, z = .int i := by
              cases z with
              | int i => exact ⟨i, rfl⟩
              | _ => cases c4
            refine ⟨⟨c1, c2, fun e => c3 (congrArg V.str e), c4⟩, rfl, fun hm => ?_, ?_⟩
            · have := (told_iff (x := z1) (y := z2)).mpr hm
              rw [c5] at this
              cases this
            · by_cases c6 : 160 ≤ rs.length
              · rw [if_pos c6] at h; cases h
              · omega
theorem isG_row {H : Hp} {t : Addr} {x y z : V} {rs : List Row} (h : putDue rs x y z = 0) (e : IsG H t (x, y, z)) : IsRow H t (mkRow x y z) := by
  have h2 := (put_row h).2.1
  unfold IsG at e
  rw [← h2] at e
  exact e
theorem isG_of {H : Hp} {t : Addr} {r : Row} (h : IsRow H t r) : IsG H t (givenOf r) := h
def spLooked (K : PySem.W.Frag) (P : Addr) : Sp := fun vs H Q _ => ∃ (t : Addr) (v1 v2 v3 : V), vs = [.ref t] ∧ SqT K H t [v1, v2, v3] ∧ ask v1 ∧ ask v2 ∧ ask v3 ∧ H P = some (TabO P) ∧ ∀ H', Same H H' → Q (.bl true) H'
def spFirst (K : PySem.W.Frag) : Sp := fun vs H Q _ => ∃ (l : Addr) (ts : List Addr) (gs : List (V × V × V)), vs = [.ref l] ∧ SqL K H l (ts.map V.ref) ∧ Paired (IsG H) ts gs ∧ (∀ g ∈ gs, ask g.1 ∧ ask g.2.1 ∧ ask g.2.2) ∧ gs.length ≤ 400 ∧ ∀ H', Same H H' → Q (.str (dueW (takeRows [] gs).1)) H'
def spMade (K : PySem.W.Frag) (P : Addr) : Sp := fun vs H Q _ => ∃ (l : Addr) (ts : List Addr) (gs : List (V × V × V)), vs = [.ref l] ∧ H P = some (TabO P) ∧ SqL K H l (ts.map V.ref) ∧ Paired (IsG H) ts gs ∧ (∀ g ∈ gs, ask g.1 ∧ ask g.2.1 ∧ ask g.2.2) ∧ gs.length ≤ 400 ∧ ∀ H', Same H H' → Q (.str (dueW (takeRows [] gs).1)) H'
def putRows (rs : List Row) (x y z : V) : List Row := if putDue rs x y z = 0 then rs ++ [mkRow x y z] else rs
def spLPut (K : PySem.W.Frag) (a : Ads) (P : Addr) : Sp := fun vs H Q _ => ∃ (p d t : Addr) (v1 v2 v3 : V) (rs : List Row), vs = [.ref p, .ref t] ∧ SqT K H t [v1, v2, v3] ∧ ask v1 ∧ ask v2 ∧ ask v3 ∧ H P = some (TabO P) ∧ TarAt a.Tariff H p d rs ∧ rs.length ≤ 1000 ∧
  ∀ H', SameB d H H' → TarAt a.Tariff H' p d (putRows rs v1 v2 v3) → Q (.str (dueW (putDue rs v1 v2 v3))) H'
abbrev s__law_looked : Stmt := topS 28
abbrev N__law_looked : List Str := ["_law_row", "_law_thing", "_law_found", "_law_other"]
theorem sc__law_looked : FnScope N__law_looked ["_law_row"] (defScope s__law_looked) := ⟨rfl, rfl, rfl, by decide +kernel, rfl, by decide +kernel, by decide +kernel⟩
abbrev s__law_first : Stmt := topS 29
abbrev N__law_first : List Str := ["_law_rows_here", "_law_k"]
theorem sc__law_first : FnScope N__law_first ["_law_rows_here"] (defScope s__law_first) := ⟨rfl, rfl, rfl, by decide +kernel, rfl, by decide +kernel, by decide +kernel⟩
abbrev s__law_made : Stmt := topS 25
abbrev N__law_made : List Str := ["_law_rows_here", "_law_error"]
theorem sc__law_made : FnScope N__law_made ["_law_rows_here"] (defScope s__law_made) := ⟨rfl, rfl, rfl, by decide +kernel, rfl, by decide +kernel, by decide +kernel⟩
abbrev s__law_put : Stmt := topS 26
abbrev N__law_put : List Str := ["_law_tariff", "_law_row", "_law_found", "_law_error"]
theorem sc__law_put : FnScope N__law_put ["_law_tariff", "_law_row"] (defScope s__law_put) := ⟨rfl, rfl, rfl, by decide +kernel, rfl, by decide +kernel, by decide +kernel⟩
section
variable {Pg : Program} {w : World} {K : PySem.W.Frag} {mg : Str → Option Value} {base : Heap} {a : Ads}
theorem ok_looked {f P : Addr} {fd : FuncData} (F : Fun K "_law_looked" "_law_looked" s__law_looked f fd) (T : Txt K mg a) (D_is_place : Dn Pg w K mg base 2 "is_place" ["thing"] (spIsPlace P)) (D_is_price : Dn Pg w K mg base 1 "is_price" ["thing"] spIsPrice)
    (D_law_is_place : Dn Pg w K mg base 1 "_law_is_place" ["_law_thing"] spLIsPlace) (D_law_is_price : Dn Pg w K mg base 1 "_law_is_price" ["_law_thing"] spIsPrice) : FnOk Pg w K mg base (L2N.CX Pg w) 3 f fd ["_law_row"] (spLooked K P) := by
  refine F.okN sc__law_looked (fun vs H Q E h => ?_) (fun cdv A outer s H vs Q E hr h => ?_)
  · obtain ⟨_, _, _, _, rfl, _⟩ := h
    rfl
  · obtain ⟨t, v1, v2, v3, rfl, ht, a1, a2, a3, hP, q⟩ := h
    have PO : PassesOwn (model Pg w) (A.deeper (envOfC "_law_looked" (defScope s__law_looked) s.heap.objs.size f cdv)) (envOfC "_law_looked" (defScope s__law_looked) s.heap.objs.size f cdv) (cxOf (L2N.CX Pg w) Pg w K mg base N__law_looked "_law_looked" (defScope s__law_looked) f cdv A outer s H E).xe := passes_of rfl
    refine ⟨_, (pss_cons (ps_for PO rfl (pi_tup (pv 0)) (pg_name (i := 1) sc__law_looked.nd rfl (by first | exact Or.inl rfl | exact Or.inr rfl))
        (pss_cons (ps_set (i := 2) sc__law_looked.nd rfl (by first | exact Or.inl rfl | exact Or.inr rfl) (pe_fnS D_is_place (hr.mono (by decide)) passC (pa_cons (pv 1) pa_nil)))
          (pss_cons (ps_set (i := 3) sc__law_looked.nd rfl (by first | exact Or.inl rfl | exact Or.inr rfl) (pe_fnS D_is_price (hr.mono (by decide)) passC (pa_cons (pv 1) pa_nil)))
          (pss_cons (ps_if (PW.pt (pw_or (pt_not (pt_val (pe_callB call_isi (by rfl) T.n_isinstance (by decide +kernel) (pa_cons (pv 2) (pa_cons (pe_bty (n := "bool") T.n_bool (by decide +kernel)) pa_nil))))) (pw_or1 (pt_not (pt_val (pe_callB call_isi (by rfl) T.n_isinstance (by decide +kernel) (pa_cons (pv 3) (pa_cons (pe_bty (n := "bool") T.n_bool (by decide +kernel)) pa_nil)))))))) (pss_one (ps_ret pe_bl)) pss_nil)
          (pss_one (ps_if (PW.pt (pw_or (pt_cmpR op_ne (pv 2) (pe_fnS D_law_is_place (hr.mono (by decide)) passC (pa_cons (pv 1) pa_nil)) (nomark _)) (pw_or1 (pt_cmpR op_ne (pv 3) (pe_fnS D_law_is_price (hr.mono (by decide)) passC (pa_cons (pv 1) pa_nil)) (nomark _))))) (pss_one (ps_ret pe_bl)) pss_nil))))))
      (pss_one (ps_ret pe_bl))), ?_⟩
    have hask : ∀ v ∈ [v1, v2, v3], ask v := fun v hv => by
      simp only [List.mem_cons, List.not_mem_nil, or_false] at hv
      rcases hv with e | e | e <;> rw [e] <;> assumption
    walk_at "s"
    refine ⟨⟨_, ht⟩, for_tup (K := K) (a := t) (xs := [v1, v2, v3]) (fun i σ H' => ∃ u1 u2 u3, σ = [some (.ref t), u1, u2, u3] ∧ Same H H') ⟨none, none, none, rfl, Same.refl _⟩ (fun i σ H' _ ⟨_, _, _, _, s2⟩ => same_t s2 ht) ?_ ?_⟩
    · rintro i v σ H2 hi ⟨u1, u2, u3, rfl, s2⟩
      have av := hask v (List.mem_of_getElem? hi)
      walk_at "s"
      refine ⟨av, s2 _ _ hP, ?_⟩
      walk_at "s"
      refine ⟨av, ?_⟩
      walk_at "s"
      refine ⟨_, _, _, _, true, rfl, .ty "bool", .base (.bl _), kit_ty (by decide +kernel), ?_⟩
      walk_at "s"
      refine ⟨_, _, _, _, true, rfl, .ty "bool", .base (.bl _), kit_ty (by decide +kernel), ?_⟩
      walk_at "s"
      refine ⟨av, fun H3 s3 => ?_⟩
      walk_at "s"
      refine ifND (fun z => absurd rfl z) (fun _ => ?_)
      walk_at "s"
      refine ⟨av, ?_⟩
      walk_at "s"
      refine ifND (fun z => absurd rfl z) (fun _ => ?_)
      exact ⟨_, _, _, rfl, Same.trans s2 s3⟩
    · rintro σ H2 ⟨u1, u2, u3, rfl, s2⟩
      walk_at "s"
      exact q _ s2
theorem ok_first {f : Addr} {fd : FuncData} (F : Fun K "_law_first" "_law_first" s__law_first f fd) (T : Txt K mg a) (D_due : Dn Pg w K mg base 2 "_law_due" ["_law_row", "_law_rows_here"] (spDue K)) : FnOk Pg w K mg base (L2N.CX Pg w) 3 f fd ["_law_rows_here"] (spFirst K) := by
  refine F.okN sc__law_first (fun vs H Q E h => ?_) (fun cdv A outer s H vs Q E hr h => ?_)
  · obtain ⟨_, _, _, rfl, _⟩ := h
    rfl
  · obtain ⟨l, ts, gs, rfl, hl, hg, hask, hlen, q⟩ := h
    have PO : PassesOwn (model Pg w) (A.deeper (envOfC "_law_first" (defScope s__law_first) s.heap.objs.size f cdv)) (envOfC "_law_first" (defScope s__law_first) s.heap.objs.size f cdv) (cxOf (L2N.CX Pg w) Pg w K mg base N__law_first "_law_first" (defScope s__law_first) f cdv A outer s H E).xe := passes_of rfl
    have lts := Paired.length hg
    refine ⟨_, (pss_cons (ps_for PO rfl (pi_range1 (by rfl) T.n_range (pa_cons (pe_callB call_len_seq (by rfl) T.n_len (by decide +kernel) (pa_cons (pv 0) pa_nil)) pa_nil)) (pg_name (i := 1) sc__law_first.nd rfl (by first | exact Or.inl rfl | exact Or.inr rfl))
        (pss_one (ps_if (pt_cmpR op_ne (pe_fnS D_due (hr.mono (by decide)) passC (pa_cons (pe_ix ix_list (pv 0) (pv 1) (fun _ _ => rfl)) (pa_cons (pe_slice sl_list (pv 0) po_none (po_some (pv 1))) pa_nil))) pe_str (nomark _)) (pss_one (ps_ret (pe_fnS D_due (hr.mono (by decide)) passC (pa_cons (pe_ix ix_list (pv 0) (pv 1) (fun _ _ => rfl)) (pa_cons (pe_slice sl_list (pv 0) po_none (po_some (pv 1))) pa_nil))))) pss_nil)))
      (pss_one (ps_ret pe_str))), ?_⟩
    walk_at "s"
    rw [List.length_map]
    refine ⟨by omega, by omega, ?_⟩
    refine for_range (fun i σ H' => ∃ rs kv, σ = [some (.ref l), kv] ∧ Same H H' ∧ rs.length = i ∧ Paired (IsRow H') (ts.take i) rs ∧ takeRows [] gs = takeRows rs (gs.drop i)) ⟨[], none, rfl, Same.refl _, rfl, .nil, rfl⟩ ?_ ?_
    · rintro i σ H2 hi ⟨rs, kv, rfl, s2, hrl, hpr, htk⟩
      have hit : i < ts.length := by omega
      have hig : i < gs.length := by omega
      have ht1 : ts[i]? = some ts[i] := List.getElem?_eq_getElem hit
      obtain ⟨g, hg1, hgv⟩ := paired_at hg ht1
      obtain ⟨a1, a2, a3⟩ := hask g (List.mem_of_getElem? hg1)
      have hl2 := s2.seq hl
      have hgv2 : IsG H2 ts[i] g := s2 _ _ hgv
      have step := take_step (rs := rs) hg1
      have at1 : atI (ts.map V.ref) (0 + (i : Int)) = some (.ref ts[i]) := atI_of (by omega) (by rw [show (0 + (i : Int)).toNat = i by omega, List.getElem?_map, ht1]; rfl)
      have cut1 : cutV (ts.map V.ref) none (some (0 + (i : Int))) = (ts.take i).map V.ref := by
        rw [show (0 + (i : Int)) = ((i : Nat) : Int) by omega, cutV_take (by rw [List.length_map]; omega), List.map_take]
      walk_at "s"
      refine ⟨_, _, _, _, rfl, rfl, hl2, at1, ?_⟩
      walk_at "s"
      refine ⟨_, _, rfl, hl2, fun p hp => ?_⟩
      rw [cut1]
      have s3 : Same H2 (upd H2 p (.lst ((ts.take i).map V.ref))) := same_new hp
      have h3 : SqL K (upd H2 p (.lst ((ts.take i).map V.ref))) p ((ts.take i).map V.ref) := SqL.of upd_same
      revert s3 h3
      generalize upd H2 p (.lst ((ts.take i).map V.ref)) = H3
      intro s3 h3
      refine ⟨_, _, g.1, g.2.1, g.2.2, ts.take i, rs, rfl, SqT.of (s3 _ _ hgv2), a1, a2, a3, h3, rows_same s3 hpr, by omega, fun H4 s4 => ?_⟩
      have s24 := Same.trans s3 s4
      walk_at "s"
      by_cases d0 : putDue rs g.1 g.2.1 g.2.2 = 0
      · rw [d0, if_pos rfl] at step
        refine ifND (fun z => absurd (by rw [d0]; rfl) z) (fun _ => ?_)
        refine ⟨rs ++ [mkRow g.1 g.2.1 g.2.2], _, rfl, Same.trans s2 s24, by rw [List.length_append, hrl]; rfl, ?_, by rw [htk, step]⟩
        rw [List.take_add_one, ht1]
        exact Paired.snoc (rows_same s24 hpr) (isG_row d0 (s24 _ _ hgv2))
      · rw [if_neg d0] at step
        rw [htk, step] at q
        have hne : ¬ V.str (dueW (putDue rs g.1 g.2.1 g.2.2)) = V.str (Str.ofString "") := by
          have le := putDue_le rs g.1 g.2.1 g.2.2
          revert d0 le
          generalize putDue rs g.1 g.2.1 g.2.2 = n
          intro d0 le
          have h : n = 1 ∨ n = 2 ∨ n = 3 ∨ n = 4 := by omega
          rcases h with rfl | rfl | rfl | rfl <;> exact fun e => absurd (V.str.inj e) (by decide)
        refine ifND (fun _ => ?_) (fun z => absurd z hne)
        have hl4 := s24.seq hl2
        walk_at "s"
        refine ⟨_, _, _, _, rfl, rfl, hl4, at1, ?_⟩
        walk_at "s"
        refine ⟨_, _, rfl, hl4, fun p2 hp2 => ?_⟩
        rw [cut1]
        have s5 : Same H4 (upd H4 p2 (.lst ((ts.take i).map V.ref))) := same_new hp2
        refine ⟨_, _, g.1, g.2.1, g.2.2, ts.take i, rs, rfl, SqT.of (s5 _ _ (s24 _ _ hgv2)), a1, a2, a3, SqL.of upd_same, rows_same (Same.trans s24 s5) hpr, by omega, fun H6 s6 => ?_⟩
        exact q _ (Same.trans s2 (Same.trans s24 (Same.trans s5 s6)))
    · rintro σ H2 ⟨rs, kv, rfl, s2, hrl, hpr, htk⟩
      have e : (Int.toNat (ts.length : Int)) = gs.length := by omega
      rw [e, List.drop_length] at htk
      rw [htk] at q
      walk_at "s"
      exact q _ s2
theorem ok_made {f P : Addr} {fd : FuncData} (F : Fun K "_law_made" "_law_made" s__law_made f fd) (T : Txt K mg a) (D_said : DnE Pg w K mg base 1 "_law_said" ["_law_error"] (spSaid a)) (D_Tariff : Dk Pg w K mg base 4 "Tariff" a.Tariff ["self", "rows"] (spInit K a P)) : FnOk Pg w K mg base (L2N.CX Pg w) 6 f fd ["_law_rows_here"] (spMade K P) := by
  refine F.okN sc__law_made (fun vs H Q E h => ?_) (fun cdv A outer s H vs Q E hr h => ?_)
  · obtain ⟨_, _, _, rfl, _⟩ := h
    rfl
  · obtain ⟨l, ts, gs, rfl, hP, hl, hg, hask, hlen, q⟩ := h
    refine ⟨_, (pss_cons (L2N.ps_try_as (i := 1) rfl rfl sc__law_made.nd rfl rfl ⟨rfl, by decide, .inl T.x_FareError.g⟩ takesN0
        (fun W pn xe tk PO => (pss_one (ps_expr (pe_mkS D_Tariff (hr.mono (by decide)) (fun σ => L2N.passAt tk σ) (pa_cons (pv 0) pa_nil)))))
        (fun a_e oe cls d pn hz hf => (pss_one (ps_ret (pe_fnEG D_said (roomE hr (by decide)) hz hf passC (pa_cons (pv 1) pa_nil))))))
      (pss_one (ps_ret pe_str))), ?_⟩
    walk_at "s"
    intro x dx hx hdx hne
    have m1 : Same H (upd (upd H dx (.own x)) x (.ins a.Tariff dx [])) := fun b o e => by rw [upd_ne (ne_of_none e hx), upd_ne (ne_of_none e hdx)]; exact e
    refine ⟨x, dx, l, ts, gs, rfl, upd_same, m1 _ _ hP, m1.seq hl, isG_given (isG_same m1 hg), hask, hlen, fun e d1 H2 hd1 sb T1 => ⟨rfl, ?_⟩, fun e H2 sb => ?_⟩
    · have s2 : Same H H2 := fun b o e => sb _ _ (ne_of_none e hx) (m1 _ _ e)
      rw [e] at q
      walk_at "s"
      exact q _ s2
    · have s2 : Same H H2 := fun b o e => sb _ _ (ne_of_none e hx) (m1 _ _ e)
      have le := takeRows_le gs []
      refine ⟨true, err_exm T (by omega) le, fun _ ae hae => ?_, fun z => nomatch z⟩
      refine ⟨_, rfl, rfl, ?_⟩
      walk_at "s"
      exact ⟨_, rfl, rfl, by omega, le, fun H3 s3 => q _ (Same.trans s2 s3)⟩
theorem ok_lput {f P : Addr} {fd : FuncData} (F : Fun K "_law_put" "_law_put" s__law_put f fd) (T : Txt K mg a) (D_said : DnE Pg w K mg base 1 "_law_said" ["_law_error"] (spSaid a)) (D_put : Dm Pg w K mg base 3 a.Tariff "put" ["self", "here", "there", "price"] (spPut a P)) : FnOk Pg w K mg base (L2N.CX Pg w) 4 f fd ["_law_tariff", "_law_row"] (spLPut K a P) := by
  refine F.okN sc__law_put (fun vs H Q E h => ?_) (fun cdv A outer s H vs Q E hr h => ?_)
  · obtain ⟨_, _, _, _, _, _, _, rfl, _⟩ := h
    rfl
  · obtain ⟨p, d, t, v1, v2, v3, rs, rfl, ht, a1, a2, a3, hP, hT, hlen, q⟩ := h
    obtain ⟨dx, hob⟩ := hT.ob
    refine ⟨_, (pss_cons (L2N.ps_try_as (i := 3) rfl rfl sc__law_put.nd rfl rfl ⟨rfl, by decide, .inl T.x_FareError.g⟩ takesN0
        (fun W pn xe tk PO => (pss_one (ps_set (i := 2) sc__law_put.nd rfl (by first | exact Or.inl rfl | exact Or.inr rfl) (pe_mdS (pv 0) T.cl_Tariff D_put (hr.mono (by decide)) (fun σ => L2N.passAt tk σ) (pa_cons (pe_ix (ix_tupS (K := K)) (pv 1) pe_int (fun _ _ => rfl)) (pa_cons (pe_ix (ix_tupS (K := K)) (pv 1) pe_int (fun _ _ => rfl)) (pa_cons (pe_ix (ix_tupS (K := K)) (pv 1) pe_int (fun _ _ => rfl)) pa_nil)))))))
        (fun a_e oe cls d pn hz hf => (pss_one (ps_ret (pe_fnEG D_said (roomE hr (by decide)) hz hf passC (pa_cons (pv 3) pa_nil))))))
      (pss_one (ps_ret (pe_ix ix_list (pe_lst (pa_cons pe_str (pa_cons pe_str pa_nil))) (pe_callTy call_int1 (by rfl) T.n_int (by decide +kernel) (pa_cons (pe_cmpR op_notN (pv 2) pe_non (nomark _)) pa_nil)) (fun _ _ => rfl))))), ?_⟩
    walk_at "s"
    refine ⟨p, dx, _, rfl, hob, prices_no d (by decide), ?_⟩
    walk_at "s"
    refine ⟨_, _, _, _, rfl, rfl, ht, rfl, ?_⟩
    walk_at "s"
    refine ⟨_, _, _, _, rfl, rfl, ht, rfl, ?_⟩
    walk_at "s"
    refine ⟨_, _, _, _, rfl, rfl, ht, rfl, ?_⟩
    walk_at "s"
    refine ⟨p, d, _, _, _, rs, rfl, a1, a2, a3, hP, hT, hlen, fun e H2 s2 T2 => ?_, fun e H2 s2 => ?_⟩
    · walk_at "s"
      refine ⟨(by show 2 ≤ sizeLine; decide), fun g hg => ?_⟩
      have s3 : Same H2 (upd H2 g (.lst [.str (Str.ofString ""), .str (Str.ofString "no")])) := same_new hg
      have h3 : SqL K (upd H2 g (.lst [.str (Str.ofString ""), .str (Str.ofString "no")])) g [.str (Str.ofString ""), .str (Str.ofString "no")] := SqL.of upd_same
      have qq := q _ (fun b o nb e2 => s3 _ _ (s2 _ _ nb e2)) (by unfold putRows; rw [if_pos e]; exact T2.same s3)
      rw [e] at qq
      walk_at "s"
      refine .inr ⟨_, rfl, ?_⟩
      walk_at "s"
      exact ⟨_, _, _, _, rfl, rfl, h3, rfl, qq⟩
    · have le := putDue_le rs v1 v2 v3
      refine ⟨true, err_exm T (by omega) le, fun _ ae hae => ?_, fun z => nomatch z⟩
      refine ⟨_, rfl, rfl, ?_⟩
      walk_at "s"
      exact ⟨_, rfl, rfl, by omega, le, fun H3 s3 => q _ (fun b o _ e2 => s3 _ _ (s2 _ _ e2)) (by unfold putRows; rw [if_neg e]; exact hT.same (Same.trans s2 s3))⟩
end
end Fb

namespace Fb
open PySem PySem.Spec PyProof.Rows L2
local macro_rules | `(tactic| walk_at "s") => `(tactic| repeat (first | refine ⟨_, rfl, ?_⟩ | refine ⟨_, _, rfl, rfl, ?_⟩ | refine ⟨_, _, rfl, Or.inl (by assumption), ?_⟩ | refine ⟨rfl, ?_⟩ | refine ⟨(by decide : (0 : Int) < _), ?_⟩ | refine ⟨⟨by decide, by decide⟩, ?_⟩ | refine ⟨_, _, _, rfl, (by assumption), (by first | decide | omega), ?_⟩))
theorem uniq_way : ∀ {rs : List Row} {r r' : Row}, (rs.map fun r => (r.1, r.2.1)).Nodup → r ∈ rs → r' ∈ rs → (r.1, r.2.1) = (r'.1, r'.2.1) → r = r'
  | [], _, _, _, h, _, _ => by cases h
  | q :: rs, r, r', nd, h, h', e => by
    rw [List.map_cons] at nd
    have nd1 := List.nodup_cons.mp nd
    rcases List.mem_cons.mp h with h1 | h1
    · rcases List.mem_cons.mp h' with h2 | h2
      · rw [h1, h2]
      · exact absurd (List.mem_map.mpr ⟨r', h2, by rw [← e, h1]⟩) nd1.1
    · rcases List.mem_cons.mp h' with h2 | h2
      · exact absurd (List.mem_map.mpr ⟨r, h1, by rw [e, h2]⟩) nd1.1
      · exact uniq_way nd1.2 h1 h2 e
theorem look_row {rs : List Row} {r : Row} (g : GoodRows rs) (h : r ∈ rs) : lookR rs r.1 r.2.1 = .int r.2.2 := by
  unfold lookR
  cases e : valV (rs.map rowK) [.inr r.1, .inr r.2.1] with
  | none => exact absurd (List.mem_map.mpr ⟨r, h, rfl⟩) (way_new (fun r => V.int r.2.2) e)
  | some v =>
    obtain ⟨r', hr', e2⟩ := List.mem_map.mp (valV_some e)
    have e3 := Prod.mk.inj e2
    have e4 := wayK_inj (show wayK r'.1 r'.2.1 = wayK r.1 r.2.1 from e3.1)
    have e5 := uniq_way g.nd hr' h (by rw [e4.1, e4.2])
    rw [e5] at e3
    rw [← e3.2]; rfl
theorem look_none {rs : List Row} {x y : Str} (h : (x, y) ∉ rs.map fun r => (r.1, r.2.1)) : lookR rs x y = .non := by
  unfold lookR
  rw [show valV (rs.map rowK) [Sum.inr x, Sum.inr y] = none from way_none (fun r => .int r.2.2) h]
  rfl
theorem scal_look {rs : List Row} {x y : Str} : scal (lookR rs x y) (lookR rs x y) = true := by
  unfold lookR
  cases e : valV (rs.map rowK) [.inr x, .inr y] with
  | none => rfl
  | some v =>
    obtain ⟨r, _, e2⟩ := List.mem_map.mp (valV_some e)
    rw [← (Prod.mk.inj e2).2]
    rfl
theorem look_pick {rs : List Row} {x y : Str} (g : GoodRows rs) : atI (pick (hitR rs x y) (prAt rs) rs.length ++ [V.non]) 0 = some (lookR rs x y) := by
  refine atI_of (by omega) ?_
  show (pick (hitR rs x y) (prAt rs) rs.length ++ [V.non])[0]? = _
  have hp := told_pick (rs := rs) (x := x) (y := y) (f := prAt rs)
  cases h : isTold rs (.str x) (.str y) with
  | false =>
    rw [h] at hp
    rw [List.isEmpty_iff.mp hp, look_none fun hm => by rw [told_iff.mpr hm] at h; cases h]
    rfl
  | true =>
    obtain ⟨r, hr, e⟩ := List.mem_map.mp (told_iff.mp h)
    have ex := (Prod.mk.inj e).1
    have ey := (Prod.mk.inj e).2
    rw [← ex, ← ey, look_row g hr, ex, ey]
    rw [h] at hp
    cases hl : pick (hitR rs x y) (prAt rs) rs.length with
    | nil => rw [hl] at hp; cases hp
    | cons v rest =>
      have hv : v ∈ pick (hitR rs x y) (prAt rs) rs.length := by rw [hl]; exact List.mem_cons_self
      obtain ⟨i, hi, rfl⟩ := List.mem_map.mp hv
      have hi2 := List.mem_filter.mp hi
      have hil := List.mem_range.mp hi2.1
      have e1 : rs[i]? = some rs[i] := List.getElem?_eq_getElem hil
      have h3 := hi2.2
      rw [hitR_at e1] at h3
      simp only [Bool.and_eq_true, decide_eq_true_eq] at h3
      have e5 := uniq_way g.nd (List.getElem_mem hil) hr (by rw [h3.1, h3.2, ex, ey])
      rw [prAt_at e1, e5]
      rfl
def hitV (rs : List Row) (v1 v2 : V) (i : Nat) : Bool := match rs[i]? with
  | some r => decide (V.str r.1 = v1) && decide (V.str r.2.1 = v2)
  | none => false
theorem hitV_at {rs : List Row} {v1 v2 : V} {i : Nat} {r : Row} (h : rs[i]? = some r) : hitV rs v1 v2 i = (decide (V.str r.1 = v1) && decide (V.str r.2.1 = v2)) := by unfold hitV; rw [h]
theorem hitV_str (rs : List Row) (x y : Str) : hitV rs (.str x) (.str y) = hitR rs x y := by
  funext i
  unfold hitV hitR
  cases rs[i]? with
  | none => rfl
  | some r =>
    show (decide (V.str r.1 = V.str x) && decide (V.str r.2.1 = V.str y)) = (decide (r.1 = x) && decide (r.2.1 = y))
    rw [show decide (V.str r.1 = V.str x) = decide (r.1 = x) from decide_eq_decide.mpr ⟨V.str.inj, fun e => congrArg V.str e⟩, show decide (V.str r.2.1 = V.str y) = decide (r.2.1 = y) from decide_eq_decide.mpr ⟨V.str.inj, fun e => congrArg V.str e⟩]
def spStands (K : PySem.W.Frag) (a : Ads) : Sp := fun vs H Q _ => ∃ (p d r t : Addr) (v1 v2 v3 : V) (ts : List Addr) (rs : List Row), vs = [.ref p, .ref r, .ref t] ∧ TarAt a.Tariff H p d rs ∧ SqL K H r (ts.map V.ref) ∧ Paired (IsRow H) ts rs ∧ GoodRows rs ∧ rs.length ≤ 200 ∧
  SqT K H t [v1, v2, v3] ∧ ask v1 ∧ ask v2 ∧ ask v3 ∧ ∀ H', Same H H' → Q (.bl true) H'
abbrev s__law_stands : Stmt := topS 27
abbrev N__law_stands : List Str := ["_law_tariff", "_law_rows_here", "_law_row", "_law_prices", "_law_one"]
theorem sc__law_stands : FnScope N__law_stands ["_law_tariff", "_law_rows_here", "_law_row"] (defScope s__law_stands) := ⟨rfl, rfl, rfl, by decide +kernel, rfl, by decide +kernel, by decide +kernel⟩
section
variable {Pg : Program} {w : World} {K : PySem.W.Frag} {mg : Str → Option Value} {base : Heap} {a : Ads}
theorem ok_stands {f : Addr} {fd : FuncData} (F : Fun K "_law_stands" "_law_stands" s__law_stands f fd) (T : Txt K mg a) (D_law_is_place : Dn Pg w K mg base 1 "_law_is_place" ["_law_thing"] spLIsPlace) (D_price : Dm Pg w K mg base 1 a.Tariff "price" ["self", "here", "there"] (spPrice a)) (D_told : Dm Pg w K mg base 1 a.Tariff "told" ["self"] (spTold a)) :
    FnOk Pg w K mg base (L2N.CX Pg w) 2 f fd ["_law_tariff", "_law_rows_here", "_law_row"] (spStands K a) := by
  refine F.okN sc__law_stands (fun vs H Q E h => ?_) (fun cdv A outer s H vs Q E hr h => ?_)
  · obtain ⟨_, _, _, _, _, _, _, _, _, rfl, _⟩ := h
    rfl
  · obtain ⟨p, d, r, t, v1, v2, v3, ts, rs, rfl, hT, hrl, hpr, hg, hlen, ht, a1, a2, a3, q⟩ := h
    obtain ⟨dx, hob⟩ := hT.ob
    have lts := Paired.length hpr
    refine ⟨_, (pss_cons (ps_if (pt_cmpR (op_neD hr.units) (pe_mdS0 (pv 0) T.cl_Tariff D_told (hr.mono (by decide)) passC) (pv 1) (nomark _)) (pss_one (ps_ret pe_bl)) pss_nil)
      (pss_cons (ps_setLc (i := 3) (own := [("_law_one", 4)]) (g := (gName 4)) (tt := _) rfl sc__law_stands.nd rfl rfl (sw_true rfl rfl rfl (by decide +kernel)) (pi_list (pv 1)) (blkOk_by (own := [("_law_one", 4)]) (N := N__law_stands) (sc := (defScope s__law_stands)) (by decide +kernel)) (fun _ _ _ _ _ => (pg_name (i := 4) sc__law_stands.nd rfl (by first | exact Or.inl rfl | exact Or.inr rfl))) (fun _ _ _ _ _ => pts_one (PW.pt (pw_and (pt_cmpR op_eq (pe_ix (ix_tupS (K := K)) (pv 4) pe_int (fun _ _ => rfl)) (pe_ix (ix_tupS (K := K)) (pv 2) pe_int (fun _ _ => rfl)) (nomark _)) (pw_and1 (pt_cmpR op_eq (pe_ix (ix_tupS (K := K)) (pv 4) pe_int (fun _ _ => rfl)) (pe_ix (ix_tupS (K := K)) (pv 2) pe_int (fun _ _ => rfl)) (nomark _)))))) (fun _ _ _ _ _ => (pe_ix (ix_tupS (K := K)) (pv 4) pe_int (fun _ _ => rfl))))
      (C8.pss_cut (ps_if (PW.pt (pw_and (pt_val (pe_fnS D_law_is_place (hr.mono (by decide)) passC (pa_cons (pe_ix ix_tup (pv 2) pe_int (fun _ _ => rfl)) pa_nil))) (pw_and (pt_val (pe_fnS D_law_is_place (hr.mono (by decide)) passC (pa_cons (pe_ix ix_tup (pv 2) pe_int (fun _ _ => rfl)) pa_nil))) (pw_and1 (pt_cmpR op_ne (pe_mdS (pv 0) T.cl_Tariff D_price (hr.mono (by decide)) passC (pa_cons (pe_ix ix_tup (pv 2) pe_int (fun _ _ => rfl)) (pa_cons (pe_ix ix_tup (pv 2) pe_int (fun _ _ => rfl)) pa_nil))) (pe_ix ix_list (pe_op op_cat (pv 3) (pe_lst (pa_cons pe_non pa_nil))) pe_int (fun _ _ => rfl)) (nomark _)))))) (pss_one (ps_ret pe_bl)) pss_nil)
      (pss_one (ps_ret (pe_cmpR (op_eqD hr.units) (pe_lc (own := [("_law_one", 4)]) (g := (gName 4)) (tt := _) rfl sc__law_stands.nd (pi_list (pv 1)) (blkOk_by (own := [("_law_one", 4)]) (N := N__law_stands) (sc := (defScope s__law_stands)) (by decide +kernel)) (fun _ _ _ _ _ => (pg_name (i := 4) sc__law_stands.nd rfl (by first | exact Or.inl rfl | exact Or.inr rfl))) (fun _ _ _ _ _ => pts_one (pt_cmpR op_ne (pe_mdS (pv 0) T.cl_Tariff D_price (hr.mono (by decide)) passC (pa_cons (pe_ix (ix_tupS (K := K)) (pv 4) pe_int (fun _ _ => rfl)) (pa_cons (pe_ix (ix_tupS (K := K)) (pv 4) pe_int (fun _ _ => rfl)) pa_nil))) (pe_ix (ix_tupS (K := K)) (pv 4) pe_int (fun _ _ => rfl)) (nomark _))) (fun _ _ _ _ _ => pe_int)) (pe_lst pa_nil) (nomark _))))))), ?_⟩
    walk_at "s"
    refine ⟨p, dx, _, rfl, hob, prices_no d (by decide), ?_⟩
    refine ⟨p, d, rs, rfl, hT, by omega, fun g H1 us hg0 s1 hgl hgr => ?_⟩
    have hrl1 := s1.seq hrl
    have hpr1 := rows_same s1 hpr
    have sh := shaped_rows hg.ok
    walk_at "s"
    refine ⟨_, _, .lst (SqL.of hgl) (dp_rows hg.ok hgr), .lst hrl1 (dp_rows hg.ok hpr1), sh, sh, ?_⟩
    rw [eqv_self sh]
    have ht1 := same_t s1 ht
    have hT1 := hT.same s1
    walk_at "s"
    refine ⟨⟨_, hrl1⟩, fun D hD => ?_⟩
    refine lc_pick (K := K) (xs := ts.map V.ref) (hitV rs v1 v2) (prAt rs) hD hrl1 (by rw [List.length_map]; omega) (fun v => rfl) ?_ ?_ ?_
    · intro i x H3 hi s3 Q2 q2
      rw [List.getElem?_map] at hi
      obtain ⟨u, hu1, rfl⟩ := Option.map_eq_some_iff.mp hi
      obtain ⟨rr, hr1, hrow⟩ := paired_at hpr1 hu1
      have hrow3 := s3 _ _ hrow
      have ht3 := same_t s3 ht1
      rw [hitV_at hr1] at q2
      walk_at "s"
      refine ⟨_, _, _, _, rfl, rfl, SqT.of hrow3, rfl, ?_⟩
      walk_at "s"
      refine ⟨_, _, _, _, rfl, rfl, ht3, rfl, scal_str a1, ?_⟩
      walk_at "s"
      refine ifD (fun d1 => ?_) (fun d1 => ?_)
      · rw [decide_eq_true d1, Bool.true_and] at q2
        walk_at "s"
        refine ⟨_, _, _, _, rfl, rfl, SqT.of hrow3, rfl, ?_⟩
        walk_at "s"
        refine ⟨_, _, _, _, rfl, rfl, ht3, rfl, scal_str a2, ?_⟩
        walk_at "s"
        exact q2 _ (Same.refl _)
      · rw [decide_eq_false d1, Bool.false_and] at q2
        exact q2 _ (Same.refl _)
    · intro i x H3 hi s3 Q2 q2
      rw [List.getElem?_map] at hi
      obtain ⟨u, hu1, rfl⟩ := Option.map_eq_some_iff.mp hi
      obtain ⟨rr, hr1, hrow⟩ := paired_at hpr1 hu1
      have hrow3 := s3 _ _ hrow
      rw [prAt_at hr1] at q2
      walk_at "s"
      exact ⟨_, _, _, _, rfl, rfl, SqT.of hrow3, rfl, q2 _ (Same.refl _)⟩
    · intro H3 s3 hDl
      rw [List.length_map, lts] at hDl
      have s13 := Same.trans s1 s3
      have ht3 := same_t s13 ht
      -- the last test, from any later heap
      walk_at "s"
      refine ⟨fun σ' H' => σ' = [some (.ref p), some (.ref r), some (.ref t), some (.ref D), none] ∧ Same H3 H', ?_, ?_⟩
      · walk_at "s"
        refine ⟨_, _, _, _, rfl, rfl, ht3, rfl, ?_⟩
        refine ⟨_, rfl, a1, fun H4 s4 => ?_⟩
        walk_at "s"
        refine ifB (fun c1 => ?_) (fun c1 => ⟨rfl, s4⟩)
        have ht4 := same_t s4 ht3
        walk_at "s"
        refine ⟨_, _, _, _, rfl, rfl, ht4, rfl, ?_⟩
        refine ⟨_, rfl, a2, fun H5 s5 => ?_⟩
        walk_at "s"
        have s45 := Same.trans s4 s5
        refine ifB (fun c2 => ?_) (fun c2 => ⟨rfl, s45⟩)
        obtain ⟨z1, rfl⟩ := isP_str c1
        obtain ⟨z2, rfl⟩ := isP_str c2
        have ht5 := same_t s45 ht3
        have s15 := Same.trans s13 s45
        have hT5 := hT.same s15
        obtain ⟨dx5, hob5⟩ := hT5.ob
        walk_at "s"
        refine ⟨p, dx5, _, rfl, hob5, prices_no d (by decide), ?_⟩
        walk_at "s"
        refine ⟨_, _, _, _, rfl, rfl, ht5, rfl, ?_⟩
        walk_at "s"
        refine ⟨_, _, _, _, rfl, rfl, ht5, rfl, ?_⟩
        refine ⟨p, d, z1, z2, rs, rfl, hT5, fun H6 s6 => ?_⟩
        walk_at "s"
        refine ⟨(by show 1 ≤ sizeLine; decide), fun g1 hg1 => ?_⟩
        have s7 : Same H6 (upd H6 g1 (.lst [V.non])) := same_new hg1
        have hD7 := s7 _ _ (s6 _ _ (s45 _ _ hDl))
        have h7 : upd H6 g1 (.lst [V.non]) g1 = some (.lst [V.non]) := upd_same
        revert s7 hD7 h7
        generalize upd H6 g1 (.lst [V.non]) = H7
        intro s7 hD7 h7
        have pl := pick_le (hitV rs (.str z1) (.str z2)) (prAt rs) rs.length
        refine ⟨_, _, _, _, rfl, rfl, hD7, h7, szl (by show _ + 1 ≤ _; omega), fun g2 hg2 => ?_⟩
        have s8 : Same H7 (upd H7 g2 (.lst (pick (hitV rs (.str z1) (.str z2)) (prAt rs) rs.length ++ [V.non]))) := same_new hg2
        have h8 : SqL K (upd H7 g2 (.lst (pick (hitV rs (.str z1) (.str z2)) (prAt rs) rs.length ++ [V.non]))) g2 (pick (hitV rs (.str z1) (.str z2)) (prAt rs) rs.length ++ [V.non]) := SqL.of upd_same
        have hlk := look_pick (x := z1) (y := z2) hg
        rw [← hitV_str] at hlk
        walk_at "s"
        refine ⟨_, _, _, _, rfl, rfl, h8, hlk, scal_look, ?_⟩
        walk_at "s"
        refine ifND (fun z => absurd rfl z) (fun _ => ?_)
        exact ⟨rfl, Same.trans s45 (Same.trans s6 (Same.trans s7 s8))⟩
      · rintro σ' H4 ⟨rfl, s4⟩
        have s34 := Same.trans s3 s4
        have hrl4 := s34.seq hrl1
        have hpr4 := rows_same s34 hpr1
        have hT4 := hT1.same s34
        walk_at "s"
        refine ⟨⟨_, hrl4⟩, fun D2 hD2 => ?_⟩
        refine lc_pick (K := K) (xs := ts.map V.ref) (fun _ => false) (fun _ => .int 1) hD2 hrl4 (by rw [List.length_map]; omega) (fun v => rfl) ?_ ?_ ?_
        · intro i x H5 hi s5 Q2 q2
          rw [List.getElem?_map] at hi
          obtain ⟨u, hu1, rfl⟩ := Option.map_eq_some_iff.mp hi
          obtain ⟨rr, hr1, hrow⟩ := paired_at hpr4 hu1
          have hrow5 := s5 _ _ hrow
          have hT5 := hT4.same s5
          obtain ⟨dx5, hob5⟩ := hT5.ob
          walk_at "s"
          refine ⟨p, dx5, _, rfl, hob5, prices_no d (by decide), ?_⟩
          walk_at "s"
          refine ⟨_, _, _, _, rfl, rfl, SqT.of hrow5, rfl, ?_⟩
          walk_at "s"
          refine ⟨_, _, _, _, rfl, rfl, SqT.of hrow5, rfl, ?_⟩
          refine ⟨p, d, rr.1, rr.2.1, rs, rfl, hT5, fun H6 s6 => ?_⟩
          rw [look_row hg (List.mem_of_getElem? hr1)]
          walk_at "s"
          refine ⟨_, _, _, _, rfl, rfl, SqT.of (s6 _ _ hrow5), rfl, ?_⟩
          walk_at "s"
          rw [decide_eq_true rfl]
          exact q2 _ s6
        · intro i x H5 hi s5 Q2 q2
          exact q2 _ (Same.refl _)
        · intro H5 s5 hDl2
          have en : pick (fun _ => false) (fun _ => V.int 1) (ts.map V.ref).length = [] := List.isEmpty_iff.mp (pick_nil.mpr fun _ _ => rfl)
          rw [en] at hDl2
          walk_at "s"
          refine ⟨Nat.zero_le _, fun D3 hD3 => ?_⟩
          have s6 : Same H5 (upd H5 D3 (.lst [])) := same_new hD3
          refine ⟨.list [], .list [], .lst (SqL.of (s6 _ _ hDl2)) .nil, .lst (SqL.of upd_same) .nil, shaped_list (xs := []) (fun v hv => by cases hv), shaped_list (xs := []) (fun v hv => by cases hv), ?_⟩
          rw [show PyData.eqv (.list []) (.list []) = true from eqv_self (shaped_list (xs := []) fun v hv => by cases hv)]
          exact q _ (Same.trans s1 (Same.trans s34 (Same.trans s5 s6)))
end
end Fb

namespace Fb
open PySem PySem.Spec PyProof.Rows L2
local macro_rules | `(tactic| walk_at "s") => `(tactic| repeat (first | refine ⟨_, rfl, ?_⟩ | refine ⟨_, _, rfl, rfl, ?_⟩ | refine ⟨_, _, rfl, Or.inl (by assumption), ?_⟩ | refine ⟨rfl, ?_⟩ | refine ⟨(by decide : (0 : Int) < _), ?_⟩ | refine ⟨⟨by decide, by decide⟩, ?_⟩ | refine ⟨_, _, _, rfl, (by assumption), (by first | decide | omega), ?_⟩))
theorem inV_int {k : Int} : ∀ {l : List Int}, inV (.int k) (l.map V.int) = true ↔ k ∈ l
  | [] => by simp [inV]
  | x :: l => by
    have ih := inV_int (k := k) (l := l)
    unfold inV at ih ⊢
    rw [List.map_cons, List.any_cons, Bool.or_eq_true, ih, List.mem_cons]
    refine or_congr ?_ Iff.rfl
    show (eqV (.int x) (.int k)) = true ↔ _
    simp [eqV]
    try exact ⟨fun h => h.symm, fun h => h.symm⟩
def moreV (c : Int) (g : V × V × V) : Prop := g.1 = .str (nameOf c 20) ∧ g.2.1 = .str (nameOf c 21)
def askG (g : V × V × V) : Prop := ask g.1 ∧ ask g.2.1 ∧ ask g.2.2
def spWrong (K : PySem.W.Frag) : Sp := fun vs H Q _ => ∃ (l r nl : Addr) (ns : List Int) (b c : Int) (ts : List Addr) (gs : List (V × V × V)), vs = [.ref l, .int b, .ref r, .ref nl] ∧ SqL K H l (ns.map V.int) ∧ 0 ≤ b ∧ SqL K H r (ts.map V.ref) ∧ Paired (IsG H) ts gs ∧ gs.length ≤ 400 ∧
  (∀ g ∈ gs, askG g ∧ ¬ moreV c g) ∧ SqL K H nl (namesV c 22) ∧ ∀ (t : Addr) (H' : Hp) (g : V × V × V), H t = none → Same H H' → IsG H' t g → askG g → ¬ moreV c g → Q (.ref t) H'
theorem name_ask {c : Int} {k : Nat} (h : k < 52) : ask (.str (nameOf c k)) := isP_ask (name_isP h)
abbrev s__law_wrong : Stmt := topS 20
abbrev N__law_wrong : List Str := ["_law_script", "_law_begin", "_law_rows_here", "_law_names_here", "_law_kind", "_law_row"]
theorem sc__law_wrong : FnScope N__law_wrong ["_law_script", "_law_begin", "_law_rows_here", "_law_names_here"] (defScope s__law_wrong) := ⟨rfl, rfl, rfl, by decide +kernel, rfl, by decide +kernel, by decide +kernel⟩
section
variable {Pg : Program} {w : World} {K : PySem.W.Frag} {mg : Str → Option Value} {base : Heap} {a : Ads}
theorem ok_wrong {f : Addr} {fd : FuncData} (F : Fun K "_law_wrong" "_law_wrong" s__law_wrong f fd) (T : Txt K mg a) (D_cell_at : Dn Pg w K mg base 1 "_law_cell_at" ["_law_script", "_law_k"] (spCell K)) (D_price : Dn Pg w K mg base 1 "_law_price" ["_law_cell"] spPrc)
    (D_bad_place : Dn Pg w K mg base 1 "_law_bad_place" ["_law_cell"] spBadP) (D_bad_price : Dn Pg w K mg base 1 "_law_bad_price" ["_law_cell"] spBadP) : FnOk Pg w K mg base (L2N.CX Pg w) 2 f fd ["_law_script", "_law_begin", "_law_rows_here", "_law_names_here"] (spWrong K) := by
  refine F.okN sc__law_wrong (fun vs H Q E h => ?_) (fun cdv A outer s H vs Q E hr h => ?_)
  · obtain ⟨_, _, _, _, _, _, _, _, rfl, _⟩ := h
    rfl
  · obtain ⟨l, r, nl, ns, b, c, ts, gs, rfl, hs, hb, hrl, hpr, hlen, hgs, hn, q⟩ := h
    have lts := Paired.length hpr
    refine ⟨_, (pss_cons (ps_set (i := 4) sc__law_wrong.nd rfl (by first | exact Or.inl rfl | exact Or.inr rfl) (pe_op op_mod (pe_fnS D_cell_at (hr.mono (by decide)) passC (pa_cons (pv 0) (pa_cons (pv 1) pa_nil))) pe_int))
      (pss_cons (ps_set (i := 5) sc__law_wrong.nd rfl (by first | exact Or.inl rfl | exact Or.inr rfl) (pe_lst (pa_cons (pe_ix ix_list (pv 3) (pe_op op_mod (pv 1) pe_int) (fun _ _ => rfl)) (pa_cons (pe_ix ix_list (pv 3) pe_int (fun _ _ => rfl)) (pa_cons (pe_fnS D_price (hr.mono (by decide)) passC (pa_cons (pe_fnS D_cell_at (hr.mono (by decide)) passC (pa_cons (pv 0) (pa_cons (pe_op op_add (pv 1) pe_int) pa_nil))) pa_nil)) pa_nil)))))
      (C8.pss_cut (ps_if (pt_cmpR op_in_seq (pv 4) (pe_tup (pa_cons pe_int (pa_cons pe_int pa_nil))) rfl) (pss_one (ps_asg (pe_fnS D_bad_place (hr.mono (by decide)) passC (pa_cons (pe_fnS D_cell_at (hr.mono (by decide)) passC (pa_cons (pv 0) (pa_cons (pe_op op_add (pv 1) pe_int) pa_nil))) pa_nil)) (pg_sub (pv 5) pe_int set_list))) pss_nil)
      (C8.pss_cut (ps_if (pt_cmpR op_in_seq (pv 4) (pe_tup (pa_cons pe_int (pa_cons pe_int pa_nil))) rfl) (pss_one (ps_asg (pe_fnS D_bad_place (hr.mono (by decide)) passC (pa_cons (pe_fnS D_cell_at (hr.mono (by decide)) passC (pa_cons (pv 0) (pa_cons (pe_op op_add (pv 1) pe_int) pa_nil))) pa_nil)) (pg_sub (pv 5) pe_int set_list))) pss_nil)
      (C8.pss_cut (ps_if (pt_cmpR op_eq (pv 4) pe_int (nomark _)) (pss_one (ps_asg (pe_ix ix_list (pv 5) pe_int (fun _ _ => rfl)) (pg_sub (pv 5) pe_int set_list))) pss_nil)
      (C8.pss_cut (ps_if (PW.pt (pw_and (pt_cmpR op_eq (pv 4) pe_int (nomark _)) (pw_and1 (pt_cmpR op_gt (pe_callB call_len_seq (by rfl) T.n_len (by decide +kernel) (pa_cons (pv 2) pa_nil)) pe_int (nomark _))))) (pss_cons (ps_asg (pe_ix ix_tup (pe_ix ix_list (pv 2) (pe_op op_mod (pe_fnS D_cell_at (hr.mono (by decide)) passC (pa_cons (pv 0) (pa_cons (pe_op op_add (pv 1) pe_int) pa_nil))) (pe_callB call_len_seq (by rfl) T.n_len (by decide +kernel) (pa_cons (pv 2) pa_nil))) (fun _ _ => rfl)) pe_int (fun _ _ => rfl)) (pg_sub (pv 5) pe_int set_list))
        (pss_one (ps_asg (pe_ix ix_tup (pe_ix ix_list (pv 2) (pe_op op_mod (pe_fnS D_cell_at (hr.mono (by decide)) passC (pa_cons (pv 0) (pa_cons (pe_op op_add (pv 1) pe_int) pa_nil))) (pe_callB call_len_seq (by rfl) T.n_len (by decide +kernel) (pa_cons (pv 2) pa_nil))) (fun _ _ => rfl)) pe_int (fun _ _ => rfl)) (pg_sub (pv 5) pe_int set_list)))) pss_nil)
      (C8.pss_cut (ps_if (PW.pt (pw_or (pt_cmpR op_in_seq (pv 4) (pe_tup (pa_cons pe_int (pa_cons pe_int (pa_cons pe_int pa_nil)))) rfl) (pw_or1 (PW.pt (pw_and (pt_cmpR op_eq (pv 4) pe_int (nomark _)) (pw_and1 (pt_cmpR op_eq (pe_op op_mod (pe_fnS D_cell_at (hr.mono (by decide)) passC (pa_cons (pv 0) (pa_cons (pe_op op_add (pv 1) pe_int) pa_nil))) pe_int) pe_int (nomark _)))))))) (pss_one (ps_asg (pe_fnS D_bad_price (hr.mono (by decide)) passC (pa_cons (pe_fnS D_cell_at (hr.mono (by decide)) passC (pa_cons (pv 0) (pa_cons (pe_op op_add (pv 1) pe_int) pa_nil))) pa_nil)) (pg_sub (pv 5) pe_int set_list))) pss_nil)
      (pss_one (ps_ret (pe_tup (pa_cons (pe_ix ix_list (pv 5) pe_int (fun _ _ => rfl)) (pa_cons (pe_ix ix_list (pv 5) pe_int (fun _ _ => rfl)) (pa_cons (pe_ix ix_list (pv 5) pe_int (fun _ _ => rfl)) pa_nil))))))))))))), ?_⟩
    walk_at "s"
    refine ⟨_, _, _, _, rfl, rfl, hn, namesV_at (j := b % 7) (by omega) (by omega), ?_⟩
    walk_at "s"
    refine ⟨_, _, _, _, rfl, rfl, hn, namesV_at (j := 19) (by omega) (by omega), ?_⟩
    walk_at "s"
    refine ⟨(by show 3 ≤ sizeLine; decide), fun L hL => ?_⟩
    obtain ⟨kk, ekk⟩ : ∃ kk, kk = cel ns b % 8 := ⟨_, rfl⟩
    dsimp only
    rw [← ekk]
    have k0 : 0 ≤ kk := by omega
    have k8 : kk < 8 := by omega
    obtain ⟨nb, enb⟩ : ∃ z, z = nameOf c (b % 7).toNat := ⟨_, rfl⟩
    obtain ⟨n19, en19⟩ : ∃ z, z = nameOf c (Int.toNat 19) := ⟨_, rfl⟩
    obtain ⟨pr, epr⟩ : ∃ z, z = prc (cel ns (b + 1)) := ⟨_, rfl⟩
    rw [← enb, ← en19, ← epr]
    have anb : ask (.str nb) := by rw [enb]; exact name_ask (by omega)
    have an19 : ask (.str n19) := by rw [en19]; exact name_ask (by decide)
    have nbm : nb ≠ nameOf c 20 := fun z => by
      have := name_inj (by omega) (by omega) (enb.symm.trans z)
      omega
    have n19m : n19 ≠ nameOf c 21 := fun z => by
      have := name_inj (by decide) (by omega) (en19.symm.trans z)
      have e19 : Int.toNat 19 = 19 := rfl
      omega
    have n2021 : nameOf c 20 ≠ nameOf c 21 := fun z => by
      have := name_inj (by omega) (by omega) z
      omega
    clear enb en19 epr
    -- the row's three, one if after another
    refine ⟨fun σ' H' => ∃ v1, σ' = [some (.ref l), some (.int b), some (.ref r), some (.ref nl), some (.int kk), some (.ref L)] ∧ Same H H' ∧ H' L = some (.lst [v1, .str n19, .int pr]) ∧ ask v1 ∧ (v1 = .str nb ∨ kk = 0 ∨ kk = 4), ?_, ?_⟩
    · have s1 : Same H (upd H L (.lst [.str nb, .str n19, .int pr])) := same_new hL
      have h1 : upd H L (.lst [.str nb, .str n19, .int pr]) L = some (.lst [.str nb, .str n19, .int pr]) := upd_same
      revert s1 h1
      generalize upd H L (.lst [.str nb, .str n19, .int pr]) = H1
      intro s1 h1
      walk_at "s"
      refine ⟨(by show 2 ≤ sizeLine; decide), fun t ht => ?_⟩
      have s2 : Same H1 (upd H1 t (.tup [.int 0, .int 4])) := same_new ht
      have h2 : SqT K (upd H1 t (.tup [.int 0, .int 4])) t [.int 0, .int 4] := SqT.of upd_same
      revert s2 h2
      generalize upd H1 t (.tup [.int 0, .int 4]) = H2
      intro s2 h2
      have hs2 := (Same.trans s1 s2).seq hs
      walk_at "s"
      refine ⟨_, _, rfl, .inr h2, rfl, rfl, ?_⟩
      walk_at "s"
      refine ifB (fun c1 => ?_) (fun c1 => ⟨_, rfl, Same.trans s1 s2, s2 _ _ h1, anb, .inl rfl⟩)
      have c1' : kk = 0 ∨ kk = 4 := by simpa using (inV_int (l := [0, 4])).mp c1
      walk_at "s"
      refine fun v H3 av s3 => ?_
      walk_at "s"
      refine ⟨_, _, _, _, rfl, rfl, s3 _ _ (s2 _ _ h1), rfl, ?_⟩
      exact ⟨v, rfl, same_mut (Same.trans s1 (Same.trans s2 s3)) hL, upd_same, av, .inr c1'⟩
    rintro σ1 H1 ⟨v1, rfl, s1, h1, a1, w1⟩
    refine ⟨fun σ' H' => ∃ v1 v2, σ' = [some (.ref l), some (.int b), some (.ref r), some (.ref nl), some (.int kk), some (.ref L)] ∧ Same H H' ∧ H' L = some (.lst [v1, v2, .int pr]) ∧ ask v1 ∧ ask v2 ∧ (v1 = .str nb ∨ v2 = .str n19), ?_, ?_⟩
    · walk_at "s"
      refine ⟨(by show 2 ≤ sizeLine; decide), fun t ht => ?_⟩
      have s2 : Same H1 (upd H1 t (.tup [.int 1, .int 5])) := same_new ht
      have h2 : SqT K (upd H1 t (.tup [.int 1, .int 5])) t [.int 1, .int 5] := SqT.of upd_same
      revert s2 h2
      generalize upd H1 t (.tup [.int 1, .int 5]) = H2
      intro s2 h2
      have hs2 := (Same.trans s1 s2).seq hs
      walk_at "s"
      refine ⟨_, _, rfl, .inr h2, rfl, rfl, ?_⟩
      walk_at "s"
      refine ifB (fun c1 => ?_) (fun c1 => ⟨_, _, rfl, Same.trans s1 s2, s2 _ _ h1, a1, an19, .inr rfl⟩)
      have c1' : kk = 1 ∨ kk = 5 := by simpa using (inV_int (l := [1, 5])).mp c1
      have w1' : v1 = .str nb := w1.resolve_right (by omega)
      walk_at "s"
      refine fun v H3 av s3 => ?_
      walk_at "s"
      refine ⟨_, _, _, _, rfl, rfl, s3 _ _ (s2 _ _ h1), rfl, ?_⟩
      exact ⟨v1, v, rfl, same_mut (Same.trans s1 (Same.trans s2 s3)) hL, upd_same, a1, av, .inl w1'⟩
    clear a1 w1 h1 s1
    rintro σ2 H2 ⟨v1, v2, rfl, s1, h1, a1, a2, w1⟩
    refine ⟨fun σ' H' => ∃ v1 v2, σ' = [some (.ref l), some (.int b), some (.ref r), some (.ref nl), some (.int kk), some (.ref L)] ∧ Same H H' ∧ H' L = some (.lst [v1, v2, .int pr]) ∧ ask v1 ∧ ask v2 ∧ ¬ (v1 = .str (nameOf c 20) ∧ v2 = .str (nameOf c 21)), ?_, ?_⟩
    · walk_at "s"
      have hL1 : SqL K H2 L [v1, v2, .int pr] := SqL.of h1
      refine ifD (fun c1 => ?_) (fun c1 => ?_)
      · walk_at "s"
        refine ⟨_, _, _, _, rfl, rfl, hL1, rfl, ?_⟩
        walk_at "s"
        refine ⟨_, _, _, _, rfl, rfl, h1, rfl, ?_⟩
        exact ⟨v1, v1, rfl, same_mut s1 hL, upd_same, a1, a1, fun z => n2021 (V.str.inj (z.1.symm.trans z.2))⟩
      · refine ⟨_, _, rfl, s1, h1, a1, a2, fun z => ?_⟩
        rcases w1 with e | e
        · exact nbm (V.str.inj (e.symm.trans z.1))
        · exact n19m (V.str.inj (e.symm.trans z.2))
    clear a1 a2 w1 h1 s1
    rintro σ3 H3 ⟨v1, v2, rfl, s1, h1, a1, a2, w1⟩
    refine ⟨fun σ' H' => ∃ v1 v2, σ' = [some (.ref l), some (.int b), some (.ref r), some (.ref nl), some (.int kk), some (.ref L)] ∧ Same H H' ∧ H' L = some (.lst [v1, v2, .int pr]) ∧ ask v1 ∧ ask v2 ∧ ¬ (v1 = .str (nameOf c 20) ∧ v2 = .str (nameOf c 21)), ?_, ?_⟩
    · walk_at "s"
      refine ifD (fun c1 => ?_) (fun c1 => ⟨_, _, rfl, s1, h1, a1, a2, w1⟩)
      have hrl1 := s1.seq hrl
      have hs1 := s1.seq hs
      walk_at "s"
      refine ifD (fun c2 => ?_) (fun c2 => ⟨_, _, rfl, s1, h1, a1, a2, w1⟩)
      rw [List.length_map] at c2
      have hpos : 0 < ts.length := by omega
      obtain ⟨j, ej⟩ : ∃ j, j = cel ns (b + 2) % (ts.length : Int) := ⟨_, rfl⟩
      have j0 : 0 ≤ j := by rw [ej]; exact Int.emod_nonneg _ (by omega)
      have j1 : j < (ts.length : Int) := by rw [ej]; exact Int.emod_lt_of_pos _ (by omega)
      obtain ⟨u, hu⟩ : ∃ u, ts[j.toNat]? = some u := ⟨_, List.getElem?_eq_getElem (by omega)⟩
      have at1 : atI (ts.map V.ref) j = some (.ref u) := atI_of j0 (by rw [List.getElem?_map, hu]; rfl)
      obtain ⟨g, hg1, hgv⟩ := paired_at hpr hu
      rw [ej] at at1
      obtain ⟨ag, mg'⟩ := hgs g (List.mem_of_getElem? hg1)
      have hgv1 : IsG H3 u g := s1 _ _ hgv
      walk_at "s"
      rw [List.length_map]
      refine ⟨by omega, ?_⟩
      refine ⟨_, _, _, _, rfl, rfl, hrl1, at1, ?_⟩
      walk_at "s"
      refine ⟨_, _, _, _, rfl, rfl, SqT.of hgv1, rfl, ?_⟩
      walk_at "s"
      refine ⟨_, _, _, 0, rfl, rfl, h1, rfl, ?_⟩
      have sM : Same H (upd H3 L (.lst ([v1, v2, .int pr].set 0 g.1))) := same_mut s1 hL
      have hM : upd H3 L (.lst ([v1, v2, .int pr].set 0 g.1)) L = some (.lst [g.1, v2, .int pr]) := upd_same
      have gM : IsG (upd H3 L (.lst ([v1, v2, .int pr].set 0 g.1))) u g := sM _ _ hgv
      revert sM hM gM
      generalize upd H3 L (.lst ([v1, v2, .int pr].set 0 g.1)) = H4
      intro sM hM gM
      have hs4 := sM.seq hs
      have hrl4 := sM.seq hrl
      walk_at "s"
      rw [List.length_map]
      refine ⟨by omega, ?_⟩
      refine ⟨_, _, _, _, rfl, rfl, hrl4, at1, ?_⟩
      walk_at "s"
      refine ⟨_, _, _, _, rfl, rfl, SqT.of gM, rfl, ?_⟩
      walk_at "s"
      refine ⟨_, _, _, _, rfl, rfl, hM, rfl, ?_⟩
      exact ⟨g.1, g.2.1, rfl, same_mut sM hL, upd_same, ag.1, ag.2.1, mg'⟩
    clear a1 a2 w1 h1 s1
    rintro σ4 H4 ⟨v1, v2, rfl, s1, h1, a1, a2, w1⟩
    have a3 : ask (.int pr) := .inr (.inr (.inl ⟨_, rfl⟩))
    refine ⟨fun σ' H' => ∃ v1 v2 v3, σ' = [some (.ref l), some (.int b), some (.ref r), some (.ref nl), some (.int kk), some (.ref L)] ∧ Same H H' ∧ H' L = some (.lst [v1, v2, v3]) ∧ ask v1 ∧ ask v2 ∧ ask v3 ∧ ¬ (v1 = .str (nameOf c 20) ∧ v2 = .str (nameOf c 21)), ?_, ?_⟩
    · walk_at "s"
      refine ⟨(by show 3 ≤ sizeLine; decide), fun t ht => ?_⟩
      have s2 : Same H4 (upd H4 t (.tup [.int 3, .int 4, .int 5])) := same_new ht
      have h2 : SqT K (upd H4 t (.tup [.int 3, .int 4, .int 5])) t [.int 3, .int 4, .int 5] := SqT.of upd_same
      have s12 := Same.trans s1 s2
      have h12 := s2 _ _ h1
      have hs2 := s12.seq hs
      revert s2 h2 s12 h12 hs2
      generalize upd H4 t (.tup [.int 3, .int 4, .int 5]) = H5
      intro s2 h2 s12 h12 hs2
      have set_ : ∀ v H6, ask v → Same H5 H6 → (∃ u1 u2 u3, ([some (.ref l), some (.int b), some (.ref r), some (.ref nl), some (.int kk), some (.ref L)] : L2.St) = [some (.ref l), some (.int b), some (.ref r), some (.ref nl), some (.int kk), some (.ref L)] ∧ Same H (upd H6 L (.lst [v1, v2, v])) ∧ upd H6 L (.lst [v1, v2, v]) L = some (.lst [u1, u2, u3]) ∧ ask u1 ∧ ask u2 ∧ ask u3 ∧ ¬ (u1 = .str (nameOf c 20) ∧ u2 = .str (nameOf c 21))) := fun v H6 av s6 => ⟨v1, v2, v, rfl, same_mut (Same.trans s12 s6) hL, upd_same, a1, a2, av, w1⟩
      walk_at "s"
      refine ⟨_, _, rfl, .inr h2, rfl, rfl, ?_⟩
      walk_at "s"
      refine ifB (fun c1 => ?_) (fun c1 => ?_)
      · walk_at "s"
        refine fun v H6 av s6 => ?_
        walk_at "s"
        exact ⟨_, _, _, _, rfl, rfl, s6 _ _ h12, rfl, set_ v H6 av s6⟩
      · walk_at "s"
        refine ifD (fun c2 => ?_) (fun c2 => ⟨_, _, _, rfl, s12, h12, a1, a2, a3, w1⟩)
        walk_at "s"
        refine ifD (fun c3 => ?_) (fun c3 => ⟨_, _, _, rfl, s12, h12, a1, a2, a3, w1⟩)
        walk_at "s"
        refine fun v H6 av s6 => ?_
        walk_at "s"
        exact ⟨_, _, _, _, rfl, rfl, s6 _ _ h12, rfl, set_ v H6 av s6⟩
    clear a1 a2 a3 w1 h1 s1
    rintro σ5 H5 ⟨v1, v2, v3, rfl, s1, h1, a1, a2, a3, w1⟩
    have hL5 : SqL K H5 L [v1, v2, v3] := SqL.of h1
    walk_at "s"
    refine ⟨_, _, _, _, rfl, rfl, hL5, rfl, ?_⟩
    walk_at "s"
    refine ⟨_, _, _, _, rfl, rfl, hL5, rfl, ?_⟩
    walk_at "s"
    refine ⟨_, _, _, _, rfl, rfl, hL5, rfl, ?_⟩
    walk_at "s"
    refine ⟨(by show 3 ≤ sizeLine; decide), fun t ht => ?_⟩
    exact q t _ (v1, v2, v3) (s1.free ht) (Same.trans s1 (same_new ht)) upd_same ⟨a1, a2, a3⟩ w1
end
end Fb

namespace Fb
open PySem PySem.Spec PyProof.Rows L2
local macro_rules | `(tactic| walk_at "s") => `(tactic| repeat (first | refine ⟨_, rfl, ?_⟩ | refine ⟨_, _, rfl, rfl, ?_⟩ | refine ⟨_, _, rfl, Or.inl (by assumption), ?_⟩ | refine ⟨rfl, ?_⟩ | refine ⟨(by decide : (0 : Int) < _), ?_⟩ | refine ⟨⟨by decide, by decide⟩, ?_⟩ | refine ⟨_, _, _, rfl, (by assumption), (by first | decide | omega), ?_⟩))
/-! ### what is handed in, as data -/
def givV (g : V × V × V) : List V := [g.1, g.2.1, g.2.2]
def givD (g : V × V × V) : PyData := .tuple ((givV g).map dat)
theorem giv_flat {g : V × V × V} (h : askG g) : ∀ v ∈ givV g, flat v := fun v hv => by
  unfold givV at hv
  simp only [List.mem_cons, List.not_mem_nil, or_false] at hv
  rcases hv with e | e | e <;> rw [e]
  · exact ask_flat h.1
  · exact ask_flat h.2.1
  · exact ask_flat h.2.2
theorem dp_givs {K : PySem.W.Frag} {H : Hp} : ∀ {ts : List Addr} {gs : List (V × V × V)}, (∀ g ∈ gs, askG g) → Paired (IsG H) ts gs → DpAll K H (ts.map V.ref) (gs.map givD)
  | _, _, _, .nil => .nil
  | _, _, g, .cons h t => .cons (.tup (SqT.of h) (dpAll_flat (giv_flat (g _ List.mem_cons_self)))) (dp_givs (fun r hr => g r (List.mem_cons_of_mem _ hr)) t)
theorem lay_givs : ∀ {gs : List (V × V × V)}, (∀ g ∈ gs, askG g) → PyData.canLayAll0 (gs.map givD) = true ∧ PyData.depthAll (gs.map givD) ≤ 1
  | [], _ => ⟨by simp [PyData.canLayAll0], by simp [PyData.depthAll]⟩
  | r :: rs, g => by
    have h1 := layAll_flat (giv_flat (g r List.mem_cons_self))
    have h2 := lay_givs (gs := rs) fun q hq => g q (List.mem_cons_of_mem _ hq)
    have e1 : PyData.canLay0 (givD r) = true := by unfold givD; rw [PyData.canLay0, h1.1]
    have e2 : PyData.depth (givD r) = 1 := by unfold givD; rw [PyData.depth, h1.2]
    refine ⟨?_, ?_⟩
    · rw [List.map_cons, PyData.canLayAll0, e1, h2.1]; rfl
    · rw [List.map_cons, PyData.depthAll, e2]
      exact Nat.max_le.mpr ⟨Nat.le_refl _, h2.2⟩
theorem shaped_givs {gs : List (V × V × V)} (g : ∀ r ∈ gs, askG r) : SeqAt.shaped (.list (gs.map givD)) = true := by
  have h := lay_givs g
  unfold SeqAt.shaped
  rw [PyData.canLay0, h.1, PyData.depth]
  have h2 : PyData.depthAll (gs.map givD) + 1 ≤ 64 := by omega
  rw [decide_eq_true h2]; rfl
/-! ### rows by parts -/
theorem paired_app {α β : Type} {R : α → β → Prop} : ∀ {xs xs' : List α} {ys ys' : List β}, Paired R xs ys → Paired R xs' ys' → Paired R (xs ++ xs') (ys ++ ys')
  | _, _, _, _, .nil, h => h
  | _, _, _, _, .cons r t, h => .cons r (paired_app t h)
theorem paired_take {α β : Type} {R : α → β → Prop} : ∀ {xs : List α} {ys : List β} (k : Nat), Paired R xs ys → Paired R (xs.take k) (ys.take k)
  | _, _, 0, h => by rw [List.take_zero, List.take_zero]; exact .nil
  | _, _, k + 1, .nil => by rw [List.take_nil, List.take_nil]; exact .nil
  | _, _, k + 1, .cons r t => .cons r (paired_take k t)
theorem paired_drop {α β : Type} {R : α → β → Prop} : ∀ {xs : List α} {ys : List β} (k : Nat), Paired R xs ys → Paired R (xs.drop k) (ys.drop k)
  | _, _, 0, h => h
  | _, _, k + 1, .nil => by rw [List.drop_nil, List.drop_nil]; exact .nil
  | _, _, k + 1, .cons r t => paired_drop k t
theorem isG_rows {H : Hp} {ts : List Addr} {rs : List Row} (h : Paired (IsRow H) ts rs) : Paired (IsG H) ts (rs.map givenOf) := by
  induction h with
  | nil => exact .nil
  | cons h t ih => exact .cons h ih
theorem good_take {rs : List Row} (g : GoodRows rs) (k : Nat) : GoodRows (rs.take k) := by
  refine ⟨fun r hr => g.ok r (List.mem_of_mem_take hr), ?_⟩
  rw [List.map_take]
  exact g.nd.sublist (List.take_sublist _ _)
theorem take_app : ∀ {gs : List (V × V × V)} {rs rs' : List Row} {g : V × V × V}, takeRows rs gs = (0, rs') → takeRows rs (gs ++ [g]) = takeRows rs' [g]
  | [], rs, rs', g, h => by
    have e : rs = rs' := (Prod.mk.inj h).2
    rw [e]; rfl
  | (x, y, z) :: r, rs, rs', g, h => by
    have h : (if putDue rs x y z = 0 then takeRows (rs ++ [mkRow x y z]) r else (putDue rs x y z, rs)) = (0, rs') := h
    show (if putDue rs x y z = 0 then takeRows (rs ++ [mkRow x y z]) (r ++ [g]) else (putDue rs x y z, rs)) = _
    by_cases d : putDue rs x y z = 0
    · rw [if_pos d] at h ⊢
      exact take_app h
    · rw [if_neg d] at h
      exact absurd (Prod.mk.inj h).1 d
theorem take_one (rs : List Row) (g : V × V × V) : (takeRows rs [g]).1 = putDue rs g.1 g.2.1 g.2.2 := by
  obtain ⟨x, y, z⟩ := g
  show (if putDue rs x y z = 0 then takeRows (rs ++ [mkRow x y z]) [] else (putDue rs x y z, rs)).1 = putDue rs x y z
  by_cases d : putDue rs x y z = 0
  · rw [if_pos d, d]; rfl
  · rw [if_neg d]
theorem giv_ask {rs : List Row} (g : GoodRows rs) : ∀ q ∈ rs.map givenOf, askG q := good_ask g
theorem giv_more {c : Int} {rs : List Row} (h : ∀ r ∈ rs, ¬ isMore c r) : ∀ q ∈ rs.map givenOf, ¬ moreV c q := fun q hq => by
  obtain ⟨r, hr, rfl⟩ := List.mem_map.mp hq
  exact fun m => h r hr ⟨V.str.inj m.1, V.str.inj m.2⟩
theorem more_row {c : Int} {x y z : V} (h : givenOf (mkRow x y z) = (x, y, z)) (n : ¬ moreV c (x, y, z)) : ¬ isMore c (mkRow x y z) := fun m => n (by
  rw [← h]
  exact ⟨congrArg V.str m.1, congrArg V.str m.2⟩)
theorem putRows_good {rs : List Row} {x y z : V} (g : GoodRows rs) : GoodRows (putRows rs x y z) := by
  unfold putRows
  by_cases d : putDue rs x y z = 0
  · rw [if_pos d]
    exact good_snoc g (put_row d).1 (put_row d).2.2.1
  · rw [if_neg d]; exact g
theorem putRows_len {rs : List Row} {x y z : V} : (putRows rs x y z).length ≤ rs.length + 1 := by
  unfold putRows
  split
  · rw [List.length_append]; exact Nat.le_refl _
  · omega
theorem putRows_more {c : Int} {rs : List Row} {x y z : V} (h : ∀ r ∈ rs, ¬ isMore c r) (n : ¬ moreV c (x, y, z)) : ∀ r ∈ putRows rs x y z, ¬ isMore c r := by
  unfold putRows
  by_cases d : putDue rs x y z = 0
  · rw [if_pos d]
    intro r hr
    rcases List.mem_append.mp hr with e | e
    · exact h r e
    · rw [List.mem_singleton.mp e]
      exact more_row (put_row d).2.1 n
  · rw [if_neg d]; exact h
theorem dueW_nil {n : Nat} (h : n ≤ 4) : V.str (dueW n) = V.str (Str.ofString "") ↔ n = 0 := by
  constructor
  · intro e
    have h : n = 0 ∨ n = 1 ∨ n = 2 ∨ n = 3 ∨ n = 4 := by omega
    rcases h with rfl | rfl | rfl | rfl | rfl
    · rfl
    all_goals exact absurd (V.str.inj e) (by decide)
  · intro e; rw [e]; rfl
/-- the list that the law holds the tariff against -/
def putTs (rs : List Row) (ts : List Addr) (t : Addr) (x y z : V) : List Addr := if putDue rs x y z = 0 then ts ++ [t] else ts
theorem putTs_ok {H : Hp} {rs : List Row} {ts : List Addr} {t : Addr} {x y z : V} (h : Paired (IsRow H) ts rs) (e : IsG H t (x, y, z)) : Paired (IsRow H) (putTs rs ts t x y z) (putRows rs x y z) := by
  unfold putTs putRows
  by_cases d : putDue rs x y z = 0
  · rw [if_pos d, if_pos d]; exact Paired.snoc h (isG_row d e)
  · rw [if_neg d, if_neg d]; exact h
theorem putTs_rep {rs : List Row} {ts : List Addr} {t : Addr} {x y z : V} : ts.map V.ref ++ (List.replicate (Int.toNat (if decide (V.str (dueW (putDue rs x y z)) = V.str (Str.ofString "")) = true then 1 else 0)) [V.ref t]).flatten = (putTs rs ts t x y z).map V.ref := by
  unfold putTs
  by_cases d : putDue rs x y z = 0
  · rw [if_pos d, if_pos (decide_eq_true ((dueW_nil (putDue_le _ _ _ _)).mpr d)), List.map_append]
    rfl
  · rw [if_neg d, if_neg (by rw [decide_eq_false fun z => d ((dueW_nil (putDue_le _ _ _ _)).mp z)]; exact Bool.false_ne_true)]
    simp
end Fb

namespace Fb
open PySem PySem.Spec PyProof.Rows L2
local macro_rules | `(tactic| walk_at "s") => `(tactic| repeat (first | refine ⟨_, rfl, ?_⟩ | refine ⟨_, _, rfl, rfl, ?_⟩ | refine ⟨_, _, rfl, Or.inl (by assumption), ?_⟩ | refine ⟨rfl, ?_⟩ | refine ⟨(by decide : (0 : Int) < _), ?_⟩ | refine ⟨⟨by decide, by decide⟩, ?_⟩ | refine ⟨_, _, _, rfl, (by assumption), (by first | decide | omega), ?_⟩))
def spLaw (K : PySem.W.Frag) (P : Addr) : Sp := fun vs H Q _ => ∃ (l : Addr) (ns : List Int), vs = [.ref l] ∧ SqL K H l (ns.map V.int) ∧ H P = some (TabO P) ∧ ∀ H', H' P = some (TabO P) → Q (.bl true) H'
abbrev s_law : Stmt := topS 30
abbrev N_law : List Str := ["_law_script", "_law_names_here", "_law_rows_here", "_law_at", "_law_row", "_law_all_rows", "_law_far", "_law_handed", "_law_first_here", "_law_tariff", "_law_due_here", "_law_stand", "_law_more"]
theorem sc_law : FnScope N_law ["_law_script"] (defScope s_law) := ⟨rfl, rfl, rfl, by decide +kernel, rfl, by decide +kernel, by decide +kernel⟩
section
variable {Pg : Program} {w : World} {K : PySem.W.Frag} {mg : Str → Option Value} {base : Heap} {a : Ads}
theorem ok_law {f P : Addr} {fd : FuncData} (F : Fun K "law" "law" s_law f fd) (T : Txt K mg a) (D_cell_at : Dn Pg w K mg base 1 "_law_cell_at" ["_law_script", "_law_k"] (spCell K)) (D_names : Dn Pg w K mg base 1 "_law_names" ["_law_cell", "_law_many"] spNames)
    (D_rows : Dn Pg w K mg base 2 "_law_rows" ["_law_script", "_law_names_here"] (spRows K)) (D_wrong : Dn Pg w K mg base 2 "_law_wrong" ["_law_script", "_law_begin", "_law_rows_here", "_law_names_here"] (spWrong K))
    (D_due : Dn Pg w K mg base 2 "_law_due" ["_law_row", "_law_rows_here"] (spDue K)) (D_made : Dn Pg w K mg base 6 "_law_made" ["_law_rows_here"] (spMade K P)) (D_put : Dn Pg w K mg base 4 "_law_put" ["_law_tariff", "_law_row"] (spLPut K a P))
    (D_stands : Dn Pg w K mg base 2 "_law_stands" ["_law_tariff", "_law_rows_here", "_law_row"] (spStands K a)) (D_looked : Dn Pg w K mg base 3 "_law_looked" ["_law_row"] (spLooked K P)) (D_first : Dn Pg w K mg base 3 "_law_first" ["_law_rows_here"] (spFirst K))
    (D_Tariff : Dk Pg w K mg base 4 "Tariff" a.Tariff ["self", "rows"] (spInit K a P)) : FnOk Pg w K mg base (L2N.CX Pg w) 7 f fd ["_law_script"] (spLaw K P) := by
  refine F.okN sc_law (fun vs H Q E h => ?_) (fun cdv A outer s H vs Q E hr h => ?_)
  · obtain ⟨c, _, rfl, _⟩ := h
    rfl
  · obtain ⟨l, ns, rfl, hs, hP, q⟩ := h
    refine ⟨_, (pss_cons (ps_set (i := 1) sc_law.nd rfl (by first | exact Or.inl rfl | exact Or.inr rfl) (pe_fnS D_names (hr.mono (by decide)) passC (pa_cons (pe_fnS D_cell_at (hr.mono (by decide)) passC (pa_cons (pv 0) (pa_cons pe_int pa_nil))) (pa_cons pe_int pa_nil))))
      (pss_cons (ps_set (i := 2) sc_law.nd rfl (by first | exact Or.inl rfl | exact Or.inr rfl) (pe_fnS D_rows (hr.mono (by decide)) passC (pa_cons (pv 0) (pa_cons (pv 1) pa_nil))))
      (pss_cons (ps_set (i := 3) sc_law.nd rfl (by first | exact Or.inl rfl | exact Or.inr rfl) (pe_op op_mod (pe_fnS D_cell_at (hr.mono (by decide)) passC (pa_cons (pv 0) (pa_cons pe_int pa_nil))) (pe_op op_add (pe_callB call_len_seq (by rfl) T.n_len (by decide +kernel) (pa_cons (pv 2) pa_nil)) pe_int)))
      (C8.pss_cut (ps_if (pt_cmpR op_eq (pe_callB call_len_seq (by rfl) T.n_len (by decide +kernel) (pa_cons (pv 2) pa_nil)) pe_int (nomark _)) (pss_one (ps_set (i := 3) sc_law.nd rfl (by first | exact Or.inl rfl | exact Or.inr rfl) pe_int)) pss_nil)
      (pss_cons (ps_set (i := 4) sc_law.nd rfl (by first | exact Or.inl rfl | exact Or.inr rfl) (pe_fnS D_wrong (hr.mono (by decide)) passC (pa_cons (pv 0) (pa_cons pe_int (pa_cons (pe_slice sl_list (pv 2) po_none (po_some (pv 3))) (pa_cons (pv 1) pa_nil))))))
      (pss_cons (ps_set (i := 5) sc_law.nd rfl (by first | exact Or.inl rfl | exact Or.inr rfl) (pe_op op_cat (pe_op op_cat (pe_slice sl_list (pv 2) po_none (po_some (pv 3))) (pe_lst (pa_cons (pv 4) pa_nil))) (pe_slice sl_list (pv 2) (po_some (pv 3)) po_none)))
      (C8.pss_cut (ps_if (pt_cmpR op_eq (pe_op op_mod (pe_fnS D_cell_at (hr.mono (by decide)) passC (pa_cons (pv 0) (pa_cons pe_int pa_nil))) pe_int) pe_int (nomark _)) (pss_cons (ps_set (i := 6) sc_law.nd rfl (by first | exact Or.inl rfl | exact Or.inr rfl) (pe_op op_mod (pe_op op_fdiv (pe_fnS D_cell_at (hr.mono (by decide)) passC (pa_cons (pv 0) (pa_cons pe_int pa_nil))) pe_int) (pe_op op_add (pe_callB call_len_seq (by rfl) T.n_len (by decide +kernel) (pa_cons (pv 5) pa_nil)) pe_int)))
        (pss_one (ps_if (pt_cmpR op_lt (pe_callB call_len_seq (by rfl) T.n_len (by decide +kernel) (pa_cons (pv 2) pa_nil)) pe_int (nomark _)) (pss_one (ps_set (i := 5) sc_law.nd rfl (by first | exact Or.inl rfl | exact Or.inr rfl) (pe_op op_cat (pe_op op_cat (pe_slice sl_list (pv 5) po_none (po_some (pv 6))) (pe_lst (pa_cons (pe_fnS D_wrong (hr.mono (by decide)) passC (pa_cons (pv 0) (pa_cons pe_int (pa_cons (pe_slice sl_list (pv 5) po_none (po_some (pv 6))) (pa_cons (pv 1) pa_nil))))) pa_nil))) (pe_slice sl_list (pv 5) (po_some (pv 6)) po_none)))) pss_nil))) pss_nil)
      (pss_cons (ps_set (i := 7) sc_law.nd rfl (by first | exact Or.inl rfl | exact Or.inr rfl) (pe_callTy call_list_of (by rfl) T.n_list (by decide +kernel) (pa_cons (pv 5) pa_nil)))
      (pss_cons (ps_set (i := 8) sc_law.nd rfl (by first | exact Or.inl rfl | exact Or.inr rfl) (pe_fnS D_due (hr.mono (by decide)) passC (pa_cons (pv 4) (pa_cons (pv 2) pa_nil))))
      (C8.pss_cut (ps_if (pt_cmpR op_lt (pe_callB call_len_seq (by rfl) T.n_len (by decide +kernel) (pa_cons (pv 2) pa_nil)) pe_int (nomark _)) (pss_one (ps_set (i := 8) sc_law.nd rfl (by first | exact Or.inl rfl | exact Or.inr rfl) (pe_fnS D_first (hr.mono (by decide)) passC (pa_cons (pv 5) pa_nil)))) pss_nil)
      (pss_cons (ps_if (PW.pt (pw_or (pt_cmpR op_ne (pe_fnS D_made (hr.mono (by decide)) passC (pa_cons (pv 7) pa_nil)) (pv 8) (nomark _)) (pw_or (pt_cmpR (op_neD hr.units) (pv 7) (pv 5) (nomark _)) (pw_or1 (pt_not (pt_val (pe_fnS D_looked (hr.mono (by decide)) passC (pa_cons (pv 4) pa_nil)))))))) (pss_one (ps_ret pe_bl)) pss_nil)
      (pss_cons (ps_set (i := 7) sc_law.nd rfl (by first | exact Or.inl rfl | exact Or.inr rfl) (pe_slice sl_list (pv 2) po_none (po_some (pv 3))))
      (pss_cons (ps_set (i := 9) sc_law.nd rfl (by first | exact Or.inl rfl | exact Or.inr rfl) (pe_mkS D_Tariff (hr.mono (by decide)) (fun σ => L2N.passAt (L2N.takes_of rfl rfl rfl rfl) σ) (pa_cons (pv 7) pa_nil)))
      (pss_cons (ps_set (i := 10) sc_law.nd rfl (by first | exact Or.inl rfl | exact Or.inr rfl) (pe_fnS D_due (hr.mono (by decide)) passC (pa_cons (pv 4) (pa_cons (pe_slice sl_list (pv 2) po_none (po_some (pv 3))) pa_nil))))
      (pss_cons (ps_set (i := 11) sc_law.nd rfl (by first | exact Or.inl rfl | exact Or.inr rfl) (pe_op op_cat (pe_slice sl_list (pv 2) po_none (po_some (pv 3))) (pe_op op_rep (pe_lst (pa_cons (pv 4) pa_nil)) (pe_callTy call_int1 (by rfl) T.n_int (by decide +kernel) (pa_cons (pe_cmpR op_eq (pv 10) pe_str (nomark _)) pa_nil)))))
      (pss_cons (ps_if (PW.pt (pw_or (pt_cmpR op_ne (pe_fnS D_put (hr.mono (by decide)) passC (pa_cons (pv 9) (pa_cons (pv 4) pa_nil))) (pv 10) (nomark _)) (pw_or (pt_not (pt_val (pe_fnS D_stands (hr.mono (by decide)) passC (pa_cons (pv 9) (pa_cons (pv 11) (pa_cons (pv 4) pa_nil)))))) (pw_or1 (pt_cmpR (op_neD hr.units) (pv 7) (pe_slice sl_list (pv 2) po_none (po_some (pv 3))) (nomark _)))))) (pss_one (ps_ret pe_bl)) pss_nil)
      (pss_cons (ps_expr (pe_bm0 PySem.F.plainAttrs_list PySem.F.slot_list_clear PySem.F.type_list_clear mt_clear (pv 7)))
      (pss_cons (ps_if (pt_not (pt_val (pe_fnS D_stands (hr.mono (by decide)) passC (pa_cons (pv 9) (pa_cons (pv 11) (pa_cons (pv 4) pa_nil)))))) (pss_one (ps_ret pe_bl)) pss_nil)
      (pss_cons (ps_set (i := 12) sc_law.nd rfl (by first | exact Or.inl rfl | exact Or.inr rfl) (pe_tup (pa_cons (pe_ix ix_list (pv 1) pe_int (fun _ _ => rfl)) (pa_cons (pe_ix ix_list (pv 1) pe_int (fun _ _ => rfl)) (pa_cons pe_int pa_nil)))))
      (pss_one (ps_ret (pe_or (pe_cmpR op_ge (pv 3) pe_int (nomark _)) (pe_one (pe_and (pe_cmpR op_eq (pe_fnS D_put (hr.mono (by decide)) passC (pa_cons (pv 9) (pa_cons (pv 12) pa_nil))) pe_str (nomark _)) (pe_one (pe_fnS D_stands (hr.mono (by decide)) passC (pa_cons (pv 9) (pa_cons (pe_op op_cat (pv 11) (pe_lst (pa_cons (pv 12) pa_nil))) (pa_cons (pv 4) pa_nil))))))))))))))))))))))))))))), ?_⟩
    walk_at "s"
    refine ⟨_, 22, rfl, by decide, fun nl H1 hnl s1 hn => ?_⟩
    have hn : H1 nl = some (.lst (namesV (cel ns 0) 22)) := hn
    have hs1 := s1.seq hs
    walk_at "s"
    refine ⟨l, nl, ns, cel ns 0, rfl, hs1, SqL.of hn, fun p H2 ts rs h1 s2 hp hpr hg hlen hmore => ?_⟩
    have s02 := Same.trans s1 s2
    have hs2 := s02.seq hs
    have hn2 := s2 _ _ hn
    have hP2 := s02 _ _ hP
    have lts := Paired.length hpr
    have hq2 : SqL K H2 p (ts.map V.ref) := SqL.of hp
    clear s1 h1 hs1 hn hnl
    walk_at "s"
    rw [List.length_map]
    refine ⟨by omega, ?_⟩
    refine ⟨fun σ' H' => H' = H2 ∧ ∃ at_ : Nat, at_ ≤ ts.length ∧ (ts.length = 160 → at_ = 160) ∧ σ' = [some (.ref l), some (.ref nl), some (.ref p), some (.int (at_ : Int)), none, none, none, none, none, none, none, none, none], ?_, ?_⟩
    · walk_at "s"
      rw [List.length_map]
      refine ifD (fun c1 => ?_) (fun c1 => ?_)
      · have c1' : (ts.length : Int) = 160 := V.int.inj c1
        walk_at "s"
        exact ⟨160, by omega, fun _ => rfl, rfl⟩
      · have m0 := Int.emod_nonneg (cel ns 16) (show ((ts.length : Int) + 1) ≠ 0 by omega)
        have m1 := Int.emod_lt_of_pos (cel ns 16) (show (0 : Int) < (ts.length : Int) + 1 by omega)
        refine ⟨rfl, (cel ns 16 % ((ts.length : Int) + 1)).toNat, by omega, fun z => absurd (congrArg V.int (show (ts.length : Int) = 160 by omega)) c1, ?_⟩
        rw [Int.toNat_of_nonneg m0]
        rfl
    rintro σ1 H1' ⟨rfl, at_, hat, h160, rfl⟩
    have cutA : cutV (ts.map V.ref) none (some (at_ : Int)) = (ts.take at_).map V.ref := by rw [cutV_take (by rw [List.length_map]; exact hat), List.map_take]
    have cutB : cutV (ts.map V.ref) (some (at_ : Int)) none = (ts.drop at_).map V.ref := by rw [cutV_drop (by rw [List.length_map]; exact hat), List.map_drop]
    have gA := good_take hg at_
    have mA : ∀ r ∈ rs.take at_, ¬ isMore (cel ns 0) r := fun r hr1 => hmore r (List.mem_of_mem_take hr1)
    have lA : (rs.take at_).length = at_ := by rw [List.length_take]; omega
    walk_at "s"
    refine ⟨_, _, rfl, hq2, fun b1 hb1 => ?_⟩
    rw [cutA]
    have s3 : Same H1' (upd H1' b1 (.lst ((ts.take at_).map V.ref))) := same_new hb1
    have h3 : SqL K (upd H1' b1 (.lst ((ts.take at_).map V.ref))) b1 ((ts.take at_).map V.ref) := SqL.of upd_same
    revert s3 h3
    generalize upd H1' b1 (.lst ((ts.take at_).map V.ref)) = H3
    intro s3 h3
    have gsA : ∀ g ∈ (rs.take at_).map givenOf, askG g ∧ ¬ moreV (cel ns 0) g := fun g hg1 => ⟨giv_ask gA g hg1, giv_more mA g hg1⟩
    have prA3 : Paired (IsG H3) (ts.take at_) ((rs.take at_).map givenOf) := isG_rows (paired_take at_ (rows_same s3 hpr))
    walk_at "s"
    refine ⟨l, b1, nl, ns, 18, cel ns 0, _, _, rfl, s3.seq hs2, by decide, h3, prA3, by rw [List.length_map]; omega, gsA, SqL.of (s3 _ _ hn2), fun t0 H4 g0 ht0 s4 hg0 ag0 nm0 => ?_⟩
    have s14 := Same.trans s3 s4
    have hq4 := s14.seq hq2
    clear h3 prA3 hb1
    walk_at "s"
    refine ⟨_, _, rfl, hq4, fun b2 hb2 => ?_⟩
    rw [cutA]
    have s5 : Same H4 (upd H4 b2 (.lst ((ts.take at_).map V.ref))) := same_new hb2
    have h5 : upd H4 b2 (.lst ((ts.take at_).map V.ref)) b2 = some (.lst ((ts.take at_).map V.ref)) := upd_same
    revert s5 h5
    generalize upd H4 b2 (.lst ((ts.take at_).map V.ref)) = H5
    intro s5 h5
    walk_at "s"
    refine ⟨(by show 1 ≤ sizeLine; decide), fun b3 hb3 => ?_⟩
    have s6 : Same H5 (upd H5 b3 (.lst [V.ref t0])) := same_new hb3
    have h6 : upd H5 b3 (.lst [V.ref t0]) b3 = some (.lst [V.ref t0]) := upd_same
    revert s6 h6
    generalize upd H5 b3 (.lst [V.ref t0]) = H6
    intro s6 h6
    have lA2 : ((ts.take at_).map V.ref).length ≤ 160 := by rw [List.length_map, List.length_take]; omega
    refine ⟨_, _, _, _, rfl, rfl, s6 _ _ h5, h6, szl (by show _ + 1 ≤ _; omega), fun b4 hb4 => ?_⟩
    have s7 : Same H6 (upd H6 b4 (.lst ((ts.take at_).map V.ref ++ [V.ref t0]))) := same_new hb4
    have h7 : upd H6 b4 (.lst ((ts.take at_).map V.ref ++ [V.ref t0])) b4 = some (.lst ((ts.take at_).map V.ref ++ [V.ref t0])) := upd_same
    revert s7 h7
    generalize upd H6 b4 (.lst ((ts.take at_).map V.ref ++ [V.ref t0])) = H7
    intro s7 h7
    have s17 := Same.trans s14 (Same.trans s5 (Same.trans s6 s7))
    have hq7 := s17.seq hq2
    walk_at "s"
    refine ⟨_, _, rfl, hq7, fun b5 hb5 => ?_⟩
    rw [cutB]
    have s8 : Same H7 (upd H7 b5 (.lst ((ts.drop at_).map V.ref))) := same_new hb5
    have h8 : upd H7 b5 (.lst ((ts.drop at_).map V.ref)) b5 = some (.lst ((ts.drop at_).map V.ref)) := upd_same
    revert s8 h8
    generalize upd H7 b5 (.lst ((ts.drop at_).map V.ref)) = H8
    intro s8 h8
    have lB2 : ((ts.drop at_).map V.ref).length ≤ 160 := by rw [List.length_map, List.length_drop]; omega
    refine ⟨_, _, _, _, rfl, rfl, s8 _ _ h7, h8, szl (by rw [List.length_append]; show _ + 1 + _ ≤ _; omega), fun b6 hb6 => ?_⟩
    have eAll : (ts.take at_).map V.ref ++ [V.ref t0] ++ (ts.drop at_).map V.ref = (ts.take at_ ++ [t0] ++ ts.drop at_).map V.ref := by simp
    rw [eAll]
    have s9 : Same H8 (upd H8 b6 (.lst ((ts.take at_ ++ [t0] ++ ts.drop at_).map V.ref))) := same_new hb6
    have h9 : upd H8 b6 (.lst ((ts.take at_ ++ [t0] ++ ts.drop at_).map V.ref)) b6 = some (.lst ((ts.take at_ ++ [t0] ++ ts.drop at_).map V.ref)) := upd_same
    revert s9 h9
    generalize upd H8 b6 (.lst ((ts.take at_ ++ [t0] ++ ts.drop at_).map V.ref)) = H9
    intro s9 h9
    have s19 := Same.trans s17 (Same.trans s8 s9)
    have s49 := Same.trans s5 (Same.trans s6 (Same.trans s7 (Same.trans s8 s9)))
    have hg9 : IsG H9 t0 g0 := s49 _ _ hg0
    have pr9 : Paired (IsRow H9) ts rs := rows_same s19 hpr
    have gAll : Paired (IsG H9) (ts.take at_ ++ [t0] ++ ts.drop at_) ((rs.take at_).map givenOf ++ [g0] ++ (rs.drop at_).map givenOf) :=
      paired_app (paired_app (isG_rows (paired_take at_ pr9)) (.cons hg9 .nil)) (isG_rows (paired_drop at_ pr9))
    have askAll : ∀ g ∈ (rs.take at_).map givenOf ++ [g0] ++ (rs.drop at_).map givenOf, askG g ∧ ¬ moreV (cel ns 0) g := fun g hg1 => by
      rcases List.mem_append.mp hg1 with h | h
      · rcases List.mem_append.mp h with h | h
        · exact gsA g h
        · rw [List.mem_singleton.mp h]; exact ⟨ag0, nm0⟩
      · obtain ⟨r, hr1, rfl⟩ := List.mem_map.mp h
        have hr2 := List.mem_of_mem_drop hr1
        exact ⟨giv_ask hg _ (List.mem_map.mpr ⟨r, hr2, rfl⟩), giv_more hmore _ (List.mem_map.mpr ⟨r, hr2, rfl⟩)⟩
    have lenAll : ((rs.take at_).map givenOf ++ [g0] ++ (rs.drop at_).map givenOf).length = ts.length + 1 := by
      simp only [List.length_append, List.length_map, List.length_take, List.length_drop, List.length_cons, List.length_nil]
      omega
    have at160 : ts.length = 160 → (rs.take at_).map givenOf ++ [g0] ++ (rs.drop at_).map givenOf = rs.map givenOf ++ [g0] := fun z => by
      have e := h160 z
      rw [List.take_of_length_le (by omega), List.drop_eq_nil_of_le (by omega)]
      simp
    have lts9 : (ts.take at_ ++ [t0] ++ ts.drop at_).length = ts.length + 1 := by
      simp only [List.length_append, List.length_take, List.length_drop, List.length_cons, List.length_nil]
      omega
    revert h9 gAll askAll lenAll at160 lts9
    generalize ts.take at_ ++ [t0] ++ ts.drop at_ = tsA
    generalize (rs.take at_).map givenOf ++ [g0] ++ (rs.drop at_).map givenOf = gsA1
    intro h9 gAll askAll lenAll at160 lts9
    clear eAll s8 h8 s7 h7 s6 h6 s5 h5 hb2 hb3 hb4 hb5 hb6 s17 hq7 hq4 s14 s3
    have hq9 := s19.seq hq2
    have hs9 := s19.seq hs2
    have hn9 := s19 _ _ hn2
    have hP9 := s19 _ _ hP2
    have hA9 : SqL K H9 b6 (tsA.map V.ref) := SqL.of h9
    -- one more wrong row, or none
    refine ⟨fun σ' H' => Same H9 H' ∧ ∃ (A : Addr) (tsF : List Addr) (gsF : List (V × V × V)) (v6 : Option V), σ' = [some (.ref l), some (.ref nl), some (.ref p), some (.int (at_ : Int)), some (.ref t0), some (.ref A), v6, none, none, none, none, none, none] ∧ H' A = some (.lst (tsF.map V.ref)) ∧ Paired (IsG H') tsF gsF ∧ (∀ g ∈ gsF, askG g) ∧ gsF.length ≤ 170 ∧ (ts.length = 160 → gsF = rs.map givenOf ++ [g0]), ?_, ?_⟩
    · walk_at "s"
      refine ifD (fun c1 => ?_) (fun c1 => ⟨Same.refl _, b6, tsA, gsA1, _, rfl, h9, gAll, fun g hg1 => (askAll g hg1).1, by omega, at160⟩)
      walk_at "s"
      rw [List.length_map, lts9]
      refine ⟨by omega, ?_⟩
      obtain ⟨fr, efr, hfr⟩ : ∃ fr : Nat, cel ns 17 / 3 % (((ts.length + 1 : Nat) : Int) + 1) = (fr : Int) ∧ fr ≤ ts.length + 1 := by
        have m0 := Int.emod_nonneg (cel ns 17 / 3) (show (((ts.length + 1 : Nat) : Int) + 1) ≠ 0 by omega)
        have m1 := Int.emod_lt_of_pos (cel ns 17 / 3) (show (0 : Int) < ((ts.length + 1 : Nat) : Int) + 1 by omega)
        exact ⟨(cel ns 17 / 3 % (((ts.length + 1 : Nat) : Int) + 1)).toNat, by omega, by omega⟩
      dsimp only
      rw [efr]
      have cutC : cutV (tsA.map V.ref) none (some (fr : Int)) = (tsA.take fr).map V.ref := by rw [cutV_take (by rw [List.length_map]; omega), List.map_take]
      have cutD : cutV (tsA.map V.ref) (some (fr : Int)) none = (tsA.drop fr).map V.ref := by rw [cutV_drop (by rw [List.length_map]; omega), List.map_drop]
      walk_at "s"
      rw [List.length_map]
      refine ifD (fun c2 => ?_) (fun c2 => ⟨Same.refl _, b6, tsA, gsA1, _, rfl, h9, gAll, fun g hg1 => (askAll g hg1).1, by omega, at160⟩)
      walk_at "s"
      refine ⟨_, _, rfl, hA9, fun b2 hb2 => ?_⟩
      rw [cutC]
      have s5 : Same H9 (upd H9 b2 (.lst ((tsA.take fr).map V.ref))) := same_new hb2
      have h5 : upd H9 b2 (.lst ((tsA.take fr).map V.ref)) b2 = some (.lst ((tsA.take fr).map V.ref)) := upd_same
      revert s5 h5
      generalize upd H9 b2 (.lst ((tsA.take fr).map V.ref)) = H5
      intro s5 h5
      have hA5 := s5.seq hA9
      walk_at "s"
      refine ⟨_, _, rfl, hA5, fun b1 hb1 => ?_⟩
      rw [cutC]
      have s3 : Same H5 (upd H5 b1 (.lst ((tsA.take fr).map V.ref))) := same_new hb1
      have h3 : SqL K (upd H5 b1 (.lst ((tsA.take fr).map V.ref))) b1 ((tsA.take fr).map V.ref) := SqL.of upd_same
      revert s3 h3
      generalize upd H5 b1 (.lst ((tsA.take fr).map V.ref)) = H3
      intro s3 h3
      have s53 := Same.trans s5 s3
      have ltk : ((gsA1.take fr)).length ≤ 400 := by rw [List.length_take]; omega
      walk_at "s"
      refine ⟨l, b1, nl, ns, 23, cel ns 0, _, _, rfl, s53.seq hs9, by decide, h3, isG_same s53 (paired_take fr gAll), ltk, fun g hg1 => askAll g (List.mem_of_mem_take hg1), SqL.of (s53 _ _ hn9), fun t1 H4 g1 ht1 s4 hg1 ag1 nm1 => ?_⟩
      walk_at "s"
      refine ⟨(by show 1 ≤ sizeLine; decide), fun b3 hb3 => ?_⟩
      have s6 : Same H4 (upd H4 b3 (.lst [V.ref t1])) := same_new hb3
      have h6 : upd H4 b3 (.lst [V.ref t1]) b3 = some (.lst [V.ref t1]) := upd_same
      revert s6 h6
      generalize upd H4 b3 (.lst [V.ref t1]) = H6
      intro s6 h6
      have lA3 : ((tsA.take fr).map V.ref).length ≤ 170 := by rw [List.length_map, List.length_take]; omega
      refine ⟨_, _, _, _, rfl, rfl, s6 _ _ (s4 _ _ (s3 _ _ h5)), h6, szl (by show _ + 1 ≤ _; omega), fun b4 hb4 => ?_⟩
      have s7 : Same H6 (upd H6 b4 (.lst ((tsA.take fr).map V.ref ++ [V.ref t1]))) := same_new hb4
      have h7 : upd H6 b4 (.lst ((tsA.take fr).map V.ref ++ [V.ref t1])) b4 = some (.lst ((tsA.take fr).map V.ref ++ [V.ref t1])) := upd_same
      revert s7 h7
      generalize upd H6 b4 (.lst ((tsA.take fr).map V.ref ++ [V.ref t1])) = H7
      intro s7 h7
      have s97 := Same.trans s53 (Same.trans s4 (Same.trans s6 s7))
      have hA7 := s97.seq hA9
      walk_at "s"
      refine ⟨_, _, rfl, hA7, fun b5 hb5 => ?_⟩
      rw [cutD]
      have s8 : Same H7 (upd H7 b5 (.lst ((tsA.drop fr).map V.ref))) := same_new hb5
      have h8 : upd H7 b5 (.lst ((tsA.drop fr).map V.ref)) b5 = some (.lst ((tsA.drop fr).map V.ref)) := upd_same
      revert s8 h8
      generalize upd H7 b5 (.lst ((tsA.drop fr).map V.ref)) = H8
      intro s8 h8
      have lB3 : ((tsA.drop fr).map V.ref).length ≤ 170 := by rw [List.length_map, List.length_drop]; omega
      refine ⟨_, _, _, _, rfl, rfl, s8 _ _ h7, h8, szl (by rw [List.length_append]; show _ + 1 + _ ≤ _; omega), fun b7 hb7 => ?_⟩
      have eAll : (tsA.take fr).map V.ref ++ [V.ref t1] ++ (tsA.drop fr).map V.ref = (tsA.take fr ++ [t1] ++ tsA.drop fr).map V.ref := by simp
      rw [eAll]
      have s10 : Same H8 (upd H8 b7 (.lst ((tsA.take fr ++ [t1] ++ tsA.drop fr).map V.ref))) := same_new hb7
      have s910 := Same.trans s97 (Same.trans s8 s10)
      have g10 := (Same.trans s6 (Same.trans s7 (Same.trans s8 s10))) _ _ hg1
      have gA10 := isG_same s910 gAll
      refine ⟨s910, b7, tsA.take fr ++ [t1] ++ tsA.drop fr, gsA1.take fr ++ [g1] ++ gsA1.drop fr, _, rfl, upd_same, paired_app (paired_app (paired_take fr gA10) (.cons g10 .nil)) (paired_drop fr gA10), fun g hg2 => ?_, ?_, fun z => by omega⟩
      · rcases List.mem_append.mp hg2 with h | h
        · rcases List.mem_append.mp h with h | h
          · exact (askAll g (List.mem_of_mem_take h)).1
          · rw [List.mem_singleton.mp h]; exact ag1
        · exact (askAll g (List.mem_of_mem_drop h)).1
      · simp only [List.length_append, List.length_take, List.length_drop, List.length_cons, List.length_nil]
        omega
    clear gAll askAll lenAll at160 lts9 h9 hA9
    rintro σ2 H10 ⟨s10, A_, tsF, gsF, v6, rfl, hA, gF, askF, lenF, at160⟩
    have hs10 := s10.seq hs9
    have hq10 := s10.seq hq9
    have hn10 := s10 _ _ hn9
    have hP10 := s10 _ _ hP9
    have hg10 : IsG H10 t0 g0 := s10 _ _ hg9
    have pr10 := rows_same s10 pr9
    have hA10 : SqL K H10 A_ (tsF.map V.ref) := SqL.of hA
    clear s10 hs9 hq9 hn9 hP9 hg9 pr9
    walk_at "s"
    intro hd hhd
    have s11 : Same H10 (upd H10 hd (.lst (tsF.map V.ref))) := same_new hhd
    have hd11 : upd H10 hd (.lst (tsF.map V.ref)) hd = some (.lst (tsF.map V.ref)) := upd_same
    revert s11 hd11
    generalize upd H10 hd (.lst (tsF.map V.ref)) = H11
    intro s11 hd11
    walk_at "s"
    refine ⟨t0, p, g0.1, g0.2.1, g0.2.2, ts, rs, rfl, SqT.of (s11 _ _ hg10), ag0.1, ag0.2.1, ag0.2.2, s11.seq hq10, rows_same s11 pr10, by omega, fun H12 s12 => ?_⟩
    have s1012 := Same.trans s11 s12
    have hd12 := s12 _ _ hd11
    have hA12 := s1012.seq hA10
    have gF12 := isG_same s1012 gF
    refine ⟨fun σ' H' => σ' = [some (.ref l), some (.ref nl), some (.ref p), some (.int (at_ : Int)), some (.ref t0), some (.ref A_), v6, some (.ref hd), some (.str (dueW (takeRows [] gsF).1)), none, none, none, none] ∧ Same H12 H', ?_, ?_⟩
    · have hq12 := s1012.seq hq10
      walk_at "s"
      rw [List.length_map]
      refine ifD (fun c1 => ?_) (fun c1 => ?_)
      · walk_at "s"
        exact ⟨askF, by omega, fun H13 s13 => ⟨rfl, s13⟩⟩
      · refine ⟨?_, Same.refl _⟩
        have e160 : ts.length = 160 := by omega
        have e1 := take_app (g := g0) (take_good (rs := []) (rs' := rs) (by simpa using hg) (by simpa using hlen))
        rw [at160 e160, e1, List.nil_append, take_one]
        rfl
    rintro σ3 H13 ⟨rfl, s13⟩
    have s1013 := Same.trans s1012 s13
    have hs13 := s1013.seq hs10
    have hq13 := s1013.seq hq10
    have hn13 := s1013 _ _ hn10
    have hP13 := s1013 _ _ hP10
    have hg13 : IsG H13 t0 g0 := s1013 _ _ hg10
    have pr13 := rows_same s1013 pr10
    have hA13 := s13.seq hA12
    have gF13 := isG_same s13 gF12
    have hd13 : SqL K H13 hd (tsF.map V.ref) := SqL.of (s13 _ _ hd12)
    clear hs10 hq10 hn10 hP10 hg10 pr10 hA12 gF12 hd12 s1013 s1012 s13 s12 s11 hd11 hA10 gF hA hhd
    walk_at "s"
    refine ⟨hd, tsF, gsF, rfl, hP13, hd13, gF13, askF, by omega, fun H14 s14 => ?_⟩
    walk_at "s"
    refine ifND (fun z => absurd rfl z) (fun _ => ?_)
    have shF := shaped_givs askF
    have gF14 := isG_same s14 gF13
    walk_at "s"
    refine ⟨_, _, .lst (s14.seq hd13) (dp_givs askF gF14), .lst (s14.seq hA13) (dp_givs askF gF14), shF, shF, ?_⟩
    rw [eqv_self shF]
    walk_at "s"
    refine ⟨t0, g0.1, g0.2.1, g0.2.2, rfl, SqT.of (s14 _ _ hg13), ag0.1, ag0.2.1, ag0.2.2, s14 _ _ hP13, fun H15 s15 => ?_⟩
    have s1315 := Same.trans s14 s15
    have hq15 := s1315.seq hq13
    have hn15 := s1315 _ _ hn13
    have hP15 := s1315 _ _ hP13
    have hg15 : IsG H15 t0 g0 := s1315 _ _ hg13
    have pr15 := rows_same s1315 pr13
    clear hs13 hq13 hn13 hP13 hg13 pr13 hA13 gF13 hd13 gF14 s1315 s14 s15 shF
    walk_at "s"
    refine ⟨_, _, rfl, hq15, fun hh hhh => ?_⟩
    rw [cutA]
    have nnl : nl ≠ hh := ne_of_none hn15 hhh
    have s16 : Same H15 (upd H15 hh (.lst ((ts.take at_).map V.ref))) := same_new hhh
    have hh16 : upd H15 hh (.lst ((ts.take at_).map V.ref)) hh = some (.lst ((ts.take at_).map V.ref)) := upd_same
    revert s16 hh16
    generalize upd H15 hh (.lst ((ts.take at_).map V.ref)) = H16
    intro s16 hh16
    have prA16 : Paired (IsRow H16) (ts.take at_) (rs.take at_) := paired_take at_ (rows_same s16 pr15)
    have tk : takeRows [] ((rs.take at_).map givenOf) = (0, rs.take at_) := take_good (rs := []) (by simpa using gA) (by simp; omega)
    have hh16q : SqL K H16 hh ((ts.take at_).map V.ref) := SqL.of hh16
    walk_at "s"
    intro x dx hx hdx hne
    have m1 : Same H16 (upd (upd H16 dx (.own x)) x (.ins a.Tariff dx [])) := fun b o e => by rw [upd_ne (ne_of_none e hx), upd_ne (ne_of_none e hdx)]; exact e
    refine ⟨x, dx, hh, ts.take at_, (rs.take at_).map givenOf, rfl, upd_same, m1 _ _ (s16 _ _ hP15), m1.seq hh16q, given_rows (rows_same m1 prA16), good_ask gA, by rw [List.length_map]; omega, fun _ d H17 hd17 sb17 T17 => ⟨rfl, ?_⟩, fun e => absurd (by rw [tk]) e⟩
    rw [tk] at T17
    have s17 : Same H16 H17 := fun b o e => sb17 _ _ (ne_of_none e hx) (m1 _ _ e)
    have s1517 := Same.trans s16 s17
    have hq17 := s1517.seq hq15
    walk_at "s"
    refine ⟨_, _, rfl, hq17, fun b1 hb1 => ?_⟩
    rw [cutA]
    have s18 : Same H17 (upd H17 b1 (.lst ((ts.take at_).map V.ref))) := same_new hb1
    have h18 : SqL K (upd H17 b1 (.lst ((ts.take at_).map V.ref))) b1 ((ts.take at_).map V.ref) := SqL.of upd_same
    revert s18 h18
    generalize upd H17 b1 (.lst ((ts.take at_).map V.ref)) = H18
    intro s18 h18
    have s1518 := Same.trans s1517 s18
    walk_at "s"
    refine ⟨t0, b1, g0.1, g0.2.1, g0.2.2, ts.take at_, rs.take at_, rfl, SqT.of (s1518 _ _ hg15), ag0.1, ag0.2.1, ag0.2.2, h18, paired_take at_ (rows_same s1518 pr15), by omega, fun H19 s19 => ?_⟩
    have s1519 := Same.trans s1518 s19
    have s1719 := Same.trans s18 s19
    have T19 := T17.same s1719
    have hq19 := s1519.seq hq15
    have hn19 := s1519 _ _ hn15
    have hP19 := s1519 _ _ hP15
    have hg19 : IsG H19 t0 g0 := s1519 _ _ hg15
    have pr19 := rows_same s1519 pr15
    have hh19 := s1719 _ _ (s17 _ _ hh16)
    clear hq15 hn15 hP15 hg15 pr15 hh16 hh16q prA16 hq17 h18 hb1 hhh T17 hx hdx hne m1 sb17 hd17 s1519 s1719 s1518 s1517
    -- the rows that it is held against
    walk_at "s"
    refine ⟨_, _, rfl, hq19, fun b2 hb2 => ?_⟩
    rw [cutA]
    have s20 : Same H19 (upd H19 b2 (.lst ((ts.take at_).map V.ref))) := same_new hb2
    have h20 : upd H19 b2 (.lst ((ts.take at_).map V.ref)) b2 = some (.lst ((ts.take at_).map V.ref)) := upd_same
    revert s20 h20
    generalize upd H19 b2 (.lst ((ts.take at_).map V.ref)) = H20
    intro s20 h20
    walk_at "s"
    refine ⟨(by show 1 ≤ sizeLine; decide), fun b3 hb3 => ?_⟩
    have s21 : Same H20 (upd H20 b3 (.lst [V.ref t0])) := same_new hb3
    have h21 : upd H20 b3 (.lst [V.ref t0]) b3 = some (.lst [V.ref t0]) := upd_same
    revert s21 h21
    generalize upd H20 b3 (.lst [V.ref t0]) = H21
    intro s21 h21
    walk_at "s"
    refine .inr ⟨_, rfl, ?_⟩
    obtain ⟨kr, ekr, kr0, kr1⟩ : ∃ kr : Int, kr = (if decide (V.str (dueW (putDue (rs.take at_) g0.1 g0.2.1 g0.2.2)) = V.str (Str.ofString "")) = true then 1 else 0) ∧ 0 ≤ kr ∧ kr ≤ 1 := by
      refine ⟨_, rfl, ?_⟩
      split <;> exact ⟨by decide, by decide⟩
    have erep := putTs_rep (rs := rs.take at_) (ts := ts.take at_) (t := t0) (x := g0.1) (y := g0.2.1) (z := g0.2.2)
    rw [← ekr] at erep ⊢
    refine ⟨_, _, _, rfl, rfl, h21, by omega, by omega, (by show 1 * kr.toNat ≤ sizeLine; exact szl (by omega)), fun b4 hb4 => ?_⟩
    have s22 : Same H21 (upd H21 b4 (.lst (List.replicate kr.toNat [V.ref t0]).flatten)) := same_new hb4
    have h22 : upd H21 b4 (.lst (List.replicate kr.toNat [V.ref t0]).flatten) b4 = some (.lst (List.replicate kr.toNat [V.ref t0]).flatten) := upd_same
    have h22' := s22 _ _ (s21 _ _ h20)
    have lrep : (List.replicate kr.toNat [V.ref t0]).flatten.length ≤ 1 := by
      have z : kr.toNat = 0 ∨ kr.toNat = 1 := by omega
      rcases z with z | z <;> rw [z] <;> simp
    revert s22 h22 h22' lrep
    generalize upd H21 b4 (.lst (List.replicate kr.toNat [V.ref t0]).flatten) = H22
    intro s22 h22 h22' lrep
    refine ⟨_, _, _, _, rfl, rfl, h22', h22, szl (by rw [List.length_map, List.length_take]; omega), fun st hst => ?_⟩
    rw [erep]
    have nst : st ≠ hh := (ne_of_none (s22 _ _ (s21 _ _ (s20 _ _ hh19))) hst).symm
    have s23 : Same H22 (upd H22 st (.lst ((putTs (rs.take at_) (ts.take at_) t0 g0.1 g0.2.1 g0.2.2).map V.ref))) := same_new hst
    have h23 : upd H22 st (.lst ((putTs (rs.take at_) (ts.take at_) t0 g0.1 g0.2.1 g0.2.2).map V.ref)) st = some (.lst ((putTs (rs.take at_) (ts.take at_) t0 g0.1 g0.2.1 g0.2.2).map V.ref)) := upd_same
    revert s23 h23
    generalize upd H22 st (.lst ((putTs (rs.take at_) (ts.take at_) t0 g0.1 g0.2.1 g0.2.2).map V.ref)) = H23
    intro s23 h23
    have s1923 := Same.trans s20 (Same.trans s21 (Same.trans s22 s23))
    have T23 := T19.same s1923
    have hg23 : IsG H23 t0 g0 := s1923 _ _ hg19
    have hP23 := s1923 _ _ hP19
    have hn23 := s1923 _ _ hn19
    have hh23 := s1923 _ _ hh19
    have pr23 := rows_same s1923 pr19
    have hq23 := s1923.seq hq19
    have prS : Paired (IsRow H23) (putTs (rs.take at_) (ts.take at_) t0 g0.1 g0.2.1 g0.2.2) (putRows (rs.take at_) g0.1 g0.2.1 g0.2.2) := putTs_ok (paired_take at_ pr23) hg23
    have gS := putRows_good (x := g0.1) (y := g0.2.1) (z := g0.2.2) gA
    have lS := putRows_len (rs := rs.take at_) (x := g0.1) (y := g0.2.1) (z := g0.2.2)
    have mS := putRows_more (x := g0.1) (y := g0.2.1) (z := g0.2.2) mA nm0
    clear T19 hg19 hP19 hn19 hh19 pr19 hq19 s1923 s23 s22 s21 s20 h22 h22' h21 h20 hb2 hb3 hb4 hst erep ekr kr0 kr1 lrep
    walk_at "s"
    refine ⟨x, d, t0, g0.1, g0.2.1, g0.2.2, rs.take at_, rfl, SqT.of hg23, ag0.1, ag0.2.1, ag0.2.2, hP23, T23, by omega, fun H24 sb24 T24 => ?_⟩
    have hd23 := T23.dc
    have hg24 : IsG H24 t0 g0 := sb24 _ _ (ne_of hg23 hd23 (by intro z; cases z)) hg23
    have hP24 := sb24 _ _ (ne_of hP23 hd23 (by intro z; cases z)) hP23
    have hn24 := sb24 _ _ (ne_of hn23 hd23 (by intro z; cases z)) hn23
    have hh24 := sb24 _ _ (ne_of hh23 hd23 (by intro z; cases z)) hh23
    have h24 := sb24 _ _ (ne_of h23 hd23 (by intro z; cases z)) h23
    have hq24 : SqL K H24 p (ts.map V.ref) := but_l sb24 hd23 (fun _ z => nomatch z) (fun _ _ z => nomatch z) hq23
    have pr24 := rows_but sb24 hd23 (fun _ z => nomatch z) pr23
    have prS24 := rows_but sb24 hd23 (fun _ z => nomatch z) prS
    clear hg23 hP23 hn23 hh23 h23 hq23 pr23 prS sb24 T23 hd23
    revert gS lS mS T24 prS24 h24
    generalize putRows (rs.take at_) g0.1 g0.2.1 g0.2.2 = rsS
    generalize putTs (rs.take at_) (ts.take at_) t0 g0.1 g0.2.1 g0.2.2 = tsS
    intro gS lS mS T24 h24 prS24
    walk_at "s"
    refine ifND (fun z => absurd rfl z) (fun _ => ?_)
    have hS24 : SqL K H24 st (tsS.map V.ref) := SqL.of h24
    walk_at "s"
    refine ⟨x, d, st, t0, g0.1, g0.2.1, g0.2.2, tsS, rsS, rfl, T24, hS24, prS24, gS, by omega, SqT.of hg24, ag0.1, ag0.2.1, ag0.2.2, fun H25 s25 => ?_⟩
    have hq25 := s25.seq hq24
    walk_at "s"
    refine ⟨_, _, rfl, hq25, fun b5 hb5 => ?_⟩
    rw [cutA]
    have s26 : Same H25 (upd H25 b5 (.lst ((ts.take at_).map V.ref))) := same_new hb5
    have h26 : SqL K (upd H25 b5 (.lst ((ts.take at_).map V.ref))) b5 ((ts.take at_).map V.ref) := SqL.of upd_same
    revert s26 h26
    generalize upd H25 b5 (.lst ((ts.take at_).map V.ref)) = H26
    intro s26 h26
    have s2426 := Same.trans s25 s26
    have hh26 := s2426 _ _ hh24
    have prA26 : Paired (IsRow H26) (ts.take at_) (rs.take at_) := paired_take at_ (rows_same s2426 pr24)
    have shA := shaped_rows gA.ok
    walk_at "s"
    refine ⟨_, _, .lst (SqL.of hh26) (dp_rows gA.ok prA26), .lst h26 (dp_rows gA.ok prA26), shA, shA, ?_⟩
    rw [eqv_self shA]
    have hg26 : IsG H26 t0 g0 := s2426 _ _ hg24
    have hP26 := s2426 _ _ hP24
    have hn26 := s2426 _ _ hn24
    have hS26 := s2426 _ _ h24
    have prS26 := rows_same s2426 prS24
    have T26 := T24.same s2426
    clear hg24 hP24 hn24 hh24 h24 hS24 hq24 pr24 prS24 T24 hq25 hb5 h26 prA26 s26 s25 s2426
    walk_at "s"
    refine ⟨.inl ⟨rfl, _, SqL.of hh26⟩, _, _, rfl, rfl, hh26, ?_⟩
    have b27 : SameB hh H26 (upd H26 hh (.lst [])) := fun b o nb e => by rw [upd_ne nb]; exact e
    revert b27
    generalize upd H26 hh (.lst []) = H27
    intro b27
    have hg27 : IsG H27 t0 g0 := b27 _ _ (ne_of hg26 hh26 (by intro z; cases z)) hg26
    have hP27 := b27 _ _ (ne_of hP26 hh26 (by intro z; cases z)) hP26
    have hn27 := b27 _ _ nnl hn26
    have hS27 := b27 _ _ nst hS26
    have prS27 := rows_but b27 hh26 (fun _ z => nomatch z) prS26
    have T27 : TarAt a.Tariff H27 x d rsS := T26.keep fun b o hb e => by
      obtain ⟨dz, oz⟩ := T26.ob
      rcases hb with rfl | rfl
      · exact b27 _ _ (ne_of oz hh26 (by intro z; cases z)) e
      · exact b27 _ _ (ne_of T26.dc hh26 (by intro z; cases z)) e
    clear hg26 hP26 hn26 hS26 prS26 T26 hh26 b27
    have hS27q : SqL K H27 st (tsS.map V.ref) := SqL.of hS27
    walk_at "s"
    refine ⟨x, d, st, t0, g0.1, g0.2.1, g0.2.2, tsS, rsS, rfl, T27, hS27q, prS27, gS, by omega, SqT.of hg27, ag0.1, ag0.2.1, ag0.2.2, fun H28 s28 => ?_⟩
    have hn28q : SqL K H28 nl (namesV (cel ns 0) 22) := SqL.of (s28 _ _ hn27)
    walk_at "s"
    refine ⟨_, _, _, _, rfl, rfl, hn28q, namesV_at (j := 20) (by omega) (by omega), ?_⟩
    walk_at "s"
    refine ⟨_, _, _, _, rfl, rfl, hn28q, namesV_at (j := 21) (by omega) (by omega), ?_⟩
    walk_at "s"
    refine ⟨(by show 3 ≤ sizeLine; decide), fun tm htm => ?_⟩
    have e20 : nameOf (cel ns 0) (Int.toNat 20) = nameOf (cel ns 0) 20 := rfl
    have e21 : nameOf (cel ns 0) (Int.toNat 21) = nameOf (cel ns 0) 21 := rfl
    rw [e20, e21]
    obtain ⟨n20, en20⟩ : ∃ z, z = nameOf (cel ns 0) 20 := ⟨_, rfl⟩
    obtain ⟨n21, en21⟩ : ∃ z, z = nameOf (cel ns 0) 21 := ⟨_, rfl⟩
    have p20 : isP (.str n20) = true := by rw [en20]; exact name_isP (by omega)
    have p21 : isP (.str n21) = true := by rw [en21]; exact name_isP (by omega)
    have n2021 : n20 ≠ n21 := fun z => by
      have := name_inj (by omega) (by omega) (en20.symm.trans (z.trans en21))
      omega
    have hnew : (n20, n21) ∉ rsS.map fun r => (r.1, r.2.1) := fun hm => by
      obtain ⟨r, hr1, er⟩ := List.mem_map.mp hm
      exact mS r hr1 ⟨(Prod.mk.inj er).1.trans en20, (Prod.mk.inj er).2.trans en21⟩
    rw [← en20, ← en21]
    have gM : GoodRow (n20, n21, (0 : Int)) := ⟨p20, p21, n2021, (by decide : isC (.int 0) = true)⟩
    have s29 : Same H28 (upd H28 tm (.tup [.str n20, .str n21, .int 0])) := same_new htm
    have hm29 : upd H28 tm (.tup [.str n20, .str n21, .int 0]) tm = some (.tup [.str n20, .str n21, .int 0]) := upd_same
    revert s29 hm29
    generalize upd H28 tm (.tup [.str n20, .str n21, .int 0]) = H29
    intro s29 hm29
    have s2729 := Same.trans s28 s29
    have hg29 : IsG H29 t0 g0 := s2729 _ _ hg27
    have hP29 := s2729 _ _ hP27
    have hS29 := s2729 _ _ hS27
    have prS29 := rows_same s2729 prS27
    have T29 := T27.same s2729
    walk_at "s"
    refine ifD (fun c1 => q _ hP29) (fun c1 => ?_)
    have lS2 : rsS.length < 160 := by omega
    have e0 : putDue rsS (.str n20) (.str n21) (.int 0) = 0 := put_good gM hnew lS2
    walk_at "s"
    refine ⟨x, d, tm, .str n20, .str n21, .int 0, rsS, rfl, SqT.of hm29, isP_ask p20, isP_ask p21, .inr (.inr (.inl ⟨_, rfl⟩)), hP29, T29, by omega, fun H30 sb30 T30 => ?_⟩
    rw [e0]
    have er : putRows rsS (.str n20) (.str n21) (.int 0) = rsS ++ [(n20, n21, 0)] := by unfold putRows; rw [if_pos e0]; rfl
    rw [er] at T30
    have hd29 := T29.dc
    have hg30 : IsG H30 t0 g0 := sb30 _ _ (ne_of hg29 hd29 (by intro z; cases z)) hg29
    have hP30 := sb30 _ _ (ne_of hP29 hd29 (by intro z; cases z)) hP29
    have hS30 := sb30 _ _ (ne_of hS29 hd29 (by intro z; cases z)) hS29
    have hm30 := sb30 _ _ (ne_of hm29 hd29 (by intro z; cases z)) hm29
    have prS30 := rows_but sb30 hd29 (fun _ z => nomatch z) prS29
    walk_at "s"
    refine ⟨(by show 1 ≤ sizeLine; decide), fun b6 hb6 => ?_⟩
    have s31 : Same H30 (upd H30 b6 (.lst [V.ref tm])) := same_new hb6
    have h31 : upd H30 b6 (.lst [V.ref tm]) b6 = some (.lst [V.ref tm]) := upd_same
    revert s31 h31
    generalize upd H30 b6 (.lst [V.ref tm]) = H31
    intro s31 h31
    have ltS := Paired.length prS30
    refine ⟨_, _, _, _, rfl, rfl, s31 _ _ hS30, h31, szl (by rw [List.length_map]; show _ + 1 ≤ _; omega), fun b7 hb7 => ?_⟩
    have eM : tsS.map V.ref ++ [V.ref tm] = (tsS ++ [tm]).map V.ref := by simp
    rw [eM]
    have s32 : Same H31 (upd H31 b7 (.lst ((tsS ++ [tm]).map V.ref))) := same_new hb7
    have h32 : SqL K (upd H31 b7 (.lst ((tsS ++ [tm]).map V.ref))) b7 ((tsS ++ [tm]).map V.ref) := SqL.of upd_same
    have s3032 := Same.trans s31 s32
    walk_at "s"
    refine ⟨x, d, b7, t0, g0.1, g0.2.1, g0.2.2, tsS ++ [tm], rsS ++ [(n20, n21, 0)], rfl, T30.same s3032, h32, Paired.snoc (rows_same s3032 prS30) (s3032 _ _ hm30), good_snoc gS gM hnew, by rw [List.length_append]; show _ + 1 ≤ _; omega, SqT.of (s3032 _ _ hg30), ag0.1, ag0.2.1, ag0.2.2, fun H33 s33 => ?_⟩
    exact q _ (s33 _ _ (s3032 _ _ hP30))
end
end Fb

namespace Fb
open PySem PySem.Spec PyProof.Rows L2
theorem all_mk {w : World} {K : PySem.W.Frag} {h : Heap} {mg : Str → Option Value} {fa cFareError cBadPlace cBadPrice cTwiceTold cTooMany cTariff f_is_place f_is_price f_Tariff_put f_Tariff_init f_Tariff_price f_Tariff_told f__law_cell_at f__law_names f__law_price f__law_rows f__law_bad_place f__law_bad_price f__law_wrong f__law_is_place f__law_is_price f__law_due f__law_said f__law_made f__law_put f__law_stands f__law_looked f__law_first f_law c_is_place P_is_place : Addr} {l : PySem.W.OpenLaw} (X : K.In h) (G : h.Ns mainGlobals mg) (hfa : mg "law" = some (.ref fa)) (tabs : ∀ g ∈ (["is_place"] : List Str), TabN mg h g)
    (hFareError : EA K "FareError" cFareError) (hBadPlace : EA K "BadPlace" cBadPlace) (hBadPrice : EA K "BadPrice" cBadPrice) (hTwiceTold : EA K "TwiceTold" cTwiceTold)
    (hTooMany : EA K "TooMany" cTooMany) (sBadPlace : PySem.W.subIn K (.ref cBadPlace) (.ref cFareError) = some true) (sBadPrice : PySem.W.subIn K (.ref cBadPrice) (.ref cFareError) = some true) (sTwiceTold : PySem.W.subIn K (.ref cTwiceTold) (.ref cFareError) = some true)
    (sTooMany : PySem.W.subIn K (.ref cTooMany) (.ref cFareError) = some true) (sBadPlace_BadPrice : PySem.W.subIn K (.ref cBadPlace) (.ref cBadPrice) = some false) (nBadPlace_BadPrice : (Value.ref cBadPlace == Value.ref cBadPrice) = false) (sBadPlace_TwiceTold : PySem.W.subIn K (.ref cBadPlace) (.ref cTwiceTold) = some false)
    (nBadPlace_TwiceTold : (Value.ref cBadPlace == Value.ref cTwiceTold) = false) (sBadPlace_TooMany : PySem.W.subIn K (.ref cBadPlace) (.ref cTooMany) = some false) (nBadPlace_TooMany : (Value.ref cBadPlace == Value.ref cTooMany) = false) (sBadPrice_BadPlace : PySem.W.subIn K (.ref cBadPrice) (.ref cBadPlace) = some false)
    (nBadPrice_BadPlace : (Value.ref cBadPrice == Value.ref cBadPlace) = false) (sBadPrice_TwiceTold : PySem.W.subIn K (.ref cBadPrice) (.ref cTwiceTold) = some false) (nBadPrice_TwiceTold : (Value.ref cBadPrice == Value.ref cTwiceTold) = false) (sBadPrice_TooMany : PySem.W.subIn K (.ref cBadPrice) (.ref cTooMany) = some false)
    (nBadPrice_TooMany : (Value.ref cBadPrice == Value.ref cTooMany) = false) (sTwiceTold_BadPlace : PySem.W.subIn K (.ref cTwiceTold) (.ref cBadPlace) = some false) (nTwiceTold_BadPlace : (Value.ref cTwiceTold == Value.ref cBadPlace) = false) (sTwiceTold_BadPrice : PySem.W.subIn K (.ref cTwiceTold) (.ref cBadPrice) = some false)
    (nTwiceTold_BadPrice : (Value.ref cTwiceTold == Value.ref cBadPrice) = false) (sTwiceTold_TooMany : PySem.W.subIn K (.ref cTwiceTold) (.ref cTooMany) = some false) (nTwiceTold_TooMany : (Value.ref cTwiceTold == Value.ref cTooMany) = false) (sTooMany_BadPlace : PySem.W.subIn K (.ref cTooMany) (.ref cBadPlace) = some false)
    (nTooMany_BadPlace : (Value.ref cTooMany == Value.ref cBadPlace) = false) (sTooMany_BadPrice : PySem.W.subIn K (.ref cTooMany) (.ref cBadPrice) = some false) (nTooMany_BadPrice : (Value.ref cTooMany == Value.ref cBadPrice) = false) (sTooMany_TwiceTold : PySem.W.subIn K (.ref cTooMany) (.ref cTwiceTold) = some false)
    (nTooMany_TwiceTold : (Value.ref cTooMany == Value.ref cTwiceTold) = false) (hTariff : CA K "Tariff" cTariff) (naP : PySem.W.findIn K (.ref cTariff) "_prices" = some none) (gLONGEST_PLACE : ∃ t, PySem.W.nsIn K mainGlobals "LONGEST_PLACE" = some (some (.int 12 t)))
    (gHIGHEST_PRICE : ∃ t, PySem.W.nsIn K mainGlobals "HIGHEST_PRICE" = some (some (.int 1000000000000 t))) (gMOST_ROWS : ∃ t, PySem.W.nsIn K mainGlobals "MOST_ROWS" = some (some (.int 160 t))) (n_len : PySem.W.nsIn K mainGlobals "len" = some none) (n_int : PySem.W.nsIn K mainGlobals "int" = some none)
    (n_str : PySem.W.nsIn K mainGlobals "str" = some none) (n_list : PySem.W.nsIn K mainGlobals "list" = some none) (n_tuple : PySem.W.nsIn K mainGlobals "tuple" = some none) (n_dict : PySem.W.nsIn K mainGlobals "dict" = some none)
    (n_isinstance : PySem.W.nsIn K mainGlobals "isinstance" = some none) (n_range : PySem.W.nsIn K mainGlobals "range" = some none) (n_enumerate : PySem.W.nsIn K mainGlobals "enumerate" = some none) (n_all : PySem.W.nsIn K mainGlobals "all" = some none)
    (n_any : PySem.W.nsIn K mainGlobals "any" = some none) (n_sum : PySem.W.nsIn K mainGlobals "sum" = some none) (n_min : PySem.W.nsIn K mainGlobals "min" = some none) (n_max : PySem.W.nsIn K mainGlobals "max" = some none)
    (n_abs : PySem.W.nsIn K mainGlobals "abs" = some none) (n_sorted : PySem.W.nsIn K mainGlobals "sorted" = some none) (n_zip : PySem.W.nsIn K mainGlobals "zip" = some none) (n_reversed : PySem.W.nsIn K mainGlobals "reversed" = some none)
    (n_bool : PySem.W.nsIn K mainGlobals "bool" = some none) (n_ValueError : PySem.W.nsIn K mainGlobals "ValueError" = some none) (h_is_place : FAC K "is_place" s_is_place f_is_place c_is_place P_is_place) (h_is_price : FA K "is_price" s_is_price f_is_price)
    (h_Tariff_put : FM K cTariff "put" "Tariff.put" s_Tariff_put f_Tariff_put) (h_Tariff_init : FM K cTariff "__init__" "Tariff.__init__" s_Tariff_init f_Tariff_init) (h_Tariff_price : FM K cTariff "price" "Tariff.price" s_Tariff_price f_Tariff_price) (h_Tariff_told : FM K cTariff "told" "Tariff.told" s_Tariff_told f_Tariff_told)
    (h__law_cell_at : FA K "_law_cell_at" s__law_cell_at f__law_cell_at) (h__law_names : FA K "_law_names" s__law_names f__law_names) (h__law_price : FA K "_law_price" s__law_price f__law_price) (h__law_rows : FA K "_law_rows" s__law_rows f__law_rows)
    (h__law_bad_place : FA K "_law_bad_place" s__law_bad_place f__law_bad_place) (h__law_bad_price : FA K "_law_bad_price" s__law_bad_price f__law_bad_price) (h__law_wrong : FA K "_law_wrong" s__law_wrong f__law_wrong) (h__law_is_place : FA K "_law_is_place" s__law_is_place f__law_is_place)
    (h__law_is_price : FA K "_law_is_price" s__law_is_price f__law_is_price) (h__law_due : FA K "_law_due" s__law_due f__law_due) (h__law_said : FA K "_law_said" s__law_said f__law_said) (h__law_made : FA K "_law_made" s__law_made f__law_made)
    (h__law_put : FA K "_law_put" s__law_put f__law_put) (h__law_stands : FA K "_law_stands" s__law_stands f__law_stands) (h__law_looked : FA K "_law_looked" s__law_looked f__law_looked) (h__law_first : FA K "_law_first" s__law_first f__law_first)
    (h_law : FA K "law" s_law f_law)
    : LawT l w K 7 63 "_law_script" mg fa h := by
  have e := hfa.symm.trans (PySem.W.mg_of X G h_law.a)
  cases e
  obtain ⟨a, ea⟩ : ∃ a : Ads, a = ⟨cFareError, cBadPlace, cBadPrice, cTwiceTold, cTooMany, 0, 0, 0, 0, 0, cTariff⟩ := ⟨_, rfl⟩
  have T : Txt K mg a := by
    rw [ea]
    exact { n_len := PySem.W.mg_none_of X G n_len, n_int := PySem.W.mg_none_of X G n_int, n_str := PySem.W.mg_none_of X G n_str, n_list := PySem.W.mg_none_of X G n_list, n_tuple := PySem.W.mg_none_of X G n_tuple, n_dict := PySem.W.mg_none_of X G n_dict, n_isinstance := PySem.W.mg_none_of X G n_isinstance, n_range := PySem.W.mg_none_of X G n_range, n_enumerate := PySem.W.mg_none_of X G n_enumerate, n_all := PySem.W.mg_none_of X G n_all, n_any := PySem.W.mg_none_of X G n_any, n_sum := PySem.W.mg_none_of X G n_sum, n_min := PySem.W.mg_none_of X G n_min, n_max := PySem.W.mg_none_of X G n_max, n_abs := PySem.W.mg_none_of X G n_abs, n_sorted := PySem.W.mg_none_of X G n_sorted, n_zip := PySem.W.mg_none_of X G n_zip, n_reversed := PySem.W.mg_none_of X G n_reversed, n_bool := PySem.W.mg_none_of X G n_bool, n_ValueError := PySem.W.mg_none_of X G n_ValueError, c_LONGEST_PLACE := FA.gint X G gLONGEST_PLACE, c_HIGHEST_PRICE := FA.gint X G gHIGHEST_PRICE, c_MOST_ROWS := FA.gint X G gMOST_ROWS, x_FareError := hFareError.exk X G, x_BadPlace := hBadPlace.exk X G, x_BadPrice := hBadPrice.exk X G, x_TwiceTold := hTwiceTold.exk X G, x_TooMany := hTooMany.exk X G, e_BadPlace := hFareError.exm sBadPlace, i_BadPlace := hBadPlace.exc, v_BadPlace := hBadPlace.kitV, k_BadPlace_BadPlace := kit_self, k_BadPlace_BadPrice := hBadPrice.kit sBadPlace_BadPrice nBadPlace_BadPrice, k_BadPlace_TwiceTold := hTwiceTold.kit sBadPlace_TwiceTold nBadPlace_TwiceTold, k_BadPlace_TooMany := hTooMany.kit sBadPlace_TooMany nBadPlace_TooMany, e_BadPrice := hFareError.exm sBadPrice, i_BadPrice := hBadPrice.exc, v_BadPrice := hBadPrice.kitV, k_BadPrice_BadPlace := hBadPlace.kit sBadPrice_BadPlace nBadPrice_BadPlace, k_BadPrice_BadPrice := kit_self, k_BadPrice_TwiceTold := hTwiceTold.kit sBadPrice_TwiceTold nBadPrice_TwiceTold, k_BadPrice_TooMany := hTooMany.kit sBadPrice_TooMany nBadPrice_TooMany, e_TwiceTold := hFareError.exm sTwiceTold, i_TwiceTold := hTwiceTold.exc, v_TwiceTold := hTwiceTold.kitV, k_TwiceTold_BadPlace := hBadPlace.kit sTwiceTold_BadPlace nTwiceTold_BadPlace, k_TwiceTold_BadPrice := hBadPrice.kit sTwiceTold_BadPrice nTwiceTold_BadPrice, k_TwiceTold_TwiceTold := kit_self, k_TwiceTold_TooMany := hTooMany.kit sTwiceTold_TooMany nTwiceTold_TooMany, e_TooMany := hFareError.exm sTooMany, i_TooMany := hTooMany.exc, v_TooMany := hTooMany.kitV, k_TooMany_BadPlace := hBadPlace.kit sTooMany_BadPlace nTooMany_BadPlace, k_TooMany_BadPrice := hBadPrice.kit sTooMany_BadPrice nTooMany_BadPrice, k_TooMany_TwiceTold := hTwiceTold.kit sTooMany_TwiceTold nTooMany_TwiceTold, k_TooMany_TooMany := kit_self, cl_Tariff := hTariff.cls, na_prices := naP }
  have eT : a.Tariff = cTariff := by rw [ea]
  obtain ⟨hT_is_place, hC_is_place⟩ := h_is_place.tab X G (tabs _ (by simp))
  obtain ⟨oc, od, kV, dc, pm, an, cd, ct, osl, lL, cL⟩ := h_law.l
  refine ⟨PySem.W.fnOf "law" "law" (defArgs s_law) (defBody s_law) (defScope s_law) .none kV dc pm an cd ct, [(c_is_place, P_is_place)], (spLaw K P_is_place), fun p hp => ?_, fun p hp => ?_, fun p hp => ?_, fun s u => .of_eq rfl, fun H b ns _ hbits hP hS => ?_, fun base hb hn hB => ?_⟩
  · simp only [List.mem_cons, List.not_mem_nil, or_false] at hp
    subst hp; exact hT_is_place
  · simp only [List.mem_cons, List.not_mem_nil, or_false] at hp
    subst hp; exact h_is_place.n
  · simp only [List.mem_cons, List.not_mem_nil, or_false] at hp
    subst hp; exact hC_is_place
  · refine ⟨b, ns, rfl, hS, hP (c_is_place, P_is_place) (by simp), fun H' q0 => ⟨fun p hp => ?_, rfl⟩⟩
    simp only [List.mem_cons, List.not_mem_nil, or_false] at hp
    subst hp; exact q0
  · have TB_is_place : GxR.TabB base mg c_is_place P_is_place := hB (c_is_place, P_is_place) (by simp)
    have D_is_place : Dn l.prog w K mg base 2 "is_place" ["thing"] (spIsPlace P_is_place) := h_is_place.dn X G (fun _ F => ok_is_place F T TB_is_place) (fun _ _ _ _ _ _ us hl => match us, hl with | [_], _ => rfl)
    have D_is_price : Dn l.prog w K mg base 1 "is_price" ["thing"] spIsPrice := h_is_price.dn X G (fun _ F => ok_is_price F T ) (fun _ _ _ _ _ _ us hl => match us, hl with | [_], _ => rfl)
    have D_Tariff_put : Dm l.prog w K mg base 3 a.Tariff "put" ["self", "here", "there", "price"] (spPut a P_is_place) := by
      rw [eT]
      exact h_Tariff_put.dm (fun _ F => by have z := ok_put (Pg := l.prog) (w := w) (base := base) F T D_is_place D_is_price; exact z) (fun _ _ _ _ _ _ us hl => match us, hl with | [_, _, _, _], _ => rfl)
    have D_Tariff_init : Dk l.prog w K mg base 4 "Tariff" a.Tariff ["self", "rows"] (spInit K a P_is_place) := by
      have z := h_Tariff_init.dk (Pg := l.prog) (w := w) (base := base) hTariff X G (fun _ F => ok_init F T D_Tariff_put) (fun _ _ _ _ _ _ us hl => match us, hl with | [_, _], _ => rfl)
      rw [eT]; exact z
    have D_Tariff_price : Dm l.prog w K mg base 1 a.Tariff "price" ["self", "here", "there"] (spPrice a) := by
      rw [eT]
      exact h_Tariff_price.dm (fun _ F => by have z := ok_price (Pg := l.prog) (w := w) (base := base) F T ; exact z) (fun _ _ _ _ _ _ us hl => match us, hl with | [_, _, _], _ => rfl)
    have D_Tariff_told : Dm l.prog w K mg base 1 a.Tariff "told" ["self"] (spTold a) := by
      rw [eT]
      exact h_Tariff_told.dm (fun _ F => by have z := ok_told (Pg := l.prog) (w := w) (base := base) F T ; exact z) (fun _ _ _ _ _ _ us hl => match us, hl with | [_], _ => rfl)
    have D__law_cell_at : Dn l.prog w K mg base 1 "_law_cell_at" ["_law_script", "_law_k"] (spCell K) := h__law_cell_at.dn X G (fun _ F => ok_cell F T ) (fun _ _ _ _ _ _ us hl => match us, hl with | [_, _], _ => rfl)
    have D__law_names : Dn l.prog w K mg base 1 "_law_names" ["_law_cell", "_law_many"] spNames := h__law_names.dn X G (fun _ F => ok_names F T ) (fun _ _ _ _ _ _ us hl => match us, hl with | [_, _], _ => rfl)
    have D__law_price : Dn l.prog w K mg base 1 "_law_price" ["_law_cell"] spPrc := h__law_price.dn X G (fun _ F => ok_prc F T ) (fun _ _ _ _ _ _ us hl => match us, hl with | [_], _ => rfl)
    have D__law_rows : Dn l.prog w K mg base 2 "_law_rows" ["_law_script", "_law_names_here"] (spRows K) := h__law_rows.dn X G (fun _ F => ok_rows F T D__law_cell_at D__law_price) (fun _ _ _ _ _ _ us hl => match us, hl with | [_, _], _ => rfl)
    have D__law_bad_place : Dn l.prog w K mg base 1 "_law_bad_place" ["_law_cell"] spBadP := h__law_bad_place.dn X G (fun _ F => ok_badplace F T ) (fun _ _ _ _ _ _ us hl => match us, hl with | [_], _ => rfl)
    have D__law_bad_price : Dn l.prog w K mg base 1 "_law_bad_price" ["_law_cell"] spBadP := h__law_bad_price.dn X G (fun _ F => ok_badprice F T ) (fun _ _ _ _ _ _ us hl => match us, hl with | [_], _ => rfl)
    have D__law_wrong : Dn l.prog w K mg base 2 "_law_wrong" ["_law_script", "_law_begin", "_law_rows_here", "_law_names_here"] (spWrong K) := h__law_wrong.dn X G (fun _ F => ok_wrong F T D__law_cell_at D__law_price D__law_bad_place D__law_bad_price) (fun _ _ _ _ _ _ us hl => match us, hl with | [_, _, _, _], _ => rfl)
    have D__law_is_place : Dn l.prog w K mg base 1 "_law_is_place" ["_law_thing"] spLIsPlace := h__law_is_place.dn X G (fun _ F => ok_lis_place F T ) (fun _ _ _ _ _ _ us hl => match us, hl with | [_], _ => rfl)
    have D__law_is_price : Dn l.prog w K mg base 1 "_law_is_price" ["_law_thing"] spIsPrice := h__law_is_price.dn X G (fun _ F => ok_lis_price F T ) (fun _ _ _ _ _ _ us hl => match us, hl with | [_], _ => rfl)
    have D__law_due : Dn l.prog w K mg base 2 "_law_due" ["_law_row", "_law_rows_here"] (spDue K) := h__law_due.dn X G (fun _ F => ok_due F T D__law_is_place D__law_is_price) (fun _ _ _ _ _ _ us hl => match us, hl with | [_, _], _ => rfl)
    have D__law_said : DnE l.prog w K mg base 1 "_law_said" ["_law_error"] (spSaid a) := h__law_said.dne X G (fun _ F => ok_said F T ) (fun _ _ _ _ _ _ us hl => match us, hl with | [_], _ => rfl)
    have D__law_made : Dn l.prog w K mg base 6 "_law_made" ["_law_rows_here"] (spMade K P_is_place) := h__law_made.dn X G (fun _ F => ok_made F T D__law_said D_Tariff_init) (fun _ _ _ _ _ _ us hl => match us, hl with | [_], _ => rfl)
    have D__law_put : Dn l.prog w K mg base 4 "_law_put" ["_law_tariff", "_law_row"] (spLPut K a P_is_place) := h__law_put.dn X G (fun _ F => ok_lput F T D__law_said D_Tariff_put) (fun _ _ _ _ _ _ us hl => match us, hl with | [_, _], _ => rfl)
    have D__law_stands : Dn l.prog w K mg base 2 "_law_stands" ["_law_tariff", "_law_rows_here", "_law_row"] (spStands K a) := h__law_stands.dn X G (fun _ F => ok_stands F T D__law_is_place D_Tariff_price D_Tariff_told) (fun _ _ _ _ _ _ us hl => match us, hl with | [_, _, _], _ => rfl)
    have D__law_looked : Dn l.prog w K mg base 3 "_law_looked" ["_law_row"] (spLooked K P_is_place) := h__law_looked.dn X G (fun _ F => ok_looked F T D_is_place D_is_price D__law_is_place D__law_is_price) (fun _ _ _ _ _ _ us hl => match us, hl with | [_], _ => rfl)
    have D__law_first : Dn l.prog w K mg base 3 "_law_first" ["_law_rows_here"] (spFirst K) := h__law_first.dn X G (fun _ F => ok_first F T D__law_due) (fun _ _ _ _ _ _ us hl => match us, hl with | [_], _ => rfl)
    exact ok_law (fun_mk (st := s_law) lL cL h_law.k) T D__law_cell_at D__law_names D__law_rows D__law_wrong D__law_due D__law_made D__law_put D__law_stands D__law_looked D__law_first D_Tariff_init
end Fb
open PySem PySem.W PyProof.Rows
set_option maxRecDepth 100000 in
set_option maxHeartbeats 0 in
theorem PySem.Challenge.cw_farebreak_k02_refused_rows_holds : PySem.Challenge.rw_farebreak_k02_refused_rows.Holds := by
  w_on; o_law; k_head; (case hw => w_witness2)
  k_fill
  refine Fb.walk_tab (l := PySem.Challenge.rw_farebreak_k02_refused_rows) (n := 63) (k := 7) (x := "_law_script") ["is_place"] rfl (by decide) rfl ⟨rfl, by decide, by decide⟩ (fun g hg => ?R) (fun w h Y => PySem.W.kIn_of Y) ?F
  case R =>
    simp only [List.mem_cons, List.not_mem_nil, or_false] at hg
    subst hg; first | decide +kernel | rfl
  case F =>
    intro w mg fa h Y KX G hmg tabs
    refine' Fb.all_mk (l := PySem.Challenge.rw_farebreak_k02_refused_rows) KX G hmg tabs ?ahFareError ?ahBadPlace ?ahBadPrice ?ahTwiceTold ?ahTooMany ?asBadPlace ?asBadPrice ?asTwiceTold ?asTooMany ?asBadPlace_BadPrice ?anBadPlace_BadPrice ?asBadPlace_TwiceTold ?anBadPlace_TwiceTold ?asBadPlace_TooMany ?anBadPlace_TooMany ?asBadPrice_BadPlace ?anBadPrice_BadPlace ?asBadPrice_TwiceTold ?anBadPrice_TwiceTold ?asBadPrice_TooMany ?anBadPrice_TooMany ?asTwiceTold_BadPlace ?anTwiceTold_BadPlace ?asTwiceTold_BadPrice ?anTwiceTold_BadPrice ?asTwiceTold_TooMany ?anTwiceTold_TooMany ?asTooMany_BadPlace ?anTooMany_BadPlace ?asTooMany_BadPrice ?anTooMany_BadPrice ?asTooMany_TwiceTold ?anTooMany_TwiceTold ?ahTariff ?anaP ?agLONGEST_PLACE ?agHIGHEST_PRICE ?agMOST_ROWS ?an_len ?an_int ?an_str ?an_list ?an_tuple ?an_dict ?an_isinstance ?an_range ?an_enumerate ?an_all ?an_any ?an_sum ?an_min ?an_max ?an_abs ?an_sorted ?an_zip ?an_reversed ?an_bool ?an_ValueError ?ah_is_place ?ah_is_price ?ah_Tariff_put ?ah_Tariff_init ?ah_Tariff_price ?ah_Tariff_told ?ah__law_cell_at ?ah__law_names ?ah__law_price ?ah__law_rows ?ah__law_bad_place ?ah__law_bad_price ?ah__law_wrong ?ah__law_is_place ?ah__law_is_price ?ah__law_due ?ah__law_said ?ah__law_made ?ah__law_put ?ah__law_stands ?ah__law_looked ?ah__law_first ?ah_law
    (case ahFareError => exact Fb.EA.mk (by k_is) (by k_is) (by k_exc) (by k_is) (by k_is) (by k_is) (by k_is) (by k_is) (by k_is) (by k_is) (by k_is) (by k_is) (by k_is) (by k_is))
    (case ahBadPlace => exact Fb.EA.mk (by k_is) (by k_is) (by k_exc) (by k_is) (by k_is) (by k_is) (by k_is) (by k_is) (by k_is) (by k_is) (by k_is) (by k_is) (by k_is) (by k_is))
    (case ahBadPrice => exact Fb.EA.mk (by k_is) (by k_is) (by k_exc) (by k_is) (by k_is) (by k_is) (by k_is) (by k_is) (by k_is) (by k_is) (by k_is) (by k_is) (by k_is) (by k_is))
    (case ahTwiceTold => exact Fb.EA.mk (by k_is) (by k_is) (by k_exc) (by k_is) (by k_is) (by k_is) (by k_is) (by k_is) (by k_is) (by k_is) (by k_is) (by k_is) (by k_is) (by k_is))
    (case ahTooMany => exact Fb.EA.mk (by k_is) (by k_is) (by k_exc) (by k_is) (by k_is) (by k_is) (by k_is) (by k_is) (by k_is) (by k_is) (by k_is) (by k_is) (by k_is) (by k_is))
    (case asBadPlace => k_is)
    (case asBadPrice => k_is)
    (case asTwiceTold => k_is)
    (case asTooMany => k_is)
    (case asBadPlace_BadPrice => k_is)
    (case anBadPlace_BadPrice => first | rfl | decide)
    (case asBadPlace_TwiceTold => k_is)
    (case anBadPlace_TwiceTold => first | rfl | decide)
    (case asBadPlace_TooMany => k_is)
    (case anBadPlace_TooMany => first | rfl | decide)
    (case asBadPrice_BadPlace => k_is)
    (case anBadPrice_BadPlace => first | rfl | decide)
    (case asBadPrice_TwiceTold => k_is)
    (case anBadPrice_TwiceTold => first | rfl | decide)
    (case asBadPrice_TooMany => k_is)
    (case anBadPrice_TooMany => first | rfl | decide)
    (case asTwiceTold_BadPlace => k_is)
    (case anTwiceTold_BadPlace => first | rfl | decide)
    (case asTwiceTold_BadPrice => k_is)
    (case anTwiceTold_BadPrice => first | rfl | decide)
    (case asTwiceTold_TooMany => k_is)
    (case anTwiceTold_TooMany => first | rfl | decide)
    (case asTooMany_BadPlace => k_is)
    (case anTooMany_BadPlace => first | rfl | decide)
    (case asTooMany_BadPrice => k_is)
    (case anTooMany_BadPrice => first | rfl | decide)
    (case asTooMany_TwiceTold => k_is)
    (case anTooMany_TwiceTold => first | rfl | decide)
    (case ahTariff => exact Fb.CA.mk (by k_is) (by k_is) (by k_is) (by k_is) (by k_is) (by k_is) (by k_is))
    (case anaP => k_is)
    (case agLONGEST_PLACE => exact Fb.gi_mk (by k_is))
    (case agHIGHEST_PRICE => exact Fb.gi_mk (by k_is))
    (case agMOST_ROWS => exact Fb.gi_mk (by k_is))
    (case an_len => k_is)
    (case an_int => k_is)
    (case an_str => k_is)
    (case an_list => k_is)
    (case an_tuple => k_is)
    (case an_dict => k_is)
    (case an_isinstance => k_is)
    (case an_range => k_is)
    (case an_enumerate => k_is)
    (case an_all => k_is)
    (case an_any => k_is)
    (case an_sum => k_is)
    (case an_min => k_is)
    (case an_max => k_is)
    (case an_abs => k_is)
    (case an_sorted => k_is)
    (case an_zip => k_is)
    (case an_reversed => k_is)
    (case an_bool => k_is)
    (case an_ValueError => k_is)
    (case ah_is_place => exact Fb.fac_mk (by k_is) (by k_is) (by k_is) (by k_is) (by k_is) (by rfl) (by first | rfl | decide +kernel))
    (case ah_is_price => exact Fb.fa_mk (by k_is) (by k_is) (by k_is) (by k_is))
    (case ah_Tariff_put => exact Fb.fm_mk (by k_is) (by k_is) (by k_is) (by k_is) (by k_is))
    (case ah_Tariff_init => exact Fb.fm_mk (by k_is) (by k_is) (by k_is) (by k_is) (by k_is))
    (case ah_Tariff_price => exact Fb.fm_mk (by k_is) (by k_is) (by k_is) (by k_is) (by k_is))
    (case ah_Tariff_told => exact Fb.fm_mk (by k_is) (by k_is) (by k_is) (by k_is) (by k_is))
    (case ah__law_cell_at => exact Fb.fa_mk (by k_is) (by k_is) (by k_is) (by k_is))
    (case ah__law_names => exact Fb.fa_mk (by k_is) (by k_is) (by k_is) (by k_is))
    (case ah__law_price => exact Fb.fa_mk (by k_is) (by k_is) (by k_is) (by k_is))
    (case ah__law_rows => exact Fb.fa_mk (by k_is) (by k_is) (by k_is) (by k_is))
    (case ah__law_bad_place => exact Fb.fa_mk (by k_is) (by k_is) (by k_is) (by k_is))
    (case ah__law_bad_price => exact Fb.fa_mk (by k_is) (by k_is) (by k_is) (by k_is))
    (case ah__law_wrong => exact Fb.fa_mk (by k_is) (by k_is) (by k_is) (by k_is))
    (case ah__law_is_place => exact Fb.fa_mk (by k_is) (by k_is) (by k_is) (by k_is))
    (case ah__law_is_price => exact Fb.fa_mk (by k_is) (by k_is) (by k_is) (by k_is))
    (case ah__law_due => exact Fb.fa_mk (by k_is) (by k_is) (by k_is) (by k_is))
    (case ah__law_said => exact Fb.fa_mk (by k_is) (by k_is) (by k_is) (by k_is))
    (case ah__law_made => exact Fb.fa_mk (by k_is) (by k_is) (by k_is) (by k_is))
    (case ah__law_put => exact Fb.fa_mk (by k_is) (by k_is) (by k_is) (by k_is))
    (case ah__law_stands => exact Fb.fa_mk (by k_is) (by k_is) (by k_is) (by k_is))
    (case ah__law_looked => exact Fb.fa_mk (by k_is) (by k_is) (by k_is) (by k_is))
    (case ah__law_first => exact Fb.fa_mk (by k_is) (by k_is) (by k_is) (by k_is))
    (case ah_law => exact Fb.fa_mk (by k_is) (by k_is) (by k_is) (by k_is))
#print axioms PySem.Challenge.cw_farebreak_k02_refused_rows_holds
