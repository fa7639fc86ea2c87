import PyProof.Rows.All
import HandS.ExcCtx
import Wide.All
import OpenK.AllK
import Wide.FinOn
import HandS.ForMost
import HandS.Exc
import HandS.ExcOwn
import HandS.TryOnly
import HandS.WordsExc
import HandS.FStr
import HandS.RaiseMore
import HandS.ExcIs
import HandS.IsInst
import HandS.AnyAll
import HandS.EndTab
import HandS.EndOwn
import HandS.Wide
import HandS.Evl
import HandS.Codes
import HandS.DictTup
import HandS.TupLen
import HandS.CallSlots
import HandS.HotCalls
import HandS.SetKeys
import HandS.RevRange
import HandS.Strs
import HandS.Style
import KE.KDictZip
import KE.DatumOrd
import HandS.SortKw
import HandS.Walk
import PySem.Challenge.RW_farebreak_k11_bills
set_option Elab.async false
set_option linter.all false
set_option maxRecDepth 100000
set_option maxHeartbeats 2000000
/-! own tools over the hand layer -/
namespace Fb
open PySem PySem.Spec PyProof.Rows L2

/-! ### a code object's table as an object that only is what it is -/
def TabP (P : Addr) : Heap → Prop := fun h => ∃ ps : Array Value, h.get? P = some { cls := .none, data := .fields ps } ∧ TriplesOk ps.toList
def TabO (P : Addr) : HO := .ext (TabP P)
theorem tabO_ok {Pg : Program} {w : World} {H : Hp} {h : Heap} {P : Addr} {ps : Array Value} (e : h.get? P = some { cls := .none, data := .fields ps }) (t : TriplesOk ps.toList) : ObjOk Pg w H h P (TabO P) :=
  ⟨⟨ps, e, t⟩, ⟨_, e⟩, fun h1 h2 ⟨qs, e1, t1⟩ k => ⟨qs, k _ e1, t1⟩⟩
theorem mut_tabO {P : Addr} : Mut (some (TabO P)) := trivial
section
variable {X : Cx} {pins : List (Addr × Obj)} {σ : L2.St} {H H2 : Hp} {s s' : Shared} {P : Addr}
/-- from the table as such to the table by its fields -/
theorem tab_open (I : Inv X pins σ H s) (hP : H P = some (TabO P)) : ∃ ps : Array Value, TriplesOk ps.toList ∧ Inv X pins σ (upd H P (.tbl ps)) s := by
  obtain ⟨⟨ps, e, t⟩, _, _⟩ := I.hok P _ hP
  refine ⟨ps, t, ?_⟩
  have J := I.write (h' := s.heap) (t' := s.toks) (x := P) (e := P) (o := .tbl ps) (by rw [hP]; exact mut_tabO) (Or.inl rfl) (fun b u _ q => q) ⟨_, e⟩ (show ObjOk X.prog X.w _ s.heap P (.tbl ps) from e)
  exact J
theorem tab_shut (I : Inv X pins σ H s) (hP : H P = some (TabO P)) (J : Inv X pins σ H2 s') (hT : GxR.TabG H2 P) (hE : ∀ b, b ≠ P → H2 b = H b) : Inv X pins σ H s' := by
  obtain ⟨ps, hps, ht⟩ := hT
  have e : s'.heap.get? P = some { cls := .none, data := .fields ps } := J.hok P _ hps
  have at_ : ∀ b, H b = none → H2 b = none := fun b n => by rw [hE b (fun z => by rw [z, hP] at n; cases n)]; exact n
  have to_ : ∀ b, H2 b = none → H b = none := fun b n => by rw [← hE b (fun z => by rw [z, hps] at n; cases n)]; exact n
  refine ⟨J.ok, J.os, J.bare, ⟨J.base.keep, J.base.slot, fun b o h1 h2 h3 => to_ b (J.base.free b o h1 h2 h3), J.base.there, fun b xs h1 => ?_, fun b o u h1 => ?_, fun b qs h1 => ?_⟩, J.loc, J.cell, to_ _ J.free, fun x c h1 => to_ _ (J.freeC x c h1), fun p hp => ?_, fun a o ha => ?_, J.len⟩
  · have h2 := J.base.tups b xs h1
    have nb : b ≠ P := fun z => by rw [z, hps] at h2; cases h2
    rw [← hE b nb]; exact h2
  · have h2 := J.base.frzs b o u h1
    have nb : b ≠ P := fun z => by rw [z, hps] at h2; cases h2
    rw [← hE b nb]; exact h2
  · obtain ⟨m1, h2⟩ := I.base.tbls b qs h1
    have nb : b ≠ P := fun z => by rw [z, hP] at h2; cases h2
    obtain ⟨m2, h3⟩ := J.base.tbls b qs h1
    exact ⟨m2, by rw [← hE b nb]; exact h3⟩
  · obtain ⟨e1, n, r⟩ := J.pin p hp
    exact ⟨e1, to_ _ n, r⟩
  · by_cases hb : a = P
    · subst hb
      rw [hP] at ha; cases ha
      exact tabO_ok e ht
    · have ha2 : H2 a = some o := by rw [hE a hb]; exact ha
      refine (J.hok a o ha2).stay (fun d v _ q => q) (fun d q => ?_) fun d xs q => ?_
      · have nb : d ≠ P := fun z => by rw [z, hps] at q; cases q
        rw [← hE d nb]; exact q
      · have nb : d ≠ P := fun z => by rw [z, hps] at q; cases q
        rw [← hE d nb]; exact q
end
/-- an expression that reads a text and may let the table at P grow: seen from outside nothing changes -/
theorem pe_allP {X : Cx} {e : Expr} {P : Addr} {pb : Nat → Bool} {i : Nat} (h : PE X e (GxR.tAllS P pb (tVar i))) :
    PE X e (fun σ H Q => ∃ a : Str, σ[i]? = some (some (.str a)) ∧ H P = some (TabO P) ∧ Q (.bl (a.cps.toList.all pb)) H) := by
  refine ⟨fun pins s σ H Q I hq => ?_⟩
  obtain ⟨a, ha, hP, q⟩ := hq
  obtain ⟨ps, ht, J⟩ := tab_open I hP
  refine thn (h.run pins s σ (upd H P (.tbl ps)) (fun v H2 => v = .bl (a.cps.toList.all pb) ∧ GxR.Tabbed P (upd H P (.tbl ps)) H2) J ⟨.str a, ha, a, rfl, ⟨ps, upd_same, ht⟩, fun H2 hT => ⟨rfl, hT⟩⟩) fun u s1 ⟨v, H2, J2, r, ev, hT⟩ => ?_
  subst ev
  exact ⟨_, H, tab_shut I hP J2 hT.1 (fun b hb => (hT.2 b hb).trans (upd_ne hb)), r, q⟩
/-- 'a' <= sign <= 'z' -/
theorem elt_btw {prog : Program} {w : World} {scope : Scope} {x a b : Str} {j1 j2 : Nat} {p1 p2 p3 p4 : Pos} (hk : scope.kind = .function) (hl : scope.names.lookup x = some .local) (hd : (x == ("__debug__" : Str)) = false := by decide) :
    GxR.EltP prog w scope x (.Compare (.Constant (.str a) j1 p1) [.LtE, .LtE] [.Name x p2, .Constant (.str b) j2 p3] p4) (fun c => !decide ([c] < a.cps.toList) && !decide (b.cps.toList < [c])) := by
  intro cenv A' E' c t s₂ m₂ hs hn hm
  refine Compare_chain (Calls.Constant_str (chain_link ?_)) (by with_unfolding_all rfl)
  refine wpAny_Name (wpAny_loadName_local (by rw [hs]; exact hk) (show cenv.scope.names.lookup x = some .local by rw [hs]; exact hl) (show Heap.Ns _ cenv.locals m₂ from hn) hm ?_) hd
  refine PySem.P.le_str ?_
  refine wpAny_truthy_bool ?_
  show if (!decide (([c] : List Nat) < a.cps.toList)) = true then _ else _
  cases h1 : decide (([c] : List Nat) < a.cps.toList) with
  | true => exact ⟨(by show Value.bool (!true) = Value.bool (!decide (([c] : List Nat) < a.cps.toList) && !decide (b.cps.toList < [c])); rw [h1]; rfl), GxR.keeps_tok _ _⟩
  | false =>
    show wpAny _ _ _ _ _ _
    refine chain_last (Calls.Constant_str (PySem.P.le_str ⟨?_, GxR.keeps_tok _ _⟩))
    show Value.bool (!decide (b.cps.toList < ([c] : List Nat))) = Value.bool (!decide (([c] : List Nat) < a.cps.toList) && !decide (b.cps.toList < [c]))
    rw [h1]; rfl

/-! ### texts -/
theorem op_repS {X : Cx} : OpR X (binaryOp .Mult) (fun x y H Q => ∃ z n, x = .str z ∧ y = .int n ∧ MulOk z n ∧ Q (.str (Txt.mul z n)) H) := by
  intro pins s σ H x y v u Q I rx ry h
  obtain ⟨z, n, rfl, rfl, hok, q⟩ := h
  obtain ⟨t, rfl⟩ := rx
  obtain ⟨t', rfl⟩ := ry
  exact SB.mul hok fun t'' k => ⟨.str _, H, I.tok _, ⟨_, rfl⟩, q⟩
theorem mulOk_small {z : Str} {n : Int} (h0 : 0 ≤ n) (h1 : n ≤ 1000) (hz : z.length ≤ 1000) : MulOk z n := by
  refine ⟨?_, fun h2 _ => ?_, fun h2 _ => ?_⟩
  · rw [decide_eq_false (by omega), decide_eq_false (by omega)]; rfl
  · have h3 : (9223372036854775807 : Int) / n ≥ 9223372036854775 := by
      have h4 : (9223372036854775 : Int) * n ≤ 9223372036854775807 := by omega
      exact (Int.le_ediv_iff_mul_le (by omega)).mpr h4
    have h5 : ((2 : Int) ^ 63 - 1) = 9223372036854775807 := by decide
    rw [h5]
    omega
  · unfold Builtin.Str.tooLong
    refine decide_eq_false ?_
    rw [sizeLine_eq]
    have h6 : z.length * n.toNat ≤ 1000 * 1000 := Nat.mul_le_mul hz (by omega)
    omega
theorem foldl_app_size (x : Array Nat) : ∀ (n : Nat) (acc : Array Nat), ((List.replicate n x).foldl (· ++ ·) acc).size = acc.size + n * x.size
  | 0, acc => by simp
  | n + 1, acc => by
    rw [List.replicate_succ, List.foldl_cons, foldl_app_size x n (acc ++ x), Array.size_append, Nat.succ_mul]
    omega
theorem mul_length (z : Str) (n : Int) (h0 : 0 ≤ n) : (Txt.mul z n).length = z.length * n.toNat := by
  unfold Txt.mul
  by_cases h1 : n < 1
  · rw [if_pos h1]
    have e : n = 0 := by omega
    subst e
    show Str.empty.length = _
    simp [Str.empty, Str.length]
  · rw [if_neg h1]
    by_cases h2 : (n == 1 || z.length == 0) = true
    · rw [if_pos h2]
      rcases Bool.or_eq_true_iff.mp h2 with h3 | h3
      · have e : n = 1 := by simpa using h3
        subst e; simp
      · have e : z.length = 0 := by simpa using h3
        rw [e]; simp
    · rw [if_neg h2]
      show ((List.replicate n.toNat z.cps).foldl (· ++ ·) #[]).size = z.cps.size * n.toNat
      rw [foldl_app_size]
      simp [Nat.mul_comm]

/-! ### a module's whole number -/
theorem pe_gint {X : Cx} {x : Str} {i : Int} {pos : Pos} (h : ∃ t, X.mg x = some (.int i t)) (hg : Gl X x) (hd : (x == ("__debug__" : Str)) = false := by decide) : PE X (.Name x pos) (tC (.int i)) := by
  obtain ⟨t, e⟩ := h
  exact pe_glob hg e ⟨t, rfl⟩ hd

/-! ### wishes about errors whose context is None -/
theorem passLN {X : Cx} : Passes (L2N.CX X.prog X.w) X E0 := fun _ _ _ _ _ _ _ h => by
  obtain ⟨_, _, _, _, _, _, _, _, _, _, _, _, z⟩ := h
  exact False.elim z
theorem takesN0 {X : Cx} : L2N.Takes X (fun _ _ _ _ => False) := fun _ _ x => by
  obtain ⟨_, _, _, _, _, _, _, _, _, _, _, _, _, _, _, _, z⟩ := x
  exact False.elim z
/-- X(e), its context None -/
theorem pmk_ownN1 {X : Cx} {D : Addr} {bs : List Value} {bn nw ini : String} {y : Str} {arg : Expr} {tw : TE} {p1 p2 : Pos} (F : ExcBaseFacts bn nw ini bs) (ei : PySem.W.excIn X.K D bs nw = true) (gD : X.mg y = some (.ref D))
    (kD : PySem.W.keepIn X.K (.ref D) = true) (rs : Raises X (.ref D)) (gl : Gl X y) (hw : PE X arg tw) (st : starEach [arg] X.env = (false, eval arg X.env) :: starEach [] X.env := by rfl)
    (db : (y == ("__debug__" : Str)) = false := by decide) : L2N.PMk X (.Call (.Name y p1) [arg] [] p2) (fun σ H Q => tw σ H fun _ J => Q (.ref D) none J) := fun pins s σ H Q I wish => by
  refine wpAny_Call_Name_kw (ld_glob I gl gD (PySem.W.callWith_K (h₀ := X.base) I.ok.mod.kin kD ?_ st (by rfl)) db)
  rw [st]
  refine Calls.spliced_cons (thn (hw.run pins s σ H _ I wish) fun u s1 got => Calls.spliced_nil ?_)
  obtain ⟨v, J, I1, _, q1⟩ := got
  refine ⟨I1.kIn, ?_⟩
  obtain ⟨_, _, _, _, _, _, _, _, _, _, _, _, _, _, _, _, _, a1, a2, a3, a4⟩ := exc_obj I1.kIn ei
  exact wpAny_call_exc_subT F a4 a1 a2 a3 (fun h' e made => L2N.mk_of I1 made rs q1 (I1.hok.gone made.new)) (Nat.le_trans (by decide : 1 ≤ 1000) (by decide))

/-! ### own defs, ready to be called -/
structure Dn (Pg : Program) (w : World) (K : PySem.W.Frag) (mg : Str → Option Value) (base : Heap) (k : Nat) (x : Str) (ps : List Str) (sp : Sp) : Prop where
  ex : ∃ f fd, FnOk Pg w K mg base (L2N.CX Pg w) k f fd ps sp ∧ mg x = some (.ref f) ∧ PySem.W.keepIn K (.ref f) = true ∧ Binds K fd ps []
section
variable {X : Cx} {k : Nat} {x : Str} {ps : List Str} {sp : Sp} {p pos : Pos} {e : Expr} {es : List Expr} {t : TA}
theorem pe_fnE {E : XK} (D : Dn X.prog X.w X.K X.mg X.base k x ps sp) (hr : Room k X.A) (hx : Passes (L2N.CX X.prog X.w) X E) (ha : PA X (e :: es) t) (hg : Gl X x := by rfl)
    (hdb : (x == ("__debug__" : Str)) = false := by decide) (he : starEach (e :: es) X.env = (false, eval e X.env) :: starEach es X.env := by rfl) (hpl : (backTo pos (starEach es X.env)).any (·.1) = false := by rfl) :
    PE X (.Call (.Name x p) (e :: es) [] pos) (tCall sp [] E t) := by
  obtain ⟨f, fd, F, hm, hk, hb⟩ := D.ex
  exact pe_call F hr hg hm hk hb .nil hx ha hdb he hpl
/-- a def that raises nothing that is wished -/
theorem pe_fn (D : Dn X.prog X.w X.K X.mg X.base k x ps sp) (hr : Room k X.A) (ha : PA X (e :: es) t) (hg : Gl X x := by rfl)
    (hdb : (x == ("__debug__" : Str)) = false := by decide) (he : starEach (e :: es) X.env = (false, eval e X.env) :: starEach es X.env := by rfl) (hpl : (backTo pos (starEach es X.env)).any (·.1) = false := by rfl) :
    PE X (.Call (.Name x p) (e :: es) [] pos) (tCall sp [] E0 t) := pe_fnE D hr passLN ha hg hdb he hpl
/-- in a try's body -/
theorem pe_fnS {E : L2.St → XK} (D : Dn X.prog X.w X.K X.mg X.base k x ps sp) (hr : Room k X.A) (hx : ∀ σ, PassesAt (L2N.CX X.prog X.w) X σ (E σ)) (ha : PA X (e :: es) t) (hg : Gl X x := by rfl)
    (hdb : (x == ("__debug__" : Str)) = false := by decide) (he : starEach (e :: es) X.env = (false, eval e X.env) :: starEach es X.env := by rfl) (hpl : (backTo pos (starEach es X.env)).any (·.1) = false := by rfl) :
    PE X (.Call (.Name x p) (e :: es) [] pos) (tCallS sp E t) := by
  obtain ⟨f, fd, F, hm, hk, hb⟩ := D.ex
  exact pe_callS F hr hg hm hk hb hx ha hdb he hpl
end

/-! ### own error classes -/
structure ExK (K : PySem.W.Frag) (mg : Str → Option Value) (x : Str) (C : Addr) (bm : List Value) : Prop where
  g : mg x = some (.ref C)
  k : PySem.W.keepIn K (.ref C) = true
  x : PySem.W.excIn K C bm "ValueError.__new__" = true
  b : PySem.W.subIn K (.ref C) (.type "BaseException") = some true
  t : PySem.W.typeIn K (.ref C) = some (.type "type")
/-- isinstance(e, c) in a suite -/
def rIsG (K : PySem.W.Frag) (a : Addr) (cls : Value) (d : Option Addr) : List V → Hp → VK → Prop := fun xs H Q => ∃ (D : Addr) (c : V) (cv : Value) (b : Bool), xs = [.ref a, c] ∧ cls = .ref D ∧ d = none ∧ ExcC K D ∧ (∀ u, RelV c u → u = cv) ∧ PySem.W.kitOne K (.ref D) cv = some b ∧ Q (.bl b) H
theorem call_isG {X : Cx} {a : Addr} {cls : Value} {d : Option Addr} {oe : Obj} {pn : List (Addr × Obj)} (hz : Zc cls d oe) (hf : ∃ vs, oe.data = .fields vs) : CallR (X.suite a ((a, oe) :: pn)) (.builtin "isinstance") (rIsG X.K a cls d) := by
  intro pins s σ H xs us Q I r h
  obtain ⟨D, c, cv, b, e1, e2, e3, C, hcv, e, q⟩ := h
  subst e2 e3
  exact call_isE C hz hf pins s σ H xs us Q I r ⟨c, cv, b, e1, hcv, e, q⟩

/-! ### heaps -/
theorem same_new {H : Hp} {p : Addr} {o : HO} (h : H p = none) : Same H (upd H p o) := fun b u e => by
  rw [upd_ne (ne_of_none e h)]; exact e
theorem same_mut {H H' : Hp} {p : Addr} {o : HO} (s : Same H H') (h : H p = none) : Same H (upd H' p o) := fun b u e => by
  rw [upd_ne (ne_of_none e h)]; exact s b u e
theorem same_t {K : PySem.W.Frag} {H H' : Hp} {a : Addr} {xs : List V} (e : Same H H') (h : SqT K H a xs) : SqT K H' a xs := by
  rcases h with (h | ⟨o, h⟩) | h
  · exact .inl (.inl (e _ _ h))
  · exact .inl (.inr ⟨o, e _ _ h⟩)
  · exact .inr h
mutual
theorem Dp.same {K : PySem.W.Frag} {H H' : Hp} (s : Same H H') : ∀ {d : PyData} {v : V}, Dp K H v d → Dp K H' v d
  | _, _, .non => .non
  | _, _, .bl b => .bl b
  | _, _, .int i => .int i
  | _, _, .str x => .str x
  | _, _, .lst h ha => .lst (s.seq h) (DpAll.same s ha)
  | _, _, .tup h ha => .tup (same_t s h) (DpAll.same s ha)
theorem DpAll.same {K : PySem.W.Frag} {H H' : Hp} (s : Same H H') : ∀ {ds : List PyData} {vs : List V}, DpAll K H vs ds → DpAll K H' vs ds
  | _, _, .nil => .nil
  | _, _, .cons h ha => .cons (Dp.same s h) (DpAll.same s ha)
end
theorem szl {n : Nat} (h : n ≤ 100000) : n ≤ sizeLine := Nat.le_trans h (by decide)
theorem szlt {n : Nat} (h : n < 100000) : n < sizeLine := Nat.lt_of_lt_of_le h (by decide)
end Fb

namespace Fb
open PySem PySem.Spec PyProof.Rows L2
/-! ### the law's own call: the tables are shut -/
def shut (Ps : List Addr) (H : Hp) : Hp := fun b => if b ∈ Ps then some (TabO b) else H b
theorem shut_in {Ps : List Addr} {H : Hp} {b : Addr} (h : b ∈ Ps) : shut Ps H b = some (TabO b) := if_pos h
theorem shut_out {Ps : List Addr} {H : Hp} {b : Addr} (h : b ∉ Ps) : shut Ps H b = H b := if_neg h
def reopen (Ps : List Addr) (h : Heap) (H : Hp) : Hp := fun b => if b ∈ Ps then (match h.get? b with | some o => (match o.data with | .fields ps => some (.tbl ps) | _ => H b) | none => H b) else H b
theorem reopen_in {Ps : List Addr} {h : Heap} {H : Hp} {b : Addr} {ps : Array Value} (hb : b ∈ Ps) (e : h.get? b = some { cls := .none, data := .fields ps }) : reopen Ps h H b = some (.tbl ps) := by
  unfold reopen
  rw [if_pos hb, e]
theorem reopen_out {Ps : List Addr} {h : Heap} {H : Hp} {b : Addr} (hb : b ∉ Ps) : reopen Ps h H b = H b := if_neg hb
theorem FnOk.tabs {Pg : Program} {w : World} {K : PySem.W.Frag} {mg : Str → Option Value} {base : Heap} {k : Nat} {f : Addr} {fd : FuncData} {ps : List Str} {sp : Sp} {Ps : List Addr} (F : FnOk Pg w K mg base (L2N.CX Pg w) k f fd ps sp) :
    FnOk Pg w K mg base (L2N.CX Pg w) k f fd ps (fun vs H Q E => (∀ p ∈ Ps, H p = some (.tbl #[])) ∧ sp vs (shut Ps H) (fun v H' => (∀ p ∈ Ps, H' p = some (TabO p)) ∧ ∀ H2, Q v H2) (fun _ _ _ => False)) := by
  refine ⟨fun vs H Q E q => F.len _ _ _ _ q.2, fun A outer s H args us vs Q E hr he hb hv hs => ?_⟩
  obtain ⟨hT, hs⟩ := hs
  have tabs : ∀ p ∈ Ps, s.heap.get? p = some { cls := .none, data := .fields #[] } := fun p hp => he.hok p _ (hT p hp)
  have nb : ∀ b u, H b = some u → (∀ q, u ≠ .tbl q) → b ∉ Ps := fun b u e h1 hp => by
    rw [hT b hp] at e
    cases e
    exact h1 _ rfl
  have nn : ∀ b, H b = none → b ∉ Ps := fun b e hp => by rw [hT b hp] at e; cases e
  have he' : Env0 Pg w K mg base A outer s (shut Ps H) := by
    refine ⟨he.frames, he.mod, fun b o e => ⟨(he.bs b o e).1, by rw [shut_out (nn b (he.bs b o e).2)]; exact (he.bs b o e).2⟩, he.bsz, he.funs, fun b hb => by rw [shut_out (nn b (he.frf b hb))]; exact he.frf b hb, fun a o e => ?_, he.bare⟩
    by_cases ha : a ∈ Ps
    · rw [shut_in ha] at e
      cases e
      exact tabO_ok (tabs a ha) trivial
    · rw [shut_out ha] at e
      refine (he.hok a o e).stay (fun d v _ q => q) (fun d q => ?_) fun d xs q => ?_
      · rw [shut_out (nb d _ q fun _ z => nomatch z)]; exact q
      · rw [shut_out (nb d _ q fun _ z => nomatch z)]; exact q
  refine codeAny_mono (F.run A outer s (shut Ps H) args us vs _ _ hr he' hb hv hs) fun r s' h => ?_
  cases r with
  | error e =>
    obtain ⟨_, _, _, _, _, _, _, _, _, _, _, _, z⟩ := h
    exact z.elim
  | ok fl =>
    cases fl with
    | next => exact False.elim h
    | brk => exact False.elim h
    | cont => exact False.elim h
    | ret u =>
      obtain ⟨v, H', os, bare, un, hok, r, hP, q⟩ := h
      have tb : ∀ p ∈ Ps, ∃ ps : Array Value, s'.heap.get? p = some { cls := .none, data := .fields ps } := fun p hp => by
        obtain ⟨⟨qs, e, _⟩, _, _⟩ := hok p _ (hP p hp)
        exact ⟨qs, e⟩
      have n2 : ∀ b u, H' b = some u → (∀ a, u ≠ TabO a) → b ∉ Ps := fun b u e h1 hp => by
        rw [hP b hp] at e
        cases e
        exact h1 _ rfl
      refine ⟨v, reopen Ps s'.heap H', os, bare, ⟨fun b o e n => un.keep b o e (by rw [shut_out (nn b n)]; exact n), fun b o e n => un.slot b o e (by rw [shut_out (nn b n)]; exact n), fun b o e n hx => ?_, un.there, fun b xs e => ?_, fun b o u e => ?_, fun b qs e => ?_⟩, fun a o e => ?_, r, q _⟩
      · rw [reopen_out (nn b n)]
        exact un.free b o e (by rw [shut_out (nn b n)]; exact n) hx
      · have h1 := nb b _ e fun _ z => nomatch z
        rw [reopen_out h1]
        exact un.tups b xs (by rw [shut_out h1]; exact e)
      · have h1 := nb b _ e fun _ z => nomatch z
        rw [reopen_out h1]
        exact un.frzs b o u (by rw [shut_out h1]; exact e)
      · by_cases hb : b ∈ Ps
        · rw [hT b hb] at e
          cases e
          obtain ⟨ps, e2⟩ := tb b hb
          exact ⟨ps, by rw [reopen_in hb e2]; simp⟩
        · rw [reopen_out hb]
          exact un.tbls b qs (by rw [shut_out hb]; exact e)
      · by_cases ha : a ∈ Ps
        · obtain ⟨ps, e2⟩ := tb a ha
          rw [reopen_in ha e2] at e
          cases e
          exact e2
        · rw [reopen_out ha] at e
          refine (hok a o e).stay (fun d v _ q => q) (fun d q => ?_) fun d xs q => ?_
          · rw [reopen_out (n2 d _ q fun _ z => nomatch z)]; exact q
          · rw [reopen_out (n2 d _ q fun _ z => nomatch z)]; exact q

/-! ### the end -/
/-- what the ground says of a def's table -/
def TabN (mg : Str → Option Value) (h : Heap) (x : Str) : Prop := ∃ (a c P : Addr) (o : Obj) (fd : FuncData), mg x = some (.ref a) ∧ h.get? a = some o ∧ o.data = .func fd ∧ fd.code = .ref c ∧ PySem.W.CodeHd h c P ∧ h.get? P = some { cls := .none, data := .fields #[] } ∧ ∃ oc vc, h.get? c = some oc ∧ oc.data = .fields vc ∧ vc[11]? = some (.ref P)
/-- what is to be shown of the law at the head's heap -/
def LawT (l : PySem.W.OpenLaw) (w : World) (K : PySem.W.Frag) (k n : Nat) (x : Str) (mg : Str → Option Value) (fa : Addr) (h : Heap) : Prop :=
  ∃ (fd : FuncData) (cs : List (Addr × Addr)) (sp : Sp), (∀ p ∈ cs, h.get? p.2 = some { cls := .none, data := .fields #[] }) ∧ (∀ p ∈ cs, K.lookup p.2 = none) ∧ (∀ p ∈ cs, PySem.W.CodeHd h p.1 p.2) ∧ (∀ (s : Shared) (u : Value), BindsTo s fd ⟨[u], []⟩ [(x, u)]) ∧
    (∀ (H : Hp) (a : Addr) (ns : List Int), ns.length ≤ n → (∀ z ∈ ns, Builtin.Int.intBits z ≤ 1048576) → (∀ p ∈ cs, H p.2 = some (TabO p.2)) → SqL K H a (ns.map V.int) → sp [.ref a] H (fun v H' => (∀ p ∈ cs, H' p.2 = some (TabO p.2)) ∧ v = .bl true) fun _ _ _ => False) ∧
    ∀ base : Heap, K.In base → base.Ns mainGlobals mg → (∀ p ∈ cs, GxR.TabB base mg p.1 p.2) → FnOk l.prog w K mg base (L2N.CX l.prog w) k fa fd [x] sp
theorem walk_tab {l : PySem.W.OpenLaw} {n k : Nat} {q : Program} {loose : List Str} {XP : (Str → Option Value) → Heap → Prop} {YP : World → Heap → Prop} {d : DefRec} {K : Params → PySem.W.Frag} {x : Str} (gs : List Str)
    (hn : l.most = some n) (hn2 : n ≤ sizeLine) (hdf : d.params.defaults = []) (hr : Room k callerA) (hrec : ∀ g ∈ gs, ((recsOf q).any fun e => e.name == g) = true) (hY : ∀ (w : World) (h : Heap), YP w h → (K w.params).In h)
    (F : ∀ (w : World) (mg : Str → Option Value) (fa : Addr) (h : Heap), YP w h → (K w.params).In h → h.Ns mainGlobals mg → mg d.name = some (.ref fa) → (∀ g ∈ gs, TabN mg h g) → LawT l w (K w.params) k n x mg fa h) :
    PySem.W.WalkO q loose XP YP l.row.toRowW d [] (fun f vs => PySem.call f vs) := by
  refine Att.attach_callB hn hdf fun w s₀ s₁ mg mb fa o pm cd doc a vs ns G Y ho hd hcd hmg hobj hints hlen hbits hg => ?_
  have KX := hY w _ Y
  have tabs : ∀ g ∈ gs, TabN mg s₁.heap g := fun g hgm => by
    obtain ⟨dL, hm, hn1⟩ := List.any_eq_true.mp (hrec g hgm)
    have hn2 : dL.name = g := beq_iff_eq.mp hn1
    obtain ⟨a', o', fd', c', P', h1, h2, h3, h4, h5, h6⟩ := G.T.tab dL hm
    rw [hn2] at h1
    obtain ⟨⟨oc, vc, e1, e2, e3, e4⟩, hP⟩ := id h6
    exact ⟨a', c', P', o', fd', h1, h2, h3, h4, PySem.W.CodeHd.of h5 h6, hP, oc, vc, e1, e3, e4⟩
  obtain ⟨fd, cs, sp, hT, nT, C, hb, hsp, hF⟩ := F w mg fa _ Y KX G.T.g hmg tabs
  refine LamX.law_callTs (CX := L2N.CX l.prog w) (cs := cs) KX G.T.g G.T.b G.T.builtins G.T.nolimit hg hT nT C G.T.bmain hobj hints (Nat.le_trans hlen hn2) hr (fun base hK hN hB => FnOk.tabs (Ps := cs.map (·.2)) (hF base hK hN fun p hp => ⟨(hB p hp).code, (hB p hp).bm, (hB p hp).gP⟩)) hb (fun H hH hS => ⟨?ga, ?gb⟩) fun H e s' h => ?gc
  case ga =>
    intro p hp
    obtain ⟨y, hy, e⟩ := List.mem_map.mp hp
    rw [← e]; exact hH y hy
  case gb =>
    have na : a ∉ cs.map (·.2) := fun z => by
      obtain ⟨y, hy, e⟩ := List.mem_map.mp z
      have q := hT y hy
      rw [e, hobj] at q
      have z' : Data.seq vs.toArray _ = Data.fields #[] := congrArg Obj.data (Option.some.inj q)
      cases z'
    have hS' : SqL (K w.params) (shut (cs.map (·.2)) H) a (ns.map V.int) := by
      rcases hS with (z | ⟨o, z⟩) | z
      · exact .inl (.inl (by rw [shut_out na]; exact z))
      · exact .inl (.inr ⟨o, by rw [shut_out na]; exact z⟩)
      · exact .inr z
    have r := hsp (shut (cs.map (·.2)) H) a ns hlen hbits (fun p hp => shut_in (List.mem_map.mpr ⟨p, hp, rfl⟩)) hS'
    refine cast (congrArg (fun Q => sp [.ref a] (shut (cs.map (·.2)) H) Q fun _ _ _ => False) ?_) r
    funext v H'
    refine propext ⟨fun ⟨h1, h2⟩ => ⟨fun p hp => ?_, fun _ => h2⟩, fun ⟨h1, h2⟩ => ⟨fun p hp => h1 _ (List.mem_map.mpr ⟨p, hp, rfl⟩), h2 H'⟩⟩
    obtain ⟨y, hy, e⟩ := List.mem_map.mp hp
    rw [← e]; exact h1 y hy
  case gc =>
    obtain ⟨_, _, _, _, _, _, _, _, _, _, _, _, z⟩ := h
    exact z
end Fb
namespace Fb
open PySem L2
theorem ifD {p A B : Prop} [Decidable p] (h1 : p → A) (h2 : ¬ p → B) : if decide p = true then A else B := by
  by_cases h : p
  · rw [if_pos (decide_eq_true h)]; exact h1 h
  · rw [if_neg (by simp [h])]; exact h2 h
theorem ifB {c : Bool} {A B : Prop} (h1 : c = true → A) (h2 : c = false → B) : if c = true then A else B := by
  cases c with
  | true => rw [if_pos rfl]; exact h1 rfl
  | false => rw [if_neg Bool.false_ne_true]; exact h2 rfl
theorem ifP {p A B : Prop} [Decidable p] (h : p) (a : A) : if decide p = true then A else B := by rw [if_pos (decide_eq_true h)]; exact a
theorem ifN {p A B : Prop} [Decidable p] (h : ¬ p) (b : B) : if decide p = true then A else B := by rw [if_neg (by simp [h])]; exact b
theorem atI_map {ns : List Int} {j : Int} (h0 : 0 ≤ j) (h1 : j.toNat < ns.length) : atI (ns.map V.int) j = some (.int (ns.getD j.toNat 0)) := by
  have h2 : ixN (ns.map V.int).length j = some j.toNat := by
    unfold ixN
    rw [List.length_map, if_pos h0, if_pos (by omega)]
  unfold atI
  rw [h2]
  show (ns.map V.int)[j.toNat]? = _
  rw [List.getElem?_map, List.getElem?_eq_getElem h1]
  simp [List.getD, List.getElem?_eq_getElem h1]
theorem atI_of {α : Type} {xs : List α} {j : Int} {v : α} (h0 : 0 ≤ j) (h : xs[j.toNat]? = some v) : atI xs j = some v := by
  have hl : j.toNat < xs.length := (List.getElem?_eq_some_iff.mp h).1
  have h2 : ixN xs.length j = some j.toNat := by
    unfold ixN
    rw [if_pos h0, if_pos (by omega)]
  unfold atI
  rw [h2]
  exact h
end Fb

namespace Fb
open PySem PySem.Spec PyProof.Rows L2
/-! ### texts by their signs -/
/-- a text of at most n signs, each of them one that the model knows -/
def okS (n : Nat) (z : Str) : Prop := z.length ≤ n ∧ ∀ c ∈ z.cps.toList, c < 1114112
theorem len_tl (z : Str) : z.length = z.cps.toList.length := by simp [Str.length]
theorem okS.mono {n m : Nat} {z : Str} (h : okS n z) (hm : n ≤ m) : okS m z := ⟨Nat.le_trans h.1 hm, h.2⟩
theorem cps_app (a b : Str) : (a ++ b).cps.toList = a.cps.toList ++ b.cps.toList := by
  show (a.cps ++ b.cps).toList = _
  simp
theorem len_app (a b : Str) : (a ++ b).length = a.length + b.length := by
  rw [len_tl, cps_app, List.length_append, ← len_tl, ← len_tl]
theorem okS.app {n m : Nat} {a b : Str} (h : okS n a) (g : okS m b) : okS (n + m) (a ++ b) := by
  refine ⟨by rw [len_app]; exact Nat.add_le_add h.1 g.1, fun c hc => ?_⟩
  rw [cps_app] at hc
  exact (List.mem_append.mp hc).elim (h.2 c) (g.2 c)
theorem cut_len (z : Str) (lo hi : Option Int) : (cutS z lo hi).length ≤ z.length := by
  rw [len_tl, len_tl]
  unfold cutS
  show (_ : List Nat).length ≤ _
  rw [List.length_take, List.length_drop]
  omega
theorem okS.cut {n : Nat} {z : Str} (h : okS n z) (lo hi : Option Int) : okS n (cutS z lo hi) := by
  refine ⟨Nat.le_trans (cut_len z lo hi) h.1, fun c hc => h.2 c ?_⟩
  have h1 : c ∈ ((z.cps.toList.drop (HT.sIx z.length 0 lo)).take (HT.sIx z.length z.length hi - HT.sIx z.length 0 lo)) := hc
  exact List.mem_of_mem_drop (List.mem_of_mem_take h1)
/-- cut at most k signs from the front -/
theorem cut_to (z : Str) (k : Nat) : (cutS z none (some (k : Int))).length ≤ k := by
  rw [len_tl]
  unfold cutS
  show (_ : List Nat).length ≤ _
  rw [List.length_take, HT.sIx_none, HT.sIx_nat]
  omega
theorem okS.one {c : Nat} (h : c < 1114112) : okS 1 ⟨#[c]⟩ := by
  refine ⟨Nat.le_refl _, fun d hd => ?_⟩
  have e : d = c := by simpa using hd
  rw [e]; exact h
theorem mem_rep {x : Array Nat} {c : Nat} : ∀ (n : Nat) (acc : Array Nat), c ∈ ((List.replicate n x).foldl (· ++ ·) acc).toList → c ∈ acc.toList ∨ c ∈ x.toList
  | 0, acc, h => Or.inl h
  | n + 1, acc, h => by
    rw [List.replicate_succ, List.foldl_cons] at h
    rcases mem_rep n (acc ++ x) h with g | g
    · rw [Array.toList_append] at g
      exact (List.mem_append.mp g)
    · exact Or.inr g
theorem okS.mul {n : Nat} {z : Str} {k : Int} (h : okS n z) (h0 : 0 ≤ k) : okS (n * k.toNat) (Txt.mul z k) := by
  refine ⟨by rw [mul_length z k h0]; exact Nat.mul_le_mul_right _ h.1, fun c hc => h.2 c ?_⟩
  unfold Txt.mul at hc
  split at hc
  · simp [Str.empty] at hc
  · split at hc
    · exact hc
    · rcases mem_rep _ _ hc with g | g
      · simp at g
      · exact g
theorem okS_data {n : Nat} {z : Str} (h : okS n z) : PyData.strOk z = true := by
  unfold PyData.strOk
  rw [Array.all_eq_true]
  intro i hi
  exact decide_eq_true (h.2 _ (by rw [← Array.getElem_toList]; exact List.getElem_mem _))
theorem joinL_nil : ∀ parts : List (List Nat), TL.joinL [] parts = parts.flatten
  | [] => rfl
  | [p] => by simp [TL.joinL]
  | p :: q :: r => by
    show p ++ ([] ++ TL.joinL [] (q :: r)) = _
    rw [joinL_nil (q :: r)]
    simp
theorem join_tl (y : Str) (hy : y.cps.toList = []) (ys : List Str) : (Txt.join y ys).cps.toList = (ys.map TL.tl).flatten := by
  rw [TL.join_eq]
  show TL.tl _ = _
  rw [TL.tl_join, show TL.tl y = [] from hy, joinL_nil]
theorem okS.join {y : Str} (hy : y.cps.toList = []) {ys : List Str} {n : Nat} (hn : ys.length ≤ n) (h : ∀ z ∈ ys, okS 1 z) : okS n (Txt.join y ys) := by
  refine ⟨?_, fun c hc => ?_⟩
  · rw [len_tl, join_tl y hy]
    refine Nat.le_trans ?_ hn
    clear hn
    induction ys with
    | nil => simp
    | cons z r ih =>
      have h1 := (h z List.mem_cons_self).1
      have h2 := ih fun q hq => h q (List.mem_cons_of_mem _ hq)
      rw [len_tl] at h1
      simp only [List.map_cons, List.flatten_cons, List.length_append, List.length_cons]
      show z.cps.toList.length + _ ≤ _
      omega
  · rw [join_tl y hy] at hc
    obtain ⟨l, hl, hc⟩ := List.mem_flatten.mp hc
    obtain ⟨z, hz, rfl⟩ := List.mem_map.mp hl
    exact (h z hz).2 c hc
theorem sum_ones {ys : List Str} (h : ∀ z ∈ ys, okS 1 z) : (ys.map (·.length)).sum ≤ ys.length := by
  induction ys with
  | nil => simp
  | cons z r ih =>
    have h1 := (h z List.mem_cons_self).1
    have h2 := ih fun q hq => h q (List.mem_cons_of_mem _ hq)
    simp only [List.map_cons, List.sum_cons, List.length_cons]
    omega

/-! ### comprehensions over a range, over a list: each turn leaves what stood; R: what is known of the i-th item, for good (D itself, the new list, grows) -/
/-- what stood anywhere but at D stands -/
def SameB (D : Addr) (H H' : Hp) : Prop := ∀ b o, b ≠ D → H b = some o → H' b = some o
theorem Same.but {D : Addr} {H H' : Hp} (s : Same H H') : SameB D H H' := fun b o _ e => s b o e
section
variable {K : PySem.W.Frag} {te : TE} {vs : List Nat} {σ : L2.St} {H1 : Hp} {D : Addr} {Qd : Hp → Prop}
theorem yes_go {Q : VK} {N : Hp → Prop} {H : Hp} (h : te σ H Q) : tYes σ H fun b H3 => if b = true then te σ H3 Q else N H3 := by
  show (if true = true then te σ H Q else N H)
  exact iteT h
theorem lc_step {R : Nat → V → Hp → Prop} {i : Nat} {ys : List V} {v : V} {H H' : Hp} (hR : ∀ i v H H', SameB D H H' → R i v H → R i v H') (hl : ys.length = i) (s2 : Same H H') (hr : ∀ k u, ys[k]? = some u → R k u H) (r : R i v H') :
    ∀ k u, (ys ++ [v])[k]? = some u → R k u (upd H' D (.lst (ys ++ [v]))) := fun k u e => by
  have hu : SameB D H' (upd H' D (.lst (ys ++ [v]))) := fun b o nb e => by rw [upd_ne nb]; exact e
  by_cases hk : k < ys.length
  · rw [List.getElem?_append_left hk] at e
    exact hR _ _ _ _ hu (hR _ _ _ _ (Same.but s2) (hr k u e))
  · have hk2 : k = i := by
      have h3 := (List.getElem?_eq_some_iff.mp e).1
      rw [List.length_append] at h3
      simp at h3
      omega
    subst hk2
    rw [List.getElem?_append_right (by omega), hl, Nat.sub_self] at e
    have e2 : v = u := by simpa using e
    subst e2
    exact hR _ _ _ _ hu r
theorem lc_rangeR {lo : Int} {n j : Nat} (R : Nat → V → Hp → Prop) (hR : ∀ i v H H', SameB D H H' → R i v H → R i v H') (hD : H1 D = none) (hn : n ≤ 100000) (hw : ∀ v, wipe ((wipe σ vs).set j (some v)) vs = wipe σ vs)
    (hs : ∀ i H acc, i < n → Same H1 H → H D = some (.lst acc) → ∀ Q : VK, (∀ v H', Same H H' → R i v H' → Q v H') → te ((wipe σ vs).set j (some (.int (lo + i)))) H Q)
    (hd : ∀ H ys, Same H1 H → H D = some (.lst ys) → ys.length = n → (∀ i v, ys[i]? = some v → R i v H) → Qd H) :
    ∃ W : Nat → Nat → Hp → Prop, (∃ m, W 0 m (upd H1 D (.lst []))) ∧ ∀ i m H, W i m H →
      ((Itr lo n).stop i H ∧ Qd H) ∨ ((Itr lo n).go i H ∧ ∃ Nx : Hp → Prop, (∀ H', Nx H' → ∃ m', m' < m ∧ W (i + 1) m' H') ∧ ∀ x H', (Itr lo n).yld i H x H' → (gName j) x (wipe σ vs) H' fun σ2 H2 => wipe σ2 vs = wipe σ vs ∧ tYes σ2 H2 fun b H3 =>
        if b = true then te σ2 H3 fun y H4 => ∃ acc, H4 D = some (.lst acc) ∧ acc.length < sizeLine ∧ Nx (upd H4 D (.lst (acc ++ [y]))) else Nx H3) := by
  refine lc_range (fun i H => ∃ ys, Same H1 H ∧ H D = some (.lst ys) ∧ ys.length = i ∧ ∀ k v, ys[k]? = some v → R k v H) ⟨[], same_new hD, upd_same, rfl, fun k v e => by simp at e⟩ ?_ ?_
  · rintro i H hi ⟨ys, s1, hDl, hl, hr⟩
    refine ⟨hw _, ?_⟩
    refine yes_go ?_
    exact hs i H ys hi s1 hDl _ fun v H' s2 r => ⟨ys, s2 _ _ hDl, szlt (by omega), ys ++ [v], same_mut (Same.trans s1 s2) hD, upd_same, by rw [List.length_append]; simp [hl], lc_step hR hl s2 hr r⟩
  · rintro H ⟨ys, s1, hDl, hl, hr⟩
    exact hd H ys s1 hDl hl hr
theorem lc_listR {a : Addr} {xs : List V} {j : Nat} (R : Nat → V → Hp → Prop) (hR : ∀ i v H H', SameB D H H' → R i v H → R i v H') (hD : H1 D = none) (hx : SqL K H1 a xs) (hn : xs.length ≤ 100000) (hw : ∀ v, wipe ((wipe σ vs).set j (some v)) vs = wipe σ vs)
    (hs : ∀ i x H acc, xs[i]? = some x → Same H1 H → H D = some (.lst acc) → ∀ Q : VK, (∀ v H', Same H H' → R i v H' → Q v H') → te ((wipe σ vs).set j (some x)) H Q)
    (hd : ∀ H ys, Same H1 H → H D = some (.lst ys) → ys.length = xs.length → (∀ i v, ys[i]? = some v → R i v H) → Qd H) :
    ∃ W : Nat → Nat → Hp → Prop, (∃ m, W 0 m (upd H1 D (.lst []))) ∧ ∀ i m H, W i m H →
      ((Itl K a).stop i H ∧ Qd H) ∨ ((Itl K a).go i H ∧ ∃ Nx : Hp → Prop, (∀ H', Nx H' → ∃ m', m' < m ∧ W (i + 1) m' H') ∧ ∀ x H', (Itl K a).yld i H x H' → (gName j) x (wipe σ vs) H' fun σ2 H2 => wipe σ2 vs = wipe σ vs ∧ tYes σ2 H2 fun b H3 =>
        if b = true then te σ2 H3 fun y H4 => ∃ acc, H4 D = some (.lst acc) ∧ acc.length < sizeLine ∧ Nx (upd H4 D (.lst (acc ++ [y]))) else Nx H3) := by
  refine lc_list (K := K) (a := a) (xs := xs) (fun i H => ∃ ys, Same H1 H ∧ H D = some (.lst ys) ∧ ys.length = i ∧ ∀ k v, ys[k]? = some v → R k v H) ⟨[], same_new hD, upd_same, rfl, fun k v e => by simp at e⟩ (fun i H _ ⟨_, s1, _⟩ => s1.seq hx) ?_ ?_
  · rintro i x H hi ⟨ys, s1, hDl, hl, hr⟩
    have hil := (List.getElem?_eq_some_iff.mp hi).1
    refine ⟨hw _, ?_⟩
    refine yes_go ?_
    exact hs i x H ys hi s1 hDl _ fun v H' s2 r => ⟨ys, s2 _ _ hDl, szlt (by omega), ys ++ [v], same_mut (Same.trans s1 s2) hD, upd_same, by rw [List.length_append]; simp [hl], lc_step hR hl s2 hr r⟩
  · rintro H ⟨ys, s1, hDl, hl, hr⟩
    exact hd H ys s1 hDl hl hr
end

/-! ### for k, x in enumerate(xs) -/
theorem for_enum {K : PySem.W.Frag} {a : Addr} {xs : List V} {g : TG} {tb : TS} {D : Ends} {σ : L2.St} {H : Hp} (Pv : Nat → L2.St → Hp → Prop) (h0 : Pv 0 σ H) (hl : ∀ i σ H, i ≤ xs.length → Pv i σ H → SqL K H a xs)
    (hs : ∀ i x σ H T, xs[i]? = some x → Pv i σ H → H T = none → g (.ref T) σ (upd H T (.tup [.int (i : Nat), x])) fun σ2 H2 => tb { D with nx := Pv (i + 1), ct := Pv (i + 1), bk := D.nx } σ2 H2) (hd : ∀ σ H, Pv xs.length σ H → D.nx σ H) :
    ∃ W : Nat → Nat → L2.St → Hp → Prop, (∃ m, W 0 m σ H) ∧ ∀ i m σ H, W i m σ H →
      ((Ite K a).stop i H ∧ D.nx σ H) ∨ ((Ite K a).go i H ∧ ∃ N : L2.St → Hp → Prop, (∀ σ' H', N σ' H' → ∃ m', m' < m ∧ W (i + 1) m' σ' H') ∧ ∀ x H', (Ite K a).yld i H x H' → g x σ H' fun σ2 H2 => tb { D with nx := N, ct := N, bk := D.nx } σ2 H2) := by
  refine ⟨fun i m σ H => m = xs.length - i ∧ i ≤ xs.length ∧ Pv i σ H, ⟨xs.length, by simp, Nat.zero_le _, h0⟩, ?_⟩
  rintro i m σ H ⟨rfl, hi, p⟩
  have q := hl i σ H hi p
  by_cases hlt : i < xs.length
  · refine .inr ⟨⟨xs, xs[i], q, by simp [hlt]⟩, Pv (i + 1), fun σ' H' p' => ⟨xs.length - (i + 1), by omega, rfl, hlt, p'⟩, fun x H' y => ?_⟩
    obtain ⟨T, x', rfl, hT, rfl, y⟩ := y
    exact hs i x' σ H T (y xs q) p hT
  · have e : i = xs.length := by omega
    subst e
    exact .inl ⟨⟨xs, q, Nat.le_refl _⟩, hd σ H p⟩

/-! ### the letters -/
abbrev abc : Str := Str.ofString "abcdefghijklmnopqrstuvwxyz"
theorem abc_list : abc.cps.toList = (List.range 26).map (· + 97) := by decide +kernel
theorem abc_len : abc.length ≤ sizeLine := by
  rw [len_tl, abc_list]
  simp
  decide
theorem abc_at {i : Int} (h0 : 0 ≤ i) (h1 : i < 26) : atI abc.cps.toList i = some (i.toNat + 97) := by
  refine atI_of h0 ?_
  rw [abc_list, List.getElem?_map, List.getElem?_range (by omega)]
  rfl
theorem abc_mem (c : Nat) : c ∈ abc.cps.toList ↔ 97 ≤ c ∧ c ≤ 122 := by
  rw [abc_list, List.mem_map]
  constructor
  · rintro ⟨k, hk, rfl⟩
    have := List.mem_range.mp hk
    omega
  · intro h
    exact ⟨c - 97, List.mem_range.mpr (by omega), by omega⟩
/-- signs written in the text -/
theorem at_small {z : Str} {n : Nat} {i : Int} (hn : z.cps.toList.length = n) (hc : z.cps.toList.all (· < 1114112) = true) (h0 : 0 ≤ i) (h1 : i < n) : ∃ c, atI z.cps.toList i = some c ∧ c < 1114112 := by
  have hl : i.toNat < z.cps.toList.length := by omega
  refine ⟨z.cps.toList[i.toNat], atI_of h0 (List.getElem?_eq_getElem hl), ?_⟩
  exact of_decide_eq_true (List.all_eq_true.mp hc _ (List.getElem_mem hl))
theorem mulSmall {i j : Int} (h0 : -1000000000000000000 ≤ i) (h1 : i ≤ 1000000000000000000) : CMul i j := .inl ⟨by omega, by omega⟩
theorem mulSmall2 {i j : Int} (h0 : -1000000000000000000 ≤ j) (h1 : j ≤ 1000000000000000000) : CMul i j := .inr ⟨by omega, by omega⟩
theorem atI_mem {xs : List V} {i : Int} (h0 : 0 ≤ i) (h1 : i < xs.length) : ∃ v, atI xs i = some v ∧ v ∈ xs := by
  have hl : i.toNat < xs.length := by omega
  exact ⟨xs[i.toNat], atI_of h0 (List.getElem?_eq_getElem hl), List.getElem_mem hl⟩
end Fb

namespace Fb
open PySem PySem.Spec PyProof.Rows L2
/-! ### a def whose code object is known -/
structure FunC (K : PySem.W.Frag) (x qual : Str) (st : Stmt) (f : Addr) (fd : FuncData) (c : Addr) : Prop where
  ex : ∃ (oc : Value) (od : Option Addr) (kV doc pm : Value) (an : Option Addr) (ct : Value) (osl : Array (Option Value)),
    fd = PySem.W.fnOf x qual (defArgs st) (defBody st) (defScope st) .none kV doc pm an (.ref c) ct ∧ K.lookup f = some ⟨oc, od, .func fd, osl⟩ ∧ PySem.W.codeIn K (.ref c) qual = true
section
variable {P : Program} {w : World} {K : PySem.W.Frag} {mg : Str → Option Value} {base : Heap}
theorem FunC.okX {x qual : Str} {st : Stmt} {f c : Addr} {fd : FuncData} {N ps : List Str} {k : Nat} {sp : Sp} (F : FunC K x qual st f fd c) (S : FnScope N ps (defScope st)) (len : ∀ vs H Q E, sp vs H Q E → vs.length = ps.length)
    (hbody : ∀ (A : Around) (outer : List Env) (s : Shared) (H : Hp) (vs : List V) (Q : VK) (E : XK), Room k (A.deeper (envOfC qual (defScope st) s.heap.objs.size f (.ref c))) → sp vs H Q E →
      ∃ t, PSs (cxOf (L2N.CX P w) P w K mg base N qual (defScope st) f (.ref c) A outer s H E) (defBody st) t ∧ t { nx := fun _ H' => Q .non H', rt := Q } (start N vs) H) : FnOk P w K mg base (L2N.CX P w) (k + 1) f fd ps sp := by
  obtain ⟨oc, od, kV, doc, pm, an, ct, osl, rfl, lk, hcd⟩ := F.ex
  exact fn_of lk hcd S len fun A outer s H vs Q E hr hsp => hbody A outer s H vs Q E hr hsp
end
/-! ### flat data: None, truth values, numbers, texts -/
def dat : V → PyData
  | .non => .none
  | .bl b => .bool b
  | .int i => .int i
  | .str z => .str z
  | _ => .none
def flat (v : V) : Prop := v = .non ∨ (∃ b, v = .bl b) ∨ (∃ i, v = .int i) ∨ ∃ z, v = .str z ∧ PyData.strOk z = true
theorem dp_flat {K : PySem.W.Frag} {H : Hp} {v : V} (h : flat v) : Dp K H v (dat v) := by
  rcases h with rfl | ⟨b, rfl⟩ | ⟨i, rfl⟩ | ⟨z, rfl, _⟩
  · exact .non
  · exact .bl b
  · exact .int i
  · exact .str z
theorem dpAll_flat {K : PySem.W.Frag} {H : Hp} : ∀ {xs : List V}, (∀ v ∈ xs, flat v) → DpAll K H xs (xs.map dat)
  | [], _ => .nil
  | v :: r, h => .cons (dp_flat (h v List.mem_cons_self)) (dpAll_flat fun u hu => h u (List.mem_cons_of_mem _ hu))
theorem lay_flat {v : V} (h : flat v) : PyData.canLay0 (dat v) = true ∧ PyData.depth (dat v) = 0 := by
  rcases h with rfl | ⟨b, rfl⟩ | ⟨i, rfl⟩ | ⟨z, rfl, hz⟩
  · exact ⟨by simp [dat, PyData.canLay0], by simp [dat, PyData.depth]⟩
  · exact ⟨by simp [dat, PyData.canLay0], by simp [dat, PyData.depth]⟩
  · exact ⟨by simp [dat, PyData.canLay0], by simp [dat, PyData.depth]⟩
  · exact ⟨by simpa [dat, PyData.canLay0] using hz, by simp [dat, PyData.depth]⟩
theorem layAll_flat : ∀ {xs : List V}, (∀ v ∈ xs, flat v) → PyData.canLayAll0 (xs.map dat) = true ∧ PyData.depthAll (xs.map dat) = 0
  | [], _ => ⟨by simp [PyData.canLayAll0], by simp [PyData.depthAll]⟩
  | v :: r, h => by
    have h1 := lay_flat (h v List.mem_cons_self)
    have h2 := layAll_flat (xs := r) fun u hu => h u (List.mem_cons_of_mem _ hu)
    refine ⟨?_, ?_⟩
    · rw [List.map_cons, PyData.canLayAll0, h1.1, h2.1]; rfl
    · rw [List.map_cons, PyData.depthAll, h1.2, h2.2]; rfl
theorem shaped_flat {v : V} (h : flat v) : SeqAt.shaped (dat v) = true := by
  have h1 := lay_flat h
  unfold SeqAt.shaped
  rw [h1.1, h1.2]; rfl
theorem shaped_list {xs : List V} (h : ∀ v ∈ xs, flat v) : SeqAt.shaped (.list (xs.map dat)) = true := by
  have h1 := layAll_flat h
  unfold SeqAt.shaped
  rw [PyData.canLay0, h1.1, PyData.depth, h1.2]; rfl
theorem shaped_tup {xs : List V} (h : ∀ v ∈ xs, flat v) : SeqAt.shaped (.tuple (xs.map dat)) = true := by
  have h1 := layAll_flat h
  unfold SeqAt.shaped
  rw [PyData.canLay0, h1.1, PyData.depth, h1.2]; rfl
theorem eqv_self {d : PyData} (h : SeqAt.shaped d = true) : PyData.eqv d d = true := SeqAt.eqv_refl d (SeqAt.canLay_of_shaped h)

/-! ### the signs of a text that pass a test -/
section
variable {K : PySem.W.Frag} {tt : TT} {te : TE} {vs : List Nat} {σ : L2.St} {H1 : Hp} {D : Addr} {Qd : Hp → Prop}
theorem filter_snoc {pf : Nat → Bool} {l : List Nat} {i c : Nat} (h : l[i]? = some c) : (l.take (i + 1)).filter pf = (l.take i).filter pf ++ (if pf c then [c] else []) := by
  rw [List.take_add_one, h]
  simp only [Option.toList_some, List.filter_append, List.filter_cons, List.filter_nil]
theorem lc_signs {x : Str} {j : Nat} (pf : Nat → Bool) (hD : H1 D = none) (hn : x.length ≤ 90000) (hw : ∀ v, wipe ((wipe σ vs).set j (some v)) vs = wipe σ vs)
    (ht : ∀ c H, Same H1 H → ∀ Q : Bool → Hp → Prop, Q (pf c) H → tt ((wipe σ vs).set j (some (.str ⟨#[c]⟩))) H Q) (he : ∀ c H, Same H1 H → ∀ Q : VK, Q (.str ⟨#[c]⟩) H → te ((wipe σ vs).set j (some (.str ⟨#[c]⟩))) H Q)
    (hd : ∀ H, Same H1 H → H D = some (.lst ((x.cps.toList.filter pf).map fun c => .str ⟨#[c]⟩)) → Qd H) :
    ∃ W : Nat → Nat → Hp → Prop, (∃ m, W 0 m (upd H1 D (.lst []))) ∧ ∀ i m H, W i m H →
      ((Its x).stop i H ∧ Qd H) ∨ ((Its x).go i H ∧ ∃ Nx : Hp → Prop, (∀ H', Nx H' → ∃ m', m' < m ∧ W (i + 1) m' H') ∧ ∀ y H', (Its x).yld i H y H' → (gName j) y (wipe σ vs) H' fun σ2 H2 => wipe σ2 vs = wipe σ vs ∧ tt σ2 H2 fun b H3 =>
        if b = true then te σ2 H3 fun y H4 => ∃ acc, H4 D = some (.lst acc) ∧ acc.length < sizeLine ∧ Nx (upd H4 D (.lst (acc ++ [y]))) else Nx H3) := by
  have ez : x.cps.size = x.cps.toList.length := by simp
  refine ⟨fun i m H => m = x.cps.size - i ∧ i ≤ x.cps.size ∧ Same H1 H ∧ H D = some (.lst (((x.cps.toList.take i).filter pf).map fun c => .str ⟨#[c]⟩)), ⟨x.cps.size, by simp, Nat.zero_le _, same_new hD, upd_same⟩, ?_⟩
  rintro i m H ⟨rfl, hi, s1, hl⟩
  by_cases hlt : i < x.cps.size
  · refine .inr ⟨hlt, fun H' => Same H1 H' ∧ H' D = some (.lst (((x.cps.toList.take (i + 1)).filter pf).map fun c => .str ⟨#[c]⟩)), fun H' p' => ⟨x.cps.size - (i + 1), by omega, rfl, hlt, p'⟩, fun y H' yl => ?_⟩
    obtain ⟨rfl, c, hc, rfl⟩ := yl
    have hc2 : x.cps.toList[i]? = some c := by rw [Array.getElem?_toList]; exact hc
    refine ⟨hw _, ?_⟩
    refine ht c H' s1 _ ?_
    have fs := filter_snoc (pf := pf) hc2
    cases hp : pf c with
    | true =>
      refine iteT ?_
      refine he c H' s1 _ ⟨_, hl, szlt ?_, same_mut s1 hD, ?_⟩
      · rw [List.length_map]
        have h1 := List.length_filter_le pf (x.cps.toList.take i)
        have h2 : (x.cps.toList.take i).length ≤ x.cps.toList.length := by rw [List.length_take]; omega
        have h3 : x.length = x.cps.toList.length := len_tl x
        omega
      · rw [upd_same, fs, hp]
        simp
    | false =>
      refine iteF ⟨s1, ?_⟩
      rw [fs, hp]
      simpa using hl
  · have e : i = x.cps.size := by omega
    subst e
    refine .inl ⟨Nat.le_refl _, hd H s1 ?_⟩
    rw [ez, List.take_length] at hl
    exact hl
end

/-! ### is it a place -/
def letter (c : Nat) : Bool := decide (97 ≤ c) && decide (c ≤ 122)
def isP : V → Bool
  | .str z => decide (1 ≤ z.length) && decide (z.length ≤ 12) && z.cps.toList.all letter
  | _ => false
theorem btw_letter (c : Nat) : (!decide (([c] : List Nat) < (Str.ofString "a").cps.toList) && !decide ((Str.ofString "z").cps.toList < ([c] : List Nat))) = letter c := by
  have e1 : (Str.ofString "a").cps.toList = [97] := by decide +kernel
  have e2 : (Str.ofString "z").cps.toList = [122] := by decide +kernel
  rw [e1, e2]
  have h1 : (([c] : List Nat) < [97]) ↔ c < 97 := by
    constructor
    · intro h
      cases h with
      | rel h => exact h
      | cons h => cases h
    · intro h; exact List.Lex.rel h
  have h2 : (([122] : List Nat) < [c]) ↔ 122 < c := by
    constructor
    · intro h
      cases h with
      | rel h => exact h
      | cons h => cases h
    · intro h; exact List.Lex.rel h
  unfold letter
  have g1 : decide (([c] : List Nat) < [97]) = decide (c < 97) := decide_eq_decide.mpr h1
  have g2 : decide (([122] : List Nat) < [c]) = decide (122 < c) := decide_eq_decide.mpr h2
  rw [g1, g2]
  by_cases a : c < 97 <;> by_cases b : 122 < c <;> simp [a, b] <;> omega
theorem notin_letter (c : Nat) : (!decide (c ∈ abc.cps.toList)) = !letter c := by
  unfold letter
  have g : decide (c ∈ abc.cps.toList) = decide (97 ≤ c ∧ c ≤ 122) := decide_eq_decide.mpr (abc_mem c)
  rw [g]
  by_cases a : 97 ≤ c <;> by_cases b : c ≤ 122 <;> simp [a, b]
theorem nofree_ex {names : List (Str × NameKind)} {cells : List (Str × Addr)} (h : ∀ y ∈ names, y.2 ≠ .free) : ∀ y ∈ names, y.2 = .free → ∃ c, cells.lookup y.1 = some c := fun y hy e => absurd e (h y hy)
theorem ifND {p A B : Prop} [Decidable p] (h1 : ¬ p → A) (h2 : p → B) : if (!decide p) = true then A else B := by
  by_cases h : p
  · rw [decide_eq_true h]; exact iteF (h2 h)
  · rw [decide_eq_false h]; exact iteT (h1 h)
theorem ifNB {b : Bool} {A B : Prop} (h1 : b = false → A) (h2 : b = true → B) : if (!b) = true then A else B := by
  cases b with
  | true => exact iteF (h2 rfl)
  | false => exact iteT (h1 rfl)
theorem ifT1 {A B : Prop} (h : A) : if (!false) = true then A else B := iteT h
theorem ifF1 {A B : Prop} (h : B) : if (!true) = true then A else B := iteF h
theorem isP_short {z : Str} (h : ¬ (1 : Int) ≤ (z.length : Int)) : isP (.str z) = false := by
  show (decide (1 ≤ z.length) && decide (z.length ≤ 12) && z.cps.toList.all letter) = _
  rw [decide_eq_false (show ¬ 1 ≤ z.length by omega)]; rfl
theorem isP_long {z : Str} (h : ¬ (z.length : Int) ≤ (12 : Int)) : isP (.str z) = false := by
  show (decide (1 ≤ z.length) && decide (z.length ≤ 12) && z.cps.toList.all letter) = _
  rw [decide_eq_false (show ¬ z.length ≤ 12 by omega)]; simp
theorem isP_mid {z : Str} (h1 : (1 : Int) ≤ (z.length : Int)) (h2 : (z.length : Int) ≤ (12 : Int)) : isP (.str z) = z.cps.toList.all letter := by
  show (decide (1 ≤ z.length) && decide (z.length ≤ 12) && z.cps.toList.all letter) = _
  rw [decide_eq_true (show 1 ≤ z.length by omega), decide_eq_true (show z.length ≤ 12 by omega)]; rfl
theorem filter_all {pf : Nat → Bool} {l : List Nat} : (l.filter fun c => !pf c) = [] ↔ l.all pf = true := by
  rw [List.filter_eq_nil_iff, List.all_eq_true]
  exact ⟨fun h c hc => by simpa using h c hc, fun h c hc => by simp [h c hc]⟩
theorem eqv_nil (xs : List V) : PyData.eqv (.list (xs.map dat)) (.list []) = xs.isEmpty := by
  cases xs with
  | nil => simp [PyData.eqv, PyData.eqvAll]
  | cons v r => simp [PyData.eqv, PyData.eqvAll]
theorem flat_sign {c : Nat} (h : c < 1114112) : flat (.str ⟨#[c]⟩) := .inr (.inr (.inr ⟨_, rfl, okS_data (okS.one h)⟩))
theorem flat_signs {l : List Nat} (h : ∀ c ∈ l, c < 1114112) : ∀ v ∈ l.map (fun c => V.str ⟨#[c]⟩), flat v := fun v hv => by
  obtain ⟨c, hc, rfl⟩ := List.mem_map.mp hv
  exact flat_sign (h c hc)
theorem isEmpty_all {pf : Nat → Bool} {l : List Nat} {α : Type} (f : Nat → α) : ((l.filter fun c => !pf c).map f).isEmpty = l.all pf := by
  rw [Bool.eq_iff_iff, List.isEmpty_iff, List.map_eq_nil_iff]
  exact filter_all
end Fb

namespace Fb
open PySem PySem.Spec PyProof.Rows L2
/-! ### what is wrong with a journey: 0 nothing, 1 a place, 2 the journey -/
def ask (v : V) : Prop := v = .non ∨ (∃ b, v = .bl b) ∨ (∃ i, v = .int i) ∨ ∃ z, v = .str z ∧ okS 90000 z
theorem ask_flat {v : V} (h : ask v) : flat v := by
  rcases h with h | h | h | ⟨z, h, hz⟩
  · exact .inl h
  · exact .inr (.inl h)
  · exact .inr (.inr (.inl h))
  · exact .inr (.inr (.inr ⟨z, h, okS_data hz⟩))
def dueFrom : Option V → List V → Nat
  | _, [] => 0
  | p, x :: r => if isP x = true then (if p = some x then 2 else dueFrom (some x) r) else 1
def due (xs : List V) : Nat := if 2 ≤ xs.length ∧ xs.length ≤ 40 then dueFrom none xs else 2
def prev (xs : List V) (i : Nat) : Option V := if i = 0 then none else xs[i - 1]?
def dueAt (xs : List V) (i : Nat) : Nat := dueFrom (prev xs i) (xs.drop i)
theorem dueAt_end (xs : List V) : dueAt xs xs.length = 0 := by
  unfold dueAt
  rw [List.drop_length]
  rfl
theorem dueAt_zero (xs : List V) : dueAt xs 0 = dueFrom none xs := rfl
theorem dueAt_step {xs : List V} {i : Nat} {x : V} (h : xs[i]? = some x) : dueAt xs i = if isP x = true then (if prev xs i = some x then 2 else dueAt xs (i + 1)) else 1 := by
  obtain ⟨hl, e⟩ := List.getElem?_eq_some_iff.mp h
  unfold dueAt
  rw [List.drop_eq_getElem_cons hl, e]
  show (if isP x = true then (if prev xs i = some x then 2 else dueFrom (some x) (xs.drop (i + 1))) else 1) = _
  have e2 : prev xs (i + 1) = some x := by
    unfold prev
    rw [if_neg (by omega), Nat.add_sub_cancel, h]
  rw [e2]
theorem due_in {xs : List V} (h1 : 2 ≤ xs.length) (h2 : xs.length ≤ 40) : due xs = dueAt xs 0 := if_pos ⟨h1, h2⟩
theorem due_out {xs : List V} (h : ¬ (2 ≤ xs.length ∧ xs.length ≤ 40)) : due xs = 2 := if_neg h
theorem due_place {xs : List V} {i : Nat} {x : V} (h : xs[i]? = some x) (hp : isP x = false) : dueAt xs i = 1 := by
  rw [dueAt_step h, hp]; rfl
theorem due_same {xs : List V} {i : Nat} {x : V} (h : xs[i]? = some x) (hp : isP x = true) (h0 : i ≠ 0) (hs : xs[i - 1]? = some x) : dueAt xs i = 2 := by
  rw [dueAt_step h, if_pos hp, if_pos (by unfold prev; rw [if_neg h0]; exact hs)]
theorem due_go {xs : List V} {i : Nat} {x : V} (h : xs[i]? = some x) (hp : isP x = true) (hs : i ≠ 0 → xs[i - 1]? ≠ some x) : dueAt xs i = dueAt xs (i + 1) := by
  rw [dueAt_step h, if_pos hp, if_neg (fun e => ?_)]
  unfold prev at e
  by_cases h0 : i = 0
  · rw [if_pos h0] at e; cases e
  · rw [if_neg h0] at e; exact hs h0 e
def word : Nat → Str
  | 0 => Str.ofString ""
  | 1 => Str.ofString "place"
  | _ => Str.ofString "journey"
theorem isP_str {v : V} (h : isP v = true) : ∃ z, v = .str z := by
  cases v with
  | str z => exact ⟨z, rfl⟩
  | _ => cases h
theorem scal_str {z : Str} {v : V} (h : ask v) : scal (.str z) v = true := by
  rcases h with rfl | ⟨b, rfl⟩ | ⟨i, rfl⟩ | ⟨y, rfl, _⟩ <;> rfl
theorem num_small : ∀ i : Nat, i < 300 → ((toString (i : Int) : Str)).length ≤ 3 := by decide +kernel
theorem log_small {i : Nat} (h : i < 1000) : (i : Int).natAbs.log2 < 1920 := by
  have h1 : (i : Int).natAbs = i := by simp
  rw [h1]
  exact Nat.lt_of_le_of_lt (Nat.log2_le_self i) (by omega)
theorem lapp {a b : Str} {n m : Nat} (h : a.length ≤ n) (g : b.length ≤ m) : (a ++ b).length ≤ n + m := by rw [len_app]; omega
/-! ### within a suite: what the outer text says, by K -/
theorem pe_cls {X : Cx} {x : Str} {C : Addr} {pos : Pos} (hm : X.mg x = some (.ref C)) (hg : Gl X x := by rfl) (hd : (x == ("__debug__" : Str)) = false := by decide) : PE X (.Name x pos) (tC (.ref C)) := pe_glob hg hm rfl hd
theorem pe_bty {X : Cx} {x : Str} {n : String} {pos : Pos} (hm : X.mg x = none) (hv : bootBuiltins x = some (.type n)) (hg : Gl X x := by rfl) (hn : x ≠ "__name__" := by decide) (hd : (x == ("__debug__" : Str)) = false := by decide) : PE X (.Name x pos) (tC (.ty n)) := pe_bltn hg hm hv rfl hn hd
theorem op_eqS {X : Cx} {K : PySem.W.Frag} (hu : X.A.units + 64 < cLine) (hK : X.K = K := by rfl) : OpR X (compareOp .Eq) (rEqD K) := hK ▸ op_eqD hu
theorem op_neS {X : Cx} {K : PySem.W.Frag} (hu : X.A.units + 64 < cLine) (hK : X.K = K := by rfl) : OpR X (compareOp .NotEq) (rNeD K) := hK ▸ op_neD hu
theorem ix_listS {X : Cx} {K : PySem.W.Frag} (hK : X.K = K := by rfl) : IxR X (rIxL K) := hK ▸ ix_list
theorem ixN_of {n : Nat} {j : Int} (h0 : 0 ≤ j) (h : j < n) : ixN n j = some j.toNat := by
  unfold ixN
  rw [if_pos h0, if_pos h]
theorem rel_cls {C : Addr} : ∀ u, L2.RelV (.ref C) u → u = Value.ref C := fun _ h => h
theorem rel_ty {n : String} : ∀ u, L2.RelV (.ty n) u → u = Value.type n := fun _ h => h
end Fb

namespace Fb
open PySem PySem.Spec PyProof.Rows L2
/-! ### what the top has left, by facts -/
structure FA (K : PySem.W.Frag) (x : Str) (st : Stmt) (f : Addr) : Prop where
  a : PySem.W.nsIn K mainGlobals x = some (some (.ref f))
  l : ∃ (oc : Value) (od : Option Addr) (kV dc pm : Value) (an : Option Addr) (cd ct : Value) (osl : Array (Option Value)), K.lookup f = some ⟨oc, od, .func (PySem.W.fnOf x x (defArgs st) (defBody st) (defScope st) .none kV dc pm an cd ct), osl⟩ ∧ PySem.W.codeIn K cd x = true
  k : PySem.W.keepIn K (.ref f) = true
/-- .. with its code object and that one's table -/
structure FAC (K : PySem.W.Frag) (x : Str) (st : Stmt) (f c P : Addr) : Prop where
  a : PySem.W.nsIn K mainGlobals x = some (some (.ref f))
  l : ∃ (oc : Value) (od : Option Addr) (kV dc pm : Value) (an : Option Addr) (ct : Value) (osl : Array (Option Value)), K.lookup f = some ⟨oc, od, .func (PySem.W.fnOf x x (defArgs st) (defBody st) (defScope st) .none kV dc pm an (.ref c) ct), osl⟩
  q : PySem.W.codeIn K (.ref c) x = true
  k : PySem.W.keepIn K (.ref f) = true
  c : ∃ (oc : Value) (od : Option Addr) (vs : Array Value) (osl : Array (Option Value)), K.lookup c = some ⟨oc, od, .fields vs, osl⟩ ∧ vs[11]? = some (.ref P)
  n : K.lookup P = none
section
variable {Pg : Program} {w : World} {K : PySem.W.Frag} {mg : Str → Option Value} {base h : Heap} {x : Str} {st : Stmt} {f c P : Addr} {ps : List Str} {sp : Sp} {k : Nat}
theorem FA.dn (A : FA K x st f) (X : K.In h) (G : h.Ns mainGlobals mg) (ok : ∀ fd, Fun K x x st f fd → FnOk Pg w K mg base (L2N.CX Pg w) k f fd ps sp)
    (hb : ∀ (kV doc pm : Value) (an : Option Addr) (cdv ct : Value) (us : List Value), us.length = ps.length → bindArgs (PySem.W.fnOf x x (defArgs st) (defBody st) (defScope st) .none kV doc pm an cdv ct) ⟨us, []⟩ = pure (ps.zip us)) : Dn Pg w K mg base k x ps sp := by
  obtain ⟨oc, od, kV, dc, pm, an, cd, ct, osl, l, c⟩ := A.l
  have F := fun_mk (st := st) l c A.k
  exact ⟨f, _, ok _ F, PySem.W.mg_of X G A.a, A.k, F.binds (ps := ps) hb⟩
theorem FAC.dn (A : FAC K x st f c P) (X : K.In h) (G : h.Ns mainGlobals mg) (ok : ∀ fd, FunC K x x st f fd c → FnOk Pg w K mg base (L2N.CX Pg w) k f fd ps sp)
    (hb : ∀ (kV doc pm : Value) (an : Option Addr) (cdv ct : Value) (us : List Value), us.length = ps.length → bindArgs (PySem.W.fnOf x x (defArgs st) (defBody st) (defScope st) .none kV doc pm an cdv ct) ⟨us, []⟩ = pure (ps.zip us)) : Dn Pg w K mg base k x ps sp := by
  obtain ⟨oc, od, kV, dc, pm, an, ct, osl, l⟩ := A.l
  have F := fun_mk (st := st) l A.q A.k
  exact ⟨f, _, ok _ ⟨oc, od, kV, dc, pm, an, ct, osl, rfl, l, A.q⟩, PySem.W.mg_of X G A.a, A.k, F.binds (ps := ps) hb⟩
/-- the table of such a def at the head's heap -/
theorem FAC.tab (A : FAC K x st f c P) (X : K.In h) (G : h.Ns mainGlobals mg) (T : TabN mg h x) : h.get? P = some { cls := .none, data := .fields #[] } ∧ PySem.W.CodeHd h c P := by
  obtain ⟨a, c', P', o, fd, h1, h2, h3, h4, h5, h6, oc, vc, h7, h8, h9⟩ := T
  rw [PySem.W.mg_of X G A.a] at h1
  cases h1
  obtain ⟨oc2, od, kV, dc, pm, an, ct, osl, l⟩ := A.l
  have g1 := X _ _ l
  rw [h2] at g1
  cases g1
  cases h3
  cases h4
  obtain ⟨oc3, od3, vs, osl3, l3, v11⟩ := A.c
  have g2 := X _ _ l3
  rw [h7] at g2
  cases g2
  cases h8
  rw [v11] at h9
  cases h9
  exact ⟨h6, h5⟩
theorem FA.gint {i : Int} (X : K.In h) (G : h.Ns mainGlobals mg) (a : ∃ t, PySem.W.nsIn K mainGlobals x = some (some (.int i t))) : ∃ t, mg x = some (.int i t) := by
  obtain ⟨t, a⟩ := a
  exact ⟨t, PySem.W.mg_of X G a⟩
end
/-- an own class of errors, by facts -/
structure EA (K : PySem.W.Frag) (x : Str) (C : Addr) : Prop where
  a : PySem.W.nsIn K mainGlobals x = some (some (.ref C))
  k : PySem.W.keepIn K (.ref C) = true
  x : PySem.W.excIn K C [.type "ValueError", .type "Exception", .type "BaseException", .type "object"] "ValueError.__new__" = true
  b : PySem.W.subIn K (.ref C) (.type "BaseException") = some true
  t : PySem.W.typeIn K (.ref C) = some (.type "type")
  i : PySem.W.isClsIn K C = true
  hg : PySem.W.findIn K (.ref C) "__getattribute__" = some (some (.builtin "BaseException.__getattribute__"))
  hk : PySem.W.findIn K (.ref C) "__getattr__" = some none
  hd : PySem.W.hasDictIn K C = true
  ha : PySem.W.findIn K (.ref C) "__class__" = some (some (.builtin "object.__class__"))
  hn : PySem.W.specialIn K (.builtin "object.__class__") "__get__" = some (some (.builtin "getset_descriptor.__get__"))
  ht : PySem.W.takesIn K (.builtin "object.__class__") = some true
  hm : PySem.W.mroIn K C (.type "object") = some true
  v : PySem.W.subIn K (.ref C) (.type "ValueError") = some true
theorem EA.exk {K : PySem.W.Frag} {mg : Str → Option Value} {h : Heap} {x : Str} {C : Addr} (A : EA K x C) (X : K.In h) (G : h.Ns mainGlobals mg) : ExK K mg x C [.type "ValueError", .type "Exception", .type "BaseException", .type "object"] := ⟨PySem.W.mg_of X G A.a, A.k, A.x, A.b, A.t⟩
theorem EA.exc {K : PySem.W.Frag} {x : Str} {C : Addr} (A : EA K x C) : ExcC K C := ⟨A.hg, A.hk, A.b, A.hd, A.ha, A.hn, A.ht, A.hm⟩
theorem kit_self {K : PySem.W.Frag} {C : Addr} : PySem.W.kitOne K (.ref C) (.ref C) = some true := by
  unfold PySem.W.kitOne
  rw [if_pos (by simp)]
theorem EA.kit {K : PySem.W.Frag} {x : Str} {C D : Addr} {b : Bool} (A : EA K x D) (hs : PySem.W.subIn K (.ref C) (.ref D) = some b) (hn : (Value.ref C == Value.ref D) = false) : PySem.W.kitOne K (.ref C) (.ref D) = some b := by
  have h1 : (PySem.W.clsIn K D).isSome = true := A.i
  have e2 : ((PySem.W.clsIn K D).isSome && PySem.W.typeIn K (.ref D) == some (.type "type")) = true := by rw [h1, A.t]; rfl
  unfold PySem.W.kitOne
  rw [hn, if_neg Bool.false_ne_true]
  show (if ((PySem.W.clsIn K D).isSome && PySem.W.typeIn K (.ref D) == some (.type "type")) = true then PySem.W.subIn K (.ref C) (.ref D) else none) = some b
  rw [if_pos e2]
  exact hs
theorem EA.kitV {K : PySem.W.Frag} {x : Str} {C : Addr} (A : EA K x C) : PySem.W.kitOne K (.ref C) (.type "ValueError") = some true := by
  unfold PySem.W.kitOne
  rw [if_neg (by simp)]
  show (if PySem.W.kitMeta "ValueError" = true then PySem.W.subIn K (.ref C) (.type "ValueError") else none) = some true
  rw [if_pos (by decide +kernel)]
  exact A.v
theorem EA.exm {K : PySem.W.Frag} {x : Str} {C D : Addr} {b : Bool} (A : EA K x D) (hs : PySem.W.subIn K (.ref C) (.ref D) = some b) : PySem.W.exmOne K (.ref C) (.ref D) = some b := PySem.W.exm_ref A.b A.hd A.t hs
theorem fa_mk {K : PySem.W.Frag} {x : Str} {st : Stmt} {f : Addr} {oc kV dc pm cd ct : Value} {od an : Option Addr} {osl : Array (Option Value)} (a : PySem.W.nsIn K mainGlobals x = some (some (.ref f)))
    (l : K.lookup f = some ⟨oc, od, .func (PySem.W.fnOf x x (defArgs st) (defBody st) (defScope st) .none kV dc pm an cd ct), osl⟩) (c : PySem.W.codeIn K cd x = true) (k : PySem.W.keepIn K (.ref f) = true) : FA K x st f := ⟨a, ⟨oc, od, kV, dc, pm, an, cd, ct, osl, l, c⟩, k⟩
theorem fac_mk {K : PySem.W.Frag} {x : Str} {st : Stmt} {f c P : Addr} {oc kV dc pm ct oc2 : Value} {od an od2 : Option Addr} {osl osl2 : Array (Option Value)} {vs : Array Value} (a : PySem.W.nsIn K mainGlobals x = some (some (.ref f)))
    (l : K.lookup f = some ⟨oc, od, .func (PySem.W.fnOf x x (defArgs st) (defBody st) (defScope st) .none kV dc pm an (.ref c) ct), osl⟩) (q : PySem.W.codeIn K (.ref c) x = true) (k : PySem.W.keepIn K (.ref f) = true)
    (lc : K.lookup c = some ⟨oc2, od2, .fields vs, osl2⟩) (v : vs[11]? = some (.ref P)) (n : K.lookup P = none) : FAC K x st f c P := ⟨a, ⟨oc, od, kV, dc, pm, an, ct, osl, l⟩, q, k, ⟨oc2, od2, vs, osl2, lc, v⟩, n⟩
theorem gi_mk {K : PySem.W.Frag} {x : Str} {i : Int} {t : Tok} (a : PySem.W.nsIn K mainGlobals x = some (some (.int i t))) : ∃ t, PySem.W.nsIn K mainGlobals x = some (some (.int i t)) := ⟨t, a⟩
end Fb

namespace Fb
open PySem PySem.Spec PyProof.Rows L2
/-! ### for (a, b), v in d.items(), d a dict with tuple keys that stands locked -/
section
variable {X : Cx} {pins : List (Addr × Obj)} {σ : L2.St} {H : Hp} {s : Shared} {d : Addr} {o : Obj}
theorem frzT2 {kvs : List (List Key × V)} (I : Inv X pins σ H s) (h : H d = some (.frz o (.dT kvs))) :
    (d == sysModules) = false ∧ s.heap.get? d = some o ∧ o.ExactDict ∧ ∃ (es : Array DictEntry) (ep : Nat), o.data = .dict es ep ∧ es.size = kvs.length ∧
      ∀ (i : Nat) (k : List Key) (v : V), kvs[i]? = some (k, v) → ∃ (en : DictEntry) (q : Addr), es[i]? = some en ∧ en.key = .ref q ∧ H q = some (.tup (k.map kV)) ∧ L2.RelV v en.val := by
  obtain ⟨hd, z, hs, xs, pr, o', es, ep, ho, hx, hdt, he, _⟩ := I.hok d _ h
  rw [hd] at ho
  cases ho
  refine ⟨hs, hd, hx, es, ep, hdt, ?_, fun i k v e => ?_⟩
  · have l1 : es.size = xs.length := size_of_entries he
    have l2 : kvs.length = xs.length := Paired.length pr
    omega
  · obtain ⟨b, hb, e1, e2, e3⟩ := paired_get pr e
    have q := entry_at he i
    rw [hb] at q
    exact ⟨_, b.2.1, q, rfl, e2, e3⟩
end
def Itit (d : Addr) (o : Obj) (kvs : List (List Key × V)) : It :=
  ⟨fun i H => H d = some (.frz o (.dT kvs)) ∧ i < kvs.length, fun i H x H' => ∃ (T q : Addr) (k : List Key) (v : V), kvs[i]? = some (k, v) ∧ x = .ref T ∧ H T = none ∧ H q = some (.tup (k.map kV)) ∧ H' = upd H T (.tup [.ref q, v]), fun i H => H d = some (.frz o (.dT kvs)) ∧ kvs.length ≤ i⟩
section
variable {P : Program} {w : World} {K : PySem.W.Frag} {d : Addr} {o : Obj} {es : Array DictEntry} {ep : Nat}
theorem turn_itemsT {kvs : List (List Key × V)} {elts : List Expr} {kk : Nat} {tpos : Pos} (it : Addr) (hod : o.data = .dict es ep) :
    Turn P w K (.Tuple elts kk tpos) (Itit d o kvs) [it] it (fun i h => ∃ ok ov, IsItemIter h it d i kvs.length ep ok ov) where
  mem := by simp
  obj := fun i h st b hb => by
    have e : b = it := by simpa using hb
    subst e
    obtain ⟨ok, ov, e⟩ := st
    exact ⟨_, e, fun v z => nomatch z⟩
  keep := fun i h h' st k => let ⟨ok, ov, e⟩ := st; ⟨ok, ov, k it (by simp) _ e⟩
  item := by
    intro X hP hw hK hc i pins s σ H E I hf st hg
    subst hP hw hK
    obtain ⟨hd, hi⟩ := hg
    obtain ⟨hs, hgd, hx, es', ep', hdt, hsz, ent⟩ := frzT2 I hd
    obtain ⟨rfl, rfl⟩ := dict_ep hod hdt
    obtain ⟨⟨k, v⟩, hkv⟩ : ∃ p, kvs[i]? = some p := ⟨kvs[i], List.getElem?_eq_getElem hi⟩
    obtain ⟨en, q, hen, hkey, hq, rv⟩ := ent i k v hkv
    obtain ⟨ok, ov, he⟩ := st
    rw [← hsz] at he
    have hi2 : i < es'.size := by rw [hsz]; exact hi
    have hen2 : es'[i] = en := by
      have := (Array.getElem?_eq_some_iff.mp hen).2
      exact this
    have hlt : it < s.heap.objs.size := Heap.lt_size he
    refine DT.nextI he ⟨o, hgd, hx, hdt⟩ hi2 fun h' ho hT hz hk => ?_
    rw [hen2] at ho hT
    refine ⟨_, rfl, wpAny_letOwnedTupleGo_items (s := { s with heap := h' }) ho fun h'' he' sb => ?_⟩
    have hT2 : h''.get? s.heap.objs.size = some { cls := .type "tuple", data := .seq #[en.key, en.val] } := (sb.2 _ (Nat.ne_of_gt hlt)).trans hT
    have new : ObjOk X.prog X.w (upd H s.heap.objs.size (.tup [.ref q, v])) h'' s.heap.objs.size (.tup [.ref q, v]) :=
      ⟨by show 2 ≤ sizeLine; decide, [en.key, en.val], .cons hkey (.cons rv .nil), ⟨_, hT2, rfl, _, rfl⟩⟩
    have I1 : Inv X pins σ (upd H s.heap.objs.size (.tup [.ref q, v])) { s with heap := h'' } :=
      I.turnedNew (t' := s.toks) (ch := [it]) (fun b ob hb e => (sb.2 b (by simpa using hb)).trans (hk b ob (by simpa using hb) e)) hf (Nat.le_refl _) new
    refine ⟨.ref s.heap.objs.size, _, I1, rfl, ⟨_, q, k, v, hkv, rfl, I.hok.fresh (Nat.le_refl _), hq, rfl⟩, ⟨en.key, en.val, ?_⟩, fun b hb => ?_⟩
    · rw [← hsz]; exact he'
    · have e : b = it := by simpa using hb
      rw [e, upd_ne (Nat.ne_of_lt hlt)]
      exact (hf it (by simp)).1
  done := by
    intro X hP hw hK hc i pins s σ H E I hf st hg
    subst hP hw hK
    obtain ⟨hd, hi⟩ := hg
    obtain ⟨f0, f1, f2, f3, f4, f5⟩ := hf it (by simp)
    obtain ⟨hs, hgd, hx, es', ep', hdt, hsz, ent⟩ := frzT2 I hd
    obtain ⟨rfl, rfl⟩ := dict_ep hod hdt
    obtain ⟨ok, ov, he⟩ := st
    rw [← hsz] at he
    exact DT.endI (I.ok.hd hc) he ⟨o, hgd, hx, hdt⟩ (by omega) fun h' eb => ⟨rfl, I.turned (t' := s.toks) (fun b ob hb e => eb b ob hb e) f0 f1 f3 f4 f5⟩
  self := fun A i s Q E st h => let ⟨_, _, e⟩ := st; PySem.W.kcp_self e h
end
def iItemsT (td : TE) : TI := fun σ H R => td σ H fun x H1 => ∃ d o kvs, x = .ref d ∧ H1 d = some (.frz o (.dT kvs)) ∧ R (Itit d o kvs) H1
theorem pi_itemsT {X : Cx} {e : Expr} {td : TE} {apos cpos tpos : Pos} {elts : List Expr} {kk : Nat} (he : PE X e td) (hbase : attributeBase e "items" X.env (eval e X.env) = eval e X.env := by rfl) (hline : (apos.endLine == cpos.line) = true := by rfl) :
    PI X (.Tuple elts kk tpos) (.Call (.Attribute e "items" apos) [] [] cpos) (iItemsT td) := by
  refine ⟨fun pins s σ H R I h => ?_⟩
  refine wpAny_Call_method (T := "dict") (id := "dict.items") hbase rfl hline F.plainAttrs_dict F.slot_dict_items F.type_dict_items (thn (he.run pins s σ H _ I h) fun u s1 ⟨x, H1, I1, rx, d, o, kvs, ex, hd, q⟩ => ?_)
  subst ex
  obtain rfl : u = Value.ref d := rx
  obtain ⟨hs, hgd, hx, es, ep, hdt, hsz, ent⟩ := frzT2 I1 hd
  have raw : DT.Raw s1.heap d es ep := ⟨o, hgd, hx, hdt⟩
  refine ⟨raw.typeIs, fun a e => by cases e; exact ⟨o, hgd, hx.2.1⟩, ?_⟩
  have I2 : Inv X pins σ H1 { s1 with heap := s1.heap.push { cls := .type "dict_items", data := .fields #[.ref d] } } := I1.kept (t' := s1.toks) fun b ob q => Heap.get?_push_of_some _ q
  have fin : wpAny (model X.prog X.w) X.A (pyIter (.ref s1.heap.objs.size)) (PIE X pins σ (.Tuple elts kk tpos) R) X.xe { s1 with heap := s1.heap.push { cls := .type "dict_items", data := .fields #[.ref d] } } := by
    refine DT.iterI (d := d) ⟨_, Heap.get?_push_size _ rfl, rfl, rfl⟩ (raw.push _) (pi_one (tk := s1.toks) I2 _ (turn_itemsT _ hdt) ⟨.none, .none, ?_⟩ q)
    rw [← hsz]
    exact Heap.get?_push_size _ rfl
  show wpAny _ _ (callWith cpos (.builtin "dict.items") [.ref d] [] []) _ X.xe s1
  exact method_meetsIn F.slot_dict_items F.entry_dict_items rfl (PySem.evalArgs_none ⟨rfl, raw.typeIs, F.args_dict_items_1 _, _, DT.meetsItems (es := es) (ep := ep) hs, raw, fin⟩)
end Fb

namespace Fb
open PySem PySem.Spec PyProof.Rows L2
/-! ### addresses of the program's classes -/
structure Ads where
  FareError : Addr
  BadPlace : Addr
  BadPrice : Addr
  TwiceTold : Addr
  TooMany : Addr
  BadJourney : Addr
  BadCuts : Addr
  NotHeld : Addr
  NoParting : Addr
  BadLine : Addr
  Tariff : Addr
abbrev veMro : List Value := [.type "ValueError", .type "Exception", .type "BaseException", .type "object"]
/-! ### own methods and classes, ready to be called -/
structure Dm (Pg : Program) (w : World) (K : PySem.W.Frag) (mg : Str → Option Value) (base : Heap) (k : Nat) (C : Addr) (m : Str) (ps : List Str) (sp : Sp) : Prop where
  ex : ∃ f fd, FnOk Pg w K mg base (L2N.CX Pg w) k f fd ps sp ∧ Meth K C m f ∧ Binds K fd ps []
/-- a class that is made by its own __init__ -/
structure Dk (Pg : Program) (w : World) (K : PySem.W.Frag) (mg : Str → Option Value) (base : Heap) (k : Nat) (x : Str) (C : Addr) (ps : List Str) (sp : Sp) : Prop where
  g : mg x = some (.ref C)
  ex : ∃ f fd, FnOk Pg w K mg base (L2N.CX Pg w) k f fd ps sp ∧ Mk K C f ∧ Binds K fd ps []
def tMdS (C : Addr) (m : Str) (sp : Sp) (E : L2.St → XK) (ta : TE) (t : TA) : TE := fun σ H Q => ta σ H fun x H1 => ∃ a dx fs, x = .ref a ∧ H1 a = some (.ins C dx fs) ∧ fs.lookup m = none ∧ t σ H1 fun vs H2 => sp (.ref a :: vs) H2 Q (E σ)
def tMkS (C : Addr) (sp : Sp) (E : L2.St → XK) (t : TA) : TE := fun σ H Q => t σ H fun vs H1 => ∀ x dx, H1 x = none → H1 dx = none → dx ≠ x → sp (.ref x :: vs) (upd (upd H1 dx (.own x)) x (.ins C dx [])) (fun v H2 => v = .non ∧ Q (.ref x) H2) (E σ)
section
variable {X : Cx} {k : Nat} {x m : Str} {C : Addr} {ps : List Str} {sp : Sp} {p apos pos : Pos} {o e : Expr} {es : List Expr} {ta : TE} {t : TA} {E : L2.St → XK}
theorem passC (σ : L2.St) : PassesAt (L2N.CX X.prog X.w) X σ E0 := fun pins H s e s' I c => passLN pins σ H s e s' I c
theorem app_nil_run {f : Addr} {fd : FuncData} {pins : List (Addr × Obj)} {σ : L2.St} {H : Hp} {s : Shared} {Q : VK} {us : List Value} {vs : List V} {Ex : XK} (F : FnOk X.prog X.w X.K X.mg X.base (L2N.CX X.prog X.w) k f fd ps sp) (hr : Room k X.A) (hb : Binds X.K fd ps [])
    (hx : PassesAt (L2N.CX X.prog X.w) X σ Ex) (I : Inv X pins σ H s) (r : Vals vs us) (h : sp vs H Q Ex) : wpAny (model X.prog X.w) X.A (call (.ref f) us) (EP X pins σ Q) X.xe s := run_fnS (E := fun _ => Ex) F hr hb hx I r h
/-- o.m(e, ..) -/
theorem pe_mdS {pl : Sem Bool} (he : PE X o ta) (c : Cls X.K C) (D : Dm X.prog X.w X.K X.mg X.base k C m ps sp) (hr : Room k X.A) (hx : ∀ σ, PassesAt (L2N.CX X.prog X.w) X σ (E σ)) (ha : PA X (e :: es) t)
    (hst : starEach (e :: es) X.env = (false, eval e X.env) :: starEach es X.env := by rfl) (hpl : (backTo pos (starEach es X.env)).any (·.1) = false := by rfl)
    (ht : eval (.Call (.Attribute o m apos) (e :: es) [] pos) X.env = (do
      let ov ← eval o X.env
      standAt apos.atName
      let (f, first) ← holding [ov] (getMethod ov m pl)
      callWith pos f first (backTo pos (starEach (e :: es) X.env)) (backToKw pos (keywordEach [] X.env))) := by rfl) :
    PE X (.Call (.Attribute o m apos) (e :: es) [] pos) (tMdS C m sp E ta t) := by
  obtain ⟨f, fd, F, hm, hb⟩ := D.ex
  constructor
  intro pins s σ H Q I h
  refine PySem.W.methodCall_KW (pl := pl) (thn (he.run pins s σ H _ I h) fun u s1 hu => ?_) ht
  obtain ⟨y, H1, I1, ry, a, dx, fs, ey, ea, l, q⟩ := hu
  subst ey
  have eu : u = Value.ref a := ry
  subst eu
  refine getmeth_ok I1 ea c hm l ?_
  refine PySem.W.callWith_K (first := [.ref a]) (h₀ := X.base) I.ok.mod.kin hm.kp (thn (ha.run pos pins s1 σ H1 _ I1 q) fun us s2 hv => ?_) hst hpl
  obtain ⟨vs, H2, I2, r, q2⟩ := hv
  exact ⟨I2.kIn, app_nil_run (us := .ref a :: us) (vs := .ref a :: vs) F hr hb (hx σ) I2 (.cons rfl r) q2⟩
/-- o.m() -/
theorem pe_mdS0 {pl : Sem Bool} (he : PE X o ta) (c : Cls X.K C) (D : Dm X.prog X.w X.K X.mg X.base k C m ps sp) (hr : Room k X.A) (hx : ∀ σ, PassesAt (L2N.CX X.prog X.w) X σ (E σ))
    (ht : eval (.Call (.Attribute o m apos) [] [] pos) X.env = (do
      let ov ← eval o X.env
      standAt apos.atName
      let (f, first) ← holding [ov] (getMethod ov m pl)
      callWith pos f first (backTo pos (starEach [] X.env)) (backToKw pos (keywordEach [] X.env))) := by rfl) :
    PE X (.Call (.Attribute o m apos) [] [] pos) (tMdS C m sp E ta tNil) := by
  obtain ⟨f, fd, F, hm, hb⟩ := D.ex
  constructor
  intro pins s σ H Q I h
  refine PySem.W.methodCall_KW (pl := pl) (thn (he.run pins s σ H _ I h) fun u s1 hu => ?_) ht
  obtain ⟨y, H1, I1, ry, a, dx, fs, ey, ea, l, q⟩ := hu
  subst ey
  have eu : u = Value.ref a := ry
  subst eu
  refine getmeth_ok I1 ea c hm l ?_
  exact PySem.W.callWith_K0 (first := [.ref a]) I1.kIn hm.kp (app_nil_run (us := [.ref a]) (vs := [.ref a]) F hr hb (hx σ) I1 (.cons rfl .nil) q)
/-- C(e, ..) -/
theorem pe_mkS (D : Dk X.prog X.w X.K X.mg X.base k x C ps sp) (hr : Room (k + 1) X.A) (hx : ∀ σ, PassesAt (L2N.CX X.prog X.w) X σ (E σ)) (ha : PA X (e :: es) t) (hg : Gl X x := by rfl)
    (hdb : (x == ("__debug__" : Str)) = false := by decide) (he : starEach (e :: es) X.env = (false, eval e X.env) :: starEach es X.env := by rfl) (hpl : (backTo pos (starEach es X.env)).any (·.1) = false := by rfl) :
    PE X (.Call (.Name x p) (e :: es) [] pos) (tMkS C sp E t) := by
  obtain ⟨f, fd, F, M, hb⟩ := D.ex
  constructor
  intro pins s σ H Q I h
  refine wpAny_Call_Name_kw (ld_glob I hg D.g ?_ hdb)
  refine PySem.W.callWith_K (h₀ := X.base) I.ok.mod.kin M.kp (thn (ha.run pos pins s σ H _ I h) fun us s1 hv => ?_) he hpl
  obtain ⟨vs, H1, I1, r, q⟩ := hv
  refine ⟨I1.kIn, ?_⟩
  have fresh1 : H1 (s1.heap.objs.size + 1) = none := I1.hok.fresh (Nat.le_succ _)
  have fresh0 : H1 s1.heap.objs.size = none := I1.hok.fresh (Nat.le_refl _)
  have want := q _ _ fresh1 fresh0 (Nat.ne_of_lt (Nat.lt_succ_self _))
  have J := Inv.made (C := C) I1
  have rr : Vals (V.ref (s1.heap.objs.size + 1) :: vs) (Value.ref (s1.heap.objs.size + 1) :: us) := .cons rfl r
  have ln : (Value.ref (s1.heap.objs.size + 1) :: us).length = ps.length := by rw [← rr.length]; exact F.len _ _ _ _ want
  have bd := hb _ (Value.ref (s1.heap.objs.size + 1) :: us) J.kIn (by rw [List.append_nil]; exact ln)
  rw [List.append_nil] at bd
  refine wpAny_call (make_map (f := f) I1.kIn M.makes M.init (beq_iff_eq.mp M.fn) (codeAny_mono (F.run _ X.stack _ _ ⟨Value.ref (s1.heap.objs.size + 1) :: us, []⟩ _ _ _ _ (hr.make C us []) (J.env0.make C us []) bd rr want) fun res s' hq => ?_))
  cases res with
  | error er => exact hx σ pins _ _ er s' J hq
  | ok fl =>
    cases fl with
    | ret u =>
      obtain ⟨v, H', I3, rv, ev, q3⟩ := J.after hq
      subst ev
      exact ⟨rv, ⟨V.ref (s1.heap.objs.size + 1), H', I3, rfl, q3⟩⟩
    | next => exact hq.elim
    | brk => exact hq.elim
    | cont => exact hq.elim
end
end Fb

namespace Fb
open PySem PySem.Spec PyProof.Rows L2
/-! ### tariffs: the rows, and what is wrong with one more: 0 nothing, 1 a place, 2 the price, 3 told twice, 4 too many -/
abbrev Row := Str × Str × Int
def rowK (r : Row) : List Key × V := ([.inr r.1, .inr r.2.1], .int r.2.2)
def isC : V → Bool
  | .int i => decide (0 ≤ i) && decide (i ≤ 1000000000000)
  | _ => false
def strOf : V → Str
  | .str z => z
  | _ => Str.ofString ""
def intOf : V → Int
  | .int i => i
  | _ => 0
def mkRow (a b c : V) : Row := (strOf a, strOf b, intOf c)
def isTold (rs : List Row) (a b : V) : Bool := (valV (rs.map rowK) [.inr (strOf a), .inr (strOf b)]).isSome
def putDue (rs : List Row) (a b c : V) : Nat :=
  if isP a = true then (if isP b = true then (if a = b then 1 else if isC c = true then (if isTold rs a b = true then 3 else if 160 ≤ rs.length then 4 else 0) else 2) else 1) else 1
/-- the rows one by one, from the rows rs on -/
def takeRows : List Row → List (V × V × V) → Nat × List Row
  | rs, [] => (0, rs)
  | rs, (a, b, c) :: r => if putDue rs a b c = 0 then takeRows (rs ++ [mkRow a b c]) r else (putDue rs a b c, rs)
def errOf (a : Ads) : Nat → Addr
  | 1 => a.BadPlace
  | 2 => a.BadPrice
  | 3 => a.TwiceTold
  | _ => a.TooMany
structure TarAt (C : Addr) (H : Hp) (p d : Addr) (rs : List Row) : Prop where
  ob : ∃ dx, H p = some (.ins C dx [("_prices", .ref d)])
  dc : H d = some (.dT (rs.map rowK))
theorem TarAt.keep {C : Addr} {H H' : Hp} {p d : Addr} {rs : List Row} (T : TarAt C H p d rs) (k : ∀ b o, b = p ∨ b = d → H b = some o → H' b = some o) : TarAt C H' p d rs := by
  obtain ⟨dx, h⟩ := T.ob
  exact ⟨⟨dx, k _ _ (.inl rfl) h⟩, k _ _ (.inr rfl) T.dc⟩
theorem TarAt.same {C : Addr} {H H' : Hp} {p d : Addr} {rs : List Row} (T : TarAt C H p d rs) (s : Same H H') : TarAt C H' p d rs := T.keep fun b o _ e => s b o e
theorem TarAt.ne {C : Addr} {H : Hp} {p d : Addr} {rs : List Row} (T : TarAt C H p d rs) : p ≠ d := by
  obtain ⟨dx, h⟩ := T.ob
  exact ne_of h T.dc (by intro z; cases z)
theorem rowK_put {rs : List Row} {a b : Str} {n : Int} (h : valV (rs.map rowK) [.inr a, .inr b] = none) : putK (rs.map rowK) [.inr a, .inr b] (.int n) = (rs ++ [(a, b, n)]).map rowK := by
  rw [putK_new _ h, List.map_append]
  rfl
theorem prices_lookup (d : Addr) : List.lookup ("_prices" : Str) [(("_prices" : Str), V.ref d)] = some (.ref d) := by simp [List.lookup]
theorem prices_no (d : Addr) {m : Str} (h : (m == ("_prices" : Str)) = false) : List.lookup m [(("_prices" : Str), V.ref d)] = none := by simp [List.lookup, h]
/-- the rows as they are told -/
def IsRow (H : Hp) (t : Addr) (r : Row) : Prop := H t = some (.tup [.str r.1, .str r.2.1, .int r.2.2])
/-- what stands at t is handed in as a row -/
def IsGiven (K : PySem.W.Frag) (H : Hp) (t : Addr) (r : V × V × V) : Prop := SqT K H t [r.1, r.2.1, r.2.2]
theorem IsRow.given {K : PySem.W.Frag} {H : Hp} {t : Addr} {r : Row} (h : IsRow H t r) : IsGiven K H t (.str r.1, .str r.2.1, .int r.2.2) := SqT.of h

structure MonoG (g : TG) : Prop where
  to : ∀ (x : V) (σ : L2.St) (H : Hp) (Q Q' : L2.St → Hp → Prop), (∀ σ H, Q σ H → Q' σ H) → g x σ H Q → g x σ H Q'
structure MonoGs (g : TGs) : Prop where
  to : ∀ (xs : List V) (σ : L2.St) (H : Hp) (Q Q' : L2.St → Hp → Prop), (∀ σ H, Q σ H → Q' σ H) → g xs σ H Q → g xs σ H Q'
theorem mono_name {i : Nat} : MonoG (gName i) := ⟨fun _ _ _ _ _ h q => h _ _ q⟩
theorem mono_nil : MonoGs gNil := ⟨fun _ _ _ _ _ h q => ⟨q.1, h _ _ q.2⟩⟩
theorem mono_cons {t : TG} {u : TGs} (ht : MonoG t) (hu : MonoGs u) : MonoGs (gCons t u) := ⟨fun _ _ _ _ _ h q => by
  obtain ⟨v, r, e, q⟩ := q
  exact ⟨v, r, e, ht.to _ _ _ _ _ (fun σ H z => hu.to _ _ _ _ _ h z) q⟩⟩
theorem mono_tup {K : PySem.W.Frag} {n : Nat} {t : TGs} (ht : MonoGs t) : MonoG (gTup K n t) := ⟨fun _ _ _ _ _ h q => by
  obtain ⟨p, xs, e, hs, hl, q⟩ := q
  exact ⟨p, xs, e, hs, hl, ht.to _ _ _ _ _ h q⟩⟩

section
variable {te : TE} {g : TG} {vs : List Nat} {σ : L2.St} {H1 : Hp} {D d : Addr} {o : Obj} {kvs : List (List Key × V)} {Qd : Hp → Prop}
theorem lc_itemsT (R : Nat → V → Hp → Prop) (hR : ∀ i v H H', SameB D H H' → R i v H → R i v H') (hD : H1 D = none) (hd : H1 d = some (.frz o (.dT kvs))) (hn : kvs.length ≤ 90000)
    (hs : ∀ i k v T q H acc, kvs[i]? = some (k, v) → Same H1 H → H D = some (.lst acc) → H T = some (.tup [.ref q, v]) → H q = some (.tup (k.map kV)) → ∀ Q : VK, (∀ y H', Same H H' → R i y H' → Q y H') → g (.ref T) (wipe σ vs) H fun σ2 H2 => wipe σ2 vs = wipe σ vs ∧ te σ2 H2 Q)
    (hk : MonoG g)
    (he : ∀ H ys, Same H1 H → H D = some (.lst ys) → ys.length = kvs.length → (∀ i v, ys[i]? = some v → R i v H) → Qd H) :
    ∃ W : Nat → Nat → Hp → Prop, (∃ m, W 0 m (upd H1 D (.lst []))) ∧ ∀ i m H, W i m H →
      ((Itit d o kvs).stop i H ∧ Qd H) ∨ ((Itit d o kvs).go i H ∧ ∃ Nx : Hp → Prop, (∀ H', Nx H' → ∃ m', m' < m ∧ W (i + 1) m' H') ∧ ∀ x H', (Itit d o kvs).yld i H x H' → g x (wipe σ vs) H' fun σ2 H2 => wipe σ2 vs = wipe σ vs ∧ tYes σ2 H2 fun b H3 =>
        if b = true then te σ2 H3 fun y H4 => ∃ acc, H4 D = some (.lst acc) ∧ acc.length < sizeLine ∧ Nx (upd H4 D (.lst (acc ++ [y]))) else Nx H3) := by
  refine ⟨fun i m H => m = kvs.length - i ∧ i ≤ kvs.length ∧ ∃ ys, Same H1 H ∧ H D = some (.lst ys) ∧ ys.length = i ∧ ∀ k v, ys[k]? = some v → R k v H, ⟨kvs.length, by simp, Nat.zero_le _, [], same_new hD, upd_same, rfl, fun k v e => by simp at e⟩, ?_⟩
  rintro i m H ⟨rfl, hi, ys, s1, hDl, hl, hr⟩
  by_cases hlt : i < kvs.length
  · refine .inr ⟨⟨s1 _ _ hd, hlt⟩, fun H' => ∃ ys, Same H1 H' ∧ H' D = some (.lst ys) ∧ ys.length = i + 1 ∧ ∀ k v, ys[k]? = some v → R k v H', fun H' p' => ⟨kvs.length - (i + 1), by omega, rfl, hlt, p'⟩, fun x H' yl => ?_⟩
    obtain ⟨T, q, k, v, hkv, rfl, hT, hq, rfl⟩ := yl
    have sT : Same H (upd H T (.tup [.ref q, v])) := same_new hT
    have hDl2 := sT _ _ hDl
    refine hk.to _ _ _ _ _ (fun σ2 H2 h => ⟨h.1, yes_go h.2⟩) (hs i k v T q _ ys hkv (Same.trans s1 sT) hDl2 upd_same (sT _ _ hq) _ fun y H3 s3 r => ?_)
    refine ⟨ys, s3 _ _ hDl2, szlt (by omega), ys ++ [y], same_mut (Same.trans (Same.trans s1 sT) s3) hD, upd_same, by rw [List.length_append]; simp [hl], lc_step hR hl (Same.trans sT s3) hr r⟩
  · have e : i = kvs.length := by omega
    subst e
    exact .inl ⟨⟨s1 _ _ hd, Nat.le_refl _⟩, he H ys s1 hDl hl hr⟩
end
theorem pair_of {α : Type} {R : Addr → α → Prop} : ∀ {ys : List V} {rs : List α}, ys.length = rs.length → (∀ (i : Nat) v, ys[i]? = some v → ∃ t, v = .ref t ∧ ∃ r, rs[i]? = some r ∧ R t r) → ∃ ts : List Addr, ys = ts.map V.ref ∧ Paired R ts rs
  | [], [], _, _ => ⟨[], rfl, .nil⟩
  | [], _ :: _, h, _ => by simp at h
  | _ :: _, [], h, _ => by simp at h
  | y :: ys, r :: rs, h, k => by
    obtain ⟨t, e, r', e2, hr⟩ := k 0 y rfl
    have e3 : r = r' := by simpa using e2
    subst e3
    obtain ⟨ts, e4, hp⟩ := pair_of (ys := ys) (rs := rs) (by simpa using h) fun i v hv => by
      have := k (i + 1) v (by simpa using hv)
      simpa using this
    exact ⟨t :: ts, by rw [e, e4]; rfl, .cons hr hp⟩

end Fb

namespace Fb
open PySem PySem.Spec PyProof.Rows L2
/-! ### the law's names -/
def code (x : Int) : Nat := (x % 26).toNat + 97
theorem code_letter (x : Int) : letter (code x) = true := by
  unfold letter code
  have h1 : (x % 26).toNat < 26 := by omega
  simp only [Bool.and_eq_true, decide_eq_true_eq]
  omega
theorem code_lt (x : Int) : code x < 1114112 := by unfold code; omega
theorem abc_code (x : Int) : atI abc.cps.toList (x % 26) = some (code x) := abc_at (by omega) (by omega)
def nmSize (c : Int) : Nat := (c / 26 % 11).toNat
def nmPlace (c : Int) : Nat := (c / 286 % ((nmSize c : Int) + 1)).toNat
def nmBase (c : Int) (k : Nat) : List Nat := (List.range (nmSize c)).map fun (j : Nat) => code (c / 3 + (k : Int) * k * (c / 3432 % 2) + 5 * (j : Int))
def nmOne (c : Int) : Bool := decide (c / 6864 % 4 = 1)
def nameL (c : Int) (k : Nat) : List Nat :=
  if nmOne c = true then List.replicate (1 + k % 12) (code (c + ((k / 12 : Nat) : Int)))
  else (nmBase c k).take (nmPlace c) ++ [code (c + (k : Int))] ++ (nmBase c k).drop (nmPlace c) ++ List.replicate (k / 26) 120
def nameOf (c : Int) (k : Nat) : Str := ⟨(nameL c k).toArray⟩
theorem nmSize_le (c : Int) : nmSize c ≤ 10 := by unfold nmSize; omega
theorem nmPlace_le (c : Int) : nmPlace c ≤ nmSize c := by
  unfold nmPlace
  have h := Int.emod_lt_of_pos (c / 286) (show (0 : Int) < (nmSize c : Int) + 1 by omega)
  have h0 := Int.emod_nonneg (c / 286) (show ((nmSize c : Int) + 1) ≠ 0 by omega)
  omega
theorem nmBase_len (c : Int) (k : Nat) : (nmBase c k).length = nmSize c := by unfold nmBase; simp
theorem nameL_len2 (c : Int) (k : Nat) (h : nmOne c = false) : (nameL c k).length = nmSize c + 1 + k / 26 := by
  unfold nameL
  rw [h, if_neg Bool.false_ne_true]
  have h1 := nmPlace_le c
  simp only [List.length_append, List.length_take, List.length_drop, List.length_replicate, List.length_cons, List.length_nil, nmBase_len]
  omega
theorem nameL_letters (c : Int) (k : Nat) : ∀ x ∈ nameL c k, letter x = true := by
  intro x hx
  unfold nameL at hx
  have hb : ∀ y ∈ nmBase c k, letter y = true := fun y hy => by
    obtain ⟨j, _, rfl⟩ := List.mem_map.mp hy
    exact code_letter _
  split at hx
  · rw [(List.mem_replicate.mp hx).2]; exact code_letter _
  · rcases List.mem_append.mp hx with h | h
    · rcases List.mem_append.mp h with h | h
      · rcases List.mem_append.mp h with h | h
        · exact hb x (List.mem_of_mem_take h)
        · rw [List.mem_singleton.mp h]; exact code_letter _
      · exact hb x (List.mem_of_mem_drop h)
    · rw [(List.mem_replicate.mp h).2]; decide
theorem name_len (c : Int) (k : Nat) : (nameOf c k).length = (nameL c k).length := by rw [len_tl]; rfl
theorem name_isP {c : Int} {k : Nat} (hk : k < 52) : isP (.str (nameOf c k)) = true := by
  show (decide (1 ≤ (nameOf c k).length) && decide ((nameOf c k).length ≤ 12) && (nameL c k).all letter) = true
  rw [name_len]
  have h3 : (nameL c k).all letter = true := List.all_eq_true.mpr (nameL_letters c k)
  have h1 : 1 ≤ (nameL c k).length ∧ (nameL c k).length ≤ 12 := by
    cases h : nmOne c with
    | true =>
      unfold nameL
      rw [h, if_pos rfl, List.length_replicate]
      omega
    | false =>
      rw [nameL_len2 c k h]
      have := nmSize_le c
      omega
  rw [h3, decide_eq_true h1.1, decide_eq_true h1.2]; rfl
theorem code_inj {x y : Int} (h : code x = code y) (h1 : -26 < x - y) (h2 : x - y < 26) : x = y := by
  unfold code at h
  omega
theorem name_inj {c : Int} {k l : Nat} (hk : k < 52) (hl : l < 52) (h : nameOf c k = nameOf c l) : k = l := by
  have h1 : nameL c k = nameL c l := congrArg (fun z : Str => z.cps.toList) h
  cases ho : nmOne c with
  | true =>
    unfold nameL at h1
    rw [ho, if_pos rfl, if_pos rfl] at h1
    have l1 := congrArg List.length h1
    rw [List.length_replicate, List.length_replicate] at l1
    have h2 := congrArg (fun z : List Nat => z[0]?) h1
    simp only [List.getElem?_replicate] at h2
    rw [if_pos (by omega), if_pos (by omega)] at h2
    have h3 := code_inj (Option.some.inj h2) (by omega) (by omega)
    omega
  | false =>
    have l1 := congrArg List.length h1
    rw [nameL_len2 c k ho, nameL_len2 c l ho] at l1
    have hp := nmPlace_le c
    have at_ : ∀ m : Nat, (nameL c m)[nmPlace c]? = some (code (c + (m : Int))) := fun m => by
      unfold nameL
      rw [ho, if_neg Bool.false_ne_true]
      rw [List.append_assoc, List.append_assoc, List.getElem?_append_right (by rw [List.length_take, nmBase_len]; omega), List.length_take, nmBase_len]
      rw [show nmPlace c - min (nmPlace c) (nmSize c) = 0 by omega]
      rfl
    have h2 := congrArg (fun z : List Nat => z[nmPlace c]?) h1
    simp only [at_] at h2
    have h3 := code_inj (Option.some.inj h2) (by omega) (by omega)
    omega
/-! texts by parts -/
theorem cut_take (z : Str) (k : Nat) (h : k ≤ z.cps.toList.length) : (cutS z none (some (k : Int))).cps.toList = z.cps.toList.take k := by
  unfold cutS
  show ((z.cps.toList.drop (HT.sIx z.length 0 none)).take (HT.sIx z.length z.length (some (k : Int)) - HT.sIx z.length 0 none)) = _
  rw [HT.sIx_none, HT.sIx_nat, List.drop_zero, len_tl, Nat.min_eq_left h, Nat.sub_zero]
theorem cut_drop (z : Str) (k : Nat) (h : k ≤ z.cps.toList.length) : (cutS z (some (k : Int)) none).cps.toList = z.cps.toList.drop k := by
  unfold cutS
  show ((z.cps.toList.drop (HT.sIx z.length 0 (some (k : Int)))).take (HT.sIx z.length z.length none - HT.sIx z.length 0 (some (k : Int)))) = _
  rw [HT.sIx_none, HT.sIx_nat, len_tl, Nat.min_eq_left h]
  rw [List.take_of_length_le (by rw [List.length_drop]; exact Nat.le_refl _)]
theorem fold_one (x : Nat) : ∀ (n : Nat) (acc : Array Nat), ((List.replicate n #[x]).foldl (· ++ ·) acc).toList = acc.toList ++ List.replicate n x
  | 0, acc => by simp
  | n + 1, acc => by
    rw [List.replicate_succ, List.foldl_cons, fold_one x n (acc ++ #[x])]
    simp [List.replicate_succ]
theorem mul_sign (x : Nat) (n : Int) (h : 0 ≤ n) : (Txt.mul ⟨#[x]⟩ n).cps.toList = List.replicate n.toNat x := by
  unfold Txt.mul
  by_cases h1 : n < 1
  · rw [if_pos h1]
    have e : n = 0 := by omega
    subst e; rfl
  · rw [if_neg h1]
    by_cases h2 : n = 1
    · subst h2; rfl
    · rw [if_neg (by
        have e1 : (n == 1) = false := by simpa using h2
        rw [e1]
        show ¬ (false || (1 == 0)) = true
        decide)]
      show ((List.replicate n.toNat #[x]).foldl (· ++ ·) #[]).toList = _
      rw [fold_one]; simp
theorem str_ext {a b : Str} (h : a.cps.toList = b.cps.toList) : a = b := TL.ext_tl h
theorem signs_of {n : Nat} {f : Nat → Nat} {ys : List V} (hl : ys.length = n) (hr : ∀ i v, ys[i]? = some v → v = V.str ⟨#[f i]⟩) : ∃ zs : List Str, ys = zs.map V.str ∧ (zs.map TL.tl).flatten = (List.range n).map f ∧ (∀ z ∈ zs, z.length = 1) := by
  have e : ys = (List.range n).map fun i => V.str ⟨#[f i]⟩ := by
    refine List.ext_getElem? fun i => ?_
    by_cases h : i < n
    · rw [List.getElem?_map, List.getElem?_range h]
      have h2 : i < ys.length := by omega
      rw [List.getElem?_eq_getElem h2, hr i _ (List.getElem?_eq_getElem h2)]
      rfl
    · rw [List.getElem?_eq_none (by omega), List.getElem?_eq_none (by simp; omega)]
  refine ⟨(List.range n).map fun i => ⟨#[f i]⟩, by rw [e, List.map_map]; rfl, ?_, fun z hz => ?_⟩
  · rw [List.map_map]
    clear e hr hl
    induction (List.range n) with
    | nil => rfl
    | cons a r ih => rw [List.map_cons, List.flatten_cons, ih]; rfl
  · obtain ⟨i, _, rfl⟩ := List.mem_map.mp hz
    rfl
end Fb

namespace Fb
open PySem PySem.Spec PyProof.Rows L2
/-! ### good rows -/
def wayK (x y : Str) : List Key := [.inr x, .inr y]
structure GoodRow (r : Row) : Prop where
  p1 : isP (.str r.1) = true
  p2 : isP (.str r.2.1) = true
  ne : r.1 ≠ r.2.1
  c : isC (.int r.2.2) = true
structure GoodRows (rs : List Row) : Prop where
  ok : ∀ r ∈ rs, GoodRow r
  nd : (rs.map fun r => (r.1, r.2.1)).Nodup
theorem valV_none {κ : Type} [DecidableEq κ] {kvs : List (κ × V)} {k : κ} (h : ∀ v, (k, v) ∉ kvs) : valV kvs k = none := by
  induction kvs with
  | nil => rfl
  | cons q r ih =>
    have n : ¬ q.1 = k := fun e => h q.2 (by rw [← e]; exact List.mem_cons_self)
    rw [valV_neg n]
    exact ih fun v hv => h v (List.mem_cons_of_mem _ hv)
theorem valV_some {κ : Type} [DecidableEq κ] {kvs : List (κ × V)} {k : κ} {v : V} (h : valV kvs k = some v) : (k, v) ∈ kvs := by
  induction kvs with
  | nil => cases h
  | cons q r ih =>
    by_cases e : q.1 = k
    · rw [valV_pos e] at h
      cases h
      rw [← e]
      exact List.mem_cons_self
    · rw [valV_neg e] at h
      exact List.mem_cons_of_mem _ (ih h)
theorem wayK_inj {x y x' y' : Str} (h : wayK x y = wayK x' y') : x = x' ∧ y = y' := by
  unfold wayK at h
  have h1 := List.cons.inj h
  have h2 := List.cons.inj h1.2
  exact ⟨Sum.inr.inj h1.1, Sum.inr.inj h2.1⟩
theorem way_new {rs : List Row} {x y : Str} (f : Row → V) (h : valV (rs.map fun r => (wayK r.1 r.2.1, f r)) (wayK x y) = none) : (x, y) ∉ rs.map fun r => (r.1, r.2.1) := by
  induction rs with
  | nil => simp
  | cons q r ih =>
    intro hm
    by_cases e : wayK q.1 q.2.1 = wayK x y
    · rw [List.map_cons, valV_pos (show (wayK q.1 q.2.1, f q).1 = wayK x y from e)] at h
      cases h
    · rw [List.map_cons, valV_neg (show ¬ (wayK q.1 q.2.1, f q).1 = wayK x y from e)] at h
      rcases List.mem_cons.mp hm with e2 | e2
      · have e3 : x = q.1 ∧ y = q.2.1 := by simpa using e2
        exact e (by rw [e3.1, e3.2])
      · exact ih h e2
theorem way_none {rs : List Row} {x y : Str} (f : Row → V) (h : (x, y) ∉ rs.map fun r => (r.1, r.2.1)) : valV (rs.map fun r => (wayK r.1 r.2.1, f r)) (wayK x y) = none := by
  refine valV_none fun v hv => ?_
  obtain ⟨r, hr, e⟩ := List.mem_map.mp hv
  have e1 := (Prod.mk.inj e).1
  obtain ⟨e2, e3⟩ := wayK_inj e1
  exact h (List.mem_map.mpr ⟨r, hr, by rw [e2, e3]⟩)
def givenOf (r : Row) : V × V × V := (.str r.1, .str r.2.1, .int r.2.2)
theorem isP_ask {z : Str} (h : isP (.str z) = true) : ask (.str z) := by
  have h1 : (decide (1 ≤ z.length) && decide (z.length ≤ 12) && z.cps.toList.all letter) = true := h
  simp only [Bool.and_eq_true, decide_eq_true_eq] at h1
  refine .inr (.inr (.inr ⟨z, rfl, by omega, fun c hc => ?_⟩))
  have h2 := List.all_eq_true.mp h1.2 c hc
  unfold letter at h2
  simp only [Bool.and_eq_true, decide_eq_true_eq] at h2
  omega
theorem put_good {rs : List Row} {r : Row} (h : GoodRow r) (hn : (r.1, r.2.1) ∉ rs.map fun r => (r.1, r.2.1)) (hl : rs.length < 160) : putDue rs (.str r.1) (.str r.2.1) (.int r.2.2) = 0 := by
  unfold putDue
  have e : isTold rs (.str r.1) (.str r.2.1) = false := by
    unfold isTold
    rw [show valV (rs.map rowK) [Sum.inr (strOf (.str r.1)), Sum.inr (strOf (.str r.2.1))] = none from way_none (fun r => .int r.2.2) hn]
    rfl
  rw [if_pos h.p1, if_pos h.p2, if_neg (fun z => h.ne (V.str.inj z)), if_pos h.c, e, if_neg Bool.false_ne_true, if_neg (by omega)]
theorem take_good {rs' : List Row} : ∀ {rs : List Row}, GoodRows (rs ++ rs') → (rs ++ rs').length ≤ 160 → takeRows rs (rs'.map givenOf) = (0, rs ++ rs') := by
  induction rs' with
  | nil => intro rs _ _; rw [List.append_nil]; rfl
  | cons r r' ih =>
    intro rs g hl
    have hg := g.ok r (by simp)
    have nd := g.nd
    rw [List.map_append, List.map_cons] at nd
    have hn : (r.1, r.2.1) ∉ rs.map fun r => (r.1, r.2.1) := fun hm => (List.nodup_append.mp nd).2.2 _ hm _ List.mem_cons_self rfl
    have h0 := put_good hg hn (by rw [List.length_append, List.length_cons] at hl; omega)
    show (if putDue rs (.str r.1) (.str r.2.1) (.int r.2.2) = 0 then takeRows (rs ++ [mkRow (.str r.1) (.str r.2.1) (.int r.2.2)]) (r'.map givenOf) else _) = _
    rw [if_pos h0]
    have e : rs ++ [mkRow (.str r.1) (.str r.2.1) (.int r.2.2)] ++ r' = rs ++ r :: r' := by rw [List.append_assoc]; rfl
    rw [ih (rs := rs ++ [mkRow (.str r.1) (.str r.2.1) (.int r.2.2)]) (by rw [e]; exact g) (by rw [e]; exact hl), e]
theorem good_snoc {rs : List Row} {r : Row} (g : GoodRows rs) (h : GoodRow r) (hn : (r.1, r.2.1) ∉ rs.map fun r => (r.1, r.2.1)) : GoodRows (rs ++ [r]) := by
  refine ⟨fun q hq => ?_, ?_⟩
  · rcases List.mem_append.mp hq with h1 | h1
    · exact g.ok q h1
    · rw [List.mem_singleton.mp h1]; exact h
  · rw [List.map_append]
    refine List.nodup_append.mpr ⟨g.nd, by simp, fun a ha b hb e => ?_⟩
    rw [List.map_cons, List.map_nil, List.mem_singleton] at hb
    rw [e, hb] at ha
    exact hn ha
theorem good_ask {rs : List Row} (g : GoodRows rs) : ∀ q ∈ rs.map givenOf, ask q.1 ∧ ask q.2.1 ∧ ask q.2.2 := fun q hq => by
  obtain ⟨r, hr, rfl⟩ := List.mem_map.mp hq
  have h := g.ok r hr
  exact ⟨isP_ask h.p1, isP_ask h.p2, .inr (.inr (.inl ⟨_, rfl⟩))⟩
/-! rows as data -/
def rowV (r : Row) : List V := [.str r.1, .str r.2.1, .int r.2.2]
def rowD (r : Row) : PyData := .tuple ((rowV r).map dat)
theorem row_flat {r : Row} (h : GoodRow r) : ∀ v ∈ rowV r, flat v := fun v hv => by
  unfold rowV at hv
  simp only [List.mem_cons, List.not_mem_nil, or_false] at hv
  rcases hv with e | e | e
  · rw [e]; exact ask_flat (isP_ask h.p1)
  · rw [e]; exact ask_flat (isP_ask h.p2)
  · rw [e]; exact .inr (.inr (.inl ⟨_, rfl⟩))
theorem dp_row {K : PySem.W.Frag} {H : Hp} {t : Addr} {r : Row} (h : GoodRow r) (e : IsRow H t r) : Dp K H (.ref t) (rowD r) := .tup (SqT.of e) (dpAll_flat (row_flat h))
theorem dp_rows {K : PySem.W.Frag} {H : Hp} : ∀ {ts : List Addr} {rs : List Row}, (∀ r ∈ rs, GoodRow r) → Paired (IsRow H) ts rs → DpAll K H (ts.map V.ref) (rs.map rowD)
  | _, _, _, .nil => .nil
  | _, _, g, .cons h t => .cons (dp_row (g _ List.mem_cons_self) h) (dp_rows (fun r hr => g r (List.mem_cons_of_mem _ hr)) t)
theorem shaped_row {r : Row} (h : GoodRow r) : SeqAt.shaped (rowD r) = true := shaped_tup (row_flat h)
theorem lay_rows : ∀ {rs : List Row}, (∀ r ∈ rs, GoodRow r) → PyData.canLayAll0 (rs.map rowD) = true ∧ PyData.depthAll (rs.map rowD) ≤ 1
  | [], _ => ⟨by simp [PyData.canLayAll0], by simp [PyData.depthAll]⟩
  | r :: rs, g => by
    have h1 := layAll_flat (row_flat (g r List.mem_cons_self))
    have h2 := lay_rows (rs := rs) fun q hq => g q (List.mem_cons_of_mem _ hq)
    have e1 : PyData.canLay0 (rowD r) = true := by unfold rowD; rw [PyData.canLay0, h1.1]
    have e2 : PyData.depth (rowD r) = 1 := by unfold rowD; rw [PyData.depth, h1.2]
    refine ⟨?_, ?_⟩
    · rw [List.map_cons, PyData.canLayAll0, e1, h2.1]; rfl
    · rw [List.map_cons, PyData.depthAll, e2]
      exact Nat.max_le.mpr ⟨Nat.le_refl _, h2.2⟩
theorem shaped_rows {rs : List Row} (g : ∀ r ∈ rs, GoodRow r) : SeqAt.shaped (.list (rs.map rowD)) = true := by
  have h := lay_rows g
  unfold SeqAt.shaped
  rw [PyData.canLay0, h.1, PyData.depth]
  have h2 : PyData.depthAll (rs.map rowD) + 1 ≤ 64 := by omega
  rw [decide_eq_true h2]; rfl
theorem nodup_take {α : Type} : ∀ {l : List α} {i : Nat} {x : α}, l.Nodup → l[i]? = some x → x ∉ l.take i
  | [], _, _, _, h => by simp at h
  | y :: l, 0, x, _, _ => by simp
  | y :: l, i + 1, x, nd, h => by
    have h1 := List.nodup_cons.mp nd
    have h2 : l[i]? = some x := by simpa using h
    have h3 := nodup_take (l := l) (i := i) h1.2 h2
    rw [List.take_succ_cons]
    intro hm
    rcases List.mem_cons.mp hm with e | e
    · rw [← e] at h1; exact h1.1 (List.mem_of_getElem? h2)
    · exact h3 e
theorem way_fresh {rs : List Row} {i : Nat} {r : Row} (g : GoodRows rs) (h : rs[i]? = some r) : valV ((rs.take i).map rowK) [.inr r.1, .inr r.2.1] = none := by
  refine way_none (rs := rs.take i) (fun r => .int r.2.2) ?_
  have h1 : (rs.map fun r => (r.1, r.2.1))[i]? = some (r.1, r.2.1) := by rw [List.getElem?_map, h]; rfl
  have h2 := nodup_take g.nd h1
  rw [← List.map_take] at h2
  exact h2
theorem take_rowK {rs : List Row} {i : Nat} {r : Row} (g : GoodRows rs) (h : rs[i]? = some r) : putK ((rs.take i).map rowK) [.inr r.1, .inr r.2.1] (.int r.2.2) = (rs.take (i + 1)).map rowK := by
  rw [rowK_put (way_fresh g h), List.take_add_one, h]
  rfl
theorem shaped_two {r1 r2 : List Row} (g1 : ∀ r ∈ r1, GoodRow r) (g2 : ∀ r ∈ r2, GoodRow r) : SeqAt.shaped (.list [.list (r1.map rowD), .list (r2.map rowD)]) = true := by
  have h1 := lay_rows g1
  have h2 := lay_rows g2
  have e : PyData.depthAll [.list (r1.map rowD), .list (r2.map rowD)] ≤ 2 := by
    rw [PyData.depthAll, PyData.depthAll, PyData.depthAll, PyData.depth, PyData.depth]
    omega
  unfold SeqAt.shaped
  rw [PyData.canLay0, PyData.canLayAll0, PyData.canLayAll0, PyData.canLayAll0, PyData.canLay0, PyData.canLay0, h1.1, h2.1, PyData.depth]
  rw [decide_eq_true (show PyData.depthAll [.list (r1.map rowD), .list (r2.map rowD)] + 1 ≤ 64 by omega)]
  rfl
theorem given_rows {K : PySem.W.Frag} {H : Hp} {ts : List Addr} {rs : List Row} (h : Paired (IsRow H) ts rs) : Paired (IsGiven K H) ts (rs.map givenOf) := by
  induction h with
  | nil => exact .nil
  | cons h t ih => exact .cons (SqT.of h) ih
theorem rows_same {H H' : Hp} {ts : List Addr} {rs : List Row} (s : Same H H') (h : Paired (IsRow H) ts rs) : Paired (IsRow H') ts rs := Paired.mapP h fun _ _ e => s _ _ e
theorem rows_but {H H' : Hp} {D : Addr} {o : HO} {ts : List Addr} {rs : List Row} (s : SameB D H H') (hD : H D = some o) (n : ∀ xs, o ≠ .tup xs) (h : Paired (IsRow H) ts rs) : Paired (IsRow H') ts rs :=
  Paired.mapP h fun _ _ e => s _ _ (ne_of e hD fun z => n _ z.symm) e
end Fb

namespace Fb
open PySem PySem.Spec PyProof.Rows L2
/-! ### methods, by facts -/
structure FM (K : PySem.W.Frag) (C : Addr) (m qual : Str) (st : Stmt) (f : Addr) : Prop where
  a : PySem.W.findIn K (.ref C) m = some (some (.ref f))
  i : PySem.W.isFn K (.ref f) = true
  l : ∃ (oc : Value) (od : Option Addr) (kV dc pm : Value) (an : Option Addr) (cd ct : Value) (osl : Array (Option Value)), K.lookup f = some ⟨oc, od, .func (PySem.W.fnOf m qual (defArgs st) (defBody st) (defScope st) .none kV dc pm an cd ct), osl⟩ ∧ PySem.W.codeIn K cd qual = true
  k : PySem.W.keepIn K (.ref f) = true
theorem fm_mk {K : PySem.W.Frag} {C : Addr} {m qual : Str} {st : Stmt} {f : Addr} {oc kV dc pm cd ct : Value} {od an : Option Addr} {osl : Array (Option Value)} (a : PySem.W.findIn K (.ref C) m = some (some (.ref f))) (i : PySem.W.isFn K (.ref f) = true)
    (l : K.lookup f = some ⟨oc, od, .func (PySem.W.fnOf m qual (defArgs st) (defBody st) (defScope st) .none kV dc pm an cd ct), osl⟩) (c : PySem.W.codeIn K cd qual = true) (k : PySem.W.keepIn K (.ref f) = true) : FM K C m qual st f := ⟨a, i, ⟨oc, od, kV, dc, pm, an, cd, ct, osl, l, c⟩, k⟩
structure CA (K : PySem.W.Frag) (x : Str) (C : Addr) : Prop where
  a : PySem.W.nsIn K mainGlobals x = some (some (.ref C))
  pg : PySem.W.plainGet K C Str.empty = true
  hd : PySem.W.hasDictIn K C = true
  po : PySem.W.plainOver K C = true
  sa : PySem.W.findIn K (.ref C) "__setattr__" = some (some (.builtin "object.__setattr__"))
  mks : PySem.W.makesIn K C = true
  k : PySem.W.keepIn K (.ref C) = true
theorem CA.cls {K : PySem.W.Frag} {x : Str} {C : Addr} (A : CA K x C) : Cls K C := ⟨A.pg, A.hd, A.po, A.sa⟩
section
variable {Pg : Program} {w : World} {K : PySem.W.Frag} {mg : Str → Option Value} {base h : Heap} {x m qual : Str} {st : Stmt} {f C : Addr} {ps : List Str} {sp : Sp} {k : Nat}
theorem FM.fn (A : FM K C m qual st f) (ok : ∀ fd, Fun K m qual st f fd → FnOk Pg w K mg base (L2N.CX Pg w) k f fd ps sp)
    (hb : ∀ (kV doc pm : Value) (an : Option Addr) (cdv ct : Value) (us : List Value), us.length = ps.length → bindArgs (PySem.W.fnOf m qual (defArgs st) (defBody st) (defScope st) .none kV doc pm an cdv ct) ⟨us, []⟩ = pure (ps.zip us)) :
    ∃ fd, FnOk Pg w K mg base (L2N.CX Pg w) k f fd ps sp ∧ Binds K fd ps [] := by
  obtain ⟨oc, od, kV, dc, pm, an, cd, ct, osl, l, c⟩ := A.l
  have F := fun_mk (st := st) l c A.k
  exact ⟨_, ok _ F, F.binds (ps := ps) hb⟩
theorem FM.dm (A : FM K C m qual st f) (ok : ∀ fd, Fun K m qual st f fd → FnOk Pg w K mg base (L2N.CX Pg w) k f fd ps sp)
    (hb : ∀ (kV doc pm : Value) (an : Option Addr) (cdv ct : Value) (us : List Value), us.length = ps.length → bindArgs (PySem.W.fnOf m qual (defArgs st) (defBody st) (defScope st) .none kV doc pm an cdv ct) ⟨us, []⟩ = pure (ps.zip us)) :
    Dm Pg w K mg base k C m ps sp := by
  obtain ⟨fd, h1, h2⟩ := A.fn ok hb
  exact ⟨f, fd, h1, ⟨A.a, A.i, A.k⟩, h2⟩
theorem FM.dk (A : FM K C "__init__" qual st f) (B : CA K x C) (X : K.In h) (G : h.Ns mainGlobals mg) (ok : ∀ fd, Fun K "__init__" qual st f fd → FnOk Pg w K mg base (L2N.CX Pg w) k f fd ps sp)
    (hb : ∀ (kV doc pm : Value) (an : Option Addr) (cdv ct : Value) (us : List Value), us.length = ps.length → bindArgs (PySem.W.fnOf "__init__" qual (defArgs st) (defBody st) (defScope st) .none kV doc pm an cdv ct) ⟨us, []⟩ = pure (ps.zip us)) :
    Dk Pg w K mg base k x C ps sp := by
  obtain ⟨fd, h1, h2⟩ := A.fn ok hb
  exact ⟨PySem.W.mg_of X G B.a, f, fd, h1, ⟨B.mks, A.a, A.i, B.k⟩, h2⟩
end
end Fb

namespace Fb
open PySem PySem.Spec PyProof.Rows L2 HotX
/-! ### walks while an error is handled -/
section
variable {prog : Program} {w : World} {A : Around} {E : Value → Shared → Prop} {s : Shared}
/-- StopIteration is raised there: a new error, its context the one that is handled; nothing else changes -/
theorem hot_stop {α : Type} {x1 : Addr} {Q : α → Shared → Prop} (hot : HotAt A x1 s.heap)
    (post : ∀ (h' : Heap) (a : Addr), (∀ b o, s.heap.get? b = some o → h'.get? b = some o) → (∃ o, h'.get? a = some o ∧ o.cls = .type "StopIteration") → E (.ref a) { s with heap := h' }) :
    wpAny (model prog w) A (newExc (.type "StopIteration") [] >>= fun e => (raiseNew e : Sem α)) Q E s := by
  obtain ⟨hh, oe, fe, ge, de, ce⟩ := hot
  refine wpAny_bind ?_
  simp only [newExc, newTuple]
  refine wpAny_bind (wpAny_newObj_type ?_ (by size_fits))
  refine wpAny_bind (m := firstArgMember _ _) (wpAny_of_eq (a := Value.none) (by first | rfl | (simp only [firstArgMember]; rfl)) (wpAny_newObj_type ?_ (by size_fits)))
  have g1 := Heap.get?_push_of_some { cls := .type "tuple", data := .seq ([] : List Value).toArray } ge
  refine raiseNew_hot ⟨hh, oe, fe, Heap.get?_push_of_some _ g1, de, ce⟩ (Nat.ne_of_lt (Heap.lt_size g1)) (Heap.get?_push_size _ rfl) rfl (by first | (simp; done) | (simp; omega)) ?_
  refine post _ _ (fun b o e => ?_) ⟨_, Heap.get?_update_self _ (Heap.get?_push_size _ rfl) rfl, rfl⟩
  have g2 := Heap.get?_push_of_some { cls := .type "tuple", data := .seq ([] : List Value).toArray } e
  rw [Heap.get?_update_other _ _ (Nat.ne_of_gt (Heap.lt_size g2))]
  exact Heap.get?_push_of_some _ g2
theorem hot_list_end {it l x1 : Addr} {i : Nat} {its : Array Value} {Q : Option Value → Shared → Prop} (hot : HotAt A x1 s.heap) (iter : s.heap.IsListIter it l i) (lst : s.heap.IsList l its) (last : its[i]? = none)
    (post : ∀ h', Heap.ExtBut it s.heap h' → Q none { s with heap := h' }) : wpAny (model prog w) A (pyNext (.ref it)) Q E s := by
  obtain ⟨hh, oe, fe, ge, de, ce⟩ := hot
  obtain ⟨oi, gi, ci, di⟩ := id iter
  obtain ⟨ol, gl, _, nl, dl⟩ := lst
  have ne : it ≠ x1 := fun z => by
    rw [← z, gi] at ge
    cases ge
    rw [di] at de
    cases de
    simp at ce
  unfold pyNext
  refine wpAny_bind (wpAny_attempt (wpAny_callSpecial?_slot (name := Str.ofString "__next__") iter.typeIs slot_listiter_next (wpAny_call_entry slot_listiter_next iter.typeIs entry_listiter_next ?_ (args_listiter_next _))))
  show wpAny _ _ (field (.ref it) 0 >>= _) _ _ s
  refine wpAny_bind (wpAny_field gi di (x := .ref l) rfl ?_)
  show wpAny _ _ (if (Value.ref l == Value.none) = true then _ else _) _ _ s
  rw [if_neg (show (Value.ref l == Value.none) ≠ true from fun z => Bool.false_ne_true z)]
  show wpAny _ _ (field (.ref it) 1 >>= _) _ _ s
  refine wpAny_bind (wpAny_field gi di (x := .int i 0) rfl ?_)
  show wpAny _ _ (seqItems? (.ref l) >>= _) _ _ s
  refine wpAny_bind (wpAny_seqItems gl dl ?_)
  simp only [Int.toNat_natCast, last]
  refine wpAny_bind (wpAny_rule (wpAny_bind (wpAny_setField gi di (by simp) ?_)))
  refine hot_stop (x1 := x1) ⟨hh, oe, fe, (Heap.get?_update_other _ _ ne).trans ge, de, ce⟩ fun h' a kept isStop => ?_
  refine wpAny_bind (wpAny_isInstance (T := "StopIteration") (b := true) isStop isSubtype_stop (wpAny_pure (post h' fun b o nb e => kept b o ?_)))
  rw [Heap.get?_update_other _ _ (Ne.symm nb)]
  exact e
end
end Fb

namespace Fb
open PySem PySem.Spec PyProof.Rows L2 HotX
/-- an iterator and what it tells, turn by turn, also while an error is handled -/
structure TurnA (Pg : Program) (w : World) (K : PySem.W.Frag) (tg : Expr) (J : It) (own : List Addr) (it : Addr) (st : Nat → Heap → Prop) : Prop where
  mem : it ∈ own
  obj : ∀ n h, st n h → ∀ c ∈ own, ∃ ob, h.get? c = some ob ∧ ∀ v, ob.data ≠ .cell v
  keep : ∀ n h h', st n h → (∀ c ∈ own, ∀ ob, h.get? c = some ob → h'.get? c = some ob) → st n h'
  item : ∀ (X : Cx), X.prog = Pg → X.w = w → X.K = K → ∀ (n : Nat) (pins : List (Addr × Obj)) (z : Shared) (σ : L2.St) (H : Hp) (E : Value → Shared → Prop), Inv X pins σ H z → (∀ c ∈ own, FpOk X pins H c) → st n z.heap → J.go n H →
    wpAny (model Pg w) X.A (pyNext (.ref it)) (fun r z1 => ∃ u, r = some u ∧ wpAny (model Pg w) X.A (letOwnedTupleGo tg (.ref it) u)
      (fun _ z2 => ∃ x H', Inv X pins σ H' z2 ∧ RelV x u ∧ J.yld n H x H' ∧ st (n + 1) z2.heap ∧ ∀ c ∈ own, H' c = none) E z1) E z
  done : ∀ (X : Cx), X.prog = Pg → X.w = w → X.K = K → ∀ (x1 : Addr) (n : Nat) (pins : List (Addr × Obj)) (z : Shared) (σ : L2.St) (H : Hp) (E : Value → Shared → Prop), HotAt X.A x1 z.heap → Inv X pins σ H z → (∀ c ∈ own, FpOk X pins H c) →
    st n z.heap → J.stop n H → wpAny (model Pg w) X.A (pyNext (.ref it)) (fun r z1 => r = none ∧ Inv X pins σ H z1) E z
  self : ∀ (A : Around) (n : Nat) (z : Shared) (Q : Value → Shared → Prop) (E : Value → Shared → Prop), st n z.heap → Q (.ref it) z → wpAny (model Pg w) A (pyIter (.ref it)) Q E z
def PIEA (X : Cx) (pins : List (Addr × Obj)) (σ : L2.St) (tg : Expr) (R : It → Hp → Prop) (itv : Value) (z : Shared) : Prop :=
  ∃ (it : Addr) (own : List Addr) (st : Nat → Heap → Prop) (J : It) (H' : Hp), itv = .ref it ∧ Inv X pins σ H' z ∧ TurnA X.prog X.w X.K tg J own it st ∧ st 0 z.heap ∧ (∀ c ∈ own, FpOk X pins H' c) ∧ R J H'
structure PIA (X : Cx) (tg iter : Expr) (wi : TI) : Prop where
  run : ∀ (pins : List (Addr × Obj)) (z : Shared) (σ : L2.St) (H : Hp) (R : It → Hp → Prop), Inv X pins σ H z → wi σ H R →
    wpAny (model X.prog X.w) X.A (eval iter X.env) (fun v z1 => wpAny (model X.prog X.w) X.A (pyIter v) (PIEA X pins σ tg R) X.xe z1) X.xe z
theorem turn_listA {Pg : Program} {w : World} {K : PySem.W.Frag} {tg : Expr} (l it : Addr) : TurnA Pg w K tg (Itl K l) [it] it (fun n h => h.IsListIter it l n) where
  mem := List.mem_singleton.mpr rfl
  obj := fun n h t c hc => by
    rw [List.mem_singleton.mp hc]
    obtain ⟨ob, g, _, d⟩ := t
    exact ⟨ob, g, fun v z => by rw [d] at z; cases z⟩
  keep := fun n h h' t k => t.at fun ob g => k it (List.mem_singleton.mpr rfl) ob g
  item := fun X e1 e2 e3 n pins z σ H E I free t go => by
    subst e1 e2 e3
    obtain ⟨xs, x, sq, at_⟩ := go
    obtain ⟨us, rel, pl, _⟩ := I.list sq
    obtain ⟨u, hu, ru⟩ := rel.get at_
    have F := free it (List.mem_singleton.mpr rfl)
    refine wpAny_pyNext_list_item t pl.isList (x := u) (by simpa using hu) fun h' t' but => ?_
    have I' : Inv X pins σ H { z with heap := h' } := I.turned (t' := z.toks) (fun c ob nc g => (but.2 c nc).trans g) F.1 F.2.1 F.2.2.2.1 F.2.2.2.2.1 F.2.2.2.2.2
    obtain ⟨ob, g, c, d⟩ := id t'
    exact ⟨u, rfl, go_of (s := { z with heap := h' }) g c d (by decide) ⟨x, H, I', ru, ⟨rfl, fun ys hy => by rw [I.list_inj hy sq]; exact at_⟩, t', fun c hc => (free c hc).1⟩⟩
  done := fun X e1 e2 e3 x1 n pins z σ H E hot I free t stop => by
    subst e1 e2 e3
    obtain ⟨xs, sq, le⟩ := stop
    obtain ⟨us, rel, pl, _⟩ := I.list sq
    have F := free it (List.mem_singleton.mpr rfl)
    have len := rel.length
    exact hot_list_end hot t pl.isList (by simp; omega) fun h' but => ⟨rfl, I.turned (t' := z.toks) (fun c ob nc g => but c ob nc g) F.1 F.2.1 F.2.2.2.1 F.2.2.2.2.1 F.2.2.2.2.2⟩
  self := fun _ _ _ _ _ t q => wpAny_pyIter_listiter t q
theorem turn_rangeA {Pg : Program} {w : World} {K : PySem.W.Frag} {tg : Expr} (it : Addr) (lo : Int) (m : Nat) : TurnA Pg w K tg (Itr lo m) [it] it (fun n h => IsRangeIter h it (lo + (n : Nat) * 1) ((m : Int) - (n : Nat)) 1) where
  mem := List.mem_singleton.mpr rfl
  obj := fun n h t c hc => by
    rw [List.mem_singleton.mp hc]
    exact ⟨_, t, fun v z => nomatch (show Data.fields _ = Data.cell v from z)⟩
  keep := fun n h h' t k => k it (List.mem_singleton.mpr rfl) _ t
  item := fun X e1 e2 e3 n pins z σ H E I free t go => by
    subst e1 e2 e3
    have F := free it (List.mem_singleton.mpr rfl)
    have lt : n < m := go
    refine wpAny_pyNext_range_item t (by omega) fun h' t' but => ?_
    have t2 : IsRangeIter h' it (lo + ((n + 1 : Nat) : Int) * 1) ((m : Int) - ((n + 1 : Nat) : Int)) 1 := by
      rw [show lo + ((n + 1 : Nat) : Int) * 1 = lo + ((n : Nat) : Int) * 1 + 1 by omega, show (m : Int) - ((n + 1 : Nat) : Int) = (m : Int) - ((n : Nat) : Int) - 1 by omega]
      exact t'
    have I' : Inv X pins σ H { z with heap := h', toks := z.toks + 1 } := I.turned (fun c ob nc g => (but.2 c nc).trans g) F.1 F.2.1 F.2.2.2.1 F.2.2.2.2.1 F.2.2.2.2.2
    refine ⟨_, rfl, go_of (s := { z with heap := h', toks := z.toks + 1 }) (n := "range_iterator") t2 rfl rfl (by decide) ⟨.int (lo + n), H, I', ⟨z.toks, ?_⟩, ⟨rfl, rfl⟩, t2, fun c hc => (free c hc).1⟩⟩
    rw [Int.mul_one]
  done := fun X e1 e2 e3 x1 n pins z σ H E hot I free t stop => by
    subst e1 e2 e3
    have F := free it (List.mem_singleton.mpr rfl)
    exact pyNext_range_end_hot hot t (by have : m ≤ n := stop; omega) fun h' k => ⟨rfl, I.turned (t' := z.toks) (fun c ob _ g => k c ob g) F.1 F.2.1 F.2.2.2.1 F.2.2.2.2.1 F.2.2.2.2.2⟩
  self := fun _ _ _ _ _ t q => wpAny_pyIter_rangeiter t q
section
variable {X : Cx} {tg : Expr}
theorem pi_listA {l : Expr} {tl : TE} (hl : PE X l tl) : PIA X tg l (iList X.K tl) := ⟨fun pins z σ H R I wish => by
  refine thn (hl.run pins z σ H _ I wish) fun v z1 got => ?_
  obtain ⟨x, H1, I1, r1, a, rfl, ⟨xs, sq⟩, q⟩ := got
  cases r1
  obtain ⟨us, rel, pl, _⟩ := I1.list sq
  refine wpAny_pyIter_list pl.isList ⟨z1.heap.objs.size, [z1.heap.objs.size], _, _, H1, rfl, I1.kept (t' := z1.toks) fun b o e => Heap.get?_push_of_some _ e, turn_listA a _, ⟨_, Heap.get?_push_size _ rfl, rfl, rfl⟩, fun c hc => ?_, q⟩
  rw [List.mem_singleton.mp hc]
  exact I1.fpOk (Nat.le_refl _) (I1.hok.fresh (Nat.le_refl _))⟩
end
end Fb

namespace Fb
open PySem PySem.Spec PyProof.Rows L2 HotX
section
variable {X : Cx}
/-- a list's comprehension while an error is handled -/
theorem pe_lcA {elt tg iter : Expr} {ifs : List Expr} {sc : Scope} {own : List (Str × Nat)} {pos : Pos} {wi : TI} {g : TG} {tt : TT} {te : TE} (hot : L2H.HotC X) (nd : X.N.Nodup) (hi : PIA X tg iter wi) (ok : BlkOk X.N X.env.scope sc own)
    (hg : ∀ (z : Shared) (H : Hp) (C : Addr) (cl : List (Str × Addr)) (fp : List Addr), PG (X.blk z H sc (compEnvC sc cl C X.env) fp) tg g)
    (ht : ∀ (z : Shared) (H : Hp) (C : Addr) (cl : List (Str × Addr)) (fp : List Addr), PTs (X.blk z H sc (compEnvC sc cl C X.env) fp) ifs tt)
    (he : ∀ (z : Shared) (H : Hp) (C : Addr) (cl : List (Str × Addr)) (fp : List Addr), PE (X.blk z H sc (compEnvC sc cl C X.env) fp) elt te)
    (hs : ∀ x, foldedSetIterable iter X.env x = pure x := by intro _; rfl) : PE X (.ListComp elt [⟨tg, iter, ifs, 0⟩] sc pos) (tLc wi g tt te (own.map (·.2))) := by
  refine ⟨fun pins z0 σ H Q I wish => ?_⟩
  rw [eval_ListComp]
  obtain ⟨p, ⟨hh, fe, de, cx⟩, pm⟩ := hot
  have frees : ∀ y ∈ sc.names, y.2 = .free → ∃ c, X.env.cells.lookup y.1 = some c := fun y hy e => (ok.free y hy e).elim (fun k => I.ok.has _ (.inl k)) fun k => I.ok.has _ (.inr k)
  refine wpAny_comprehension_free rfl hs (closure_ok frees) ok.kind (fun y hy e => by rw [ok.uniq y hy, e]) (thn (hi.run pins z0 σ H _ I wish) fun xv z1 hx => thn hx fun itv z2 got => ?_)
  obtain ⟨it, fp, tn, J, H2, rfl, I2, T, t2, f2, q⟩ := got
  refine wpAny_newObj_type (newEnv_comp ?_) (Nat.zero_le _)
  generalize eD : z2.heap.objs.size = D
  have freeD : H2 D = none := I2.hok.fresh (Nat.le_of_eq eD)
  obtain ⟨W, ⟨m0, w0⟩, turn⟩ := q D freeD
  generalize e3 : ({ z2 with heap := z2.heap.push { cls := .type "list", data := .seq ([] : List Value).toArray } } : Shared) = z3
  have I3 : Inv X pins σ (upd H2 D (.lst [])) z3 := by
    rw [← e3]
    refine I2.laid (t' := z2.toks) (fun b o e => Heap.get?_push_of_some _ e) (Nat.le_of_eq eD) ⟨Nat.zero_le _, [], 0, .nil, ?_⟩
    rw [← eD]
    exact Heap.get?_push_size _ rfl
  have h3 : z3.heap = z2.heap.push { cls := .type "list", data := .seq ([] : List Value).toArray } := by rw [← e3]
  have below : ∀ c ∈ fp, c < z2.heap.objs.size := fun c hc => by
    obtain ⟨ob, e, _⟩ := T.obj _ _ t2 c hc
    exact Heap.lt_size e
  have f3 : ∀ c ∈ fp, FpOk X pins (upd H2 D (.lst [])) c ∧ c < z3.heap.objs.size := fun c hc => by
    have lt := below c hc
    refine ⟨⟨?_, (f2 c hc).2⟩, by rw [h3, Heap.size_push]; exact Nat.lt_succ_of_lt lt⟩
    rw [upd_ne (by rw [← eD]; exact Nat.ne_of_lt lt)]
    exact (f2 c hc).1
  have t3 : tn 0 z3.heap := T.keep _ _ _ t2 fun c _ o e => by rw [h3]; exact Heap.get?_push_of_some _ e
  have I4 := block_start I3 ok nd f3
  -- the error stands where the block begins
  have P3 := I3.pin p (List.mem_append_left _ pm)
  have pstk : p.1 ∉ frs X.stack := fun z => (List.mem_cons.mp (I3.stkSub p.1 z)).elim P3.2.2.1 P3.2.2.2.1
  have pfp : p.1 ∉ fp := fun z => (f3 p.1 z).1.2.2.2.2.2 p (List.mem_append_left _ pm) rfl
  have pg := hg z3 (upd H2 D (.lst [])) z3.heap.objs.size (cellsFrom (z3.heap.objs.size + 1) sc.names (cloFrom X.env.cells sc.names [])) fp
  have pt := ht z3 (upd H2 D (.lst [])) z3.heap.objs.size (cellsFrom (z3.heap.objs.size + 1) sc.names (cloFrom X.env.cells sc.names [])) fp
  have pe := he z3 (upd H2 D (.lst [])) z3.heap.objs.size (cellsFrom (z3.heap.objs.size + 1) sc.names (cloFrom X.env.cells sc.names [])) fp
  show codeAny _ _ (.compStart (.ListComp elt [⟨tg, iter, ifs, 0⟩] sc pos) 0 (.ref it) (.ref D) (compEnvC sc (cellsFrom (z3.heap.objs.size + 1) sc.names (cloFrom X.env.cells sc.names [])) z3.heap.objs.size X.env)) (compPost (model X.prog X.w) X.A X.xe none _ (.ref D) z3.heap.objs.size)
    { z3 with heap := pushCells (z3.heap.push { cls := .type "dict", data := .dict #[] }) sc.names }
  have none3 : ∀ c ∈ fp, (upd H2 D (.lst [])) c = none := fun c hc => (f3 c hc).1.1
  generalize ece : compEnvC sc (cellsFrom (z3.heap.objs.size + 1) sc.names (cloFrom X.env.cells sc.names [])) z3.heap.objs.size X.env = ce at I4 pg pt pe ⊢
  have cL : ce.locals = z3.heap.objs.size := by rw [← ece]; rfl
  generalize eH : upd H2 D (.lst []) = H3 at I3 I4 pg pt pe w0 none3 f3 P3
  generalize e4 : ({ z3 with heap := pushCells (z3.heap.push { cls := .type "dict", data := .dict #[] }) sc.names } : Shared) = z4 at I4 ⊢
  have t4 : tn 0 z4.heap := T.keep _ _ _ t3 fun c _ o e => by rw [← e4]; exact pushCells_keeps _ _ _ _ (Heap.get?_push_of_some _ e)
  have hotB : ∀ {σ' : L2.St} {H' : Hp} {z : Shared} {ps : List (Addr × Obj)}, Inv (X.blk z3 H3 sc ce fp) ps σ' H' z → HotAt X.A p.1 z.heap := fun {σ' H' z ps} I' => ⟨hh, p.2, fe, I'.base.keep p.1 p.2 P3.1 P3.2.1 pstk pfp, de, cx⟩
  have stay : ∀ {σ' : L2.St} {H' : Hp} {z : Shared}, Inv (X.blk z3 H3 sc ce fp) [] σ' H' z → (∀ c ∈ fp, H' c = none) → ∀ c ∈ fp, FpOk (X.blk z3 H3 sc ce fp) [] H' c := fun {σ' H' z} I' hn c hc =>
    ⟨hn c hc, (I'.ok.exf c hc).1, I'.ok.exfs c hc, .inl hc, fun y a e => (I'.ok.exf c hc).2 y a e, fun r hr => nomatch (show r ∈ ([] : List (Addr × Obj)) from hr)⟩
  refine codeAny_compStart_list ?_ (T.self X.A 0 _ _ _ t4 ?_)
  all_goals
    refine compLoop_any (fun k z => ∃ n H', Inv (X.blk z3 H3 sc ce fp) [] (wipe σ (own.map (·.2))) H' z ∧ tn n z.heap ∧ (∀ c ∈ fp, H' c = none) ∧ W n k H') ?_ m0 ⟨0, H3, I4, t4, none3, w0⟩
    rintro k z5 ⟨n, H5, I5, t5, none5, w5⟩
    rcases turn n k H5 w5 with ⟨stop, qq⟩ | ⟨go, Nx, dec, step⟩
    · refine thnF (T.done (X.blk z3 H3 sc ce fp) rfl rfl rfl p.1 n [] z5 _ H5 (fun _ _ => False) (hotB I5) I5 (stay I5 none5) t5 stop) fun r z6 got => ?_
      obtain ⟨rfl, I6⟩ := got
      have I7 : Inv X pins σ H5 z6 := I3.call' (ch := fp) I6.os I6.base I6.hok I6.bare fun c hc => ⟨(f3 c hc).1.2.2.2.1, (f3 c hc).1.2.1, (f3 c hc).1.2.2.2.2.1, (f3 c hc).1.2.2.2.2.2⟩
      have nC : H5 z3.heap.objs.size = none := by
        have y : H5 ce.locals = none := I6.free
        rw [cL] at y
        exact y
      obtain ⟨m, hn, _⟩ := I6.loc
      have hn : z6.heap.Ns ce.locals m := hn
      rw [cL] at hn
      obtain ⟨a0, a1, a2, a3, a4, a5⟩ := I3.fpOk (Nat.le_refl _) nC
      exact ⟨m, hn, fun h'' sb => ⟨.ref D, H5, I7.turned (t' := z6.toks) (fun b o nb e => (sb.2 b nb).trans e) a0 a1 a3 a4 a5, rfl, qq⟩⟩
    · refine thnF (T.item (X.blk z3 H3 sc ce fp) rfl rfl rfl n [] z5 _ H5 (fun _ _ => False) I5 (stay I5 none5) t5 go) fun r z6 got => ?_
      obtain ⟨u, rfl, h6⟩ := got
      refine thnF h6 fun _ z7 got => ?_
      obtain ⟨x, H7, I7, r7, y7, t7, none7⟩ := got
      refine thnF (pg.run _ z7 _ H7 x u _ (I7.pinned (stay I7 none7) (T.obj _ _ t7)) r7 (step x H7 y7)) fun _ z8 got => ?_
      obtain ⟨σ8, H8, I8, wiped, q8⟩ := got
      refine thnF (pt.run _ z8 σ8 H8 _ I8 q8) fun b z9 got => ?_
      obtain ⟨H9, I9, q9⟩ := got
      have again : ∀ {z : Shared} {H' : Hp}, Inv (X.blk z3 H3 sc ce fp) ([] ++ pinsAt fp z7.heap) σ8 H' z → Nx H' → ∃ m, m < k ∧ ∃ n H', Inv (X.blk z3 H3 sc ce fp) [] (wipe σ (own.map (·.2))) H' z ∧ tn n z.heap ∧ (∀ c ∈ fp, H' c = none) ∧ W n m H' := fun {z H'} I' nx => by
        obtain ⟨m', lt, w'⟩ := dec H' nx
        have same : ∀ c ∈ fp, ∀ o, z7.heap.get? c = some o → z.heap.get? c = some o ∧ H' c = none := fun c hc o e =>
          let y := I'.pin (c, o) (List.mem_append_right _ (List.mem_append_right _ (mem_pinsAt hc e)))
          ⟨y.1, y.2.1⟩
        refine ⟨m', lt, n + 1, H', (I'.unpinned (pins := [])).weak (by rw [← wiped, wipe_length]) (fun j v e => ?_), T.keep _ _ _ t7 fun c hc o e => (same c hc o e).1, fun c hc => ?_, w'⟩
        · rw [← wiped] at e
          exact (wipe_some e).1
        · obtain ⟨o, e, _⟩ := T.obj _ _ t7 c hc
          exact (same c hc o e).2
      cases b with
      | false =>
        rw [if_neg Bool.false_ne_true] at q9 ⊢
        exact again I9 q9
      | true =>
        rw [if_pos rfl] at q9 ⊢
        refine thnF (pe.run _ z9 σ8 H9 _ I9 q9) fun y z10 got => ?_
        obtain ⟨yv, H10, I10, r10, acc, hD, room, nx⟩ := got
        exact app_ok (X := X.blk z3 H3 sc ce fp) I10 hD room r10 fun z11 I11 => again I11 nx
end
end Fb

namespace Fb
open PySem PySem.Spec PyProof.Rows L2 HotX
section
variable {prog : Program} {w : World} {A : Around} {E : Value → Shared → Prop} {s : Shared}
theorem walk_listA {x1 I ax : Addr} {ob : Obj} {fe : Array Value} (hh : A.handled = some (.ref x1)) (de : ob.data = .fields fe) (cx : fe[2]? = some .none) (ne : ax ≠ I) (its : Array Value) :
    Walks prog w A I [I, ax, x1] [I] its.size (fun i v => its[i]? = some v) (fun i h => h.IsListIter I ax i ∧ h.IsList ax its ∧ h.get? x1 = some ob) where
  sub := fun b hb => by rw [List.mem_singleton.mp hb]; exact List.mem_cons_self
  frame := fun _ _ _ t k => ⟨t.1.at fun o e => k I (by simp) o e, t.2.1.at fun o e => k ax (by simp) o e, k x1 (by simp) _ t.2.2⟩
  item := fun i s Q E lt t post => by
    obtain ⟨t1, t2, t3⟩ := t
    have nx : x1 ≠ I := fun z => by
      obtain ⟨oi, gi, _, di⟩ := t1
      rw [z, gi] at t3
      cases t3
      rw [di] at de
      cases de
      simp at cx
    refine wpAny_pyNext_list_item t1 t2 (x := its[i]) (by simp [lt]) fun h' t' but => ?_
    exact post _ h' s.toks (by simp [lt]) ⟨t', t2.extBut but.extBut ne, but.extBut x1 ob nx t3⟩ fun b o nb e => but.extBut b o (fun z => nb (by simp [z])) e
  done := fun s Q E t post => hot_list_end ⟨hh, ob, fe, t.2.2, de, cx⟩ t.1 t.2.1 (by simp) fun h' but => post h' s.toks fun b o nb e => but b o (fun z => nb (by simp [z])) e
  self := fun _ _ _ _ t q => wpAny_pyIter_listiter t.1 q
end
section
variable {X : Cx}
theorem cr_sumA (c : L2H.HotC X) : CallR X (.builtin "sum") (rSum X.K) := fun pins s σ H vs us Q I r wish => by
  obtain ⟨a, ns, rfl, sq, q⟩ := wish
  obtain ⟨p, ⟨hh, fe, de, cx⟩, pm⟩ := c
  have gp := (I.pin p (List.mem_append_left _ pm)).1
  obtain ⟨its, rv, hl, _⟩ := I.list sq
  rw [Vals.ref1 r]
  have hi := rv.ints
  obtain ⟨xs, e⟩ := hi.allInts.items
  have hn : numsOf (intItems xs).toList = ns := by rw [← e]; exact hi.numsOf
  rw [nums_intItems] at hn
  have hl' := hl.isList
  rw [e] at hl'
  have kept : ∀ {h' : Heap} {tk : Nat} {t' : Tok}, (∀ b o, s.heap.get? b = some o → h'.get? b = some o) → EP X pins σ Q (.int ns.sum t') { s with heap := h', toks := tk } := fun hk => ⟨.int _, H, I.kept hk, ⟨_, rfl⟩, q⟩
  refine call_sum_walkG (iter_intList hl' fun s2 e2 st hfp hlI => ?_)
  subst e2
  refine ⟨_, _, _, _, _, _, numAt xs, rfl, walk_listA (A := X.A.in1) (ob := p.2) hh de cx hlI (intItems xs), ⟨st.1, st.2, Heap.get?_push_of_some _ gp⟩, fun b hb => ?_, fun _ _ => intItems_at, fun h' tk t' hk => ?_⟩
  · rcases List.mem_cons.mp hb with z | hb
    · exact hfp b (by rw [z]; exact List.mem_cons_self)
    · rcases List.mem_cons.mp hb with z | hb
      · exact hfp b (by rw [z]; simp)
      · rw [List.mem_singleton.mp hb]
        exact Heap.lt_size (Heap.get?_push_of_some _ gp)
  · have k2 := kept (h' := h') (tk := tk) (t' := t') (old_kept hk)
    rw [← hn] at k2
    rw [show preSum (numAt xs) (intItems xs).size = (xs.toList.map (·.1)).sum from by rw [preSum_eq, List.take_of_length_le (by simp [intItems])]]
    exact k2
/-! ### an error in the hands of a def -/
theorem call_isP {p : Addr × Obj} {D : Addr} (hp : p ∈ X.pn) (hz : Zc (.ref D) none p.2) (hf : ∃ vs, p.2.data = .fields vs) : CallR X (.builtin "isinstance") (rIsG X.K p.1 (.ref D) none) := fun pins s σ H xs us Q I r wish => by
  obtain ⟨D', c, cv, b, rfl, e2, _, C, hcv, e, q⟩ := wish
  cases e2
  cases r with
  | cons rx rr =>
    cases rr with
    | cons rt rr =>
      cases rr
      cases rx
      have ec := hcv _ rt
      subst ec
      obtain ⟨get, _⟩ := I.pin p (List.mem_append_left _ hp)
      obtain ⟨vs, hv⟩ := hf
      have J : PySem.W.InstAt s.heap p.1 p.2 D none := by
        obtain ⟨ad, oc, od, oda, osl⟩ := p
        obtain ⟨h1, h2⟩ := hz
        dsimp only at h1 h2 hv get ⊢
        subst h1 h2 hv
        exact ⟨get, rfl, rfl, trivial⟩
      exact PySem.W.kia_one (PySem.W.handS_kitx_exc C.hg C.hk C.hs C.hd C.ha C.hn C.ht C.hm) I.kIn J e (fun z => nomatch z) fun tk => ⟨.bl b, H, I.kept (t' := tk) fun _ _ z => z, rfl, q⟩
end
/-- an error of the class C with no context -/
structure Err1 (C : Addr) (p : Addr × Obj) : Prop where
  zc : Zc (.ref C) none p.2
  ctx : ∃ fs : Array Value, p.2.data = .fields fs ∧ fs[2]? = some .none
theorem Err1.fields {C : Addr} {p : Addr × Obj} (e : Err1 C p) : ∃ vs, p.2.data = .fields vs := let ⟨fs, h, _⟩ := e.ctx; ⟨fs, h⟩
/-- what a def promises that is called while the error at e, of the class C, is handled -/
abbrev SpE := Addr → Addr → Sp
structure FnE (Pg : Program) (w : World) (K : PySem.W.Frag) (mg : Str → Option Value) (base : Heap) (k : Nat) (f : Addr) (fd : FuncData) (ps : List Str) (sp : SpE) : Prop where
  len : ∀ e C vs H Q E, sp e C vs H Q E → vs.length = ps.length
  run : ∀ (A : Around) (outer : List Env) (s : Shared) (H : Hp) (args : Args) (us : List Value) (vs : List V) (Q : VK) (E : XK) (p : Addr × Obj) (C : Addr), L2H.RoomH k A → A.handled = some (.ref p.1) → Err1 C p → L2H.PinOk outer H s p → Env0 Pg w K mg base A outer s H →
    BindsTo s fd args (ps.zip us) → Vals vs us → sp p.1 C vs H Q E → codeAny (model Pg w) A (.call (.ref f) args) (CR (L2N.CX Pg w) outer Pg w H s Q E) s
section
variable {Pg : Program} {w : World} {K : PySem.W.Frag} {mg : Str → Option Value} {base : Heap}
theorem _root_.L2.Fun.okN {x qual : Str} {st : Stmt} {f : Addr} {fd : FuncData} {N ps : List Str} {k : Nat} {sp : Sp} (F : Fun K x qual st f fd) (S : FnScope N ps (defScope st)) (len : ∀ vs H Q E, sp vs H Q E → vs.length = ps.length)
    (hbody : ∀ (cdv : Value) (A : Around) (outer : List Env) (s : Shared) (H : Hp) (vs : List V) (Q : VK) (E : XK), Room k (A.deeper (envOfC qual (defScope st) s.heap.objs.size f cdv)) → sp vs H Q E →
      ∃ t, PSs (cxOf (L2N.CX Pg w) Pg w K mg base N qual (defScope st) f cdv A outer s H E) (defBody st) t ∧ t { nx := fun _ H' => Q .non H', rt := Q } (L2.start N vs) H) : FnOk Pg w K mg base (L2N.CX Pg w) (k + 1) f fd ps sp := by
  obtain ⟨oc, od, kV, doc, pm, an, cdv, ct, osl, rfl, lk, code⟩ := F.ex
  exact fn_of lk code S len fun A outer s H vs Q E room wish => hbody cdv A outer s H vs Q E room wish
theorem FunC.okN {x qual : Str} {st : Stmt} {f c : Addr} {fd : FuncData} {N ps : List Str} {k : Nat} {sp : Sp} (F : FunC K x qual st f fd c) (S : FnScope N ps (defScope st)) (len : ∀ vs H Q E, sp vs H Q E → vs.length = ps.length)
    (hbody : ∀ (A : Around) (outer : List Env) (s : Shared) (H : Hp) (vs : List V) (Q : VK) (E : XK), Room k (A.deeper (envOfC qual (defScope st) s.heap.objs.size f (.ref c))) → sp vs H Q E →
      ∃ t, PSs (cxOf (L2N.CX Pg w) Pg w K mg base N qual (defScope st) f (.ref c) A outer s H E) (defBody st) t ∧ t { nx := fun _ H' => Q .non H', rt := Q } (L2.start N vs) H) : FnOk Pg w K mg base (L2N.CX Pg w) (k + 1) f fd ps sp := F.okX S len hbody
theorem okE {x qual : Str} {st : Stmt} {f : Addr} {fd : FuncData} {N ps : List Str} {k : Nat} {sp : SpE} (F : Fun K x qual st f fd) (S : FnScope N ps (defScope st)) (len : ∀ e C vs H Q E, sp e C vs H Q E → vs.length = ps.length)
    (hbody : ∀ (cdv : Value) (A : Around) (outer : List Env) (s : Shared) (H : Hp) (vs : List V) (Q : VK) (E : XK) (p : Addr × Obj) (C : Addr), A.handled = some (.ref p.1) → Err1 C p → L2H.RoomH k (A.deeper (envOfC qual (defScope st) s.heap.objs.size f cdv)) → sp p.1 C vs H Q E →
      ∃ t, PSs (L2H.cxH (L2N.CX Pg w) Pg w K mg base N qual (defScope st) f cdv A outer s H E p) (defBody st) t ∧ t { nx := fun _ H' => Q .non H', rt := Q } (L2.start N vs) H) : FnE Pg w K mg base (k + 1) f fd ps sp := by
  obtain ⟨oc, od, kV, doc, pm, an, cdv, ct, osl, rfl, lk, code⟩ := F.ex
  refine ⟨len, fun A outer s H args us vs Q E p C room hh er pin env binds rel wish => ?_⟩
  have ln := len _ _ _ _ _ _ wish
  have down : ∀ b o, base.get? b = some o → s.heap.get? b = some o := fun b o e => (env.bs b o e).1
  have KX : K.In s.heap := env.mod.kin.keeps down
  have kinds : ∀ y ∈ ps.zip us, (defScope st).names.lookup y.1 = some .local ∨ ((defScope st).names.lookup y.1 = some .cell ∧ ((cellsFrom (s.heap.objs.size + 1) (defScope st).names []).lookup y.1).isSome = true) := fun y hy =>
    (S.par y.1 (List.of_mem_zip (a := y.1) (b := y.2) hy).1).imp id fun q => ⟨q, PySem.W.cellsFrom_some _ _ _ (.inl q)⟩
  refine codeAny_call_function room.depth (KX _ _ lk) rfl S.co S.gen rfl (PySem.W.codeRec_of KX code) (binds _ _ _ _ (wpAny_newFunctionEnv_cells S.kind kinds fun env' he s1 x => ?_))
  subst he
  refine ⟨(env.mod.nolimit.keeps down).keeps x.toInCall.keep, codeAny_func ?_⟩
  obtain ⟨t, ht, got⟩ := hbody cdv A outer s H vs Q E p C hh er (room.deeper _) wish
  have I : Inv (L2H.cxH (L2N.CX Pg w) Pg w K mg base N qual (defScope st) f cdv A outer s H E p) [] (L2.start N vs) H s1 := L2H.inv_startH S pin env ln rel x
  refine wpAny_mono (ht.run [] s1 (L2.start N vs) H _ I got) (fun fl s' hs => ?_) fun _ _ hs => hs
  cases fl with
  | ret u => obtain ⟨v, _, H', J, rv, q⟩ := hs; exact ⟨v, H', J.os, J.bare, J.base, J.hok, rv, q⟩
  | next => obtain ⟨_, H', J, q⟩ := hs; exact ⟨V.non, H', J.os, J.bare, J.base, J.hok, rfl, q⟩
  | brk => obtain ⟨_, _, _, q⟩ := hs; exact q.elim
  | cont => obtain ⟨_, _, _, q⟩ := hs; exact q.elim
end
structure DnE (Pg : Program) (w : World) (K : PySem.W.Frag) (mg : Str → Option Value) (base : Heap) (k : Nat) (x : Str) (ps : List Str) (sp : SpE) : Prop where
  ex : ∃ f fd, FnE Pg w K mg base k f fd ps sp ∧ mg x = some (.ref f) ∧ PySem.W.keepIn K (.ref f) = true ∧ Binds K fd ps []
section
variable {X : Cx} {k : Nat} {x : Str} {ps : List Str} {sp : SpE} {p pos : Pos} {e : Expr} {es : List Expr} {t : TA} {E : L2.St → XK}
def tCallE (a C : Addr) (sp : SpE) (E : L2.St → XK) (t : TA) : TE := tCallS (fun vs H Q Ex => sp a C vs H Q Ex) E t
/-- f(e, ..) while the error q is handled -/
theorem pe_fnE1 {q : Addr × Obj} {C : Addr} (D : DnE X.prog X.w X.K X.mg X.base k x ps sp) (hr : L2H.RoomH k X.A) (hq : q ∈ X.pn) (hh : X.A.handled = some (.ref q.1)) (er : Err1 C q) (hx : ∀ σ, PassesAt (L2N.CX X.prog X.w) X σ (E σ)) (ha : PA X (e :: es) t) (hg : Gl X x := by rfl)
    (hdb : (x == ("__debug__" : Str)) = false := by decide) (he : starEach (e :: es) X.env = (false, eval e X.env) :: starEach es X.env := by rfl) (hpl : (backTo pos (starEach es X.env)).any (·.1) = false := by rfl) :
    PE X (.Call (.Name x p) (e :: es) [] pos) (tCallE q.1 C sp E t) := by
  obtain ⟨f, fd, F, hm, hk, hb⟩ := D.ex
  refine ⟨fun pins s σ H Q I wish => ?_⟩
  refine wpAny_Call_Name_kw (ld_glob I hg hm (PySem.W.callWith_K (h₀ := X.base) I.ok.mod.kin hk (thn (ha.run pos pins s σ H _ I wish) fun us s1 got => ?_) he hpl) hdb)
  obtain ⟨vs, H1, I1, r, w1⟩ := got
  refine ⟨I1.kIn, ?_⟩
  have ln : us.length = ps.length := by rw [← r.length]; exact F.len _ _ _ _ _ _ w1
  have b := hb s1 us I1.kIn (by rw [List.append_nil]; exact ln)
  rw [List.append_nil] at b
  have P1 := I1.pin q (List.mem_append_left _ hq)
  refine wpAny_call (codeAny_mono (F.run X.A X.stack s1 H1 ⟨us, []⟩ us vs Q (E σ) q C hr hh er ⟨P1.1, P1.2.1, fun hm => (List.mem_cons.mp (I1.stkSub q.1 hm)).elim P1.2.2.1 P1.2.2.2.1, P1.2.2.2.2⟩ I1.env0 b r w1) fun r s' hq => ?_)
  cases r with
  | error er => exact hx σ pins H1 s1 er s' I1 hq
  | ok fl =>
    cases fl with
    | ret u => exact I1.after hq
    | next => exact hq.elim
    | brk => exact hq.elim
    | cont => exact hq.elim
/-- .. in the suite, the error's class open -/
theorem pe_fnEG {Y : Cx} {a : Addr} {oe : Obj} {cls : Value} {d : Option Addr} {pn : List (Addr × Obj)} (D : DnE Y.prog Y.w Y.K Y.mg Y.base k x ps sp) (hr : L2H.RoomH k (Y.suite a ((a, oe) :: pn)).A) (hz : L2N.Zn cls d oe) (hf : ∃ vs, oe.data = .fields vs)
    (hx : ∀ σ, PassesAt (L2N.CX Y.prog Y.w) (Y.suite a ((a, oe) :: pn)) σ (E σ)) (ha : PA (Y.suite a ((a, oe) :: pn)) (e :: es) t) (hg : Gl (Y.suite a ((a, oe) :: pn)) x := by rfl)
    (hdb : (x == ("__debug__" : Str)) = false := by decide) (he : starEach (e :: es) Y.env = (false, eval e Y.env) :: starEach es Y.env := by rfl) (hpl : (backTo pos (starEach es Y.env)).any (·.1) = false := by rfl) :
    PE (Y.suite a ((a, oe) :: pn)) (.Call (.Name x p) (e :: es) [] pos) (fun σ H Q => ∃ C, cls = .ref C ∧ d = none ∧ tCallE a C sp E t σ H Q) := by
  refine ⟨fun pins s σ H Q I wish => ?_⟩
  obtain ⟨C, rfl, rfl, wish⟩ := wish
  obtain ⟨vs, hv⟩ := hf
  exact (pe_fnE1 (X := Y.suite a ((a, oe) :: pn)) (q := (a, oe)) D hr List.mem_cons_self rfl ⟨hz.zc, vs, hv, hz.2.2 vs hv⟩ hx ha hg hdb he hpl).run pins s σ H Q I wish
end
end Fb

namespace Fb
open PySem PySem.Spec PyProof.Rows L2
/-! ### [f(x) for x in xs if p(x)] -/
section
variable {K : PySem.W.Frag} {tt : TT} {te : TE} {vs : List Nat} {σ : L2.St} {H1 : Hp} {D : Addr} {Qd : Hp → Prop}
def pick (pf : Nat → Bool) (f : Nat → V) (n : Nat) : List V := ((List.range n).filter pf).map f
theorem pick_succ (pf : Nat → Bool) (f : Nat → V) (n : Nat) : pick pf f (n + 1) = if pf n = true then pick pf f n ++ [f n] else pick pf f n := by
  unfold pick
  rw [List.range_succ, List.filter_append]
  cases h : pf n with
  | true => rw [if_pos rfl]; simp [h]
  | false => rw [if_neg Bool.false_ne_true]; simp [h]
theorem pick_le (pf : Nat → Bool) (f : Nat → V) (n : Nat) : (pick pf f n).length ≤ n := by
  unfold pick
  rw [List.length_map]
  exact Nat.le_trans (List.length_filter_le _ _) (by simp)
theorem lc_pick {a : Addr} {xs : List V} {j : Nat} (pf : Nat → Bool) (f : Nat → V) (hD : H1 D = none) (hx : SqL K H1 a xs) (hn : xs.length ≤ 90000) (hw : ∀ v, wipe ((wipe σ vs).set j (some v)) vs = wipe σ vs)
    (ht : ∀ i x H, xs[i]? = some x → Same H1 H → ∀ Q : Bool → Hp → Prop, (∀ H', Same H H' → Q (pf i) H') → tt ((wipe σ vs).set j (some x)) H Q)
    (he : ∀ i x H, xs[i]? = some x → Same H1 H → ∀ Q : VK, (∀ H', Same H H' → Q (f i) H') → te ((wipe σ vs).set j (some x)) H Q)
    (hd : ∀ H, Same H1 H → H D = some (.lst (pick pf f xs.length)) → Qd H) :
    ∃ W : Nat → Nat → Hp → Prop, (∃ m, W 0 m (upd H1 D (.lst []))) ∧ ∀ i m H, W i m H →
      ((Itl K a).stop i H ∧ Qd H) ∨ ((Itl K a).go i H ∧ ∃ Nx : Hp → Prop, (∀ H', Nx H' → ∃ m', m' < m ∧ W (i + 1) m' H') ∧ ∀ x H', (Itl K a).yld i H x H' → (gName j) x (wipe σ vs) H' fun σ2 H2 => wipe σ2 vs = wipe σ vs ∧ tt σ2 H2 fun b H3 =>
        if b = true then te σ2 H3 fun y H4 => ∃ acc, H4 D = some (.lst acc) ∧ acc.length < sizeLine ∧ Nx (upd H4 D (.lst (acc ++ [y]))) else Nx H3) := by
  refine ⟨fun i m H => m = xs.length - i ∧ i ≤ xs.length ∧ Same H1 H ∧ H D = some (.lst (pick pf f i)), ⟨xs.length, by simp, Nat.zero_le _, same_new hD, upd_same⟩, ?_⟩
  rintro i m H ⟨rfl, hi, s1, hl⟩
  by_cases hlt : i < xs.length
  · refine .inr ⟨⟨xs, xs[i], s1.seq hx, List.getElem?_eq_getElem hlt⟩, fun H' => Same H1 H' ∧ H' D = some (.lst (pick pf f (i + 1))), fun H' p' => ⟨xs.length - (i + 1), by omega, rfl, hlt, p'⟩, fun y H' yl => ?_⟩
    obtain ⟨rfl, hy⟩ := yl
    have hy' := hy xs (s1.seq hx)
    refine ⟨hw _, ht i y H' hy' s1 _ fun H2 s2 => ?_⟩
    have e := pick_succ pf f i
    have hl2 := s2 _ _ hl
    cases hp : pf i with
    | true =>
      refine iteT (he i y H2 hy' (Same.trans s1 s2) _ fun H3 s3 => ⟨_, s3 _ _ hl2, szlt ?_, same_mut (Same.trans (Same.trans s1 s2) s3) hD, ?_⟩)
      · have := pick_le pf f i; omega
      · rw [upd_same, e, hp, if_pos rfl]
    | false =>
      refine iteF ⟨Same.trans s1 s2, ?_⟩
      rw [e, hp, if_neg Bool.false_ne_true]
      exact hl2
  · have e : i = xs.length := by omega
    subst e
    exact .inl ⟨⟨xs, s1.seq hx, Nat.le_refl _⟩, hd H s1 hl⟩
end
theorem pick_nil {pf : Nat → Bool} {f : Nat → V} {n : Nat} : (pick pf f n).isEmpty = true ↔ ∀ i, i < n → pf i = false := by
  unfold pick
  rw [List.isEmpty_iff, List.map_eq_nil_iff, List.filter_eq_nil_iff]
  exact ⟨fun h i hi => by simpa using h i (List.mem_range.mpr hi), fun h i hi => by simp [h i (List.mem_range.mp hi)]⟩
/-! ### the law's other places -/
def fa (k : Nat) : Str := Str.ofString "aa" ++ ⟨#[k % 25 + 97]⟩
def fb (k : Nat) : Str := Str.ofString "bb" ++ ⟨#[k / 25 + 97]⟩
theorem fa_tl (k : Nat) : (fa k).cps.toList = [97, 97, k % 25 + 97] := by
  have e : (Str.ofString "aa").cps.toList = [97, 97] := by decide +kernel
  have h : (fa k).cps.toList = (Str.ofString "aa").cps.toList ++ [k % 25 + 97] := TL.tl_append _ _
  rw [h, e]; rfl
theorem fb_tl (k : Nat) : (fb k).cps.toList = [98, 98, k / 25 + 97] := by
  have e : (Str.ofString "bb").cps.toList = [98, 98] := by decide +kernel
  have h : (fb k).cps.toList = (Str.ofString "bb").cps.toList ++ [k / 25 + 97] := TL.tl_append _ _
  rw [h, e]; rfl
theorem isP_three {z : Str} {x y u : Nat} (h : z.cps.toList = [x, y, u]) (hx : letter x = true) (hy : letter y = true) (hu : letter u = true) : isP (.str z) = true := by
  have hl : z.length = 3 := by rw [len_tl, h]; rfl
  show (decide (1 ≤ z.length) && decide (z.length ≤ 12) && z.cps.toList.all letter) = true
  rw [hl, h]
  simp [hx, hy, hu]
theorem let_ok {n : Nat} (h1 : 97 ≤ n) (h2 : n ≤ 122) : letter n = true := by
  unfold letter
  rw [decide_eq_true h1, decide_eq_true h2]; rfl
theorem fa_isP (k : Nat) : isP (.str (fa k)) = true := isP_three (fa_tl k) (by decide) (by decide) (let_ok (by omega) (by omega))
theorem fb_isP {k : Nat} (h : k < 175) : isP (.str (fb k)) = true := isP_three (fb_tl k) (by decide) (by decide) (let_ok (by omega) (by omega))
theorem fa_ne_fb (k l : Nat) : fa k ≠ fb l := fun e => by
  have h := congrArg (fun z : Str => z.cps.toList) e
  simp only [fa_tl, fb_tl] at h
  have := (List.cons.inj h).1
  omega
theorem f_inj {k l : Nat} (h1 : fa k = fa l) (h2 : fb k = fb l) : k = l := by
  have e1 := congrArg (fun z : Str => z.cps.toList) h1
  have e2 := congrArg (fun z : Str => z.cps.toList) h2
  simp only [fa_tl, fb_tl, List.cons.injEq, true_and, and_true] at e1 e2
  omega
theorem no_aabb {c : Int} {k l : Nat} : ¬ (fa k = nameOf c 20 ∧ fb l = nameOf c 21) := by
  rintro ⟨h1, h2⟩
  have e1 : [97, 97, k % 25 + 97] = nameL c 20 := by rw [← fa_tl, h1]; rfl
  have e2 : [98, 98, l / 25 + 97] = nameL c 21 := by rw [← fb_tl, h2]; rfl
  cases ho : nmOne c with
  | true =>
    have z := congrArg List.length e1
    unfold nameL at z
    rw [ho, if_pos rfl, List.length_replicate] at z
    simp at z
  | false =>
    have z := congrArg List.length e1
    rw [nameL_len2 c 20 ho] at z
    simp only [List.length_cons, List.length_nil] at z
    have hs : nmSize c = 2 := by omega
    have hp := nmPlace_le c
    have base : ∀ m : Nat, nmBase c m = [code (c / 3 + (m : Int) * m * (c / 3432 % 2) + 5 * ((0 : Nat) : Int)), code (c / 3 + (m : Int) * m * (c / 3432 % 2) + 5 * ((1 : Nat) : Int))] := fun m => by
      unfold nmBase
      rw [hs]; rfl
    unfold nameL at e1 e2
    rw [ho, if_neg Bool.false_ne_true, base] at e1 e2
    have hm : c / 3432 % 2 = 0 ∨ c / 3432 % 2 = 1 := by omega
    have cases3 : nmPlace c = 0 ∨ nmPlace c = 1 ∨ nmPlace c = 2 := by omega
    rcases cases3 with h | h | h <;> rw [h] at e1 e2 <;> simp only [List.take, List.drop, List.nil_append, List.cons_append, List.append_nil, List.append_assoc, List.cons.injEq, show (20 / 26 : Nat) = 0 from rfl, show (21 / 26 : Nat) = 0 from rfl, List.replicate] at e1 e2 <;> unfold code at e1 e2 <;> rcases hm with q | q <;> rw [q] at e1 e2 <;> omega
end Fb

namespace Fb
open PySem PySem.Spec PyProof.Rows L2
section
variable {Pg : Program} {w : World} {K : PySem.W.Frag} {mg : Str → Option Value} {base h : Heap} {x : Str} {st : Stmt} {f : Addr} {ps : List Str} {sp : SpE} {k : Nat}
theorem FA.dne (A : FA K x st f) (X : K.In h) (G : h.Ns mainGlobals mg) (ok : ∀ fd, Fun K x x st f fd → FnE Pg w K mg base k f fd ps sp)
    (hb : ∀ (kV doc pm : Value) (an : Option Addr) (cdv ct : Value) (us : List Value), us.length = ps.length → bindArgs (PySem.W.fnOf x x (defArgs st) (defBody st) (defScope st) .none kV doc pm an cdv ct) ⟨us, []⟩ = pure (ps.zip us)) : DnE Pg w K mg base k x ps sp := by
  obtain ⟨oc, od, kV, dc, pm, an, cd, ct, osl, l, c⟩ := A.l
  have F := fun_mk (st := st) l c A.k
  exact ⟨f, _, ok _ F, PySem.W.mg_of X G A.a, A.k, F.binds (ps := ps) hb⟩
end
end Fb

namespace Fb
open PySem PySem.Spec PyProof.Rows L2 HotX
/-! ### further walks while an error is handled -/
section
variable {prog : Program} {w : World} {A : Around} {E : Value → Shared → Prop} {s : Shared}
theorem hot_ascii_end {it x1 : Addr} {x : Str} {t : Tok} {i : Nat} {Q : Option Value → Shared → Prop} (hot : HotAt A x1 s.heap) (iter : s.heap.IsStrIter it "str_ascii_iterator" x t i) (last : x.cps[i]? = none)
    (post : ∀ h', Heap.ExtBut it s.heap h' → Q none { s with heap := h' }) : wpAny (model prog w) A (pyNext (.ref it)) Q E s := by
  obtain ⟨hh, oe, fe, ge, de, ce⟩ := hot
  obtain ⟨oi, gi, ci, di⟩ := id iter
  have ne : it ≠ x1 := fun z => by
    rw [← z, gi] at ge
    cases ge
    rw [di] at de
    cases de
    simp at ce
  unfold pyNext
  refine wpAny_bind (wpAny_attempt (wpAny_callSpecial?_slot (name := Str.ofString "__next__") iter.typeIs F.slot_str_ascii_iterator_next (wpAny_call_entry F.slot_str_ascii_iterator_next iter.typeIs F.entry_str_ascii_iterator_next ?_ (F.args_str_ascii_iterator_next_1 _))))
  show wpAny _ _ (field (.ref it) 0 >>= _) _ _ s
  refine wpAny_bind (wpAny_field gi di (x := .str x t) rfl ?_)
  show wpAny _ _ (field (.ref it) 1 >>= _) _ _ s
  refine wpAny_bind (wpAny_field gi di (x := .int i 0) rfl ?_)
  simp only [Int.toNat_natCast, last]
  refine wpAny_bind (wpAny_rule (wpAny_bind (wpAny_setField gi di (by simp) (wpAny_bind (wpAny_letGo ?_)))))
  refine hot_stop (x1 := x1) ⟨hh, oe, fe, (Heap.get?_update_other _ _ ne).trans ge, de, ce⟩ fun h' a kept isStop => ?_
  refine wpAny_bind (wpAny_isInstance (T := "StopIteration") (b := true) isStop isSubtype_stop (wpAny_pure (post h' fun b o nb e => kept b o ?_)))
  rw [Heap.get?_update_other _ _ (Ne.symm nb)]
  exact e
theorem hot_wide_end {it x1 : Addr} {x : Str} {t : Tok} {i : Nat} {Q : Option Value → Shared → Prop} (hot : HotAt A x1 s.heap) (iter : s.heap.IsStrIter it "str_iterator" x t i) (last : x.cps[i]? = none)
    (post : ∀ h', Heap.ExtBut it s.heap h' → Q none { s with heap := h' }) : wpAny (model prog w) A (pyNext (.ref it)) Q E s := by
  obtain ⟨hh, oe, fe, ge, de, ce⟩ := hot
  obtain ⟨oi, gi, ci, di⟩ := id iter
  have ne : it ≠ x1 := fun z => by
    rw [← z, gi] at ge
    cases ge
    rw [di] at de
    cases de
    simp at ce
  unfold pyNext
  refine wpAny_bind (wpAny_attempt (wpAny_callSpecial?_slot (name := Str.ofString "__next__") iter.typeIs F.slot_str_iterator_next (wpAny_call_entry F.slot_str_iterator_next iter.typeIs F.entry_str_iterator_next ?_ (F.args_str_iterator_next_1 _))))
  show wpAny _ _ (field (.ref it) 0 >>= _) _ _ s
  refine wpAny_bind (wpAny_field gi di (x := .str x t) rfl ?_)
  show wpAny _ _ (field (.ref it) 1 >>= _) _ _ s
  refine wpAny_bind (wpAny_field gi di (x := .int i 0) rfl ?_)
  simp only [Int.toNat_natCast, last]
  refine wpAny_bind (wpAny_rule (wpAny_bind (wpAny_setField gi di (by simp) (wpAny_bind (wpAny_letGo ?_)))))
  refine hot_stop (x1 := x1) ⟨hh, oe, fe, (Heap.get?_update_other _ _ ne).trans ge, de, ce⟩ fun h' a kept isStop => ?_
  refine wpAny_bind (wpAny_isInstance (T := "StopIteration") (b := true) isStop isSubtype_stop (wpAny_pure (post h' fun b o nb e => kept b o ?_)))
  rw [Heap.get?_update_other _ _ (Ne.symm nb)]
  exact e
theorem hot_items_end {it d x1 : Addr} {i ep : Nat} {es : Array DictEntry} {ok ov : Value} {Q : Option Value → Shared → Prop} (hot : HotAt A x1 s.heap) (iter : IsItemIter s.heap it d i es.size ep ok ov) (raw : DT.Raw s.heap d es ep) (last : es.size ≤ i)
    (post : ∀ h', Heap.ExtBut it s.heap h' → Q none { s with heap := h' }) : wpAny (model prog w) A (pyNext (.ref it)) Q E s := by
  obtain ⟨hh, oe, fe, ge, de, ce⟩ := hot
  obtain ⟨od, god, cod, dod⟩ := id raw
  have gi := id iter
  have ne : it ≠ x1 := fun z => by
    have g2 : s.heap.get? it = some _ := gi
    rw [z, ge] at g2
    cases g2
    cases de
    simp [rawInt] at ce
  have hT : s.TypeIs (.ref it) "dict_itemiterator" := ⟨_, iter, rfl⟩
  unfold pyNext
  refine wpAny_bind (wpAny_attempt (wpAny_callSpecial?_slot (name := Str.ofString "__next__") hT F.slot_dict_itemiterator_next (wpAny_call_entry F.slot_dict_itemiterator_next hT F.entry_dict_itemiterator_next ?_ (F.args_dict_itemiterator_next_1 _))))
  refine wpAny_bind (wpAny_pure (wpAny_bind (wpAny_bind ?_)))
  first | refine wpAny_bind (wpAny_typeNameOfWhole_itemiter hT (wpAny_pure ?_)) | refine wpAny_bind (wpAny_typeNameOf_itemiter hT (wpAny_pure ?_))
  refine wpAny_bind (wpAny_fieldsOf iter rfl ?_)
  simp only [show Builtin.Dict_items.ownsTuple "dict_itemiterator" = true from by decide, if_true]
  show wpAny _ _ (if (Value.ref d == Value.none) = true then _ else _) _ _ s
  rw [if_neg (show (Value.ref d == Value.none) ≠ true from fun z => Bool.false_ne_true z)]
  refine wpAny_bind (wpAny_pure (wpAny_bind (wpAny_dictEntries god dod ?_)))
  rw [if_neg (by simp)]
  refine wpAny_bind (wpAny_pure (wpAny_bind (wpAny_dictEpoch god dod ?_)))
  rw [if_neg (by simp)]
  refine wpAny_pure ?_
  simp only [show ¬ ((i : Int) < 0) from by omega, if_false, Int.toNat_natCast, Array.getElem?_eq_none last]
  refine wpAny_bind ?_
  first | refine wpAny_bind (wpAny_typeNameOfWhole_itemiter hT (wpAny_pure ?_)) | refine wpAny_bind (wpAny_typeNameOf_itemiter hT (wpAny_pure ?_))
  show wpAny _ _ (setField (.ref it) 2 .none >>= _) _ _ s
  refine wpAny_bind (wpAny_setField iter rfl (by simp) ?_)
  refine hot_stop (x1 := x1) ⟨hh, oe, fe, (Heap.get?_update_other _ _ ne).trans ge, de, ce⟩ fun h' a kept isStop => ?_
  refine wpAny_bind (wpAny_isInstance (T := "StopIteration") (b := true) isStop isSubtype_stop (wpAny_pure (post h' fun b o nb e => kept b o ?_)))
  rw [Heap.get?_update_other _ _ (Ne.symm nb)]
  exact e
end
end Fb

namespace Fb
open PySem PySem.Spec PyProof.Rows L2 HotX
theorem turn_strA {Pg : Program} {w : World} {K : PySem.W.Frag} {tg : Expr} (it : Addr) (x : Str) (t : Tok) (ty : String) (hty : ty = "str_ascii_iterator" ∨ ty = "str_iterator") : TurnA Pg w K tg (Its x) [it] it (fun n h => h.IsStrIter it ty x t n) where
  mem := List.mem_singleton.mpr rfl
  obj := fun n h st c hc => by
    rw [List.mem_singleton.mp hc]
    obtain ⟨ob, g, _, d⟩ := st
    exact ⟨ob, g, fun v z => by rw [d] at z; cases z⟩
  keep := fun n h h' st k => let ⟨ob, g, r⟩ := st; ⟨ob, k it (List.mem_singleton.mpr rfl) ob g, r⟩
  item := fun X e1 e2 e3 n pins z σ H E I free st go => by
    subst e1 e2 e3
    have F := free it (List.mem_singleton.mpr rfl)
    have lt : n < x.cps.size := go
    have hx : x.cps[n]? = some x.cps[n] := Array.getElem?_eq_getElem lt
    have hno : ["enumerate", "zip", "dict_itemiterator", "dict_reverseitemiterator", "odict_iterator", "itertools.zip_longest", "itertools.pairwise"].contains ty = false := by rcases hty with e | e <;> rw [e] <;> decide
    have fin : ∀ h', h'.IsStrIter it ty x t (n + 1) → Heap.SameBut it z.heap h' → ∃ u, some (Value.str ⟨#[x.cps[n]]⟩ z.toks) = some u ∧ wpAny (model X.prog X.w) X.A (letOwnedTupleGo tg (.ref it) u)
        (fun _ z2 => ∃ y H', Inv X pins σ H' z2 ∧ RelV y u ∧ (Its x).yld n H y H' ∧ z2.heap.IsStrIter it ty x t (n + 1) ∧ ∀ c ∈ [it], H' c = none) E { z with heap := h', toks := z.toks + 1 } := fun h' st' but => by
      have I1 : Inv X pins σ H { z with heap := h', toks := z.toks + 1 } := I.turned (fun c ob nc g => (but.2 c nc).trans g) F.1 F.2.1 F.2.2.2.1 F.2.2.2.2.1 F.2.2.2.2.2
      obtain ⟨oi, g, cc, dd⟩ := id st'
      exact ⟨_, rfl, go_of (s := { z with heap := h', toks := z.toks + 1 }) g cc dd hno ⟨.str ⟨#[x.cps[n]]⟩, H, I1, ⟨_, rfl⟩, ⟨rfl, _, hx, rfl⟩, st', fun c hc => (free c hc).1⟩⟩
    rcases hty with e | e
    · subst e; exact wpAny_pyNext_ascii_item st hx fun h' st' but => fin h' st' but
    · subst e; exact wpAny_pyNext_wide_item st hx fun h' st' but => fin h' st' but
  done := fun X e1 e2 e3 x1 n pins z σ H E hot I free st stop => by
    subst e1 e2 e3
    have F := free it (List.mem_singleton.mpr rfl)
    have hx : x.cps[n]? = none := Array.getElem?_eq_none stop
    rcases hty with e | e
    · subst e; exact hot_ascii_end hot st hx fun h' but => ⟨rfl, I.turned (t' := z.toks) (fun c ob nc g => but c ob nc g) F.1 F.2.1 F.2.2.2.1 F.2.2.2.2.1 F.2.2.2.2.2⟩
    · subst e; exact hot_wide_end hot st hx fun h' but => ⟨rfl, I.turned (t' := z.toks) (fun c ob nc g => but c ob nc g) F.1 F.2.1 F.2.2.2.1 F.2.2.2.2.1 F.2.2.2.2.2⟩
  self := fun _ _ _ _ _ st q => by
    rcases hty with e | e
    · rw [e] at st; exact wpAny_pyIter_striter_ascii st q
    · rw [e] at st; exact wpAny_pyIter_striter_wide st q
theorem turn_itemsTA {Pg : Program} {w : World} {K : PySem.W.Frag} {d : Addr} {o : Obj} {es : Array DictEntry} {ep : Nat} {kvs : List (List Key × V)} {elts : List Expr} {kk : Nat} {tpos : Pos} (it : Addr) (hod : o.data = .dict es ep) :
    TurnA Pg w K (.Tuple elts kk tpos) (Itit d o kvs) [it] it (fun n h => ∃ ok ov, IsItemIter h it d n kvs.length ep ok ov) where
  mem := List.mem_singleton.mpr rfl
  obj := fun n h st c hc => by
    rw [List.mem_singleton.mp hc]
    obtain ⟨ok, ov, e⟩ := st
    exact ⟨_, e, fun v z => nomatch z⟩
  keep := fun n h h' st k => let ⟨ok, ov, e⟩ := st; ⟨ok, ov, k it (List.mem_singleton.mpr rfl) _ e⟩
  item := fun X e1 e2 e3 n pins z σ H E I free st go => by
    subst e1 e2 e3
    obtain ⟨hd, hi⟩ := go
    obtain ⟨hs, hgd, hx, es', ep', hdt, hsz, ent⟩ := frzT2 I hd
    obtain ⟨rfl, rfl⟩ := dict_ep hod hdt
    obtain ⟨⟨k, v⟩, hkv⟩ : ∃ p, kvs[n]? = some p := ⟨kvs[n], List.getElem?_eq_getElem hi⟩
    obtain ⟨en, q, hen, hkey, hq, rv⟩ := ent n k v hkv
    obtain ⟨ok, ov, he⟩ := st
    rw [← hsz] at he
    have hi2 : n < es'.size := by rw [hsz]; exact hi
    have hen2 : es'[n] = en := (Array.getElem?_eq_some_iff.mp hen).2
    have hlt : it < z.heap.objs.size := Heap.lt_size he
    refine DT.nextI he ⟨o, hgd, hx, hdt⟩ hi2 fun h' ho hT hz hk => ?_
    rw [hen2] at ho hT
    refine ⟨_, rfl, wpAny_letOwnedTupleGo_items (s := { z with heap := h' }) ho fun h'' he' sb => ?_⟩
    have hT2 : h''.get? z.heap.objs.size = some { cls := .type "tuple", data := .seq #[en.key, en.val] } := (sb.2 _ (Nat.ne_of_gt hlt)).trans hT
    have new : ObjOk X.prog X.w (upd H z.heap.objs.size (.tup [.ref q, v])) h'' z.heap.objs.size (.tup [.ref q, v]) := ⟨by show 2 ≤ sizeLine; decide, [en.key, en.val], .cons hkey (.cons rv .nil), ⟨_, hT2, rfl, _, rfl⟩⟩
    have I1 : Inv X pins σ (upd H z.heap.objs.size (.tup [.ref q, v])) { z with heap := h'' } :=
      I.turnedNew (t' := z.toks) (ch := [it]) (fun b ob hb e => (sb.2 b (by simpa using hb)).trans (hk b ob (by simpa using hb) e)) free (Nat.le_refl _) new
    refine ⟨.ref z.heap.objs.size, _, I1, rfl, ⟨_, q, k, v, hkv, rfl, I.hok.fresh (Nat.le_refl _), hq, rfl⟩, ⟨en.key, en.val, ?_⟩, fun c hc => ?_⟩
    · rw [← hsz]; exact he'
    · rw [List.mem_singleton.mp hc, upd_ne (Nat.ne_of_lt hlt)]
      exact (free it (List.mem_singleton.mpr rfl)).1
  done := fun X e1 e2 e3 x1 n pins z σ H E hot I free st stop => by
    subst e1 e2 e3
    obtain ⟨hd, hi⟩ := stop
    have F := free it (List.mem_singleton.mpr rfl)
    obtain ⟨hs, hgd, hx, es', ep', hdt, hsz, ent⟩ := frzT2 I hd
    obtain ⟨rfl, rfl⟩ := dict_ep hod hdt
    obtain ⟨ok, ov, he⟩ := st
    rw [← hsz] at he
    exact hot_items_end hot he ⟨o, hgd, hx, hdt⟩ (by omega) fun h' but => ⟨rfl, I.turned (t' := z.toks) (fun c ob nc g => but c ob nc g) F.1 F.2.1 F.2.2.2.1 F.2.2.2.2.1 F.2.2.2.2.2⟩
  self := fun _ _ _ _ _ st q => let ⟨_, _, e⟩ := st; PySem.W.kcp_self e q
section
variable {X : Cx} {tg : Expr}
theorem pi_oneA {pins : List (Addr × Obj)} {σ : L2.St} {H : Hp} {s : Shared} {R : It → Hp → Prop} {J : It} {st : Nat → Heap → Prop} {h' : Heap} (I : Inv X pins σ H s) (kept : ∀ b o, s.heap.get? b = some o → h'.get? b = some o)
    (T : TurnA X.prog X.w X.K tg J [s.heap.objs.size] s.heap.objs.size st) (s0 : st 0 h') (q : R J H) : PIEA X pins σ tg R (.ref s.heap.objs.size) { s with heap := h' } := by
  refine ⟨s.heap.objs.size, [s.heap.objs.size], st, J, H, rfl, I.kept (t' := s.toks) kept, T, s0, fun c hc => ?_, q⟩
  rw [List.mem_singleton.mp hc]
  exact I.fpOk (Nat.le_refl _) (I.hok.fresh (Nat.le_refl _))
theorem pi_strA {e : Expr} {te : TE} (he : PE X e te) : PIA X tg e (iStr te) := ⟨fun pins z σ H R I wish => by
  refine thn (he.run pins z σ H _ I wish) fun v z1 got => ?_
  obtain ⟨y, H1, I1, r1, x, rfl, q⟩ := got
  obtain ⟨t, rfl⟩ := r1
  cases ha : x.cps.all (· < 128) with
  | false => exact wpAny_pyIter_wide ha (pi_oneA I1 (fun b o e => Heap.get?_push_of_some _ e) (turn_strA _ x t "str_iterator" (.inr rfl)) ⟨_, Heap.get?_push_size _ rfl, rfl, rfl⟩ q)
  | true => exact wpAny_pyIter_ascii ha (pi_oneA I1 (fun b o e => Heap.get?_push_of_some _ e) (turn_strA _ x t "str_ascii_iterator" (.inl rfl)) ⟨_, Heap.get?_push_size _ rfl, rfl, rfl⟩ q)⟩
theorem pi_itemsTA {e : Expr} {td : TE} {apos cpos tpos : Pos} {elts : List Expr} {kk : Nat} (he : PE X e td) (hbase : attributeBase e "items" X.env (eval e X.env) = eval e X.env := by rfl) (hline : (apos.endLine == cpos.line) = true := by rfl) :
    PIA X (.Tuple elts kk tpos) (.Call (.Attribute e "items" apos) [] [] cpos) (iItemsT td) := ⟨fun pins z σ H R I wish => by
  refine wpAny_Call_method (T := "dict") (id := "dict.items") hbase rfl hline F.plainAttrs_dict F.slot_dict_items F.type_dict_items (thn (he.run pins z σ H _ I wish) fun u z1 got => ?_)
  obtain ⟨x, H1, I1, rx, d, o, kvs, rfl, hd, q⟩ := got
  obtain rfl : u = Value.ref d := rx
  obtain ⟨hs, hgd, hx, es, ep, hdt, hsz, ent⟩ := frzT2 I1 hd
  have raw : DT.Raw z1.heap d es ep := ⟨o, hgd, hx, hdt⟩
  refine ⟨raw.typeIs, fun a e => by cases e; exact ⟨o, hgd, hx.2.1⟩, ?_⟩
  have I2 : Inv X pins σ H1 { z1 with heap := z1.heap.push { cls := .type "dict_items", data := .fields #[.ref d] } } := I1.kept (t' := z1.toks) fun b ob q => Heap.get?_push_of_some _ q
  have fin : wpAny (model X.prog X.w) X.A (pyIter (.ref z1.heap.objs.size)) (PIEA X pins σ (.Tuple elts kk tpos) R) X.xe { z1 with heap := z1.heap.push { cls := .type "dict_items", data := .fields #[.ref d] } } := by
    refine DT.iterI (d := d) ⟨_, Heap.get?_push_size _ rfl, rfl, rfl⟩ (raw.push _) (pi_oneA I2 (fun b o e => Heap.get?_push_of_some _ e) (turn_itemsTA _ hdt) ⟨.none, .none, ?_⟩ q)
    rw [← hsz]
    exact Heap.get?_push_size _ rfl
  show wpAny _ _ (callWith cpos (.builtin "dict.items") [.ref d] [] []) _ X.xe z1
  exact method_meetsIn F.slot_dict_items F.entry_dict_items rfl (PySem.evalArgs_none ⟨rfl, raw.typeIs, F.args_dict_items_1 _, _, DT.meetsItems (es := es) (ep := ep) hs, raw, fin⟩)⟩
end
end Fb

namespace Fb
open PySem PySem.Spec PyProof.Rows L2 HotX
section
variable {X : Cx} {tg : Expr}
theorem pi_range1A {e : Expr} {ta : TA} {p pos : Pos} (hg : Gl X "range") (hm : X.mg "range" = none) (ha : PA X [e] ta) (hs : starEach [e] X.env = [(false, eval e X.env)] := by rfl) : PIA X tg (.Call (.Name "range" p) [e] [] pos) (iRng1 ta) := ⟨fun pins z σ H R I wish => by
  refine Call_ (ld_blt I hg hm boot_range (PyProof.Rows.callWith_type1 (thn (ha.run pos pins z σ H _ I wish) fun us z1 got => ?_) hs rfl))
  obtain ⟨vs, H1, I1, r1, j, rfl, q1, q2, q⟩ := got
  cases r1 with
  | cons r rr =>
    cases rr
    obtain ⟨t, rfl⟩ := r
    refine call_range_1 (wpAny_pyIter_range (IsRange.new ..) (small_one (by omega) (by omega) q1 q2) ?_)
    have sz : ∀ (o : Obj), (z1.heap.push o).objs.size = z1.heap.objs.size + 1 := fun o => Heap.size_push ..
    refine ⟨_, [_], _, _, H1, rfl, I1.kept fun b o e => Heap.get?_push_of_some _ (Heap.get?_push_of_some _ e), turn_rangeA _ 0 (j - 0).toNat, ?_, fun c hc => ?_, by simpa using q⟩
    · have e1 : (0 : Int) + ((0 : Nat) : Int) * 1 = 0 := by simp
      have e2 : (((j - 0).toNat : Nat) : Int) - ((0 : Nat) : Int) = Builtin.Range.rangeSize 0 j 1 := by rw [rangeSize_one]; split <;> omega
      show IsRangeIter _ _ ((0 : Int) + ((0 : Nat) : Int) * 1) ((((j - 0).toNat : Nat) : Int) - ((0 : Nat) : Int)) 1
      rw [e1, e2]
      exact Heap.get?_push_size _ rfl
    · rw [List.mem_singleton.mp hc]
      exact I1.fpOk (Nat.le_of_lt (by rw [sz]; omega)) (I1.hok.fresh (Nat.le_of_lt (by rw [sz]; omega)))⟩
end
/-! ### methods called while an error is handled -/
structure DmE (Pg : Program) (w : World) (K : PySem.W.Frag) (mg : Str → Option Value) (base : Heap) (k : Nat) (C : Addr) (m : Str) (ps : List Str) (sp : SpE) : Prop where
  ex : ∃ f fd, FnE Pg w K mg base k f fd ps sp ∧ Meth K C m f ∧ Binds K fd ps []
def tMdE (q D C : Addr) (m : Str) (sp : SpE) (E : L2.St → XK) (ta : TE) (t : TA) : TE := tMdS D m (fun vs H Q Ex => sp q C vs H Q Ex) E ta t
section
variable {X : Cx} {k : Nat} {m : Str} {C D : Addr} {ps : List Str} {sp : SpE} {apos pos : Pos} {o e : Expr} {es : List Expr} {ta : TE} {t : TA} {E : L2.St → XK} {q : Addr × Obj} {f : Addr} {fd : FuncData}
theorem run_E {pins : List (Addr × Obj)} {σ : L2.St} {H : Hp} {s : Shared} {Q : VK} {us : List Value} {vs : List V} {Ex : XK} (F : FnE X.prog X.w X.K X.mg X.base k f fd ps sp) (hr : L2H.RoomH k X.A) (hq : q ∈ X.pn) (hh : X.A.handled = some (.ref q.1)) (er : Err1 C q)
    (hb : Binds X.K fd ps []) (hx : PassesAt (L2N.CX X.prog X.w) X σ Ex) (I : Inv X pins σ H s) (r : Vals vs us) (w1 : sp q.1 C vs H Q Ex) : wpAny (model X.prog X.w) X.A (call (.ref f) us) (EP X pins σ Q) X.xe s := by
  have ln : us.length = ps.length := by rw [← r.length]; exact F.len _ _ _ _ _ _ w1
  have b := hb s us I.kIn (by rw [List.append_nil]; exact ln)
  rw [List.append_nil] at b
  have P1 := I.pin q (List.mem_append_left _ hq)
  refine wpAny_call (codeAny_mono (F.run X.A X.stack s H ⟨us, []⟩ us vs Q Ex q C hr hh er ⟨P1.1, P1.2.1, fun hm => (List.mem_cons.mp (I.stkSub q.1 hm)).elim P1.2.2.1 P1.2.2.2.1, P1.2.2.2.2⟩ I.env0 b r w1) fun r s' hq => ?_)
  cases r with
  | error er => exact hx pins H s er s' I hq
  | ok fl =>
    cases fl with
    | ret u => exact I.after hq
    | next => exact hq.elim
    | brk => exact hq.elim
    | cont => exact hq.elim
theorem pe_mdE {pl : Sem Bool} (he : PE X o ta) (c : Cls X.K D) (M : DmE X.prog X.w X.K X.mg X.base k D m ps sp) (hr : L2H.RoomH k X.A) (hq : q ∈ X.pn) (hh : X.A.handled = some (.ref q.1)) (er : Err1 C q) (hx : ∀ σ, PassesAt (L2N.CX X.prog X.w) X σ (E σ)) (ha : PA X (e :: es) t)
    (hst : starEach (e :: es) X.env = (false, eval e X.env) :: starEach es X.env := by rfl) (hpl : (backTo pos (starEach es X.env)).any (·.1) = false := by rfl)
    (ht : eval (.Call (.Attribute o m apos) (e :: es) [] pos) X.env = (do
      let ov ← eval o X.env
      standAt apos.atName
      let (f, first) ← holding [ov] (getMethod ov m pl)
      callWith pos f first (backTo pos (starEach (e :: es) X.env)) (backToKw pos (keywordEach [] X.env))) := by rfl) :
    PE X (.Call (.Attribute o m apos) (e :: es) [] pos) (tMdE q.1 D C m sp E ta t) := by
  obtain ⟨f, fd, F, hm, hb⟩ := M.ex
  refine ⟨fun pins s σ H Q I wish => ?_⟩
  refine PySem.W.methodCall_KW (pl := pl) (thn (he.run pins s σ H _ I wish) fun u s1 got => ?_) ht
  obtain ⟨y, H1, I1, ry, a, dx, fs, rfl, ea, l, w1⟩ := got
  obtain rfl : u = Value.ref a := ry
  refine getmeth_ok I1 ea c hm l (PySem.W.callWith_K (first := [.ref a]) (h₀ := X.base) I.ok.mod.kin hm.kp (thn (ha.run pos pins s1 σ H1 _ I1 w1) fun us s2 got => ?_) hst hpl)
  obtain ⟨vs, H2, I2, r, w2⟩ := got
  exact ⟨I2.kIn, run_E (us := .ref a :: us) (vs := .ref a :: vs) F hr hq hh er hb (hx σ) I2 (.cons rfl r) w2⟩
theorem pe_mdE0 {pl : Sem Bool} (he : PE X o ta) (c : Cls X.K D) (M : DmE X.prog X.w X.K X.mg X.base k D m ps sp) (hr : L2H.RoomH k X.A) (hq : q ∈ X.pn) (hh : X.A.handled = some (.ref q.1)) (er : Err1 C q) (hx : ∀ σ, PassesAt (L2N.CX X.prog X.w) X σ (E σ))
    (ht : eval (.Call (.Attribute o m apos) [] [] pos) X.env = (do
      let ov ← eval o X.env
      standAt apos.atName
      let (f, first) ← holding [ov] (getMethod ov m pl)
      callWith pos f first (backTo pos (starEach [] X.env)) (backToKw pos (keywordEach [] X.env))) := by rfl) :
    PE X (.Call (.Attribute o m apos) [] [] pos) (tMdE q.1 D C m sp E ta tNil) := by
  obtain ⟨f, fd, F, hm, hb⟩ := M.ex
  refine ⟨fun pins s σ H Q I wish => ?_⟩
  refine PySem.W.methodCall_KW (pl := pl) (thn (he.run pins s σ H _ I wish) fun u s1 got => ?_) ht
  obtain ⟨y, H1, I1, ry, a, dx, fs, rfl, ea, l, w1⟩ := got
  obtain rfl : u = Value.ref a := ry
  refine getmeth_ok I1 ea c hm l ?_
  exact PySem.W.callWith_K0 (first := [.ref a]) I1.kIn hm.kp (run_E (us := [.ref a]) (vs := [.ref a]) F hr hq hh er hb (hx σ) I1 (.cons rfl .nil) w1)
end
section
variable {Y : Cx} {k : Nat} {m : Str} {D : Addr} {ps : List Str} {sp : SpE} {apos pos : Pos} {o e : Expr} {es : List Expr} {ta : TE} {t : TA} {E : L2.St → XK} {a : Addr} {oe : Obj} {cls : Value} {d : Option Addr} {pn : List (Addr × Obj)}
/-- o.m() in the suite, the error's class open -/
theorem pe_mdEG0 {pl : Sem Bool} (he : PE (Y.suite a ((a, oe) :: pn)) o ta) (c : Cls Y.K D) (M : DmE Y.prog Y.w Y.K Y.mg Y.base k D m ps sp) (hr : L2H.RoomH k (Y.suite a ((a, oe) :: pn)).A) (hz : L2N.Zn cls d oe) (hf : ∃ vs, oe.data = .fields vs)
    (hx : ∀ σ, PassesAt (L2N.CX Y.prog Y.w) (Y.suite a ((a, oe) :: pn)) σ (E σ))
    (ht : eval (.Call (.Attribute o m apos) [] [] pos) Y.env = (do
      let ov ← eval o Y.env
      standAt apos.atName
      let (f, first) ← holding [ov] (getMethod ov m pl)
      callWith pos f first (backTo pos (starEach [] Y.env)) (backToKw pos (keywordEach [] Y.env))) := by rfl) :
    PE (Y.suite a ((a, oe) :: pn)) (.Call (.Attribute o m apos) [] [] pos) (fun σ H Q => ∃ C, cls = .ref C ∧ d = none ∧ tMdE a D C m sp E ta tNil σ H Q) := by
  refine ⟨fun pins s σ H Q I wish => ?_⟩
  obtain ⟨C, rfl, rfl, wish⟩ := wish
  obtain ⟨vs, hv⟩ := hf
  exact (pe_mdE0 (X := Y.suite a ((a, oe) :: pn)) (q := (a, oe)) (pl := pl) he c M hr List.mem_cons_self rfl ⟨hz.zc, vs, hv, hz.2.2 vs hv⟩ hx ht).run pins s σ H Q I wish
end
section
variable {Pg : Program} {w : World} {K : PySem.W.Frag} {mg : Str → Option Value} {base h : Heap} {m qual : Str} {st : Stmt} {f C : Addr} {ps : List Str} {sp : SpE} {k : Nat}
theorem FM.dme (A : FM K C m qual st f) (ok : ∀ fd, Fun K m qual st f fd → FnE Pg w K mg base k f fd ps sp)
    (hb : ∀ (kV doc pm : Value) (an : Option Addr) (cdv ct : Value) (us : List Value), us.length = ps.length → bindArgs (PySem.W.fnOf m qual (defArgs st) (defBody st) (defScope st) .none kV doc pm an cdv ct) ⟨us, []⟩ = pure (ps.zip us)) :
    DmE Pg w K mg base k C m ps sp := by
  obtain ⟨oc, od, kV, dc, pm, an, cd, ct, osl, l, c⟩ := A.l
  have F := fun_mk (st := st) l c A.k
  exact ⟨f, _, ok _ F, ⟨A.a, A.i, A.k⟩, F.binds (ps := ps) hb⟩
end
end Fb

namespace Fb
open PySem PySem.Spec PyProof.Rows L2 HotX
/-- in every state of the context an error is handled whose context is None -/
def HotIn (X : Cx) : Prop := ∀ (pins : List (Addr × Obj)) (σ : L2.St) (H : Hp) (s : Shared), Inv X pins σ H s → ∃ x1, HotAt X.A x1 s.heap
theorem hotIn_of {X : Cx} (c : L2H.HotC X) : HotIn X := fun _ _ _ _ I => c.at I
section
variable {prog : Program} {w : World} {A : Around} {E : Value → Shared → Prop} {s : Shared}
theorem hot_tuple_end {it l x1 : Addr} {i : Nat} {its : Array Value} {Q : Option Value → Shared → Prop} (hot : HotAt A x1 s.heap) (iter : IsTupIter s.heap it l i) (lst : IsTup s.heap l its) (last : its[i]? = none)
    (post : ∀ h', Heap.ExtBut it s.heap h' → Q none { s with heap := h' }) : wpAny (model prog w) A (pyNext (.ref it)) Q E s := by
  obtain ⟨hh, oe, fe, ge, de, ce⟩ := hot
  obtain ⟨oi, gi, ci, di⟩ := id iter
  obtain ⟨ol, gl, _, nl, dl⟩ := lst
  have ne : it ≠ x1 := fun z => by
    rw [← z, gi] at ge
    cases ge
    rw [di] at de
    cases de
    simp at ce
  unfold pyNext
  refine wpAny_bind (wpAny_attempt (wpAny_callSpecial?_slot (name := Str.ofString "__next__") iter.typeIs slot_tupleiter_next (wpAny_call_entry slot_tupleiter_next iter.typeIs entry_tupleiter_next ?_ (args_tupleiter_next _))))
  show wpAny _ _ (field (.ref it) 0 >>= _) _ _ s
  refine wpAny_bind (wpAny_field gi di (x := .ref l) rfl ?_)
  show wpAny _ _ (if (Value.ref l == Value.none) = true then _ else _) _ _ s
  rw [if_neg (show (Value.ref l == Value.none) ≠ true from fun z => Bool.false_ne_true z)]
  show wpAny _ _ (field (.ref it) 1 >>= _) _ _ s
  refine wpAny_bind (wpAny_field gi di (x := .int i 0) rfl ?_)
  show wpAny _ _ (seqItems? (.ref l) >>= _) _ _ s
  refine wpAny_bind (wpAny_seqItems gl dl ?_)
  simp only [Int.toNat_natCast, last]
  refine wpAny_bind (wpAny_rule (wpAny_bind (wpAny_setField gi di (by simp) ?_)))
  refine hot_stop (x1 := x1) ⟨hh, oe, fe, (Heap.get?_update_other _ _ ne).trans ge, de, ce⟩ fun h' a kept isStop => ?_
  refine wpAny_bind (wpAny_isInstance (T := "StopIteration") (b := true) isStop isSubtype_stop (wpAny_pure (post h' fun b o nb e => kept b o ?_)))
  rw [Heap.get?_update_other _ _ (Ne.symm nb)]
  exact e
theorem hot_unpack {t x1 : Addr} {its : Array Value} {Q : List Value → Shared → Prop} (hot : HotAt A x1 s.heap) (ht : IsTup s.heap t its)
    (post : ∀ h', Heap.ExtBut s.heap.objs.size s.heap h' → Q its.toList { s with heap := h' }) : wpAny (model prog w) A (unpackItems (.ref t) its.size none) Q E s := by
  have ne : t ≠ s.heap.objs.size := by obtain ⟨o, ho, _⟩ := ht; exact Nat.ne_of_lt (Heap.lt_size ho)
  obtain ⟨hh, oe, fe, ge, de, ce⟩ := hot
  have nx : x1 ≠ s.heap.objs.size := Nat.ne_of_lt (Heap.lt_size ge)
  unfold unpackItems
  refine wpAny_bind ?_
  unfold notIterableAtAll
  refine wpAny_bind (wpAny_specialOf ht.typeIs slot_tuple_iter.lookup (wpAny_pure ?_))
  simp only [Bool.false_eq_true, if_false]
  refine wpAny_bind (wpAny_holding (iter_tuple ht ?_))
  refine wpAny_bind (wpAny_holding (draw_tuple ne its.size 0 _ _ ⟨_, Heap.get?_push_size _ rfl, rfl, rfl⟩ (ht.push _) (by omega) fun h1 hit1 but1 => ?_))
  rw [List.drop_zero, List.take_of_length_le (by simp), if_neg (by simp)]
  refine wpAny_bind (wpAny_holding (hot_tuple_end (x1 := x1) ⟨hh, oe, fe, but1.extBut x1 oe nx (Heap.get?_push_of_some _ ge), de, ce⟩ hit1 ((ht.push _).extBut but1.extBut ne) (by simp) fun h2 but2 => ?_))
  simp only [Option.isSome_none, Bool.false_eq_true, if_false]
  exact wpAny_pure (post h2 fun b o nb e => but2 b o nb (but1.extBut b o nb (Heap.get?_push_of_some _ e)))
end
theorem pg_tupA {X : Cx} {es : List Expr} {k : Nat} {t : TGs} {n : Nat} {pos : Pos} (hot : HotIn X) (h : PGs X es t) (hn : (assignEach es X.env).length = n := by rfl) (hst : (assignEach es X.env).findIdx? (·.1) = none := by rfl) : PG X (.Tuple es k pos) (gTup X.K n t) := ⟨fun pins s σ H v u Q I r wish => by
  obtain ⟨a, xs, rfl, hq, hl, wish⟩ := wish
  cases r
  obtain ⟨its, rv, ht, hz⟩ := I.tuple hq
  obtain ⟨x1, hx⟩ := hot pins σ H s I
  have ln : (assignEach es X.env).length = its.toArray.size := by simp [hn, ← hl, rv.length]
  rw [assign_Tuple]
  refine wpAny_bind (wpAny_standAt ?_)
  unfold unpack
  rw [ln, hst]
  refine wpAny_bind (wpAny_holding (hot_unpack hx ht fun h' ext => ?_))
  have I1 : Inv X pins σ H { s with heap := h' } := I.kept (t' := s.toks) fun b o e => ext b o (Nat.ne_of_lt (Heap.lt_size e)) e
  exact h.run pins _ σ H xs _ Q I1 (by simpa using rv) wish⟩
section
variable {X : Cx}
/-- a list's comprehension while an error is handled -/
theorem pe_lcH {elt tg iter : Expr} {ifs : List Expr} {sc : Scope} {own : List (Str × Nat)} {pos : Pos} {wi : TI} {g : TG} {tt : TT} {te : TE} (hot : L2H.HotC X) (nd : X.N.Nodup) (hi : PIA X tg iter wi) (ok : BlkOk X.N X.env.scope sc own)
    (hg : ∀ (z : Shared) (H : Hp) (C : Addr) (cl : List (Str × Addr)) (fp : List Addr), HotIn (X.blk z H sc (compEnvC sc cl C X.env) fp) → PG (X.blk z H sc (compEnvC sc cl C X.env) fp) tg g)
    (ht : ∀ (z : Shared) (H : Hp) (C : Addr) (cl : List (Str × Addr)) (fp : List Addr), HotIn (X.blk z H sc (compEnvC sc cl C X.env) fp) → PTs (X.blk z H sc (compEnvC sc cl C X.env) fp) ifs tt)
    (he : ∀ (z : Shared) (H : Hp) (C : Addr) (cl : List (Str × Addr)) (fp : List Addr), HotIn (X.blk z H sc (compEnvC sc cl C X.env) fp) → PE (X.blk z H sc (compEnvC sc cl C X.env) fp) elt te)
    (hs : ∀ x, foldedSetIterable iter X.env x = pure x := by intro _; rfl) : PE X (.ListComp elt [⟨tg, iter, ifs, 0⟩] sc pos) (tLc wi g tt te (own.map (·.2))) := by
  refine ⟨fun pins z0 σ H Q I wish => ?_⟩
  rw [eval_ListComp]
  obtain ⟨p, ⟨hh, fe, de, cx⟩, pm⟩ := hot
  have frees : ∀ y ∈ sc.names, y.2 = .free → ∃ c, X.env.cells.lookup y.1 = some c := fun y hy e => (ok.free y hy e).elim (fun k => I.ok.has _ (.inl k)) fun k => I.ok.has _ (.inr k)
  refine wpAny_comprehension_free rfl hs (closure_ok frees) ok.kind (fun y hy e => by rw [ok.uniq y hy, e]) (thn (hi.run pins z0 σ H _ I wish) fun xv z1 hx => thn hx fun itv z2 got => ?_)
  obtain ⟨it, fp, tn, J, H2, rfl, I2, T, t2, f2, q⟩ := got
  refine wpAny_newObj_type (newEnv_comp ?_) (Nat.zero_le _)
  generalize eD : z2.heap.objs.size = D
  have freeD : H2 D = none := I2.hok.fresh (Nat.le_of_eq eD)
  obtain ⟨W, ⟨m0, w0⟩, turn⟩ := q D freeD
  generalize e3 : ({ z2 with heap := z2.heap.push { cls := .type "list", data := .seq ([] : List Value).toArray } } : Shared) = z3
  have I3 : Inv X pins σ (upd H2 D (.lst [])) z3 := by
    rw [← e3]
    refine I2.laid (t' := z2.toks) (fun b o e => Heap.get?_push_of_some _ e) (Nat.le_of_eq eD) ⟨Nat.zero_le _, [], 0, .nil, ?_⟩
    rw [← eD]
    exact Heap.get?_push_size _ rfl
  have h3 : z3.heap = z2.heap.push { cls := .type "list", data := .seq ([] : List Value).toArray } := by rw [← e3]
  have below : ∀ c ∈ fp, c < z2.heap.objs.size := fun c hc => by
    obtain ⟨ob, e, _⟩ := T.obj _ _ t2 c hc
    exact Heap.lt_size e
  have f3 : ∀ c ∈ fp, FpOk X pins (upd H2 D (.lst [])) c ∧ c < z3.heap.objs.size := fun c hc => by
    have lt := below c hc
    refine ⟨⟨?_, (f2 c hc).2⟩, by rw [h3, Heap.size_push]; exact Nat.lt_succ_of_lt lt⟩
    rw [upd_ne (by rw [← eD]; exact Nat.ne_of_lt lt)]
    exact (f2 c hc).1
  have t3 : tn 0 z3.heap := T.keep _ _ _ t2 fun c _ o e => by rw [h3]; exact Heap.get?_push_of_some _ e
  have I4 := block_start I3 ok nd f3
  -- the error stands where the block begins
  have P3 := I3.pin p (List.mem_append_left _ pm)
  have pstk : p.1 ∉ frs X.stack := fun z => (List.mem_cons.mp (I3.stkSub p.1 z)).elim P3.2.2.1 P3.2.2.2.1
  have pfp : p.1 ∉ fp := fun z => (f3 p.1 z).1.2.2.2.2.2 p (List.mem_append_left _ pm) rfl
  have hotI : HotIn (X.blk z3 (upd H2 D (.lst [])) sc (compEnvC sc (cellsFrom (z3.heap.objs.size + 1) sc.names (cloFrom X.env.cells sc.names [])) z3.heap.objs.size X.env) fp) := fun ps σ' H' z I' => ⟨p.1, hh, p.2, fe, I'.base.keep p.1 p.2 P3.1 P3.2.1 pstk pfp, de, cx⟩
  have pg := hg z3 (upd H2 D (.lst [])) z3.heap.objs.size (cellsFrom (z3.heap.objs.size + 1) sc.names (cloFrom X.env.cells sc.names [])) fp hotI
  have pt := ht z3 (upd H2 D (.lst [])) z3.heap.objs.size (cellsFrom (z3.heap.objs.size + 1) sc.names (cloFrom X.env.cells sc.names [])) fp hotI
  have pe := he z3 (upd H2 D (.lst [])) z3.heap.objs.size (cellsFrom (z3.heap.objs.size + 1) sc.names (cloFrom X.env.cells sc.names [])) fp hotI
  clear hotI
  show codeAny _ _ (.compStart (.ListComp elt [⟨tg, iter, ifs, 0⟩] sc pos) 0 (.ref it) (.ref D) (compEnvC sc (cellsFrom (z3.heap.objs.size + 1) sc.names (cloFrom X.env.cells sc.names [])) z3.heap.objs.size X.env)) (compPost (model X.prog X.w) X.A X.xe none _ (.ref D) z3.heap.objs.size)
    { z3 with heap := pushCells (z3.heap.push { cls := .type "dict", data := .dict #[] }) sc.names }
  have none3 : ∀ c ∈ fp, (upd H2 D (.lst [])) c = none := fun c hc => (f3 c hc).1.1
  generalize ece : compEnvC sc (cellsFrom (z3.heap.objs.size + 1) sc.names (cloFrom X.env.cells sc.names [])) z3.heap.objs.size X.env = ce at I4 pg pt pe ⊢
  have cL : ce.locals = z3.heap.objs.size := by rw [← ece]; rfl
  generalize eH : upd H2 D (.lst []) = H3 at I3 I4 pg pt pe w0 none3 f3 P3
  generalize e4 : ({ z3 with heap := pushCells (z3.heap.push { cls := .type "dict", data := .dict #[] }) sc.names } : Shared) = z4 at I4 ⊢
  have t4 : tn 0 z4.heap := T.keep _ _ _ t3 fun c _ o e => by rw [← e4]; exact pushCells_keeps _ _ _ _ (Heap.get?_push_of_some _ e)
  have hotB : ∀ {σ' : L2.St} {H' : Hp} {z : Shared} {ps : List (Addr × Obj)}, Inv (X.blk z3 H3 sc ce fp) ps σ' H' z → HotAt X.A p.1 z.heap := fun {σ' H' z ps} I' => ⟨hh, p.2, fe, I'.base.keep p.1 p.2 P3.1 P3.2.1 pstk pfp, de, cx⟩
  have stay : ∀ {σ' : L2.St} {H' : Hp} {z : Shared}, Inv (X.blk z3 H3 sc ce fp) [] σ' H' z → (∀ c ∈ fp, H' c = none) → ∀ c ∈ fp, FpOk (X.blk z3 H3 sc ce fp) [] H' c := fun {σ' H' z} I' hn c hc =>
    ⟨hn c hc, (I'.ok.exf c hc).1, I'.ok.exfs c hc, .inl hc, fun y a e => (I'.ok.exf c hc).2 y a e, fun r hr => nomatch (show r ∈ ([] : List (Addr × Obj)) from hr)⟩
  refine codeAny_compStart_list ?_ (T.self X.A 0 _ _ _ t4 ?_)
  all_goals
    refine compLoop_any (fun k z => ∃ n H', Inv (X.blk z3 H3 sc ce fp) [] (wipe σ (own.map (·.2))) H' z ∧ tn n z.heap ∧ (∀ c ∈ fp, H' c = none) ∧ W n k H') ?_ m0 ⟨0, H3, I4, t4, none3, w0⟩
    rintro k z5 ⟨n, H5, I5, t5, none5, w5⟩
    rcases turn n k H5 w5 with ⟨stop, qq⟩ | ⟨go, Nx, dec, step⟩
    · refine thnF (T.done (X.blk z3 H3 sc ce fp) rfl rfl rfl p.1 n [] z5 _ H5 (fun _ _ => False) (hotB I5) I5 (stay I5 none5) t5 stop) fun r z6 got => ?_
      obtain ⟨rfl, I6⟩ := got
      have I7 : Inv X pins σ H5 z6 := I3.call' (ch := fp) I6.os I6.base I6.hok I6.bare fun c hc => ⟨(f3 c hc).1.2.2.2.1, (f3 c hc).1.2.1, (f3 c hc).1.2.2.2.2.1, (f3 c hc).1.2.2.2.2.2⟩
      have nC : H5 z3.heap.objs.size = none := by
        have y : H5 ce.locals = none := I6.free
        rw [cL] at y
        exact y
      obtain ⟨m, hn, _⟩ := I6.loc
      have hn : z6.heap.Ns ce.locals m := hn
      rw [cL] at hn
      obtain ⟨a0, a1, a2, a3, a4, a5⟩ := I3.fpOk (Nat.le_refl _) nC
      exact ⟨m, hn, fun h'' sb => ⟨.ref D, H5, I7.turned (t' := z6.toks) (fun b o nb e => (sb.2 b nb).trans e) a0 a1 a3 a4 a5, rfl, qq⟩⟩
    · refine thnF (T.item (X.blk z3 H3 sc ce fp) rfl rfl rfl n [] z5 _ H5 (fun _ _ => False) I5 (stay I5 none5) t5 go) fun r z6 got => ?_
      obtain ⟨u, rfl, h6⟩ := got
      refine thnF h6 fun _ z7 got => ?_
      obtain ⟨x, H7, I7, r7, y7, t7, none7⟩ := got
      refine thnF (pg.run _ z7 _ H7 x u _ (I7.pinned (stay I7 none7) (T.obj _ _ t7)) r7 (step x H7 y7)) fun _ z8 got => ?_
      obtain ⟨σ8, H8, I8, wiped, q8⟩ := got
      refine thnF (pt.run _ z8 σ8 H8 _ I8 q8) fun b z9 got => ?_
      obtain ⟨H9, I9, q9⟩ := got
      have again : ∀ {z : Shared} {H' : Hp}, Inv (X.blk z3 H3 sc ce fp) ([] ++ pinsAt fp z7.heap) σ8 H' z → Nx H' → ∃ m, m < k ∧ ∃ n H', Inv (X.blk z3 H3 sc ce fp) [] (wipe σ (own.map (·.2))) H' z ∧ tn n z.heap ∧ (∀ c ∈ fp, H' c = none) ∧ W n m H' := fun {z H'} I' nx => by
        obtain ⟨m', lt, w'⟩ := dec H' nx
        have same : ∀ c ∈ fp, ∀ o, z7.heap.get? c = some o → z.heap.get? c = some o ∧ H' c = none := fun c hc o e =>
          let y := I'.pin (c, o) (List.mem_append_right _ (List.mem_append_right _ (mem_pinsAt hc e)))
          ⟨y.1, y.2.1⟩
        refine ⟨m', lt, n + 1, H', (I'.unpinned (pins := [])).weak (by rw [← wiped, wipe_length]) (fun j v e => ?_), T.keep _ _ _ t7 fun c hc o e => (same c hc o e).1, fun c hc => ?_, w'⟩
        · rw [← wiped] at e
          exact (wipe_some e).1
        · obtain ⟨o, e, _⟩ := T.obj _ _ t7 c hc
          exact (same c hc o e).2
      cases b with
      | false =>
        rw [if_neg Bool.false_ne_true] at q9 ⊢
        exact again I9 q9
      | true =>
        rw [if_pos rfl] at q9 ⊢
        refine thnF (pe.run _ z9 σ8 H9 _ I9 q9) fun y z10 got => ?_
        obtain ⟨yv, H10, I10, r10, acc, hD, room, nx⟩ := got
        exact app_ok (X := X.blk z3 H3 sc ce fp) I10 hD room r10 fun z11 I11 => again I11 nx
end
end Fb

namespace Fb
open PySem PySem.Spec PyProof.Rows L2
/-! ### rules whose new heap is left open -/
theorem _root_.L2.PE.weak {X : Cx} {e : Expr} {t t' : TE} (h : PE X e t) (w : ∀ σ H Q, t' σ H Q → t σ H Q) : PE X e t' := ⟨fun pins s σ H Q I q => h.run pins s σ H Q I (w _ _ _ q)⟩
def monoA (t : TA) : TA := fun σ H Q => ∃ Q0 : List V → Hp → Prop, t σ H Q0 ∧ ∀ vs H1, Q0 vs H1 → Q vs H1
theorem _root_.L2.PA.mono {X : Cx} {es : List Expr} {t : TA} (h : PA X es t) : PA X es (monoA t) := ⟨fun pos pins s σ H Q I ⟨Q0, q, m⟩ => thn (h.run pos pins s σ H Q0 I q) fun us s1 ⟨vs, H1, I1, r, q1⟩ => ⟨vs, H1, I1, r, m _ _ q1⟩⟩
def tLstN (t : TA) : TE := fun σ H Q => t σ H fun xs H1 => xs.length ≤ 100000 ∧ ∀ p H', H1 p = none → Same H1 H' → H' p = some (.lst xs) → Q (.ref p) H'
def tTupN (t : TA) : TE := fun σ H Q => t σ H fun xs H1 => xs.length ≤ 100000 ∧ ∀ p H', H1 p = none → Same H1 H' → H' p = some (.tup xs) → Q (.ref p) H'
def tDNewTN : TE := fun _ H Q => ∀ p H', H p = none → Same H H' → H' p = some (.dT []) → Q (.ref p) H'
section
variable {X : Cx} {es : List Expr} {t : TA} {pos : Pos}
theorem pe_lstN (h : PA X es t) : PE X (.List es pos) (tLstN t) := (pe_lst h.mono).weak fun σ H Q q => ⟨_, q, fun vs H1 ⟨l, q1⟩ => ⟨szl l, fun p hp => q1 p _ hp (same_new hp) upd_same⟩⟩
theorem pe_tupN {x1} (h : PA X es t) : PE X (.Tuple es x1 pos) (tTupN t) := (pe_tup h.mono).weak fun σ H Q q => ⟨_, q, fun vs H1 ⟨l, q1⟩ => ⟨szl l, fun p hp => q1 p _ hp (same_new hp) upd_same⟩⟩
theorem pe_dnewTN : PE X (.Dict [] [] pos) tDNewTN := pe_dnewT.weak fun σ H Q q => fun p hp => q p _ hp (same_new hp) upd_same
end
def rCatN (K : PySem.W.Frag) : R2 := fun x y H Q => ∃ l b xs zs, x = .ref l ∧ y = .ref b ∧ H l = some (.lst xs) ∧ H b = some (.lst zs) ∧ xs.length + zs.length ≤ 100000 ∧ ∀ p H', H p = none → Same H H' → H' p = some (.lst (xs ++ zs)) → Q (.ref p) H'
def rRepN : R2 := fun x y H Q => ∃ l k xs, x = .ref l ∧ y = .int k ∧ H l = some (.lst xs) ∧ -1000000 ≤ k ∧ k < 1000000 ∧ xs.length * k.toNat ≤ 100000 ∧ ∀ p H', H p = none → Same H H' → H' p = some (.lst (List.replicate k.toNat xs).flatten) → Q (.ref p) H'
def rSlLN (K : PySem.W.Frag) : V → Option Int → Option Int → Hp → VK → Prop := fun x lo hi H Q => ∃ a xs, x = .ref a ∧ SqL K H a xs ∧ ∀ p H', H p = none → Same H H' → H' p = some (.lst (cutV xs lo hi)) → Q (.ref p) H'
def rListOfN (K : PySem.W.Frag) : List V → Hp → VK → Prop := fun xs H Q => ∃ p ys, xs = [.ref p] ∧ (SqL K H p ys ∨ SqT K H p ys) ∧ ∀ l H', H l = none → Same H H' → H' l = some (.lst ys) → Q (.ref l) H'
def rAppendN : V → List V → Hp → VK → Prop := fun x vs H Q => ∃ l xs y, x = .ref l ∧ vs = [y] ∧ H l = some (.lst xs) ∧ xs.length < 100000 ∧ ∀ H', SameB l H H' → H' l = some (.lst (xs ++ [y])) → Q .non H'
def rExtendN : V → List V → Hp → VK → Prop := fun x vs H Q => ∃ l b xs zs, x = .ref l ∧ vs = [.ref b] ∧ H l = some (.lst xs) ∧ H b = some (.lst zs) ∧ xs.length + zs.length ≤ 100000 ∧ ∀ H', SameB l H H' → H' l = some (.lst (xs ++ zs)) → Q .non H'
def rClearN : V → List V → Hp → VK → Prop := fun x vs H Q => ∃ l xs, x = .ref l ∧ vs = [] ∧ H l = some (.lst xs) ∧ ∀ H', SameB l H H' → H' l = some (.lst []) → Q .non H'
theorem sameB_upd {H : Hp} {p : Addr} {o : HO} : SameB p H (upd H p o) := fun b u nb e => by rw [upd_ne nb]; exact e
def rSetLN : TSet := fun o i v H Q => ∃ p xs k j, o = .ref p ∧ i = .int k ∧ H p = some (.lst xs) ∧ ixN xs.length k = some j ∧ ∀ H', SameB p H H' → H' p = some (.lst (xs.set j v)) → Q H'
section
variable {X : Cx}
theorem op_catN : OpR X (binaryOp .Add) (rCatN X.K) := fun pins s σ H x y v u Q I rx ry ⟨l, b, xs, zs, e1, e2, h1, h2, hl, q⟩ => op_cat pins s σ H x y v u Q I rx ry ⟨l, b, xs, zs, e1, e2, h1, h2, szl hl, fun p hp => q p _ hp (same_new hp) upd_same⟩
theorem op_repN : OpR X (binaryOp .Mult) rRepN := fun pins s σ H x y v u Q I rx ry ⟨l, k, xs, e1, e2, h1, b1, b2, hl, q⟩ => op_rep pins s σ H x y v u Q I rx ry ⟨l, k, xs, e1, e2, h1, by omega, by omega, szl hl, fun p hp => q p _ hp (same_new hp) upd_same⟩
theorem sl_listN : SlR X (rSlLN X.K) := fun pins s σ H x v vl vu lo hi sl Q I rx hs pl pu ⟨a, xs, e, hx, q⟩ => sl_list pins s σ H x v vl vu lo hi sl Q I rx hs pl pu ⟨a, xs, e, hx, fun p hp => q p _ hp (same_new hp) upd_same⟩
theorem call_list_ofN : CallR X (.type "list") (rListOfN X.K) := fun pins s σ H xs us Q I r ⟨p, ys, e, hx, q⟩ => call_list_of pins s σ H xs us Q I r ⟨p, ys, e, hx, fun p hp => q p _ hp (same_new hp) upd_same⟩
theorem mt_appendN : MtM X "list.append" rAppendN := fun pins s σ H x vs v us Q I rx rv ⟨l, xs, y, e1, e2, h, hl, q⟩ => mt_append pins s σ H x vs v us Q I rx rv ⟨l, xs, y, e1, e2, h, szlt hl, q _ sameB_upd upd_same⟩
theorem mt_extendN : MtM X "list.extend" rExtendN := fun pins s σ H x vs v us Q I rx rv ⟨l, b, xs, zs, e1, e2, h, h2, hl, q⟩ => mt_extend pins s σ H x vs v us Q I rx rv ⟨l, b, xs, zs, e1, e2, h, h2, szl hl, q _ sameB_upd upd_same⟩
theorem mt_clearN : MtM X "list.clear" rClearN := fun pins s σ H x vs v us Q I rx rv ⟨l, xs, e1, e2, h, q⟩ => mt_clear pins s σ H x vs v us Q I rx rv ⟨l, xs, e1, e2, h, q _ sameB_upd upd_same⟩
theorem set_listN : PSet X rSetLN := fun pins s σ H o i v ov iv vv Q I ro ri rv ⟨p, xs, k, j, e1, e2, h, hj, q⟩ => set_list pins s σ H o i v ov iv vv Q I ro ri rv ⟨p, xs, k, j, e1, e2, h, hj, q _ sameB_upd upd_same⟩
end
/-! ### sets -/
def rSet0N (P : Program) (w : World) : List V → Hp → VK → Prop := fun xs H Q => xs = [] ∧ ∀ p H', H p = none → Same H H' → H' p = some (SetK P w p (fun _ => false) 0) → Q (.ref p) H'
def rSAddN (P : Program) (w : World) : V → List V → Hp → VK → Prop := fun x xs H Q => ∃ (a : Addr) (k : Key) (S : Key → Bool) (n : Nat), x = V.ref a ∧ xs = [kV k] ∧ H a = some (SetK P w a S n) ∧ n + 1 < 4000 ∧
  ∀ H', SameB a H H' → H' a = some (SetK P w a (fun j => S j || decide (j = k)) (if S k = true then n else n + 1)) → Q .non H'
def tSAddN (P : Program) (w : World) (to : TE) (t : TA) : TE := fun σ H Q => to σ H fun x H1 => (∃ a S n, x = V.ref a ∧ H1 a = some (SetK P w a S n)) ∧ t σ H1 fun xs H2 => rSAddN P w x xs H2 Q
section
variable {X : Cx}
theorem cr_set0N : CallR X (.type "set") (rSet0N X.prog X.w) := fun pins s σ H xs us Q I r ⟨e, q⟩ => cr_set0K pins s σ H xs us Q I r ⟨e, fun p hp => q p _ hp (same_new hp) upd_same⟩
theorem pe_saddN {o e : Expr} {es : List Expr} {to : TE} {t : TA} {apos cpos : Pos} (h : ∀ t', PA X (e :: es) t' → PE X (.Call (.Attribute o "add" apos) (e :: es) [] cpos) (tSAddK X.prog X.w to t')) (hm : ∀ t', PA X (e :: es) t' → PE X o to) (ha : PA X (e :: es) t) (mono : ∀ σ H (Q Q' : VK), (∀ v H1, Q v H1 → Q' v H1) → to σ H Q → to σ H Q') : PE X (.Call (.Attribute o "add" apos) (e :: es) [] cpos) (tSAddN X.prog X.w to t) :=
  (h _ ha.mono).weak fun σ H Q q => mono σ H _ _ (fun v H1 ⟨c, q1⟩ => ⟨c, _, q1, fun vs H2 ⟨a, k, S, n, e1, e2, e3, b, q2⟩ => ⟨a, k, S, n, e1, e2, e3, Nat.lt_trans b (by decide), q2 _ sameB_upd upd_same⟩⟩) q
theorem mono_var {i : Nat} : ∀ σ H (Q Q' : VK), (∀ v H1, Q v H1 → Q' v H1) → tVar i σ H Q → tVar i σ H Q' := fun σ H Q Q' h ⟨v, e, q⟩ => ⟨v, e, h _ _ q⟩
end
/-! ### what is never come to -/
theorem pss_no {X : Cx} {st : List Stmt} : PSs X st (fun _ _ _ => False) := ⟨fun _ _ _ _ _ _ h => h.elim⟩
def spNo : Sp := fun _ _ _ _ => False
theorem no_ok {Pg : Program} {w : World} {K : PySem.W.Frag} {mg : Str → Option Value} {base : Heap} {f : Addr} {fd : FuncData} {ps : List Str} : FnOk Pg w K mg base (L2N.CX Pg w) 1 f fd ps spNo := ⟨fun _ _ _ _ h => h.elim, fun _ _ _ _ _ _ _ _ _ _ _ _ _ h => h.elim⟩
/-! ### what is kept -/
theorem same_mutB {H0 H H' : Hp} {D : Addr} (s : Same H0 H) (n : H0 D = none) (b : SameB D H H') : Same H0 H' := fun c o e => b c o (ne_of_none e n) (s c o e)
theorem SameB.refl {H : Hp} {D : Addr} : SameB D H H := fun _ _ _ e => e
theorem SameB.trans {H H1 H2 : Hp} {D : Addr} (a : SameB D H H1) (b : SameB D H1 H2) : SameB D H H2 := fun c o n e => b c o n (a c o n e)
theorem SameB.same {H H1 H2 : Hp} {D : Addr} (a : SameB D H H1) (b : Same H1 H2) : SameB D H H2 := fun c o n e => b c o (a c o n e)
theorem Same.b {H H1 H2 : Hp} {D : Addr} (a : Same H H1) (b : SameB D H1 H2) : SameB D H H2 := fun c o n e => b c o n (a c o e)
theorem ne_lt {H : Hp} {l t : Addr} {xs ys : List V} (h : H l = some (.lst xs)) (g : H t = some (.tup ys)) : t ≠ l := ne_of g h (by intro z; cases z)
section
variable {K : PySem.W.Frag} {H H' : Hp} {D l : Addr} {xs ys : List V}
/-- a list changes: tuples stay -/
theorem keep_t (s : SameB D H H') (hD : H D = some (.lst ys)) (h : SqT K H l xs) : SqT K H' l xs := by
  rcases h with (h | ⟨ob, h⟩) | h
  · exact .inl (.inl (s _ _ (ne_lt hD h) h))
  · exact .inl (.inr ⟨ob, s _ _ (ne_of h hD (by intro z; cases z)) h⟩)
  · exact .inr h
/-- a list changes: another list stays -/
theorem keep_l (s : SameB D H H') (n : l ≠ D) (h : SqL K H l xs) : SqL K H' l xs := by
  rcases h with (h | ⟨ob, h⟩) | h
  · exact .inl (.inl (s _ _ n h))
  · exact .inl (.inr ⟨ob, s _ _ n h⟩)
  · exact .inr h
theorem keep_lt {o : HO} (s : SameB D H H') (hD : H D = some o) (n1 : ∀ xs, o ≠ .lst xs) (n2 : ∀ ob u, o ≠ .frz ob u) (h : SqL K H l xs) : SqL K H' l xs := by
  rcases h with (h | ⟨ob, h⟩) | h
  · exact .inl (.inl (s _ _ (ne_of h hD fun e => n1 _ e.symm) h))
  · exact .inl (.inr ⟨ob, s _ _ (ne_of h hD fun e => n2 _ _ e.symm) h⟩)
  · exact .inr h
theorem keep_rows {ts : List Addr} {rs : List Row} (s : SameB D H H') (hD : H D = some (.lst ys)) (h : Paired (IsRow H) ts rs) : Paired (IsRow H') ts rs :=
  Paired.mapP h fun _ _ e => s _ _ (ne_lt hD e) e
theorem keep_tar {C p d : Addr} {rs : List Row} (s : SameB D H H') (hD : H D = some (.lst ys)) (h : TarAt C H p d rs) : TarAt C H' p d rs := h.keep fun b o hb e => by
  obtain ⟨dx, hob⟩ := h.ob
  rcases hb with rfl | rfl
  · exact s _ _ (ne_of hob hD (by intro z; cases z)) e
  · exact s _ _ (ne_of h.dc hD (by intro z; cases z)) e
theorem keep_tab {P : Addr} (s : SameB D H H') (hD : H D = some (.lst ys)) (h : H P = some (TabO P)) : H' P = some (TabO P) := s _ _ (ne_of h hD (by intro z; cases z)) h
theorem keep_dT {d : Addr} {kvs : List (List Key × V)} (s : SameB D H H') (hD : H D = some (.lst ys)) (h : H d = some (.dT kvs)) : H' d = some (.dT kvs) := s _ _ (ne_of h hD (by intro z; cases z)) h
end
theorem ix_tupS {X : Cx} {K : PySem.W.Frag} (hK : X.K = K := by rfl) : IxR X (rIxT K) := hK ▸ ix_tup
theorem roomE {j k : Nat} {A : Around} {v : Option Value} (r : Room k A) (h : j ≤ k) : L2H.RoomH j (A.mark v) := ⟨(r.mono h).dp, (r.mono h).un⟩
theorem hotU {k : Nat} {A : Around} (r : L2H.RoomH k A) : A.units + 64 < cLine := by have := r.un; omega
theorem cutV_take {xs : List V} {k : Nat} (h : k ≤ xs.length) : cutV xs none (some (k : Int)) = xs.take k := by
  unfold cutV
  rw [HT.sIx_none, HT.sIx_nat, List.drop_zero, Nat.min_eq_left h, Nat.sub_zero]
theorem cutV_drop {xs : List V} {k : Nat} (h : k ≤ xs.length) : cutV xs (some (k : Int)) none = xs.drop k := by
  unfold cutV
  rw [HT.sIx_none, HT.sIx_nat, Nat.min_eq_left h]
  exact List.take_of_length_le (by rw [List.length_drop]; exact Nat.le_refl _)
theorem cutV_mid {xs : List V} {i j : Nat} (hij : i ≤ j) (h : j ≤ xs.length) : cutV xs (some (i : Int)) (some (j : Int)) = (xs.take j).drop i := by
  unfold cutV
  rw [HT.sIx_nat, HT.sIx_nat, Nat.min_eq_left (show i ≤ xs.length by omega), Nat.min_eq_left h, List.drop_take]
/-! ### lists by parts -/
theorem paired_at {α β : Type} {R : α → β → Prop} : ∀ {xs : List α} {ys : List β} {i : Nat} {x : α}, Paired R xs ys → xs[i]? = some x → ∃ y, ys[i]? = some y ∧ R x y
  | _, _, _, _, .nil, h => by simp at h
  | _, _, 0, _, .cons r _, h => by
    simp only [List.getElem?_cons_zero, Option.some.injEq] at h
    subst h
    exact ⟨_, rfl, r⟩
  | _, _, i + 1, x, .cons _ t, h => paired_at (i := i) (x := x) t (by simpa using h)
theorem paired_app {α β : Type} {R : α → β → Prop} : ∀ {xs xs' : List α} {ys ys' : List β}, Paired R xs ys → Paired R xs' ys' → Paired R (xs ++ xs') (ys ++ ys')
  | _, _, _, _, .nil, h => h
  | _, _, _, _, .cons r t, h => .cons r (paired_app t h)
theorem paired_take {α β : Type} {R : α → β → Prop} : ∀ {xs : List α} {ys : List β} (k : Nat), Paired R xs ys → Paired R (xs.take k) (ys.take k)
  | _, _, 0, h => by rw [List.take_zero, List.take_zero]; exact .nil
  | _, _, k + 1, .nil => by rw [List.take_nil, List.take_nil]; exact .nil
  | _, _, k + 1, .cons r t => .cons r (paired_take k t)
theorem paired_drop {α β : Type} {R : α → β → Prop} : ∀ {xs : List α} {ys : List β} (k : Nat), Paired R xs ys → Paired R (xs.drop k) (ys.drop k)
  | _, _, 0, h => h
  | _, _, k + 1, .nil => by rw [List.drop_nil, List.drop_nil]; exact .nil
  | _, _, k + 1, .cons r t => paired_drop k t
theorem good_take {rs : List Row} (g : GoodRows rs) (k : Nat) : GoodRows (rs.take k) := by
  refine ⟨fun r hr => g.ok r (List.mem_of_mem_take hr), ?_⟩
  have h := g.nd
  rw [List.map_take]
  exact h.sublist (List.take_sublist _ _)
/-! ### rows: what stands in them -/
def lookR (rs : List Row) (x y : Str) : V := (valV (rs.map rowK) [.inr x, .inr y]).getD .non
def hitR (rs : List Row) (x y : Str) (i : Nat) : Bool := match rs[i]? with
  | some r => decide (r.1 = x) && decide (r.2.1 = y)
  | none => false
theorem hitR_at {rs : List Row} {x y : Str} {i : Nat} {r : Row} (h : rs[i]? = some r) : hitR rs x y i = (decide (r.1 = x) && decide (r.2.1 = y)) := by unfold hitR; rw [h]
theorem told_iff {rs : List Row} {x y : Str} : isTold rs (.str x) (.str y) = true ↔ (x, y) ∈ rs.map fun r => (r.1, r.2.1) := by
  have e : isTold rs (.str x) (.str y) = (valV (rs.map fun r => (wayK r.1 r.2.1, V.int r.2.2)) (wayK x y)).isSome := rfl
  rw [e]
  constructor
  · intro h
    exact Classical.byContradiction fun n => by rw [way_none (fun r => V.int r.2.2) n] at h; cases h
  · intro h
    cases e2 : valV (rs.map fun r => (wayK r.1 r.2.1, V.int r.2.2)) (wayK x y) with
    | none => exact absurd h (way_new (fun r => V.int r.2.2) e2)
    | some v => rfl
theorem told_pick {rs : List Row} {x y : Str} {f : Nat → V} : (pick (hitR rs x y) f rs.length).isEmpty = !isTold rs (.str x) (.str y) := by
  cases h : isTold rs (.str x) (.str y) with
  | true =>
    obtain ⟨r, hr, e⟩ := List.mem_map.mp (told_iff.mp h)
    obtain ⟨i, hi⟩ := List.getElem?_of_mem hr
    cases h2 : (pick (hitR rs x y) f rs.length).isEmpty with
    | false => rfl
    | true =>
      have h3 := pick_nil.mp h2 i (List.getElem?_eq_some_iff.mp hi).1
      rw [hitR_at hi, decide_eq_true (Prod.mk.inj e).1, decide_eq_true (Prod.mk.inj e).2] at h3
      cases h3
  | false =>
    refine pick_nil.mpr fun i hi => ?_
    have e1 : rs[i]? = some rs[i] := List.getElem?_eq_getElem hi
    rw [hitR_at e1]
    cases h2 : (decide (rs[i].1 = x) && decide (rs[i].2.1 = y)) with
    | false => rfl
    | true =>
      simp only [Bool.and_eq_true, decide_eq_true_eq] at h2
      have := told_iff.mpr (List.mem_map.mpr ⟨rs[i], List.getElem_mem hi, by rw [h2.1, h2.2]⟩)
      rw [h] at this; cases this
theorem uniq_way : ∀ {rs : List Row} {r r' : Row}, (rs.map fun r => (r.1, r.2.1)).Nodup → r ∈ rs → r' ∈ rs → (r.1, r.2.1) = (r'.1, r'.2.1) → r = r'
  | [], _, _, _, h, _, _ => by cases h
  | q :: rs, r, r', nd, h, h', e => by
    rw [List.map_cons] at nd
    have nd1 := List.nodup_cons.mp nd
    rcases List.mem_cons.mp h with h1 | h1
    · rcases List.mem_cons.mp h' with h2 | h2
      · rw [h1, h2]
      · exact absurd (List.mem_map.mpr ⟨r', h2, by rw [← e, h1]⟩) nd1.1
    · rcases List.mem_cons.mp h' with h2 | h2
      · exact absurd (List.mem_map.mpr ⟨r, h1, by rw [e, h2]⟩) nd1.1
      · exact uniq_way nd1.2 h1 h2 e
theorem look_row {rs : List Row} {r : Row} (g : GoodRows rs) (h : r ∈ rs) : lookR rs r.1 r.2.1 = .int r.2.2 := by
  unfold lookR
  cases e : valV (rs.map rowK) [.inr r.1, .inr r.2.1] with
  | none => exact absurd (List.mem_map.mpr ⟨r, h, rfl⟩) (way_new (fun r => V.int r.2.2) e)
  | some v =>
    obtain ⟨r', hr', e2⟩ := List.mem_map.mp (valV_some e)
    have e3 := Prod.mk.inj e2
    have e4 := wayK_inj (show wayK r'.1 r'.2.1 = wayK r.1 r.2.1 from e3.1)
    have e5 := uniq_way g.nd hr' h (by rw [e4.1, e4.2])
    rw [e5] at e3
    rw [← e3.2]; rfl
theorem look_none {rs : List Row} {x y : Str} (h : (x, y) ∉ rs.map fun r => (r.1, r.2.1)) : lookR rs x y = .non := by
  unfold lookR
  rw [show valV (rs.map rowK) [Sum.inr x, Sum.inr y] = none from way_none (fun r => .int r.2.2) h]
  rfl
/-- the price that the rows tell -/
def pri (rs : List Row) (x y : Str) : Option Int := match lookR rs x y with
  | .int n => some n
  | _ => none
def optV : Option Int → V
  | some n => .int n
  | none => .non
theorem look_pri {rs : List Row} {x y : Str} : lookR rs x y = optV (pri rs x y) := by
  have h : lookR rs x y = .non ∨ ∃ n, lookR rs x y = .int n := by
    unfold lookR
    cases e : valV (rs.map rowK) [.inr x, .inr y] with
    | none => exact .inl rfl
    | some v =>
      obtain ⟨r, _, e2⟩ := List.mem_map.mp (valV_some e)
      exact .inr ⟨r.2.2, by rw [← (Prod.mk.inj e2).2]; rfl⟩
  unfold pri
  rcases h with h | ⟨n, h⟩ <;> rw [h] <;> rfl
theorem pri_val {rs : List Row} {x y : Str} {n : Int} (h : pri rs x y = some n) : valV (rs.map rowK) [.inr x, .inr y] = some (.int n) := by
  have e := look_pri (rs := rs) (x := x) (y := y)
  rw [h] at e
  unfold lookR at e
  cases q : valV (rs.map rowK) [.inr x, .inr y] with
  | none => rw [q] at e; cases e
  | some v => rw [q] at e; exact congrArg some e
theorem pri_non {rs : List Row} {x y : Str} (h : pri rs x y = none) : valV (rs.map rowK) [.inr x, .inr y] = none := by
  have e := look_pri (rs := rs) (x := x) (y := y)
  rw [h] at e
  unfold lookR at e
  cases q : valV (rs.map rowK) [.inr x, .inr y] with
  | none => rfl
  | some v =>
    rw [q] at e
    obtain ⟨r, _, e2⟩ := List.mem_map.mp (valV_some q)
    have e3 : v = .non := e
    rw [← (Prod.mk.inj e2).2] at e3
    cases e3
theorem pri_row {rs : List Row} {r : Row} (g : GoodRows rs) (h : r ∈ rs) : pri rs r.1 r.2.1 = some r.2.2 := by
  unfold pri
  rw [look_row g h]
theorem pri_mem {rs : List Row} {x y : Str} {n : Int} (h : pri rs x y = some n) : (x, y, n) ∈ rs := by
  obtain ⟨r, hr, e⟩ := List.mem_map.mp (valV_some (pri_val h))
  have e1 := wayK_inj (show wayK r.1 r.2.1 = wayK x y from (Prod.mk.inj e).1)
  have e2 : r.2.2 = n := V.int.inj (Prod.mk.inj e).2
  have e3 : r = (x, y, n) := by rw [← e1.1, ← e1.2, ← e2]
  rw [← e3]; exact hr
end Fb

namespace Fb
open PySem PySem.Spec PyProof.Rows L2
local macro_rules | `(tactic| walk_at "s") => `(tactic| repeat (first | refine ⟨_, rfl, ?_⟩ | refine ⟨_, _, rfl, rfl, ?_⟩ | refine ⟨_, _, rfl, Or.inl (by assumption), ?_⟩ | refine ⟨rfl, ?_⟩ | refine ⟨(by decide : (0 : Int) < _), ?_⟩ | refine ⟨⟨by decide, by decide⟩, ?_⟩ | refine ⟨_, _, _, rfl, (by assumption), (by first | decide | omega), ?_⟩))
def topS (i : Nat) : Stmt := PySem.Challenge.pw_farebreak_k11_bills.main.body.getD i (.Pass ⟨0, 0, 0, 0⟩)
structure Txt (K : PySem.W.Frag) (mg : Str → Option Value) (a : Ads) : Prop where
  n_len : mg "len" = none
  n_int : mg "int" = none
  n_str : mg "str" = none
  n_list : mg "list" = none
  n_tuple : mg "tuple" = none
  n_dict : mg "dict" = none
  n_isinstance : mg "isinstance" = none
  n_range : mg "range" = none
  n_enumerate : mg "enumerate" = none
  n_all : mg "all" = none
  n_any : mg "any" = none
  n_sum : mg "sum" = none
  n_min : mg "min" = none
  n_max : mg "max" = none
  n_abs : mg "abs" = none
  n_sorted : mg "sorted" = none
  n_zip : mg "zip" = none
  n_reversed : mg "reversed" = none
  n_bool : mg "bool" = none
  n_ValueError : mg "ValueError" = none
  n_set : mg "set" = none
  c_LONGEST_PLACE : ∃ t, mg "LONGEST_PLACE" = some (.int 12 t)
  c_HIGHEST_PRICE : ∃ t, mg "HIGHEST_PRICE" = some (.int 1000000000000 t)
  c_MOST_ROWS : ∃ t, mg "MOST_ROWS" = some (.int 160 t)
  c_FEWEST_PLACES : ∃ t, mg "FEWEST_PLACES" = some (.int 2 t)
  c_MOST_PLACES : ∃ t, mg "MOST_PLACES" = some (.int 40 t)
  c_MOST_FIGURES : ∃ t, mg "MOST_FIGURES" = some (.int 13 t)
  x_FareError : ExK K mg "FareError" a.FareError veMro
  x_BadPlace : ExK K mg "BadPlace" a.BadPlace veMro
  x_BadPrice : ExK K mg "BadPrice" a.BadPrice veMro
  x_TwiceTold : ExK K mg "TwiceTold" a.TwiceTold veMro
  x_TooMany : ExK K mg "TooMany" a.TooMany veMro
  x_BadJourney : ExK K mg "BadJourney" a.BadJourney veMro
  x_NoParting : ExK K mg "NoParting" a.NoParting veMro
  x_BadLine : ExK K mg "BadLine" a.BadLine veMro
  e_BadPlace : PySem.W.exmOne K (.ref a.BadPlace) (.ref a.FareError) = some true
  i_BadPlace : ExcC K a.BadPlace
  v_BadPlace : PySem.W.kitOne K (.ref a.BadPlace) (.type "ValueError") = some true
  k_BadPlace_BadPlace : PySem.W.kitOne K (.ref a.BadPlace) (.ref a.BadPlace) = some true
  e_BadPrice : PySem.W.exmOne K (.ref a.BadPrice) (.ref a.FareError) = some true
  i_BadPrice : ExcC K a.BadPrice
  v_BadPrice : PySem.W.kitOne K (.ref a.BadPrice) (.type "ValueError") = some true
  k_BadPrice_BadPrice : PySem.W.kitOne K (.ref a.BadPrice) (.ref a.BadPrice) = some true
  e_TwiceTold : PySem.W.exmOne K (.ref a.TwiceTold) (.ref a.FareError) = some true
  i_TwiceTold : ExcC K a.TwiceTold
  v_TwiceTold : PySem.W.kitOne K (.ref a.TwiceTold) (.type "ValueError") = some true
  k_TwiceTold_TwiceTold : PySem.W.kitOne K (.ref a.TwiceTold) (.ref a.TwiceTold) = some true
  e_TooMany : PySem.W.exmOne K (.ref a.TooMany) (.ref a.FareError) = some true
  i_TooMany : ExcC K a.TooMany
  v_TooMany : PySem.W.kitOne K (.ref a.TooMany) (.type "ValueError") = some true
  k_TooMany_TooMany : PySem.W.kitOne K (.ref a.TooMany) (.ref a.TooMany) = some true
  e_BadJourney : PySem.W.exmOne K (.ref a.BadJourney) (.ref a.FareError) = some true
  i_BadJourney : ExcC K a.BadJourney
  v_BadJourney : PySem.W.kitOne K (.ref a.BadJourney) (.type "ValueError") = some true
  k_BadJourney_BadJourney : PySem.W.kitOne K (.ref a.BadJourney) (.ref a.BadJourney) = some true
  e_NoParting : PySem.W.exmOne K (.ref a.NoParting) (.ref a.FareError) = some true
  i_NoParting : ExcC K a.NoParting
  v_NoParting : PySem.W.kitOne K (.ref a.NoParting) (.type "ValueError") = some true
  k_NoParting_NoParting : PySem.W.kitOne K (.ref a.NoParting) (.ref a.NoParting) = some true
  e_BadLine : PySem.W.exmOne K (.ref a.BadLine) (.ref a.FareError) = some true
  i_BadLine : ExcC K a.BadLine
  v_BadLine : PySem.W.kitOne K (.ref a.BadLine) (.type "ValueError") = some true
  k_BadLine_BadLine : PySem.W.kitOne K (.ref a.BadLine) (.ref a.BadLine) = some true
  m_NoParting : PySem.W.exmOne K (.ref a.NoParting) (.ref a.NoParting) = some true
  cl_Tariff : Cls K a.Tariff
  na_prices : NoAttr K a.Tariff "_prices"
/-! ### is_place, is_price -/
def spIsPlace (P : Addr) : Sp := fun vs H Q _ => ∃ v : V, vs = [v] ∧ ask v ∧ H P = some (TabO P) ∧ Q (.bl (isP v)) H
def spIsPrice : Sp := fun vs H Q _ => ∃ v : V, vs = [v] ∧ ask v ∧ Q (.bl (isC v)) H
abbrev s_is_place : Stmt := topS 13
abbrev N_is_place : List Str := ["thing"]
theorem sc_is_place : FnScope N_is_place ["thing"] (defScope s_is_place) := ⟨rfl, rfl, rfl, by decide +kernel, rfl, by decide +kernel, by decide +kernel⟩
abbrev s_is_price : Stmt := topS 14
abbrev N_is_price : List Str := ["thing"]
theorem sc_is_price : FnScope N_is_price ["thing"] (defScope s_is_price) := ⟨rfl, rfl, rfl, by decide +kernel, rfl, by decide +kernel, by decide +kernel⟩
section
variable {Pg : Program} {w : World} {K : PySem.W.Frag} {mg : Str → Option Value} {base : Heap} {a : Ads}
theorem ok_is_place {f c P : Addr} {fd : FuncData} (F : FunC K "is_place" "is_place" s_is_place f fd c) (T : Txt K mg a) (TB : GxR.TabB base mg c P) : FnOk Pg w K mg base (L2N.CX Pg w) 2 f fd ["thing"] (spIsPlace P) := by
  refine F.okN sc_is_place (fun vs H Q E h => ?_) (fun A outer s H vs Q E hr h => ?_)
  · obtain ⟨c, rfl, _⟩ := h
    rfl
  · obtain ⟨v, rfl, ha, hP, q⟩ := h
    refine ⟨_, (pss_cons (ps_if (pt_not (pt_val (pe_callB call_isi (by rfl) T.n_isinstance (by decide +kernel) (pa_cons (pv 0) (pa_cons (pe_bty (n := "str") T.n_str (by decide +kernel)) pa_nil))))) (pss_one (ps_ret pe_bl)) pss_nil)
      (pss_cons (ps_if (pt_not (pt_chain op_le op_le pe_int (pe_callB call_len_str (by rfl) T.n_len (by decide +kernel) (pa_cons (pv 0) pa_nil)) (pe_gint T.c_LONGEST_PLACE rfl))) (pss_one (ps_ret pe_bl)) pss_nil)
      (pss_one (ps_ret (pe_allP (i := 0) (GxR.pe_allS hr rfl T.n_all (by decide +kernel) TB rfl ⟨rfl, rfl, by decide +kernel, rfl, rfl, nofree_ex (by decide +kernel)⟩ (pv 0) (elt_btw rfl rfl) (fun _ => rfl))))))), ?_⟩
    rcases ha with rfl | ⟨b, rfl⟩ | ⟨i, rfl⟩ | ⟨z, rfl, hz⟩
    · walk_at "s"
      exact ⟨_, _, _, _, false, rfl, .ty "str", .base .non, kit_ty (by decide +kernel), _, rfl, q⟩
    · walk_at "s"
      exact ⟨_, _, _, _, false, rfl, .ty "str", .base (.bl b), kit_ty (by decide +kernel), _, rfl, q⟩
    · walk_at "s"
      exact ⟨_, _, _, _, false, rfl, .ty "str", .base (.int i), kit_ty (by decide +kernel), _, rfl, q⟩
    · walk_at "s"
      refine ⟨_, _, _, _, true, rfl, .ty "str", .base (.str z), kit_ty (by decide +kernel), _, rfl, ?_⟩
      walk_at "s"
      refine ⟨szl (Nat.le_trans hz.1 (by decide)), ?_⟩
      walk_at "s"
      refine ifD (fun c1 => ?_) (fun c1 => ?_)
      · walk_at "s"
        refine ifND (fun c2 => ?_) (fun c2 => ?_)
        · rw [isP_long c2] at q
          exact q
        · refine ⟨z, rfl, hP, ?_⟩
          rw [isP_mid c1 c2] at q
          rw [show (fun c => !decide (([c] : List Nat) < (Str.ofString "a").cps.toList) && !decide ((Str.ofString "z").cps.toList < ([c] : List Nat))) = letter from funext btw_letter]
          exact q
      · walk_at "s"
        refine ifT1 ?_
        rw [isP_short c1] at q
        exact q
theorem ok_is_price {f : Addr} {fd : FuncData} (F : Fun K "is_price" "is_price" s_is_price f fd) (T : Txt K mg a) : FnOk Pg w K mg base (L2N.CX Pg w) 1 f fd ["thing"] spIsPrice := by
  refine F.okN sc_is_price (fun vs H Q E h => ?_) (fun cdv A outer s H vs Q E hr h => ?_)
  · obtain ⟨c, rfl, _⟩ := h
    rfl
  · obtain ⟨v, rfl, ha, q⟩ := h
    refine ⟨_, (pss_cons (ps_if (PW.pt (pw_or (pt_val (pe_callB call_isi (by rfl) T.n_isinstance (by decide +kernel) (pa_cons (pv 0) (pa_cons (pe_bty (n := "bool") T.n_bool (by decide +kernel)) pa_nil)))) (pw_or1 (pt_not (pt_val (pe_callB call_isi (by rfl) T.n_isinstance (by decide +kernel) (pa_cons (pv 0) (pa_cons (pe_bty (n := "int") T.n_int (by decide +kernel)) pa_nil)))))))) (pss_one (ps_ret pe_bl)) pss_nil)
      (pss_one (ps_ret (pe_chain op_le op_le pe_int (pv 0) (pe_gint T.c_HIGHEST_PRICE rfl))))), ?_⟩
    rcases ha with rfl | ⟨b, rfl⟩ | ⟨i, rfl⟩ | ⟨z, rfl, hz⟩
    · walk_at "s"
      refine ⟨_, _, _, _, false, rfl, .ty "bool", .base .non, kit_ty (by decide +kernel), _, rfl, ?_⟩
      walk_at "s"
      exact ⟨_, _, _, _, false, rfl, .ty "int", .base .non, kit_ty (by decide +kernel), _, rfl, q⟩
    · walk_at "s"
      exact ⟨_, _, _, _, true, rfl, .ty "bool", .base (.bl b), kit_ty (by decide +kernel), _, rfl, q⟩
    · walk_at "s"
      refine ⟨_, _, _, _, false, rfl, .ty "bool", .base (.int i), kit_ty (by decide +kernel), _, rfl, ?_⟩
      walk_at "s"
      refine ⟨_, _, _, _, true, rfl, .ty "int", .base (.int i), kit_ty (by decide +kernel), _, rfl, ?_⟩
      walk_at "s"
      refine ifD (fun c1 => ?_) (fun c1 => ?_)
      · walk_at "s"
        have e : isC (.int i) = decide (i ≤ 1000000000000) := by
          show (decide (0 ≤ i) && decide (i ≤ 1000000000000)) = _
          rw [decide_eq_true c1]; rfl
        rw [e] at q
        exact q
      · have e : isC (.int i) = false := by
          show (decide (0 ≤ i) && decide (i ≤ 1000000000000)) = _
          rw [decide_eq_false c1]; rfl
        rw [e] at q
        exact q
    · walk_at "s"
      refine ⟨_, _, _, _, false, rfl, .ty "bool", .base (.str z), kit_ty (by decide +kernel), _, rfl, ?_⟩
      walk_at "s"
      exact ⟨_, _, _, _, false, rfl, .ty "int", .base (.str z), kit_ty (by decide +kernel), _, rfl, q⟩
end
end Fb

namespace Fb
open PySem PySem.Spec PyProof.Rows L2
local macro_rules | `(tactic| walk_at "s") => `(tactic| repeat (first | refine ⟨_, rfl, ?_⟩ | refine ⟨_, _, rfl, rfl, ?_⟩ | refine ⟨_, _, rfl, Or.inl (by assumption), ?_⟩ | refine ⟨rfl, ?_⟩ | refine ⟨(by decide : (0 : Int) < _), ?_⟩ | refine ⟨⟨by decide, by decide⟩, ?_⟩ | refine ⟨_, _, _, rfl, (by assumption), (by first | decide | omega), ?_⟩))
def spPut (a : Ads) (P : Addr) : Sp := fun vs H Q E => ∃ (p d : Addr) (v1 v2 v3 : V) (rs : List Row), vs = [.ref p, v1, v2, v3] ∧ ask v1 ∧ ask v2 ∧ ask v3 ∧ H P = some (TabO P) ∧ TarAt a.Tariff H p d rs ∧ rs.length ≤ 1000 ∧
  (putDue rs v1 v2 v3 = 0 → ∀ H', SameB d H H' → TarAt a.Tariff H' p d (rs ++ [mkRow v1 v2 v3]) → Q .non H') ∧ (putDue rs v1 v2 v3 ≠ 0 → ∀ H', Same H H' → E (.ref (errOf a (putDue rs v1 v2 v3))) none H')
abbrev s_Tariff_put : Stmt := inClass (topS 15) 1
abbrev N_Tariff_put : List Str := ["self", "here", "there", "price"]
theorem sc_Tariff_put : FnScope N_Tariff_put ["self", "here", "there", "price"] (defScope s_Tariff_put) := ⟨rfl, rfl, rfl, by decide +kernel, rfl, by decide +kernel, by decide +kernel⟩
section
variable {Pg : Program} {w : World} {K : PySem.W.Frag} {mg : Str → Option Value} {base : Heap} {a : Ads}
theorem ok_put {f P : Addr} {fd : FuncData} (F : Fun K "put" "Tariff.put" s_Tariff_put f fd) (T : Txt K mg a) (D_is_place : Dn Pg w K mg base 2 "is_place" ["thing"] (spIsPlace P)) (D_is_price : Dn Pg w K mg base 1 "is_price" ["thing"] spIsPrice) : FnOk Pg w K mg base (L2N.CX Pg w) 3 f fd ["self", "here", "there", "price"] (spPut a P) := by
  refine F.okN sc_Tariff_put (fun vs H Q E h => ?_) (fun cdv A outer s H vs Q E hr h => ?_)
  · obtain ⟨p, d, v1, v2, v3, rs, rfl, _⟩ := h
    rfl
  · obtain ⟨p, d, v1, v2, v3, rs, rfl, h1, h2, h3, hP, hT, hlen, q0, qE⟩ := h
    have hu := hu_of hr
    obtain ⟨dx, hob⟩ := hT.ob
    have hdc := hT.dc
    have npd := hT.ne
    refine ⟨_, (pss_cons (ps_if (pt_not (pt_val (pe_fnS D_is_place (hr.mono (by decide)) passC (pa_cons (pv 1) pa_nil)))) (pss_one (L2N.ps_raise rfl (L2N.takes_of rfl rfl rfl rfl) (L2N.pmk_own PySem.F.excBase_ValueError T.x_BadPlace.x T.x_BadPlace.g T.x_BadPlace.k (raises_own T.x_BadPlace.b T.x_BadPlace.t) rfl))) pss_nil)
      (pss_cons (ps_if (pt_not (pt_val (pe_fnS D_is_place (hr.mono (by decide)) passC (pa_cons (pv 2) pa_nil)))) (pss_one (L2N.ps_raise rfl (L2N.takes_of rfl rfl rfl rfl) (L2N.pmk_own PySem.F.excBase_ValueError T.x_BadPlace.x T.x_BadPlace.g T.x_BadPlace.k (raises_own T.x_BadPlace.b T.x_BadPlace.t) rfl))) pss_nil)
      (pss_cons (ps_if (pt_cmpR op_eq (pv 1) (pv 2) (nomark _)) (pss_one (L2N.ps_raise rfl (L2N.takes_of rfl rfl rfl rfl) (L2N.pmk_own PySem.F.excBase_ValueError T.x_BadPlace.x T.x_BadPlace.g T.x_BadPlace.k (raises_own T.x_BadPlace.b T.x_BadPlace.t) rfl))) pss_nil)
      (pss_cons (ps_if (pt_not (pt_val (pe_fnS D_is_price (hr.mono (by decide)) passC (pa_cons (pv 3) pa_nil)))) (pss_one (L2N.ps_raise rfl (L2N.takes_of rfl rfl rfl rfl) (L2N.pmk_own PySem.F.excBase_ValueError T.x_BadPrice.x T.x_BadPrice.g T.x_BadPrice.k (raises_own T.x_BadPrice.b T.x_BadPrice.t) rfl))) pss_nil)
      (pss_cons (ps_if (pt_cmp (pc_din hu (pe_tup (pa_cons (pv 1) (pa_cons (pv 2) pa_nil))) (pe_fld (pv 0) rfl))) (pss_one (L2N.ps_raise rfl (L2N.takes_of rfl rfl rfl rfl) (pmk_ownN1 PySem.F.excBase_ValueError T.x_TwiceTold.x T.x_TwiceTold.g T.x_TwiceTold.k (raises_own T.x_TwiceTold.b T.x_TwiceTold.t) rfl (pe_joined (PJ.cons pe_str (PJ.cons (pe_fmt (pv 1)) (PJ.cons pe_str (PJ.cons (pe_fmt (pv 2)) (PJ.cons pe_str PJ.nil))))))))) pss_nil)
      (pss_cons (ps_if (pt_cmpR op_ge (pe_callB call_len_dT (by rfl) T.n_len (by decide +kernel) (pa_cons (pe_fld (pv 0) rfl) pa_nil)) (pe_gint T.c_MOST_ROWS rfl) (nomark _)) (pss_one (L2N.ps_raise rfl (L2N.takes_of rfl rfl rfl rfl) (pmk_ownN1 PySem.F.excBase_ValueError T.x_TooMany.x T.x_TooMany.g T.x_TooMany.k (raises_own T.x_TooMany.b T.x_TooMany.t) rfl (pe_joined (PJ.cons pe_str (PJ.cons (pe_fmt (pe_gint T.c_MOST_ROWS rfl)) (PJ.cons pe_str PJ.nil))))))) pss_nil)
      (pss_one (ps_dput hu (pe_fld (pv 0) rfl) (pe_tup (pa_cons (pv 1) (pa_cons (pv 2) pa_nil))) (pv 3) rfl)))))))), ?_⟩
    walk_at "s"
    refine ⟨h1, hP, ?_⟩
    walk_at "s"
    refine ifNB (fun c1 => ?_) (fun c1 => ?_)
    · have e : putDue rs v1 v2 v3 = 1 := by unfold putDue; rw [c1]; rfl
      rw [e] at qE
      exact qE (by decide) _ (Same.refl _)
    walk_at "s"
    refine ⟨h2, hP, ?_⟩
    walk_at "s"
    refine ifNB (fun c2 => ?_) (fun c2 => ?_)
    · have e : putDue rs v1 v2 v3 = 1 := by unfold putDue; rw [if_pos c1, c2]; rfl
      rw [e] at qE
      exact qE (by decide) _ (Same.refl _)
    obtain ⟨z1, rfl⟩ := isP_str c1
    obtain ⟨z2, rfl⟩ := isP_str c2
    walk_at "s"
    refine ifD (fun c3 => ?_) (fun c3 => ?_)
    · have e : putDue rs (.str z1) (.str z2) v3 = 1 := by unfold putDue; rw [if_pos c1, if_pos c2, if_pos c3]
      rw [e] at qE
      exact qE (by decide) _ (Same.refl _)
    walk_at "s"
    refine ⟨h3, ?_⟩
    walk_at "s"
    refine ifNB (fun c4 => ?_) (fun c4 => ?_)
    · have e : putDue rs (.str z1) (.str z2) v3 = 2 := by unfold putDue; rw [if_pos c1, if_pos c2, if_neg c3, c4]; rfl
      rw [e] at qE
      exact qE (by decide) _ (Same.refl _)
    obtain ⟨n, rfl⟩ : ∃ n, v3 = .int n := by
      cases v3 with
      | int n => exact ⟨n, rfl⟩
      | _ => cases c4
    walk_at "s"
    refine ⟨(by show 2 ≤ sizeLine; decide), fun t ht => ?_⟩
    have s1 : Same H (upd H t (.tup [.str z1, .str z2])) := same_new ht
    have hob1 := s1 _ _ hob
    have hdc1 := s1 _ _ hdc
    walk_at "s"
    refine ⟨p, a.Tariff, dx, _, .ref d, rfl, hob1, T.cl_Tariff, T.na_prices, prices_lookup d, d, _, rfl, DGet.t (k := [.inr z1, .inr z2]) hdc1 upd_same, ?_⟩
    have ek : isTold rs (.str z1) (.str z2) = (valV (rs.map rowK) [.inr z1, .inr z2]).isSome := rfl
    have l1 : z1.length ≤ 12 := by
      have := c1
      unfold isP at this
      simp only [Bool.and_eq_true, decide_eq_true_eq] at this
      exact this.1.2
    have l2 : z2.length ≤ 12 := by
      have := c2
      unfold isP at this
      simp only [Bool.and_eq_true, decide_eq_true_eq] at this
      exact this.1.2
    walk_at "s"
    refine ifB (fun c5 => ?_) (fun c5 => ?_)
    · have e : putDue rs (.str z1) (.str z2) (.int n) = 3 := by unfold putDue; rw [if_pos c1, if_pos c2, if_neg c3, if_pos c4, if_pos (by rw [ek]; exact c5)]
      rw [e] at qE
      have la := lapp (show (Str.empty ++ Str.ofString "the way from ").length ≤ 50 by decide +kernel) l1
      have lb := lapp la (show (Str.ofString " to ").length ≤ 10 by decide +kernel)
      have lc := lapp lb l2
      have ld := lapp lc (show (Str.ofString " has a row already").length ≤ 50 by decide +kernel)
      walk_at "s"
      refine ⟨by decide +kernel, ?_⟩
      walk_at "s"
      refine .inl ⟨z1, rfl, szl (by omega), ?_⟩
      walk_at "s"
      refine ⟨szl (by omega), ?_⟩
      walk_at "s"
      refine ⟨szl (by omega), ?_⟩
      walk_at "s"
      refine .inl ⟨z2, rfl, szl (by omega), ?_⟩
      walk_at "s"
      refine ⟨szl (by omega), ?_⟩
      walk_at "s"
      exact ⟨szl (by omega), qE (by decide) _ s1⟩
    have c5' : valV (rs.map rowK) [.inr z1, .inr z2] = none := by simpa using c5
    walk_at "s"
    refine ⟨p, a.Tariff, dx, _, .ref d, rfl, hob1, T.cl_Tariff, T.na_prices, prices_lookup d, d, _, rfl, hdc1, ?_⟩
    walk_at "s"
    refine ifD (fun c6 => ?_) (fun c6 => ?_)
    · rw [List.length_map] at c6
      have e : putDue rs (.str z1) (.str z2) (.int n) = 4 := by unfold putDue; rw [if_pos c1, if_pos c2, if_neg c3, if_pos c4, if_neg (by rw [ek]; simp [c5']), if_pos (by omega)]
      rw [e] at qE
      walk_at "s"
      refine ⟨by decide +kernel, ?_⟩
      walk_at "s"
      refine .inr ⟨160, rfl, by decide, ?_⟩
      walk_at "s"
      refine ⟨by decide +kernel, ?_⟩
      walk_at "s"
      exact ⟨by decide +kernel, qE (by decide) _ s1⟩
    rw [List.length_map] at c6
    have e : putDue rs (.str z1) (.str z2) (.int n) = 0 := by unfold putDue; rw [if_pos c1, if_pos c2, if_neg c3, if_pos c4, if_neg (by rw [ek]; simp [c5']), if_neg (by omega)]
    walk_at "s"
    refine ⟨p, a.Tariff, dx, _, .ref d, rfl, hob1, T.cl_Tariff, T.na_prices, prices_lookup d, ?_⟩
    walk_at "s"
    refine ⟨(by show 2 ≤ sizeLine; decide), fun u hu2 => ?_⟩
    have s2 : Same H (upd (upd H t (.tup [.str z1, .str z2])) u (.tup [.str z1, .str z2])) := Same.trans s1 (same_new hu2)
    have hob2 := s2 _ _ hob
    have hdc2 := s2 _ _ hdc
    refine ⟨d, _, rfl, DPut.t (k := [.inr z1, .inr z2]) hdc2 upd_same (szlt (by rw [List.length_map]; omega)), ?_⟩
    refine q0 e _ (fun b o nb hb => by rw [upd_ne nb]; exact s2 _ _ hb) ⟨⟨dx, by rw [upd_ne npd]; exact hob2⟩, ?_⟩
    rw [upd_same, rowK_put c5']
    rfl
end
end Fb

namespace Fb
open PySem PySem.Spec PyProof.Rows L2
local macro_rules | `(tactic| walk_at "s") => `(tactic| repeat (first | refine ⟨_, rfl, ?_⟩ | refine ⟨_, _, rfl, rfl, ?_⟩ | refine ⟨_, _, rfl, Or.inl (by assumption), ?_⟩ | refine ⟨rfl, ?_⟩ | refine ⟨(by decide : (0 : Int) < _), ?_⟩ | refine ⟨⟨by decide, by decide⟩, ?_⟩ | refine ⟨_, _, _, rfl, (by assumption), (by first | decide | omega), ?_⟩))
theorem but_l {K : PySem.W.Frag} {H H' : Hp} {D l : Addr} {o : HO} {xs : List V} (s : SameB D H H') (hD : H D = some o) (n1 : ∀ xs, o ≠ .lst xs) (n2 : ∀ ob u, o ≠ .frz ob u) (h : SqL K H l xs) : SqL K H' l xs := by
  rcases h with (h | ⟨ob, h⟩) | h
  · exact .inl (.inl (s _ _ (ne_of h hD fun e => n1 _ e.symm) h))
  · exact .inl (.inr ⟨ob, s _ _ (ne_of h hD fun e => n2 _ _ e.symm) h⟩)
  · exact .inr h
theorem but_t {K : PySem.W.Frag} {H H' : Hp} {D l : Addr} {o : HO} {xs : List V} (s : SameB D H H') (hD : H D = some o) (n1 : ∀ xs, o ≠ .tup xs) (n2 : ∀ ob u, o ≠ .frz ob u) (h : SqT K H l xs) : SqT K H' l xs := by
  rcases h with (h | ⟨ob, h⟩) | h
  · exact .inl (.inl (s _ _ (ne_of h hD fun e => n1 _ e.symm) h))
  · exact .inl (.inr ⟨ob, s _ _ (ne_of h hD fun e => n2 _ _ e.symm) h⟩)
  · exact .inr h
theorem take_step {rs : List Row} {gs : List (V × V × V)} {i : Nat} {g : V × V × V} (h : gs[i]? = some g) :
    takeRows rs (gs.drop i) = if putDue rs g.1 g.2.1 g.2.2 = 0 then takeRows (rs ++ [mkRow g.1 g.2.1 g.2.2]) (gs.drop (i + 1)) else (putDue rs g.1 g.2.1 g.2.2, rs) := by
  obtain ⟨hl, e⟩ := List.getElem?_eq_some_iff.mp h
  rw [List.drop_eq_getElem_cons hl, e]
  rfl
def spInit (K : PySem.W.Frag) (a : Ads) (P : Addr) : Sp := fun vs H Q E => ∃ (p dx l : Addr) (ts : List Addr) (gs : List (V × V × V)), vs = [.ref p, .ref l] ∧ H p = some (.ins a.Tariff dx []) ∧ H P = some (TabO P) ∧ SqL K H l (ts.map V.ref) ∧
  Paired (IsGiven K H) ts gs ∧ (∀ g ∈ gs, ask g.1 ∧ ask g.2.1 ∧ ask g.2.2) ∧ gs.length ≤ 400 ∧
  ((takeRows [] gs).1 = 0 → ∀ d H', H d = none → SameB p H H' → TarAt a.Tariff H' p d (takeRows [] gs).2 → Q .non H') ∧
  ((takeRows [] gs).1 ≠ 0 → ∀ H', SameB p H H' → E (.ref (errOf a (takeRows [] gs).1)) none H')
def spPrice (a : Ads) : Sp := fun vs H Q _ => ∃ (p d : Addr) (x y : Str) (rs : List Row), vs = [.ref p, .str x, .str y] ∧ TarAt a.Tariff H p d rs ∧ ∀ H', Same H H' → Q (lookR rs x y) H'
def spTold (a : Ads) : Sp := fun vs H Q _ => ∃ (p d : Addr) (rs : List Row), vs = [.ref p] ∧ TarAt a.Tariff H p d rs ∧ rs.length ≤ 1000 ∧
  ∀ (q : Addr) (H' : Hp) (ts : List Addr), H q = none → Same H H' → H' q = some (.lst (ts.map V.ref)) → Paired (IsRow H') ts rs → Q (.ref q) H'
abbrev s_Tariff_init : Stmt := inClass (topS 15) 0
abbrev N_Tariff_init : List Str := ["self", "rows", "here", "there", "price"]
theorem sc_Tariff_init : FnScope N_Tariff_init ["self", "rows"] (defScope s_Tariff_init) := ⟨rfl, rfl, rfl, by decide +kernel, rfl, by decide +kernel, by decide +kernel⟩
abbrev s_Tariff_price : Stmt := inClass (topS 15) 2
abbrev N_Tariff_price : List Str := ["self", "here", "there"]
theorem sc_Tariff_price : FnScope N_Tariff_price ["self", "here", "there"] (defScope s_Tariff_price) := ⟨rfl, rfl, rfl, by decide +kernel, rfl, by decide +kernel, by decide +kernel⟩
abbrev s_Tariff_told : Stmt := inClass (topS 15) 3
abbrev N_Tariff_told : List Str := ["self", "here", "there", "price"]
theorem sc_Tariff_told : FnScope N_Tariff_told ["self"] (defScope s_Tariff_told) := ⟨rfl, rfl, rfl, by decide +kernel, rfl, by decide +kernel, by decide +kernel⟩
section
variable {Pg : Program} {w : World} {K : PySem.W.Frag} {mg : Str → Option Value} {base : Heap} {a : Ads}
theorem ok_price {f : Addr} {fd : FuncData} (F : Fun K "price" "Tariff.price" s_Tariff_price f fd) (T : Txt K mg a) : FnOk Pg w K mg base (L2N.CX Pg w) 1 f fd ["self", "here", "there"] (spPrice a) := by
  refine F.okN sc_Tariff_price (fun vs H Q E h => ?_) (fun cdv A outer s H vs Q E hr h => ?_)
  · obtain ⟨p, d, x, y, rs, rfl, _⟩ := h
    rfl
  · obtain ⟨p, d, x, y, rs, rfl, hT, q⟩ := h
    have hu := hu_of hr
    obtain ⟨dx, hob⟩ := hT.ob
    refine ⟨_, (pss_one (ps_ret (pe_dget1 hu (pe_fld (pv 0) rfl) (pe_tup (pa_cons (pv 1) (pa_cons (pv 2) pa_nil))) ⟨rfl, rfl, rfl, rfl⟩))), ?_⟩
    walk_at "s"
    refine ⟨p, a.Tariff, dx, _, .ref d, rfl, hob, T.cl_Tariff, T.na_prices, prices_lookup d, d, rfl, .inr ⟨_, .inl hT.dc⟩, ?_⟩
    walk_at "s"
    refine ⟨(by show 2 ≤ sizeLine; decide), fun t ht => ?_⟩
    exact ⟨_, DGet.t (k := [.inr x, .inr y]) ((same_new ht) _ _ hT.dc) upd_same, q _ (same_new ht)⟩
theorem ok_init {f P : Addr} {fd : FuncData} (F : Fun K "__init__" "Tariff.__init__" s_Tariff_init f fd) (T : Txt K mg a) (D_put : Dm Pg w K mg base 3 a.Tariff "put" ["self", "here", "there", "price"] (spPut a P)) : FnOk Pg w K mg base (L2N.CX Pg w) 4 f fd ["self", "rows"] (spInit K a P) := by
  refine F.okN sc_Tariff_init (fun vs H Q E h => ?_) (fun cdv A outer s H vs Q E hr h => ?_)
  · obtain ⟨p, dx, l, ts, gs, rfl, _⟩ := h
    rfl
  · obtain ⟨p, dx, l, ts, gs, rfl, hp, hP, hl, hg, hask, hlen, q0, qE⟩ := h
    have PO : PassesOwn (model Pg w) (A.deeper (envOfC "Tariff.__init__" (defScope s_Tariff_init) s.heap.objs.size f cdv)) (envOfC "Tariff.__init__" (defScope s_Tariff_init) s.heap.objs.size f cdv) (cxOf (L2N.CX Pg w) Pg w K mg base N_Tariff_init "Tariff.__init__" (defScope s_Tariff_init) f cdv A outer s H E).xe := passes_of rfl
    refine ⟨_, (pss_cons (ps_fld (pv 0) pe_dnewT rfl)
      (pss_one (ps_for PO rfl (pi_list (pv 1)) (pg_tup rfl (pgs_cons (pg_name (i := 2) sc_Tariff_init.nd rfl (by first | exact Or.inl rfl | exact Or.inr rfl)) (pgs_cons (pg_name (i := 3) sc_Tariff_init.nd rfl (by first | exact Or.inl rfl | exact Or.inr rfl)) (pgs_cons (pg_name (i := 4) sc_Tariff_init.nd rfl (by first | exact Or.inl rfl | exact Or.inr rfl)) pgs_nil))))
        (pss_one (ps_expr (pe_mdS (pv 0) T.cl_Tariff D_put (hr.mono (by decide)) (fun σ => L2N.passAt (L2N.takes_of rfl rfl rfl rfl) σ) (pa_cons (pv 2) (pa_cons (pv 3) (pa_cons (pv 4) pa_nil))))))))), ?_⟩
    intro d hd
    have npd : p ≠ d := ne_of_none hp hd
    have lts : ts.length = gs.length := Paired.length hg
    refine ⟨_, rfl, p, a.Tariff, dx, [], rfl, (by rw [upd_ne npd]; exact hp), T.cl_Tariff, T.na_prices, (by show 0 < 1000; decide), ?_⟩
    have sb : SameB p H (upd (upd H d (.dT [])) p (.ins a.Tariff dx (putF "_prices" (.ref d) []))) := fun b o nb e => by rw [upd_ne nb, upd_ne (ne_of_none e hd)]; exact e
    have T0 : TarAt a.Tariff (upd (upd H d (.dT [])) p (.ins a.Tariff dx (putF "_prices" (.ref d) []))) p d [] := ⟨⟨dx, upd_same⟩, by rw [upd_ne npd.symm, upd_same]; rfl⟩
    have seq : ∀ H', SameB p H H' → SqL K H' l (ts.map V.ref) := fun H' s => but_l s hp (fun _ z => nomatch z) (fun _ _ z => nomatch z) hl
    have giv : ∀ H' t g, SameB p H H' → IsGiven K H t g → IsGiven K H' t g := fun H' t g s h => but_t s hp (fun _ z => nomatch z) (fun _ _ z => nomatch z) h
    walk_at "s"
    refine ⟨⟨_, seq _ sb⟩, for_list (K := K) (a := l) (xs := ts.map V.ref) (fun i σ H' => ∃ rs v1 v2 v3, σ = [some (.ref p), some (.ref l), v1, v2, v3] ∧ SameB p H H' ∧ TarAt a.Tariff H' p d rs ∧ rs.length ≤ i ∧ takeRows [] gs = takeRows rs (gs.drop i))
      ⟨[], none, none, none, rfl, sb, T0, Nat.le_refl _, rfl⟩ (fun i σ H' _ ⟨_, _, _, _, _, s2, _⟩ => seq _ s2) ?_ ?_⟩
    · rintro i y σ H2 hi ⟨rs, v1, v2, v3, rfl, s2, T2, hlr, ht⟩
      rw [List.getElem?_map] at hi
      obtain ⟨t, ht1, rfl⟩ := Option.map_eq_some_iff.mp hi
      have hil := (List.getElem?_eq_some_iff.mp ht1).1
      obtain ⟨g, hg1, hgv⟩ := paired_at hg ht1
      obtain ⟨a1, a2, a3⟩ := hask g (List.mem_of_getElem? hg1)
      obtain ⟨dx2, hob2⟩ := T2.ob
      have hP2 : H2 P = some (TabO P) := s2 _ _ (ne_of hP hp (by intro z; cases z)) hP
      refine ⟨_, _, rfl, giv _ _ _ s2 hgv, rfl, _, _, rfl, _, _, rfl, _, _, rfl, rfl, ?_⟩
      have step := take_step (rs := rs) hg1
      walk_at "s"
      refine ⟨p, dx2, _, rfl, hob2, prices_no d (by decide), ?_⟩
      walk_at "s"
      refine ⟨p, d, _, _, _, rs, rfl, a1, a2, a3, hP2, T2, by omega, fun e H3 s3 T3 => ?_, fun e H3 s3 => ?_⟩
      · rw [if_pos e] at step
        refine ⟨_, _, _, _, rfl, fun b o nb hb => s3 _ _ (ne_of_none hb hd) (s2 _ _ nb hb), T3, by rw [List.length_append]; simp; omega, by rw [ht, step]⟩
      · rw [if_neg e] at step
        rw [ht, step] at qE
        exact qE e _ fun b o nb hb => s3 _ _ (s2 _ _ nb hb)
    · rintro σ H2 ⟨rs, v1, v2, v3, rfl, s2, T2, hlr, ht⟩
      rw [List.length_map, lts, List.drop_length] at ht
      rw [ht] at q0
      exact q0 rfl d H2 hd s2 T2
end
end Fb

namespace Fb
open PySem PySem.Spec PyProof.Rows L2
local macro_rules | `(tactic| walk_at "s") => `(tactic| repeat (first | refine ⟨_, rfl, ?_⟩ | refine ⟨_, _, rfl, rfl, ?_⟩ | refine ⟨_, _, rfl, Or.inl (by assumption), ?_⟩ | refine ⟨rfl, ?_⟩ | refine ⟨(by decide : (0 : Int) < _), ?_⟩ | refine ⟨⟨by decide, by decide⟩, ?_⟩ | refine ⟨_, _, _, rfl, (by assumption), (by first | decide | omega), ?_⟩))
section
variable {Pg : Program} {w : World} {K : PySem.W.Frag} {mg : Str → Option Value} {base : Heap} {a : Ads}
theorem ok_told {f : Addr} {fd : FuncData} (F : Fun K "told" "Tariff.told" s_Tariff_told f fd) (T : Txt K mg a) : FnOk Pg w K mg base (L2N.CX Pg w) 1 f fd ["self"] (spTold a) := by
  refine F.okN sc_Tariff_told (fun vs H Q E h => ?_) (fun cdv A outer s H vs Q E hr h => ?_)
  · obtain ⟨p, d, rs, rfl, _⟩ := h
    rfl
  · obtain ⟨p, d, rs, rfl, hT, hlen, q⟩ := h
    obtain ⟨dx, hob⟩ := hT.ob
    have hdc := hT.dc
    have npd := hT.ne
    refine ⟨_, (pss_one (ps_ret (pe_lock (pe_lc (own := [("price", 3), ("here", 1), ("there", 2)]) (g := (gTup K 2 (gCons (gTup K 2 (gCons (gName 1) (gCons (gName 2) gNil))) (gCons (gName 3) gNil)))) (tt := tYes) rfl sc_Tariff_told.nd (pi_itemsT (pe_fld (pv 0) rfl)) (blkOk_by (own := [("price", 3), ("here", 1), ("there", 2)]) (N := N_Tariff_told) (sc := (defScope s_Tariff_told)) (by decide +kernel)) (fun _ _ _ _ _ => (pg_tup rfl (pgs_cons (pg_tup rfl (pgs_cons (pg_name (i := 1) sc_Tariff_told.nd rfl (by first | exact Or.inl rfl | exact Or.inr rfl)) (pgs_cons (pg_name (i := 2) sc_Tariff_told.nd rfl (by first | exact Or.inl rfl | exact Or.inr rfl)) pgs_nil))) (pgs_cons (pg_name (i := 3) sc_Tariff_told.nd rfl (by first | exact Or.inl rfl | exact Or.inr rfl)) pgs_nil)))) (fun _ _ _ _ _ => pts_nil) (fun _ _ _ _ _ => (pe_tup (pa_cons (pv 1) (pa_cons (pv 2) (pa_cons (pv 3) pa_nil))))))))), ?_⟩
    refine ⟨d, _, hdc, trivial, fun od => ?_⟩
    have hob1 : upd H d (.frz od (.dT (rs.map rowK))) p = some (.ins a.Tariff dx [("_prices", .ref d)]) := by rw [upd_ne npd]; exact hob
    walk_at "s"
    refine ⟨p, a.Tariff, dx, _, .ref d, rfl, hob1, T.cl_Tariff, T.na_prices, prices_lookup d, d, od, _, rfl, upd_same, fun D hD => ?_⟩
    refine lc_itemsT (fun i v H' => ∃ t, v = .ref t ∧ t ≠ D ∧ ∃ r, rs[i]? = some r ∧ IsRow H' t r) ?_ hD upd_same (by rw [List.length_map]; omega) ?_ ?_ ?_
    · rintro i v H2 H3 sb ⟨t, e, n, r, hr, hx⟩
      exact ⟨t, e, n, r, hr, sb _ _ n hx⟩
    · intro i k v U u H2 acc hkv s2 hDl hU hu Q2 q2
      rw [List.getElem?_map] at hkv
      obtain ⟨r, hr, ek⟩ := Option.map_eq_some_iff.mp hkv
      cases ek
      refine ⟨_, _, rfl, SqT.of hU, rfl, _, _, rfl, ?_⟩
      refine ⟨_, _, rfl, SqT.of hu, rfl, _, _, rfl, _, _, rfl, rfl, ?_⟩
      refine ⟨_, _, rfl, rfl, rfl, ?_⟩
      walk_at "s"
      refine ⟨(by show 3 ≤ sizeLine; decide), fun t ht => ?_⟩
      exact q2 _ _ (same_new ht) ⟨t, rfl, (ne_of_none hDl ht).symm, r, hr, upd_same⟩
    · exact mono_tup (mono_cons (mono_tup (mono_cons mono_name (mono_cons mono_name mono_nil))) (mono_cons mono_name mono_nil))
    · intro H2 ys s2 hDl hl hr
      rw [List.length_map] at hl
      obtain ⟨ts, rfl, hp⟩ := pair_of (R := fun t r => t ≠ D ∧ IsRow H2 t r) hl fun i v hv => by
        obtain ⟨t, e, n, r, h1, h2⟩ := hr i v hv
        exact ⟨t, e, r, h1, n, h2⟩
      have hdf : H2 d = some (.frz od (.dT (rs.map rowK))) := s2 _ _ upd_same
      have back : ∀ b o, b ≠ d → H2 b = some o → upd H2 d (.dT (rs.map rowK)) b = some o := fun b o nb e => by rw [upd_ne nb]; exact e
      have s3 : Same H (upd H2 d (.dT (rs.map rowK))) := fun b o e => by
        by_cases hb : b = d
        · subst hb
          rw [hdc] at e
          cases e
          exact upd_same
        · rw [upd_ne hb]
          exact s2 _ _ (by rw [upd_ne hb]; exact e)
      have hDn : H D = none := by
        have nD : D ≠ d := fun z => by rw [z, upd_same] at hD; cases hD
        rw [upd_ne nD] at hD
        exact hD
      refine ⟨hdf, q D _ ts hDn s3 (back _ _ (fun z => by rw [z, hdf] at hDl; cases hDl) hDl) (Paired.mapP hp fun t r ⟨_, h2⟩ => ?_)⟩
      exact back t _ (fun z => by unfold IsRow at h2; rw [z, hdf] at h2; cases h2) h2
end
end Fb

namespace Fb
open PySem PySem.Spec PyProof.Rows L2
local macro_rules | `(tactic| walk_at "s") => `(tactic| repeat (first | refine ⟨_, rfl, ?_⟩ | refine ⟨_, _, rfl, rfl, ?_⟩ | refine ⟨_, _, rfl, Or.inl (by assumption), ?_⟩ | refine ⟨rfl, ?_⟩ | refine ⟨(by decide : (0 : Int) < _), ?_⟩ | refine ⟨⟨by decide, by decide⟩, ?_⟩ | refine ⟨_, _, _, rfl, (by assumption), (by first | decide | omega), ?_⟩))
/-! ### need_journey -/
def jerr (a : Ads) : Nat → Addr
  | 1 => a.BadPlace
  | _ => a.BadJourney
theorem due_le (xs : List V) : due xs ≤ 2 := by
  have h : ∀ (r : List V) (p : Option V), dueFrom p r ≤ 2 := fun r => by
    induction r with
    | nil => intro p; exact Nat.zero_le _
    | cons x r ih =>
      intro p
      show (if isP x = true then (if p = some x then 2 else dueFrom (some x) r) else 1) ≤ 2
      split
      · split
        · exact Nat.le_refl _
        · exact ih _
      · omega
  unfold due
  split
  · exact h _ _
  · exact Nat.le_refl _
def spNeed (K : PySem.W.Frag) (a : Ads) (P : Addr) : Sp := fun vs H Q E => ∃ (l : Addr) (xs : List V), vs = [.ref l] ∧ SqL K H l xs ∧ xs.length ≤ 100 ∧ (∀ v ∈ xs, ask v) ∧ H P = some (TabO P) ∧
  (due xs = 0 → ∀ (p : Addr) (H' : Hp), H p = none → Same H H' → H' p = some (.lst xs) → Q (.ref p) H') ∧ (due xs ≠ 0 → ∀ H', Same H H' → E (.ref (jerr a (due xs))) none H')
abbrev s_need_journey : Stmt := topS 19
abbrev N_need_journey : List Str := ["places", "number", "place"]
theorem sc_need_journey : FnScope N_need_journey ["places"] (defScope s_need_journey) := ⟨rfl, rfl, rfl, by decide +kernel, rfl, by decide +kernel, by decide +kernel⟩
section
variable {Pg : Program} {w : World} {K : PySem.W.Frag} {mg : Str → Option Value} {base : Heap} {a : Ads}
theorem ok_need {f P : Addr} {fd : FuncData} (F : Fun K "need_journey" "need_journey" s_need_journey f fd) (T : Txt K mg a) (D_is_place : Dn Pg w K mg base 2 "is_place" ["thing"] (spIsPlace P)) : FnOk Pg w K mg base (L2N.CX Pg w) 3 f fd ["places"] (spNeed K a P) := by
  refine F.okN sc_need_journey (fun vs H Q E h => ?_) (fun cdv A outer s H vs Q E hr h => ?_)
  · obtain ⟨c, _, rfl, _⟩ := h
    rfl
  · obtain ⟨l, xs, rfl, hs, hlen, hask, hP, q0, qE⟩ := h
    have q1 : due xs = 1 → ∀ H', Same H H' → E (.ref a.BadPlace) none H' := fun e H' s => by have z := qE (by omega) H' s; rw [e] at z; exact z
    have q2 : due xs = 2 → ∀ H', Same H H' → E (.ref a.BadJourney) none H' := fun e H' s => by have z := qE (by omega) H' s; rw [e] at z; exact z
    have PO : PassesOwn (model Pg w) (A.deeper (envOfC "need_journey" (defScope s_need_journey) s.heap.objs.size f cdv)) (envOfC "need_journey" (defScope s_need_journey) s.heap.objs.size f cdv) (cxOf (L2N.CX Pg w) Pg w K mg base N_need_journey "need_journey" (defScope s_need_journey) f cdv A outer s H E).xe := passes_of rfl
    refine ⟨_, (pss_cons (ps_if (pt_not (pt_chain op_le op_le (pe_gint T.c_FEWEST_PLACES rfl) (pe_callB call_len_seq (by rfl) T.n_len (by decide +kernel) (pa_cons (pv 0) pa_nil)) (pe_gint T.c_MOST_PLACES rfl))) (pss_one (L2N.ps_raise rfl (L2N.takes_of rfl rfl rfl rfl) (pmk_ownN1 PySem.F.excBase_ValueError T.x_BadJourney.x T.x_BadJourney.g T.x_BadJourney.k (raises_own T.x_BadJourney.b T.x_BadJourney.t) rfl (pe_joined (PJ.cons pe_str (PJ.cons (pe_fmt (pe_gint T.c_FEWEST_PLACES rfl)) (PJ.cons pe_str (PJ.cons (pe_fmt (pe_gint T.c_MOST_PLACES rfl)) (PJ.cons pe_str PJ.nil))))))))) pss_nil)
      (pss_cons (ps_for PO rfl (pi_enum (by rfl) T.n_enumerate (pa_cons (pv 0) pa_nil)) (pg_tup rfl (pgs_cons (pg_name (i := 1) sc_need_journey.nd rfl (by first | exact Or.inl rfl | exact Or.inr rfl)) (pgs_cons (pg_name (i := 2) sc_need_journey.nd rfl (by first | exact Or.inl rfl | exact Or.inr rfl)) pgs_nil)))
        (pss_cons (ps_if (pt_not (pt_val (pe_fnS D_is_place (hr.mono (by decide)) passC (pa_cons (pv 2) pa_nil)))) (pss_one (L2N.ps_raise rfl (L2N.takes_of rfl rfl rfl rfl) (pmk_ownN1 PySem.F.excBase_ValueError T.x_BadPlace.x T.x_BadPlace.g T.x_BadPlace.k (raises_own T.x_BadPlace.b T.x_BadPlace.t) rfl (pe_joined (PJ.cons pe_str (PJ.cons (pe_fmt (pv 1)) (PJ.cons pe_str PJ.nil))))))) pss_nil)
          (pss_one (ps_if (PW.pt (pw_and (pt_cmpR op_gt (pv 1) pe_int (nomark _)) (pw_and1 (pt_cmpR op_eq (pv 2) (pe_ix ix_list (pv 0) (pe_op op_sub (pv 1) pe_int) (fun _ _ => rfl)) (nomark _))))) (pss_one (L2N.ps_raise rfl (L2N.takes_of rfl rfl rfl rfl) (pmk_ownN1 PySem.F.excBase_ValueError T.x_BadJourney.x T.x_BadJourney.g T.x_BadJourney.k (raises_own T.x_BadJourney.b T.x_BadJourney.t) rfl (pe_joined (PJ.cons pe_str (PJ.cons (pe_fmt (pv 1)) (PJ.cons pe_str PJ.nil))))))) pss_nil))))
      (pss_one (ps_ret (pe_callTy call_list_of (by rfl) T.n_list (by decide +kernel) (pa_cons (pv 0) pa_nil)))))), ?_⟩
    walk_at "s"
    refine ifD (fun c1 => ?_) (fun c1 => ?_)
    · walk_at "s"
      refine ifND (fun c2 => ?_) (fun c2 => ?_)
      · walk_at "s"
        refine ⟨by decide +kernel, ?_⟩
        walk_at "s"
        refine .inr ⟨2, rfl, by decide, ?_⟩
        walk_at "s"
        refine ⟨by decide +kernel, ?_⟩
        walk_at "s"
        refine ⟨by decide +kernel, ?_⟩
        walk_at "s"
        refine .inr ⟨40, rfl, by decide, ?_⟩
        walk_at "s"
        refine ⟨by decide +kernel, ?_⟩
        walk_at "s"
        exact ⟨by decide +kernel, q2 (due_out fun z => by omega) _ (Same.refl _)⟩
      · have e0 := due_in (xs := xs) (by omega) (by omega)
        walk_at "s"
        refine ⟨_, _, rfl, hs, ?_⟩
        refine for_enum (K := K) (a := l) (xs := xs) (fun i σ H' => ∃ kv pv, σ = [some (.ref l), kv, pv] ∧ Same H H' ∧ dueAt xs i = due xs) ⟨none, none, rfl, Same.refl _, e0.symm⟩ (fun i σ H' _ ⟨_, _, _, s2, _⟩ => s2.seq hs) ?_ ?_
        · rintro i x σ H2 U hx ⟨kv, pv, rfl, s2, hd⟩ hU
          have hil : i < xs.length := (List.getElem?_eq_some_iff.mp hx).1
          have hax := hask x (List.mem_of_getElem? hx)
          have s3 : Same H (upd H2 U (.tup [.int (i : Nat), x])) := Same.trans s2 (same_new hU)
          have hs3 : SqL K (upd H2 U (.tup [.int (i : Nat), x])) l xs := s3.seq hs
          refine ⟨_, _, rfl, SqT.of upd_same, rfl, _, _, rfl, _, _, rfl, rfl, ?_⟩
          walk_at "s"
          refine ⟨hax, s3 _ _ hP, ?_⟩
          walk_at "s"
          refine ifNB (fun c3 => ?_) (fun c3 => ?_)
          · have e1 := due_place hx c3
            rw [hd] at e1
            have la : (Str.empty ++ Str.ofString "number ").length ≤ 50 := by decide +kernel
            have lb := lapp la (num_small i (by omega))
            have lc := lapp lb (show (Str.ofString " of the journey is no place").length ≤ 100 by decide +kernel)
            walk_at "s"
            refine ⟨szl (by omega), ?_⟩
            walk_at "s"
            refine .inr ⟨(i : Int), rfl, log_small (by omega), ?_⟩
            walk_at "s"
            refine ⟨szl (by omega), ?_⟩
            walk_at "s"
            refine ⟨szl (by omega), ?_⟩
            exact q1 e1 _ s3
          · walk_at "s"
            refine ifD (fun c4 => ?_) (fun c4 => ?_)
            · walk_at "s"
              have hil2 : i - 1 < xs.length := by omega
              have hx2 : xs[i - 1]? = some xs[i - 1] := List.getElem?_eq_getElem hil2
              obtain ⟨z, hz⟩ := isP_str c3
              refine ⟨_, _, _, _, rfl, rfl, hs3, atI_of (by omega) (by rw [show ((i : Int) - 1).toNat = i - 1 by omega]; exact hx2), (by rw [hz]; exact scal_str (hask _ (List.getElem_mem hil2))), ?_⟩
              walk_at "s"
              refine ifD (fun c5 => ?_) (fun c5 => ?_)
              · have e1 := due_same hx c3 (by omega) (by rw [hx2, c5])
                rw [hd] at e1
                have la : (Str.empty ++ Str.ofString "number ").length ≤ 50 := by decide +kernel
                have lb := lapp la (num_small i (by omega))
                have lc := lapp lb (show (Str.ofString " of the journey is the place right ahead of it").length ≤ 100 by decide +kernel)
                walk_at "s"
                refine ⟨szl (by omega), ?_⟩
                walk_at "s"
                refine .inr ⟨(i : Int), rfl, log_small (by omega), ?_⟩
                walk_at "s"
                refine ⟨szl (by omega), ?_⟩
                walk_at "s"
                refine ⟨szl (by omega), ?_⟩
                exact q2 e1 _ s3
              · exact ⟨_, _, rfl, s3, by rw [← hd]; exact (due_go hx c3 fun _ e => c5 (by rw [hx2] at e; exact (Option.some.inj e).symm)).symm⟩
            · exact ⟨_, _, rfl, s3, by rw [← hd]; exact (due_go hx c3 fun h0 => by omega).symm⟩
        · rintro σ H2 ⟨kv, pv, rfl, s2, hd⟩
          have e1 : due xs = 0 := by rw [← hd]; exact dueAt_end xs
          have hs2 : SqL K H2 l xs := s2.seq hs
          walk_at "s"
          intro p hp
          exact q0 e1 p _ (s2.free hp) (same_mut s2 (s2.free hp)) upd_same
    · walk_at "s"
      refine ⟨by decide +kernel, ?_⟩
      walk_at "s"
      refine .inr ⟨2, rfl, by decide, ?_⟩
      walk_at "s"
      refine ⟨by decide +kernel, ?_⟩
      walk_at "s"
      refine ⟨by decide +kernel, ?_⟩
      walk_at "s"
      refine .inr ⟨40, rfl, by decide, ?_⟩
      walk_at "s"
      refine ⟨by decide +kernel, ?_⟩
      walk_at "s"
      exact ⟨by decide +kernel, q2 (due_out fun z => by omega) _ (Same.refl _)⟩
end
end Fb

namespace Fb
open PySem PySem.Spec PyProof.Rows L2
/-! ### journeys and stretches -/
abbrev Pri := Str → Str → Option Int
def xat (xs : List Str) (i : Nat) : Str := xs.getD i Str.empty
theorem xat_get {xs : List Str} {i : Nat} (h : i < xs.length) : xs[i]? = some (xat xs i) := by
  unfold xat
  rw [List.getD_eq_getElem?_getD, List.getElem?_eq_getElem h]; rfl
theorem xat_at {xs : List Str} {i : Nat} {j : Int} (h : i < xs.length) (e : j = (i : Int)) : atI (xs.map V.str) j = some (.str (xat xs i)) := by
  subst e
  refine atI_of (by omega) ?_
  rw [Int.toNat_natCast, List.getElem?_map, xat_get h]; rfl
theorem xat_of {xs : List Str} {i : Nat} {z : Str} (h : xs[i]? = some z) : xat xs i = z := by
  unfold xat
  rw [List.getD_eq_getElem?_getD, h]; rfl
def stp (P : Pri) (xs : List Str) (i j : Nat) : Option Int := P (xat xs i) (xat xs j)
def again (xs : List Str) (i k : Nat) : Prop := ∃ m, i ≤ m ∧ m < k ∧ xat xs m = xat xs k
def dear (P : Pri) (xs : List Str) (p : Int) (k m : Nat) : Prop := ∃ q, stp P xs k m = some q ∧ p < q
inductive Fault
  | none | price | twice (k : Nat) | dearer (k m : Nat)
inductive IsF (P : Pri) (xs : List Str) (i j : Nat) : Fault → Prop
  | price (h : stp P xs i j = none) : IsF P xs i j .price
  | twice {p : Int} {k : Nat} (hp : stp P xs i j = some p) (h1 : i ≤ k) (h2 : k ≤ j) (ha : again xs i k) (hn : ∀ l, i ≤ l → l < k → ¬ again xs i l) : IsF P xs i j (.twice k)
  | dearer {p : Int} {k m : Nat} (hp : stp P xs i j = some p) (hn : ∀ l, i ≤ l → l ≤ j → ¬ again xs i l) (h1 : i ≤ k) (h2 : k < m) (h3 : m ≤ j) (hd : dear P xs p k m)
      (hk : ∀ k' m', i ≤ k' → k' < k → k' < m' → m' ≤ j → ¬ dear P xs p k' m') (hm : ∀ m', k < m' → m' < m → ¬ dear P xs p k m') : IsF P xs i j (.dearer k m)
  | none {p : Int} (hp : stp P xs i j = some p) (hn : ∀ l, i ≤ l → l ≤ j → ¬ again xs i l) (hd : ∀ k m, i ≤ k → k < m → m ≤ j → ¬ dear P xs p k m) : IsF P xs i j .none
theorem IsF.uniq {P : Pri} {xs : List Str} {i j : Nat} {f g : Fault} (a : IsF P xs i j f) (b : IsF P xs i j g) : f = g := by
  cases a with
  | price h =>
    cases b with
    | price => rfl
    | twice hp => rw [h] at hp; cases hp
    | dearer hp => rw [h] at hp; cases hp
    | none hp => rw [h] at hp; cases hp
  | @twice p k hp h1 h2 ha hn =>
    cases b with
    | price h => rw [h] at hp; cases hp
    | @twice p' k' hp' h1' h2' ha' hn' =>
      have e : k = k' := by
        rcases Nat.lt_trichotomy k k' with h | h | h
        · exact absurd ha (hn' k h1 h)
        · exact h
        · exact absurd ha' (hn k' h1' h)
      rw [e]
    | dearer _ hn' => exact absurd ha (hn' k h1 h2)
    | none _ hn' => exact absurd ha (hn' k h1 h2)
  | @dearer p k m hp hn h1 h2 h3 hd hk hm =>
    cases b with
    | price h => rw [h] at hp; cases hp
    | twice _ h1' h2' ha' => exact absurd ha' (hn _ h1' h2')
    | @dearer p' k' m' hp' hn' h1' h2' h3' hd' hk' hm' =>
      rw [hp] at hp'
      have ep := Option.some.inj hp'
      subst ep
      have e : k = k' := by
        rcases Nat.lt_trichotomy k k' with h | h | h
        · exact absurd hd (hk' k m h1 h h2 h3)
        · exact h
        · exact absurd hd' (hk k' m' h1' h h2' h3')
      subst e
      have e2 : m = m' := by
        rcases Nat.lt_trichotomy m m' with h | h | h
        · exact absurd hd (hm' m h2 h)
        · exact h
        · exact absurd hd' (hm m' h2' h)
      rw [e2]
    | none hp' _ hd' =>
      rw [hp] at hp'
      have ep := Option.some.inj hp'
      subst ep
      exact absurd hd (hd' k m h1 h2 h3)
  | @none p hp hn hd =>
    cases b with
    | price h => rw [h] at hp; cases hp
    | twice _ h1' h2' ha' => exact absurd ha' (hn _ h1' h2')
    | @dearer p' k' m' hp' hn' h1' h2' h3' hd' =>
      rw [hp] at hp'
      have ep := Option.some.inj hp'
      subst ep
      exact absurd hd' (hd k' m' h1' h2' h3')
    | none => rfl
/-- it holds -/
def Holds (P : Pri) (xs : List Str) (i j : Nat) : Prop := IsF P xs i j .none
noncomputable def hb (P : Pri) (xs : List Str) (i j : Nat) : Bool := @decide (Holds P xs i j) (Classical.propDecidable _)
theorem hb_iff {P : Pri} {xs : List Str} {i j : Nat} : hb P xs i j = true ↔ Holds P xs i j := by
  unfold hb
  exact @decide_eq_true_iff _ (Classical.propDecidable _)
theorem hb_true {P : Pri} {xs : List Str} {i j : Nat} (h : Holds P xs i j) : hb P xs i j = true := hb_iff.mpr h
theorem hb_false {P : Pri} {xs : List Str} {i j : Nat} (h : ¬ Holds P xs i j) : hb P xs i j = false := by
  cases e : hb P xs i j with
  | false => rfl
  | true => exact absurd (hb_iff.mp e) h
theorem IsF.hb {P : Pri} {xs : List Str} {i j : Nat} {f : Fault} (h : IsF P xs i j f) (n : f ≠ .none) : Fb.hb P xs i j = false := hb_false fun z => n (h.uniq z)
theorem Holds.pr {P : Pri} {xs : List Str} {i j : Nat} (h : Holds P xs i j) : ∃ p, stp P xs i j = some p := by
  cases h with
  | none hp => exact ⟨_, hp⟩
/-- where a place comes again first -/
def IsTw (xs : List Str) (i j : Nat) : Option Nat → Prop
  | some k => i ≤ k ∧ k ≤ j ∧ again xs i k ∧ ∀ l, i ≤ l → l < k → ¬ again xs i l
  | none => ∀ l, i ≤ l → l ≤ j → ¬ again xs i l
def optN : Option Nat → V
  | some k => .int (k : Int)
  | none => .non
def IsDr (P : Pri) (xs : List Str) (i j : Nat) (p : Int) : Option (Nat × Nat) → Prop
  | some (k, m) => i ≤ k ∧ k < m ∧ m ≤ j ∧ dear P xs p k m ∧ (∀ k' m', i ≤ k' → k' < k → k' < m' → m' ≤ j → ¬ dear P xs p k' m') ∧ ∀ m', k < m' → m' < m → ¬ dear P xs p k m'
  | none => ∀ k m, i ≤ k → k < m → m ≤ j → ¬ dear P xs p k m
def pairV (H : Hp) (v : V) : Option (Nat × Nat) → Prop
  | some (k, m) => ∃ t, v = .ref t ∧ H t = some (.tup [.int (k : Int), .int (m : Int)])
  | none => v = .non
/-- a fault's value -/
def FltV (H : Hp) (v : V) : Fault → Prop
  | .none => v = .non
  | .price => ∃ t, v = .ref t ∧ H t = some (.tup [.str (Str.ofString "price")])
  | .twice k => ∃ t, v = .ref t ∧ H t = some (.tup [.str (Str.ofString "twice"), .int (k : Int)])
  | .dearer k m => ∃ t, v = .ref t ∧ H t = some (.tup [.str (Str.ofString "dearer"), .int (k : Int), .int (m : Int)])
theorem FltV.non {H : Hp} {v : V} {f : Fault} (h : FltV H v f) : (v = .non ↔ f = .none) := by
  cases f with
  | none => exact ⟨fun _ => rfl, fun _ => h⟩
  | price => obtain ⟨t, e, _⟩ := h; exact ⟨(fun z => by rw [e] at z; cases z), fun z => by cases z⟩
  | twice k => obtain ⟨t, e, _⟩ := h; exact ⟨(fun z => by rw [e] at z; cases z), fun z => by cases z⟩
  | dearer k m => obtain ⟨t, e, _⟩ := h; exact ⟨(fun z => by rw [e] at z; cases z), fun z => by cases z⟩
/-- a good journey -/
structure GoodJ (xs : List Str) : Prop where
  lo : 2 ≤ xs.length
  hi : xs.length ≤ 40
  pl : ∀ x ∈ xs, isP (.str x) = true
  ne : ∀ i, i + 1 < xs.length → xat xs i ≠ xat xs (i + 1)
theorem dueFrom_good : ∀ {xs : List Str} {p : Option V}, (∀ x ∈ xs, isP (.str x) = true) → (∀ x, xs[0]? = some x → p ≠ some (.str x)) → (∀ i x, xs[i]? = some x → xs[i + 1]? ≠ some x) → dueFrom p (xs.map V.str) = 0
  | [], _, _, _, _ => rfl
  | x :: r, p, h1, h2, h3 => by
    show (if isP (.str x) = true then (if p = some (.str x) then 2 else dueFrom (some (.str x)) (r.map V.str)) else 1) = 0
    rw [if_pos (h1 x List.mem_cons_self), if_neg (h2 x rfl)]
    refine dueFrom_good (fun y hy => h1 y (List.mem_cons_of_mem _ hy)) (fun y hy e => ?_) (fun i y hy e => h3 (i + 1) y (by simpa using hy) (by simpa using e))
    have e2 : x = y := V.str.inj (Option.some.inj e)
    exact h3 0 x rfl (by rw [List.getElem?_cons_succ, hy, e2])
theorem GoodJ.due {xs : List Str} (g : GoodJ xs) : due (xs.map V.str) = 0 := by
  rw [due_in (by rw [List.length_map]; exact g.lo) (by rw [List.length_map]; exact g.hi)]
  refine dueFrom_good g.pl (fun x _ e => by cases e) fun i x h e => ?_
  have h1 := (List.getElem?_eq_some_iff.mp e).1
  exact g.ne i h1 (by rw [xat_of h, xat_of e])
theorem GoodJ.ask {xs : List Str} (g : GoodJ xs) : ∀ v ∈ xs.map V.str, ask v := fun v hv => by
  obtain ⟨x, hx, rfl⟩ := List.mem_map.mp hv
  exact isP_ask (g.pl x hx)
theorem GoodJ.flat {xs : List Str} (g : GoodJ xs) : ∀ v ∈ xs.map V.str, flat v := fun v hv => ask_flat (g.ask v hv)
end Fb

namespace Fb
open PySem PySem.Spec PyProof.Rows L2
local macro_rules | `(tactic| walk_at "s") => `(tactic| repeat (first | refine ⟨_, rfl, ?_⟩ | refine ⟨_, _, rfl, rfl, ?_⟩ | refine ⟨_, _, rfl, Or.inl (by assumption), ?_⟩ | refine ⟨rfl, ?_⟩ | refine ⟨(by decide : (0 : Int) < _), ?_⟩ | refine ⟨⟨by decide, by decide⟩, ?_⟩ | refine ⟨_, _, _, rfl, (by assumption), (by first | decide | omega), ?_⟩))
/-! ### stretches: the program's defs -/
def spSP (K : PySem.W.Frag) (a : Ads) : Sp := fun vs H Q _ => ∃ (p d l : Addr) (rs : List Row) (xs : List Str) (i j : Nat) (i' j' : Int), vs = [.ref p, .ref l, .int i', .int j'] ∧ i' = (i : Int) ∧ j' = (j : Int) ∧ TarAt a.Tariff H p d rs ∧ SqL K H l (xs.map V.str) ∧ i < xs.length ∧ j < xs.length ∧
  ∀ H', Same H H' → Q (optV (stp (pri rs) xs i j)) H'
def spFT (K : PySem.W.Frag) : Sp := fun vs H Q _ => ∃ (l : Addr) (xs : List Str) (i j : Nat) (i' j' : Int), vs = [.ref l, .int i', .int j'] ∧ i' = (i : Int) ∧ j' = (j : Int) ∧ SqL K H l (xs.map V.str) ∧ i ≤ j ∧ j < xs.length ∧ xs.length ≤ 1000 ∧
  ∀ r H', IsTw xs i j r → Same H H' → Q (optN r) H'
def spFD (K : PySem.W.Frag) (a : Ads) : Sp := fun vs H Q _ => ∃ (p d l : Addr) (rs : List Row) (xs : List Str) (i j : Nat) (i' j' n : Int), vs = [.ref p, .ref l, .int i', .int j', .int n] ∧ i' = (i : Int) ∧ j' = (j : Int) ∧ TarAt a.Tariff H p d rs ∧ SqL K H l (xs.map V.str) ∧ i ≤ j ∧ j < xs.length ∧ xs.length ≤ 1000 ∧
  ∀ r v H', IsDr (pri rs) xs i j n r → pairV H' v r → Same H H' → Q v H'
def spFO (K : PySem.W.Frag) (a : Ads) : Sp := fun vs H Q _ => ∃ (p d l : Addr) (rs : List Row) (xs : List Str) (i j : Nat) (i' j' : Int), vs = [.ref p, .ref l, .int i', .int j'] ∧ i' = (i : Int) ∧ j' = (j : Int) ∧ TarAt a.Tariff H p d rs ∧ SqL K H l (xs.map V.str) ∧ i < j ∧ j < xs.length ∧ xs.length ≤ 1000 ∧
  ∀ f v H', IsF (pri rs) xs i j f → FltV H' v f → Same H H' → Q v H'
abbrev s_stretch_price : Stmt := topS 21
abbrev N_stretch_price : List Str := ["tariff", "places", "at", "to"]
theorem sc_stretch_price : FnScope N_stretch_price ["tariff", "places", "at", "to"] (defScope s_stretch_price) := ⟨rfl, rfl, rfl, by decide +kernel, rfl, by decide +kernel, by decide +kernel⟩
abbrev s_first_twice : Stmt := topS 22
abbrev N_first_twice : List Str := ["places", "at", "to", "seen", "number"]
theorem sc_first_twice : FnScope N_first_twice ["places", "at", "to"] (defScope s_first_twice) := ⟨rfl, rfl, rfl, by decide +kernel, rfl, by decide +kernel, by decide +kernel⟩
abbrev s_first_dearer : Stmt := topS 23
abbrev N_first_dearer : List Str := ["tariff", "places", "at", "to", "price", "begin", "end", "within"]
theorem sc_first_dearer : FnScope N_first_dearer ["tariff", "places", "at", "to", "price"] (defScope s_first_dearer) := ⟨rfl, rfl, rfl, by decide +kernel, rfl, by decide +kernel, by decide +kernel⟩
abbrev s_fault_of : Stmt := topS 24
abbrev N_fault_of : List Str := ["tariff", "places", "at", "to", "price", "twice", "dearer", "begin", "end"]
theorem sc_fault_of : FnScope N_fault_of ["tariff", "places", "at", "to"] (defScope s_fault_of) := ⟨rfl, rfl, rfl, by decide +kernel, rfl, by decide +kernel, by decide +kernel⟩
section
variable {Pg : Program} {w : World} {K : PySem.W.Frag} {mg : Str → Option Value} {base : Heap} {a : Ads}
theorem ok_stretch_price {f : Addr} {fd : FuncData} (F : Fun K "stretch_price" "stretch_price" s_stretch_price f fd) (T : Txt K mg a) (D_price : Dm Pg w K mg base 1 a.Tariff "price" ["self", "here", "there"] (spPrice a)) : FnOk Pg w K mg base (L2N.CX Pg w) 2 f fd ["tariff", "places", "at", "to"] (spSP K a) := by
  refine F.okN sc_stretch_price (fun vs H Q E h => ?_) (fun cdv A outer s H vs Q E hr h => ?_)
  · obtain ⟨_, _, _, _, _, _, _, _, _, rfl, _⟩ := h
    rfl
  · obtain ⟨p, d, l, rs, xs, i, j, i', j', rfl, ei, ej, hT, hs, hi, hj, q⟩ := h
    obtain ⟨dx, hob⟩ := hT.ob
    refine ⟨_, (pss_one (ps_ret (pe_mdS (pv 0) T.cl_Tariff D_price (hr.mono (by decide)) passC (pa_cons (pe_ix ix_list (pv 1) (pv 2) (fun _ _ => rfl)) (pa_cons (pe_ix ix_list (pv 1) (pv 3) (fun _ _ => rfl)) pa_nil))))), ?_⟩
    walk_at "s"
    refine ⟨p, dx, _, rfl, hob, prices_no d (by decide), ?_⟩
    walk_at "s"
    refine ⟨_, _, _, _, rfl, rfl, hs, xat_at hi ei, ?_⟩
    walk_at "s"
    refine ⟨_, _, _, _, rfl, rfl, hs, xat_at hj ej, ?_⟩
    refine ⟨p, d, _, _, rs, rfl, hT, fun H1 s1 => ?_⟩
    rw [look_pri]
    exact q H1 s1
theorem ok_first_twice {f : Addr} {fd : FuncData} (F : Fun K "first_twice" "first_twice" s_first_twice f fd) (T : Txt K mg a) : FnOk Pg w K mg base (L2N.CX Pg w) 1 f fd ["places", "at", "to"] (spFT K) := by
  refine F.okN sc_first_twice (fun vs H Q E h => ?_) (fun cdv A outer s H vs Q E hr h => ?_)
  · obtain ⟨_, _, _, _, _, _, rfl, _⟩ := h
    rfl
  · obtain ⟨l, xs, i, j, i', j', rfl, rfl, rfl, hs, hij, hj, hlen, q⟩ := h
    have PO : PassesOwn (model Pg w) (A.deeper (envOfC "first_twice" (defScope s_first_twice) s.heap.objs.size f cdv)) (envOfC "first_twice" (defScope s_first_twice) s.heap.objs.size f cdv) (cxOf (L2N.CX Pg w) Pg w K mg base N_first_twice "first_twice" (defScope s_first_twice) f cdv A outer s H E).xe := passes_of rfl
    refine ⟨_, (pss_cons (ps_set (i := 3) sc_first_twice.nd rfl (by first | exact Or.inl rfl | exact Or.inr rfl) (pe_callTy0 cr_set0N (by rfl) T.n_set (by decide +kernel)))
      (pss_cons (ps_for PO rfl (pi_range2 (by rfl) T.n_range (pa_cons (pv 1) (pa_cons (pe_op op_add (pv 2) pe_int) pa_nil))) (pg_name (i := 4) sc_first_twice.nd rfl (by first | exact Or.inl rfl | exact Or.inr rfl))
        (pss_cons (ps_if (pt_cmpR or_sinK (pe_ix ix_list (pv 0) (pv 4) (fun _ _ => rfl)) (pv 3) rfl) (pss_one (ps_ret (pv 4))) pss_nil)
          (pss_one (ps_expr (pe_saddN (fun _ h => pe_saddK (pv 3) h) (fun _ _ => (pv 3)) (pa_cons (pe_ix ix_list (pv 0) (pv 4) (fun _ _ => rfl)) pa_nil) mono_var)))))
      (pss_one (ps_ret pe_non)))), ?_⟩
    walk_at "s"
    intro p H1 hp s1 h1
    walk_at "s"
    refine ⟨_, _, rfl, ⟨by omega, by omega, by omega, by omega⟩, ?_⟩
    refine for_range (fun k σ H' => ∃ v4 S n, σ = [some (.ref l), some (.int (i : Int)), some (.int (j : Int)), some (.ref p), v4] ∧ Same H H' ∧ H' p = some (SetK Pg w p S n) ∧ n ≤ k ∧ (∀ z, S (.inr z) = true ↔ ∃ m, i ≤ m ∧ m < i + k ∧ xat xs m = z) ∧ ∀ m, i ≤ m → m < i + k → ¬ again xs i m)
      ⟨none, _, 0, rfl, s1, h1, Nat.le_refl _, fun z => ⟨(fun e => by cases e), fun ⟨m, h1, h2, _⟩ => by omega⟩, fun m h1 h2 => by omega⟩ ?_ ?_
    · rintro k σ H2 hk ⟨v4, S, n, rfl, s2, h2, hn, hS, hno⟩
      have hs2 := s2.seq hs
      have hkl : i + k < xs.length := by omega
      walk_at "s"
      refine ⟨_, _, _, _, rfl, rfl, hs2, xat_at hkl (by omega), ?_⟩
      walk_at "s"
      refine ⟨.inr (xat xs (i + k)), p, S, n, rfl, rfl, h2, ?_⟩
      walk_at "s"
      refine ifB (fun c1 => ?_) (fun c1 => ?_)
      · have ag : again xs i (i + k) := (hS _).mp c1
        walk_at "s"
        rw [show ((i : Int) + (k : Int)) = ((i + k : Nat) : Int) by omega]
        exact q (some (i + k)) _ ⟨by omega, by omega, ag, fun m h1 h2 => hno m h1 h2⟩ s2
      · have nag : ¬ again xs i (i + k) := fun z => by rw [(hS _).mpr z] at c1; cases c1
        walk_at "s"
        refine ⟨⟨_, _, _, rfl, h2⟩, ?_⟩
        walk_at "s"
        refine ⟨_, _, _, _, rfl, rfl, hs2, xat_at hkl (by omega), ?_⟩
        refine ⟨p, .inr (xat xs (i + k)), S, n, rfl, rfl, h2, by omega, fun H3 b3 h3 => ?_⟩
        refine ⟨_, _, _, rfl, same_mutB s2 hp b3, h3, by split <;> omega, fun z => ?_, fun m h1 h2 => ?_⟩
        · rw [Bool.or_eq_true, hS z, decide_eq_true_iff]
          constructor
          · rintro (⟨m, h1, h2, e⟩ | e)
            · exact ⟨m, h1, by omega, e⟩
            · exact ⟨i + k, by omega, by omega, (Sum.inr.inj e).symm⟩
          · rintro ⟨m, h1, h2, e⟩
            by_cases c : m = i + k
            · right; rw [← e, c]
            · left; exact ⟨m, h1, by omega, e⟩
        · by_cases c : m = i + k
          · rw [c]; exact nag
          · exact hno m h1 (by omega)
    · rintro σ H2 ⟨v4, S, n, rfl, s2, h2, hn, hS, hno⟩
      walk_at "s"
      exact q none _ (fun m h1 h2 => hno m h1 (by omega)) s2
theorem ok_first_dearer {f : Addr} {fd : FuncData} (F : Fun K "first_dearer" "first_dearer" s_first_dearer f fd) (T : Txt K mg a) (D_stretch_price : Dn Pg w K mg base 2 "stretch_price" ["tariff", "places", "at", "to"] (spSP K a)) : FnOk Pg w K mg base (L2N.CX Pg w) 3 f fd ["tariff", "places", "at", "to", "price"] (spFD K a) := by
  refine F.okN sc_first_dearer (fun vs H Q E h => ?_) (fun cdv A outer s H vs Q E hr h => ?_)
  · obtain ⟨_, _, _, _, _, _, _, _, _, _, rfl, _⟩ := h
    rfl
  · obtain ⟨p, d, l, rs, xs, i, j, i', j', n, rfl, rfl, rfl, hT, hs, hij, hj, hlen, q⟩ := h
    have PO : PassesOwn (model Pg w) (A.deeper (envOfC "first_dearer" (defScope s_first_dearer) s.heap.objs.size f cdv)) (envOfC "first_dearer" (defScope s_first_dearer) s.heap.objs.size f cdv) (cxOf (L2N.CX Pg w) Pg w K mg base N_first_dearer "first_dearer" (defScope s_first_dearer) f cdv A outer s H E).xe := passes_of rfl
    refine ⟨_, (pss_cons (ps_for PO rfl (pi_range2 (by rfl) T.n_range (pa_cons (pv 2) (pa_cons (pv 3) pa_nil))) (pg_name (i := 5) sc_first_dearer.nd rfl (by first | exact Or.inl rfl | exact Or.inr rfl))
        (pss_one (ps_for PO rfl (pi_range2 (by rfl) T.n_range (pa_cons (pe_op op_add (pv 5) pe_int) (pa_cons (pe_op op_add (pv 3) pe_int) pa_nil))) (pg_name (i := 6) sc_first_dearer.nd rfl (by first | exact Or.inl rfl | exact Or.inr rfl))
            (pss_cons (ps_set (i := 7) sc_first_dearer.nd rfl (by first | exact Or.inl rfl | exact Or.inr rfl) (pe_fnS D_stretch_price (hr.mono (by decide)) passC (pa_cons (pv 0) (pa_cons (pv 1) (pa_cons (pv 5) (pa_cons (pv 6) pa_nil))))))
              (pss_one (ps_if (PW.pt (pw_and (pt_cmpR op_notN (pv 7) pe_non (nomark _)) (pw_and1 (pt_cmpR op_gt (pv 7) (pv 4) (nomark _))))) (pss_one (ps_ret (pe_tupN (pa_cons (pv 5) (pa_cons (pv 6) pa_nil))))) pss_nil))))))
      (pss_one (ps_ret pe_non))), ?_⟩
    walk_at "s"
    refine ⟨_, _, rfl, ⟨by omega, by omega, by omega, by omega⟩, ?_⟩
    refine for_range (fun k σ H' => ∃ v5 v6 v7, σ = [some (.ref p), some (.ref l), some (.int (i : Int)), some (.int (j : Int)), some (.int n), v5, v6, v7] ∧ Same H H' ∧ ∀ k' m', i ≤ k' → k' < i + k → k' < m' → m' ≤ j → ¬ dear (pri rs) xs n k' m')
      ⟨none, none, none, rfl, Same.refl _, fun k' m' h1 h2 => by omega⟩ ?_ ?_
    · rintro k σ H2 hk ⟨v5, v6, v7, rfl, s2, hno⟩
      walk_at "s"
      refine ⟨_, _, rfl, ⟨by omega, by omega, by omega, by omega⟩, ?_⟩
      refine for_range (fun m σ H' => ∃ v6 v7, σ = [some (.ref p), some (.ref l), some (.int (i : Int)), some (.int (j : Int)), some (.int n), some (.int ((i : Int) + (k : Int))), v6, v7] ∧ Same H H' ∧ ∀ m', i + k < m' → m' < i + k + 1 + m → ¬ dear (pri rs) xs n (i + k) m')
        ⟨_, _, rfl, s2, fun m' h1 h2 => by omega⟩ ?_ ?_
      · rintro m σ H3 hm ⟨v6, v7, rfl, s3, hno2⟩
        walk_at "s"
        refine ⟨p, d, l, rs, xs, i + k, i + k + 1 + m, _, _, rfl, by omega, by omega, hT.same s3, s3.seq hs, by omega, by omega, fun H4 s4 => ?_⟩
        have s04 := Same.trans s3 s4
        walk_at "s"
        have next : ¬ dear (pri rs) xs n (i + k) (i + k + 1 + m) → ∀ m', i + k < m' → m' < i + k + 1 + (m + 1) → ¬ dear (pri rs) xs n (i + k) m' := fun c m' h1 h2 => by
          by_cases e : m' = i + k + 1 + m
          · rw [e]; exact c
          · exact hno2 m' h1 (by omega)
        cases e : stp (pri rs) xs (i + k) (i + k + 1 + m) with
        | none =>
          walk_at "s"
          exact ⟨_, _, rfl, s04, next fun ⟨q0, e0, _⟩ => by rw [e] at e0; cases e0⟩
        | some r =>
          walk_at "s"
          refine ifD (fun c1 => ?_) (fun c1 => ?_)
          · have hd : dear (pri rs) xs n (i + k) (i + k + 1 + m) := ⟨r, e, c1⟩
            walk_at "s"
            refine ⟨(by simp), fun t H5 ht s5 h5 => ?_⟩
            refine q (some (i + k, i + k + 1 + m)) _ _ ⟨by omega, by omega, by omega, hd, fun k' m' h1 h2 h3 h4 => hno k' m' h1 h2 h3 h4, fun m' h1 h2 => hno2 m' h1 h2⟩ ⟨t, rfl, ?_⟩ (Same.trans s04 s5)
            rw [h5, show ((i : Int) + (k : Int)) = ((i + k : Nat) : Int) by omega, show (((i + k : Nat) : Int) + 1 + (m : Int)) = ((i + k + 1 + m : Nat) : Int) by omega]
          · exact ⟨_, _, rfl, s04, next fun ⟨q0, e0, h0⟩ => by rw [e] at e0; cases e0; exact c1 h0⟩
      · rintro σ H3 ⟨v6, v7, rfl, s3, hno2⟩
        refine ⟨_, _, _, rfl, s3, fun k' m' h1 h2 h3 h4 => ?_⟩
        by_cases e : k' = i + k
        · rw [e] at h3 ⊢
          exact hno2 m' h3 (by omega)
        · exact hno k' m' h1 (by omega) h3 h4
    · rintro σ H2 ⟨v5, v6, v7, rfl, s2, hno⟩
      walk_at "s"
      exact q none _ _ (fun k' m' h1 h2 h3 => hno k' m' h1 (by omega) h2 h3) rfl s2
theorem ok_fault_of {f : Addr} {fd : FuncData} (F : Fun K "fault_of" "fault_of" s_fault_of f fd) (T : Txt K mg a) (D_stretch_price : Dn Pg w K mg base 2 "stretch_price" ["tariff", "places", "at", "to"] (spSP K a)) (D_first_twice : Dn Pg w K mg base 1 "first_twice" ["places", "at", "to"] (spFT K))
    (D_first_dearer : Dn Pg w K mg base 3 "first_dearer" ["tariff", "places", "at", "to", "price"] (spFD K a)) : FnOk Pg w K mg base (L2N.CX Pg w) 4 f fd ["tariff", "places", "at", "to"] (spFO K a) := by
  refine F.okN sc_fault_of (fun vs H Q E h => ?_) (fun cdv A outer s H vs Q E hr h => ?_)
  · obtain ⟨_, _, _, _, _, _, _, _, _, rfl, _⟩ := h
    rfl
  · obtain ⟨p, d, l, rs, xs, i, j, i', j', rfl, rfl, rfl, hT, hs, hij, hj, hlen, q⟩ := h
    refine ⟨_, (pss_cons (ps_set (i := 4) sc_fault_of.nd rfl (by first | exact Or.inl rfl | exact Or.inr rfl) (pe_fnS D_stretch_price (hr.mono (by decide)) passC (pa_cons (pv 0) (pa_cons (pv 1) (pa_cons (pv 2) (pa_cons (pv 3) pa_nil))))))
      (pss_cons (ps_if (pt_cmpR op_isN (pv 4) pe_non (nomark _)) (pss_one (ps_ret (pe_tupN (pa_cons pe_str pa_nil)))) pss_nil)
      (pss_cons (ps_set (i := 5) sc_fault_of.nd rfl (by first | exact Or.inl rfl | exact Or.inr rfl) (pe_fnS D_first_twice (hr.mono (by decide)) passC (pa_cons (pv 1) (pa_cons (pv 2) (pa_cons (pv 3) pa_nil)))))
      (pss_cons (ps_if (pt_cmpR op_notN (pv 5) pe_non (nomark _)) (pss_one (ps_ret (pe_tupN (pa_cons pe_str (pa_cons (pv 5) pa_nil))))) pss_nil)
      (pss_cons (ps_set (i := 6) sc_fault_of.nd rfl (by first | exact Or.inl rfl | exact Or.inr rfl) (pe_fnS D_first_dearer (hr.mono (by decide)) passC (pa_cons (pv 0) (pa_cons (pv 1) (pa_cons (pv 2) (pa_cons (pv 3) (pa_cons (pv 4) pa_nil)))))))
      (pss_cons (ps_if (pt_cmpR op_notN (pv 6) pe_non (nomark _)) (pss_cons (ps_asg (pv 6) (pg_tup rfl (pgs_cons (pg_name (i := 7) sc_fault_of.nd rfl (by first | exact Or.inl rfl | exact Or.inr rfl)) (pgs_cons (pg_name (i := 8) sc_fault_of.nd rfl (by first | exact Or.inl rfl | exact Or.inr rfl)) pgs_nil))))
        (pss_one (ps_ret (pe_tupN (pa_cons pe_str (pa_cons (pv 7) (pa_cons (pv 8) pa_nil))))))) pss_nil)
      (pss_one (ps_ret pe_non)))))))), ?_⟩
    walk_at "s"
    refine ⟨p, d, l, rs, xs, i, j, _, _, rfl, rfl, rfl, hT, hs, by omega, hj, fun H1 s1 => ?_⟩
    walk_at "s"
    cases e : stp (pri rs) xs i j with
    | none =>
      walk_at "s"
      refine iteT ?_
      walk_at "s"
      refine ⟨(by simp), fun t H2 ht s2 h2 => ?_⟩
      exact q .price _ _ (.price e) ⟨t, rfl, h2⟩ (Same.trans s1 s2)
    | some n =>
      walk_at "s"
      refine ⟨l, xs, i, j, _, _, rfl, rfl, rfl, s1.seq hs, by omega, hj, hlen, fun r H2 hr2 s2 => ?_⟩
      have s12 := Same.trans s1 s2
      walk_at "s"
      cases r with
      | some k =>
        obtain ⟨h1, h2, h3, h4⟩ := hr2
        walk_at "s"
        refine ⟨(by simp), fun t H3 ht s3 h5 => ?_⟩
        exact q (.twice k) _ _ (.twice e h1 h2 h3 h4) ⟨t, rfl, h5⟩ (Same.trans s12 s3)
      | none =>
        have hno : ∀ l, i ≤ l → l ≤ j → ¬ again xs i l := hr2
        walk_at "s"
        refine ⟨p, d, l, rs, xs, i, j, _, _, n, rfl, rfl, rfl, hT.same s12, s12.seq hs, by omega, hj, hlen, fun r v H3 hd hv s3 => ?_⟩
        have s13 := Same.trans s12 s3
        walk_at "s"
        cases r with
        | none =>
          have ev : v = .non := hv
          subst ev
          walk_at "s"
          exact q .none _ _ (.none e hno hd) rfl s13
        | some km =>
          obtain ⟨k, m⟩ := km
          obtain ⟨h1, h2, h3, h4, h5, h6⟩ := hd
          obtain ⟨t, rfl, ht⟩ := hv
          walk_at "s"
          refine ⟨_, _, rfl, SqT.of ht, rfl, _, _, rfl, _, _, rfl, rfl, ?_⟩
          walk_at "s"
          refine ⟨(by simp), fun u H4 hu s4 h7 => ?_⟩
          exact q (.dearer k m) _ _ (.dearer e hno h1 h2 h3 h4 h5 h6) ⟨u, rfl, h7⟩ (Same.trans s13 s4)
end
end Fb

namespace Fb
open PySem PySem.Spec PyProof.Rows L2
/-- the scope of a statement's list comprehension -/
def lcRaw (d : Scope) : Stmt → Scope
  | .Return (some (.ListComp _ _ sc _)) _ => sc
  | .Assign _ (.ListComp _ _ sc _) _ => sc
  | _ => d
def lcSc (d : Scope) (st : Stmt) : Scope := { lcRaw d st with names := (lcRaw d st).names.map fun (n, k) => if (k == .free && d.kind == .function && d.names.lookup n == some .cell) then (n, .cell) else (n, k) }
/-! ### a < b < c < d -/
def tChain3 (r r' r'' : R2) (ta tb tc td : TE) : TE := fun σ H Q => ta σ H fun x H1 => tb σ H1 fun y H2 => r x y H2 fun z H3 => ∃ k, z = .bl k ∧
  (if k = true then tc σ H3 fun w' H4 => r' y w' H4 fun z2 H5 => ∃ k2, z2 = .bl k2 ∧ (if k2 = true then td σ H5 fun u' H6 => r'' w' u' H6 Q else Q (.bl false) H5) else Q (.bl false) H3)
section
variable {X : Cx} {a b c d : Expr} {ta tb tc td : TE} {pos : Pos}
theorem pe_chain3 {op op' op'' : CmpOp} {r r' r'' : R2} (ho : OpR X (compareOp op) r) (ho' : OpR X (compareOp op') r') (ho'' : OpR X (compareOp op'') r'') (ha : PE X a ta) (hb : PE X b tb) (hc : PE X c tc) (hd : PE X d td)
    (hm : lastMarks [op, op', op''] [b, c, d] = false := by with_unfolding_all rfl) : PE X (.Compare a [op, op', op''] [b, c, d] pos) (tChain3 r r' r'' ta tb tc td) := by
  refine ⟨fun pins s σ H Q I h => ?_⟩
  refine Compare_chain (thn (ha.run pins s σ H _ I h) fun v s1 ⟨x, H1, I1, r1, q1⟩ => chain_link (thn (hb.run pins s1 σ H1 _ I1 q1) fun u s2 ⟨y, H2, I2, r2, q2⟩ =>
    thn (ho pins s2 σ H2 x y v u _ I2 r1 r2 q2) fun g s3 ⟨z, H3, I3, r3, k, e, q3⟩ => ?_)) hm
  subst e
  cases r3
  refine wpAny_truthy_bool ?_
  cases k with
  | false => exact ite_ff ⟨.bl false, H3, I3, rfl, q3⟩
  | true =>
    refine ite_tt (chain_link (thn (hc.run pins s3 σ H3 _ I3 q3) fun w' s4 ⟨z', H4, I4, r4, q4⟩ => thn (ho' pins s4 σ H4 y z' u w' _ I4 r2 r4 q4) fun g' s5 ⟨z2, H5, I5, r5, k2, e2, q5⟩ => ?_))
    subst e2
    cases r5
    refine wpAny_truthy_bool ?_
    cases k2 with
    | false => exact ite_ff ⟨.bl false, H5, I5, rfl, q5⟩
    | true => exact ite_tt (chain_last (thn (hd.run pins s5 σ H5 _ I5 q5) fun w'' s6 ⟨z'', H6, I6, r6, q6⟩ => ho'' pins s6 σ H6 z' z'' w' w'' Q I6 r4 r6 q6))
theorem pt_chain3 {op op' op'' : CmpOp} {r r' r'' : R2} (ho : OpR X (compareOp op) r) (ho' : OpR X (compareOp op') r') (ho'' : OpR X (compareOp op'') r'') (ha : PE X a ta) (hb : PE X b tb) (hc : PE X c tc) (hd : PE X d td)
    (hm : lastMarks [op, op', op''] [b, c, d] = false := by with_unfolding_all rfl) : PT X (.Compare a [op, op', op''] [b, c, d] pos) (tTest (tChain3 r r' r'' ta tb tc td)) := by
  refine ⟨fun pins s σ H Q I h => ?_⟩
  refine isTrue_chain (thn (ha.run pins s σ H _ I h) fun v s1 ⟨x, H1, I1, r1, q1⟩ => test_link (thn (hb.run pins s1 σ H1 _ I1 q1) fun u s2 ⟨y, H2, I2, r2, q2⟩ =>
    thn (ho pins s2 σ H2 x y v u _ I2 r1 r2 q2) fun g s3 ⟨z, H3, I3, r3, k, e, q3⟩ => ?_)) hm
  subst e
  cases r3
  refine wpAny_truthy_bool ?_
  cases k with
  | false =>
    obtain ⟨k', e', q'⟩ := q3
    cases e'
    exact ite_ff ⟨H3, I3, q'⟩
  | true =>
    refine ite_tt (test_link (thn (hc.run pins s3 σ H3 _ I3 q3) fun w' s4 ⟨z', H4, I4, r4, q4⟩ => thn (ho' pins s4 σ H4 y z' u w' _ I4 r2 r4 q4) fun g' s5 ⟨z2, H5, I5, r5, k2, e2, q5⟩ => ?_))
    subst e2
    cases r5
    refine wpAny_truthy_bool ?_
    cases k2 with
    | false =>
      obtain ⟨k', e', q'⟩ := q5
      cases e'
      exact ite_ff ⟨H5, I5, q'⟩
    | true =>
      refine ite_tt (test_last (thn (hd.run pins s5 σ H5 _ I5 q5) fun w'' s6 ⟨z'', H6, I6, r6, q6⟩ => thn (ho'' pins s6 σ H6 z' z'' w' w'' _ I6 r4 r6 q6) fun d' s7 ⟨z3, H7, I7, r7, k3, e3, q7⟩ => ?_))
      subst e3
      cases r7
      exact wpAny_truthy_bool ⟨H7, I7, q7⟩
end
/-! ### [f(x) for x in range(..) if p(x)] -/
section
variable {tt : TT} {te : TE} {vs : List Nat} {σ : L2.St} {H1 : Hp} {D : Addr} {Qd : Hp → Prop}
theorem lc_pickR {lo : Int} {n j : Nat} (pf : Nat → Bool) (f : Nat → V) (hD : H1 D = none) (hn : n ≤ 90000) (hw : ∀ v, wipe ((wipe σ vs).set j (some v)) vs = wipe σ vs)
    (ht : ∀ i H, i < n → Same H1 H → ∀ Q : Bool → Hp → Prop, (∀ H', Same H H' → Q (pf i) H') → tt ((wipe σ vs).set j (some (.int (lo + i)))) H Q)
    (he : ∀ i H, i < n → Same H1 H → ∀ Q : VK, (∀ H', Same H H' → Q (f i) H') → te ((wipe σ vs).set j (some (.int (lo + i)))) H Q)
    (hd : ∀ H, Same H1 H → H D = some (.lst (pick pf f n)) → Qd H) :
    ∃ W : Nat → Nat → Hp → Prop, (∃ m, W 0 m (upd H1 D (.lst []))) ∧ ∀ i m H, W i m H →
      ((Itr lo n).stop i H ∧ Qd H) ∨ ((Itr lo n).go i H ∧ ∃ Nx : Hp → Prop, (∀ H', Nx H' → ∃ m', m' < m ∧ W (i + 1) m' H') ∧ ∀ x H', (Itr lo n).yld i H x H' → (gName j) x (wipe σ vs) H' fun σ2 H2 => wipe σ2 vs = wipe σ vs ∧ tt σ2 H2 fun b H3 =>
        if b = true then te σ2 H3 fun y H4 => ∃ acc, H4 D = some (.lst acc) ∧ acc.length < sizeLine ∧ Nx (upd H4 D (.lst (acc ++ [y]))) else Nx H3) := by
  refine ⟨fun i m H => m = n - i ∧ i ≤ n ∧ Same H1 H ∧ H D = some (.lst (pick pf f i)), ⟨n, by simp, Nat.zero_le _, same_new hD, upd_same⟩, ?_⟩
  rintro i m H ⟨rfl, hi, s1, hl⟩
  by_cases hlt : i < n
  · refine .inr ⟨hlt, fun H' => Same H1 H' ∧ H' D = some (.lst (pick pf f (i + 1))), fun H' p' => ⟨n - (i + 1), by omega, rfl, hlt, p'⟩, fun y H' yl => ?_⟩
    obtain ⟨rfl, rfl⟩ := yl
    refine ⟨hw _, ht i _ hlt s1 _ fun H2 s2 => ?_⟩
    have e := pick_succ pf f i
    have hl2 := s2 _ _ hl
    cases hp : pf i with
    | true =>
      refine iteT (he i H2 hlt (Same.trans s1 s2) _ fun H3 s3 => ⟨_, s3 _ _ hl2, szlt ?_, same_mut (Same.trans (Same.trans s1 s2) s3) hD, ?_⟩)
      · have := pick_le pf f i; omega
      · rw [upd_same, e, hp, if_pos rfl]
    | false =>
      refine iteF ⟨Same.trans s1 s2, ?_⟩
      rw [e, hp, if_neg Bool.false_ne_true]
      exact hl2
  · have e : i = n := by omega
    subst e
    exact .inl ⟨Nat.le_refl _, hd H s1 hl⟩
end
theorem refs_of : ∀ {ys : List V} {R : Nat → Addr → Prop}, (∀ (i : Nat) v, ys[i]? = some v → ∃ t, v = .ref t ∧ R i t) → ∃ ts : List Addr, ys = ts.map V.ref ∧ ∀ (i : Nat) t, ts[i]? = some t → R i t
  | [], _, _ => ⟨[], rfl, fun i t h => by simp at h⟩
  | y :: r, R, h => by
    obtain ⟨t, e, h0⟩ := h 0 y rfl
    obtain ⟨ts, e2, h2⟩ := refs_of (ys := r) (R := fun i t => R (i + 1) t) fun i v hv => h (i + 1) v (by simpa using hv)
    refine ⟨t :: ts, by rw [e, e2]; rfl, fun i u hu => ?_⟩
    cases i with
    | zero =>
      have e3 : t = u := by simpa using hu
      rw [← e3]; exact h0
    | succ i => exact h2 i u (by simpa using hu)
/-! ### where the stretches from a place end that hold -/
noncomputable def heldN (P : Pri) (xs : List Str) (i : Nat) : List Nat := ((List.range (xs.length - (i + 1))).filter fun k => hb P xs i (i + 1 + k)).map fun k => i + 1 + k
noncomputable def heldV (P : Pri) (xs : List Str) (i : Nat) : List V := (heldN P xs i).map fun j : Nat => V.int (j : Int)
theorem heldV_pick {P : Pri} {xs : List Str} {i : Nat} : pick (fun k => hb P xs i (i + 1 + k)) (fun k => V.int ((i + 1 + k : Nat) : Int)) (xs.length - (i + 1)) = heldV P xs i := by
  unfold heldV heldN pick
  rw [List.map_map]
  rfl
theorem mem_heldN {P : Pri} {xs : List Str} {i j : Nat} : j ∈ heldN P xs i ↔ i < j ∧ j < xs.length ∧ Holds P xs i j := by
  unfold heldN
  rw [List.mem_map]
  constructor
  · rintro ⟨k, hk, rfl⟩
    obtain ⟨h1, h2⟩ := List.mem_filter.mp hk
    exact ⟨by omega, by have := List.mem_range.mp h1; omega, hb_iff.mp h2⟩
  · rintro ⟨h1, h2, h3⟩
    refine ⟨j - (i + 1), List.mem_filter.mpr ⟨List.mem_range.mpr (by omega), ?_⟩, by omega⟩
    rw [show i + 1 + (j - (i + 1)) = j by omega]
    exact hb_true h3
theorem heldN_le {P : Pri} {xs : List Str} {i : Nat} : (heldN P xs i).length ≤ xs.length := by
  unfold heldN
  rw [List.length_map]
  refine Nat.le_trans (List.length_filter_le _ _) ?_
  rw [List.length_range]
  omega
end Fb

namespace Fb
open PySem PySem.Spec PyProof.Rows L2
local macro_rules | `(tactic| walk_at "s") => `(tactic| repeat (first | refine ⟨_, rfl, ?_⟩ | refine ⟨_, _, rfl, rfl, ?_⟩ | refine ⟨_, _, rfl, Or.inl (by assumption), ?_⟩ | refine ⟨rfl, ?_⟩ | refine ⟨(by decide : (0 : Int) < _), ?_⟩ | refine ⟨⟨by decide, by decide⟩, ?_⟩ | refine ⟨_, _, _, rfl, (by assumption), (by first | decide | omega), ?_⟩))
def spHeld (K : PySem.W.Frag) (a : Ads) (P : Addr) : Sp := fun vs H Q _ => ∃ (p d l : Addr) (rs : List Row) (xs : List Str), vs = [.ref p, .ref l] ∧ TarAt a.Tariff H p d rs ∧ SqL K H l (xs.map V.str) ∧ GoodJ xs ∧ H P = some (TabO P) ∧
  ∀ (q : Addr) (ts : List Addr) (H' : Hp), H q = none → Same H H' → H' q = some (.lst (ts.map V.ref)) → ts.length = xs.length → (∀ (i : Nat) t, ts[i]? = some t → H t = none ∧ t ≠ q ∧ H' t = some (.lst (heldV (pri rs) xs i))) → Q (.ref q) H'
abbrev s_held : Stmt := topS 25
abbrev N_held : List Str := ["tariff", "journey", "places", "many", "at", "to"]
theorem sc_held : FnScope N_held ["tariff", "journey"] (defScope s_held) := ⟨rfl, rfl, rfl, by decide +kernel, rfl, by decide +kernel, by decide +kernel⟩
section
variable {Pg : Program} {w : World} {K : PySem.W.Frag} {mg : Str → Option Value} {base : Heap} {a : Ads}
theorem ok_held {f P : Addr} {fd : FuncData} (F : Fun K "held" "held" s_held f fd) (T : Txt K mg a) (D_need_journey : Dn Pg w K mg base 3 "need_journey" ["places"] (spNeed K a P)) (D_fault_of : Dn Pg w K mg base 4 "fault_of" ["tariff", "places", "at", "to"] (spFO K a)) :
    FnOk Pg w K mg base (L2N.CX Pg w) 5 f fd ["tariff", "journey"] (spHeld K a P) := by
  refine F.okN sc_held (fun vs H Q E h => ?_) (fun cdv A outer s H vs Q E hr h => ?_)
  · obtain ⟨_, _, _, _, _, rfl, _⟩ := h
    rfl
  · obtain ⟨p, d, l, rs, xs, rfl, hT, hs, hg, hP, q⟩ := h
    have h40 := hg.hi
    refine ⟨_, (pss_cons (ps_set (i := 2) sc_held.nd rfl (by first | exact Or.inl rfl | exact Or.inr rfl) (pe_fnS D_need_journey (hr.mono (by decide)) (fun σ => L2N.passAt (L2N.takes_of rfl rfl rfl rfl) σ) (pa_cons (pv 1) pa_nil)))
      (pss_cons (ps_set (i := 3) sc_held.nd rfl (by first | exact Or.inl rfl | exact Or.inr rfl) (pe_callB call_len_seq (by rfl) T.n_len (by decide +kernel) (pa_cons (pv 2) pa_nil)))
      (pss_one (ps_ret (pe_lc (own := [("at", 4)]) (g := (gName 4)) (tt := tYes) rfl sc_held.nd (pi_range1 (by rfl) T.n_range (pa_cons (pv 3) pa_nil)) (blkOk_by (own := [("at", 4)]) (N := N_held) (sc := (defScope s_held)) (by decide +kernel)) (fun _ _ _ _ _ => (pg_name (i := 4) sc_held.nd rfl (by first | exact Or.inl rfl | exact Or.inr rfl))) (fun _ _ _ _ _ => pts_nil) (fun _ _ _ _ _ => (pe_lc (own := [("to", 5)]) (g := (gName 5)) (tt := _) rfl sc_held.nd (pi_range2 (by rfl) T.n_range (pa_cons (pe_op op_add (pv 4) pe_int) (pa_cons (pv 3) pa_nil))) (blkOk_by (own := [("to", 5)]) (N := N_held) (sc := (lcSc (defScope s_held) ((defBody s_held).getD 2 (.Pass ⟨0, 0, 0, 0⟩)))) (by decide +kernel)) (fun _ _ _ _ _ => (pg_name (i := 5) sc_held.nd rfl (by first | exact Or.inl rfl | exact Or.inr rfl))) (fun _ _ _ _ _ => pts_one (pt_cmpR op_isN (pe_fnS D_fault_of (hr.mono (by decide)) passC (pa_cons (pv 0) (pa_cons (pv 2) (pa_cons (pv 4) (pa_cons (pv 5) pa_nil))))) pe_non (nomark _))) (fun _ _ _ _ _ => (pv 5))))))))), ?_⟩
    walk_at "s"
    refine ⟨l, _, rfl, hs, by rw [List.length_map]; omega, hg.ask, hP, fun _ m H1 hm s1 h1 => ?_, fun e => absurd hg.due e⟩
    have hs1 : SqL K H1 m (xs.map V.str) := SqL.of h1
    have hT1 := hT.same s1
    walk_at "s"
    rw [List.length_map]
    refine ⟨by omega, by omega, fun D hD => ?_⟩
    refine lc_rangeR (fun i v H' => ∃ t, v = .ref t ∧ t ≠ D ∧ H1 t = none ∧ H' t = some (.lst (heldV (pri rs) xs i))) ?_ hD (by omega) (fun v => rfl) ?_ ?_
    · rintro i v H2 H3 sb ⟨t, e, n, n1, h⟩
      exact ⟨t, e, n, n1, sb _ _ n h⟩
    · intro i H2 acc hi s2 hDl Q2 q2
      have hi2 : i < xs.length := by omega
      walk_at "s"
      refine ⟨_, _, rfl, ⟨by omega, by omega, by omega, by omega⟩, fun D2 hD2 => ?_⟩
      refine lc_pickR (fun k => hb (pri rs) xs i (i + 1 + k)) (fun k => V.int ((i + 1 + k : Nat) : Int)) hD2 (by omega) (fun v => rfl) ?_ ?_ ?_
      · intro k H3 hk s3 Q3 q3
        have s13 := Same.trans s2 s3
        walk_at "s"
        refine ⟨p, d, m, rs, xs, i, i + 1 + k, _, _, rfl, by omega, by omega, hT1.same s13, s13.seq hs1, by omega, by omega, by omega, fun f v H4 hf hv s4 => ?_⟩
        walk_at "s"
        have e : decide (v = V.non) = hb (pri rs) xs i (i + 1 + k) := by
          cases f with
          | none => rw [hb_true hf, decide_eq_true (hv.non.mpr rfl)]
          | price => rw [hf.hb (fun z => by cases z), decide_eq_false fun z => by have := hv.non.mp z; cases this]
          | twice _ => rw [hf.hb (fun z => by cases z), decide_eq_false fun z => by have := hv.non.mp z; cases this]
          | dearer _ _ => rw [hf.hb (fun z => by cases z), decide_eq_false fun z => by have := hv.non.mp z; cases this]
        rw [e]
        exact q3 _ s4
      · intro k H3 hk s3 Q3 q3
        walk_at "s"
        rw [show ((0 : Int) + (i : Int) + 1 + (k : Int)) = ((i + 1 + k : Nat) : Int) by omega]
        exact q3 _ (Same.refl _)
      · intro H3 s3 hDl2
        have e0 : (((xs.length : Int) - (0 + (i : Int) + 1)).toNat) = xs.length - (i + 1) := by omega
        rw [e0, heldV_pick] at hDl2
        exact q2 _ _ s3 ⟨D2, rfl, (ne_of_none hDl hD2).symm, s2.free hD2, hDl2⟩
    · intro H2 ys s2 hDl hl hr
      rw [show (Int.toNat (xs.length : Int)) = xs.length by omega] at hl
      obtain ⟨ts, rfl, hts⟩ := refs_of hr
      rw [List.length_map] at hl
      refine q D ts H2 (s1.free hD) (Same.trans s1 s2) hDl hl fun i t ht => ?_
      obtain ⟨n, n1, h⟩ := hts i t ht
      exact ⟨s1.free n1, n, h⟩
end
end Fb

namespace Fb
open PySem PySem.Spec PyProof.Rows L2
/-! ### x.split(' ') -/
def rSplitN : V → List V → Hp → VK → Prop := fun x xs H Q => ∃ a b, x = .str a ∧ xs = [.str b] ∧ (b.length == 0) = false ∧ a.length ≤ 100000 ∧ ∀ p H', H p = none → Same H H' → H' p = some (.lst ((Txt.split a b).map V.str)) → Q (.ref p) H'
theorem mt_splitN {X : Cx} : MtR X "str.split" rSplitN := fun pins s σ H x xs v us Q I rx rs ⟨a, b, e1, e2, e3, hl, q⟩ => mt_split pins s σ H x xs v us Q I rx rs ⟨a, b, e1, e2, e3, Nat.le_trans (Nat.add_le_add_right hl 2) (by decide), fun p hp => q p _ hp (same_new hp) upd_same⟩
theorem pe_splitN {X : Cx} {o e : Expr} {to te : TE} {apos pos : Pos} (ho : PE X o to) (he : PE X e te) (hs : starEach [e] X.env = [(false, eval e X.env)] := by rfl) (hbase : attributeBase o "split" X.env (eval o X.env) = eval o X.env := by rfl) (hline : (apos.endLine == pos.line) = true := by rfl) :
    PE X (.Call (.Attribute o "split" apos) [e] [] pos) (tM1 rSplitN to te) := pe_m1 F.slot_str_split F.type_str_split mt_splitN ho he hs hbase hline
theorem inV_str {k : Str} : ∀ {l : List Str}, inV (.str k) (l.map V.str) = decide (k ∈ l)
  | [] => by simp [inV]
  | x :: l => by
    have ih := inV_str (k := k) (l := l)
    unfold inV at ih ⊢
    rw [List.map_cons, List.any_cons, ih, Bool.eq_iff_iff, Bool.or_eq_true, decide_eq_true_iff, decide_eq_true_iff, List.mem_cons]
    refine or_congr ?_ Iff.rfl
    show (eqV (.str x) (.str k)) = true ↔ _
    simp [eqV]
    try exact ⟨fun h => h.symm, fun h => h.symm⟩
theorem flat_strs (l : List Str) : (l.map V.str).all flatV = true := by
  rw [List.all_eq_true]
  intro v hv
  obtain ⟨x, _, rfl⟩ := List.mem_map.mp hv
  rfl
/-! ### lines -/
abbrev blankS : Str := Str.ofString " "
theorem blank_tl : TL.tl blankS = [32] := by decide +kernel
def wds (z : Str) : List Str := Txt.split z blankS
def digit (c : Nat) : Bool := decide (48 ≤ c) && decide (c ≤ 57)
def isFig (z : Str) : Bool := decide (1 ≤ z.length) && decide (z.length ≤ 13) && (if z.cps.toList.head? = some 48 then decide (z.cps.toList = [48]) else z.cps.toList.all digit)
def empS : Str := Str.ofString ""
theorem empS_iff {z : Str} : z = empS ↔ z.cps.toList = [] := by
  have e : empS.cps.toList = [] := by decide +kernel
  exact ⟨fun h => by rw [h]; exact e, fun h => str_ext (by rw [h, e])⟩
def parseL (z : Str) : Option Row := match wds z with
  | [a, b, c] => if a = empS ∨ b = empS ∨ c = empS then none else if isFig c = true then some (a, b, ((NumText.digitsVal c.cps.toList : Nat) : Int)) else none
  | _ => none
def numS (n : Int) : Str := Str.ofString (toString n)
def lineOf (r : Row) : Str := r.1 ++ blankS ++ r.2.1 ++ blankS ++ numS r.2.2
theorem wds_three {a b c : Str} (ha : 32 ∉ a.cps.toList) (hb : 32 ∉ b.cps.toList) (hc : 32 ∉ c.cps.toList) : wds (a ++ blankS ++ b ++ blankS ++ c) = [a, b, c] := by
  have e : a ++ blankS ++ b ++ blankS ++ c = Txt.join blankS [a, b, c] := by
    refine TL.ext_tl ?_
    rw [TL.join_eq, TL.tl_join, TL.tl_append, TL.tl_append, TL.tl_append, TL.tl_append, blank_tl]
    show _ = TL.tl a ++ ([32] ++ (TL.tl b ++ ([32] ++ TL.tl c)))
    simp only [List.append_assoc]
  rw [e]
  unfold wds
  refine TL.split_join (s := 32) (S := []) blank_tl (by decide +kernel) (by simp) fun p hp => ?_
  simp only [List.mem_cons, List.not_mem_nil, or_false] at hp
  rcases hp with rfl | rfl | rfl
  · exact ha
  · exact hb
  · exact hc
theorem isP_noblank {z : Str} (h : isP (.str z) = true) : 32 ∉ z.cps.toList := fun hm => by
  have h1 : (decide (1 ≤ z.length) && decide (z.length ≤ 12) && z.cps.toList.all letter) = true := h
  simp only [Bool.and_eq_true] at h1
  have := List.all_eq_true.mp h1.2 32 hm
  revert this; decide
theorem isP_ne {z : Str} (h : isP (.str z) = true) : z ≠ empS := fun e => by
  rw [e] at h; revert h; decide +kernel
theorem isP_len {z : Str} (h : isP (.str z) = true) : 1 ≤ z.length ∧ z.length ≤ 12 := by
  have h1 : (decide (1 ≤ z.length) && decide (z.length ≤ 12) && z.cps.toList.all letter) = true := h
  simp only [Bool.and_eq_true, decide_eq_true_eq] at h1
  exact h1.1
theorem num_head : ∀ {m : Nat}, 0 < m → (TL.numL m).head? ≠ some 48 := by
  intro m
  induction m using Nat.strongRecOn with
  | _ m ih =>
    intro h
    by_cases c : m < 10
    · rw [TL.numL_lt c]
      simp
      omega
    · rw [TL.numL_step (by omega)]
      have i := ih (m / 10) (by omega) (by omega)
      cases e : TL.numL (m / 10) with
      | nil => exact absurd e (TL.numL_ne _)
      | cons x r =>
        rw [e] at i
        simpa using i
theorem numS_nat (m : Nat) : (numS (m : Int)).cps.toList = TL.numL m := TL.tl_num m
theorem fig_num {n : Int} (h : isC (.int n) = true) : isFig (numS n) = true ∧ ((NumText.digitsVal (numS n).cps.toList : Nat) : Int) = n ∧ (numS n).length ≤ 13 ∧ numS n ≠ empS ∧ 32 ∉ (numS n).cps.toList := by
  have h1 : (decide (0 ≤ n) && decide (n ≤ 1000000000000)) = true := h
  simp only [Bool.and_eq_true, decide_eq_true_eq] at h1
  obtain ⟨m, rfl⟩ : ∃ m : Nat, n = (m : Int) := ⟨n.toNat, by omega⟩
  have hl : (TL.numL m).length ≤ 13 := TL.numL_len (by decide) (by omega)
  have hn := TL.numL_ne m
  have hlen : (numS (m : Int)).length = (TL.numL m).length := by rw [len_tl, numS_nat]
  refine ⟨?_, by rw [numS_nat, TL.numL_val], by rw [hlen]; exact hl, fun e => ?_, by rw [numS_nat]; exact TL.numL_free (by omega)⟩
  · unfold isFig
    have p : 1 ≤ (TL.numL m).length := by
      cases e : TL.numL m with
      | nil => exact absurd e hn
      | cons _ _ => simp
    rw [hlen, decide_eq_true p, decide_eq_true hl, numS_nat]
    by_cases c : m = 0
    · subst c; decide +kernel
    · rw [if_neg (num_head (by omega))]
      show (true && true && (TL.numL m).all digit) = true
      rw [Bool.and_self, Bool.true_and]
      refine List.all_eq_true.mpr fun x hx => ?_
      have := TL.numL_digits m x hx
      unfold digit
      rw [decide_eq_true this.1, decide_eq_true this.2]; rfl
  · have := empS_iff.mp e
    rw [numS_nat] at this
    exact hn this
theorem parse_line {r : Row} (g : GoodRow r) : parseL (lineOf r) = some r := by
  obtain ⟨f1, f2, f3, f4, f5⟩ := fig_num g.c
  unfold parseL lineOf
  rw [wds_three (isP_noblank g.p1) (isP_noblank g.p2) f5]
  dsimp only
  rw [if_neg (fun h => by
    rcases h with h | h | h
    · exact isP_ne g.p1 h
    · exact isP_ne g.p2 h
    · exact f4 h), if_pos f1, f2]
theorem line_len {r : Row} (g : GoodRow r) : (lineOf r).length ≤ 39 := by
  obtain ⟨_, _, f3, _, _⟩ := fig_num g.c
  have h1 := (isP_len g.p1).2
  have h2 := (isP_len g.p2).2
  have b : blankS.length = 1 := by decide +kernel
  unfold lineOf
  rw [len_app, len_app, len_app, len_app, b]
  omega
theorem log_price {n : Int} (h : isC (.int n) = true) : n.natAbs.log2 < 1920 := by
  have h1 : (decide (0 ≤ n) && decide (n ≤ 1000000000000)) = true := h
  simp only [Bool.and_eq_true, decide_eq_true_eq] at h1
  have h2 : n.natAbs < 2 ^ 40 := by
    have : (2 : Nat) ^ 40 = 1099511627776 := by decide
    omega
  by_cases z : n.natAbs = 0
  · rw [z]; decide
  · exact Nat.lt_trans ((Nat.log2_lt z).mpr h2) (by decide)
theorem btw_digit (c : Nat) : (!decide (([c] : List Nat) < (Str.ofString "0").cps.toList) && !decide ((Str.ofString "9").cps.toList < ([c] : List Nat))) = digit c := by
  have e1 : (Str.ofString "0").cps.toList = [48] := by decide +kernel
  have e2 : (Str.ofString "9").cps.toList = [57] := by decide +kernel
  rw [e1, e2]
  have h1 : (([c] : List Nat) < [48]) ↔ c < 48 := by
    constructor
    · intro h
      cases h with
      | rel h => exact h
      | cons h => cases h
    · intro h; exact List.Lex.rel h
  have h2 : (([57] : List Nat) < [c]) ↔ 57 < c := by
    constructor
    · intro h
      cases h with
      | rel h => exact h
      | cons h => cases h
    · intro h; exact List.Lex.rel h
  unfold digit
  have g1 : decide (([c] : List Nat) < [48]) = decide (c < 48) := decide_eq_decide.mpr h1
  have g2 : decide (([57] : List Nat) < [c]) = decide (57 < c) := decide_eq_decide.mpr h2
  rw [g1, g2]
  by_cases a : c < 48 <;> by_cases b : 57 < c <;> simp [a, b] <;> omega
theorem fig_digits {z : Str} (h : isFig z = true) : NumText.AllDigits z.cps.toList ∧ z.cps.toList ≠ [] ∧ z.length ≤ 13 := by
  unfold isFig at h
  simp only [Bool.and_eq_true, decide_eq_true_eq] at h
  obtain ⟨⟨h1, h2⟩, h3⟩ := h
  have hn : z.cps.toList ≠ [] := fun e => by rw [len_tl, e] at h1; simp at h1
  refine ⟨fun c hc => ?_, hn, h2⟩
  by_cases q : z.cps.toList.head? = some 48
  · rw [if_pos q] at h3
    have e : z.cps.toList = [48] := of_decide_eq_true h3
    rw [e] at hc
    rw [List.mem_singleton.mp hc]
    omega
  · rw [if_neg q] at h3
    have := List.all_eq_true.mp h3 c hc
    unfold digit at this
    simp only [Bool.and_eq_true, decide_eq_true_eq] at this
    exact this
theorem fig_int {z : Str} (h : isFig z = true) : intText? z = some ((NumText.digitsVal z.cps.toList : Nat) : Int) ∧ z.length ≤ 640 := by
  obtain ⟨h1, h2, h3⟩ := fig_digits h
  exact ⟨intText_digits h1 h2 (by omega), by omega⟩
theorem split_parts_len {z : Str} : ∀ p ∈ wds z, p.length ≤ z.length ∧ ∀ c ∈ p.cps.toList, c ∈ z.cps.toList := by
  have h : ∀ (S : List Nat) (l : List Nat) (k : Nat) (acc : List Nat) (p : List Nat), p ∈ TL.spl S k acc l → ∃ a b, p = a ++ b ∧ (a = acc ∨ a = []) ∧ b.Sublist l := by
    intro S l
    induction l with
    | nil =>
      intro k acc p hp
      rw [TL.spl_nil] at hp
      rw [List.mem_singleton.mp hp]
      exact ⟨acc, [], by simp, .inl rfl, List.Sublist.refl _⟩
    | cons c r ih =>
      intro k acc p hp
      cases k with
      | succ k =>
        have e : TL.spl S (k + 1) acc (c :: r) = TL.spl S k acc r := rfl
        rw [e] at hp
        obtain ⟨a, b, e1, e2, e3⟩ := ih k acc p hp
        exact ⟨a, b, e1, e2, e3.cons c⟩
      | zero =>
        cases q : TL.pre S (c :: r) with
        | true =>
          rw [TL.spl_hit q] at hp
          rcases List.mem_cons.mp hp with e | e
          · rw [e]; exact ⟨acc, [], by simp, .inl rfl, List.nil_sublist _⟩
          · obtain ⟨a, b, e1, e2, e3⟩ := ih _ [] p e
            exact ⟨a, b, e1, .inr (by rcases e2 with e | e <;> exact e), e3.cons c⟩
        | false =>
          rw [TL.spl_miss q] at hp
          obtain ⟨a, b, e1, e2, e3⟩ := ih 0 (acc ++ [c]) p hp
          rcases e2 with e2 | e2
          · exact ⟨acc, c :: b, by rw [e1, e2]; simp, .inl rfl, e3.cons₂ c⟩
          · exact ⟨[], b, by rw [e1, e2], .inr rfl, e3.cons c⟩
  intro p hp
  have e := TL.split_spl z blankS (by rw [blank_tl]; simp) (TL.kind_ok (by decide +kernel))
  have hm : TL.tl p ∈ (Txt.split z blankS).map TL.tl := List.mem_map.mpr ⟨p, hp, rfl⟩
  rw [e] at hm
  obtain ⟨a, b, e1, e2, e3⟩ := h _ _ _ _ _ hm
  have e4 : p.cps.toList = b := by
    have : TL.tl p = a ++ b := e1
    rcases e2 with e2 | e2 <;> rw [e2] at this <;> simpa using this
  exact ⟨by rw [len_tl, len_tl, e4]; exact e3.length_le, fun c hc => by rw [e4] at hc; exact e3.subset hc⟩
theorem wds_len {z : Str} : (wds z).length ≤ z.length + 2 := split_le z blankS
end Fb

namespace Fb
open PySem PySem.Spec PyProof.Rows L2
/-! ### the ways of an expression joined -/
def tMid (t : TE) : TE := fun σ H Q => ∃ P : V → Hp → Prop, t σ H P ∧ ∀ v H', P v H' → Q v H'
theorem pe_mid {X : Cx} {e : Expr} {t : TE} (h : PE X e t) : PE X e (tMid t) := ⟨fun pins s σ H Q I ⟨P, q, m⟩ => thn (h.run pins s σ H P I q) fun u s1 ⟨v, H1, I1, r, q1⟩ => ⟨v, H1, I1, r, m _ _ q1⟩⟩
/-! ### try, its reading shut -/
def tTryM (K : PySem.W.Frag) (Wout : WX) (l : List (Value × (Addr → Value → Option Addr → TS))) (tb : WX → TS) : TS := fun D σ H => tb (wMany K Wout D l) D σ H
theorem ps_tryM {X : Cx} {body : List Stmt} {h₀ : ExceptHandler} {hds : List ExceptHandler} {l : List (Value × (Addr → Value → Option Addr → TS))} {pos : Pos} {tb : WX → TS} {Wout : WX} (hs : X.stack = X.env :: X.outer) (hf : X.env.frame = some X.env.locals) (tk : L2N.Takes X Wout)
    (hb : ∀ (W : WX) (pn : List (Addr × Obj)) (xe : Value → Shared → Prop), L2N.Takes (X.tr pn xe) W → PassesOwn (model X.prog X.w) X.A X.env xe → PSs (X.tr pn xe) body (tb W))
    (hh : L2N.HdsOk X (h₀ :: hds) l) : PS X (.Try body (h₀ :: hds) [] [] pos) (tTryM X.K Wout l tb) := L2N.ps_try_many hs hf tk hb hh
/-! ### parts of lists -/
def cutX {α : Type} (xs : List α) (lo hi : Option Int) : List α := (xs.drop (HT.sIx xs.length 0 lo)).take (HT.sIx xs.length xs.length hi - HT.sIx xs.length 0 lo)
theorem cutV_map {α : Type} (f : α → V) (xs : List α) (lo hi : Option Int) : cutV (xs.map f) lo hi = (cutX xs lo hi).map f := by
  unfold cutV cutX
  rw [List.length_map, List.map_take, List.map_drop]
theorem cutX_len {α : Type} (xs : List α) (lo hi : Option Int) : (cutX xs lo hi).length = min (HT.sIx xs.length xs.length hi - HT.sIx xs.length 0 lo) (xs.length - HT.sIx xs.length 0 lo) := by
  unfold cutX
  rw [List.length_take, List.length_drop]
theorem cutX_mem {α : Type} {xs : List α} {lo hi : Option Int} {x : α} (h : x ∈ cutX xs lo hi) : x ∈ xs := List.mem_of_mem_drop (List.mem_of_mem_take h)
theorem sIx_neg1 (n d : Nat) : HT.sIx n d (some (-1)) = n - 1 := by
  show (if (-1 : Int) < 0 then ((-1 : Int) + (n : Int)).toNat else min (-1 : Int).toNat n) = n - 1
  rw [if_pos (by decide)]
  omega
theorem sIx_one (n d : Nat) : HT.sIx n d (some 1) = min 1 n := HT.sIx_nat n d 1
theorem eqv_nil2 (xs : List V) : PyData.eqv (.list (xs.map dat)) (.list []) = xs.isEmpty := eqv_nil xs
/-! ### xs[::-1] -/
def tRevLN (K : PySem.W.Frag) (te : TE) : TE := fun σ H Q => te σ H fun x H1 => ∃ a xs, x = .ref a ∧ SqL K H1 a xs ∧ ∀ p H', H1 p = none → Same H1 H' → H' p = some (.lst xs.reverse) → Q (.ref p) H'
theorem pe_revLN {X : Cx} {e : Expr} {te : TE} {k : Nat} {p1 p2 p3 pos : Pos} (he : PE X e te) : PE X (.Subscript e (.Slice none none (some (.UnaryOp .USub (.Constant (.int 1) k p1) p2)) p3) pos) (tRevLN X.K te) :=
  (pe_revL (pe_mid he)).weak fun σ H Q q => ⟨_, q, fun v H1 ⟨a, xs, e1, hx, q1⟩ => ⟨a, xs, e1, hx, fun p hp => q1 p _ hp (same_new hp) upd_same⟩⟩
/-! ### d[k] = v, the heap behind it open -/
theorem dput_go {td q : Addr} {v : V} {H : Hp} {kvs : List (List Key × V)} {k : List Key} {G : Hp → Prop} (h : H td = some (.dT kvs)) (hq : H q = some (.tup (k.map kV))) (hl : kvs.length < 100000)
    (g : ∀ H', SameB td H H' → H' td = some (.dT (putK kvs k v)) → G H') : ∃ a H4, V.ref td = .ref a ∧ DPut H a (.ref q) v H4 ∧ G H4 := ⟨td, _, rfl, DPut.t h hq (szlt hl), g _ sameB_upd upd_same⟩
def toldK (rs : List Row) : List (List Key × V) := rs.map fun r => (wayK r.1 r.2.1, V.bl true)
theorem told_new {rs : List Row} {x y : Str} {n : Int} (h : (x, y) ∉ rs.map fun r => (r.1, r.2.1)) : putK (toldK rs) (wayK x y) (.bl true) = toldK (rs ++ [(x, y, n)]) := by
  rw [putK_new _ (show valV (toldK rs) (wayK x y) = none from way_none (fun _ => V.bl true) h)]
  unfold toldK
  rw [List.map_append]; rfl
theorem told_has {rs : List Row} {x y : Str} : (valV (toldK rs) (wayK x y)).isSome = decide ((x, y) ∈ rs.map fun r => (r.1, r.2.1)) := by
  by_cases h : (x, y) ∈ rs.map fun r => (r.1, r.2.1)
  · rw [decide_eq_true h]
    cases e : valV (toldK rs) (wayK x y) with
    | none => exact absurd h (way_new (fun _ => V.bl true) e)
    | some v => rfl
  · rw [decide_eq_false h, show valV (toldK rs) (wayK x y) = none from way_none (fun _ => V.bl true) h]; rfl
theorem isC_of {n : Int} (h0 : 0 ≤ n) (h1 : n ≤ 1000000000000) : isC (.int n) = true := by
  show (decide (0 ≤ n) && decide (n ≤ 1000000000000)) = true
  rw [decide_eq_true h0, decide_eq_true h1]; rfl
end Fb

namespace Fb
open PySem PySem.Spec PyProof.Rows L2
/-! ### within a suite or a comprehension: rules by K -/
section
variable {X : Cx} {K : PySem.W.Frag}
theorem call_len_seqS (hK : X.K = K := by rfl) : CallR X (.builtin "len") (fun xs H Q => ∃ p ys, xs = [.ref p] ∧ (SqL K H p ys ∨ SqT K H p ys) ∧ Q (.int ys.length) H) := hK ▸ call_len_seq
theorem call_isiS (hK : X.K = K := by rfl) : CallR X (.builtin "isinstance") (rIsi K) := hK ▸ call_isi
theorem op_in_seqS (hK : X.K = K := by rfl) : OpR X (compareOp .In) (rIn K false) := hK ▸ op_in_seq
theorem op_notIn_seqS (hK : X.K = K := by rfl) : OpR X (compareOp .NotIn) (rIn K true) := hK ▸ op_notIn_seq
theorem sl_listNS (hK : X.K = K := by rfl) : SlR X (rSlLN K) := hK ▸ sl_listN
theorem op_catNS (hK : X.K = K := by rfl) : OpR X (binaryOp .Add) (rCatN K) := hK ▸ op_catN
theorem call_list_ofNS (hK : X.K = K := by rfl) : CallR X (.type "list") (rListOfN K) := hK ▸ call_list_ofN
end
/-! ### the law's table asked -/
theorem tab_get {rs : List Row} {xs : List Str} {i j : Nat} : (valV (rs.map rowK) (wayK (xat xs i) (xat xs j))).getD .non = optV (stp (pri rs) xs i j) := look_pri
theorem tab_get0 {rs : List Row} {xs : List Str} {i j : Nat} : (valV (rs.map rowK) (wayK (xat xs i) (xat xs j))).getD (.int 0) = .int ((stp (pri rs) xs i j).getD 0) := by
  show _ = V.int ((pri rs (xat xs i) (xat xs j)).getD 0)
  cases e : pri rs (xat xs i) (xat xs j) with
  | none => rw [show valV (rs.map rowK) (wayK (xat xs i) (xat xs j)) = none from pri_non e]; rfl
  | some n => rw [show valV (rs.map rowK) (wayK (xat xs i) (xat xs j)) = some (.int n) from pri_val e]; rfl
theorem pri_ok {rs : List Row} (g : GoodRows rs) {x y : Str} {n : Int} (h : pri rs x y = some n) : 0 ≤ n ∧ n ≤ 1000000000000 := by
  have h1 : (decide (0 ≤ n) && decide (n ≤ 1000000000000)) = true := (g.ok _ (pri_mem h)).c
  simpa using h1
theorem stp_ok {rs : List Row} (g : GoodRows rs) {xs : List Str} {i j : Nat} {n : Int} (h : stp (pri rs) xs i j = some n) : 0 ≤ n ∧ n ≤ 1000000000000 := pri_ok g h
theorem dear0 {rs : List Row} (g : GoodRows rs) {xs : List Str} {i j k m : Nat} {p : Int} (hp : stp (pri rs) xs i j = some p) : (p < (stp (pri rs) xs k m).getD 0) ↔ dear (pri rs) xs p k m := by
  have h0 := (stp_ok g hp).1
  cases e : stp (pri rs) xs k m with
  | none =>
    constructor
    · intro h
      have h2 : p < 0 := h
      omega
    · rintro ⟨q, e2, _⟩
      rw [e] at e2; cases e2
  | some q =>
    constructor
    · intro h; exact ⟨q, e, h⟩
    · rintro ⟨q', e2, h⟩
      rw [e] at e2; cases e2
      exact h
theorem cut_again {xs : List Str} {i k : Nat} (hik : i ≤ k) (hk : k < xs.length) : xat xs k ∈ cutX xs (some (i : Int)) (some (k : Int)) ↔ again xs i k := by
  have e : cutX xs (some (i : Int)) (some (k : Int)) = (xs.drop i).take (k - i) := by
    unfold cutX
    rw [HT.sIx_nat, HT.sIx_nat, Nat.min_eq_left (show i ≤ xs.length by omega), Nat.min_eq_left (show k ≤ xs.length by omega)]
  rw [e]
  constructor
  · intro h
    obtain ⟨n, hn⟩ := List.getElem?_of_mem h
    have hl := (List.getElem?_eq_some_iff.mp hn).1
    rw [List.length_take, List.length_drop] at hl
    rw [List.getElem?_take_of_lt (by omega), List.getElem?_drop] at hn
    exact ⟨i + n, by omega, by omega, xat_of hn⟩
  · rintro ⟨m, h1, h2, e3⟩
    rw [← e3]
    refine List.mem_of_getElem? (i := m - i) ?_
    rw [List.getElem?_take_of_lt (by omega), List.getElem?_drop, show i + (m - i) = m by omega]
    exact xat_get (by omega)
end Fb

namespace Fb
open PySem PySem.Spec PyProof.Rows L2
theorem modN (x : Int) {n : Nat} (h : 0 < n) : ∃ c : Nat, x % (n : Int) = (c : Int) ∧ c < n := by
  have m0 : 0 ≤ x % (n : Int) := Int.emod_nonneg _ (by omega)
  have m1 : x % (n : Int) < (n : Int) := Int.emod_lt_of_pos _ (by omega)
  exact ⟨(x % (n : Int)).toNat, by omega, by omega⟩
/-- an item of a list of whole numbers, at a rest -/
theorem atI_ints (zs : List Int) {i : Int} (h0 : 0 ≤ i) (h1 : i < zs.length) : ∃ z, atI (zs.map V.int) i = some (.int z) ∧ z ∈ zs := by
  obtain ⟨v, hv, hm⟩ := atI_mem (xs := zs.map V.int) h0 (by rw [List.length_map]; exact h1)
  obtain ⟨z, hz, rfl⟩ := List.mem_map.mp hm
  exact ⟨z, hv, hz⟩
theorem eqV_str {x k : Str} : eqV (.str x) (.str k) = decide (x = k) := by
  rw [Bool.eq_iff_iff, decide_eq_true_iff]
  simp [eqV]
theorem first_at {xs : List Str} (y : Str) : ∀ n : Nat, (∀ i, i < n → xat xs i ≠ y) ∨ ∃ m, m < n ∧ xat xs m = y ∧ ∀ i, i < m → xat xs i ≠ y
  | 0 => .inl fun i hi => absurd hi (Nat.not_lt_zero _)
  | n + 1 => by
    rcases first_at y n with h | ⟨m, h1, h2, h3⟩
    · by_cases c : xat xs n = y
      · exact .inr ⟨n, by omega, c, h⟩
      · refine .inl fun i hi => ?_
        by_cases e : i = n
        · rw [e]; exact c
        · exact h i (by omega)
    · exact .inr ⟨m, by omega, h2, h3⟩
theorem first_at' {xs : List Str} {k : Nat} : ∃ m, m ≤ k ∧ xat xs m = xat xs k ∧ ∀ i, i < m → xat xs i ≠ xat xs k := by
  rcases first_at (xs := xs) (xat xs k) (k + 1) with h | ⟨m, h1, h2, h3⟩
  · exact absurd rfl (h k (by omega))
  · exact ⟨m, by omega, h2, h3⟩
theorem pick_mem {pf : Nat → Bool} {f : Nat → V} {n : Nat} {v : V} (h : v ∈ pick pf f n) : ∃ i, i < n ∧ pf i = true ∧ v = f i := by
  obtain ⟨i, hi, rfl⟩ := List.mem_map.mp h
  obtain ⟨h1, h2⟩ := List.mem_filter.mp hi
  exact ⟨i, List.mem_range.mp h1, h2, rfl⟩
theorem take_snoc {α : Type} {xs : List α} {i : Nat} {x : α} (h : xs[i]? = some x) : xs.take i ++ [x] = xs.take (i + 1) := by
  rw [List.take_succ, h]; rfl
theorem nd_fresh {rs : List Row} {i : Nat} {r : Row} (g : GoodRows rs) (h : rs[i]? = some r) : (r.1, r.2.1) ∉ (rs.take i).map fun r => (r.1, r.2.1) := by
  have h2 := (good_take g (i + 1)).nd
  rw [← take_snoc h, List.map_append, List.nodup_append] at h2
  exact fun hm => h2.2.2 _ hm _ (by simp) rfl
end Fb

set_option Elab.async false
set_option linter.all false
set_option maxRecDepth 100000
set_option maxHeartbeats 4000000
/-! ### len(set(xs)), xs a list of any texts -/
namespace Fb
open PySem PySem.Spec PyProof.Rows
/-- how many the set holds once the first i texts are in -/
def Met (P : Program) (w : World) (xs : List Str) (h : Heap) (D : Addr) (i : Nat) : Prop := ∃ c, c ≤ i ∧ (c = i ↔ (xs.take i).Nodup) ∧ h.SetOf (PySem.strKind P w) D (fun k => decide (k ∈ xs.take i)) c
theorem Met.at {P : Program} {w : World} {xs : List Str} {h h' : Heap} {D : Addr} {i : Nat} (m : Met P w xs h D i) (k : ∀ o, h.get? D = some o → h'.get? D = some o) : Met P w xs h' D i := by
  obtain ⟨c, h1, h2, o, es, ep, t, ho, r⟩ := m
  exact ⟨c, h1, h2, o, es, ep, t, k _ ho, r⟩
theorem nd_snoc {xs : List Str} {i : Nat} {x : Str} (h : xs[i]? = some x) : (xs.take (i + 1)).Nodup ↔ x ∉ xs.take i ∧ (xs.take i).Nodup := by
  rw [← take_snoc h, List.nodup_append]
  constructor
  · rintro ⟨a, _, b⟩
    exact ⟨fun m => b _ m x (by simp) rfl, a⟩
  · rintro ⟨a, b⟩
    refine ⟨b, by simp, fun y hy z hz e => ?_⟩
    rw [List.mem_singleton.mp hz] at e
    rw [e] at hy; exact a hy
theorem Met.step {P : Program} {w : World} {xs : List Str} {h : Heap} {D : Addr} {i c : Nat} {x : Str} (hx : xs[i]? = some x) (h1 : c ≤ i) (h2 : c = i ↔ (xs.take i).Nodup)
    (s : h.SetOf (PySem.strKind P w) D (fun k => decide (k ∈ xs.take i) || decide (k = x)) (if decide (x ∈ xs.take i) = true then c else c + 1)) : Met P w xs h D (i + 1) := by
  refine ⟨_, ?_, ?_, PyProof.Rows.SetOf_congr s (fun k => ?_) rfl⟩
  · split <;> omega
  · rw [nd_snoc hx]
    by_cases m : x ∈ xs.take i
    · rw [if_pos (decide_eq_true m)]
      exact ⟨fun e => by omega, fun e => absurd m e.1⟩
    · rw [if_neg (by simpa using m)]
      exact ⟨fun e => ⟨m, h2.mp (by omega)⟩, fun e => by rw [h2.mpr e.2]⟩
  · show (decide (k ∈ xs.take i) || decide (k = x)) = decide (k ∈ xs.take (i + 1))
    rw [← take_snoc hx]
    simp [List.mem_append]
section
variable {P : Program} {w : World} {A : Around} {E : Value → Shared → Prop} {s : Shared}
theorem strs_loop {I : Addr} {fp wr : List Addr} {G : Array GenState → Array GenState → Prop} {n : Nat} {Pv : Nat → Value → Prop} {St : Nat → Shared → Prop} {R : Result → Shared → Prop}
    (W : WalksS P w A.in1 I fp wr G n Pv St) (D : Addr) (hD : D ∉ fp) (xs : List Str) (hn : n = xs.length) (hb : xs.length + 1 < scanBound) (hv : ∀ i v, Pv i v → ∃ z t, xs[i]? = some z ∧ v = .str z t) :
    ∀ (k i : Nat) (s : Shared), n = i + k → St i s → Met P w xs s.heap D i → (∀ s', Moved (D :: wr) G s s' → Met P w xs s'.heap D n → R (.ok (.ret .none)) s') →
      codeAny (model P w) A (.builtin "set.update.loop" ⟨[.ref D, .ref I], []⟩) R s
  | 0, i, s, e, hst, hm, q => by
    obtain rfl : n = i := e
    refine codeAny_builtin PyProof.Rows.F.entry_set_update_loop ?_
    rw [Around.under_plainId PyProof.Rows.F.plain_set_update_loop _]
    show wpAny _ A.in1 (pyNext (.ref I) >>= _) _ _ s
    refine wpAny_bind (W.done s _ _ hst fun s' mv => ?_)
    show wpAny _ A.in1 (ret Value.none) _ _ s'
    exact wpAny_pure (q s' (mv.mono fun b hb => List.mem_cons_of_mem _ hb) (hm.at fun o e => mv.heap D o (fun h => hD (W.sub _ h)) e))
  | k + 1, i, s, e, hst, hm, q => by
    refine codeAny_builtin PyProof.Rows.F.entry_set_update_loop ?_
    rw [Around.under_plainId PyProof.Rows.F.plain_set_update_loop _]
    show wpAny _ A.in1 (pyNext (.ref I) >>= _) _ _ s
    refine wpAny_bind (W.item i s _ _ (by omega) hst fun v s' hP hst' mv => ?_)
    obtain ⟨z, t, hz, rfl⟩ := hv i v hP
    obtain ⟨c, h1, h2, h3⟩ := hm.at (h' := s'.heap) fun o e => mv.heap D o (fun h => hD (W.sub _ h)) e
    show wpAny _ A.in1 (holding [Value.str z t] (setAdd D (.str z t)) >>= _) _ _ s'
    refine wpAny_bind (wpAny_holding ?_)
    unfold setAdd
    refine wpAny_holding (wpAny_bind ((PySem.strKind P w).pyHash (k := z) (strKind_is _ _ _ _) ?_))
    refine wpAny_setAddHashed_of (knd := PySem.strKind P w) (s := { s' with toks := s'.toks + 1 }) (strKind_is _ _ _ _) rfl h3 (by unfold scanBound at hb ⊢; omega) fun h' sb hS => ?_
    refine wpAny_pure ⟨plainId_quiet PyProof.Rows.F.plain_set_update_loop _, strs_loop W D hD xs hn hb hv k (i + 1) _ (by omega) (W.frame _ s' _ _ hst' (Nat.le_succ _) fun b hb o e => ?_) (Met.step hz h1 h2 hS) fun s'' mv2 hm2 => ?_⟩
    · rw [sb.2 b (fun h : b = D => hD (by rw [← h]; exact hb))]; exact e
    · refine q s'' (Moved.trans W.gtrans ((mv.mono fun b hb => List.mem_cons_of_mem _ hb).then_heap (Nat.le_succ _) fun b o hb e => ?_) mv2) hm2
      rw [sb.2 b (fun h : b = D => hb (by rw [h]; exact List.mem_cons_self))]; exact e
/-- an empty set -/
abbrev set0 (led : Bool) : Obj := { cls := .type "set", dict := none, data := .set #[] 0 (.fresh 0 0 led) }
theorem set_of_strs {l : Addr} {items : Array Value} {xs : List Str} {Q : Value → Shared → Prop} (hh : A.handled = none) (hl : s.heap.IsList l items) (hi : StrsAre items.toList xs) (hb : xs.length + 1 < scanBound)
    (h : ∀ (h' : Heap) (tk : Nat), Met P w xs h' s.heap.objs.size xs.length → (∀ b o, b < s.heap.objs.size → s.heap.get? b = some o → h'.get? b = some o) → Q (.ref s.heap.objs.size) { s with heap := h', toks := tk }) :
    wpAny (model P w) A (call (.type "set") [.ref l]) Q E s := by
  have hlen : xs.length = items.size := by rw [← StrsAre.len_eq hi, Array.length_toList]
  obtain ⟨_, _, _⟩ := PySem.F.called_set.mro
  have := PySem.F.called_set.made
  have := PySem.F.called_set.sub
  have := PySem.F.called_set.notType
  have := PySem.F.called_set.canCreate
  have := PySem.F.typeCall_set_1 (.ref l)
  refine wpAny_call (codeAny_of_tree ?_)
  show wpAny _ _ (callAny (.type "set") _) _ _ _
  refine wpAny_pure ⟨Code.quiet_builtin _ (by decide +kernel), codeAny_builtin PySem.F.entry_type_call ?_⟩
  rw [Around.under_plain (weight_type_call_type "set" [.ref l] []) rfl]
  repeat (any_goals (first | assumption | wp_step))
  refine codeAny_mono (code_set_new_1 (.ref l) (E := E) (Q₁ := fun obj s₁ => ∃ led : Bool, obj = .ref s.heap.objs.size ∧ s₁ = { s with heap := s.heap.push (set0 led) }) fun led => ⟨led, rfl, rfl⟩) fun r s₁ hr => ?_
  match r, hr with
  | .error _, hr => exact hr
  | .ok (.ret obj), hr =>
    obtain ⟨led, rfl, rfl⟩ := hr
    have hS : (s.heap.push (set0 led)).get? s.heap.objs.size = some (set0 led) := Heap.get?_push_size _ rfl
    have hT : Shared.TypeIs { s with heap := s.heap.push (set0 led) } (.ref s.heap.objs.size) "set" := ⟨_, hS, rfl⟩
    have := PySem.F.called_set.init.lookup
    have := PySem.F.called_set.init.bind (.ref s.heap.objs.size)
    repeat (any_goals (first | assumption | wp_step))
    refine codeAny_mono (codeAny_call_builtin (R := wants (fun r s₂ => r = .none ∧ ∃ h' tk, s₂ = { s with heap := h', toks := tk } ∧ Met P w xs h' s.heap.objs.size xs.length ∧ (∀ b o, b < s.heap.objs.size → s.heap.get? b = some o → h'.get? b = some o)) E)
      PySem.F.called_set.init.plain PySem.F.entry_set_init (check_set_init_1 hT ?_)) fun r₂ s₂ hr₂ => ?_
    · obtain ⟨⟨_, _, _, _⟩, hol, rfl, nl, rfl⟩ := hl
      have hl1 : (s.heap.push (set0 led)).IsList l items := ⟨_, Heap.get?_push_of_some _ hol, rfl, nl, rfl⟩
      have hol' := Heap.get?_push_of_some (set0 led) hol
      have := PySem.F.sub_list_set
      have := PySem.F.sub_list_frozenset
      have : (Value.type "list" == Value.type "dict") = false := by decide
      unfold Builtin.«set.__init__» noKeywords Builtin.Frozenset.updateFrom
      generalize e : pyIter = it
      wp_walk
      subst e
      have lt : l < s.heap.objs.size := Heap.lt_size hol
      have n1 : l ≠ (s.heap.push (set0 led)).objs.size := by rw [Heap.size_push]; exact Nat.ne_of_lt (Nat.lt_succ_of_lt lt)
      refine wpAny_pyIter_list hl1 (wpAny_bind (wpAny_runValue ?_))
      refine strs_loop ((Walks.list (by simp [hh]) _ l n1 items).toS) s.heap.objs.size (fun h => by
        rcases List.mem_cons.mp h with h | h
        · rw [Heap.size_push] at h; exact absurd h (Nat.ne_of_lt (Nat.lt_succ_self _))
        · exact absurd (List.mem_singleton.mp h) (Nat.ne_of_gt lt)) xs hlen.symm hb (fun i v hv => ?_) items.size 0 _ (by omega)
        ⟨⟨_, Heap.get?_push_size _ rfl, rfl, rfl⟩, hl1.push _⟩ ⟨0, Nat.le_refl _, by simp, ?_⟩ fun s' mv hm => ?_
      · have hi' : i < xs.length := by rw [hlen]; exact (Array.getElem?_eq_some_iff.mp hv).1
        obtain ⟨t, e⟩ := SS.strs_at hi i v (by rw [Array.getElem?_toList]; exact hv)
        exact ⟨_, t, List.getElem?_eq_getElem hi', by rw [e, List.getD_eq_getElem?_getD, List.getElem?_eq_getElem hi']; rfl⟩
      · exact SetOf_congr ((setObjOf_fresh (knd := PySem.strKind P w) led).setOf (Heap.get?_push_of_some _ hS) (by unfold scanBound; decide)) (fun k => by simp) rfl
      · obtain ⟨h', g', d', tk', os'⟩ := s'
        obtain rfl : g' = s.gens := mv.gens
        obtain rfl : d' = s.drawn := mv.drawn
        obtain rfl : os' = s.os := mv.os
        show wpAny _ _ _ _ _ _
        refine wpAny_pure ?_
        show wpAny _ _ (ret Value.none) _ _ _
        refine wpAny_pure ⟨rfl, h', tk', rfl, by rw [hlen]; exact hm, fun b o hb e => mv.heap b o ?_ (Heap.get?_push_of_some _ (Heap.get?_push_of_some _ e))⟩
        intro h
        rcases List.mem_cons.mp h with h | h
        · exact absurd h (Nat.ne_of_lt hb)
        · rw [List.mem_singleton.mp h, Heap.size_push] at hb
          exact absurd hb (Nat.not_lt.mpr (Nat.le_succ _))
    · match r₂, hr₂ with
      | .error _, hr₂ => exact hr₂
      | .ok (.ret _), ⟨e, h', tk, e2, hm, hk⟩ =>
        subst e; subst e2
        repeat (any_goals (first | assumption | wp_step))
        exact h _ _ hm hk
      | .ok .next, hr₂ => exact hr₂.elim
      | .ok .brk, hr₂ => exact hr₂.elim
      | .ok .cont, hr₂ => exact hr₂.elim
  | .ok .next, hr => exact hr.elim
  | .ok .brk, hr => exact hr.elim
  | .ok .cont, hr => exact hr.elim
end
end Fb

namespace Fb
open PySem PySem.Spec PyProof.Rows L2
/-- len(set(xs)), xs a list of texts: as many as xs has just if none comes twice -/
def tLenSetN (K : PySem.W.Frag) (ta : TE) : TE := fun σ H Q => ta σ H fun x H1 => ∃ (l : Addr) (xs : List Str), x = .ref l ∧ SqL K H1 l (xs.map V.str) ∧ xs.length ≤ 1000 ∧ ∀ c : Nat, c ≤ xs.length → (c = xs.length ↔ xs.Nodup) → Q (.int (c : Nat)) H1
theorem pe_lenSetN {X : Cx} {a : Expr} {ta : TE} {p p2 q pos : Pos} (hc : X.calm = true) (hg : Gl X "len") (hm : X.mg "len" = none) (hg2 : Gl X "set") (hm2 : X.mg "set" = none) (ha : PE X a ta)
    (na : starEach [a] X.env = (false, eval a X.env) :: starEach [] X.env := by rfl) : PE X (.Call (.Name "len" p) [.Call (.Name "set" p2) [a] [] q] [] pos) (tLenSetN X.K ta) := by
  refine ⟨fun pins s σ H Q I h => ?_⟩
  refine Call_ (ld_blt I hg hm boot_len (callWith_builtin1 (args_cons ?_ rfl) rfl rfl))
  refine Call_ (ld_blt I hg2 hm2 boot_set (callWith_type1 (args_cons (thn (ha.run pins s σ H _ I h) fun v s1 ⟨x, H1, I1, r1, q1⟩ => args_nil ?_) na) na rfl))
  obtain ⟨l, xs, rfl, hq, hl, q1⟩ := q1
  cases r1
  obtain ⟨its, r, pl, hz⟩ := I1.list hq
  refine set_of_strs (xs := xs) (I1.ok.hd hc) pl.isList (by simpa using strsAre_of r) (by unfold scanBound; omega) fun h' tk hM hk => ?_
  obtain ⟨c, c1, c2, o, es, ep, t, ho, hex, hd, h1, h2, h3, hf, hn⟩ := hM
  refine args_nil ?_
  have I2 : Inv X pins σ H1 { s1 with heap := h', toks := tk } := I1.kept fun b o e => hk b o (Heap.lt_size e) e
  rw [List.take_length] at c2
  exact call_len_set ho hex hd hf (by rw [hn] <;> omega) ⟨.int c, H1, I2.tok _, ⟨_, by rw [hn]⟩, q1 c c1 c2⟩
end Fb

namespace Fb
open PySem PySem.Spec PyProof.Rows L2
/-! ### lists of lists -/
def listsD (n : Nat) (f : Nat → List V) : List PyData := (List.range n).map fun i => .list ((f i).map dat)
theorem listsD_succ (n : Nat) (f : Nat → List V) : listsD (n + 1) f = .list ((f 0).map dat) :: listsD n fun i => f (i + 1) := by
  unfold listsD
  rw [List.range_succ_eq_map, List.map_cons, List.map_map]; rfl
theorem dp_lists {K : PySem.W.Frag} {H : Hp} : ∀ {ts : List Addr} {f : Nat → List V}, (∀ i t, ts[i]? = some t → SqL K H t (f i)) → (∀ i v, i < ts.length → v ∈ f i → flat v) → DpAll K H (ts.map V.ref) (listsD ts.length f)
  | [], f, _, _ => .nil
  | t :: ts, f, h, g => by
    rw [List.length_cons, listsD_succ]
    exact .cons (.lst (h 0 t rfl) (dpAll_flat fun v hv => g 0 v (Nat.succ_pos _) hv)) (dp_lists (fun i t ht => h (i + 1) t (by simpa using ht)) fun i v hi hv => g (i + 1) v (by rw [List.length_cons]; omega) hv)
theorem lay_lists : ∀ {n : Nat} {f : Nat → List V}, (∀ i v, i < n → v ∈ f i → flat v) → PyData.canLayAll0 (listsD n f) = true ∧ PyData.depthAll (listsD n f) ≤ 1
  | 0, f, _ => ⟨by simp [listsD, PyData.canLayAll0], by simp [listsD, PyData.depthAll]⟩
  | n + 1, f, g => by
    have h1 := layAll_flat (fun v hv => g 0 v (Nat.succ_pos _) hv)
    have h2 := lay_lists (n := n) (f := fun i => f (i + 1)) fun i v hi hv => g (i + 1) v (by omega) hv
    have e1 : PyData.canLay0 (.list ((f 0).map dat)) = true := by rw [PyData.canLay0, h1.1]
    have e2 : PyData.depth (.list ((f 0).map dat)) = 1 := by rw [PyData.depth, h1.2]
    rw [listsD_succ]
    refine ⟨?_, ?_⟩
    · rw [PyData.canLayAll0, e1, h2.1]; rfl
    · rw [PyData.depthAll, e2]
      exact Nat.max_le.mpr ⟨Nat.le_refl _, h2.2⟩
theorem shaped_lists {n : Nat} {f : Nat → List V} (g : ∀ i v, i < n → v ∈ f i → flat v) : SeqAt.shaped (.list (listsD n f)) = true := by
  have h := lay_lists g
  unfold SeqAt.shaped
  rw [PyData.canLay0, h.1, PyData.depth]
  rw [decide_eq_true (show PyData.depthAll (listsD n f) + 1 ≤ 64 by omega)]; rfl
end Fb

set_option Elab.async false
set_option linter.all false
set_option maxRecDepth 100000
set_option maxHeartbeats 4000000
/-! ### list(zip(a, b)), a and b lists -/
namespace Fb
open PySem PySem.Spec PyProof.Rows L2
theorem zip_no_len : typeLookup (.type "zip") "__len__" = pure none := by rw [typeLookup_type, builtinLookup_eq_fast]; kernel_rfl
theorem zip_no_hint : typeLookup (.type "zip") "__length_hint__" = pure none := by rw [typeLookup_type, builtinLookup_eq_fast]; kernel_rfl
/-- the zip after i pairs: its result is its own still, or it is out and known to H -/
def ZAt (z TI TO i1 i2 a b : Addr) (i : Nat) (H : Hp) (h : Heap) : Prop := IsPair h TI (.ref i1) (.ref i2) ∧ h.IsListIter i1 a i ∧ h.IsListIter i2 b i ∧
  TO < h.objs.size ∧ ((IsZip h z TI TO .none ∧ ∃ u v, IsPair h TO u v) ∨ ∃ T f xs, IsZipHeld h z TI TO T f ∧ H T = some (.tup xs))
/-- the pairs at Ts -/
def PairsAt (H : Hp) (Ts : List Addr) (xs ys : List V) : Prop := ∀ (j : Nat) T x y, Ts[j]? = some T → xs[j]? = some x → ys[j]? = some y → H T = some (.tup [x, y])
section
variable {X : Cx} {pins : List (Addr × Obj)} {σ : L2.St} {A : Around} {R : Result → Shared → Prop} {z TI TO i1 i2 a b D : Addr} {xs ys : List V} {res : Value}
theorem zip_drain (hh : A.handled = none) (za : ZipApart z TI TO i1 i2 a b) (nD : D ∉ [z, TI, TO, i1, i2]) (na : a ≠ D) (nb : b ≠ D) (hs : min xs.length ys.length ≤ 1000) :
    ∀ (k i : Nat) (s : Shared) (H : Hp) (Ts : List Addr), min xs.length ys.length = i + k → Inv X pins σ H s → (∀ c ∈ [z, TI, TO, i1, i2], FpOk X pins H c) → ZAt z TI TO i1 i2 a b i H s.heap → SqL X.K H a xs → SqL X.K H b ys →
      H D = some (.lst (Ts.map V.ref)) → Ts.length = i → PairsAt H Ts xs ys →
      (∀ s' H' Ts', Inv X pins σ H' s' → SameB D H H' → H' D = some (.lst (Ts'.map V.ref)) → Ts'.length = min xs.length ys.length → PairsAt H' Ts' xs ys → R (.ok (.ret res)) s') →
      codeAny (model X.prog X.w) A (.builtin "list.extend.loop" ⟨[.ref D, .ref z, res], []⟩) R s
  | 0, i, s, H, Ts, e, I, hf, ⟨hTI, h1, h2, hTOl, hz⟩, hqx, hqy, hD, hl, hp, q => by
    obtain ⟨its, rv, p, _⟩ := I.list hqx
    obtain ⟨its2, rv2, p2, _⟩ := I.list hqy
    have l1 := rv.length
    have l2 := rv2.length
    have he : its.toArray[i]? = none ∨ its2.toArray[i]? = none := by
      by_cases c : xs.length ≤ ys.length
      · exact .inl (by simp; omega)
      · exact .inr (by simp; omega)
    refine codeAny_builtin F.entry_extend_loop ?_
    rw [Around.under_plainId F.plain_extend_loop _]
    show wpAny _ A.in1 (pyNext (.ref z) >>= _) _ _ s
    refine wpAny_bind ?_
    have fin : ∀ h', (∀ c o, c ≠ z → c ≠ TO → c ≠ i1 → c ≠ i2 → s.heap.get? c = some o → h'.get? c = some o) → R (.ok (.ret res)) { s with heap := h' } := fun h' hk =>
      q _ H Ts (I.turnedL (t' := s.toks) (ch := [z, TI, TO, i1, i2]) (fun c o hb e => hk c o (fun q' => hb (by simp [q'])) (fun q' => hb (by simp [q'])) (fun q' => hb (by simp [q'])) (fun q' => hb (by simp [q'])) e) hf) SameB.refl hD (by omega) hp
    rcases hz with ⟨hz, u, v, hTO⟩ | ⟨T, f, us, hz, hT⟩
    · exact wpAny_pyNext_zip_end hh za hz hTI hTO h1 h2 p.isList p2.isList he fun h' hk => wpAny_pure (fin h' hk)
    · obtain ⟨_, _, _, oT, hoT, _⟩ := I.hok T _ hT
      exact wpAny_pyNext_zip_end_held hh za hz hoT hTI h1 h2 p.isList p2.isList he fun h' hk => wpAny_pure (fin h' fun c o c1 _ c3 c4 => hk c o c1 c3 c4)
  | k + 1, i, s, H, Ts, e, I, hf, ⟨hTI, h1, h2, hTOl, hz⟩, hqx, hqy, hD, hl, hp, q => by
    obtain ⟨its, rv, p, _⟩ := I.list hqx
    obtain ⟨its2, rv2, p2, _⟩ := I.list hqy
    have hx : xs[i]? = some xs[i] := List.getElem?_eq_getElem (by omega)
    have hy : ys[i]? = some ys[i] := List.getElem?_eq_getElem (by omega)
    obtain ⟨u, hu, ru⟩ := rv.get hx
    obtain ⟨u2, hu2, ru2⟩ := rv2.get hy
    generalize hxi : xs[i] = x at hx ru
    generalize hyi : ys[i] = y at hy ru2
    refine codeAny_builtin F.entry_extend_loop ?_
    rw [Around.under_plainId F.plain_extend_loop _]
    show wpAny _ A.in1 (pyNext (.ref z) >>= _) _ _ s
    refine wpAny_bind ?_
    have Tn : H s.heap.objs.size = none := I.hok.fresh (Nat.le_refl _)
    have TD : s.heap.objs.size ≠ D := fun e => by rw [e, hD] at Tn; cases Tn
    have step : ∀ h' f us, (∀ c o, c ≠ z → c ≠ TO → c ≠ i1 → c ≠ i2 → s.heap.get? c = some o → h'.get? c = some o) → IsZipHeld h' z TI TO us f → (us = s.heap.objs.size ∨ ∃ vs, H us = some (.tup vs)) → h'.objs.size = s.heap.objs.size + 1 →
        h'.IsListIter i1 a (i + 1) → h'.IsListIter i2 b (i + 1) → IsPair h' s.heap.objs.size u u2 →
        ∃ acc n, h'.get? D = some { cls := .type "list", data := .seq acc n } ∧ acc.size = i ∧ codeAny (model X.prog X.w) A (.builtin "list.extend.loop" ⟨[.ref D, .ref z, res], []⟩) R { s with heap := h'.update D (Obj.mapSeq (·.push (.ref s.heap.objs.size))) } := fun h' f us hk hzh hfo hsz h1' h2' hT => by
      have new : ObjOk X.prog X.w (upd H s.heap.objs.size (.tup [x, y])) h' s.heap.objs.size (.tup [x, y]) := ⟨by show 2 ≤ sizeLine; decide, [u, u2], .cons ru (.cons ru2 .nil), ⟨_, hT, rfl, _, rfl⟩⟩
      have I1 : Inv X pins σ (upd H s.heap.objs.size (.tup [x, y])) { s with heap := h' } :=
        I.turnedNew (t' := s.toks) (ch := [z, TI, TO, i1, i2]) (fun c o hb e => hk c o (fun q' => hb (by simp [q'])) (fun q' => hb (by simp [q'])) (fun q' => hb (by simp [q'])) (fun q' => hb (by simp [q'])) e) hf (Nat.le_refl _) new
      have s1 : Same H (upd H s.heap.objs.size (.tup [x, y])) := same_new Tn
      obtain ⟨_, itD, nD', rD, lD, eD⟩ := I1.lstM (s1 _ _ hD)
      refine ⟨_, _, eD, by rw [List.size_toArray, ← lD, List.length_map]; exact hl, ?_⟩
      have I2 := I1.lset (t' := s.toks) (f := (·.push (.ref s.heap.objs.size))) (its' := itD ++ [.ref s.heap.objs.size]) (s1 _ _ hD) eD (by simp) (ys := (Ts ++ [s.heap.objs.size]).map V.ref) (by rw [List.map_append]; exact rD.append (.cons rfl .nil)) (by rw [List.length_map, List.length_append, sizeLine_eq]; show _ + 1 ≤ _; omega)
      have sb : SameB D H (upd (upd H s.heap.objs.size (.tup [x, y])) D (.lst ((Ts ++ [s.heap.objs.size]).map V.ref))) := fun c o n e => by rw [upd_ne n]; exact s1 _ _ e
      have hlt : ∀ c ∈ [z, TI, TO, i1, i2], c ≠ s.heap.objs.size := fun c hc => by
        have e' : c = z ∨ c = TI ∨ c = TO ∨ c = i1 ∨ c = i2 := by simpa using hc
        rcases e' with e | e | e | e | e
        · rw [e]
          rcases hz with ⟨hz, _⟩ | ⟨_, _, _, hz, _⟩
          · exact Nat.ne_of_lt (Heap.lt_size hz)
          · exact Nat.ne_of_lt (Heap.lt_size hz)
        · rw [e]; exact Nat.ne_of_lt (Heap.lt_size hTI)
        · rw [e]; exact Nat.ne_of_lt hTOl
        · rw [e]; obtain ⟨_, e1, _⟩ := h1; exact Nat.ne_of_lt (Heap.lt_size e1)
        · rw [e]; obtain ⟨_, e1, _⟩ := h2; exact Nat.ne_of_lt (Heap.lt_size e1)
      have away : ∀ c ∈ [z, TI, TO, i1, i2], ∀ o, h'.get? c = some o → (h'.update D (Obj.mapSeq (·.push (.ref s.heap.objs.size)))).get? c = some o := fun c hc o e => (Heap.get?_update_other _ _ (fun e' => nD (by rw [e']; exact hc))).trans e
      refine zip_drain hh za nD na nb hs k (i + 1) _ _ (Ts ++ [s.heap.objs.size]) (by omega) I2 (fun c hc => ⟨?_, (hf c hc).2⟩) ⟨away _ (by simp) _ (hk _ _ za.TIz za.TITO za.TIi1 za.TIi2 hTI), h1'.at fun o e => away _ (by simp) o e, h2'.at fun o e => away _ (by simp) o e, ?_, .inr ⟨us, f, ?_⟩⟩ (keep_l sb na hqx) (keep_l sb nb hqy) upd_same (by rw [List.length_append, hl]; rfl) ?_ fun s' H' Ts' I' sb' hD' hl' hp' => q s' H' Ts' I' (sb.trans sb') hD' hl' hp'
      · rw [upd_ne (fun e => nD (by rw [← e]; exact hc)), upd_ne (hlt c hc)]
        exact (hf c hc).1
      · rw [Heap.size_update, hsz]; exact Nat.lt_succ_of_lt hTOl
      · rcases hfo with rfl | ⟨vs, hvs⟩
        · exact ⟨_, away _ (by simp) _ hzh, by rw [upd_ne TD]; exact upd_same⟩
        · exact ⟨vs, away _ (by simp) _ hzh, sb _ _ (ne_of hvs hD (by intro z; cases z)) hvs⟩
      · intro j T x' y' hj hx' hy'
        by_cases c : j < i
        · rw [List.getElem?_append_left (by omega)] at hj
          have := hp j T x' y' hj hx' hy'
          exact sb _ _ (ne_of this hD (by intro z; cases z)) this
        · have hj2 := (List.getElem?_eq_some_iff.mp hj).1
          rw [List.length_append, hl] at hj2
          have ej : j = i := by
            have : j < i + 1 := hj2
            omega
          subst ej
          rw [← hl, List.getElem?_concat_length] at hj
          cases hj
          rw [hx] at hx'; cases hx'
          rw [hy] at hy'; cases hy'
          rw [upd_ne TD]; exact upd_same
    rcases hz with ⟨hz, v1, v2, hTO⟩ | ⟨T, f, us, hz, hT⟩
    · refine wpAny_pyNext_zip_item za hz hTI hTO h1 h2 p.isList p2.isList (x := u) (y := u2) (by simpa using hu) (by simpa using hu2) fun h' z' TO' h1' h2' hT hsz hk => ?_
      obtain ⟨acc, n, eD, ha, hc⟩ := step h' false _ hk z' (.inl rfl) hsz h1' h2' hT
      show wpAny _ A.in1 (updateSeq D (·.push (.ref s.heap.objs.size)) >>= _) _ _ _
      refine wpAny_bind (wpAny_updateSeq eD rfl (wpAny_pure ⟨plainId_quiet F.plain_extend_loop _, hc⟩) (by rw [ha, sizeLine_eq]; omega) (by show (acc.push _).size ≤ sizeLine + 1; rw [Array.size_push, ha, sizeLine_eq]; omega))
    · obtain ⟨_, _, _, oT, hoT, _⟩ := I.hok T _ hT
      refine wpAny_pyNext_zip_item_held za hz hoT hTI h1 h2 p.isList p2.isList (x := u) (y := u2) (by simpa using hu) (by simpa using hu2) fun h' z' h1' h2' hT2 hsz hk => ?_
      obtain ⟨acc, n, eD, ha, hc⟩ := step h' true _ (fun c o c1 _ c3 c4 => hk c o c1 c3 c4) z' (.inr ⟨_, hT⟩) hsz h1' h2' hT2
      show wpAny _ A.in1 (updateSeq D (·.push (.ref s.heap.objs.size)) >>= _) _ _ _
      refine wpAny_bind (wpAny_updateSeq eD rfl (wpAny_pure ⟨plainId_quiet F.plain_extend_loop _, hc⟩) (by rw [ha, sizeLine_eq]; omega) (by show (acc.push _).size ≤ sizeLine + 1; rw [Array.size_push, ha, sizeLine_eq]; omega))
end
end Fb

set_option Elab.async false
set_option linter.all false
set_option maxRecDepth 100000
set_option maxHeartbeats 4000000
namespace Fb
open PySem PySem.Spec PyProof.Rows L2
theorem nl {X : Cx} {pins : List (Addr × Obj)} {σ : L2.St} {H : Hp} {s : Shared} {xs : List V} (I : Inv X pins σ H s) (h : SqL X.K H s.heap.objs.size xs) {P : Prop} (_ : s = s) : P := by
  obtain ⟨_, _, p, _⟩ := I.list h
  exact absurd p.lt (Nat.lt_irrefl _)
section
variable {X : Cx} {pins : List (Addr × Obj)} {σ : L2.St} {z TI TO i1 i2 a b : Addr} {xs ys : List V} {s : Shared} {H : Hp} {Q : VK}
theorem call_list_zip (hc : X.A.handled = none) (za : ZipApart z TI TO i1 i2 a b) (hs : min xs.length ys.length ≤ 1000) (I : Inv X pins σ H s) (hf : ∀ c ∈ [z, TI, TO, i1, i2], FpOk X pins H c) (hlt : ∀ c ∈ [z, TI, TO, i1, i2], c < s.heap.objs.size)
    (hz : IsZip s.heap z TI TO .none) (hTI : IsPair s.heap TI (.ref i1) (.ref i2)) (hTO : ∃ u v, IsPair s.heap TO u v) (h1 : s.heap.IsListIter i1 a 0) (h2 : s.heap.IsListIter i2 b 0) (hqx : SqL X.K H a xs) (hqy : SqL X.K H b ys)
    (q : ∀ (D : Addr) (H' : Hp) (Ts : List Addr), H D = none → Same H H' → H' D = some (.lst (Ts.map V.ref)) → Ts.length = min xs.length ys.length → PairsAt H' Ts xs ys → Q (.ref D) H') :
    wpAny (model X.prog X.w) X.A (call (.type "list") [.ref z]) (EP X pins σ Q) X.xe s := by
  refine callType_codes (Q₁ := fun obj s₁ => obj = .ref s.heap.objs.size ∧ s₁ = { s with heap := s.heap.push { cls := .type "list", data := .seq #[] } }) F.called_list (F.typeCall_list_1 _) F.entry_list_init
    (code_list_new _ ⟨rfl, rfl⟩) fun obj s₁ h₁ => ?_
  obtain ⟨rfl, rfl⟩ := h₁
  have hD : H s.heap.objs.size = none := I.hok.fresh (Nat.le_refl _)
  have hS : (s.heap.push { cls := .type "list", data := .seq #[] }).get? s.heap.objs.size = some { cls := .type "list", data := .seq #[] } := Heap.get?_push_size _ rfl
  have I1 : Inv X pins σ (upd H s.heap.objs.size (.lst [])) { s with heap := s.heap.push { cls := .type "list", data := .seq #[] } } := I.lnew (its := []) .nil (by simp)
  have sz : s.heap.objs.size ≠ z := Nat.ne_of_gt (hlt z (by simp))
  refine ⟨⟨_, hS, rfl⟩, F.args_list_init_2 _ _, ?_⟩
  show wpAny _ X.A.in1.in1 (do let old ← Builtin.List.listItems (.ref s.heap.objs.size); Builtin.List.listUpdate (.ref s.heap.objs.size) (fun _ => #[]); letGo old.toList.reverse; Builtin.List.listExtendWith (.ref s.heap.objs.size) (.ref z) .none) _ _ _
  refine wpAny_bind ?_
  unfold Builtin.List.listItems
  refine wpAny_bind (wpAny_seqItems hS rfl (wpAny_pure ?_))
  show wpAny _ X.A.in1.in1 (updateSeq s.heap.objs.size (fun _ => #[]) >>= fun _ => letGo (#[] : Array Value).toList.reverse >>= fun _ => Builtin.List.listExtendWith (.ref s.heap.objs.size) (.ref z) .none) _ _ _
  refine wpAny_bind (wpAny_updateSeq hS rfl ?_)
  have I2 := I1.lset (t' := s.toks) (its := []) (its' := []) (f := fun _ => #[]) upd_same hS (by simp) (ys := []) .nil (by simp)
  have e2 : upd (upd H s.heap.objs.size (.lst [])) s.heap.objs.size (.lst []) = upd H s.heap.objs.size (.lst []) := by
    funext c
    by_cases e : c = s.heap.objs.size
    · rw [e, upd_same, upd_same]
    · rw [upd_ne e]
  rw [e2] at I2
  have k2 : ∀ b o, s.heap.get? b = some o → ((s.heap.push { cls := .type "list", data := .seq #[] }).update s.heap.objs.size (Obj.mapSeq (fun _ => (#[] : Array Value)))).get? b = some o := fun b o e =>
    (Heap.get?_update_other _ _ (Ne.symm (Nat.ne_of_lt (Heap.lt_size e)))).trans (Heap.get?_push_of_some _ e)
  refine wpAny_bind (wpAny_letGo ?_)
  unfold Builtin.List.listExtendWith
  have hz2 := k2 _ _ hz
  refine wpAny_bind (wpAny_typeOf (T := "zip") ⟨_, hz2, rfl⟩ ?_)
  have e1 : Builtin.List.listSameRef (.ref s.heap.objs.size) (.ref z) = false := by simp [Builtin.List.listSameRef, sz]
  have e3 : (Value.type "zip" == Value.type "list") = false := by decide
  have e4 : (Value.type "zip" == Value.type "tuple") = false := by decide
  simp only [e1, e3, e4, Bool.or_false, Bool.false_eq_true, if_false]
  refine wpAny_bind (wpAny_pyIter_zip hz2 (wpAny_bind (wpAny_holding ?_)))
  unfold Builtin.List.listLengthHint
  refine wpAny_bind (wpAny_specialOf (T := "zip") ⟨_, hz2, rfl⟩ zip_no_len ?_)
  show wpAny _ X.A.in1.in1 (specialOf (Value.ref z) (Str.ofString "__length_hint__") >>= _) _ _ _
  refine wpAny_bind (wpAny_specialOf (T := "zip") ⟨_, hz2, rfl⟩ zip_no_hint ?_)
  refine wpAny_pure ?_
  show wpAny _ X.A.in1.in1 (rule "list.extend.makes-room" >>= fun _ => Builtin.List.listTouch (.ref s.heap.objs.size) >>= fun _ =>
    PySem.again (.builtin "list.extend.loop" ⟨[.ref s.heap.objs.size, .ref z, .none], []⟩)) _ _ _
  refine wpAny_bind (wpAny_rule (wpAny_bind ?_))
  show wpAny _ X.A.in1.in1 (updateSeq s.heap.objs.size (·.push .none) >>= fun _ => updateSeq s.heap.objs.size (·.pop)) _ _ _
  have hS2 := Heap.get?_update_self (Obj.mapSeq (fun _ => (#[] : Array Value))) hS rfl
  refine wpAny_bind (wpAny_updateSeq hS2 rfl ?_)
  have I3 := I2.lset (t' := s.toks) (its := []) (its' := [.none]) (f := (·.push Value.none)) upd_same hS2 (by simp) (ys := [.non]) (.cons rfl .nil) (by show 1 ≤ sizeLine; rw [sizeLine_eq]; decide)
  rw [L2.upd_upd] at I3
  have hS3 := Heap.get?_update_self (Obj.mapSeq (·.push Value.none)) hS2 rfl
  refine wpAny_updateSeq (hz := by seq_fits) hS3 rfl ?_
  have I4 := I3.lset (t' := s.toks) (its := [.none]) (its' := []) (f := (·.pop)) upd_same hS3 (by simp) (ys := []) .nil (by simp)
  rw [L2.upd_upd] at I4
  have hS4 := Heap.get?_update_self (Obj.mapSeq (·.pop)) hS3 rfl
  have k4 : ∀ b o, s.heap.get? b = some o → ((((s.heap.push { cls := .type "list", data := .seq #[] }).update s.heap.objs.size (Obj.mapSeq (fun _ => (#[] : Array Value)))).update s.heap.objs.size (Obj.mapSeq (·.push Value.none))).update s.heap.objs.size (Obj.mapSeq (·.pop))).get? b = some o := fun b o e =>
    have n : s.heap.objs.size ≠ b := Ne.symm (Nat.ne_of_lt (Heap.lt_size e))
    (Heap.get?_update_other _ _ n).trans ((Heap.get?_update_other _ _ n).trans (k2 b o e))
  have nD : s.heap.objs.size ∉ [z, TI, TO, i1, i2] := fun h => absurd (hlt _ h) (Nat.lt_irrefl _)
  have sD : Same H (upd H s.heap.objs.size (.lst [])) := same_new hD
  obtain ⟨u, v, hTO⟩ := hTO
  refine wpAny_pure ⟨plainId_quiet F.plain_extend_loop _, ?_⟩
  refine zip_drain (X := X) (pins := pins) (σ := σ) (by exact hc) za nD (fun e => ?_) (fun e => ?_) hs _ 0 _ _ [] (Nat.zero_add _).symm I4 (fun c h => ⟨?_, (hf c h).2⟩) ⟨k4 _ _ hTI, h1.at fun o e => k4 _ o e, h2.at fun o e => k4 _ o e, ?_, .inl ⟨k4 _ _ hz, u, v, k4 _ _ hTO⟩⟩ (sD.seq hqx) (sD.seq hqy) upd_same rfl (fun j T x y h => by simp at h) fun s' H' Ts' I' sb hD' hl hp => ?_
  · rw [e] at hqx; exact nl (s := s) I hqx rfl
  · rw [e] at hqy; exact nl (s := s) I hqy rfl
  · rw [upd_ne (fun e => nD (by rw [← e]; exact h))]
    exact (hf c h).1
  · rw [Heap.size_update, Heap.size_update, Heap.size_update, Heap.size_push]
    exact Nat.lt_succ_of_lt (hlt TO (by simp))
  · refine ⟨rfl, .ref s.heap.objs.size, H', I', rfl, q _ H' Ts' hD (fun c o e => sb _ _ (ne_of_none e hD) (sD _ _ e)) hD' hl hp⟩
/-- list(zip(a, b)) -/
def tListZip (K : PySem.W.Frag) (ta : TA) : TE := fun σ H Q => ta σ H fun vs H1 => ∃ (a b : Addr) (xs ys : List V), vs = [.ref a, .ref b] ∧ SqL K H1 a xs ∧ SqL K H1 b ys ∧ min xs.length ys.length ≤ 1000 ∧
  ∀ (D : Addr) (H' : Hp) (Ts : List Addr), H1 D = none → Same H1 H' → H' D = some (.lst (Ts.map V.ref)) → Ts.length = min xs.length ys.length → PairsAt H' Ts xs ys → Q (.ref D) H'
theorem pe_listZip {e e2 : Expr} {ta : TA} {p p2 q pos : Pos} (hc : X.calm = true) (hg : Gl X "list") (hm : X.mg "list" = none) (hg2 : Gl X "zip") (hm2 : X.mg "zip" = none) (ha : PA X [e, e2] ta)
    (na : starEach [.Call (.Name "zip" p2) [e, e2] [] q] X.env = (false, eval (.Call (.Name "zip" p2) [e, e2] [] q) X.env) :: starEach [] X.env := by rfl)
    (hs : starEach [e, e2] X.env = (false, eval e X.env) :: starEach [e2] X.env := by rfl) (hpl : (backTo q (starEach [e2] X.env)).any (·.1) = false := by rfl) :
    PE X (.Call (.Name "list" p) [.Call (.Name "zip" p2) [e, e2] [] q] [] pos) (tListZip X.K ta) := by
  refine ⟨fun pins s σ H Q I h => ?_⟩
  refine Call_ (ld_blt I hg hm boot_list (callWith_type1 (args_cons ?_ na) na rfl))
  refine Call_ (ld_blt I hg2 hm2 boot_zip (callWith_type1 (thn (ha.run q pins s σ H _ I h) fun us s1 ⟨vs, H1, I1, r1, q1⟩ => ?_) hs hpl))
  obtain ⟨a, b, xs, ys, rfl, hqx, hqy, hle, q1⟩ := q1
  obtain ⟨its, rv, p1, _⟩ := I1.list hqx
  obtain ⟨its2, rv2, p2', _⟩ := I1.list hqy
  cases r1 with
  | cons r rr =>
    cases rr with
    | cons r' rr =>
      cases rr
      cases r
      cases r'
      refine call_zip_2 p1.isList p2'.isList fun h' hz hTI hTO h1 h2 hsz hk => args_nil ?_
      have I2 : Inv X pins σ H1 { s1 with heap := h' } := I1.kept (t' := s1.toks) hk
      have ge : ∀ c ∈ [s1.heap.objs.size + 4, s1.heap.objs.size + 2, s1.heap.objs.size + 3, s1.heap.objs.size, s1.heap.objs.size + 1], s1.heap.objs.size ≤ c ∧ c < s1.heap.objs.size + 5 := fun c hc => by
        have e' : c = s1.heap.objs.size + 4 ∨ c = s1.heap.objs.size + 2 ∨ c = s1.heap.objs.size + 3 ∨ c = s1.heap.objs.size ∨ c = s1.heap.objs.size + 1 := by simpa using hc
        have goal : ∀ n : Nat, n + 4 = c ∨ n + 2 = c ∨ n + 3 = c ∨ n = c ∨ n + 1 = c → n ≤ c ∧ c < n + 5 := fun n h => by
          have : ∀ c : Nat, n + 4 = c ∨ n + 2 = c ∨ n + 3 = c ∨ n = c ∨ n + 1 = c → n ≤ c ∧ c < n + 5 := fun c h => by omega
          exact this c h
        refine goal _ ?_
        rcases e' with e | e | e | e | e <;> rw [e] <;> simp
      exact call_list_zip (I1.ok.hd hc) (PySem.W.ktu_apart s1.heap.objs.size a b p1.lt p2'.lt) hle I2 (fun c hc => I1.fpOk (ge c hc).1 (I1.hok.fresh (ge c hc).1)) (fun c hc => by rw [hsz]; exact (ge c hc).2) hz hTI ⟨_, _, hTO⟩ h1 h2 hqx hqy q1
end
end Fb

namespace Fb
open PySem PySem.Spec PyProof.Rows L2
section
variable {K : PySem.W.Frag} {te : TE} {g : TG} {vs : List Nat} {σ : L2.St} {H1 : Hp} {D : Addr} {Qd : Hp → Prop}
/-- a comprehension over a list, its name any target -/
theorem lc_listG {a : Addr} {xs : List V} (R : Nat → V → Hp → Prop) (hR : ∀ i v H H', SameB D H H' → R i v H → R i v H') (hD : H1 D = none) (hx : SqL K H1 a xs) (hn : xs.length ≤ 100000) (hk : MonoG g)
    (hs : ∀ i x H acc, xs[i]? = some x → Same H1 H → H D = some (.lst acc) → ∀ Q : VK, (∀ v H', Same H H' → R i v H' → Q v H') → g x (wipe σ vs) H fun σ2 H2 => wipe σ2 vs = wipe σ vs ∧ te σ2 H2 Q)
    (hd : ∀ H ys, Same H1 H → H D = some (.lst ys) → ys.length = xs.length → (∀ i v, ys[i]? = some v → R i v H) → Qd H) :
    ∃ W : Nat → Nat → Hp → Prop, (∃ m, W 0 m (upd H1 D (.lst []))) ∧ ∀ i m H, W i m H →
      ((Itl K a).stop i H ∧ Qd H) ∨ ((Itl K a).go i H ∧ ∃ Nx : Hp → Prop, (∀ H', Nx H' → ∃ m', m' < m ∧ W (i + 1) m' H') ∧ ∀ x H', (Itl K a).yld i H x H' → g x (wipe σ vs) H' fun σ2 H2 => wipe σ2 vs = wipe σ vs ∧ tYes σ2 H2 fun b H3 =>
        if b = true then te σ2 H3 fun y H4 => ∃ acc, H4 D = some (.lst acc) ∧ acc.length < sizeLine ∧ Nx (upd H4 D (.lst (acc ++ [y]))) else Nx H3) := by
  refine lc_list (K := K) (a := a) (xs := xs) (fun i H => ∃ ys, Same H1 H ∧ H D = some (.lst ys) ∧ ys.length = i ∧ ∀ k v, ys[k]? = some v → R k v H) ⟨[], same_new hD, upd_same, rfl, fun k v e => by simp at e⟩ (fun i H _ ⟨_, s1, _⟩ => s1.seq hx) ?_ ?_
  · rintro i x H hi ⟨ys, s1, hDl, hl, hr⟩
    have hil := (List.getElem?_eq_some_iff.mp hi).1
    refine hk.to _ _ _ _ _ (fun σ2 H2 h => ⟨h.1, yes_go h.2⟩) (hs i x H ys hi s1 hDl _ fun v H' s2 r => ⟨ys, s2 _ _ hDl, szlt (by omega), ys ++ [v], same_mut (Same.trans s1 s2) hD, upd_same, by rw [List.length_append]; simp [hl], lc_step hR hl s2 hr r⟩)
  · rintro H ⟨ys, s1, hDl, hl, hr⟩
    exact hd H ys s1 hDl hl hr
end
theorem atI_neg1 {xs : List V} (h : 0 < xs.length) : atI xs (-1) = xs[xs.length - 1]? := by
  unfold atI ixN
  rw [if_neg (by omega : ¬ (0 : Int) ≤ -1), if_pos (by omega)]
  show xs[_]? = _
  congr 1
  omega
end Fb

/-! ### min(found, default=None), found a list of tuples of ints -/
namespace Fb
open PySem PySem.Spec PyProof.Rows L2 PySem.W
def minT (y : List Int) (ys : List (List Int)) : List Int := (minOf (Tup.mk y) (ys.map Tup.mk)).items
abbrev IsTi (H : Hp) (t : Addr) (p : List Int) : Prop := H t = some (.tup (p.map V.int))
def rMinT (K : PySem.W.Frag) : List V → List V → Hp → VK → Prop := fun vs zs H Q => ∃ (l : Addr) (ts : List Addr) (ps : List (List Int)), vs = [.ref l] ∧ zs = [.non] ∧ SqL K H l (ts.map V.ref) ∧ Paired (IsTi H) ts ps ∧ (ps = [] → Q .non H) ∧
  ∀ (i : Nat) t y ys, ps = y :: ys → ts[i]? = some t → ps[i]? = some (minT y ys) → Q (.ref t) H
theorem hold_ints {h : Heap} : ∀ {p : List Int} {its : List Value}, Vals (p.map V.int) its → HoldAll h its p
  | [], _, .nil => .nil
  | n :: p, _, .cons r t => by
    obtain ⟨k, rfl⟩ := r
    exact .cons (holds_int n k) (hold_ints t)
section
variable {X : Cx} {pins : List (Addr × Obj)} {σ : L2.St} {H : Hp} {s : Shared}
theorem hold_tup (I : Inv X pins σ H s) {t : Addr} {p : List Int} (h : IsTi H t p) : PySem.W.Holds s.heap (.ref t) (Tup.mk p) := by
  obtain ⟨_, its, r, o⟩ := I.hok t _ h
  exact holds_tup o (by simpa using hold_ints r)
theorem hold_tups (I : Inv X pins σ H s) : ∀ {ts : List Addr} {ps : List (List Int)} {its : List Value}, Paired (IsTi H) ts ps → Vals (ts.map V.ref) its → HoldAll s.heap its (ps.map Tup.mk)
  | _, _, _, .nil, .nil => .nil
  | _, _, _, .cons h t, .cons r u => by
    cases r
    exact .cons (hold_tup I h) (hold_tups I t u)
theorem tup_inj {a b : Tup Int} (h : Datum.toD a = Datum.toD b) : a = b := by
  have := Datum.eqv a b
  rw [h, Datum.eqv, decide_eq_true rfl] at this
  exact (of_decide_eq_true this.symm)
theorem holds_uniq {h : Heap} {v : Value} {a b : Tup Int} (x : PySem.W.Holds h v a) (y : PySem.W.Holds h v b) : a = b := by
  obtain ⟨as, x⟩ := x
  obtain ⟨bs, y⟩ := y
  exact tup_inj (reads_det (fun _ _ e _ => e) x y).1.symm
theorem cr_minT (hc : X.calm = true) (hu : X.A.units + 64 < cLine) : CallRK X (.builtin "min") [Str.ofString "default"] (rMinT X.K) := by
  intro pins s σ H xs zs us ws Q I rx rz h
  obtain ⟨l, ts, ps, rfl, rfl, hq, hp, q0, q1⟩ := h
  obtain ⟨u, rfl, ru⟩ := rx.one
  cases ru
  obtain ⟨d, rfl, rd⟩ := rz.one
  obtain rfl : d = .none := rd
  obtain ⟨its, rv, pl, hz⟩ := I.list hq
  refine min_list_datum_default (α := Tup Int) (xs := ps.map Tup.mk) (I.ok.hd hc) pl.isList (by simpa using hold_tups I hp rv) (by show X.A.units + 1 + 1 < cLine; omega) (fun e h' tk hk => ?_) fun y ys i v h' tk e hv hh hk => ?_
  · exact ⟨.non, H, I.kept (t' := tk) hk, rfl, q0 (List.map_eq_nil_iff.mp e)⟩
  · have hl := rv.length
    have il : i < its.length := by
      have := (Array.getElem?_eq_some_iff.mp hv).1
      simpa using this
    rw [List.length_map] at hl
    have ht : ts[i]? = some ts[i] := List.getElem?_eq_getElem (by omega)
    obtain ⟨w, hw, rw2⟩ := rv.get (i := i) (x := .ref ts[i]) (by rw [List.getElem?_map, ht]; rfl)
    have ev : w = v := by
      have : its.toArray[i]? = some w := by simpa using hw
      rw [hv] at this
      exact (Option.some.inj this).symm
    subst ev
    obtain rfl : w = .ref ts[i] := rw2
    cases ps with
    | nil => cases e
    | cons p0 pr =>
      rw [List.map_cons] at e
      injection e with e1 e2
      subst e1; subst e2
      obtain ⟨pi, hpi, hti⟩ := paired_at hp ht
      have h1 := PySem.W.Holds.keeps hk (hold_tup I hti)
      have em := holds_uniq h1 hh
      refine ⟨.ref ts[i], H, I.kept (t' := tk) hk, rfl, q1 i _ p0 pr rfl ht ?_⟩
      rw [hpi, ← show (Tup.mk pi).items = minT p0 pr from by rw [em]; rfl]
end
end Fb

namespace Fb
open PySem PySem.Spec PyProof.Rows L2
/-- a loop over whole numbers with a step -/
theorem for_rangeC {lo c : Int} {n : Nat} {g : TG} {tb : TS} {D : Ends} {σ : L2.St} {H : Hp} (Pv : Nat → L2.St → Hp → Prop) (h0 : Pv 0 σ H)
    (hs : ∀ i σ H, i < n → Pv i σ H → g (.int (lo + (i : Int) * c)) σ H fun σ2 H2 => tb { D with nx := Pv (i + 1), ct := Pv (i + 1), bk := D.nx } σ2 H2) (hd : ∀ σ H, Pv n σ H → D.nx σ H) :
    ∃ W : Nat → Nat → L2.St → Hp → Prop, (∃ m, W 0 m σ H) ∧ ∀ i m σ H, W i m σ H →
      ((Itc lo c n).stop i H ∧ D.nx σ H) ∨ ((Itc lo c n).go i H ∧ ∃ N : L2.St → Hp → Prop, (∀ σ' H', N σ' H' → ∃ m', m' < m ∧ W (i + 1) m' σ' H') ∧ ∀ x H', (Itc lo c n).yld i H x H' → g x σ H' fun σ2 H2 => tb { D with nx := N, ct := N, bk := D.nx } σ2 H2) :=
  for_it walk_rangeC Pv h0 (fun _ _ _ _ _ => trivial) (fun i x σ H H' hi p y => by
    obtain ⟨rfl, rfl⟩ := y
    exact hs i σ _ hi p) hd
end Fb

namespace Fb
open PySem PySem.Spec PyProof.Rows L2
/-- the least tuple begins with the least first item -/
theorem lt_head {a b : Int} {as bs : List Int} : (PySem.W.listLt (a :: as) (b :: bs) = true → a ≤ b) ∧ (PySem.W.listLt (a :: as) (b :: bs) = false → b ≤ a) := by
  unfold PySem.W.listLt
  by_cases h : a = b
  · rw [if_pos h]; exact ⟨fun _ => by omega, fun _ => by omega⟩
  · rw [if_neg h]
    show (decide (a < b) = true → _) ∧ (decide (a < b) = false → _)
    refine ⟨fun h => ?_, fun h => ?_⟩
    · have := of_decide_eq_true h; omega
    · have := of_decide_eq_false h; omega
theorem minOf_head : ∀ (ys : List (List Int)) (y : List Int), y ≠ [] → (∀ z ∈ ys, z ≠ []) → (∀ z ∈ y :: ys, ((PySem.W.minOf (PySem.W.Tup.mk y) (ys.map PySem.W.Tup.mk)).items).headD 0 ≤ z.headD 0)
  | [], y, _, _ => fun z hz => by
    rw [List.mem_singleton.mp hz]; exact Int.le_refl _
  | x :: ys, y, h1, h2 => by
    have hx := h2 x List.mem_cons_self
    have h3 : ∀ z ∈ ys, z ≠ [] := fun z hz => h2 z (List.mem_cons_of_mem _ hz)
    intro z hz
    show ((PySem.W.minOf (if PySem.W.DatumOrd.lt (PySem.W.Tup.mk x) (PySem.W.Tup.mk y) = true then PySem.W.Tup.mk x else PySem.W.Tup.mk y) (ys.map PySem.W.Tup.mk)).items).headD 0 ≤ _
    obtain ⟨a, as, rfl⟩ := List.exists_cons_of_ne_nil hx
    obtain ⟨b, bs, rfl⟩ := List.exists_cons_of_ne_nil h1
    have lh := lt_head (a := a) (b := b) (as := as) (bs := bs)
    cases e : PySem.W.listLt (a :: as) (b :: bs) with
    | true =>
      rw [if_pos (show PySem.W.DatumOrd.lt (PySem.W.Tup.mk (a :: as)) (PySem.W.Tup.mk (b :: bs)) = true from e)]
      have ih := minOf_head ys (a :: as) (by simp) h3
      rcases List.mem_cons.mp hz with rfl | hz
      · exact Int.le_trans (ih _ List.mem_cons_self) (lh.1 e)
      · exact ih _ hz
    | false =>
      rw [if_neg (show ¬ PySem.W.DatumOrd.lt (PySem.W.Tup.mk (a :: as)) (PySem.W.Tup.mk (b :: bs)) = true from by
        intro h
        have h' : PySem.W.listLt (a :: as) (b :: bs) = true := h
        rw [e] at h'; cases h')]
      have ih := minOf_head ys (b :: bs) (by simp) h3
      rcases List.mem_cons.mp hz with rfl | hz
      · exact ih _ List.mem_cons_self
      · rcases List.mem_cons.mp hz with rfl | hz
        · exact Int.le_trans (ih _ List.mem_cons_self) (lh.2 e)
        · exact ih _ (List.mem_cons_of_mem _ hz)
theorem minT_head {ys : List (List Int)} {y : List Int} (h1 : y ≠ []) (h2 : ∀ z ∈ ys, z ≠ []) : ∀ z ∈ y :: ys, (minT y ys).headD 0 ≤ z.headD 0 := minOf_head ys y h1 h2
end Fb

namespace Fb
open PySem PySem.Spec PyProof.Rows L2
/-! ### the cuts of a parting, and what it costs -/
/-- the k-th cut -/
def cn (ns : List Int) (k : Nat) : Int := ns.getD k 0
theorem cn_get {ns : List Int} {k : Nat} (h : k < ns.length) : ns[k]? = some (cn ns k) := by
  unfold cn
  rw [List.getD_eq_getElem?_getD, List.getElem?_eq_getElem h]; rfl
theorem cn_at {ns : List Int} {k : Nat} {j : Int} (h : k < ns.length) (e : j = (k : Int)) : atI (ns.map V.int) j = some (.int (cn ns k)) :=
  atI_of (by omega) (by rw [e, Int.toNat_natCast, List.getElem?_map, cn_get h]; rfl)
def Tells (ns : List Int) (m : Int) : Prop := 2 ≤ ns.length ∧ cn ns 0 = 0 ∧ cn ns (ns.length - 1) = m - 1 ∧ ∀ j, j + 1 < ns.length → cn ns j < cn ns (j + 1)
noncomputable def tellsB (ns : List Int) (m : Int) : Bool := @decide (Tells ns m) (Classical.propDecidable _)
theorem tells_iff {ns : List Int} {m : Int} : tellsB ns m = true ↔ Tells ns m := by
  unfold tellsB
  exact @decide_eq_true_iff _ (Classical.propDecidable _)
theorem tells_true {ns : List Int} {m : Int} (h : Tells ns m) : tellsB ns m = true := tells_iff.mpr h
theorem tells_false {ns : List Int} {m : Int} (h : ¬ Tells ns m) : tellsB ns m = false := by
  cases e : tellsB ns m with
  | false => rfl
  | true => exact absurd (tells_iff.mp e) h
/-- what each stretch of the parting costs, summed -/
def psum (P : Pri) (xs : List Str) (ns : List Int) : Nat → Int
  | 0 => 0
  | k + 1 => psum P xs ns k + (stp P xs (cn ns k).toNat (cn ns (k + 1)).toNat).getD 0
def AllHold (P : Pri) (xs : List Str) (ns : List Int) : Prop := ∀ j, j + 1 < ns.length → Holds P xs (cn ns j).toNat (cn ns (j + 1)).toNat
theorem Tells.mono {ns : List Int} {m : Int} (h : Tells ns m) : ∀ {i j : Nat}, i ≤ j → j < ns.length → cn ns i + ((j : Int) - (i : Int)) ≤ cn ns j := fun {i j} hij hj => by
  induction j with
  | zero => obtain rfl : i = 0 := by omega
            omega
  | succ j ih =>
    by_cases e : i = j + 1
    · subst e; omega
    · have h1 := ih (by omega) (by omega)
      have h2 := h.2.2.2 j hj
      omega
theorem Tells.ge {ns : List Int} {m : Int} (h : Tells ns m) {j : Nat} (hj : j < ns.length) : 0 ≤ cn ns j := by
  have := h.mono (i := 0) (Nat.zero_le j) hj
  rw [h.2.1] at this; omega
theorem Tells.le {ns : List Int} {m : Int} (h : Tells ns m) {j : Nat} (hj : j < ns.length) : cn ns j ≤ m - 1 := by
  have := h.mono (i := j) (j := ns.length - 1) (by omega) (by omega)
  rw [h.2.2.1] at this; omega
theorem ints_flat {ns : List Int} : ∀ v ∈ ns.map V.int, flat v := fun v hv => by
  obtain ⟨_, _, rfl⟩ := List.mem_map.mp hv
  exact .inr (.inr (.inl ⟨_, rfl⟩))
end Fb

namespace Fb
open PySem PySem.Spec PyProof.Rows L2
local macro_rules | `(tactic| walk_at "s") => `(tactic| repeat (first | refine ⟨_, rfl, ?_⟩ | refine ⟨_, _, rfl, rfl, ?_⟩ | refine ⟨_, _, rfl, Or.inl (by assumption), ?_⟩ | refine ⟨rfl, ?_⟩ | refine ⟨(by decide : (0 : Int) < _), ?_⟩ | refine ⟨⟨by decide, by decide⟩, ?_⟩ | refine ⟨_, _, _, rfl, (by assumption), (by first | decide | omega), ?_⟩))
/-! ### the cheapest ways on -/
theorem minT_mem (y : List Int) (ys : List (List Int)) : minT y ys ∈ y :: ys := by
  have h : ∀ (ys : List (PySem.W.Tup Int)) (y : PySem.W.Tup Int), PySem.W.minOf y ys ∈ y :: ys := fun ys => by
    induction ys with
    | nil => intro y; exact List.mem_cons_self
    | cons z ys ih =>
      intro y
      show PySem.W.minOf (if PySem.W.DatumOrd.lt z y = true then z else y) ys ∈ _
      split
      · exact List.mem_cons_of_mem _ (ih z)
      · rcases List.mem_cons.mp (ih y) with e | e
        · rw [e]; exact List.mem_cons_self
        · exact List.mem_cons_of_mem _ (List.mem_cons_of_mem _ e)
  have := h (ys.map PySem.W.Tup.mk) (PySem.W.Tup.mk y)
  rcases List.mem_cons.mp this with e | e
  · unfold minT; rw [e]; exact List.mem_cons_self
  · obtain ⟨z, hz, e2⟩ := List.mem_map.mp e
    unfold minT; rw [← e2]; exact List.mem_cons_of_mem _ hz
abbrev Way := Option (List Int)
/-- the way on by the stretch at .. to, the ways from behind at in tail -/
def candOf (P : Pri) (xs : List Str) (at_ : Nat) (tail : List Way) (to : Nat) : Way := match tail.getD (to - at_ - 1) none with
  | some (p :: m :: _) => some [p + (stp P xs at_ to).getD 0, m + 1, -(to : Int)]
  | _ => none
theorem cand_len {P : Pri} {xs : List Str} {i : Nat} {tail : List Way} {to : Nat} {l : List Int} (h : candOf P xs i tail to = some l) : l.length = 3 := by
  unfold candOf at h
  split at h
  · cases h; rfl
  · cases h
theorem paired_snocT {α β : Type} {R : α → β → Prop} : ∀ {xs : List α} {ys : List β} {x : α} {y : β}, Paired R xs ys → R x y → Paired R (xs ++ [x]) (ys ++ [y])
  | _, _, _, _, .nil, r => .cons r .nil
  | _, _, _, _, .cons h t, r => .cons h (paired_snocT t r)
noncomputable def bestOf (P : Pri) (xs : List Str) (at_ : Nat) (tail : List Way) : Way := match (heldN P xs at_).filterMap (candOf P xs at_ tail) with
  | [] => none
  | y :: ys => some (minT y ys)
/-- the ways from the last k + 1 places -/
noncomputable def tabW (P : Pri) (xs : List Str) : Nat → List Way
  | 0 => [some [0, 0, -((xs.length - 1 : Nat) : Int)]]
  | k + 1 => bestOf P xs (xs.length - 1 - (k + 1)) (tabW P xs k) :: tabW P xs k
def IsWay (H : Hp) (v : V) : Way → Prop
  | none => v = .non
  | some p => p.length = 3 ∧ ∃ t, v = .ref t ∧ IsTi H t p
theorem IsWay.same {H H' : Hp} {v : V} {w : Way} (h : IsWay H v w) (s : Same H H') : IsWay H' v w := by
  cases w with
  | none => exact h
  | some p => obtain ⟨l, t, e, ht⟩ := h; exact ⟨l, t, e, s _ _ ht⟩
def spBest (K : PySem.W.Frag) (a : Ads) : Sp := fun vs H Q _ => ∃ (p d l e w : Addr) (rs : List Row) (xs : List Str) (i : Nat) (i' : Int) (ws : List V) (tail : List Way), vs = [.ref p, .ref l, .int i', .ref e, .ref w] ∧ i' = (i : Int) ∧ TarAt a.Tariff H p d rs ∧ SqL K H l (xs.map V.str) ∧ i < xs.length ∧ xs.length ≤ 1000 ∧ SqL K H e (heldV (pri rs) xs i) ∧ SqL K H w ws ∧ ws.length = xs.length ∧
  (∀ to, i < to → to < xs.length → ∃ v, ws[to]? = some v ∧ IsWay H v (tail.getD (to - i - 1) none)) ∧ ∀ v H', Same H H' → IsWay H' v (bestOf (pri rs) xs i tail) → Q v H'
theorem tabW_len {P : Pri} {xs : List Str} : ∀ k, (tabW P xs k).length = k + 1
  | 0 => rfl
  | k + 1 => by rw [tabW, List.length_cons, tabW_len k]
noncomputable def wayAt (P : Pri) (xs : List Str) (i : Nat) : Way := (tabW P xs (xs.length - 1)).getD i none
def spWays (K : PySem.W.Frag) (a : Ads) (P : Addr) : Sp := fun vs H Q _ => ∃ (p d l : Addr) (rs : List Row) (xs : List Str), vs = [.ref p, .ref l] ∧ TarAt a.Tariff H p d rs ∧ SqL K H l (xs.map V.str) ∧ GoodJ xs ∧ H P = some (TabO P) ∧
  ∀ (W : Addr) (H' : Hp) (ws : List V), H W = none → Same H H' → H' W = some (.lst ws) → ws.length = xs.length → (∀ i, i < xs.length → ∃ v, ws[i]? = some v ∧ IsWay H' v (wayAt (pri rs) xs i)) → Q (.ref W) H'
theorem tab_drop {P : Pri} {xs : List Str} {k r : Nat} : ∀ m, (tabW P xs (k + m)).getD (m + r) none = (tabW P xs k).getD r none
  | 0 => by rw [Nat.add_zero, Nat.zero_add]
  | m + 1 => by
    rw [← Nat.add_assoc, tabW, show m + 1 + r = (m + r) + 1 by omega, List.getD_cons_succ]
    exact tab_drop m
theorem way_tab {P : Pri} {xs : List Str} {k i : Nat} (h : xs.length - 1 - k ≤ i) (hk : k ≤ xs.length - 1) : wayAt P xs i = (tabW P xs k).getD (i - (xs.length - 1 - k)) none := by
  unfold wayAt
  have := tab_drop (P := P) (xs := xs) (k := k) (r := i - (xs.length - 1 - k)) (xs.length - 1 - k)
  rw [show k + (xs.length - 1 - k) = xs.length - 1 by omega, show xs.length - 1 - k + (i - (xs.length - 1 - k)) = i by omega] at this
  exact this
theorem way_last {P : Pri} {xs : List Str} (h : 2 ≤ xs.length) : wayAt P xs (xs.length - 1) = some [0, 0, -((xs.length - 1 : Nat) : Int)] := by
  rw [way_tab (k := 0) (by omega) (by omega), show xs.length - 1 - (xs.length - 1 - 0) = 0 by omega]; rfl
theorem way_step {P : Pri} {xs : List Str} {i : Nat} (h : i + 1 < xs.length) : wayAt P xs i = bestOf P xs i (tabW P xs (xs.length - 2 - i)) ∧ ∀ to, i < to → to < xs.length → (tabW P xs (xs.length - 2 - i)).getD (to - i - 1) none = wayAt P xs to := by
  constructor
  · rw [way_tab (k := xs.length - 2 - i + 1) (by omega) (by omega), show i - (xs.length - 1 - (xs.length - 2 - i + 1)) = 0 by omega]
    rw [tabW, List.getD_cons_zero, show xs.length - 1 - (xs.length - 2 - i + 1) = i by omega]
  · intro to h1 h2
    rw [way_tab (i := to) (k := xs.length - 2 - i) (by omega) (by omega), show to - (xs.length - 1 - (xs.length - 2 - i)) = to - i - 1 by omega]
/-- what the way by a stretch costs -/
noncomputable def sumAt (P : Pri) (xs : List Str) (i to : Nat) : Option Int := if hb P xs i to = true then (match wayAt P xs to with
  | some (p :: _) => some ((stp P xs i to).getD 0 + p)
  | _ => none) else none
noncomputable def sums (P : Pri) (xs : List Str) (i k : Nat) : List Int := (List.range k).filterMap fun m => sumAt P xs i (i + 1 + m)
theorem sums_succ {P : Pri} {xs : List Str} {i k : Nat} : sums P xs i (k + 1) = sums P xs i k ++ (sumAt P xs i (i + 1 + k)).toList := by
  unfold sums
  rw [List.range_succ, List.filterMap_append, List.filterMap_cons, List.filterMap_nil]
  cases e : sumAt P xs i (i + 1 + k) <;> rfl
theorem fm_congr {α β : Type} {f g : α → Option β} : ∀ {l : List α}, (∀ x ∈ l, f x = g x) → l.filterMap f = l.filterMap g
  | [], _ => rfl
  | x :: l, h => by
    rw [List.filterMap_cons, List.filterMap_cons, h x List.mem_cons_self, fm_congr fun y hy => h y (List.mem_cons_of_mem _ hy)]
theorem way_shape {P : Pri} {xs : List Str} (h : 2 ≤ xs.length) {i : Nat} (hi : i < xs.length) {l : List Int} (e : wayAt P xs i = some l) : ∃ a b c, l = [a, b, c] := by
  by_cases c : i + 1 < xs.length
  · rw [(way_step c).1] at e
    unfold bestOf at e
    split at e
    · cases e
    · rename_i y ys hc
      cases e
      have hm := minT_mem y ys
      rw [← hc] at hm
      obtain ⟨to, _, h2⟩ := List.mem_filterMap.mp hm
      have := cand_len h2
      match minT y ys, this with
      | [a, b, c], _ => exact ⟨a, b, c, rfl⟩
  · obtain rfl : i = xs.length - 1 := by omega
    rw [way_last h] at e
    cases e
    exact ⟨_, _, _, rfl⟩
theorem sums_heads {P : Pri} {xs : List Str} (h : 2 ≤ xs.length) {i : Nat} (hi : i + 1 < xs.length) : sums P xs i (xs.length - (i + 1)) = ((heldN P xs i).filterMap (candOf P xs i (tabW P xs (xs.length - 2 - i)))).map fun l => l.headD 0 := by
  unfold sums heldN
  rw [List.filterMap_map, List.filterMap_filter, List.map_filterMap]
  refine fm_congr fun m hm => ?_
  have hm' := List.mem_range.mp hm
  unfold sumAt
  by_cases c : hb P xs i (i + 1 + m) = true
  · rw [if_pos c, if_pos c]
    show _ = Option.map _ (candOf P xs i _ (i + 1 + m))
    unfold candOf
    rw [(way_step hi).2 (i + 1 + m) (by omega) (by omega)]
    cases e : wayAt P xs (i + 1 + m) with
    | none => rfl
    | some l =>
      obtain ⟨a, b, c, rfl⟩ := way_shape h (by omega) e
      show some _ = some _
      rw [Int.add_comm]; rfl
  · rw [if_neg c, if_neg c]; rfl
theorem way_min {P : Pri} {xs : List Str} (h : 2 ≤ xs.length) {i : Nat} (hi : i + 1 < xs.length) : (sums P xs i (xs.length - (i + 1)) = [] ∧ wayAt P xs i = none) ∨ ∃ a l, wayAt P xs i = some (a :: l) ∧ a ∈ sums P xs i (xs.length - (i + 1)) ∧ ∀ z ∈ sums P xs i (xs.length - (i + 1)), a ≤ z := by
  rw [sums_heads h hi, (way_step hi).1]
  unfold bestOf
  have hl : ∀ z ∈ (heldN P xs i).filterMap (candOf P xs i (tabW P xs (xs.length - 2 - i))), z.length = 3 := fun z hz => by
    obtain ⟨to, _, h2⟩ := List.mem_filterMap.mp hz
    exact cand_len h2
  generalize (heldN P xs i).filterMap (candOf P xs i (tabW P xs (xs.length - 2 - i))) = cs at hl
  cases cs with
  | nil => exact .inl ⟨rfl, rfl⟩
  | cons y ys =>
    have hne : ∀ z ∈ y :: ys, z ≠ [] := fun z hz e => by have := hl z hz; rw [e] at this; cases this
    have hm := minT_mem y ys
    have hh := minT_head (hne y List.mem_cons_self) fun z hz => hne z (List.mem_cons_of_mem _ hz)
    obtain ⟨a, l, e⟩ := List.exists_cons_of_ne_nil (hne _ hm)
    refine .inr ⟨a, l, by rw [← e], ?_, fun z hz => ?_⟩
    · exact List.mem_map.mpr ⟨_, hm, by rw [e]; rfl⟩
    · obtain ⟨u, hu, rfl⟩ := List.mem_map.mp hz
      have := hh u hu
      rw [e] at this
      exact this
abbrev s_best_on : Stmt := topS 28
abbrev N_best_on : List Str := ["tariff", "places", "at", "ends", "ways", "found", "to", "price", "many", "_"]
theorem sc_best_on : FnScope N_best_on ["tariff", "places", "at", "ends", "ways"] (defScope s_best_on) := ⟨rfl, rfl, rfl, by decide +kernel, rfl, by decide +kernel, by decide +kernel⟩
abbrev s_ways_on : Stmt := topS 29
abbrev N_ways_on : List Str := ["tariff", "places", "ends", "last", "ways", "at"]
theorem sc_ways_on : FnScope N_ways_on ["tariff", "places"] (defScope s_ways_on) := ⟨rfl, rfl, rfl, by decide +kernel, rfl, by decide +kernel, by decide +kernel⟩
section
variable {Pg : Program} {w : World} {K : PySem.W.Frag} {mg : Str → Option Value} {base : Heap} {a : Ads}
theorem ok_best_on {f : Addr} {fd : FuncData} (F : Fun K "best_on" "best_on" s_best_on f fd) (T : Txt K mg a) (D_stretch_price : Dn Pg w K mg base 2 "stretch_price" ["tariff", "places", "at", "to"] (spSP K a)) : FnOk Pg w K mg base (L2N.CX Pg w) 3 f fd ["tariff", "places", "at", "ends", "ways"] (spBest K a) := by
  refine F.okN sc_best_on (fun vs H Q E h => ?_) (fun cdv A outer s H vs Q E hr h => ?_)
  · obtain ⟨_, _, _, _, _, _, _, _, _, _, _, rfl, _⟩ := h
    rfl
  · obtain ⟨p, d, l, e, wq, rs, xs, i, i', ws, tail, rfl, rfl, hT, hs, hi, h1000, he, hw, hwl, hways, q⟩ := h
    have PO : PassesOwn (model Pg w) (A.deeper (envOfC "best_on" (defScope s_best_on) s.heap.objs.size f cdv)) (envOfC "best_on" (defScope s_best_on) s.heap.objs.size f cdv) (cxOf (L2N.CX Pg w) Pg w K mg base N_best_on "best_on" (defScope s_best_on) f cdv A outer s H E).xe := passes_of rfl
    refine ⟨_, (pss_cons (ps_set (i := 5) sc_best_on.nd rfl (by first | exact Or.inl rfl | exact Or.inr rfl) (pe_lstN pa_nil))
      (pss_cons (ps_for PO rfl (pi_list (pv 3)) (pg_name (i := 6) sc_best_on.nd rfl (by first | exact Or.inl rfl | exact Or.inr rfl))
        (pss_one (ps_if (pt_cmpR op_notN (pe_ix ix_list (pv 4) (pv 6) (fun _ _ => rfl)) pe_non (nomark _)) (pss_cons (ps_asg (pe_ix ix_list (pv 4) (pv 6) (fun _ _ => rfl)) (pg_tup rfl (pgs_cons (pg_name (i := 7) sc_best_on.nd rfl (by first | exact Or.inl rfl | exact Or.inr rfl)) (pgs_cons (pg_name (i := 8) sc_best_on.nd rfl (by first | exact Or.inl rfl | exact Or.inr rfl)) (pgs_cons (pg_name (i := 9) sc_best_on.nd rfl (by first | exact Or.inl rfl | exact Or.inr rfl)) pgs_nil)))))
            (pss_one (ps_expr (pe_bm PySem.F.plainAttrs_list PySem.F.slot_list_append PySem.F.type_list_append mt_appendN (pv 5) (pa_cons (pe_tupN (pa_cons (pe_op op_add (pv 7) (pe_fnS D_stretch_price (hr.mono (by decide)) passC (pa_cons (pv 0) (pa_cons (pv 1) (pa_cons (pv 2) (pa_cons (pv 6) pa_nil)))))) (pa_cons (pe_op op_add (pv 8) pe_int) (pa_cons (pe_un un_neg (pv 6)) pa_nil)))) pa_nil))))) pss_nil)))
      (pss_one (ps_ret (pe_callBK (cr_minT rfl hr.units) (by rfl) T.n_min (by decide +kernel) (pa_cons (pv 5) pa_nil) (pk_cons pe_non pk_nil)))))), ?_⟩
    walk_at "s"
    refine ⟨(by simp), fun D H1 nD s1 h1 => ?_⟩
    have he1 := s1.seq he
    have hel : (heldV (pri rs) xs i).length ≤ xs.length := by unfold heldV; rw [List.length_map]; exact heldN_le
    walk_at "s"
    refine ⟨⟨_, he1⟩, for_list (K := K) (a := e) (xs := heldV (pri rs) xs i) (fun k σ H' => ∃ (v6 v7 v8 v9 : Option V) (ts : List Addr), σ = [some (.ref p), some (.ref l), some (.int (i : Int)), some (.ref e), some (.ref wq), some (.ref D), v6, v7, v8, v9] ∧ Same H H' ∧ H' D = some (.lst (ts.map V.ref)) ∧ ts.length ≤ k ∧ Paired (IsTi H') ts (((heldN (pri rs) xs i).take k).filterMap (candOf (pri rs) xs i tail))) ⟨none, none, none, none, [], rfl, s1, h1, Nat.le_refl _, .nil⟩ (fun k σ H' _ ⟨_, _, _, _, _, _, s2, _⟩ => s2.seq he) ?_ ?_⟩
    · rintro k y σ H2 hk ⟨v6, v7, v8, v9, ts, rfl, s2, hD2, htl, hp2⟩
      unfold heldV at hk
      rw [List.getElem?_map] at hk
      obtain ⟨to, hto, rfl⟩ := Option.map_eq_some_iff.mp hk
      obtain ⟨t1, t2, t3⟩ := mem_heldN.mp (List.mem_of_getElem? hto)
      obtain ⟨v, hv, hvw⟩ := hways to t1 t2
      have kl := (List.getElem?_eq_some_iff.mp hto).1
      have hw2 := s2.seq hw
      walk_at "s"
      refine ⟨_, _, _, _, rfl, rfl, hw2, (by rw [atI_nat]; exact hv), ?_⟩
      walk_at "s"
      have ht2 : (heldN (pri rs) xs i).take k ++ [to] = (heldN (pri rs) xs i).take (k + 1) := take_snoc hto
      generalize hc : tail.getD (to - i - 1) none = cw at hvw
      cases cw with
      | none =>
        obtain rfl : v = .non := hvw
        have ec : candOf (pri rs) xs i tail to = none := by unfold candOf; rw [hc]
        walk_at "s"
        refine ⟨_, _, _, _, ts, rfl, s2, hD2, by omega, ?_⟩
        rw [← ht2, List.filterMap_append, List.filterMap_cons, ec]
        simpa using hp2
      | some pl =>
        obtain ⟨l3, t, rfl, ht⟩ := hvw
        obtain ⟨a1, a2, a3, rfl⟩ : ∃ a b c, pl = [a, b, c] := by
          match pl, l3 with
          | [a, b, c], _ => exact ⟨a, b, c, rfl⟩
        obtain ⟨pr, hpr⟩ := t3.pr
        have ec : candOf (pri rs) xs i tail to = some [a1 + pr, a2 + 1, -(to : Int)] := by unfold candOf; rw [hc, hpr]; rfl
        walk_at "s"
        refine ⟨_, _, _, _, rfl, rfl, hw2, (by rw [atI_nat]; exact hv), ?_⟩
        refine ⟨_, _, rfl, SqT.of (s2 _ _ ht), rfl, _, _, rfl, _, _, rfl, _, _, rfl, rfl, ?_⟩
        walk_at "s"
        refine ⟨.inl ⟨rfl, _, SqL.of hD2⟩, ?_⟩
        walk_at "s"
        refine ⟨p, d, l, rs, xs, i, to, _, _, rfl, rfl, rfl, hT.same s2, s2.seq hs, hi, t2, fun H3 s3 => ?_⟩
        rw [hpr]
        walk_at "s"
        refine ⟨(by simp), fun u H4 n4 s4 h4 => ?_⟩
        have s14 := Same.trans s2 (Same.trans s3 s4)
        have hD4 := s4 _ _ (s3 _ _ hD2)
        have hnl := heldN_le (P := pri rs) (xs := xs) (i := i)
        refine ⟨D, _, _, rfl, rfl, hD4, by rw [List.length_map]; omega, fun H5 s5 h5 => ?_⟩
        have kT : ∀ t p, IsTi H4 t p → IsTi H5 t p := fun t p h => s5 _ _ (ne_of h hD4 (by intro z; cases z)) h
        refine ⟨some (.int (to : Int)), some (.int a1), some (.int a2), some (.int a3), ts ++ [u], rfl, same_mutB s14 nD s5, by rw [h5, List.map_append]; rfl, by rw [List.length_append]; show _ + 1 ≤ _; omega, ?_⟩
        rw [← ht2, List.filterMap_append, List.filterMap_cons, ec]
        exact paired_snocT (Paired.mapP hp2 fun _ _ h => kT _ _ (s4 _ _ (s3 _ _ h))) (kT _ _ h4)
    · rintro σ H2 ⟨v6, v7, v8, v9, ts, rfl, s2, hD2, htl, hp2⟩
      have e9 : (heldV (pri rs) xs i).length = (heldN (pri rs) xs i).length := by unfold heldV; rw [List.length_map]
      rw [e9, List.take_length] at hp2
      walk_at "s"
      refine ⟨D, ts, _, rfl, rfl, SqL.of hD2, hp2, fun e0 => q _ _ s2 ?_, fun j t y ys e0 hj hm => q _ _ s2 ?_⟩
      · unfold bestOf; rw [e0]; rfl
      · unfold bestOf; rw [e0]
        refine ⟨?_, t, rfl, ?_⟩
        · have : minT y ys ∈ (heldN (pri rs) xs i).filterMap (candOf (pri rs) xs i tail) := List.mem_of_getElem? hm
          obtain ⟨to, _, h2⟩ := List.mem_filterMap.mp this
          exact cand_len h2
        · obtain ⟨pp, h1, h2⟩ := paired_at hp2 hj
          rw [hm] at h1; cases h1
          exact h2
theorem ok_ways_on {f P : Addr} {fd : FuncData} (F : Fun K "ways_on" "ways_on" s_ways_on f fd) (T : Txt K mg a) (D_held : Dn Pg w K mg base 5 "held" ["tariff", "journey"] (spHeld K a P)) (D_best_on : Dn Pg w K mg base 3 "best_on" ["tariff", "places", "at", "ends", "ways"] (spBest K a)) : FnOk Pg w K mg base (L2N.CX Pg w) 6 f fd ["tariff", "places"] (spWays K a P) := by
  refine F.okN sc_ways_on (fun vs H Q E h => ?_) (fun cdv A outer s H vs Q E hr h => ?_)
  · obtain ⟨_, _, _, _, _, rfl, _⟩ := h
    rfl
  · obtain ⟨p, d, l, rs, xs, rfl, hT, hs, hg, hP, q⟩ := h
    have lo := hg.lo
    have h40 := hg.hi
    have PO : PassesOwn (model Pg w) (A.deeper (envOfC "ways_on" (defScope s_ways_on) s.heap.objs.size f cdv)) (envOfC "ways_on" (defScope s_ways_on) s.heap.objs.size f cdv) (cxOf (L2N.CX Pg w) Pg w K mg base N_ways_on "ways_on" (defScope s_ways_on) f cdv A outer s H E).xe := passes_of rfl
    refine ⟨_, (pss_cons (ps_set (i := 2) sc_ways_on.nd rfl (by first | exact Or.inl rfl | exact Or.inr rfl) (pe_fnS D_held (hr.mono (by decide)) (fun σ => L2N.passAt (L2N.takes_of rfl rfl rfl rfl) σ) (pa_cons (pv 0) (pa_cons (pv 1) pa_nil))))
      (pss_cons (ps_set (i := 3) sc_ways_on.nd rfl (by first | exact Or.inl rfl | exact Or.inr rfl) (pe_op op_sub (pe_callB call_len_seq (by rfl) T.n_len (by decide +kernel) (pa_cons (pv 1) pa_nil)) pe_int))
      (pss_cons (ps_set (i := 4) sc_ways_on.nd rfl (by first | exact Or.inl rfl | exact Or.inr rfl) (pe_op op_catN (pe_op op_repN (pe_lstN (pa_cons pe_non pa_nil)) (pv 3)) (pe_lstN (pa_cons (pe_tupN (pa_cons pe_int (pa_cons pe_int (pa_cons (pe_un un_neg (pv 3)) pa_nil)))) pa_nil))))
      (pss_cons (ps_for PO rfl (pi_revR (by rfl) T.n_reversed (prg_1 (by rfl) T.n_range (pv 3))) (pg_name (i := 5) sc_ways_on.nd rfl (by first | exact Or.inl rfl | exact Or.inr rfl))
        (pss_one (ps_asg (pe_fnS D_best_on (hr.mono (by decide)) passC (pa_cons (pv 0) (pa_cons (pv 1) (pa_cons (pv 5) (pa_cons (pe_ix ix_list (pv 2) (pv 5) (fun _ _ => rfl)) (pa_cons (pv 4) pa_nil)))))) (pg_sub (pv 4) (pv 5) set_listN))))
      (pss_one (ps_ret (pv 4))))))), ?_⟩
    walk_at "s"
    refine ⟨p, d, l, rs, xs, rfl, hT, hs, hg, hP, fun e es H1 ne s1 h1 hel hin => ?_⟩
    have hs1 := s1.seq hs
    walk_at "s"
    rw [List.length_map]
    walk_at "s"
    refine ⟨(by simp), fun D1 H2 n2 s2 h2 => ?_⟩
    walk_at "s"
    refine ⟨D1, _, _, rfl, rfl, h2, by omega, by omega, by show 1 * _ ≤ _; omega, fun D2 H3 n3 s3 h3 => ?_⟩
    walk_at "s"
    refine ⟨(by simp), fun u H4 n4 s4 h4 => ?_⟩
    refine ⟨(by simp), fun D3 H5 n5 s5 h5 => ?_⟩
    walk_at "s"
    refine ⟨D2, D3, _, _, rfl, rfl, s5 _ _ (s4 _ _ h3), h5, by simp; omega, fun W H6 n6 s6 h6 => ?_⟩
    have en : ((xs.length : Int) - 1).toNat = xs.length - 1 := by omega
    rw [en] at h6
    have s16 := Same.trans s2 (Same.trans s3 (Same.trans s4 (Same.trans s5 s6)))
    have s06 := Same.trans s1 s16
    have nW := s1.free (s2.free (s3.free (s4.free (s5.free n6))))
    have h4b := s6 _ _ (s5 _ _ h4)
    generalize hws : (List.replicate (xs.length - 1) [V.non]).flatten ++ [V.ref u] = ws0 at h6
    have wl : ws0.length = xs.length := by rw [← hws]; simp; omega
    have wlast : ws0[xs.length - 1]? = some (.ref u) := by
      rw [← hws, List.getElem?_append_right (by simp)]; simp
    have he6 : SqL K H6 e (es.map V.ref) := SqL.of (s16 _ _ h1)
    walk_at "s"
    refine ⟨by omega, by omega, by omega, by omega, ?_⟩
    have ez : ((xs.length : Int) - 1 - 0).toNat = xs.length - 1 := by omega
    refine for_rangeC (fun j σ H' => ∃ (v5 : Option V) (ws : List V), σ = [some (.ref p), some (.ref l), some (.ref e), some (.int ((xs.length : Int) - 1)), some (.ref W), v5] ∧ Same H H' ∧ SameB W H6 H' ∧ H' W = some (.lst ws) ∧ ws.length = xs.length ∧ ∀ to, xs.length - 1 - j ≤ to → to < xs.length → ∃ v, ws[to]? = some v ∧ IsWay H' v ((tabW (pri rs) xs j).getD (to - (xs.length - 1 - j)) none)) ?_ ?_ ?_
    · refine ⟨none, ws0, rfl, s06, SameB.refl, h6, wl, fun to h1 h2 => ?_⟩
      obtain rfl : to = xs.length - 1 := by omega
      refine ⟨_, wlast, ?_⟩
      rw [show xs.length - 1 - (xs.length - 1 - 0) = 0 by omega]
      refine ⟨rfl, u, rfl, ?_⟩
      show H6 u = some (.tup [.int 0, .int 0, .int (-((xs.length - 1 : Nat) : Int))])
      rw [h4b, show ((xs.length - 1 : Nat) : Int) = (xs.length : Int) - 1 by omega]
    · rintro j σ H7 hj ⟨v5, ws, rfl, s7, sb7, hW7, wl7, hw7⟩
      obtain ⟨at_, eat⟩ : ∃ at_ : Nat, at_ = xs.length - 1 - (j + 1) := ⟨_, rfl⟩
      obtain ⟨t, ht⟩ : ∃ t, es[at_]? = some t := ⟨_, List.getElem?_eq_getElem (by omega)⟩
      obtain ⟨f1, f2, f3⟩ := hin at_ t ht
      have nWe : e ≠ W := fun z => by rw [← z, s5 _ _ (s4 _ _ (s3 _ _ (s2 _ _ h1)))] at n6; cases n6
      have nWt : t ≠ W := fun z => by rw [← z, s5 _ _ (s4 _ _ (s3 _ _ (s2 _ _ f3)))] at n6; cases n6
      have he7 : SqL K H7 e (es.map V.ref) := SqL.of (sb7 _ _ nWe (s16 _ _ h1))
      have ht7 : SqL K H7 t (heldV (pri rs) xs at_) := SqL.of (sb7 _ _ nWt (s16 _ _ f3))
      have hs7 := s7.seq hs
      rw [show (0 : Int) + ((((xs.length : Int) - 1 - 0).toNat : Nat) : Int) - 1 + (j : Int) * -1 = (at_ : Int) by omega]
      walk_at "s"
      refine ⟨_, _, _, _, rfl, rfl, he7, atI_of (by omega) (by rw [Int.toNat_natCast, List.getElem?_map, ht]; rfl), ?_⟩
      walk_at "s"
      refine ⟨p, d, l, t, W, rs, xs, at_, _, ws, tabW (pri rs) xs j, rfl, rfl, hT.same s7, hs7, by omega, by omega, ht7, SqL.of hW7, wl7, fun to h1 h2 => ?_, fun v H8 s8 hv => ?_⟩
      · obtain ⟨v, e1, e2⟩ := hw7 to (by omega) h2
        exact ⟨v, e1, by rw [show to - at_ - 1 = to - (xs.length - 1 - j) by omega]; exact e2⟩
      walk_at "s"
      have hW8 := s8 _ _ hW7
      refine ⟨W, ws, _, at_, rfl, rfl, hW8, ixN_of (by omega) (by omega), fun H9 s9 h9 => ?_⟩
      have kW : ∀ {v : V} {c : Way}, IsWay H8 v c → IsWay H9 v c := fun {v c} h => by
        cases c with
        | none => exact h
        | some p => obtain ⟨l3, t, e, ht⟩ := h; exact ⟨l3, t, e, s9 _ _ (ne_of ht hW8 (by intro z; cases z)) ht⟩
      refine ⟨some (.int (at_ : Int)), ws.set at_ v, rfl, same_mutB (Same.trans s7 s8) nW s9, (sb7.same s8).trans s9, h9, by rw [List.length_set]; exact wl7, fun to h1 h2 => ?_⟩
      by_cases ca : to = at_
      · subst ca
        refine ⟨v, List.getElem?_set_self (by omega), ?_⟩
        rw [show to - (xs.length - 1 - (j + 1)) = 0 by omega]
        have := kW hv
        rw [eat] at this
        exact this
      · obtain ⟨v2, e1, e2⟩ := hw7 to (by omega) h2
        refine ⟨v2, by rw [List.getElem?_set_ne (Ne.symm ca)]; exact e1, ?_⟩
        rw [show to - (xs.length - 1 - (j + 1)) = (to - (xs.length - 1 - j)) + 1 by omega]
        exact kW (e2.same s8)
    · rintro σ H7 ⟨v5, ws, rfl, s7, sb7, hW7, wl7, hw7⟩
      rw [ez] at hw7
      walk_at "s"
      refine q W H7 ws nW s7 hW7 wl7 fun i hi => ?_
      obtain ⟨v, e1, e2⟩ := hw7 i (by omega) hi
      exact ⟨v, e1, by rw [show i - (xs.length - 1 - (xs.length - 1)) = i by omega] at e2; exact e2⟩
end
end Fb

namespace Fb
open PySem PySem.Spec PyProof.Rows L2
local macro_rules | `(tactic| walk_at "s") => `(tactic| repeat (first | refine ⟨_, rfl, ?_⟩ | refine ⟨_, _, rfl, rfl, ?_⟩ | refine ⟨_, _, rfl, Or.inl (by assumption), ?_⟩ | refine ⟨rfl, ?_⟩ | refine ⟨(by decide : (0 : Int) < _), ?_⟩ | refine ⟨⟨by decide, by decide⟩, ?_⟩ | refine ⟨_, _, _, rfl, (by assumption), (by first | decide | omega), ?_⟩))
/-! ### the told parting -/
theorem way_next {P : Pri} {xs : List Str} (h : 2 ≤ xs.length) {i : Nat} (hi : i + 1 < xs.length) {l : List Int} (e : wayAt P xs i = some l) :
    ∃ (to : Nat) (p m e' pr : Int), i < to ∧ to < xs.length ∧ Holds P xs i to ∧ stp P xs i to = some pr ∧ wayAt P xs to = some [p, m, e'] ∧ l = [p + pr, m + 1, -(to : Int)] := by
  rw [(way_step hi).1] at e
  unfold bestOf at e
  split at e
  · cases e
  · rename_i y ys hc
    cases e
    have hm := minT_mem y ys
    rw [← hc] at hm
    obtain ⟨to, h1, h2⟩ := List.mem_filterMap.mp hm
    obtain ⟨t1, t2, t3⟩ := mem_heldN.mp h1
    obtain ⟨pr, hpr⟩ := t3.pr
    unfold candOf at h2
    rw [(way_step hi).2 to t1 t2] at h2
    cases hw : wayAt P xs to with
    | none => rw [hw] at h2; cases h2
    | some l2 =>
      obtain ⟨b1, b2, b3, rfl⟩ := way_shape h t2 hw
      rw [hw, hpr] at h2
      exact ⟨to, b1, b2, b3, pr, t1, t2, t3, hpr, hw, (Option.some.inj h2).symm⟩
/-- the cuts of the told way from a number on -/
noncomputable def pathG (P : Pri) (xs : List Str) : Nat → Nat → List Int
  | 0, i => [(i : Int)]
  | k + 1, i => if i + 1 < xs.length then (match wayAt P xs i with
    | some [_, _, e] => (i : Int) :: pathG P xs k (-e).toNat
    | _ => [(i : Int)]) else [(i : Int)]
noncomputable def pathL (P : Pri) (xs : List Str) : List Int := pathG P xs (xs.length - 1) 0
theorem path_step {P : Pri} {xs : List Str} {k i : Nat} (hi : i + 1 < xs.length) {a b : Int} {to : Nat} (e : wayAt P xs i = some [a, b, -(to : Int)]) : pathG P xs (k + 1) i = (i : Int) :: pathG P xs k to := by
  show (if i + 1 < xs.length then _ else _) = _
  rw [if_pos hi, e]
  show (i : Int) :: pathG P xs k (-(-(to : Int))).toNat = _
  rw [Int.neg_neg, Int.toNat_natCast]
theorem path_end {P : Pri} {xs : List Str} {k i : Nat} (hi : ¬ i + 1 < xs.length) : pathG P xs k i = [(i : Int)] := by
  cases k with
  | zero => rfl
  | succ k =>
    show (if i + 1 < xs.length then _ else _) = _
    rw [if_neg hi]
def GoodPath (P : Pri) (xs : List Str) (i : Nat) (a b : Int) (cs : List Int) : Prop := cs ≠ [] ∧ cn cs 0 = i ∧ cn cs (cs.length - 1) = (xs.length : Int) - 1 ∧ (∀ j, j + 1 < cs.length → cn cs j < cn cs (j + 1)) ∧
  (∀ j, j + 1 < cs.length → Holds P xs (cn cs j).toNat (cn cs (j + 1)).toNat) ∧ psum P xs cs (cs.length - 1) = a ∧ (cs.length : Int) = b + 1
theorem cn_cons {x : Int} {cs : List Int} {k : Nat} : cn (x :: cs) (k + 1) = cn cs k := by unfold cn; rw [List.getD_cons_succ]
theorem psum_cons {P : Pri} {xs : List Str} {x : Int} {cs : List Int} : ∀ k, psum P xs (x :: cs) (k + 1) = (stp P xs x.toNat (cn cs 0).toNat).getD 0 + psum P xs cs k
  | 0 => by
    show 0 + (stp P xs (cn (x :: cs) 0).toNat (cn (x :: cs) (0 + 1)).toNat).getD 0 = _ + 0
    rw [cn_cons, Int.zero_add, Int.add_zero]; rfl
  | k + 1 => by
    show psum P xs (x :: cs) (k + 1) + (stp P xs (cn (x :: cs) (k + 1)).toNat (cn (x :: cs) (k + 1 + 1)).toNat).getD 0 = _ + (psum P xs cs k + _)
    rw [psum_cons k, cn_cons, cn_cons, Int.add_assoc]
theorem path_good {P : Pri} {xs : List Str} (h : 2 ≤ xs.length) : ∀ (k i : Nat) (a b c : Int), i < xs.length → xs.length - 1 - i ≤ k → wayAt P xs i = some [a, b, c] → GoodPath P xs i a b (pathG P xs k i)
  | k, i, a, b, c, hi, hk, e => by
    by_cases hi1 : i + 1 < xs.length
    · obtain ⟨k, rfl⟩ : ∃ k', k = k' + 1 := ⟨k - 1, by omega⟩
      obtain ⟨to, p, m, e', pr, t1, t2, t3, t4, t5, t6⟩ := way_next h hi1 e
      have e6 := List.cons.inj t6
      have e7 := List.cons.inj e6.2
      have e8 := (List.cons.inj e7.2).1
      rw [e8] at e
      rw [path_step hi1 e]
      obtain ⟨g1, g2, g3, g4, g5, g6, g7⟩ := path_good h k to p m e' t2 (by omega) t5
      generalize hcs : pathG P xs k to = cs at g1 g2 g3 g4 g5 g6 g7
      have hl : 0 < cs.length := List.length_pos_iff.mpr g1
      refine ⟨by simp, rfl, ?_, ?_, ?_, ?_, ?_⟩
      · rw [List.length_cons, show cs.length + 1 - 1 = (cs.length - 1) + 1 by omega, cn_cons]; exact g3
      · rintro (_ | j) hj
        · rw [cn_cons, g2]; show (i : Int) < to; omega
        · rw [cn_cons, cn_cons]; exact g4 j (by rw [List.length_cons] at hj; omega)
      · rintro (_ | j) hj
        · rw [cn_cons, g2, Int.toNat_natCast, show (cn ((i : Int) :: cs) 0).toNat = i from Int.toNat_natCast i]; exact t3
        · rw [cn_cons, cn_cons]; exact g5 j (by rw [List.length_cons] at hj; omega)
      · rw [List.length_cons, show cs.length + 1 - 1 = (cs.length - 1) + 1 by omega, psum_cons, g6, g2, Int.toNat_natCast, Int.toNat_natCast, t4, e6.1, Int.add_comm]; rfl
      · rw [List.length_cons, e7.1]; omega
    · obtain rfl : i = xs.length - 1 := by omega
      rw [way_last h] at e
      cases e
      rw [path_end hi1]
      refine ⟨by simp, rfl, ?_, fun j hj => ?_, fun j hj => ?_, rfl, rfl⟩
      · show ((xs.length - 1 : Nat) : Int) = _; omega
      · exact absurd hj (by simp)
      · exact absurd hj (by simp)
def spAlong (K : PySem.W.Frag) : Sp := fun vs H Q _ => ∃ (w : Addr) (ws : List V) (P : Pri) (xs : List Str), vs = [.ref w] ∧ SqL K H w ws ∧ ws.length = xs.length ∧ 2 ≤ xs.length ∧ xs.length ≤ 1000 ∧ (∀ i, i < xs.length → ∃ v, ws[i]? = some v ∧ IsWay H v (wayAt P xs i)) ∧ wayAt P xs 0 ≠ none ∧
  ∀ (D : Addr) (H' : Hp), H D = none → Same H H' → H' D = some (.lst ((pathL P xs).map V.int)) → Q (.ref D) H'
def badJ (K : PySem.W.Frag) (a : Ads) (P : Addr) : Sp := fun vs H Q E => ∃ (p l : Addr) (zs : List V), vs = [.ref p, .ref l] ∧ SqL K H l zs ∧ zs.length ≤ 100 ∧ (∀ v ∈ zs, ask v) ∧ due zs ≠ 0 ∧ H P = some (TabO P) ∧ ∀ H', Same H H' → E (.ref (jerr a (due zs))) none H'
def spPriced (K : PySem.W.Frag) (a : Ads) (P : Addr) : Sp := fun vs H Q E => (∃ (p d l : Addr) (rs : List Row) (xs : List Str), vs = [.ref p, .ref l] ∧ TarAt a.Tariff H p d rs ∧ SqL K H l (xs.map V.str) ∧ GoodJ xs ∧ H P = some (TabO P) ∧
  (∀ x b c, wayAt (pri rs) xs 0 = some [x, b, c] → ∀ (t D : Addr) (H' : Hp), H t = none → H D = none → t ≠ D → Same H H' → H' t = some (.tup [.int x, .ref D]) → H' D = some (.lst ((pathL (pri rs) xs).map V.int)) → Q (.ref t) H') ∧ (wayAt (pri rs) xs 0 = none → ∀ H', Same H H' → E (.ref a.NoParting) none H')) ∨ badJ K a P vs H Q E
def spParted (K : PySem.W.Frag) (a : Ads) (P : Addr) : Sp := fun vs H Q E => (∃ (p d l : Addr) (rs : List Row) (xs : List Str), vs = [.ref p, .ref l] ∧ TarAt a.Tariff H p d rs ∧ SqL K H l (xs.map V.str) ∧ GoodJ xs ∧ H P = some (TabO P) ∧
  (∀ x b c, wayAt (pri rs) xs 0 = some [x, b, c] → ∀ (D : Addr) (H' : Hp), H D = none → Same H H' → H' D = some (.lst ((pathL (pri rs) xs).map V.int)) → Q (.ref D) H') ∧ (wayAt (pri rs) xs 0 = none → ∀ H', Same H H' → E (.ref a.NoParting) none H')) ∨ badJ K a P vs H Q E
abbrev s_cuts_along : Stmt := topS 30
abbrev N_cuts_along : List Str := ["ways", "cuts", "_", "end"]
theorem sc_cuts_along : FnScope N_cuts_along ["ways"] (defScope s_cuts_along) := ⟨rfl, rfl, rfl, by decide +kernel, rfl, by decide +kernel, by decide +kernel⟩
abbrev s_priced : Stmt := topS 31
abbrev N_priced : List Str := ["tariff", "journey", "ways", "price", "_"]
theorem sc_priced : FnScope N_priced ["tariff", "journey"] (defScope s_priced) := ⟨rfl, rfl, rfl, by decide +kernel, rfl, by decide +kernel, by decide +kernel⟩
section
variable {Pg : Program} {w : World} {K : PySem.W.Frag} {mg : Str → Option Value} {base : Heap} {a : Ads}
theorem ok_cuts_along {f : Addr} {fd : FuncData} (F : Fun K "cuts_along" "cuts_along" s_cuts_along f fd) (T : Txt K mg a) : FnOk Pg w K mg base (L2N.CX Pg w) 1 f fd ["ways"] (spAlong K) := by
  refine F.okN sc_cuts_along (fun vs H Q E h => ?_) (fun cdv A outer s H vs Q E hr h => ?_)
  · obtain ⟨_, _, _, _, rfl, _⟩ := h
    rfl
  · obtain ⟨wq, ws, P, xs, rfl, hw, wl, lo, hi, hways, h0, q⟩ := h
    have PO : PassesOwn (model Pg w) (A.deeper (envOfC "cuts_along" (defScope s_cuts_along) s.heap.objs.size f cdv)) (envOfC "cuts_along" (defScope s_cuts_along) s.heap.objs.size f cdv) (cxOf (L2N.CX Pg w) Pg w K mg base N_cuts_along "cuts_along" (defScope s_cuts_along) f cdv A outer s H E).xe := passes_of rfl
    refine ⟨_, (pss_cons (ps_set (i := 1) sc_cuts_along.nd rfl (by first | exact Or.inl rfl | exact Or.inr rfl) (pe_lstN (pa_cons pe_int pa_nil)))
      (pss_cons (ps_while PO (pt_cmpR op_lt (pe_ix ix_list (pv 1) (pe_un un_neg pe_int) (fun _ _ => rfl)) (pe_op op_sub (pe_callB call_len_seq (by rfl) T.n_len (by decide +kernel) (pa_cons (pv 0) pa_nil)) pe_int) (nomark _))
        (pss_cons (ps_asg (pe_ix ix_list (pv 0) (pe_ix ix_list (pv 1) (pe_un un_neg pe_int) (fun _ _ => rfl)) (fun _ _ => rfl)) (pg_tup rfl (pgs_cons (pg_name (i := 2) sc_cuts_along.nd rfl (by first | exact Or.inl rfl | exact Or.inr rfl)) (pgs_cons (pg_name (i := 2) sc_cuts_along.nd rfl (by first | exact Or.inl rfl | exact Or.inr rfl)) (pgs_cons (pg_name (i := 3) sc_cuts_along.nd rfl (by first | exact Or.inl rfl | exact Or.inr rfl)) pgs_nil)))))
          (pss_one (ps_expr (pe_bm PySem.F.plainAttrs_list PySem.F.slot_list_append PySem.F.type_list_append mt_appendN (pv 1) (pa_cons (pe_un un_neg (pv 3)) pa_nil))))))
      (pss_one (ps_ret (pv 1))))), ?_⟩
    walk_at "s"
    refine ⟨(by simp), fun c H1 nc s1 h1 => ?_⟩
    walk_at "s"
    refine ⟨fun m σ H' => ∃ (pre : List Int) (i : Nat) (v2 v3 : Option V), σ = [some (.ref wq), some (.ref c), v2, v3] ∧ Same H H' ∧ H' c = some (.lst ((pre ++ [(i : Int)]).map V.int)) ∧ i < xs.length ∧ wayAt P xs i ≠ none ∧ pre ++ pathG P xs m i = pathL P xs ∧ xs.length - 1 - i ≤ m ∧ pre.length ≤ i, ⟨xs.length - 1, [], 0, none, none, rfl, s1, h1, by omega, h0, rfl, by omega, Nat.le_refl _⟩, ?_⟩
    rintro m σ H2 ⟨pre, i, v2, v3, rfl, s2, h2, il, hne, hp, hm, hpl⟩
    have hw2 := s2.seq hw
    have hc2 : SqL K H2 c ((pre ++ [(i : Int)]).map V.int) := SqL.of h2
    have atL : atI ((pre ++ [(i : Int)]).map V.int) (-1) = some (.int (i : Int)) := by
      rw [atI_neg1 (by simp), List.getElem?_map, List.length_map, List.length_append, show pre.length + [(i : Int)].length - 1 = pre.length from rfl, List.getElem?_concat_length]; rfl
    walk_at "s"
    walk_at "s"
    refine ⟨_, _, _, _, rfl, rfl, hc2, atL, ?_⟩
    walk_at "s"
    refine ifD (fun d1 => ?_) (fun d1 => ?_)
    · obtain ⟨m, rfl⟩ : ∃ m', m = m' + 1 := ⟨m - 1, by omega⟩
      obtain ⟨l0, e0⟩ := Option.ne_none_iff_exists'.mp hne
      obtain ⟨to, p, m2, e', pr, t1, t2, t3, t4, t5, t6⟩ := way_next lo (by omega : i + 1 < xs.length) e0
      rw [t6] at e0
      rw [path_step (by omega) e0] at hp
      obtain ⟨v, hv, hvw⟩ := hways i il
      rw [e0] at hvw
      obtain ⟨l3, t, rfl, ht⟩ := hvw
      refine ⟨fun σ' H' => ∃ m', m' < m + 1 ∧ ∃ (pre : List Int) (i : Nat) (v2 v3 : Option V), σ' = [some (.ref wq), some (.ref c), v2, v3] ∧ Same H H' ∧ H' c = some (.lst ((pre ++ [(i : Int)]).map V.int)) ∧ i < xs.length ∧ wayAt P xs i ≠ none ∧ pre ++ pathG P xs m' i = pathL P xs ∧ xs.length - 1 - i ≤ m' ∧ pre.length ≤ i, fun _ _ h => h, ?_⟩
      walk_at "s"
      refine ⟨_, _, _, _, rfl, rfl, hc2, atL, ?_⟩
      walk_at "s"
      refine ⟨_, _, _, _, rfl, rfl, hw2, (by rw [atI_nat]; exact hv), ?_⟩
      refine ⟨_, _, rfl, SqT.of (s2 _ _ ht), rfl, _, _, rfl, _, _, rfl, _, _, rfl, rfl, ?_⟩
      walk_at "s"
      refine ⟨.inl ⟨rfl, _, hc2⟩, ?_⟩
      walk_at "s"
      have lp : (pre ++ [(i : Int)]).length = pre.length + 1 := by rw [List.length_append]; rfl
      refine ⟨c, _, _, rfl, rfl, h2, by rw [List.length_map]; omega, fun H3 s3 h3 => ?_⟩
      refine ⟨m, by omega, pre ++ [(i : Int)], to, _, _, rfl, same_mutB s2 nc s3, ?_, t2, by rw [t5]; simp, ?_, by omega, by omega⟩
      · rw [h3, List.map_append (l₂ := [((to : Nat) : Int)])]; show some (HO.lst (_ ++ [V.int (-(-(to : Int)))])) = _; rw [Int.neg_neg]; rfl
      · rw [List.append_assoc]; exact hp
    · have ei : i = xs.length - 1 := by omega
      rw [path_end (by omega)] at hp
      rw [hp] at h2
      walk_at "s"
      exact q c H2 nc s2 h2
theorem ok_priced {f P : Addr} {fd : FuncData} (F : Fun K "priced" "priced" s_priced f fd) (T : Txt K mg a) (D_need_journey : Dn Pg w K mg base 3 "need_journey" ["places"] (spNeed K a P)) (D_ways_on : Dn Pg w K mg base 6 "ways_on" ["tariff", "places"] (spWays K a P)) (D_cuts_along : Dn Pg w K mg base 1 "cuts_along" ["ways"] (spAlong K)) : FnOk Pg w K mg base (L2N.CX Pg w) 7 f fd ["tariff", "journey"] (spPriced K a P) := by
  refine F.okN sc_priced (fun vs H Q E h => ?_) (fun cdv A outer s H vs Q E hr h => ?_)
  · rcases h with ⟨_, _, _, _, _, rfl, _⟩ | ⟨_, _, _, rfl, _⟩
    · rfl
    · rfl
  · have PO : PassesOwn (model Pg w) (A.deeper (envOfC "priced" (defScope s_priced) s.heap.objs.size f cdv)) (envOfC "priced" (defScope s_priced) s.heap.objs.size f cdv) (cxOf (L2N.CX Pg w) Pg w K mg base N_priced "priced" (defScope s_priced) f cdv A outer s H E).xe := passes_of rfl
    refine ⟨_, (pss_cons (ps_set (i := 2) sc_priced.nd rfl (by first | exact Or.inl rfl | exact Or.inr rfl) (pe_fnS D_ways_on (hr.mono (by decide)) (fun σ => L2N.passAt (L2N.takes_of rfl rfl rfl rfl) σ) (pa_cons (pv 0) (pa_cons (pe_fnS D_need_journey (hr.mono (by decide)) (fun σ => L2N.passAt (L2N.takes_of rfl rfl rfl rfl) σ) (pa_cons (pv 1) pa_nil)) pa_nil))))
      (pss_cons (ps_if (pt_cmpR op_isN (pe_ix ix_list (pv 2) pe_int (fun _ _ => rfl)) pe_non (nomark _)) (pss_one (L2N.ps_raise rfl (L2N.takes_of rfl rfl rfl rfl) (L2N.pmk_own PySem.F.excBase_ValueError T.x_NoParting.x T.x_NoParting.g T.x_NoParting.k (raises_own T.x_NoParting.b T.x_NoParting.t) rfl))) pss_nil)
      (pss_cons (ps_asg (pe_ix ix_list (pv 2) pe_int (fun _ _ => rfl)) (pg_tup rfl (pgs_cons (pg_name (i := 3) sc_priced.nd rfl (by first | exact Or.inl rfl | exact Or.inr rfl)) (pgs_cons (pg_name (i := 4) sc_priced.nd rfl (by first | exact Or.inl rfl | exact Or.inr rfl)) (pgs_cons (pg_name (i := 4) sc_priced.nd rfl (by first | exact Or.inl rfl | exact Or.inr rfl)) pgs_nil)))))
      (pss_one (ps_ret (pe_tupN (pa_cons (pv 3) (pa_cons (pe_fnS D_cuts_along (hr.mono (by decide)) passC (pa_cons (pv 2) pa_nil)) pa_nil)))))))), ?_⟩
    rcases h with ⟨p, d, l, rs, xs, rfl, hT, hs, hg, hP, q, qN⟩ | ⟨p, l, zs, rfl, hs, hl, ha, hd, hP, q⟩
    · have lo := hg.lo
      have h40 := hg.hi
      walk_at "s"
      refine ⟨l, _, rfl, hs, by rw [List.length_map]; omega, hg.ask, hP, fun _ m H1 hm s1 h1 => ?_, fun e => absurd hg.due e⟩
      have hs1 : SqL K H1 m (xs.map V.str) := SqL.of h1
      walk_at "s"
      refine ⟨p, d, m, rs, xs, rfl, hT.same s1, hs1, hg, s1 _ _ hP, fun W H2 ws nW s2 hW wl hways => ?_⟩
      have hWq : SqL K H2 W ws := SqL.of hW
      have s12 := Same.trans s1 s2
      obtain ⟨v, hv, hvw⟩ := hways 0 (by omega)
      walk_at "s"
      refine ⟨_, _, _, _, rfl, rfl, hWq, atI_of (by omega) hv, ?_⟩
      cases e : wayAt (pri rs) xs 0 with
      | none =>
        rw [e] at hvw
        obtain rfl : v = .non := hvw
        walk_at "s"
        exact qN e _ s12
      | some l0 =>
        obtain ⟨b1, b2, b3, rfl⟩ := way_shape lo (by omega) e
        rw [e] at hvw
        obtain ⟨_, t, rfl, ht⟩ := hvw
        walk_at "s"
        refine ⟨_, _, _, _, rfl, rfl, hWq, atI_of (by omega) hv, ?_⟩
        refine ⟨_, _, rfl, SqT.of ht, rfl, _, _, rfl, _, _, rfl, _, _, rfl, rfl, ?_⟩
        walk_at "s"
        refine ⟨W, ws, pri rs, xs, rfl, hWq, wl, lo, by omega, hways, by rw [e]; simp, fun D H3 nD s3 hD => ?_⟩
        refine ⟨(by simp), fun u H4 nu s4 hu => ?_⟩
        exact q b1 b2 b3 e u D H4 (s12.free (s3.free nu)) (s12.free nD) (ne_of_none hD nu).symm (Same.trans s12 (Same.trans s3 s4)) hu (s4 _ _ hD)
    · walk_at "s"
      refine ⟨l, zs, rfl, hs, hl, ha, hP, fun e => absurd e hd, fun e H1 s1 => ?_⟩
      exact q H1 s1
end
end Fb

namespace Fb
open PySem PySem.Spec PyProof.Rows L2
local macro_rules | `(tactic| walk_at "s") => `(tactic| repeat (first | refine ⟨_, rfl, ?_⟩ | refine ⟨_, _, rfl, rfl, ?_⟩ | refine ⟨_, _, rfl, Or.inl (by assumption), ?_⟩ | refine ⟨rfl, ?_⟩ | refine ⟨(by decide : (0 : Int) < _), ?_⟩ | refine ⟨⟨by decide, by decide⟩, ?_⟩ | refine ⟨_, _, _, rfl, (by assumption), (by first | decide | omega), ?_⟩))
abbrev s_parted : Stmt := topS 32
abbrev N_parted : List Str := ["tariff", "journey", "_", "cuts"]
theorem sc_parted : FnScope N_parted ["tariff", "journey"] (defScope s_parted) := ⟨rfl, rfl, rfl, by decide +kernel, rfl, by decide +kernel, by decide +kernel⟩
section
variable {Pg : Program} {w : World} {K : PySem.W.Frag} {mg : Str → Option Value} {base : Heap} {a : Ads}
theorem ok_parted {f P : Addr} {fd : FuncData} (F : Fun K "parted" "parted" s_parted f fd) (T : Txt K mg a) (D_priced : Dn Pg w K mg base 7 "priced" ["tariff", "journey"] (spPriced K a P)) : FnOk Pg w K mg base (L2N.CX Pg w) 8 f fd ["tariff", "journey"] (spParted K a P) := by
  refine F.okN sc_parted (fun vs H Q E h => ?_) (fun cdv A outer s H vs Q E hr h => ?_)
  · rcases h with ⟨_, _, _, _, _, rfl, _⟩ | ⟨_, _, _, rfl, _⟩
    · rfl
    · rfl
  · have PO : PassesOwn (model Pg w) (A.deeper (envOfC "parted" (defScope s_parted) s.heap.objs.size f cdv)) (envOfC "parted" (defScope s_parted) s.heap.objs.size f cdv) (cxOf (L2N.CX Pg w) Pg w K mg base N_parted "parted" (defScope s_parted) f cdv A outer s H E).xe := passes_of rfl
    refine ⟨_, (pss_cons (ps_asg (pe_fnS D_priced (hr.mono (by decide)) (fun σ => L2N.passAt (L2N.takes_of rfl rfl rfl rfl) σ) (pa_cons (pv 0) (pa_cons (pv 1) pa_nil))) (pg_tup rfl (pgs_cons (pg_name (i := 2) sc_parted.nd rfl (by first | exact Or.inl rfl | exact Or.inr rfl)) (pgs_cons (pg_name (i := 3) sc_parted.nd rfl (by first | exact Or.inl rfl | exact Or.inr rfl)) pgs_nil))))
      (pss_one (ps_ret (pv 3)))), ?_⟩
    rcases h with ⟨p, d, l, rs, xs, rfl, hT, hs, hg, hP, q, qN⟩ | ⟨p, l, zs, rfl, hs, hl, ha, hd, hP, q⟩
    · walk_at "s"
      refine .inl ⟨p, d, l, rs, xs, rfl, hT, hs, hg, hP, fun x b c e t D H1 nt nD ne s1 h1 hD => ?_, fun e H1 s1 => ?_⟩
      · refine ⟨_, _, rfl, SqT.of h1, rfl, _, _, rfl, _, _, rfl, rfl, ?_⟩
        walk_at "s"
        exact q x b c e D H1 nD s1 hD
      · exact qN e H1 s1
    · walk_at "s"
      refine .inr ⟨p, l, zs, rfl, hs, hl, ha, hd, hP, fun H1 s1 => ?_⟩
      exact q H1 s1
end
end Fb

namespace Fb
open PySem PySem.Spec PyProof.Rows L2
local macro_rules | `(tactic| walk_at "s") => `(tactic| repeat (first | refine ⟨_, rfl, ?_⟩ | refine ⟨_, _, rfl, rfl, ?_⟩ | refine ⟨_, _, rfl, Or.inl (by assumption), ?_⟩ | refine ⟨rfl, ?_⟩ | refine ⟨(by decide : (0 : Int) < _), ?_⟩ | refine ⟨⟨by decide, by decide⟩, ?_⟩ | refine ⟨_, _, _, rfl, (by assumption), (by first | decide | omega), ?_⟩))
/-! ### lines: the program's defs -/
def spFig (P : Addr) : Sp := fun vs H Q _ => ∃ z : Str, vs = [.str z] ∧ z.length ≤ 100000 ∧ H P = some (TabO P) ∧ Q (.bl (isFig z)) H
def spRowOf (a : Ads) (P : Addr) : Sp := fun vs H Q E => ∃ z : Str, vs = [.str z] ∧ z.length ≤ 90000 ∧ H P = some (TabO P) ∧ (∀ r, parseL z = some r → ∀ t H', H t = none → Same H H' → IsRow H' t r → Q (.ref t) H') ∧ (parseL z = none → ∀ H', Same H H' → E (.ref a.BadLine) none H')
theorem zero_iff {z : Str} : (V.str z = V.str (Str.ofString "0")) ↔ z.cps.toList = [48] := by
  have e : (Str.ofString "0").cps.toList = [48] := by decide +kernel
  exact ⟨fun h => by rw [V.str.inj h]; exact e, fun h => congrArg V.str (str_ext (by rw [h, e]))⟩
abbrev s_are_figures : Stmt := topS 37
abbrev N_are_figures : List Str := ["word"]
theorem sc_are_figures : FnScope N_are_figures ["word"] (defScope s_are_figures) := ⟨rfl, rfl, rfl, by decide +kernel, rfl, by decide +kernel, by decide +kernel⟩
abbrev s_row_of : Stmt := topS 38
abbrev N_row_of : List Str := ["line", "words", "here", "there", "figures"]
theorem sc_row_of : FnScope N_row_of ["line"] (defScope s_row_of) := ⟨rfl, rfl, rfl, by decide +kernel, rfl, by decide +kernel, by decide +kernel⟩
section
variable {Pg : Program} {w : World} {K : PySem.W.Frag} {mg : Str → Option Value} {base : Heap} {a : Ads}
theorem ok_are_figures {f c P : Addr} {fd : FuncData} (F : FunC K "are_figures" "are_figures" s_are_figures f fd c) (T : Txt K mg a) (TB : GxR.TabB base mg c P) : FnOk Pg w K mg base (L2N.CX Pg w) 2 f fd ["word"] (spFig P) := by
  refine F.okN sc_are_figures (fun vs H Q E h => ?_) (fun A outer s H vs Q E hr h => ?_)
  · obtain ⟨_, rfl, _⟩ := h
    rfl
  · obtain ⟨z, rfl, hz, hP, q⟩ := h
    refine ⟨_, (pss_cons (ps_if (pt_not (pt_chain op_le op_le pe_int (pe_callB call_len_str (by rfl) T.n_len (by decide +kernel) (pa_cons (pv 0) pa_nil)) (pe_gint T.c_MOST_FIGURES rfl))) (pss_one (ps_ret pe_bl)) pss_nil)
      (pss_cons (ps_if (pt_cmpR op_eq (pe_ix ix_str (pv 0) pe_int (fun _ _ => rfl)) pe_str (nomark _)) (pss_one (ps_ret (pe_cmpR op_eq (pv 0) pe_str (nomark _)))) pss_nil)
      (pss_one (ps_ret (pe_allP (i := 0) (GxR.pe_allS hr rfl T.n_all (by decide +kernel) TB rfl ⟨rfl, rfl, by decide +kernel, rfl, rfl, nofree_ex (by decide +kernel)⟩ (pv 0) (elt_btw rfl rfl) (fun _ => rfl))))))), ?_⟩
    walk_at "s"
    refine ⟨szl hz, ?_⟩
    walk_at "s"
    refine ifD (fun c1 => ?_) (fun c1 => ?_)
    · walk_at "s"
      refine ifND (fun c2 => ?_) (fun c2 => ?_)
      · have e : isFig z = false := by unfold isFig; rw [decide_eq_false (show ¬ z.length ≤ 13 by omega)]; simp
        rw [e] at q
        exact q
      · have hl : 0 < z.cps.toList.length := by rw [← len_tl]; omega
        have e0 : atI z.cps.toList 0 = some z.cps.toList[0] := atI_of (by omega) (List.getElem?_eq_getElem hl)
        have eh : z.cps.toList.head? = some z.cps.toList[0] := by rw [List.head?_eq_getElem?, List.getElem?_eq_getElem hl]
        walk_at "s"
        refine ⟨_, _, _, rfl, rfl, szl hz, e0, ?_⟩
        walk_at "s"
        refine ifD (fun c3 => ?_) (fun c3 => ?_)
        · walk_at "s"
          have e48 : z.cps.toList[0] = 48 := by
            have := zero_iff.mp c3
            simpa using this
          have e : isFig z = decide (V.str z = V.str (Str.ofString "0")) := by
            unfold isFig
            rw [decide_eq_true (show 1 ≤ z.length by omega), decide_eq_true (show z.length ≤ 13 by omega), eh, e48, if_pos rfl, Bool.and_self, Bool.true_and]
            exact decide_eq_decide.mpr zero_iff.symm
          rw [e] at q
          exact q
        · have e48 : ¬ z.cps.toList[0] = 48 := fun z1 => c3 (zero_iff.mpr (by rw [z1]))
          have e : isFig z = z.cps.toList.all digit := by
            unfold isFig
            rw [decide_eq_true (show 1 ≤ z.length by omega), decide_eq_true (show z.length ≤ 13 by omega), eh, if_neg (fun h => e48 (Option.some.inj h)), Bool.and_self, Bool.true_and]
          rw [e] at q
          refine ⟨z, rfl, hP, ?_⟩
          rw [show (fun c => !decide (([c] : List Nat) < (Str.ofString "0").cps.toList) && !decide ((Str.ofString "9").cps.toList < ([c] : List Nat))) = digit from funext btw_digit]
          exact q
    · walk_at "s"
      refine ifT1 ?_
      have e : isFig z = false := by unfold isFig; rw [decide_eq_false (show ¬ 1 ≤ z.length by omega)]; rfl
      rw [e] at q
      exact q
theorem ok_row_of {f P : Addr} {fd : FuncData} (F : Fun K "row_of" "row_of" s_row_of f fd) (T : Txt K mg a) (D_are_figures : Dn Pg w K mg base 2 "are_figures" ["word"] (spFig P)) : FnOk Pg w K mg base (L2N.CX Pg w) 3 f fd ["line"] (spRowOf a P) := by
  refine F.okN sc_row_of (fun vs H Q E h => ?_) (fun cdv A outer s H vs Q E hr h => ?_)
  · obtain ⟨_, rfl, _⟩ := h
    rfl
  · obtain ⟨z, rfl, hz, hP, q, qE⟩ := h
    refine ⟨_, (pss_cons (ps_set (i := 1) sc_row_of.nd rfl (by first | exact Or.inl rfl | exact Or.inr rfl) (pe_splitN (pv 0) pe_str))
      (pss_cons (ps_if (PW.pt (pw_or (pt_cmpR op_ne (pe_callB call_len_seq (by rfl) T.n_len (by decide +kernel) (pa_cons (pv 1) pa_nil)) pe_int (nomark _)) (pw_or1 (pt_cmpR op_in_seq pe_str (pv 1) rfl)))) (pss_one (L2N.ps_raise rfl (L2N.takes_of rfl rfl rfl rfl) (L2N.pmk_own PySem.F.excBase_ValueError T.x_BadLine.x T.x_BadLine.g T.x_BadLine.k (raises_own T.x_BadLine.b T.x_BadLine.t) rfl))) pss_nil)
      (pss_cons (ps_asg (pv 1) (pg_lst rfl (pgs_cons (pg_name (i := 2) sc_row_of.nd rfl (by first | exact Or.inl rfl | exact Or.inr rfl)) (pgs_cons (pg_name (i := 3) sc_row_of.nd rfl (by first | exact Or.inl rfl | exact Or.inr rfl)) (pgs_cons (pg_name (i := 4) sc_row_of.nd rfl (by first | exact Or.inl rfl | exact Or.inr rfl)) pgs_nil)))))
      (pss_cons (ps_if (pt_not (pt_val (pe_fnS D_are_figures (hr.mono (by decide)) passC (pa_cons (pv 4) pa_nil)))) (pss_one (L2N.ps_raise rfl (L2N.takes_of rfl rfl rfl rfl) (pmk_ownN1 PySem.F.excBase_ValueError T.x_BadLine.x T.x_BadLine.g T.x_BadLine.k (raises_own T.x_BadLine.b T.x_BadLine.t) rfl (pe_joined (PJ.cons pe_str (PJ.cons (pe_fmt (pe_gint T.c_MOST_FIGURES rfl)) (PJ.cons pe_str PJ.nil))))))) pss_nil)
      (pss_one (ps_ret (pe_tupN (pa_cons (pv 2) (pa_cons (pv 3) (pa_cons (pe_callTy call_int_str (by rfl) T.n_int (by decide +kernel) (pa_cons (pv 4) pa_nil)) pa_nil)))))))))), ?_⟩
    walk_at "s"
    refine ⟨⟨_, rfl⟩, _, _, rfl, rfl, (by decide +kernel), by omega, fun p H1 hp s1 h1 => ?_⟩
    have h1 : H1 p = some (.lst ((wds z).map V.str)) := h1
    have hq1 : SqL K H1 p ((wds z).map V.str) := SqL.of h1
    have bad : parseL z = none → ∀ H', Same H H' → E (.ref a.BadLine) none H' := qE
    have hw : ∀ x ∈ wds z, x.length ≤ z.length := fun x hx => (split_parts_len x hx).1
    walk_at "s"
    rw [List.length_map]
    refine ifND (fun c1 => ?_) (fun c1 => ?_)
    · walk_at "s"
      refine bad ?_ _ s1
      unfold parseL
      split
      · next a b c e => rw [e] at c1; exact absurd rfl c1
      · rfl
    · obtain ⟨w1, w2, w3, ew⟩ : ∃ w1 w2 w3, wds z = [w1, w2, w3] := by
        have hl : (wds z).length = 3 := by have := V.int.inj c1; omega
        match wds z, hl with
        | [w1, w2, w3], _ => exact ⟨w1, w2, w3, rfl⟩
      rw [ew] at h1 hq1 hw
      have l3 := hw w3 (by simp)
      have ep : parseL z = if w1 = empS ∨ w2 = empS ∨ w3 = empS then none else if isFig w3 = true then some (w1, w2, ((NumText.digitsVal w3.cps.toList : Nat) : Int)) else none := by
        unfold parseL
        rw [ew]
      walk_at "s"
      rw [show inV (.str (Str.ofString "")) (List.map V.str [w1, w2, w3]) = decide (empS ∈ [w1, w2, w3]) from inV_str (l := [w1, w2, w3])]
      refine ifD (fun c2 => ?_) (fun c2 => ?_)
      · walk_at "s"
        refine bad ?_ _ s1
        rw [ep, if_pos]
        simp only [List.mem_cons, List.not_mem_nil, or_false] at c2
        rcases c2 with e | e | e
        · exact .inl e.symm
        · exact .inr (.inl e.symm)
        · exact .inr (.inr e.symm)
      · have c2' : ¬ (w1 = empS ∨ w2 = empS ∨ w3 = empS) := fun h => c2 (by
          simp only [List.mem_cons, List.not_mem_nil, or_false]
          rcases h with e | e | e
          · exact .inl e.symm
          · exact .inr (.inl e.symm)
          · exact .inr (.inr e.symm))
        rw [if_neg c2'] at ep
        walk_at "s"
        refine ⟨_, _, rfl, hq1, rfl, _, _, rfl, _, _, rfl, _, _, rfl, rfl, ?_⟩
        walk_at "s"
        refine ⟨by omega, s1 _ _ hP, ?_⟩
        walk_at "s"
        refine ifNB (fun c3 => ?_) (fun c3 => ?_)
        · rw [c3, if_neg Bool.false_ne_true] at ep
          walk_at "s"
          refine ⟨by decide +kernel, ?_⟩
          walk_at "s"
          refine .inr ⟨13, rfl, by decide, ?_⟩
          walk_at "s"
          refine ⟨by decide +kernel, ?_⟩
          walk_at "s"
          exact ⟨by decide +kernel, bad ep _ s1⟩
        · rw [if_pos c3] at ep
          obtain ⟨fi, fl⟩ := fig_int c3
          walk_at "s"
          refine ⟨_, _, rfl, fi, fl, ?_⟩
          walk_at "s"
          refine ⟨(by simp), fun t H2 ht s2 h2 => ?_⟩
          exact q _ ep t H2 (s1.free ht) (Same.trans s1 s2) h2
end
end Fb

namespace Fb
open PySem PySem.Spec PyProof.Rows L2
/-! ### the least tuple, one by one -/
theorem minT_one {y : List Int} : minT y [] = y := rfl
theorem minT_cons {y z : List Int} {ys : List (List Int)} : minT y (z :: ys) = minT (if PySem.W.listLt z y = true then z else y) ys := by
  show (PySem.W.minOf (if PySem.W.DatumOrd.lt (PySem.W.Tup.mk z) (PySem.W.Tup.mk y) = true then PySem.W.Tup.mk z else PySem.W.Tup.mk y) (ys.map PySem.W.Tup.mk)).items = _
  by_cases h : PySem.W.listLt z y = true
  · rw [if_pos h, if_pos (show PySem.W.DatumOrd.lt (PySem.W.Tup.mk z) (PySem.W.Tup.mk y) = true from h)]; rfl
  · rw [if_neg h, if_neg (show ¬ PySem.W.DatumOrd.lt (PySem.W.Tup.mk z) (PySem.W.Tup.mk y) = true from h)]; rfl
theorem minT_snoc : ∀ {ys : List (List Int)} {y z : List Int}, minT y (ys ++ [z]) = if PySem.W.listLt z (minT y ys) = true then z else minT y ys
  | [], y, z => by rw [List.nil_append, minT_cons, minT_one, minT_one]
  | x :: ys, y, z => by
    rw [List.cons_append, minT_cons, minT_cons]
    exact minT_snoc
theorem lt3 {a b c a' b' c' : Int} : PySem.W.listLt [a, b, c] [a', b', c'] = (if a ≠ a' then decide (a < a') else if b ≠ b' then decide (b < b') else decide (c < c')) := by
  unfold PySem.W.listLt
  by_cases h1 : a = a'
  · rw [if_pos h1, if_neg (fun n => n h1)]
    unfold PySem.W.listLt
    by_cases h2 : b = b'
    · rw [if_pos h2, if_neg (fun n => n h2)]
      unfold PySem.W.listLt
      by_cases h3 : c = c'
      · rw [if_pos h3]
        unfold PySem.W.listLt
        exact (decide_eq_false (by omega)).symm
      · rw [if_neg h3]; rfl
    · rw [if_neg h2, if_pos h2]; rfl
  · rw [if_neg h1, if_pos h1]; rfl
end Fb

namespace Fb
open PySem PySem.Spec PyProof.Rows L2
/-! ### an error that leaves a list's comprehension -/
/-- where an error of the comprehension's element may come from -/
def XB (X : Cx) (E : XK) (z : Shared) (H : Hp) (sc : Scope) (ce : Env) (fp : List Addr) : Value → Shared → Prop := fun e s' => ∃ pl σ' Hc zc, Inv (X.blk z H sc ce fp) pl σ' Hc zc ∧ L2N.CX X.prog X.w X.stack Hc zc E e s'
@[reducible] def blkX (X : Cx) (E : XK) (z : Shared) (H : Hp) (sc : Scope) (ce : Env) (fp : List Addr) : Cx := { X.blk z H sc ce fp with xe := XB X E z H sc ce fp }
section
variable {X : Cx} {E : XK} {z : Shared} {H : Hp} {sc : Scope} {ce : Env} {fp : List Addr}
theorem blk_ok (h : (blkX X E z H sc ce fp).Ok) : (X.blk z H sc ce fp).Ok := ⟨h.mod, h.kind, h.glob, h.blt, h.above, h.inj, h.has, h.cab, h.hd, h.frames, h.stk, h.exf, h.bs, h.bsz, h.noex, h.exfs, h.funs, h.frf⟩
theorem ok_blk (h : (X.blk z H sc ce fp).Ok) : (blkX X E z H sc ce fp).Ok := ⟨h.mod, h.kind, h.glob, h.blt, h.above, h.inj, h.has, h.cab, h.hd, h.frames, h.stk, h.exf, h.bs, h.bsz, h.noex, h.exfs, h.funs, h.frf⟩
theorem blk_inv {pl : List (Addr × Obj)} {σ : L2.St} {H' : Hp} {s : Shared} (I : Inv (blkX X E z H sc ce fp) pl σ H' s) : Inv (X.blk z H sc ce fp) pl σ H' s := ⟨blk_ok I.ok, I.os, I.bare, I.base, I.loc, I.cell, I.free, I.freeC, I.pin, I.hok, I.len⟩
theorem inv_blk {pl : List (Addr × Obj)} {σ : L2.St} {H' : Hp} {s : Shared} (I : Inv (X.blk z H sc ce fp) pl σ H' s) : Inv (blkX X E z H sc ce fp) pl σ H' s := ⟨ok_blk I.ok, I.os, I.bare, I.base, I.loc, I.cell, I.free, I.freeC, I.pin, I.hok, I.len⟩
theorem passB (σ : L2.St) : PassesAt (L2N.CX (blkX X E z H sc ce fp).prog (blkX X E z H sc ce fp).w) (blkX X E z H sc ce fp) σ E := fun pins H s e s' I c => ⟨pins, σ, H, s, blk_inv I, c⟩
end
/-- one object in another's place -/
def repl (h : Heap) (C : Addr) (o : Obj) : Heap := { h with objs := h.objs.setIfInBounds C o }
theorem repl_ne {h : Heap} {C b : Addr} {o : Obj} (n : b ≠ C) : (repl h C o).get? b = h.get? b := by
  unfold Heap.get? repl
  dsimp only
  rw [Array.getElem?_setIfInBounds_ne (Ne.symm n)]
theorem repl_at {h g : Heap} {C : Addr} {o : Obj} (lt : C < h.objs.size) (e : g.objs[C]? = some o) : (repl h C o).get? C = g.get? C := by
  unfold Heap.get? repl
  dsimp only
  rw [Array.getElem?_setIfInBounds_self_of_lt lt, e]
theorem get_lt {h : Heap} {b : Addr} {o : Obj} (e : h.get? b = some o) : b < h.objs.size := Heap.lt_size e
theorem repl_in {h g : Heap} {C : Addr} {o u : Obj} (e : g.objs[C]? = some o) (hu : (repl h C o).get? C = some u) : g.get? C = some u := by
  by_cases lt : C < h.objs.size
  · rw [← repl_at lt e]; exact hu
  · have := get_lt hu
    unfold repl at this
    dsimp only at this
    rw [Array.size_setIfInBounds] at this
    exact absurd this lt
theorem frames_repl {h2 h3 B : Heap} {C : Addr} {o : Obj} (sb : ∀ b, b ≠ C → h3.get? b = h2.get? b) : ∀ (l : List Env), h2.FunFrames B l → C ∉ frs l → h3.FunFrames (repl B C o) l
  | [], _, _ => trivial
  | env :: rest, h, n => by
    obtain ⟨h1, ⟨L, ob, e1, e2, e3, e4⟩, h5⟩ := h
    have hL : L ∈ frs (env :: rest) := List.mem_filterMap.mpr ⟨env, List.mem_cons_self, e1⟩
    have nL : L ≠ C := fun z => n (z ▸ hL)
    refine ⟨h1, ⟨L, ob, e1, by rw [repl_ne nL]; exact e2, by rw [sb L nL]; exact e3, e4⟩, frames_repl sb rest h5 fun z => n ?_⟩
    obtain ⟨y, hy, ey⟩ := List.mem_filterMap.mp z
    exact List.mem_filterMap.mpr ⟨y, List.mem_cons_of_mem _ hy, ey⟩
theorem leave_lc {X : Cx} {E : XK} (tk : L2N.Takes X (fun c d _ H => E c d H)) (hst : X.stack = X.env :: X.outer) (hfr : X.env.frame = some X.env.locals) {pins : List (Addr × Obj)} {σ : L2.St} {z3 : Shared} {H3 : Hp} {sc : Scope} {fp : List Addr} {C : Addr} {ce : Env}
    (I3 : Inv X pins σ H3 z3) (ec : ce.locals = C) (cC : C = z3.heap.objs.size) (efr : ce.frame = X.env.frame)
    (f3 : ∀ b ∈ fp, (b ∈ X.ex ∨ X.s_0.heap.objs.size ≤ b) ∧ b ≠ X.env.locals ∧ (∀ (x : Str) (c : Addr), List.lookup x X.env.cells = some c → c ≠ b) ∧ ∀ (p : Addr × Obj), p ∈ X.pn ++ pins → p.fst ≠ b)
    {what : String} {e : Value} {s1 : Shared} {Q : Value → Shared → Prop} (h : XB X E z3 H3 sc ce fp e s1) :
    notedBy (model X.prog X.w) X.A ce (fun e s' => ∃ m, s'.heap.Ns C m ∧ ∀ h', Heap.SameBut C s'.heap h' → wpAny (model X.prog X.w) X.A (PySem.passOn what e ce) Q X.xe { s' with heap := h' }) e s1 := by
  obtain ⟨pl, σ', Hc, zc, Ib, a, B', H', cls, d, rfl, fly, hok, ub, ha, hos, hbare, we⟩ := h
  have IX : Inv X pins σ Hc zc := I3.call' (ch := fp) Ib.os Ib.base Ib.hok Ib.bare f3
  have nC : Hc C = none := by have y := Ib.free; rw [← ec]; exact y
  obtain ⟨a0, a1, a2, a3, a4, a5⟩ := I3.fpOk (Nat.le_of_eq cC.symm) (show Hc C = none from nC)
  have nF : C ∉ frs X.stack := fun z => (List.mem_cons.mp (I3.stkSub C z)).elim a1 a2
  obtain ⟨m, hns, _⟩ := Ib.loc
  have hns : zc.heap.Ns C m := by rw [← ec]; exact hns
  obtain ⟨oC, es, ep, gC, dC, k1, k2⟩ := hns
  have bC : B'.get? C = some oC := ub.keep C oC gC nC nF
  have aC : a ≠ C := fun z => by have := fly.2.1; rw [z, bC] at this; cases this
  obtain ⟨a', B, sI, pl2, σ2, H2, cls2, d2, e2, I2, sub, up, sky, ha2, os2, bare2, w2, w2C⟩ := L2N.XE.of_call (W := fun c d _ H => E c d H ∧ H C = none) (E := fun c d H => E c d H ∧ H C = none) IX (fun _ _ _ h => h) (u := .ref a) (s' := s1) ⟨a, B', H', cls, d, rfl, fly, hok, ub, ha, hos, hbare, we, ub.free C oC gC nC⟩
  cases e2
  have fly2 : HandSPX.FlyingZ B X.stack a (L2N.Zn cls2 d2) s1.heap := by
    obtain ⟨_, _, _, oe, vs, T, oT, ts, g1, z1, d1, v1, bT, nT, gT, dT, fl⟩ := id fly
    rcases sky with ⟨st, nb, ff, oe', vs', g', z', d', v'⟩ | f | ⟨st, nb, ff, oe', vs', T', oT', ts', g', z', d', v', bT', nT', gT', dT', fl'⟩
    · rw [g1] at g'; cases g'
      rw [d1] at d'; cases d'
      rw [v1] at v'; cases v'
    · exact f
    · rw [g1] at g'; cases g'
      rw [d1] at d'; cases d'
      rw [v1] at v'; cases v'
      rw [gT] at gT'; cases gT'
      rw [dT] at dT'; cases dT'
      rw [fl] at fl'; cases fl'
  have en : noteFrame (.ref a) ce = noteFrame (.ref a) X.env := by
    unfold noteFrame PySem.frameOf
    rw [efr]
  unfold notedBy
  rw [en]
  have g1C : s1.heap.get? C = some oC := fly.1 C oC bC
  rw [hst] at fly2
  refine PXN.looks_onZ L2N.Zn.steady (by rw [← hst]; exact I3.ok.frames) hfr fly2 fun h2 held up2 => ?_
  obtain ⟨sl, g2C⟩ := up2 C oC g1C fun vs z => by rw [dC] at z; cases z
  refine ⟨m, ⟨_, es, ep, g2C, dC, k1, k2⟩, fun h3 sb => ?_⟩
  have lt3 : C < h3.objs.size := by rw [sb.1]; exact get_lt g2C
  obtain ⟨o3, e3⟩ : ∃ o3, h3.objs[C]? = some o3 := ⟨_, Array.getElem?_eq_getElem lt3⟩
  obtain ⟨st, nb, ff, oe, vs, T, oT, ts, g1, z1, d1, v1, bT, nTa, gT, dT, fl⟩ := held
  have TC : T ≠ C := fun z => by
    rw [z, g2C] at gT
    cases gT
    have q : Data.dict es ep = Data.fields ts := dC.symm.trans dT
    cases q
  have st3 : (repl B C o3).StaysIn h3 := fun b o e => by
    by_cases c : b = C
    · subst c; exact repl_in e3 e
    · rw [repl_ne c] at e
      rw [sb.2 b c]
      exact st b o e
  have nFs : C ∉ frs (X.env :: X.outer) := by rw [← hst]; exact nF
  have held3 : HandSPX.HeldZ (repl B C o3) (X.env :: X.outer) a (L2N.Zn cls2 d2) X.env.locals h3 :=
    ⟨st3, by rw [repl_ne aC]; exact nb, frames_repl sb.2 _ ff nFs, oe, vs, T, oT, ts, by rw [sb.2 a aC]; exact g1, z1, d1, v1, by rw [repl_ne TC]; exact bT, nTa, by rw [sb.2 T TC]; exact gT, dT, fl⟩
  have pnC : ∀ (p : Addr × Obj), p ∈ X.pn ++ [] → p.fst ≠ C := fun p hp => a5 p (List.mem_append_left _ (by rw [List.append_nil] at hp; exact hp))
  have up3 : ∀ b, b ≠ C → ∀ o, sI.heap.get? b = some o → (∀ vs, o.data ≠ .fields vs) → ∃ sl, h3.get? b = some { cls := o.cls, dict := o.dict, data := o.data, slots := sl } := fun b nb o e nf => by
    obtain ⟨sl1, e1⟩ := up b o e nf
    obtain ⟨sl2, e2⟩ := up2 b _ e1 nf
    exact ⟨sl2, by rw [sb.2 b nb]; exact e2⟩
  obtain ⟨hI, J, subJ, upJ⟩ : ∃ hI, Inv X [] σ2 H2 { sI with heap := hI } ∧ (∀ b o, hI.get? b = some o → b ∉ frs X.stack → (repl B C o3).get? b = some o) ∧ hI.UpToSlots h3 := by
    have I2' : Inv X [] σ2 H2 sI := Inv.unpinned (pins := []) I2
    cases gI : sI.heap.get? C with
    | none =>
      refine ⟨sI.heap, I2', fun b o e nf => ?_, fun b o e nf => ?_⟩
      · have nb : b ≠ C := fun z => by rw [z, gI] at e; cases e
        rw [repl_ne nb]; exact sub b o e nf
      · have nb : b ≠ C := fun z => by rw [z, gI] at e; cases e
        exact up3 b nb o e nf
    | some oI =>
      have ltI := get_lt gI
      have ltB := get_lt (sub C oI gI nF)
      refine ⟨repl sI.heap C o3, I2'.turned (t' := sI.toks) (fun b o nb e => by rw [repl_ne nb]; exact e) w2C a1 a3 a4 pnC, fun b o e nf => ?_, fun b o e nf => ?_⟩
      · by_cases c : b = C
        · subst c
          rw [repl_at ltB e3]
          exact repl_in e3 e
        · rw [repl_ne c] at e ⊢
          exact sub b o e nf
      · by_cases c : b = C
        · subst c
          exact ⟨o.slots, repl_in e3 e⟩
        · rw [repl_ne c] at e
          exact up3 b c o e nf
  unfold PySem.passOn
  refine wpAny_bind (wpAny_field (by rw [sb.2 a aC]; exact g1) d1 v1 ?_)
  rw [show (Value.ref T == Value.none) = false from rfl, if_neg Bool.false_ne_true]
  refine wpAny_bind ?_
  rw [efr, hfr]
  refine HandSPX.setFlight_onZ held3 fun h5 held5 up5 => ?_
  refine wpAny_throw (tk _ _ ⟨a, repl B C o3, { sI with heap := hI }, [], σ2, H2, cls2, d2, rfl, J, subJ, fun b o e nf => ?_, ?_, ha2, os2, bare2, w2⟩)
  · obtain ⟨sl3, e3'⟩ := upJ b o e nf
    obtain ⟨sl5, e5⟩ := up5 b _ e3' nf
    exact ⟨sl5, e5⟩
  · rw [hst]
    exact .inr (.inr held5)
section
variable {X : Cx}
/-- a list's comprehension whose element may raise what the def lets pass -/
theorem pe_lcX {elt tg iter : Expr} {ifs : List Expr} {sc : Scope} {own : List (Str × Nat)} {pos : Pos} {wi : TI} {g : TG} {tt : TT} {te : TE} {E : XK} (tk : L2N.Takes X (fun c d _ H => E c d H)) (hst : X.stack = X.env :: X.outer) (hfr : X.env.frame = some X.env.locals) (hc : X.calm = true) (nd : X.N.Nodup) (hi : PI X tg iter wi) (ok : BlkOk X.N X.env.scope sc own)
    (nfree : ∀ y ∈ sc.names, y.2 ≠ .free) (hrel : relabel sc X.env = sc) (hclo : cloFrom X.env.cells sc.names [] = [])
    (hg : ∀ (z : Shared) (H : Hp) (C : Addr) (cl : List (Str × Addr)) (fp : List Addr), PG (blkX X E z H sc (compEnvC sc cl C X.env) fp) tg g)
    (ht : ∀ (z : Shared) (H : Hp) (C : Addr) (cl : List (Str × Addr)) (fp : List Addr), PTs (blkX X E z H sc (compEnvC sc cl C X.env) fp) ifs tt)
    (he : ∀ (z : Shared) (H : Hp) (C : Addr) (cl : List (Str × Addr)) (fp : List Addr), PE (blkX X E z H sc (compEnvC sc cl C X.env) fp) elt te)
    (hs : ∀ x, foldedSetIterable iter X.env x = pure x := by intro _; rfl) : PE X (.ListComp elt [⟨tg, iter, ifs, 0⟩] sc pos) (tLc wi g tt te (own.map (·.2))) := by
  refine ⟨fun pins z0 σ H Q I wish => ?_⟩
  refine wpAny_ListComp nfree ok.kind (fun y hy e => by rw [ok.uniq y hy, e]) (thn (hi.run pins z0 σ H _ I wish) fun xv z1 hx => thn hx fun itv z2 got => ?_) hs
  obtain ⟨it, fp, tn, J, H2, rfl, I2, T, t2, f2, q⟩ := got
  refine wpAny_newObj_type (newEnv_comp ?_) (Nat.zero_le _)
  generalize eD : z2.heap.objs.size = D
  have freeD : H2 D = none := I2.hok.fresh (Nat.le_of_eq eD)
  obtain ⟨W, ⟨m0, w0⟩, turn⟩ := q D freeD
  generalize e3 : ({ z2 with heap := z2.heap.push { cls := .type "list", data := .seq ([] : List Value).toArray } } : Shared) = z3
  have I3 : Inv X pins σ (upd H2 D (.lst [])) z3 := by
    rw [← e3]
    refine I2.laid (t' := z2.toks) (fun b o e => Heap.get?_push_of_some _ e) (Nat.le_of_eq eD) ⟨Nat.zero_le _, [], 0, .nil, ?_⟩
    rw [← eD]
    exact Heap.get?_push_size _ rfl
  have h3 : z3.heap = z2.heap.push { cls := .type "list", data := .seq ([] : List Value).toArray } := by rw [← e3]
  have below : ∀ c ∈ fp, c < z2.heap.objs.size := fun c hc => by
    obtain ⟨ob, e, _⟩ := T.obj _ _ t2 c hc
    exact Heap.lt_size e
  have f3 : ∀ c ∈ fp, FpOk X pins (upd H2 D (.lst [])) c ∧ c < z3.heap.objs.size := fun c hc => by
    have lt := below c hc
    refine ⟨⟨?_, (f2 c hc).2⟩, by rw [h3, Heap.size_push]; exact Nat.lt_succ_of_lt lt⟩
    rw [upd_ne (by rw [← eD]; exact Nat.ne_of_lt lt)]
    exact (f2 c hc).1
  have t3 : tn 0 z3.heap := T.keep _ _ _ t2 fun c _ o e => by rw [h3]; exact Heap.get?_push_of_some _ e
  have I4 := block_start I3 ok nd f3
  have pg := hg z3 (upd H2 D (.lst [])) z3.heap.objs.size (cellsFrom (z3.heap.objs.size + 1) sc.names (cloFrom X.env.cells sc.names [])) fp
  have pt := ht z3 (upd H2 D (.lst [])) z3.heap.objs.size (cellsFrom (z3.heap.objs.size + 1) sc.names (cloFrom X.env.cells sc.names [])) fp
  have pe := he z3 (upd H2 D (.lst [])) z3.heap.objs.size (cellsFrom (z3.heap.objs.size + 1) sc.names (cloFrom X.env.cells sc.names [])) fp
  have key : ∀ ce : Env, ce = compEnvC sc (cellsFrom (z3.heap.objs.size + 1) sc.names (cloFrom X.env.cells sc.names [])) z3.heap.objs.size X.env →
      codeAny (model X.prog X.w) X.A (.compStart (.ListComp elt [⟨tg, iter, ifs, 0⟩] sc pos) 0 (.ref it) (.ref D) ce)
        (fun r s' => ∃ m, s'.heap.Ns ce.locals m ∧ ∀ h', Heap.SameBut ce.locals s'.heap h' → match r with
          | .ok _ => EP X pins σ Q (.ref D) { s' with heap := h' }
          | .error x => wpAny (model X.prog X.w) X.A (PySem.passOn "comprehension.variables-let-go" x ce) (EP X pins σ Q) X.xe { s' with heap := h' })
        { z3 with heap := pushCells (z3.heap.push { cls := .type "dict", data := .dict #[] }) sc.names } := by
    intro ce ece
    rw [← ece] at I4 pg pt pe
    have cL : ce.locals = z3.heap.objs.size := by rw [ece]; rfl
    have cF : ce.frame = X.env.frame := by rw [ece]; rfl
    have none3 : ∀ c ∈ fp, (upd H2 D (.lst [])) c = none := fun c hc => (f3 c hc).1.1
    generalize eH : upd H2 D (.lst []) = H3 at I3 I4 pg pt pe w0 none3 f3
    generalize e4 : ({ z3 with heap := pushCells (z3.heap.push { cls := .type "dict", data := .dict #[] }) sc.names } : Shared) = z4 at I4 ⊢
    have t4 : tn 0 z4.heap := T.keep _ _ _ t3 fun c _ o e => by rw [← e4]; exact pushCells_keeps _ _ _ _ (Heap.get?_push_of_some _ e)
    have f3' : ∀ b ∈ fp, (b ∈ X.ex ∨ X.s_0.heap.objs.size ≤ b) ∧ b ≠ X.env.locals ∧ (∀ (x : Str) (c : Addr), List.lookup x X.env.cells = some c → c ≠ b) ∧ ∀ (p : Addr × Obj), p ∈ X.pn ++ pins → p.fst ≠ b := fun c hc => ⟨(f3 c hc).1.2.2.2.1, (f3 c hc).1.2.1, (f3 c hc).1.2.2.2.2.1, (f3 c hc).1.2.2.2.2.2⟩
    have stay : ∀ {σ' : L2.St} {H' : Hp} {z : Shared}, Inv (blkX X E z3 H3 sc ce fp) [] σ' H' z → (∀ c ∈ fp, H' c = none) → ∀ c ∈ fp, FpOk (blkX X E z3 H3 sc ce fp) [] H' c := fun {σ' H' z} I' hn c hc =>
      ⟨hn c hc, (I'.ok.exf c hc).1, I'.ok.exfs c hc, .inl hc, fun y a e => (I'.ok.exf c hc).2 y a e, fun r hr => nomatch (show r ∈ ([] : List (Addr × Obj)) from hr)⟩
    have out : ∀ (e : Value) (s' : Shared), XB X E z3 H3 sc ce fp e s' → notedBy (model X.prog X.w) X.A ce (fun e s' => ∃ m, s'.heap.Ns ce.locals m ∧ ∀ h', Heap.SameBut ce.locals s'.heap h' → wpAny (model X.prog X.w) X.A (PySem.passOn "comprehension.variables-let-go" e ce) (EP X pins σ Q) X.xe { s' with heap := h' }) e s' := fun e s' h =>
      leave_lc tk hst hfr I3 rfl cL cF f3' h
    refine codeAny_compStart_list ?_ (T.self X.A 0 _ _ _ t4 ?_)
    all_goals
      refine compLoop_any (fun k z => ∃ n H', Inv (blkX X E z3 H3 sc ce fp) [] (wipe σ (own.map (·.2))) H' z ∧ tn n z.heap ∧ (∀ c ∈ fp, H' c = none) ∧ W n k H') ?_ m0 ⟨0, H3, inv_blk I4, t4, none3, w0⟩
      rintro k z5 ⟨n, H5, I5, t5, none5, w5⟩
      rcases turn n k H5 w5 with ⟨stop, qq⟩ | ⟨go, Nx, dec, step⟩
      · refine thnF (T.done (blkX X E z3 H3 sc ce fp) rfl rfl rfl hc n [] z5 _ H5 (fun _ _ => False) I5 (stay I5 none5) t5 stop) fun r z6 got => ?_
        obtain ⟨rfl, I6⟩ := got
        have I7 : Inv X pins σ H5 z6 := I3.call' (ch := fp) I6.os I6.base I6.hok I6.bare f3'
        have nC : H5 z3.heap.objs.size = none := by
          have y : H5 ce.locals = none := I6.free
          rw [cL] at y
          exact y
        obtain ⟨m, hn, _⟩ := I6.loc
        have hn : z6.heap.Ns ce.locals m := hn
        obtain ⟨a0, a1, a2, a3, a4, a5⟩ := I3.fpOk (Nat.le_refl _) nC
        exact ⟨m, hn, fun h'' sb => ⟨.ref D, H5, I7.turned (t' := z6.toks) (fun b o nb e => (sb.2 b (by rw [cL]; exact nb)).trans e) a0 a1 a3 a4 a5, rfl, qq⟩⟩
      · refine thnF (T.item (blkX X E z3 H3 sc ce fp) rfl rfl rfl hc n [] z5 _ H5 (fun _ _ => False) I5 (stay I5 none5) t5 go) fun r z6 got => ?_
        obtain ⟨u, rfl, h6⟩ := got
        refine thnF h6 fun _ z7 got => ?_
        obtain ⟨x, H7, I7, r7, y7, t7, none7⟩ := got
        refine wpAny_mono (pg.run _ z7 _ H7 x u _ (I7.pinned (stay I7 none7) (T.obj _ _ t7)) r7 (step x H7 y7)) (fun _ z8 got => ?_) out
        obtain ⟨σ8, H8, I8, wiped, q8⟩ := got
        refine wpAny_mono (pt.run _ z8 σ8 H8 _ I8 q8) (fun b z9 got => ?_) out
        obtain ⟨H9, I9, q9⟩ := got
        have again : ∀ {z : Shared} {H' : Hp}, Inv (blkX X E z3 H3 sc ce fp) ([] ++ pinsAt fp z7.heap) σ8 H' z → Nx H' → ∃ m, m < k ∧ ∃ n H', Inv (blkX X E z3 H3 sc ce fp) [] (wipe σ (own.map (·.2))) H' z ∧ tn n z.heap ∧ (∀ c ∈ fp, H' c = none) ∧ W n m H' := fun {z H'} I' nx => by
          obtain ⟨m', lt, w'⟩ := dec H' nx
          have same : ∀ c ∈ fp, ∀ o, z7.heap.get? c = some o → z.heap.get? c = some o ∧ H' c = none := fun c hc o e =>
            let y := I'.pin (c, o) (List.mem_append_right _ (List.mem_append_right _ (mem_pinsAt hc e)))
            ⟨y.1, y.2.1⟩
          refine ⟨m', lt, n + 1, H', (I'.unpinned (pins := [])).weak (by rw [← wiped, wipe_length]) (fun j v e => ?_), T.keep _ _ _ t7 fun c hc o e => (same c hc o e).1, fun c hc => ?_, w'⟩
          · rw [← wiped] at e
            exact (wipe_some e).1
          · obtain ⟨o, e, _⟩ := T.obj _ _ t7 c hc
            exact (same c hc o e).2
        cases b with
        | false =>
          rw [if_neg Bool.false_ne_true] at q9 ⊢
          exact again I9 q9
        | true =>
          rw [if_pos rfl] at q9 ⊢
          refine wpAny_mono (pe.run _ z9 σ8 H9 _ I9 q9) (fun y z10 got => ?_) out
          obtain ⟨yv, H10, I10, r10, acc, hD, room, nx⟩ := got
          exact app_ok (X := blkX X E z3 H3 sc ce fp) I10 hD room r10 fun z11 I11 => again I11 nx
  have fin := key _ rfl
  rw [hclo] at fin
  unfold compEnvC at fin
  rw [hrel] at fin
  exact fin
/-- .. that is stored -/
theorem ps_setLcX {i : Nat} {y : Str} {py spos : Pos} {elt tg iter : Expr} {ifs : List Expr} {sc : Scope} {own : List (Str × Nat)} {pos : Pos} {wi : TI} {g : TG} {tt : TT} {te : TE} {E : XK} (tk : L2N.Takes X (fun c d _ H => E c d H)) (hst : X.stack = X.env :: X.outer) (hfr : X.env.frame = some X.env.locals) (hc : X.calm = true) (nd : X.N.Nodup) (hN : X.N[i]? = some y) (hloc : List.lookup y X.env.scope.names = some .local) (sw : swapsWith (.ListComp elt [⟨tg, iter, ifs, 0⟩] sc pos) (some (.Name y py)) spos.line X.env = pure true) (pgy : PG X (.Name y py) (gName i)) (hi : PI X tg iter wi) (ok : BlkOk X.N X.env.scope sc own)
    (nfree : ∀ y ∈ sc.names, y.2 ≠ .free) (hrel : relabel sc X.env = sc) (hclo : cloFrom X.env.cells sc.names [] = [])
    (hg : ∀ (z : Shared) (H : Hp) (C : Addr) (cl : List (Str × Addr)) (fp : List Addr), PG (blkX X E z H sc (compEnvC sc cl C X.env) fp) tg g)
    (ht : ∀ (z : Shared) (H : Hp) (C : Addr) (cl : List (Str × Addr)) (fp : List Addr), PTs (blkX X E z H sc (compEnvC sc cl C X.env) fp) ifs tt)
    (he : ∀ (z : Shared) (H : Hp) (C : Addr) (cl : List (Str × Addr)) (fp : List Addr), PE (blkX X E z H sc (compEnvC sc cl C X.env) fp) elt te)
    (hs : ∀ x, foldedSetIterable iter X.env x = pure x := by intro _; rfl) : PS X (.Assign [.Name y py] (.ListComp elt [⟨tg, iter, ifs, 0⟩] sc pos) spos) (tAsg (tLc wi g tt te (own.map (·.2))) (gName i)) := by
  refine ⟨fun pins z0 σ H D0 I wish => ?_⟩
  rw [exec_Assign_Name_used _ _ _ _ sw]
  refine wpAny_bind (wpAny_standAt (wpAny_bind ?_))
  show wpAny _ _ (do let _ ← comprehension (.ListComp elt [⟨tg, iter, ifs, 0⟩] sc pos) sc X.env (firstIterPos [⟨tg, iter, ifs, 0⟩] pos) (newList []) false (eval iter X.env) (some (assign (.Name y py) X.env)); pure ()) _ _ _
  refine wpAny_bind ?_
  refine wpAny_comprehension_use rfl hs nfree ok.kind (fun y hy e => by rw [ok.uniq y hy, e]) (thn (hi.run pins z0 σ H _ I wish) fun xv z1 hx => thn hx fun itv z2 got => ?_)
  obtain ⟨it, fp, tn, J, H2, rfl, I2, T, t2, f2, q⟩ := got
  refine wpAny_newObj_type (newEnv_comp ?_) (Nat.zero_le _)
  generalize eD : z2.heap.objs.size = D
  have freeD : H2 D = none := I2.hok.fresh (Nat.le_of_eq eD)
  obtain ⟨W, ⟨m0, w0⟩, turn⟩ := q D freeD
  generalize e3 : ({ z2 with heap := z2.heap.push { cls := .type "list", data := .seq ([] : List Value).toArray } } : Shared) = z3
  have I3 : Inv X pins σ (upd H2 D (.lst [])) z3 := by
    rw [← e3]
    refine I2.laid (t' := z2.toks) (fun b o e => Heap.get?_push_of_some _ e) (Nat.le_of_eq eD) ⟨Nat.zero_le _, [], 0, .nil, ?_⟩
    rw [← eD]
    exact Heap.get?_push_size _ rfl
  have h3 : z3.heap = z2.heap.push { cls := .type "list", data := .seq ([] : List Value).toArray } := by rw [← e3]
  have below : ∀ c ∈ fp, c < z2.heap.objs.size := fun c hc => by
    obtain ⟨ob, e, _⟩ := T.obj _ _ t2 c hc
    exact Heap.lt_size e
  have f3 : ∀ c ∈ fp, FpOk X pins (upd H2 D (.lst [])) c ∧ c < z3.heap.objs.size := fun c hc => by
    have lt := below c hc
    refine ⟨⟨?_, (f2 c hc).2⟩, by rw [h3, Heap.size_push]; exact Nat.lt_succ_of_lt lt⟩
    rw [upd_ne (by rw [← eD]; exact Nat.ne_of_lt lt)]
    exact (f2 c hc).1
  have t3 : tn 0 z3.heap := T.keep _ _ _ t2 fun c _ o e => by rw [h3]; exact Heap.get?_push_of_some _ e
  have I4 := block_start I3 ok nd f3
  have pg := hg z3 (upd H2 D (.lst [])) z3.heap.objs.size (cellsFrom (z3.heap.objs.size + 1) sc.names (cloFrom X.env.cells sc.names [])) fp
  have pt := ht z3 (upd H2 D (.lst [])) z3.heap.objs.size (cellsFrom (z3.heap.objs.size + 1) sc.names (cloFrom X.env.cells sc.names [])) fp
  have pe := he z3 (upd H2 D (.lst [])) z3.heap.objs.size (cellsFrom (z3.heap.objs.size + 1) sc.names (cloFrom X.env.cells sc.names [])) fp
  let QQ : Shared → Prop := fun s => wpAny (model X.prog X.w) X.A (pure () : Sem Unit) (fun _ s' => wpAny (model X.prog X.w) X.A (pure Flow.next) (SP X pins D0) X.xe s') X.xe s
  have key : ∀ ce : Env, ce = compEnvC sc (cellsFrom (z3.heap.objs.size + 1) sc.names (cloFrom X.env.cells sc.names [])) z3.heap.objs.size X.env →
      codeAny (model X.prog X.w) X.A (.compStart (.ListComp elt [⟨tg, iter, ifs, 0⟩] sc pos) 0 (.ref it) (.ref D) ce)
        (fun r s' => match r with
          | .ok _ => wpAny (model X.prog X.w) X.A (assign (.Name y py) X.env (.ref D)) (fun _ s'' => ∃ m, s''.heap.Ns ce.locals m ∧ ∀ h', Heap.SameBut ce.locals s''.heap h' → QQ { s'' with heap := h' }) X.xe s'
          | .error x => ∃ m, s'.heap.Ns ce.locals m ∧ ∀ h', Heap.SameBut ce.locals s'.heap h' → wpAny (model X.prog X.w) X.A (PySem.passOn "comprehension.variables-let-go" x ce) (fun (_ : Value) s => QQ s) X.xe { s' with heap := h' })
        { z3 with heap := pushCells (z3.heap.push { cls := .type "dict", data := .dict #[] }) sc.names } := by
    intro ce ece
    rw [← ece] at I4 pg pt pe
    have cL : ce.locals = z3.heap.objs.size := by rw [ece]; rfl
    have cF : ce.frame = X.env.frame := by rw [ece]; rfl
    have none3 : ∀ c ∈ fp, (upd H2 D (.lst [])) c = none := fun c hc => (f3 c hc).1.1
    generalize eH : upd H2 D (.lst []) = H3 at I3 I4 pg pt pe w0 none3 f3
    generalize e4 : ({ z3 with heap := pushCells (z3.heap.push { cls := .type "dict", data := .dict #[] }) sc.names } : Shared) = z4 at I4 ⊢
    have t4 : tn 0 z4.heap := T.keep _ _ _ t3 fun c _ o e => by rw [← e4]; exact pushCells_keeps _ _ _ _ (Heap.get?_push_of_some _ e)
    have f3' : ∀ b ∈ fp, (b ∈ X.ex ∨ X.s_0.heap.objs.size ≤ b) ∧ b ≠ X.env.locals ∧ (∀ (x : Str) (c : Addr), List.lookup x X.env.cells = some c → c ≠ b) ∧ ∀ (p : Addr × Obj), p ∈ X.pn ++ pins → p.fst ≠ b := fun c hc => ⟨(f3 c hc).1.2.2.2.1, (f3 c hc).1.2.1, (f3 c hc).1.2.2.2.2.1, (f3 c hc).1.2.2.2.2.2⟩
    have stay : ∀ {σ' : L2.St} {H' : Hp} {z : Shared}, Inv (blkX X E z3 H3 sc ce fp) [] σ' H' z → (∀ c ∈ fp, H' c = none) → ∀ c ∈ fp, FpOk (blkX X E z3 H3 sc ce fp) [] H' c := fun {σ' H' z} I' hn c hc =>
      ⟨hn c hc, (I'.ok.exf c hc).1, I'.ok.exfs c hc, .inl hc, fun y a e => (I'.ok.exf c hc).2 y a e, fun r hr => nomatch (show r ∈ ([] : List (Addr × Obj)) from hr)⟩
    have out : ∀ (e : Value) (s' : Shared), XB X E z3 H3 sc ce fp e s' → notedBy (model X.prog X.w) X.A ce (fun e s' => ∃ m, s'.heap.Ns ce.locals m ∧ ∀ h', Heap.SameBut ce.locals s'.heap h' → wpAny (model X.prog X.w) X.A (PySem.passOn "comprehension.variables-let-go" e ce) (fun (_ : Value) s => QQ s) X.xe { s' with heap := h' }) e s' := fun e s' h =>
      leave_lc tk hst hfr I3 rfl cL cF f3' h
    refine codeAny_compStart_list ?_ (T.self X.A 0 _ _ _ t4 ?_)
    all_goals
      refine compLoop_any (fun k z => ∃ n H', Inv (blkX X E z3 H3 sc ce fp) [] (wipe σ (own.map (·.2))) H' z ∧ tn n z.heap ∧ (∀ c ∈ fp, H' c = none) ∧ W n k H') ?_ m0 ⟨0, H3, inv_blk I4, t4, none3, w0⟩
      rintro k z5 ⟨n, H5, I5, t5, none5, w5⟩
      rcases turn n k H5 w5 with ⟨stop, qq⟩ | ⟨go, Nx, dec, step⟩
      · refine thnF (T.done (blkX X E z3 H3 sc ce fp) rfl rfl rfl hc n [] z5 _ H5 (fun _ _ => False) I5 (stay I5 none5) t5 stop) fun r z6 got => ?_
        obtain ⟨rfl, I6⟩ := got
        have I7 : Inv X pins σ H5 z6 := I3.call' (ch := fp) I6.os I6.base I6.hok I6.bare f3'
        have nC : H5 z3.heap.objs.size = none := by
          have y : H5 ce.locals = none := I6.free
          rw [cL] at y
          exact y
        obtain ⟨m, hn, _⟩ := I6.loc
        have hn : z6.heap.Ns ce.locals m := hn
        obtain ⟨a0, a1, a2, a3, a4, a5⟩ := I3.fpOk (Nat.le_refl _) nC
        obtain ⟨oC, es, ep, gC, dC, k1, k2⟩ := hn
        have FC : ∀ c ∈ [z3.heap.objs.size], FpOk X pins H5 c := fun c hc => by rw [List.mem_singleton.mp hc]; exact ⟨a0, a1, a2, a3, a4, a5⟩
        have gC' : z6.heap.get? z3.heap.objs.size = some oC := by rw [← cL]; exact gC
        have I8 := I7.pinned FC fun c hc => by rw [List.mem_singleton.mp hc]; exact ⟨oC, gC', fun v z => by rw [dC] at z; cases z⟩
        refine thn (pgy.run _ z6 σ H5 (.ref D) (.ref D) _ I8 rfl qq) fun _ z9 got => ?_
        obtain ⟨σ9, H9, I9, q9⟩ := got
        have pC := I9.pin (z3.heap.objs.size, oC) (List.mem_append_right _ (List.mem_append_right _ (mem_pinsAt (List.mem_singleton.mpr rfl) gC')))
        have I9' : Inv X pins σ9 H9 z9 := I9.unpinned
        refine ⟨m, ⟨oC, es, ep, by rw [cL]; exact pC.1, dC, k1, k2⟩, fun h'' sb => ?_⟩
        exact wpAny_pure (wpAny_pure ⟨σ9, H9, I9'.turned (t' := z9.toks) (fun b o nb e => (sb.2 b (by rw [cL]; exact nb)).trans e) pC.2.1 a1 a3 a4 a5, q9⟩)
      · refine thnF (T.item (blkX X E z3 H3 sc ce fp) rfl rfl rfl hc n [] z5 _ H5 (fun _ _ => False) I5 (stay I5 none5) t5 go) fun r z6 got => ?_
        obtain ⟨u, rfl, h6⟩ := got
        refine thnF h6 fun _ z7 got => ?_
        obtain ⟨x, H7, I7, r7, y7, t7, none7⟩ := got
        refine wpAny_mono (pg.run _ z7 _ H7 x u _ (I7.pinned (stay I7 none7) (T.obj _ _ t7)) r7 (step x H7 y7)) (fun _ z8 got => ?_) out
        obtain ⟨σ8, H8, I8, wiped, q8⟩ := got
        refine wpAny_mono (pt.run _ z8 σ8 H8 _ I8 q8) (fun b z9 got => ?_) out
        obtain ⟨H9, I9, q9⟩ := got
        have again : ∀ {z : Shared} {H' : Hp}, Inv (blkX X E z3 H3 sc ce fp) ([] ++ pinsAt fp z7.heap) σ8 H' z → Nx H' → ∃ m, m < k ∧ ∃ n H', Inv (blkX X E z3 H3 sc ce fp) [] (wipe σ (own.map (·.2))) H' z ∧ tn n z.heap ∧ (∀ c ∈ fp, H' c = none) ∧ W n m H' := fun {z H'} I' nx => by
          obtain ⟨m', lt, w'⟩ := dec H' nx
          have same : ∀ c ∈ fp, ∀ o, z7.heap.get? c = some o → z.heap.get? c = some o ∧ H' c = none := fun c hc o e =>
            let y := I'.pin (c, o) (List.mem_append_right _ (List.mem_append_right _ (mem_pinsAt hc e)))
            ⟨y.1, y.2.1⟩
          refine ⟨m', lt, n + 1, H', (I'.unpinned (pins := [])).weak (by rw [← wiped, wipe_length]) (fun j v e => ?_), T.keep _ _ _ t7 fun c hc o e => (same c hc o e).1, fun c hc => ?_, w'⟩
          · rw [← wiped] at e
            exact (wipe_some e).1
          · obtain ⟨o, e, _⟩ := T.obj _ _ t7 c hc
            exact (same c hc o e).2
        cases b with
        | false =>
          rw [if_neg Bool.false_ne_true] at q9 ⊢
          exact again I9 q9
        | true =>
          rw [if_pos rfl] at q9 ⊢
          refine wpAny_mono (pe.run _ z9 σ8 H9 _ I9 q9) (fun y z10 got => ?_) out
          obtain ⟨yv, H10, I10, r10, acc, hD, room, nx⟩ := got
          exact app_ok (X := blkX X E z3 H3 sc ce fp) I10 hD room r10 fun z11 I11 => again I11 nx
  have fin := key _ rfl
  rw [hclo] at fin
  unfold compEnvC at fin
  rw [hrel] at fin
  exact fin
end
end Fb

namespace Fb
open PySem PySem.Spec PyProof.Rows L2 HotX
/-! ### a walk over a tuple while an error is handled -/
theorem turn_tupH {Pg : Program} {w : World} {K : PySem.W.Frag} {tg : Expr} (l it : Addr) : L2H.TurnH Pg w K tg (Itt K l) [it] it (fun n h => h.IsTupleIter it l n) where
  mem := List.mem_singleton.mpr rfl
  obj := fun n h t c hc => by
    rw [List.mem_singleton.mp hc]
    obtain ⟨ob, g, _, d⟩ := t
    exact ⟨ob, g, fun v z => by rw [d] at z; cases z⟩
  keep := fun n h h' t k => by
    obtain ⟨ob, g, c, d⟩ := t
    exact ⟨ob, k it (List.mem_singleton.mpr rfl) ob g, c, d⟩
  item := fun X e1 e2 e3 hc n pins z σ H E I free t go => by
    subst e1 e2 e3
    obtain ⟨xs, x, sq, at_⟩ := go
    obtain ⟨us, rel, pl, _⟩ := I.tuple sq
    obtain ⟨u, hu, ru⟩ := rel.get at_
    have F := free it (List.mem_singleton.mpr rfl)
    refine wpAny_pyNext_tuple_item t pl (x := u) (by simpa using hu) fun h' t' but => ?_
    have I' : Inv X pins σ H { z with heap := h' } := I.turned (t' := z.toks) (fun c ob nc g => (but.2 c nc).trans g) F.1 F.2.1 F.2.2.2.1 F.2.2.2.2.1 F.2.2.2.2.2
    obtain ⟨ob, g, c, d⟩ := id t'
    exact ⟨u, rfl, go_of (s := { z with heap := h' }) g c d (by decide) ⟨x, H, I', ru, ⟨rfl, fun ys hy => by rw [I.tuple_inj hy sq]; exact at_⟩, t', fun c hc => (free c hc).1⟩⟩
  done := fun X e1 e2 e3 hc n pins z σ H E I free t stop => by
    subst e1 e2 e3
    obtain ⟨xs, sq, le⟩ := stop
    obtain ⟨us, rel, pl, _⟩ := I.tuple sq
    have F := free it (List.mem_singleton.mpr rfl)
    have len := rel.length
    obtain ⟨x1, hot⟩ := hc.at I
    exact hot_tuple_end hot t pl (by simp; omega) fun h' but => ⟨rfl, I.turned (t' := z.toks) (fun c ob nc g => but c ob nc g) F.1 F.2.1 F.2.2.2.1 F.2.2.2.2.1 F.2.2.2.2.2⟩
  self := fun _ _ _ _ _ t q => wpAny_pyIter_tupleiter t q
section
variable {X : Cx} {tg : Expr}
theorem pi_tupH {l : Expr} {tl : TE} (hl : PE X l tl) : L2H.PIH X tg l (iTup X.K tl) := ⟨fun pins z σ H R I wish => by
  refine thn (hl.run pins z σ H _ I wish) fun v z1 got => ?_
  obtain ⟨x, H1, I1, r1, a, rfl, ⟨xs, sq⟩, q⟩ := got
  cases r1
  obtain ⟨us, rel, pl, _⟩ := I1.tuple sq
  refine wpAny_pyIter_tuple pl ⟨z1.heap.objs.size, [z1.heap.objs.size], _, _, H1, rfl, I1.kept (t' := z1.toks) fun b o e => Heap.get?_push_of_some _ e, turn_tupH a _, ⟨_, Heap.get?_push_size _ rfl, rfl, rfl⟩, fun c hc => ?_, q⟩
  rw [List.mem_singleton.mp hc]
  exact I1.fpOk (Nat.le_refl _) (I1.hok.fresh (Nat.le_refl _))⟩
end
end Fb

namespace Fb
open PySem PySem.Spec PyProof.Rows L2
/-! ### x not in a list of data -/
def rNotInD (K : PySem.W.Frag) : R2 := fun x y H Q => ∃ (dx : PyData) (ds : List PyData), Dp K H x dx ∧ Dp K H y (.list ds) ∧ dx.canLay0 = true ∧ PyData.canLayAll0 ds = true ∧ dx.depth ≤ 10 ∧ Q (.bl (!ds.any fun d => d.eqv dx)) H
theorem op_notInD {X : Cx} (hu : X.A.units + 64 < cLine) : OpR X (compareOp .NotIn) (rNotInD X.K) := fun pins s σ H x y v u Q I rx ry ⟨dx, ds, hx, hy, l1, l2, dd, q⟩ => by
  obtain ⟨bs, r1⟩ := Dp.reads I dx x v hx rx
  obtain ⟨as, r2⟩ := Dp.reads I _ y u hy ry
  refine SeqAt.notIn_list_reads r2 r1 l2 l1 ?_ ⟨.bl _, H, I, rfl, q⟩
  have := Nat.min_le_right (PyData.depthAll ds) dx.depth
  omega
/-! ### a line that is read is the line that is written -/
def jn : List (List Nat) → List Nat
  | [] => []
  | [p] => p
  | p :: q :: r => p ++ [32] ++ jn (q :: r)
theorem jn_cons {p : List Nat} : ∀ {X : List (List Nat)}, X ≠ [] → jn (p :: X) = p ++ [32] ++ jn X
  | [], h => absurd rfl h
  | _ :: _, _ => rfl
theorem spl_ne : ∀ (l acc : List Nat), TL.spl [32] 0 acc l ≠ []
  | [], acc => by rw [TL.spl_nil]; simp
  | c :: r, acc => by
    cases q : TL.pre [32] (c :: r) with
    | true => rw [TL.spl_hit q]; simp
    | false => rw [TL.spl_miss q]; exact spl_ne r _
theorem jn_spl : ∀ (l acc : List Nat), jn (TL.spl [32] 0 acc l) = acc ++ l
  | [], acc => by rw [TL.spl_nil]; simp [jn]
  | c :: r, acc => by
    cases q : TL.pre [32] (c :: r) with
    | true =>
      have hc : c = 32 := by
        unfold TL.pre at q
        have : List.take 1 (c :: r) = [32] := beq_iff_eq.mp q
        simpa using this
      rw [TL.spl_hit q]
      show jn (acc :: TL.spl [32] 0 [] r) = _
      rw [jn_cons (spl_ne r []), jn_spl r []]
      subst hc
      simp
    | false =>
      rw [TL.spl_miss q, jn_spl r (acc ++ [c])]
      simp
theorem wds_join {z a b c : Str} (h : wds z = [a, b, c]) : z = a ++ blankS ++ b ++ blankS ++ c := by
  have e := TL.split_spl z blankS (by rw [blank_tl]; simp) (TL.kind_ok (by decide +kernel))
  rw [blank_tl] at e
  have e2 : (wds z).map TL.tl = TL.spl [32] 0 [] (TL.tl z) := e
  rw [h] at e2
  have e3 := jn_spl (TL.tl z) []
  rw [← e2] at e3
  refine TL.ext_tl ?_
  rw [TL.tl_append, TL.tl_append, TL.tl_append, TL.tl_append, blank_tl]
  have e4 : TL.tl a ++ [32] ++ (TL.tl b ++ [32] ++ TL.tl c) = TL.tl z := by simpa [jn] using e3
  rw [← e4]
  simp only [List.append_assoc]
theorem ofNat_back {c : Nat} (h1 : 48 ≤ c) (h2 : c ≤ 57) : (Char.ofNat c).toNat = c := by
  have : ∀ c : Nat, c < 58 → (Char.ofNat c).toNat = c := by decide
  exact this c (by omega)
theorem map_back : ∀ (l : List Nat), (∀ c ∈ l, 48 ≤ c ∧ c ≤ 57) → (l.map Char.ofNat).map Char.toNat = l
  | [], _ => rfl
  | c :: l, h => by
    obtain ⟨h1, h2⟩ := h c List.mem_cons_self
    rw [List.map_cons, List.map_cons, ofNat_back h1 h2, map_back l fun d hd => h d (List.mem_cons_of_mem _ hd)]
theorem fig_back {z : Str} (h : isFig z = true) : numS ((NumText.digitsVal z.cps.toList : Nat) : Int) = z := by
  have hd : ∀ c ∈ z.cps.toList, 48 ≤ c ∧ c ≤ 57 := fun c hc => by
    unfold isFig at h
    simp only [Bool.and_eq_true] at h
    have h2 := h.2
    split at h2
    · rw [of_decide_eq_true h2] at hc
      rw [List.mem_singleton.mp hc]; decide
    · have := List.all_eq_true.mp h2 c hc
      unfold digit at this
      simp only [Bool.and_eq_true, decide_eq_true_eq] at this
      exact this
  have hl : 1 ≤ z.cps.toList.length := by
    unfold isFig at h
    simp only [Bool.and_eq_true, decide_eq_true_eq] at h
    rw [← len_tl]; exact h.1.1
  have hcan : z.cps.toList.length - 1 = 0 ∨ ∃ c r, z.cps.toList = c :: r ∧ 49 ≤ c := by
    unfold isFig at h
    simp only [Bool.and_eq_true] at h
    have h2 := h.2
    split at h2
    · rw [of_decide_eq_true h2]; exact .inl rfl
    · rename_i hne
      cases e : z.cps.toList with
      | nil => rw [e] at hl; simp at hl
      | cons c r =>
        refine .inr ⟨c, r, rfl, ?_⟩
        have h3 := hd c (by rw [e]; exact List.mem_cons_self)
        have : c ≠ 48 := fun z => hne (by rw [e, z]; rfl)
        omega
  have e := NumText.toDigits_digitsVal (z.cps.toList.length - 1) z.cps.toList (by omega) hd hcan
  refine str_ext ?_
  rw [numS_nat]
  unfold TL.numL
  rw [e]
  exact map_back _ hd
theorem parse_back {z : Str} {r : Row} (h : parseL z = some r) : lineOf r = z := by
  unfold parseL at h
  split at h
  · rename_i a b c e
    split at h
    · cases h
    · split at h
      · rename_i hf
        cases h
        unfold lineOf
        rw [fig_back hf, ← wds_join e]
      · cases h
  · cases h
/-! ### all rows taken -/
theorem due_zero_row {rs : List Row} {r : Row} (h : putDue rs (.str r.1) (.str r.2.1) (.int r.2.2) = 0) : GoodRow r ∧ (r.1, r.2.1) ∉ (rs.map fun r => (r.1, r.2.1)) ∧ rs.length < 160 := by
  unfold putDue at h
  split at h
  · rename_i p1
    split at h
    · rename_i p2
      split at h
      · cases h
      · rename_i ne
        split at h
        · rename_i pc
          split at h
          · cases h
          · rename_i nt
            split at h
            · cases h
            · rename_i nl
              exact ⟨⟨p1, p2, fun e => ne (congrArg V.str e), pc⟩, fun hm => nt (told_iff.mpr hm), by omega⟩
        · cases h
    · cases h
  · cases h
theorem take_all : ∀ {rs' rs : List Row}, GoodRows rs → (takeRows rs (rs'.map givenOf)).1 = 0 → (takeRows rs (rs'.map givenOf)).2 = rs ++ rs' ∧ GoodRows (rs ++ rs') ∧ (rs' ≠ [] → (rs ++ rs').length ≤ 160)
  | [], rs, g, _ => ⟨by rw [List.append_nil]; rfl, by rw [List.append_nil]; exact g, fun h => absurd rfl h⟩
  | r :: rs', rs, g, h => by
    have e1 : takeRows rs ((r :: rs').map givenOf) = if putDue rs (.str r.1) (.str r.2.1) (.int r.2.2) = 0 then takeRows (rs ++ [r]) (rs'.map givenOf) else (putDue rs (.str r.1) (.str r.2.1) (.int r.2.2), rs) := rfl
    by_cases c : putDue rs (.str r.1) (.str r.2.1) (.int r.2.2) = 0
    · rw [e1, if_pos c] at h ⊢
      obtain ⟨g1, g2, g3⟩ := due_zero_row c
      have g4 := good_snoc g g1 g2
      obtain ⟨h1, h2, h3⟩ := take_all g4 h
      rw [List.append_assoc] at h1 h2 h3
      refine ⟨h1, h2, fun _ => ?_⟩
      cases rs' with
      | nil => rw [List.length_append]; show _ + 1 ≤ _; omega
      | cons y ys => exact h3 (by simp)
    · rw [e1, if_neg c] at h
      exact absurd h c
theorem putDue_le4 (rs : List Row) (x y z : V) : putDue rs x y z ≤ 4 := by
  unfold putDue
  split
  · split
    · split
      · decide
      · split
        · split
          · decide
          · split <;> decide
        · decide
    · decide
  · decide
theorem takeRows_le4 : ∀ (gs : List (V × V × V)) (rs : List Row), (takeRows rs gs).1 ≤ 4
  | [], rs => Nat.zero_le _
  | (x, y, z) :: r, rs => by
    show (if putDue rs x y z = 0 then takeRows (rs ++ [mkRow x y z]) r else (putDue rs x y z, rs)).1 ≤ 4
    split
    · exact takeRows_le4 r _
    · exact putDue_le4 rs x y z
end Fb

namespace Fb
open PySem PySem.Spec PyProof.Rows L2
section
variable {X : Cx} {k1 k2 i : Nat} {x y n : Str} {ps1 ps2 : List Str} {sp1 sp2 : Sp} {p pos : Pos} {e : Expr} {es : List Expr} {t : TA} {E : L2.St → XK}
/-! ### a def of the program, as a value -/
def tDef (mg : Str → Option Value) (x : Str) : TE := fun _ H Q => ∀ f : Addr, mg x = some (.ref f) → Q (.ref f) H
theorem pe_def {mg : Str → Option Value} (D : Dn X.prog X.w X.K X.mg X.base k1 x ps1 sp1) (hg : Gl X x := by rfl) (hmg : X.mg = mg := by rfl) (hd : (x == ("__debug__" : Str)) = false := by decide) : PE X (.Name x pos) (tDef mg x) := by
  subst hmg
  obtain ⟨f, fd, _, hm, _, _⟩ := D.ex
  refine ⟨fun pins s σ H Q I h => ?_⟩
  exact (pe_glob (pos := pos) hg hm (v := .ref f) rfl hd).run pins s σ H Q I (h f hm)
/-! ### a name of one's own that holds one of two defs, called -/
def tDeed (mg : Str → Option Value) (i : Nat) (x y : Str) (sp1 sp2 : Sp) (E : L2.St → XK) (t : TA) : TE := fun σ H Q => ∃ f : Addr, σ[i]? = some (some (.ref f)) ∧
  ((mg x = some (.ref f) ∧ t σ H fun vs H1 => sp1 vs H1 Q (E σ)) ∨ (mg y = some (.ref f) ∧ t σ H fun vs H1 => sp2 vs H1 Q (E σ)))
theorem pe_deed1 {f : Addr} {fd : FuncData} {pins : List (Addr × Obj)} {s : Shared} {σ : L2.St} {H : Hp} {Q : VK} (F : FnOk X.prog X.w X.K X.mg X.base (L2N.CX X.prog X.w) k1 f fd ps1 sp1) (hk : PySem.W.keepIn X.K (.ref f) = true) (hb : Binds X.K fd ps1 []) (hr : Room k1 X.A) (hx : ∀ σ, PassesAt (L2N.CX X.prog X.w) X σ (E σ))
    (hn : X.N[i]? = some n) (hv : Vis X.env.scope n) (ha : PA X (e :: es) t) (hdb : (n == ("__debug__" : Str)) = false) (hcd : (n == ("__classdict__" : Str)) = false)
    (he : starEach (e :: es) X.env = (false, eval e X.env) :: starEach es X.env) (hpl : (backTo pos (starEach es X.env)).any (·.1) = false) (I : Inv X pins σ H s)
    (hs : σ[i]? = some (some (.ref f))) (h : t σ H fun vs H1 => sp1 vs H1 Q (E σ)) : wpAny (model X.prog X.w) X.A (eval (.Call (.Name n p) (e :: es) [] pos) X.env) (EP X pins σ Q) X.xe s := by
  refine wpAny_Call_Name_kw (thn ((pe_var (pos := p) hn hv hdb hcd).run pins s σ H (fun v H1 => v = .ref f ∧ H1 = H) I ⟨.ref f, hs, rfl, rfl⟩) fun u s1 got => ?_)
  obtain ⟨v, H1, I1, r1, e1, e2⟩ := got
  subst e1; subst e2
  have eu : u = Value.ref f := r1
  subst eu
  refine PySem.W.callWith_K (h₀ := X.base) I.ok.mod.kin hk (thn (ha.run pos pins s1 σ _ _ I1 h) fun us s2 got => ?_) he hpl
  obtain ⟨vs, H2, I2, r, q⟩ := got
  exact ⟨I2.kIn, app_nil_run F hr hb (hx σ) I2 r q⟩
theorem pe_deed {mg : Str → Option Value} (D1 : Dn X.prog X.w X.K X.mg X.base k1 x ps1 sp1) (D2 : Dn X.prog X.w X.K X.mg X.base k2 y ps2 sp2) (r1 : Room k1 X.A) (r2 : Room k2 X.A) (hx : ∀ σ, PassesAt (L2N.CX X.prog X.w) X σ (E σ)) (hn : X.N[i]? = some n) (hv : Vis X.env.scope n) (ha : PA X (e :: es) t) (hmg : X.mg = mg := by rfl)
    (hdb : (n == ("__debug__" : Str)) = false := by decide) (hcd : (n == ("__classdict__" : Str)) = false := by decide)
    (he : starEach (e :: es) X.env = (false, eval e X.env) :: starEach es X.env := by rfl) (hpl : (backTo pos (starEach es X.env)).any (·.1) = false := by rfl) : PE X (.Call (.Name n p) (e :: es) [] pos) (tDeed mg i x y sp1 sp2 E t) := by
  subst hmg
  refine ⟨fun pins s σ H Q I h => ?_⟩
  obtain ⟨f, hs, ⟨hm, h⟩ | ⟨hm, h⟩⟩ := h
  · obtain ⟨f', fd, F, hm', hk, hb⟩ := D1.ex
    have ef : f' = f := by rw [hm] at hm'; cases hm'; rfl
    subst ef
    exact pe_deed1 F hk hb r1 hx hn hv ha hdb hcd he hpl I hs h
  · obtain ⟨f', fd, F, hm', hk, hb⟩ := D2.ex
    have ef : f' = f := by rw [hm] at hm'; cases hm'; rfl
    subst ef
    exact pe_deed1 F hk hb r2 hx hn hv ha hdb hcd he hpl I hs h
/-! ### o.m(..) of a builtin's object in a try's body or a suite: the reading names no context -/
theorem pe_bmS {K : PySem.W.Frag} {T id : String} {name : Str} {r : V → List V → Hp → VK → Prop} {o : Expr} {to : TE} {apos cpos : Pos} (pa : PlainAttrs T) (slot : Slot T name id) (hty : typeOf (.builtin id) = pure (.type "method_descriptor")) (hm : MtR X id r) (ho : PE X o to) (ha : PA X (e :: es) t) (hK : X.K = K := by rfl)
    (h1 : attributeBase o name X.env (eval o X.env) = eval o X.env := by rfl) (h2 : ((backTo cpos (starEach (e :: es) X.env)).all (fun x => !x.1) && (backToKw cpos (keywordEach [] X.env)).all (fun x => x.1.isSome) && decide ((e :: es).length + ([] : List Keyword).length + (if ([] : List Keyword).isEmpty then 0 else 1) < 30)) = true := by rfl)
    (h3 : (apos.endLine == cpos.line) = true := by rfl) (h4 : starEach (e :: es) X.env = (false, eval e X.env) :: starEach es X.env := by rfl) (h5 : (backTo cpos (starEach es X.env)).any (·.1) = false := by rfl) : PE X (.Call (.Attribute o name apos) (e :: es) [] cpos) (tBM K T r to t) := by
  subst hK
  exact pe_bm pa slot hty hm ho ha h1 h2 h3 h4 h5
end
end Fb

namespace Fb
open PySem PySem.Spec PyProof.Rows L2
/-! ### the law's own call, by itself: nothing is shown on the stack -/
/-- what is tracked when the law begins: its tables, and the script where it is not known already -/
def begT (K : PySem.W.Frag) (S : List Addr) (a : Addr) (vs : List Value) (ns : List Int) : Hp := fun b => if b ∈ S then some (TabO b) else if b = a ∧ K.lookup a = none then some (.frz { cls := .type "list", data := .seq vs.toArray } (.lst (ns.map V.int))) else none
section
variable {P : Program} {w : World} {K : PySem.W.Frag} {S : List Addr} {a b : Addr} {vs : List Value} {ns : List Int} {h : Heap}
theorem begT_tab (hb : b ∈ S) : begT K S a vs ns b = some (TabO b) := if_pos hb
theorem begT_a (hb : a ∉ S) (hk : K.lookup a = none) : begT K S a vs ns a = some (.frz { cls := .type "list", data := .seq vs.toArray } (.lst (ns.map V.int))) := (if_neg hb).trans (if_pos ⟨rfl, hk⟩)
theorem begT_no (h1 : b ∉ S) (h2 : ¬ (b = a ∧ K.lookup a = none)) : begT K S a vs ns b = none := (if_neg h1).trans (if_neg h2)
theorem begT_ok (hT : ∀ p ∈ S, h.get? p = some { cls := .none, data := .fields #[] }) (ha : h.get? a = some { cls := .type "list", data := .seq vs.toArray }) (hi : IntsAre vs ns) (hl : ns.length ≤ sizeLine) : HOk (P := P) (w := w) (begT K S a vs ns) h := fun b o e => by
  by_cases h1 : b ∈ S
  · rw [begT_tab h1] at e
    cases e
    exact tabO_ok (hT b h1) trivial
  by_cases h2 : b = a ∧ K.lookup a = none
  · obtain ⟨rfl, hk⟩ := h2
    rw [begT_a h1 hk] at e
    cases e
    exact ⟨ha, by rw [List.length_map]; exact hl, vs, _, vals_ints hi, ha⟩
  · rw [begT_no h1 h2] at e
    cases e
theorem begT_seq (hS : a ∉ S) (KX : K.In h) (ha : h.get? a = some { cls := .type "list", data := .seq vs.toArray }) (hi : IntsAre vs ns) (hl : ns.length ≤ sizeLine) : SqL K (begT K S a vs ns) a (ns.map V.int) := by
  cases hk : K.lookup a with
  | none => exact .inl (.inr ⟨_, begT_a hS hk⟩)
  | some o =>
    have e := (KX a o hk).symm.trans ha
    cases e
    exact .inr ⟨_, vs.toArray, _, hk, rfl, rfl, rfl, by rw [List.size_toArray, hi.length]; exact hl, by simpa using vals_ints hi⟩
/-- an object that is neither a sequence nor an empty table is not tracked -/
theorem begT_gone {o : Obj} (hT : ∀ p ∈ S, h.get? p = some { cls := .none, data := .fields #[] }) (ha : h.get? a = some { cls := .type "list", data := .seq vs.toArray }) (e : h.get? b = some o) (n1 : ∀ v n, o.data ≠ .seq v n) (n2 : o.data ≠ .fields #[]) : begT K S a vs ns b = none := by
  refine begT_no (fun z => ?_) fun z => ?_
  · have := (hT b z).symm.trans e
    cases this
    exact n2 rfl
  · have q := z.1
    subst q
    have := ha.symm.trans e
    cases this
    exact n1 _ _ rfl
end
theorem law_atC {P : Program} {w : World} {K : PySem.W.Frag} {mg mb : Str → Option Value} {fa a : Addr} {cs : List (Addr × Addr)} {s : Shared} {vs : List Value} {ns : List Int} (KX : K.In s.heap) (g1 : s.heap.Ns mainGlobals mg) (g2 : s.heap.Ns builtinsNs mb)
    (g3 : ∀ x : Str, x ≠ "__name__" → mb x = bootBuiltins x) (g4 : s.heap.NoLimit) (g5 : s.gens = #[]) (tT : ∀ p ∈ cs, s.heap.get? p.2 = some { cls := .none, data := .fields #[] }) (tK : ∀ p ∈ cs, K.lookup p.2 = none) (tC : ∀ p ∈ cs, PySem.W.CodeHd s.heap p.1 p.2)
    (g6 : ∃ (m : Addr) (ob : Obj), mg "__builtins__" = some (.ref m) ∧ m ≠ builtinsNs ∧ s.heap.get? m = some ob ∧ ob.cls = .type "module" ∧ ob.dict = some builtinsNs ∧ ob.data = .plain)
    (ha : s.heap.get? a = some { cls := .type "list", data := .seq vs.toArray }) (hi : IntsAre vs ns) (hl : ns.length ≤ sizeLine)
    (R : ∀ (base : Heap) (H : Hp), K.In base → base.Ns mainGlobals mg → (∀ p ∈ cs, GxR.TabB base mg p.1 p.2) → Env0 P w K mg base callerA [] s H → (∀ p ∈ cs, H p.2 = some (TabO p.2)) → SqL K H a (ns.map V.int) →
      codeAny (model P w) callerA (.call (.ref fa) ⟨[.ref a], []⟩) (CR (L2N.CX P w) [] P w H s (fun v H' => (∀ p ∈ cs, H' p.2 = some (TabO p.2)) ∧ v = .bl true) E0) s) :
    codeAny (model P w) callerA (.call (.ref fa) ⟨[.ref a], []⟩) (fun r s' => r = .ok (.ret (.bool true)) ∧ OldK s.heap s'.heap ∧ s'.os = s.os ∧ AllBare s'.gens) s := by
  obtain ⟨S, eS⟩ : ∃ S, S = cs.map (·.2) := ⟨_, rfl⟩
  have memS : ∀ p ∈ cs, p.2 ∈ S := fun p hp => by rw [eS]; exact List.mem_map.mpr ⟨p, hp, rfl⟩
  have ofS : ∀ b ∈ S, ∃ p ∈ cs, p.2 = b := fun b hb => by rw [eS] at hb; exact List.mem_map.mp hb
  have hT : ∀ b ∈ S, s.heap.get? b = some { cls := .none, data := .fields #[] } := fun b hb => by
    obtain ⟨p, hp, rfl⟩ := ofS b hb
    exact tT p hp
  have aS : a ∉ S := fun z => by
    have := (hT a z).symm.trans ha
    cases this
  obtain ⟨H, eH⟩ : ∃ H, H = begT K S a vs ns := ⟨_, rfl⟩
  have gone : ∀ {b : Addr} {o : Obj}, s.heap.get? b = some o → (∀ v n, o.data ≠ .seq v n) → o.data ≠ .fields #[] → H b = none := fun {b o} e n1 n2 => by rw [eH]; exact begT_gone hT ha e n1 n2
  have stays : ∀ {b : Addr} {o : Obj}, s.heap.get? b = some o → H b = none → (hidT s.heap H).get? b = some o := fun {b o} e n => hidT_get e n
  have names : ∀ {b : Addr} {m : Str → Option Value}, s.heap.Ns b m → (hidT s.heap H).Ns b m := fun {b m} x => by
    obtain ⟨o, es, ep, e, hd, rest⟩ := x
    exact ⟨o, es, ep, stays e (gone e (fun v n z => by rw [hd] at z; cases z) fun z => by rw [hd] at z; cases z), hd, rest⟩
  have kin : K.In (hidT s.heap H) := fun b o e => stays (KX b o e) (by
    rw [eH]
    refine begT_no (fun z => ?_) fun z => ?_
    · obtain ⟨p, hp, rfl⟩ := ofS b z
      rw [tK p hp] at e; cases e
    · obtain ⟨rfl, hk⟩ := z
      rw [hk] at e; cases e)
  have tabs : ∀ p ∈ cs, GxR.TabB (hidT s.heap H) mg p.1 p.2 := fun p hp => by
    refine ⟨?_, ?_, fun z => ?_⟩
    · obtain ⟨o, us, f1, f2, f3, f4, f5, f6, f7, e, c1, c2, c3, c4⟩ := tC p hp
      refine ⟨o, us, f1, f2, f3, f4, f5, f6, f7, stays e (gone e (fun v n z => by rw [c2] at z; cases z) fun z => ?_), c1, c2, c3, c4⟩
      rw [c2] at z; cases z; simp at c3
    · obtain ⟨m, ob, b1, b2, b3, b4, b5, b6⟩ := g6
      refine ⟨m, ob, b1, b2, fun z => ?_, fun z => ?_, stays b3 (gone b3 (fun v n z => by rw [b6] at z; cases z) fun z => by rw [b6] at z; cases z), b4, b5, b6⟩
      · obtain ⟨o, es, ep, e, hd, _⟩ := g1
        rw [z, e] at b3; cases b3
        rw [hd] at b6; cases b6
      · rw [z, tT p hp] at b3; cases b3; cases b6
    · obtain ⟨o, es, ep, e, hd, _⟩ := g1
      rw [z, tT p hp] at e; cases e; cases hd
  have hok : HOk (P := P) (w := w) H s.heap := by rw [eH]; exact begT_ok hT ha hi hl
  have env : Env0 P w K mg (hidT s.heap H) callerA [] s H := by
    refine ⟨rfl, ⟨kin, names g1, ⟨mb, names g2, g3⟩, ?_⟩, fun b o e => of_hidT e, Nat.le_of_eq (hidT_size _ _), trivial, fun b hb => ?_, hok, .of_eq g5⟩
    · obtain ⟨mc, x1, x2⟩ := g4
      exact ⟨mc, names x1, x2⟩
    · exact absurd hb (by simp [frs])
  have hsq : SqL K H a (ns.map V.int) := by rw [eH]; exact begT_seq aS KX ha hi hl
  refine codeAny_mono (R _ H kin (names g1) tabs env (fun p hp => by rw [eH]; exact begT_tab (memS p hp)) hsq) fun r s' h => ?_
  match r, h with
  | .error e, h =>
    obtain ⟨_, _, _, _, _, _, _, _, _, _, _, _, z⟩ := h
    exact z.elim
  | .ok .next, h => exact False.elim h
  | .ok .brk, h => exact False.elim h
  | .ok .cont, h => exact False.elim h
  | .ok (.ret u), h =>
    obtain ⟨v, H', os, bare, un, hok', rv, hP, ev⟩ := h
    subst ev
    have eu : u = Value.bool true := rv
    subst eu
    have kept : ∀ b o, b ∉ S → s.heap.get? b = some o → s'.heap.get? b = some o := fun b o nb e => by
      by_cases h2 : b = a ∧ K.lookup a = none
      · obtain ⟨rfl, hk⟩ := h2
        have z := (hok' b _ (un.frzs b _ _ (by rw [eH]; exact begT_a nb hk))).1
        rw [ha] at e; cases e
        exact z
      · exact un.keep b o e (by rw [eH]; exact begT_no nb h2) (by simp [frs]) (by simp)
    have grown : ∀ p ∈ cs, ∃ qs : Array Value, s'.heap.get? p.2 = some { cls := .none, data := .fields qs } := fun p hp => by
      obtain ⟨⟨qs, e, _⟩, _, _⟩ := hok' p.2 _ (hP p hp)
      exact ⟨qs, e⟩
    refine ⟨rfl, ⟨fun b o e => ?_, fun b o e => ?_⟩, os, bare⟩
    · by_cases hb : b ∈ S
      · obtain ⟨p, hp, rfl⟩ := ofS b hb
        obtain ⟨qs, hq⟩ := grown p hp
        rw [tT p hp] at e; cases e
        exact .inr (.inl ⟨((tC p hp).tab (tT p hp)).isCodeTable, rfl, #[], qs, rfl, by rw [Array.empty_append]; exact hq⟩)
      · exact .inl (kept b o hb e)
    · by_cases hb : b ∈ S
      · obtain ⟨p, hp, rfl⟩ := ofS b hb
        obtain ⟨qs, hq⟩ := grown p hp
        exact ⟨_, hq⟩
      · exact ⟨o, kept b o hb e⟩
/-! ### a def that is read only where nothing is shown on the stack -/
structure FnG (Pg : Program) (w : World) (K : PySem.W.Frag) (mg : Str → Option Value) (base : Heap) (k : Nat) (f : Addr) (fd : FuncData) (ps : List Str) (sp : Sp) : Prop where
  run : ∀ (A : Around) (outer : List Env) (s : Shared) (H : Hp) (args : Args) (us : List Value) (vs : List V) (Q : VK) (E : XK), A.guards = some [] → Room k A → Env0 Pg w K mg base A outer s H → BindsTo s fd args (ps.zip us) → Vals vs us → sp vs H Q E →
    codeAny (model Pg w) A (.call (.ref f) args) (CR (L2N.CX Pg w) outer Pg w H s Q E) s
theorem _root_.L2.Fun.okG {Pg : Program} {w : World} {K : PySem.W.Frag} {mg : Str → Option Value} {base : Heap} {x qual : Str} {st : Stmt} {f : Addr} {fd : FuncData} {N ps : List Str} {k : Nat} {sp : Sp} (F : Fun K x qual st f fd) (S : FnScope N ps (defScope st)) (len : ∀ vs H Q E, sp vs H Q E → vs.length = ps.length)
    (hbody : ∀ (cdv : Value) (A : Around) (outer : List Env) (s : Shared) (H : Hp) (vs : List V) (Q : VK) (E : XK), (A.deeper (envOfC qual (defScope st) s.heap.objs.size f cdv)).guards = some [] → Room k (A.deeper (envOfC qual (defScope st) s.heap.objs.size f cdv)) → sp vs H Q E →
      ∃ t, PSs (cxOf (L2N.CX Pg w) Pg w K mg base N qual (defScope st) f cdv A outer s H E) (defBody st) t ∧ t { nx := fun _ H' => Q .non H', rt := Q } (L2.start N vs) H) : FnG Pg w K mg base (k + 1) f fd ps sp := by
  obtain ⟨oc, od, kV, doc, pm, an, cdv, ct, osl, rfl, lk, code⟩ := F.ex
  exact ⟨fun A outer s H args us vs Q E hg hr e0 hb r wish => LamX.run_ofS lk code S hr e0 hb r (len _ _ _ _ wish) fun room => hbody cdv A outer s H vs Q E hg room wish⟩
/-- what is to be shown of the law at the head's heap -/
def LawG (l : PySem.W.OpenLaw) (w : World) (K : PySem.W.Frag) (k n : Nat) (x : Str) (mg : Str → Option Value) (fa : Addr) (h : Heap) : Prop :=
  ∃ (fd : FuncData) (cs : List (Addr × Addr)) (sp : Sp), (∀ p ∈ cs, h.get? p.2 = some { cls := .none, data := .fields #[] }) ∧ (∀ p ∈ cs, K.lookup p.2 = none) ∧ (∀ p ∈ cs, PySem.W.CodeHd h p.1 p.2) ∧ (∀ (s : Shared) (u : Value), BindsTo s fd ⟨[u], []⟩ [(x, u)]) ∧
    (∀ (H : Hp) (a : Addr) (ns : List Int), ns.length ≤ n → (∀ z ∈ ns, Builtin.Int.intBits z ≤ 1048576) → (∀ p ∈ cs, H p.2 = some (TabO p.2)) → SqL K H a (ns.map V.int) → sp [.ref a] H (fun v H' => (∀ p ∈ cs, H' p.2 = some (TabO p.2)) ∧ v = .bl true) fun _ _ _ => False) ∧
    ∀ base : Heap, K.In base → base.Ns mainGlobals mg → (∀ p ∈ cs, GxR.TabB base mg p.1 p.2) → FnG l.prog w K mg base k fa fd [x] sp
theorem walk_tabG {l : PySem.W.OpenLaw} {n k : Nat} {q : Program} {loose : List Str} {XP : (Str → Option Value) → Heap → Prop} {YP : World → Heap → Prop} {d : DefRec} {K : Params → PySem.W.Frag} {x : Str} (gs : List Str)
    (hn : l.most = some n) (hn2 : n ≤ sizeLine) (hdf : d.params.defaults = []) (hr : Room k callerA) (hrec : ∀ g ∈ gs, ((recsOf q).any fun e => e.name == g) = true) (hY : ∀ (w : World) (h : Heap), YP w h → (K w.params).In h)
    (F : ∀ (w : World) (mg : Str → Option Value) (fa : Addr) (h : Heap), YP w h → (K w.params).In h → h.Ns mainGlobals mg → mg d.name = some (.ref fa) → (∀ g ∈ gs, TabN mg h g) → LawG l w (K w.params) k n x mg fa h) :
    PySem.W.WalkO q loose XP YP l.row.toRowW d [] (fun f vs => PySem.call f vs) := by
  refine Att.attach_callB hn hdf fun w s₀ s₁ mg mb fa o pm cd doc a vs ns G Y ho hd hcd hmg hobj hints hlen hbits hg => ?_
  have KX := hY w _ Y
  have tabs : ∀ g ∈ gs, TabN mg s₁.heap g := fun g hgm => by
    obtain ⟨dL, hm, hn1⟩ := List.any_eq_true.mp (hrec g hgm)
    have hn2 : dL.name = g := beq_iff_eq.mp hn1
    obtain ⟨a', o', fd', c', P', h1, h2, h3, h4, h5, h6⟩ := G.T.tab dL hm
    rw [hn2] at h1
    obtain ⟨⟨oc, vc, e1, e2, e3, e4⟩, hP⟩ := id h6
    exact ⟨a', c', P', o', fd', h1, h2, h3, h4, PySem.W.CodeHd.of h5 h6, hP, oc, vc, e1, e3, e4⟩
  obtain ⟨fd, cs, sp, hT, nT, C, hb, hsp, hF⟩ := F w mg fa _ Y KX G.T.g hmg tabs
  exact law_atC KX G.T.g G.T.b G.T.builtins G.T.nolimit hg hT nT C G.T.bmain hobj hints (Nat.le_trans hlen hn2) fun base H hK hN hB e0 hP hS =>
    (hF base hK hN hB).run callerA [] s₁ H ⟨[.ref a], []⟩ [.ref a] [.ref a] _ _ rfl hr e0 (hb s₁ (.ref a)) (.cons rfl .nil) (hsp H a ns hlen hbits hP hS)
/-! ### str of a list -/
def rStrD (K : PySem.W.Frag) : List V → Hp → VK → Prop := fun xs H Q => ∃ (p : Addr) (d : PyData), xs = [.ref p] ∧ Dp K H (.ref p) d ∧ d.showable = true ∧ d.hasDict = false ∧ d.depth ≤ 10 ∧ d.shown.length ≤ sizeLine ∧ Q (.str d.shown) H
theorem call_strD {X : Cx} (hg : X.A.guards = some []) (hu : X.A.units + 64 < cLine) : CallR X (.type "str") (rStrD X.K) := fun pins s σ H xs us Q I r ⟨p, d, e, hd, h1, h2, h3, h4, q⟩ => by
  subst e
  cases r with
  | cons r1 r2 =>
    cases r2
    obtain ⟨as, rd⟩ := Dp.reads I d _ _ hd r1
    have ev := r1
    cases ev
    refine PySem.str_of_reads rd h1 (PyData.noDict_hsm h2) hg (by omega) (fun _ _ e => e) (fun h' u tk kp => ?_) h4
    exact ⟨.str d.shown, H, I.kept (t' := tk) kp, ⟨u, rfl⟩, q⟩
end Fb

namespace Fb
open PySem PySem.Spec PyProof.Rows L2
local macro_rules | `(tactic| walk_at "s") => `(tactic| repeat (first | refine ⟨_, rfl, ?_⟩ | refine ⟨_, _, rfl, rfl, ?_⟩ | refine ⟨_, _, rfl, Or.inl (by assumption), ?_⟩ | refine ⟨rfl, ?_⟩ | refine ⟨(by decide : (0 : Int) < _), ?_⟩ | refine ⟨⟨by decide, by decide⟩, ?_⟩ | refine ⟨_, _, _, rfl, (by assumption), (by first | decide | omega), ?_⟩))
/-! ### the stretches of a parting, and its price -/
def StrAt (H : Hp) (Ts : List Addr) (ns : List Int) : Prop := ∀ (j : Nat) T, Ts[j]? = some T → H T = some (.tup [.int (cn ns j), .int (cn ns (j + 1))])
def spStretches (K : PySem.W.Frag) : Sp := fun vs H Q _ => ∃ (l : Addr) (ns : List Int), vs = [.ref l] ∧ SqL K H l (ns.map V.int) ∧ ns.length ≤ 900 ∧
  ∀ (D : Addr) (H' : Hp) (Ts : List Addr), H D = none → Same H H' → H' D = some (.lst (Ts.map V.ref)) → Ts.length = ns.length - 1 → StrAt H' Ts ns → Q (.ref D) H'
def spLineOf : Sp := fun vs H Q _ => ∃ (x y : Str) (n : Int), vs = [.str x, .str y, .int n] ∧ GoodRow (x, y, n) ∧ Q (.str (lineOf (x, y, n))) H
theorem psum_ok {rs : List Row} (g : GoodRows rs) {xs : List Str} {ns : List Int} : ∀ k, 0 ≤ psum (pri rs) xs ns k ∧ psum (pri rs) xs ns k ≤ (k : Int) * 1000000000000
  | 0 => ⟨Int.le_refl _, by show (0 : Int) ≤ _; omega⟩
  | k + 1 => by
    obtain ⟨h1, h2⟩ := psum_ok g (xs := xs) (ns := ns) k
    show 0 ≤ psum (pri rs) xs ns k + _ ∧ psum (pri rs) xs ns k + _ ≤ _
    cases e : stp (pri rs) xs (cn ns k).toNat (cn ns (k + 1)).toNat with
    | none => exact ⟨by show 0 ≤ _ + (0 : Int); omega, by show _ + (0 : Int) ≤ _; omega⟩
    | some n =>
      obtain ⟨h3, h4⟩ := stp_ok g e
      exact ⟨by show 0 ≤ _ + n; omega, by show _ + n ≤ _; omega⟩
theorem int_show {n : Int} (h0 : 0 ≤ n) (h1 : n ≤ 100000000000000) : PyData.showable (.int n) = true ∧ PyData.leavesShort 40 (.int n) = true := by
  constructor
  · unfold PyData.showable
    refine decide_eq_true ?_
    have h2 : n.natAbs < 2 ^ 50 := by
      have : (2 : Nat) ^ 50 = 1125899906842624 := by decide
      omega
    by_cases z : n.natAbs = 0
    · rw [z]; decide
    · exact Nat.lt_trans ((Nat.log2_lt z).mpr h2) (by decide)
  · unfold PyData.leavesShort
    obtain ⟨m, rfl⟩ : ∃ m : Nat, n = (m : Int) := ⟨n.toNat, by omega⟩
    have hl : (TL.numL m).length ≤ 15 := TL.numL_len (by decide) (by omega)
    have hlen : (numS (m : Int)).length = (TL.numL m).length := by rw [len_tl, numS_nat]
    refine decide_eq_true ?_
    show (numS (m : Int)).length ≤ 40
    omega
theorem pathG_len {P : Pri} {xs : List Str} : ∀ k i, (pathG P xs k i).length ≤ k + 1
  | 0, i => Nat.le_refl _
  | k + 1, i => by
    unfold pathG
    split
    · split
      · rw [List.length_cons]
        have := pathG_len (P := P) (xs := xs) k
        exact Nat.succ_le_succ (this _)
      · show 1 ≤ _; omega
    · show 1 ≤ _; omega
/-! ### the bill of the told parting -/
def legAt (P : Pri) (xs : List Str) (cs : List Int) (k : Nat) : Row := (xat xs (cn cs k).toNat, xat xs (cn cs (k + 1)).toNat, (stp P xs (cn cs k).toNat (cn cs (k + 1)).toNat).getD 0)
def allS (n : Int) : Str := Str.ofString "all " ++ numS n
def billL (P : Pri) (xs : List Str) (cs : List Int) (n : Int) : List Str := ((List.range (cs.length - 1)).map fun k => lineOf (legAt P xs cs k)) ++ [allS n]
def spBill (K : PySem.W.Frag) (a : Ads) (P : Addr) : Sp := fun vs H Q E => ∃ (p d l : Addr) (rs : List Row) (xs : List Str), vs = [.ref p, .ref l] ∧ TarAt a.Tariff H p d rs ∧ GoodRows rs ∧ SqL K H l (xs.map V.str) ∧ GoodJ xs ∧ H P = some (TabO P) ∧
  (∀ x b c, wayAt (pri rs) xs 0 = some [x, b, c] → ∀ (B : Addr) (H' : Hp), H B = none → Same H H' → H' B = some (.lst ((billL (pri rs) xs (pathL (pri rs) xs) x).map V.str)) → Q (.ref B) H') ∧ (wayAt (pri rs) xs 0 = none → ∀ H', Same H H' → E (.ref a.NoParting) none H')
abbrev s_stretches_of : Stmt := topS 27
abbrev N_stretches_of : List Str := ["cuts"]
theorem sc_stretches_of : FnScope N_stretches_of ["cuts"] (defScope s_stretches_of) := ⟨rfl, rfl, rfl, by decide +kernel, rfl, by decide +kernel, by decide +kernel⟩
abbrev s_line_of : Stmt := topS 35
abbrev N_line_of : List Str := ["here", "there", "price"]
theorem sc_line_of : FnScope N_line_of ["here", "there", "price"] (defScope s_line_of) := ⟨rfl, rfl, rfl, by decide +kernel, rfl, by decide +kernel, by decide +kernel⟩
abbrev s_bill : Stmt := topS 36
abbrev N_bill : List Str := ["tariff", "journey", "places", "price", "cuts", "lines", "at", "to"]
theorem sc_bill : FnScope N_bill ["tariff", "journey"] (defScope s_bill) := ⟨rfl, rfl, rfl, by decide +kernel, rfl, by decide +kernel, by decide +kernel⟩
section
variable {Pg : Program} {w : World} {K : PySem.W.Frag} {mg : Str → Option Value} {base : Heap} {a : Ads}
theorem ok_stretches_of {f : Addr} {fd : FuncData} (F : Fun K "stretches_of" "stretches_of" s_stretches_of f fd) (T : Txt K mg a) : FnOk Pg w K mg base (L2N.CX Pg w) 1 f fd ["cuts"] (spStretches K) := by
  refine F.okN sc_stretches_of (fun vs H Q E h => ?_) (fun cdv A outer s H vs Q E hr h => ?_)
  · obtain ⟨_, _, rfl, _⟩ := h
    rfl
  · obtain ⟨l, ns, rfl, hs, hl, q⟩ := h
    refine ⟨_, (pss_one (ps_ret (pe_listZip rfl (by rfl) T.n_list (by rfl) T.n_zip (pa_cons (pv 0) (pa_cons (pe_slice sl_listN (pv 0) (po_some pe_int) po_none) pa_nil))))), ?_⟩
    walk_at "s"
    refine ⟨_, _, rfl, hs, fun b H1 nb s1 h1 => ?_⟩
    have e1 : cutV (ns.map V.int) (some 1) none = (ns.drop 1).map V.int := by
      rw [cutV_map]
      unfold cutX
      rw [HT.sIx_none, show (1 : Int) = ((1 : Nat) : Int) from rfl, HT.sIx_nat]
      by_cases c : 1 ≤ ns.length
      · rw [Nat.min_eq_left c, List.take_of_length_le (by rw [List.length_drop]; exact Nat.le_refl _)]
      · rw [List.drop_eq_nil_of_le (by omega), List.drop_eq_nil_of_le (by omega), List.take_nil]
    rw [e1] at h1
    have hs1 := s1.seq hs
    refine ⟨l, b, _, _, rfl, hs1, SqL.of h1, by rw [List.length_map]; omega, fun D H2 Ts nD s2 hD hT hp => ?_⟩
    rw [List.length_map, List.length_map, List.length_drop] at hT
    refine q D H2 Ts (s1.free nD) (Same.trans s1 s2) hD (by omega) fun j T hj => ?_
    have jl := (List.getElem?_eq_some_iff.mp hj).1
    refine hp j T _ _ hj ?_ ?_
    · rw [List.getElem?_map, cn_get (by omega)]; rfl
    · rw [List.getElem?_map, List.getElem?_drop, show 1 + j = j + 1 by omega, cn_get (by omega)]; rfl
theorem ok_line_of {f : Addr} {fd : FuncData} (F : Fun K "line_of" "line_of" s_line_of f fd) (T : Txt K mg a) : FnOk Pg w K mg base (L2N.CX Pg w) 1 f fd ["here", "there", "price"] spLineOf := by
  refine F.okN sc_line_of (fun vs H Q E h => ?_) (fun cdv A outer s H vs Q E hr h => ?_)
  · obtain ⟨_, _, _, rfl, _⟩ := h
    rfl
  · obtain ⟨x, y, n, rfl, g, q⟩ := h
    have l1 : x.length ≤ 12 := (isP_len g.p1).2
    have l2 : y.length ≤ 12 := (isP_len g.p2).2
    have l3 : (numS n).length ≤ 13 := (fig_num g.c).2.2.1
    have lb : blankS.length = 1 := by decide +kernel
    refine ⟨_, (pss_one (ps_ret (pe_joined (PJ.cons (pe_fmt (pv 0)) (PJ.cons pe_str (PJ.cons (pe_fmt (pv 1)) (PJ.cons pe_str (PJ.cons (pe_fmt (pv 2)) PJ.nil)))))))), ?_⟩
    walk_at "s"
    have e0 : (Str.empty ++ x).length = x.length := by rw [len_app]; show 0 + _ = _; omega
    have e1 : (Str.empty ++ x ++ blankS).length ≤ 13 := by rw [len_app, e0, lb]; omega
    have e2 : (Str.empty ++ x ++ blankS ++ y).length ≤ 25 := by rw [len_app]; omega
    have e3 : (Str.empty ++ x ++ blankS ++ y ++ blankS).length ≤ 26 := by rw [len_app, lb]; omega
    have e4 : (Str.empty ++ x ++ blankS ++ y ++ blankS ++ numS n).length ≤ 39 := by rw [len_app]; omega
    refine .inl ⟨_, rfl, szl (by omega), ?_⟩
    walk_at "s"
    refine ⟨szl (by omega), ?_⟩
    walk_at "s"
    refine ⟨szl (Nat.le_trans e1 (by decide)), ?_⟩
    walk_at "s"
    refine .inl ⟨_, rfl, szl (by omega), ?_⟩
    walk_at "s"
    refine ⟨szl (Nat.le_trans e2 (by decide)), ?_⟩
    walk_at "s"
    refine ⟨szl (Nat.le_trans e3 (by decide)), ?_⟩
    walk_at "s"
    refine .inr ⟨_, rfl, log_price g.c, ?_⟩
    walk_at "s"
    refine ⟨szl (Nat.le_trans e4 (by decide)), ?_⟩
    have ee : Str.empty ++ x ++ blankS ++ y ++ blankS ++ numS n = lineOf (x, y, n) := by
      unfold lineOf
      refine TL.ext_tl ?_
      simp only [TL.tl_append]
      rfl
    have q2 := q
    rw [← ee] at q2
    exact q2
theorem ok_bill {f P : Addr} {fd : FuncData} (F : Fun K "bill" "bill" s_bill f fd) (T : Txt K mg a) (D_need_journey : Dn Pg w K mg base 3 "need_journey" ["places"] (spNeed K a P)) (D_priced : Dn Pg w K mg base 7 "priced" ["tariff", "journey"] (spPriced K a P)) (D_stretches_of : Dn Pg w K mg base 1 "stretches_of" ["cuts"] (spStretches K))
    (D_stretch_price : Dn Pg w K mg base 2 "stretch_price" ["tariff", "places", "at", "to"] (spSP K a)) (D_line_of : Dn Pg w K mg base 1 "line_of" ["here", "there", "price"] spLineOf) : FnOk Pg w K mg base (L2N.CX Pg w) 8 f fd ["tariff", "journey"] (spBill K a P) := by
  refine F.okN sc_bill (fun vs H Q E h => ?_) (fun cdv A outer s H vs Q E hr h => ?_)
  · obtain ⟨_, _, _, _, _, rfl, _⟩ := h
    rfl
  · obtain ⟨p, d, l, rs, xs, rfl, hT, hg, hx, gj, hP, qO, qE⟩ := h
    have lo := gj.lo
    have hi := gj.hi
    have PO : PassesOwn (model Pg w) (A.deeper (envOfC "bill" (defScope s_bill) s.heap.objs.size f cdv)) (envOfC "bill" (defScope s_bill) s.heap.objs.size f cdv) (cxOf (L2N.CX Pg w) Pg w K mg base N_bill "bill" (defScope s_bill) f cdv A outer s H E).xe := passes_of rfl
    refine ⟨_, (pss_cons (ps_set (i := 2) sc_bill.nd rfl (by first | exact Or.inl rfl | exact Or.inr rfl) (pe_fnS D_need_journey (hr.mono (by decide)) (fun σ => L2N.passAt (L2N.takes_of rfl rfl rfl rfl) σ) (pa_cons (pv 1) pa_nil)))
      (pss_cons (ps_asg (pe_fnS D_priced (hr.mono (by decide)) (fun σ => L2N.passAt (L2N.takes_of rfl rfl rfl rfl) σ) (pa_cons (pv 0) (pa_cons (pv 2) pa_nil))) (pg_tup rfl (pgs_cons (pg_name (i := 3) sc_bill.nd rfl (by first | exact Or.inl rfl | exact Or.inr rfl)) (pgs_cons (pg_name (i := 4) sc_bill.nd rfl (by first | exact Or.inl rfl | exact Or.inr rfl)) pgs_nil))))
      (pss_cons (ps_setLc (i := 5) (own := [("at", 6), ("to", 7)]) (g := (gTup K 2 (gCons (gName 6) (gCons (gName 7) gNil)))) (tt := tYes) rfl sc_bill.nd rfl rfl (sw_true rfl rfl rfl (by decide +kernel)) (pi_list (pe_fnS D_stretches_of (hr.mono (by decide)) passC (pa_cons (pv 4) pa_nil))) (blkOk_by (own := [("at", 6), ("to", 7)]) (N := N_bill) (sc := (defScope s_bill)) (by decide +kernel)) (fun _ _ _ _ _ => (pg_tup rfl (pgs_cons (pg_name (i := 6) sc_bill.nd rfl (by first | exact Or.inl rfl | exact Or.inr rfl)) (pgs_cons (pg_name (i := 7) sc_bill.nd rfl (by first | exact Or.inl rfl | exact Or.inr rfl)) pgs_nil)))) (fun _ _ _ _ _ => pts_nil) (fun _ _ _ _ _ => (pe_fnS D_line_of (hr.mono (by decide)) passC (pa_cons (pe_ix (ix_listS (K := K)) (pv 2) (pv 6) (fun _ _ => rfl)) (pa_cons (pe_ix (ix_listS (K := K)) (pv 2) (pv 7) (fun _ _ => rfl)) (pa_cons (pe_fnS D_stretch_price (hr.mono (by decide)) passC (pa_cons (pv 0) (pa_cons (pv 2) (pa_cons (pv 6) (pa_cons (pv 7) pa_nil))))) pa_nil))))))
      (pss_one (ps_ret (pe_op op_catN (pv 5) (pe_lstN (pa_cons (pe_joined (PJ.cons pe_str (PJ.cons (pe_fmt (pv 3)) PJ.nil))) pa_nil)))))))), ?_⟩
    walk_at "s"
    refine ⟨l, _, rfl, hx, by rw [List.length_map]; omega, gj.ask, hP, fun _ m H1 hm s1 h1 => ?_, fun e => absurd gj.due e⟩
    have hx1 : SqL K H1 m (xs.map V.str) := SqL.of h1
    walk_at "s"
    refine .inl ⟨p, d, m, rs, xs, rfl, hT.same s1, hx1, gj, s1 _ _ hP, (fun x b c e t D H2 nt nD ntD s2 ht hD => ?_), (fun e H2 s2 => ?_)⟩
    · obtain ⟨g1, g2, g3, g4, g5, g6, _⟩ : GoodPath (pri rs) xs 0 x b (pathL (pri rs) xs) := path_good lo _ 0 x b c (by omega) (Nat.le_refl _) e
      have pl : (pathL (pri rs) xs).length ≤ 40 := by
        have := pathG_len (P := pri rs) (xs := xs) (xs.length - 1) 0
        show (pathG (pri rs) xs (xs.length - 1) 0).length ≤ 40
        omega
      have pl0 : 0 < (pathL (pri rs) xs).length := List.length_pos_iff.mpr g1
      have qx := qO x b c e
      generalize pathL (pri rs) xs = cs at *
      have s12 := Same.trans s1 s2
      have hx2 := s2.seq hx1
      refine ⟨_, _, rfl, SqT.of ht, rfl, _, _, rfl, _, _, rfl, rfl, ?_⟩
      walk_at "s"
      refine ⟨D, cs, rfl, SqL.of hD, by omega, fun S H3 Ts nS s3 hS lT hst => ?_⟩
      have hSq : SqL K H3 S (Ts.map V.ref) := SqL.of hS
      walk_at "s"
      refine ⟨⟨_, hSq⟩, fun B hB => ?_⟩
      refine lc_listG (K := K) (xs := Ts.map V.ref) (fun i v _ => v = .str (lineOf (legAt (pri rs) xs cs i))) (fun _ _ _ _ _ h => h) hB hSq (by rw [List.length_map]; omega) (mono_tup (mono_cons mono_name (mono_cons mono_name mono_nil))) ?_ ?_
      · intro i y H4 acc hi s4 hDl Q4 q4
        rw [List.getElem?_map] at hi
        obtain ⟨u, hu1, rfl⟩ := Option.map_eq_some_iff.mp hi
        have il := (List.getElem?_eq_some_iff.mp hu1).1
        have hu4 := s4 _ _ (hst i u hu1)
        have tl : Tells cs (xs.length : Int) := ⟨by omega, g2, g3, g4⟩
        have z0 := tl.ge (j := i) (by omega)
        have z1 := tl.le (j := i) (by omega)
        have z2 := tl.ge (j := i + 1) (by omega)
        have z3 := tl.le (j := i + 1) (by omega)
        have hx4 := s4.seq (s3.seq hx2)
        obtain ⟨prc, hprc⟩ := (g5 i (by omega)).pr
        refine ⟨_, _, rfl, SqT.of hu4, rfl, _, _, rfl, _, _, rfl, rfl, ?_⟩
        refine ⟨rfl, ?_⟩
        walk_at "s"
        refine ⟨_, _, _, _, rfl, rfl, hx4, xat_at (i := (cn cs i).toNat) (by omega) (by omega), ?_⟩
        walk_at "s"
        refine ⟨_, _, _, _, rfl, rfl, hx4, xat_at (i := (cn cs (i + 1)).toNat) (by omega) (by omega), ?_⟩
        walk_at "s"
        refine ⟨p, d, m, rs, xs, (cn cs i).toNat, (cn cs (i + 1)).toNat, _, _, rfl, by omega, by omega, hT.same (Same.trans s12 (Same.trans s3 s4)), hx4, by omega, by omega, fun H5 s5 => ?_⟩
        rw [hprc]
        walk_at "s"
        have eg : legAt (pri rs) xs cs i = (xat xs (cn cs i).toNat, xat xs (cn cs (i + 1)).toNat, prc) := by unfold legAt; rw [hprc]; rfl
        exact ⟨_, _, _, rfl, hg.ok _ (pri_mem hprc), q4 _ _ s5 (by rw [eg])⟩
      · intro H4 ys s4 hBl yl yall
        rw [List.length_map] at yl
        have ey : ys = ((List.range (cs.length - 1)).map fun k => lineOf (legAt (pri rs) xs cs k)).map V.str := by
          refine List.ext_getElem? fun i => ?_
          rw [List.map_map, List.getElem?_map]
          cases hy : ys[i]? with
          | none =>
            have h3 := List.getElem?_eq_none_iff.mp hy
            rw [List.getElem?_eq_none (by rw [List.length_range]; omega)]; rfl
          | some v =>
            have h3 := (List.getElem?_eq_some_iff.mp hy).1
            rw [yall i v hy, List.getElem?_range (by omega)]; rfl
        rw [ey] at hBl
        obtain ⟨z1, z2⟩ := psum_ok hg (xs := xs) (ns := cs) (cs.length - 1)
        rw [g6] at z1 z2
        walk_at "s"
        have ix := int_show z1 (by omega : x ≤ 100000000000000)
        have lx : x.natAbs.log2 < 1920 := of_decide_eq_true (by have := ix.1; unfold PyData.showable at this; exact this)
        have ln : (numS x).length ≤ 40 := of_decide_eq_true (by have := ix.2; unfold PyData.leavesShort at this; exact this)
        have la : (Str.empty ++ Str.ofString "all ").length ≤ 10 := by decide +kernel
        refine ⟨szl (by omega), ?_⟩
        walk_at "s"
        refine .inr ⟨_, rfl, lx, ?_⟩
        walk_at "s"
        have la2 : (Str.empty ++ Str.ofString "all " ++ numS x).length ≤ 50 := by rw [len_app]; omega
        refine ⟨szl (Nat.le_trans la2 (by decide)), ?_⟩
        walk_at "s"
        refine ⟨(by simp), fun Z H5 nZ s5 hZ => ?_⟩
        have ea : Str.empty ++ Str.ofString "all " ++ numS x = allS x := by
          unfold allS
          refine TL.ext_tl ?_
          simp only [TL.tl_append]
          rfl
        have hZ2 : H5 Z = some (.lst [V.str (allS x)]) := by rw [← ea]; exact hZ
        refine ⟨B, Z, _, _, rfl, rfl, s5 _ _ hBl, hZ2, by rw [List.length_map, List.length_map, List.length_range]; show _ + 1 ≤ _; omega, fun Y H6 nY s6 hY => ?_⟩
        have s16 := Same.trans s12 (Same.trans s3 (Same.trans s4 (Same.trans s5 s6)))
        have nYH : H Y = none := s12.free (s3.free (s4.free (s5.free nY)))
        refine qx Y H6 nYH s16 ?_
        rw [hY]
        unfold billL
        rw [List.map_append]; rfl
    · exact qE e _ (Same.trans s1 s2)
end
end Fb

namespace Fb
open PySem PySem.Spec PyProof.Rows L2
local macro_rules | `(tactic| walk_at "s") => `(tactic| repeat (first | refine ⟨_, rfl, ?_⟩ | refine ⟨_, _, rfl, rfl, ?_⟩ | refine ⟨_, _, rfl, Or.inl (by assumption), ?_⟩ | refine ⟨rfl, ?_⟩ | refine ⟨(by decide : (0 : Int) < _), ?_⟩ | refine ⟨⟨by decide, by decide⟩, ?_⟩ | refine ⟨_, _, _, rfl, (by assumption), (by first | decide | omega), ?_⟩))
def spTofG (K : PySem.W.Frag) (a : Ads) (P P2 : Addr) : Sp := fun vs H Q _ => ∃ (l : Addr) (zs : List Str) (rs : List Row), vs = [.ref l] ∧ SqL K H l (zs.map V.str) ∧ (∀ z ∈ zs, z.length ≤ 1000) ∧ zs.map parseL = rs.map some ∧ GoodRows rs ∧ rs.length ≤ 160 ∧ H P = some (TabO P) ∧ H P2 = some (TabO P2) ∧
  ∀ (x d : Addr) (H' : Hp), H x = none → H d = none → Same H H' → TarAt a.Tariff H' x d rs → Q (.ref x) H'
abbrev s_tariff_of : Stmt := topS 39
abbrev N_tariff_of : List Str := ["lines", "rows", "line"]
theorem sc_tariff_of : FnScope N_tariff_of ["lines"] (defScope s_tariff_of) := ⟨rfl, rfl, rfl, by decide +kernel, rfl, by decide +kernel, by decide +kernel⟩
section
variable {Pg : Program} {w : World} {K : PySem.W.Frag} {mg : Str → Option Value} {base : Heap} {a : Ads}
theorem ok_tariff_of {f P P2 : Addr} {fd : FuncData} (F : Fun K "tariff_of" "tariff_of" s_tariff_of f fd) (T : Txt K mg a) (D_row_of : Dn Pg w K mg base 3 "row_of" ["line"] (spRowOf a P2)) (D_Tariff : Dk Pg w K mg base 4 "Tariff" a.Tariff ["self", "rows"] (spInit K a P)) :
    FnOk Pg w K mg base (L2N.CX Pg w) 6 f fd ["lines"] (spTofG K a P P2) := by
  refine F.okN sc_tariff_of (fun vs H Q E h => ?_) (fun cdv A outer s H vs Q E hr h => ?_)
  · obtain ⟨_, _, _, rfl, _⟩ := h
    rfl
  · obtain ⟨l, zs, rs, rfl, hs, hz, hp, hg, hlen, hP, hP2, q⟩ := h
    have lz : zs.length = rs.length := by have := congrArg List.length hp; simpa using this
    refine ⟨_, (pss_cons (ps_setLc (i := 1) (own := [("line", 2)]) (g := (gName 2)) (tt := tYes) rfl sc_tariff_of.nd rfl rfl (sw_true rfl rfl rfl (by decide +kernel)) (pi_list (pv 0)) (blkOk_by (own := [("line", 2)]) (N := N_tariff_of) (sc := (defScope s_tariff_of)) (by decide +kernel)) (fun _ _ _ _ _ => (pg_name (i := 2) sc_tariff_of.nd rfl (by first | exact Or.inl rfl | exact Or.inr rfl))) (fun _ _ _ _ _ => pts_nil) (fun _ _ _ _ _ => (pe_fnS D_row_of (hr.mono (by decide)) passC (pa_cons (pv 2) pa_nil))))
      (pss_one (ps_ret (pe_mkS D_Tariff (hr.mono (by decide)) (fun σ => L2N.passAt (L2N.takes_of rfl rfl rfl rfl) σ) (pa_cons (pv 1) pa_nil))))), ?_⟩
    walk_at "s"
    refine ⟨⟨_, hs⟩, fun D hD => ?_⟩
    refine lc_listR (K := K) (xs := zs.map V.str) (fun i v H' => ∃ t, v = .ref t ∧ t ≠ D ∧ ∃ r, rs[i]? = some r ∧ IsRow H' t r) ?_ hD hs (by rw [List.length_map]; omega) (fun v => rfl) ?_ ?_
    · rintro i v H2 H3 sb ⟨t, e, n, r, hr2, h⟩
      exact ⟨t, e, n, r, hr2, sb _ _ n h⟩
    · intro i x H2 acc hi s2 hDl Q2 q2
      rw [List.getElem?_map] at hi
      obtain ⟨z, hz1, rfl⟩ := Option.map_eq_some_iff.mp hi
      have hil := (List.getElem?_eq_some_iff.mp hz1).1
      have hr1 : rs[i]? = some rs[i] := List.getElem?_eq_getElem (by omega)
      have epz : parseL z = some rs[i] := by
        have h1 : (zs.map parseL)[i]? = (rs.map some)[i]? := by rw [hp]
        rw [List.getElem?_map, List.getElem?_map, hz1, hr1] at h1
        exact Option.some.inj h1
      walk_at "s"
      refine ⟨by have := hz z (List.mem_of_getElem? hz1); omega, s2 _ _ hP2, fun r er t H3 ht s3 h3 => ?_, fun e => by rw [epz] at e; cases e⟩
      rw [epz] at er
      cases er
      exact q2 _ _ s3 ⟨t, rfl, (ne_of_none hDl ht).symm, _, hr1, h3⟩
    · intro H2 ys s2 hDl hl hr2
      rw [List.length_map] at hl
      have hl2 : ys.length = rs.length := hl.trans lz
      obtain ⟨ts, rfl, hpr⟩ := pair_of (R := fun t r => IsRow H2 t r) hl2 fun i v hv => by
        obtain ⟨t, e, n, r, h1, h2⟩ := hr2 i v hv
        exact ⟨t, e, r, h1, h2⟩
      have tk : takeRows [] (rs.map givenOf) = (0, rs) := take_good (rs := []) (by simpa using hg) (by simpa using hlen)
      walk_at "s"
      intro x dx hx hdx hne
      have m1 : Same H2 (upd (upd H2 dx (.own x)) x (.ins a.Tariff dx [])) := fun b o e => by rw [upd_ne (ne_of_none e hx), upd_ne (ne_of_none e hdx)]; exact e
      refine ⟨x, dx, D, ts, rs.map givenOf, rfl, upd_same, m1 _ _ (s2 _ _ hP), SqL.of (m1 _ _ hDl), given_rows (rows_same m1 hpr), good_ask hg, by rw [List.length_map]; omega, fun _ d H3 hd3 sb3 T3 => ⟨rfl, ?_⟩, fun e => absurd (by rw [tk]) e⟩
      rw [tk] at T3
      have s3 : Same H2 H3 := fun b o e => sb3 _ _ (ne_of_none e hx) (m1 _ _ e)
      exact q x d H3 (s2.free hx) (s2.free (m1.free hd3)) (Same.trans s2 s3) T3
end
end Fb

namespace Fb
open PySem PySem.Spec PyProof.Rows L2
local macro_rules | `(tactic| walk_at "s") => `(tactic| repeat (first | refine ⟨_, rfl, ?_⟩ | refine ⟨_, _, rfl, rfl, ?_⟩ | refine ⟨_, _, rfl, Or.inl (by assumption), ?_⟩ | refine ⟨rfl, ?_⟩ | refine ⟨(by decide : (0 : Int) < _), ?_⟩ | refine ⟨⟨by decide, by decide⟩, ?_⟩ | refine ⟨_, _, _, rfl, (by assumption), (by first | decide | omega), ?_⟩))
/-! ### cells of the script -/
def cel (ns : List Int) (j : Int) : Int := ns.getD j.toNat 0
def spCell (K : PySem.W.Frag) : Sp := fun vs H Q _ => ∃ (l : Addr) (ns : List Int) (j : Int), vs = [.ref l, .int j] ∧ SqL K H l (ns.map V.int) ∧ 0 ≤ j ∧ Q (.int (cel ns j)) H
abbrev s__law_cell_at : Stmt := topS 41
abbrev N__law_cell_at : List Str := ["_law_script", "_law_k"]
theorem sc__law_cell_at : FnScope N__law_cell_at ["_law_script", "_law_k"] (defScope s__law_cell_at) := ⟨rfl, rfl, rfl, by decide +kernel, rfl, by decide +kernel, by decide +kernel⟩
section
variable {Pg : Program} {w : World} {K : PySem.W.Frag} {mg : Str → Option Value} {base : Heap} {a : Ads}
theorem ok_cell {f : Addr} {fd : FuncData} (F : Fun K "_law_cell_at" "_law_cell_at" s__law_cell_at f fd) (T : Txt K mg a) : FnOk Pg w K mg base (L2N.CX Pg w) 1 f fd ["_law_script", "_law_k"] (spCell K) := by
  refine F.okN sc__law_cell_at (fun vs H Q E h => ?_) (fun cdv A outer s H vs Q E hr h => ?_)
  · obtain ⟨l, ns, j, rfl, _⟩ := h
    rfl
  · obtain ⟨l, ns, j, rfl, hs, hj, q⟩ := h
    refine ⟨_, (pss_cons (ps_if (pt_cmpR op_lt (pv 1) (pe_callB call_len_seq (by rfl) T.n_len (by decide +kernel) (pa_cons (pv 0) pa_nil)) (nomark _)) (pss_one (ps_ret (pe_ix ix_list (pv 0) (pv 1) (fun _ _ => rfl)))) pss_nil)
      (pss_one (ps_ret pe_int))), ?_⟩
    walk_at "s"
    refine ifD (fun c => ?_) (fun c => ?_)
    · rw [List.length_map] at c
      walk_at "s"
      exact ⟨_, _, _, _, rfl, rfl, hs, atI_map hj (by omega), q⟩
    · rw [List.length_map] at c
      have e : cel ns j = 0 := by
        unfold cel
        rw [List.getD_eq_getElem?_getD, List.getElem?_eq_none (by omega)]; rfl
      rw [e] at q
      exact q
end
end Fb

namespace Fb
open PySem PySem.Spec PyProof.Rows L2
local macro_rules | `(tactic| walk_at "s") => `(tactic| repeat (first | refine ⟨_, rfl, ?_⟩ | refine ⟨_, _, rfl, rfl, ?_⟩ | refine ⟨_, _, rfl, Or.inl (by assumption), ?_⟩ | refine ⟨rfl, ?_⟩ | refine ⟨(by decide : (0 : Int) < _), ?_⟩ | refine ⟨⟨by decide, by decide⟩, ?_⟩ | refine ⟨_, _, _, rfl, (by assumption), (by first | decide | omega), ?_⟩))
/-! ### names -/
def spNames : Sp := fun vs H Q _ => ∃ (c : Int) (n : Nat), vs = [.int c, .int (n : Int)] ∧ n ≤ 52 ∧ ∀ (p : Addr) (H' : Hp), H p = none → Same H H' → H' p = some (.lst ((List.range n).map fun k => V.str (nameOf c k))) → Q (.ref p) H'
abbrev s__law_names : Stmt := topS 42
abbrev N__law_names : List Str := ["_law_cell", "_law_many", "_law_letters", "_law_size", "_law_place", "_law_k", "_law_names_here", "_law_turn", "_law_name", "_law_j", "_law_sign"]
theorem sc__law_names : FnScope N__law_names ["_law_cell", "_law_many"] (defScope s__law_names) := ⟨rfl, rfl, rfl, by decide +kernel, rfl, by decide +kernel, by decide +kernel⟩
section
variable {Pg : Program} {w : World} {K : PySem.W.Frag} {mg : Str → Option Value} {base : Heap} {a : Ads}
theorem ok_names {f : Addr} {fd : FuncData} (F : Fun K "_law_names" "_law_names" s__law_names f fd) (T : Txt K mg a) : FnOk Pg w K mg base (L2N.CX Pg w) 1 f fd ["_law_cell", "_law_many"] spNames := by
  refine F.okN sc__law_names (fun vs H Q E h => ?_) (fun cdv A outer s H vs Q E hr h => ?_)
  · obtain ⟨c, n, rfl, _⟩ := h
    rfl
  · obtain ⟨c, n, rfl, hn, q⟩ := h
    have PO : PassesOwn (model Pg w) (A.deeper (envOfC "_law_names" (defScope s__law_names) s.heap.objs.size f cdv)) (envOfC "_law_names" (defScope s__law_names) s.heap.objs.size f cdv) (cxOf (L2N.CX Pg w) Pg w K mg base N__law_names "_law_names" (defScope s__law_names) f cdv A outer s H E).xe := passes_of rfl
    refine ⟨_, (pss_cons (ps_set (i := 2) sc__law_names.nd rfl (by first | exact Or.inl rfl | exact Or.inr rfl) pe_str)
      (pss_cons (ps_set (i := 3) sc__law_names.nd rfl (by first | exact Or.inl rfl | exact Or.inr rfl) (pe_op op_mod (pe_op op_fdiv (pv 0) pe_int) pe_int))
      (pss_cons (ps_set (i := 4) sc__law_names.nd rfl (by first | exact Or.inl rfl | exact Or.inr rfl) (pe_op op_mod (pe_op op_fdiv (pv 0) pe_int) (pe_op op_add (pv 3) pe_int)))
      (pss_cons (ps_if (pt_cmpR op_eq (pe_op op_mod (pe_op op_fdiv (pv 0) pe_int) pe_int) pe_int (nomark _)) (pss_one (ps_ret (pe_lc (own := [("_law_k", 5)]) (g := (gName 5)) (tt := tYes) rfl sc__law_names.nd (pi_range1 (by rfl) T.n_range (pa_cons (pv 1) pa_nil)) (blkOk_by (own := [("_law_k", 5)]) (N := N__law_names) (sc := (defScope s__law_names)) (by decide +kernel)) (fun _ _ _ _ _ => (pg_name (i := 5) sc__law_names.nd rfl (by first | exact Or.inl rfl | exact Or.inr rfl))) (fun _ _ _ _ _ => pts_nil) (fun _ _ _ _ _ => (pe_op op_repS (pe_ix ix_str (pv 2) (pe_op op_mod (pe_op op_add (pv 0) (pe_op op_fdiv (pv 5) pe_int)) pe_int) (fun _ _ => rfl)) (pe_op op_add pe_int (pe_op op_mod (pv 5) pe_int))))))) pss_nil)
      (pss_cons (ps_set (i := 6) sc__law_names.nd rfl (by first | exact Or.inl rfl | exact Or.inr rfl) (pe_lst pa_nil))
      (pss_cons (ps_for PO rfl (pi_range1 (by rfl) T.n_range (pa_cons (pv 1) pa_nil)) (pg_name (i := 5) sc__law_names.nd rfl (by first | exact Or.inl rfl | exact Or.inr rfl))
        (pss_cons (ps_set (i := 7) sc__law_names.nd rfl (by first | exact Or.inl rfl | exact Or.inr rfl) (pe_op op_add (pe_op op_fdiv (pv 0) pe_int) (pe_op op_mul (pe_op op_mul (pv 5) (pv 5)) (pe_op op_mod (pe_op op_fdiv (pv 0) pe_int) pe_int))))
          (pss_cons (ps_set (i := 8) sc__law_names.nd rfl (by first | exact Or.inl rfl | exact Or.inr rfl) (pe_bm PySem.F.plainAttrs_str PySem.F.slot_str_join PySem.F.type_str_join mt_join pe_str (pa_cons (pe_lc (own := [("_law_j", 9)]) (g := (gName 9)) (tt := tYes) rfl sc__law_names.nd (pi_range1 (by rfl) T.n_range (pa_cons (pv 3) pa_nil)) (blkOk_by (own := [("_law_j", 9)]) (N := N__law_names) (sc := (defScope s__law_names)) (by decide +kernel)) (fun _ _ _ _ _ => (pg_name (i := 9) sc__law_names.nd rfl (by first | exact Or.inl rfl | exact Or.inr rfl))) (fun _ _ _ _ _ => pts_nil) (fun _ _ _ _ _ => (pe_ix ix_str (pv 2) (pe_op op_mod (pe_op op_add (pv 7) (pe_op op_mul pe_int (pv 9))) pe_int) (fun _ _ => rfl)))) pa_nil)))
          (pss_cons (ps_set (i := 10) sc__law_names.nd rfl (by first | exact Or.inl rfl | exact Or.inr rfl) (pe_ix ix_str (pv 2) (pe_op op_mod (pe_op op_add (pv 0) (pv 5)) pe_int) (fun _ _ => rfl)))
          (pss_one (ps_expr (pe_bm PySem.F.plainAttrs_list PySem.F.slot_list_append PySem.F.type_list_append mt_append (pv 6) (pa_cons (pe_op op_add_str (pe_op op_add_str (pe_op op_add_str (pe_slice sl_str (pv 8) po_none (po_some (pv 4))) (pv 10)) (pe_slice sl_str (pv 8) (po_some (pv 4)) po_none)) (pe_op op_repS pe_str (pe_op op_fdiv (pv 5) pe_int))) pa_nil))))))))
      (pss_one (ps_ret (pv 6))))))))), ?_⟩
    have eSz : c / 26 % 11 = (nmSize c : Int) := by unfold nmSize; omega
    have hPl : (0 : Int) ≤ c / 286 % (c / 26 % 11 + 1) := Int.emod_nonneg _ (by omega)
    have ePl : c / 286 % (c / 26 % 11 + 1) = (nmPlace c : Int) := by unfold nmPlace; rw [← eSz]; omega
    walk_at "s"
    refine ⟨by omega, ?_⟩
    walk_at "s"
    refine ifD (fun c1 => ?_) (fun c1 => ?_)
    · have ho : nmOne c = true := decide_eq_true (V.int.inj c1)
      walk_at "s"
      refine ⟨by omega, by omega, fun D hD => ?_⟩
      refine lc_rangeR (fun i v _ => v = .str (nameOf c i)) (fun _ _ _ _ _ r => r) hD (by omega) (fun v => rfl) ?_ ?_
      · intro i H2 acc hi s2 hDl Q2 q2
        walk_at "s"
        refine ⟨_, _, _, rfl, rfl, abc_len, abc_code _, ?_⟩
        walk_at "s"
        refine ⟨mulOk_small (by omega) (by omega) (show 1 ≤ 1000 by decide), ?_⟩
        refine q2 _ _ (Same.refl _) ?_
        refine congrArg V.str (str_ext ?_)
        rw [mul_sign _ _ (by omega)]
        show _ = nameL c i
        unfold nameL
        rw [if_pos ho, show (1 + (0 + (i : Int)) % 12).toNat = 1 + i % 12 by omega, show c + (0 + (i : Int)) / 12 = c + ((i / 12 : Nat) : Int) by omega]
      · intro H2 ys s2 hDl hl hr
        have e : ys = (List.range n).map fun k => V.str (nameOf c k) := by
          refine List.ext_getElem? fun i => ?_
          by_cases h : i < n
          · have h2 : i < ys.length := by omega
            rw [List.getElem?_map, List.getElem?_range h, List.getElem?_eq_getElem h2, hr i _ (List.getElem?_eq_getElem h2)]
            rfl
          · rw [List.getElem?_eq_none (by omega), List.getElem?_eq_none (by simp; omega)]
        rw [e] at hDl
        exact q D H2 hD s2 hDl
    · have ho : nmOne c = false := decide_eq_false fun z => c1 (congrArg V.int z)
      refine ⟨Nat.zero_le _, fun p hp => ?_⟩
      walk_at "s"
      refine ⟨by omega, by omega, ?_⟩
      refine for_range (fun i σ H' => ∃ v5 v7 v8 v10, σ = [some (.int c), some (.int n), some (.str abc), some (.int (c / 26 % 11)), some (.int (c / 286 % (c / 26 % 11 + 1))), v5, some (.ref p), v7, v8, none, v10] ∧ Same H H' ∧ H' p = some (.lst ((List.range i).map fun k => V.str (nameOf c k))))
        ⟨none, none, none, none, rfl, same_new hp, upd_same⟩ ?_ ?_
      · rintro i σ H2 hi ⟨v5, v7, v8, v10, rfl, s2, hpl⟩
        walk_at "s"
        refine ⟨mulSmall (by omega) (by omega), ?_⟩
        walk_at "s"
        refine ⟨mulSmall2 (by omega) (by omega), ?_⟩
        walk_at "s"
        refine ⟨by omega, by omega, fun D hD => ?_⟩
        refine lc_rangeR (fun j v _ => v = .str ⟨#[code (c / 3 + (i : Int) * i * (c / 3432 % 2) + 5 * (j : Int))]⟩) (fun _ _ _ _ _ r => r) hD (by omega) (fun v => rfl) ?_ ?_
        · intro j H3 acc hj s3 hDl Q2 q2
          walk_at "s"
          refine ⟨mulSmall (by decide) (by decide), ?_⟩
          walk_at "s"
          refine ⟨_, _, _, rfl, rfl, abc_len, abc_code _, ?_⟩
          refine q2 _ _ (Same.refl _) ?_
          rw [Int.zero_add, Int.zero_add]
        · intro H3 ys s3 hDl hl hr
          obtain ⟨zs, rfl, hz, h1⟩ := signs_of (f := fun j => code (c / 3 + (i : Int) * i * (c / 3432 % 2) + 5 * (j : Int))) hl hr
          rw [List.length_map] at hl
          have hbase : (Txt.join (Str.ofString "") zs).cps.toList = nmBase c i := by
            rw [join_tl _ (by decide +kernel), hz, show (c / 26 % 11).toNat = nmSize c from rfl]
            rfl
          have hsum : (zs.map (·.length)).sum ≤ zs.length := by
            clear hl hz hDl hr hbase
            induction zs with
            | nil => simp
            | cons z r ih =>
              have h3 := ih fun q hq => h1 q (List.mem_cons_of_mem _ hq)
              rw [List.map_cons, List.sum_cons, List.length_cons, h1 z List.mem_cons_self]
              omega
          have lb : (Txt.join (Str.ofString "") zs).length = nmSize c := by rw [len_tl, hbase, nmBase_len]
          have hsz := nmSize_le c
          have hpp := nmPlace_le c
          walk_at "s"
          refine ⟨_, _, zs, rfl, rfl, .inl (SqL.of hDl), ?_, ?_⟩
          · have e0 : (Str.ofString "").length = 0 := by decide
            rw [e0]; omega
          walk_at "s"
          refine ⟨_, _, _, rfl, rfl, abc_len, abc_code _, ?_⟩
          have s23 := Same.trans s2 s3
          have hpl3 := s3 _ _ hpl
          walk_at "s"
          refine ⟨.inl ⟨rfl, _, SqL.of hpl3⟩, ?_⟩
          walk_at "s"
          refine ⟨szl (by omega), ?_⟩
          rw [ePl]
          walk_at "s"
          have c1l := cut_len (Txt.join (Str.ofString "") zs) none (some (nmPlace c : Int))
          have c2l := cut_len (Txt.join (Str.ofString "") zs) (some (nmPlace c : Int)) none
          refine ⟨szl (show _ + 1 ≤ _ by omega), ?_⟩
          walk_at "s"
          refine ⟨szl (by omega), ?_⟩
          walk_at "s"
          refine ⟨szl (by rw [len_app]; show _ + 1 + _ ≤ _; omega), ?_⟩
          walk_at "s"
          refine ⟨mulOk_small (by omega) (by omega) (show 1 ≤ 1000 by decide), ?_⟩
          have mlen : (Txt.mul (Str.ofString "x") ((0 + (i : Int)) / 26)).length = ((0 + (i : Int)) / 26).toNat := by
            rw [mul_length _ _ (by omega)]
            exact Nat.one_mul _
          walk_at "s"
          refine ⟨szl (by rw [len_app, len_app]; show _ + 1 + _ + _ ≤ _; omega), ?_⟩
          refine ⟨_, _, _, rfl, rfl, hpl3, szlt (by simp; omega), ?_⟩
          refine ⟨_, _, _, _, rfl, same_mut s23 hp, ?_⟩
          have eZ : cutS (Txt.join (Str.ofString "") zs) none (some (nmPlace c : Int)) ++ (⟨#[code (c + (0 + (i : Int)))]⟩ : Str) ++ cutS (Txt.join (Str.ofString "") zs) (some (nmPlace c : Int)) none ++ Txt.mul (Str.ofString "x") ((0 + (i : Int)) / 26) = nameOf c i := by
            refine str_ext ?_
            rw [cps_app, cps_app, cps_app, cut_take _ _ (by rw [hbase, nmBase_len]; exact hpp), cut_drop _ _ (by rw [hbase, nmBase_len]; exact hpp), hbase]
            rw [show Str.ofString "x" = ⟨#[120]⟩ by decide +kernel, mul_sign _ _ (by omega)]
            show _ = nameL c i
            unfold nameL
            rw [if_neg (by rw [ho]; exact Bool.false_ne_true), show ((0 + (i : Int)) / 26).toNat = i / 26 by omega, Int.zero_add]
          rw [upd_same, eZ, List.range_succ, List.map_append]
          rfl
      · rintro σ H2 ⟨v5, v7, v8, v10, rfl, s2, hpl⟩
        walk_at "s"
        exact q p H2 hp s2 (by simpa using hpl)
end
end Fb

namespace Fb
open PySem PySem.Spec PyProof.Rows L2
local macro_rules | `(tactic| walk_at "s") => `(tactic| repeat (first | refine ⟨_, rfl, ?_⟩ | refine ⟨_, _, rfl, rfl, ?_⟩ | refine ⟨_, _, rfl, Or.inl (by assumption), ?_⟩ | refine ⟨rfl, ?_⟩ | refine ⟨(by decide : (0 : Int) < _), ?_⟩ | refine ⟨⟨by decide, by decide⟩, ?_⟩ | refine ⟨_, _, _, rfl, (by assumption), (by first | decide | omega), ?_⟩))
/-! ### the law's journey -/
def namesV (c : Int) (n : Nat) : List V := (List.range n).map fun k => V.str (nameOf c k)
theorem namesV_at {c : Int} {n : Nat} {j : Int} (h0 : 0 ≤ j) (h1 : j < n) : atI (namesV c n) j = some (.str (nameOf c j.toNat)) := by
  refine atI_of h0 ?_
  unfold namesV
  rw [List.getElem?_map, List.getElem?_range (by omega)]
  rfl
def spJourney (K : PySem.W.Frag) : Sp := fun vs H Q _ => ∃ (l : Addr) (ns : List Int), vs = [.ref l] ∧ SqL K H l (ns.map V.int) ∧ ∀ (p : Addr) (H' : Hp) (xs : List Str), H p = none → Same H H' → H' p = some (.lst (xs.map V.str)) → GoodJ xs → Q (.ref p) H'
abbrev s__law_journey : Stmt := topS 43
abbrev N__law_journey : List Str := ["_law_script", "_law_size", "_law_names_here", "_law_again", "_law_row", "_law_k", "_law_at"]
theorem sc__law_journey : FnScope N__law_journey ["_law_script"] (defScope s__law_journey) := ⟨rfl, rfl, rfl, by decide +kernel, rfl, by decide +kernel, by decide +kernel⟩
section
variable {Pg : Program} {w : World} {K : PySem.W.Frag} {mg : Str → Option Value} {base : Heap} {a : Ads}
theorem ok_journey {f : Addr} {fd : FuncData} (F : Fun K "_law_journey" "_law_journey" s__law_journey f fd) (T : Txt K mg a) (D_cell_at : Dn Pg w K mg base 1 "_law_cell_at" ["_law_script", "_law_k"] (spCell K)) (D_names : Dn Pg w K mg base 1 "_law_names" ["_law_cell", "_law_many"] spNames) :
    FnOk Pg w K mg base (L2N.CX Pg w) 2 f fd ["_law_script"] (spJourney K) := by
  refine F.okN sc__law_journey (fun vs H Q E h => ?_) (fun cdv A outer s H vs Q E hr h => ?_)
  · obtain ⟨_, _, rfl, _⟩ := h
    rfl
  · obtain ⟨l, ns, rfl, hs, q⟩ := h
    have PO : PassesOwn (model Pg w) (A.deeper (envOfC "_law_journey" (defScope s__law_journey) s.heap.objs.size f cdv)) (envOfC "_law_journey" (defScope s__law_journey) s.heap.objs.size f cdv) (cxOf (L2N.CX Pg w) Pg w K mg base N__law_journey "_law_journey" (defScope s__law_journey) f cdv A outer s H E).xe := passes_of rfl
    refine ⟨_, (pss_cons (ps_set (i := 1) sc__law_journey.nd rfl (by first | exact Or.inl rfl | exact Or.inr rfl) (pe_op op_add pe_int (pe_op op_mod (pe_fnS D_cell_at (hr.mono (by decide)) passC (pa_cons (pv 0) (pa_cons pe_int pa_nil))) pe_int)))
      (C8.pss_cut (ps_if (pt_cmpR op_eq (pe_op op_mod (pe_op op_fdiv (pe_fnS D_cell_at (hr.mono (by decide)) passC (pa_cons (pv 0) (pa_cons pe_int pa_nil))) pe_int) pe_int) pe_int (nomark _)) (pss_one (ps_set (i := 1) sc__law_journey.nd rfl (by first | exact Or.inl rfl | exact Or.inr rfl) (pe_op op_add pe_int (pe_op op_mod (pe_op op_fdiv (pe_fnS D_cell_at (hr.mono (by decide)) passC (pa_cons (pv 0) (pa_cons pe_int pa_nil))) pe_int) pe_int)))) pss_nil)
      (pss_cons (ps_set (i := 2) sc__law_journey.nd rfl (by first | exact Or.inl rfl | exact Or.inr rfl) (pe_fnS D_names (hr.mono (by decide)) passC (pa_cons (pe_fnS D_cell_at (hr.mono (by decide)) passC (pa_cons (pv 0) (pa_cons pe_int pa_nil))) (pa_cons (pv 1) pa_nil))))
      (pss_cons (ps_set (i := 3) sc__law_journey.nd rfl (by first | exact Or.inl rfl | exact Or.inr rfl) (pe_fnS D_cell_at (hr.mono (by decide)) passC (pa_cons (pv 0) (pa_cons pe_int pa_nil))))
      (pss_cons (ps_set (i := 4) sc__law_journey.nd rfl (by first | exact Or.inl rfl | exact Or.inr rfl) (pe_lstN pa_nil))
      (pss_cons (ps_for PO rfl (pi_range1 (by rfl) T.n_range (pa_cons (pv 1) pa_nil)) (pg_name (i := 5) sc__law_journey.nd rfl (by first | exact Or.inl rfl | exact Or.inr rfl))
        (pss_cons (ps_set (i := 6) sc__law_journey.nd rfl (by first | exact Or.inl rfl | exact Or.inr rfl) (pv 5))
          (C8.pss_cut (ps_if (PW.pt (pw_and (pt_cmpR op_gt (pv 5) pe_int (nomark _)) (pw_and (pt_cmpR op_eq (pe_op op_mod (pe_op op_add (pe_op op_fdiv (pv 3) (pe_op op_add pe_int (pe_op op_mod (pv 5) pe_int))) (pe_op op_mul pe_int (pv 5))) pe_int) pe_int (nomark _)) (pw_and1 (pt_cmpR op_eq (pe_op op_mod (pv 3) pe_int) pe_int (nomark _)))))) (pss_one (ps_set (i := 6) sc__law_journey.nd rfl (by first | exact Or.inl rfl | exact Or.inr rfl) (pe_op op_mod (pe_op op_add (pv 3) (pv 5)) (pe_op op_sub (pv 5) pe_int)))) pss_nil)
          (C8.pss_cut (ps_if (PW.pt (pw_and (pt_cmpR op_gt (pv 5) pe_int (nomark _)) (pw_and1 (pt_cmpR op_eq (pe_ix ix_list (pv 2) (pv 6) (fun _ _ => rfl)) (pe_ix ix_list (pv 4) (pe_op op_sub (pv 5) pe_int) (fun _ _ => rfl)) (nomark _))))) (pss_one (ps_set (i := 6) sc__law_journey.nd rfl (by first | exact Or.inl rfl | exact Or.inr rfl) (pv 5))) pss_nil)
          (pss_one (ps_expr (pe_bm PySem.F.plainAttrs_list PySem.F.slot_list_append PySem.F.type_list_append mt_appendN (pv 4) (pa_cons (pe_ix ix_list (pv 2) (pv 6) (fun _ _ => rfl)) pa_nil))))))))
      (pss_one (ps_ret (pv 4))))))))), ?_⟩
    walk_at "s"
    refine ⟨fun σ1 H1 => ∃ z : Nat, 2 ≤ z ∧ z ≤ 40 ∧ Same H H1 ∧ σ1 = [some (.ref l), some (.int (z : Int)), none, none, none, none, none], ?_, ?_⟩
    · walk_at "s"
      refine ifD (fun c1 => ?_) (fun c1 => ?_)
      · walk_at "s"
        exact ⟨(11 + cel ns 0 / 54 % 14).toNat, by omega, by omega, Same.refl _, by rw [Int.toNat_of_nonneg (by omega)]; rfl⟩
      · exact ⟨(2 + cel ns 0 % 9).toNat, by omega, by omega, Same.refl _, by rw [Int.toNat_of_nonneg (by omega)]; rfl⟩
    · rintro σ1 H1 ⟨z, hz0, hz1, s1, rfl⟩
      have hs1 := s1.seq hs
      walk_at "s"
      refine ⟨_, z, rfl, by omega, fun nl H2 hnl s2 hn => ?_⟩
      have s12 := Same.trans s1 s2
      have hs2 := s12.seq hs
      have hn2 : SqL K H2 nl (namesV (cel ns 1) z) := SqL.of hn
      walk_at "s"
      refine ⟨(by simp), fun p H3 hp s3 h3 => ?_⟩
      have hp0 := s12.free hp
      walk_at "s"
      refine ⟨by omega, by omega, ?_⟩
      refine for_range (fun i σ H' => ∃ (xs : List Str) (v5 v6 : Option V), σ = [some (.ref l), some (.int (z : Int)), some (.ref nl), some (.int (cel ns 2)), some (.ref p), v5, v6] ∧ Same H2 H' ∧ H' p = some (.lst (xs.map V.str)) ∧ xs.length = i ∧ (∀ j, j < i → ∃ m, m ≤ j ∧ xat xs j = nameOf (cel ns 1) m) ∧ ∀ j, j + 1 < i → xat xs j ≠ xat xs (j + 1))
        ⟨[], none, none, rfl, s3, h3, rfl, fun j hj => by omega, fun j hj => by omega⟩ ?_ ?_
      · rintro i σ H4 hi ⟨xs, v5, v6, rfl, s4, h4, hl, hnm, hne⟩
        have hn4 := s4.seq hn2
        have hp4 : SqL K H4 p (xs.map V.str) := SqL.of h4
        walk_at "s"
        -- the place's number, twice looked at
        refine ⟨fun σ' H' => ∃ m : Nat, m ≤ i ∧ H' = H4 ∧ σ' = [some (.ref l), some (.int (z : Int)), some (.ref nl), some (.int (cel ns 2)), some (.ref p), some (.int (0 + (i : Int))), some (.int (m : Int))], ?_, ?_⟩
        · have stay : ∃ m : Nat, m ≤ i ∧ H4 = H4 ∧ ([some (V.ref l), some (.int (z : Int)), some (.ref nl), some (.int (cel ns 2)), some (.ref p), some (.int (0 + (i : Int))), some (.int (0 + (i : Int)))] : L2.St) = [some (.ref l), some (.int (z : Int)), some (.ref nl), some (.int (cel ns 2)), some (.ref p), some (.int (0 + (i : Int))), some (.int (m : Int))] := ⟨i, Nat.le_refl _, rfl, by rw [Int.zero_add]⟩
          walk_at "s"
          refine ifD (fun c1 => ?_) (fun c1 => stay)
          walk_at "s"
          refine ⟨⟨by omega, by omega⟩, ?_⟩
          walk_at "s"
          refine ⟨mulSmall (by decide) (by decide), ?_⟩
          walk_at "s"
          refine ifD (fun c2 => ?_) (fun c2 => stay)
          walk_at "s"
          refine ifD (fun c3 => ?_) (fun c3 => stay)
          walk_at "s"
          have m0 := Int.emod_nonneg (cel ns 2 + (0 + (i : Int))) (show (0 + (i : Int) - 1) ≠ 0 by omega)
          have m1 := Int.emod_lt_of_pos (cel ns 2 + (0 + (i : Int))) (show (0 : Int) < 0 + (i : Int) - 1 by omega)
          refine ⟨by omega, ?_⟩
          exact ⟨((cel ns 2 + (0 + (i : Int))) % (0 + (i : Int) - 1)).toNat, by omega, rfl, by rw [Int.toNat_of_nonneg m0]; rfl⟩
        · rintro σ' H5' ⟨m, hm, rfl, rfl⟩
          have add : ∀ m' : Nat, m' ≤ i → (i ≠ 0 → xat xs (i - 1) ≠ nameOf (cel ns 1) m') → ∀ v6 H5, SameB p H5' H5 → H5 p = some (.lst (xs.map V.str ++ [.str (nameOf (cel ns 1) m')])) →
              ∃ (xs : List Str) (v5 v6' : Option V), ([some (.ref l), some (.int (z : Int)), some (.ref nl), some (.int (cel ns 2)), some (.ref p), some (.int (0 + (i : Int))), v6] : L2.St) = [some (.ref l), some (.int (z : Int)), some (.ref nl), some (.int (cel ns 2)), some (.ref p), v5, v6'] ∧ Same H2 H5 ∧ H5 p = some (.lst (xs.map V.str)) ∧ xs.length = i + 1 ∧ (∀ j, j < i + 1 → ∃ m, m ≤ j ∧ xat xs j = nameOf (cel ns 1) m) ∧ ∀ j, j + 1 < i + 1 → xat xs j ≠ xat xs (j + 1) := fun m' hm' hd v6 H5 s5 h5 => by
            have old : ∀ j, j < i → xat (xs ++ [nameOf (cel ns 1) m']) j = xat xs j := fun j hj => xat_of (by rw [List.getElem?_append_left (by omega)]; exact xat_get (by omega))
            have new : xat (xs ++ [nameOf (cel ns 1) m']) i = nameOf (cel ns 1) m' := xat_of (by rw [List.getElem?_append_right (by omega), hl, Nat.sub_self]; rfl)
            refine ⟨xs ++ [nameOf (cel ns 1) m'], _, _, rfl, same_mutB s4 hp s5, by rw [h5]; simp, by rw [List.length_append, hl]; rfl, fun j hj => ?_, fun j hj => ?_⟩
            · by_cases e : j = i
              · rw [e, new]; exact ⟨m', hm', rfl⟩
              · rw [old j (by omega)]; exact hnm j (by omega)
            · by_cases e : j + 1 = i
              · rw [e, new, old j (by omega), show j = i - 1 by omega]
                exact hd (by omega)
              · rw [old j (by omega), old (j + 1) (by omega)]
                exact hne j (by omega)
          walk_at "s"
          refine ⟨fun σ' H' => ∃ m : Nat, m ≤ i ∧ H' = H5' ∧ (i ≠ 0 → xat xs (i - 1) ≠ nameOf (cel ns 1) m) ∧ σ' = [some (.ref l), some (.int (z : Int)), some (.ref nl), some (.int (cel ns 2)), some (.ref p), some (.int (0 + (i : Int))), some (.int (m : Int))], ?_, ?_⟩
          · walk_at "s"
            refine ifD (fun c1 => ?_) (fun c1 => ⟨m, hm, rfl, fun z => by omega, rfl⟩)
            walk_at "s"
            refine ⟨_, _, _, _, rfl, rfl, hn4, namesV_at (by omega) (by omega), ?_⟩
            walk_at "s"
            refine ⟨_, _, _, _, rfl, rfl, hp4, xat_at (i := i - 1) (by omega) (by omega), ?_⟩
            walk_at "s"
            refine ifD (fun c2 => ?_) (fun c2 => ?_)
            · walk_at "s"
              refine ⟨i, Nat.le_refl _, rfl, fun _ e => ?_, by rw [Int.zero_add]; rfl⟩
              obtain ⟨m', hm', e2⟩ := hnm (i - 1) (by omega)
              rw [e2] at e
              have := name_inj (by omega) (by omega) e
              omega
            · exact ⟨m, hm, rfl, fun _ e => c2 (by rw [e]; rfl), rfl⟩
          · rintro σ' H6 ⟨m, hm, rfl, hd, rfl⟩
            walk_at "s"
            refine ⟨.inl ⟨rfl, _, hp4⟩, ?_⟩
            walk_at "s"
            refine ⟨_, _, _, _, rfl, rfl, hn4, namesV_at (by omega) (by omega), ?_⟩
            exact ⟨_, _, _, rfl, rfl, h4, by rw [List.length_map]; omega, fun H5 s5 h5 => add m hm hd _ H5 s5 h5⟩
      · rintro σ H4 ⟨xs, v5, v6, rfl, s4, h4, hl, hnm, hne⟩
        walk_at "s"
        refine q p H4 xs hp0 (Same.trans s12 s4) h4 ⟨by omega, by omega, fun x hx => ?_, fun i hi => hne i (by omega)⟩
        obtain ⟨j, hj⟩ := List.getElem?_of_mem hx
        have hjl := (List.getElem?_eq_some_iff.mp hj).1
        obtain ⟨m, hm, e⟩ := hnm j (by omega)
        rw [← xat_of hj, e]
        exact name_isP (by omega)
end
end Fb

namespace Fb
open PySem PySem.Spec PyProof.Rows L2
local macro_rules | `(tactic| walk_at "s") => `(tactic| repeat (first | refine ⟨_, rfl, ?_⟩ | refine ⟨_, _, rfl, rfl, ?_⟩ | refine ⟨_, _, rfl, Or.inl (by assumption), ?_⟩ | refine ⟨rfl, ?_⟩ | refine ⟨(by decide : (0 : Int) < _), ?_⟩ | refine ⟨⟨by decide, by decide⟩, ?_⟩ | refine ⟨_, _, _, rfl, (by assumption), (by first | decide | omega), ?_⟩))
/-! ### the law's rows -/
def spLRows (K : PySem.W.Frag) : Sp := fun vs H Q _ => ∃ (l r : Addr) (ns : List Int) (xs : List Str), vs = [.ref l, .ref r] ∧ SqL K H l (ns.map V.int) ∧ SqL K H r (xs.map V.str) ∧ GoodJ xs ∧
  ∀ (p : Addr) (H' : Hp) (ts : List Addr) (rs : List Row), H p = none → Same H H' → H' p = some (.lst (ts.map V.ref)) → Paired (IsRow H') ts rs → GoodRows rs → rs.length ≤ 160 → Q (.ref p) H'
abbrev s__law_rows : Stmt := topS 44
abbrev N__law_rows : List Str := ["_law_script", "_law_row", "_law_base", "_law_spread", "_law_scale", "_law_rows_here", "_law_told", "_law_k", "_law_reach", "_law_j", "_law_mixed", "_law_price", "_law_near"]
theorem sc__law_rows : FnScope N__law_rows ["_law_script", "_law_row"] (defScope s__law_rows) := ⟨rfl, rfl, rfl, by decide +kernel, rfl, by decide +kernel, by decide +kernel⟩
section
variable {Pg : Program} {w : World} {K : PySem.W.Frag} {mg : Str → Option Value} {base : Heap} {a : Ads}
theorem ok_lrows {f : Addr} {fd : FuncData} (F : Fun K "_law_rows" "_law_rows" s__law_rows f fd) (T : Txt K mg a) (D_cell_at : Dn Pg w K mg base 1 "_law_cell_at" ["_law_script", "_law_k"] (spCell K)) : FnOk Pg w K mg base (L2N.CX Pg w) 2 f fd ["_law_script", "_law_row"] (spLRows K) := by
  refine F.okN sc__law_rows (fun vs H Q E h => ?_) (fun cdv A outer s H vs Q E hr h => ?_)
  · obtain ⟨_, _, _, _, rfl, _⟩ := h
    rfl
  · obtain ⟨l, r, ns, xs, rfl, hs, hj, hg, q⟩ := h
    have hu := hu_of hr
    have h40 := hg.hi
    have PO : PassesOwn (model Pg w) (A.deeper (envOfC "_law_rows" (defScope s__law_rows) s.heap.objs.size f cdv)) (envOfC "_law_rows" (defScope s__law_rows) s.heap.objs.size f cdv) (cxOf (L2N.CX Pg w) Pg w K mg base N__law_rows "_law_rows" (defScope s__law_rows) f cdv A outer s H E).xe := passes_of rfl
    refine ⟨_, (pss_cons (ps_set (i := 2) sc__law_rows.nd rfl (by first | exact Or.inl rfl | exact Or.inr rfl) (pe_op op_mod (pe_fnS D_cell_at (hr.mono (by decide)) passC (pa_cons (pv 0) (pa_cons pe_int pa_nil))) (pe_ix ix_list (pe_lstN (pa_cons pe_int (pa_cons pe_int pa_nil))) (pe_op op_mod (pe_op op_fdiv (pe_fnS D_cell_at (hr.mono (by decide)) passC (pa_cons (pv 0) (pa_cons pe_int pa_nil))) pe_int) pe_int) (fun _ _ => rfl))))
      (pss_cons (ps_set (i := 3) sc__law_rows.nd rfl (by first | exact Or.inl rfl | exact Or.inr rfl) (pe_op op_add pe_int (pe_op op_mod (pe_fnS D_cell_at (hr.mono (by decide)) passC (pa_cons (pv 0) (pa_cons pe_int pa_nil))) (pe_ix ix_list (pe_lstN (pa_cons pe_int (pa_cons pe_int (pa_cons pe_int pa_nil)))) (pe_op op_mod (pe_op op_fdiv (pe_fnS D_cell_at (hr.mono (by decide)) passC (pa_cons (pv 0) (pa_cons pe_int pa_nil))) pe_int) pe_int) (fun _ _ => rfl)))))
      (pss_cons (ps_set (i := 4) sc__law_rows.nd rfl (by first | exact Or.inl rfl | exact Or.inr rfl) pe_int)
      (C8.pss_cut (ps_if (pt_cmpR op_eq (pe_op op_mod (pe_op op_fdiv (pe_fnS D_cell_at (hr.mono (by decide)) passC (pa_cons (pv 0) (pa_cons pe_int pa_nil))) pe_int) pe_int) pe_int (nomark _)) (pss_one (ps_set (i := 4) sc__law_rows.nd rfl (by first | exact Or.inl rfl | exact Or.inr rfl) (pe_op op_add pe_int (pe_op op_mod (pe_op op_fdiv (pe_fnS D_cell_at (hr.mono (by decide)) passC (pa_cons (pv 0) (pa_cons pe_int pa_nil))) pe_int) pe_int)))) pss_nil)
      (pss_cons (ps_set (i := 5) sc__law_rows.nd rfl (by first | exact Or.inl rfl | exact Or.inr rfl) (pe_lstN pa_nil))
      (pss_cons (ps_set (i := 6) sc__law_rows.nd rfl (by first | exact Or.inl rfl | exact Or.inr rfl) pe_dnewTN)
      (pss_cons (ps_for PO rfl (pi_range1 (by rfl) T.n_range (pa_cons (pe_callB call_len_seq (by rfl) T.n_len (by decide +kernel) (pa_cons (pv 1) pa_nil)) pa_nil)) (pg_name (i := 7) sc__law_rows.nd rfl (by first | exact Or.inl rfl | exact Or.inr rfl))
        (pss_cons (ps_set (i := 8) sc__law_rows.nd rfl (by first | exact Or.inl rfl | exact Or.inr rfl) pe_int)
          (C8.pss_cut (ps_if (PW.pt (pw_or (pt_cmpR op_lt (pe_callB call_len_seq (by rfl) T.n_len (by decide +kernel) (pa_cons (pv 1) pa_nil)) pe_int (nomark _)) (pw_or1 (pt_cmpR op_eq (pe_op op_mod (pv 7) pe_int) (pe_op op_mod (pv 2) pe_int) (nomark _))))) (pss_one (ps_set (i := 8) sc__law_rows.nd rfl (by first | exact Or.inl rfl | exact Or.inr rfl) pe_int)) pss_nil)
          (pss_one (ps_for PO rfl (pi_range2 (by rfl) T.n_range (pa_cons (pe_op op_add (pv 7) pe_int) (pa_cons (pe_callB (call_min2 rfl) (by rfl) T.n_min (by decide +kernel) (pa_cons (pe_callB call_len_seq (by rfl) T.n_len (by decide +kernel) (pa_cons (pv 1) pa_nil)) (pa_cons (pe_op op_add (pe_op op_add (pv 7) (pv 8)) pe_int) pa_nil))) pa_nil))) (pg_name (i := 9) sc__law_rows.nd rfl (by first | exact Or.inl rfl | exact Or.inr rfl))
            (pss_cons (ps_set (i := 10) sc__law_rows.nd rfl (by first | exact Or.inl rfl | exact Or.inr rfl) (pe_op op_mod (pe_op op_add (pe_op op_add (pe_op op_mul (pe_fnS D_cell_at (hr.mono (by decide)) passC (pa_cons (pv 0) (pa_cons (pe_op op_add pe_int (pe_op op_mod (pe_op op_add (pe_op op_mul pe_int (pv 7)) (pv 9)) pe_int)) pa_nil))) pe_int) (pe_op op_mul pe_int (pv 7))) (pe_op op_mul pe_int (pv 9))) pe_int))
              (pss_cons (ps_set (i := 11) sc__law_rows.nd rfl (by first | exact Or.inl rfl | exact Or.inr rfl) (pe_op op_mul (pe_op op_add (pe_op op_mul (pv 2) (pe_op op_sub (pv 9) (pv 7))) (pe_op op_mod (pe_op op_fdiv (pv 10) pe_int) (pv 3))) (pv 4)))
              (C8.pss_cut (ps_if (pt_cmpR op_eq (pe_op op_mod (pe_op op_fdiv (pe_fnS D_cell_at (hr.mono (by decide)) passC (pa_cons (pv 0) (pa_cons pe_int pa_nil))) pe_int) pe_int) pe_int (nomark _)) (pss_one (ps_set (i := 11) sc__law_rows.nd rfl (by first | exact Or.inl rfl | exact Or.inr rfl) (pe_op op_add (pe_op op_mul (pv 10) pe_int) (pe_op op_mod (pe_op op_fdiv (pv 10) pe_int) pe_int)))) pss_nil)
              (C8.pss_cut (ps_if (pt_cmpR op_eq (pe_op op_mod (pv 10) pe_int) pe_int (nomark _)) (pss_one (ps_set (i := 11) sc__law_rows.nd rfl (by first | exact Or.inl rfl | exact Or.inr rfl) (pe_op op_sub pe_int (pe_op op_mod (pe_op op_fdiv (pv 10) pe_int) pe_int)))) pss_nil)
              (pss_cons (ps_set (i := 12) sc__law_rows.nd rfl (by first | exact Or.inl rfl | exact Or.inr rfl) (pe_mid (pe_or (pe_cmpR op_lt (pe_callB call_len_seq (by rfl) T.n_len (by decide +kernel) (pa_cons (pv 1) pa_nil)) pe_int (nomark _)) (pe_or (pe_cmpR op_lt (pv 9) (pe_op op_add (pv 7) pe_int) (nomark _)) (pe_one (pe_cmpR op_eq (pe_op op_mod (pe_op op_fdiv (pv 10) pe_int) pe_int) pe_int (nomark _)))))))
              (pss_cons (ps_set (i := 12) sc__law_rows.nd rfl (by first | exact Or.inl rfl | exact Or.inr rfl) (pe_mid (pe_and (pv 12) (pe_one (pe_cmpR op_lt (pe_callB call_len_seq (by rfl) T.n_len (by decide +kernel) (pa_cons (pv 5) pa_nil)) pe_int (nomark _))))))
              (C8.pss_cut (ps_if (PW.pt (pw_and (pt_val (pv 12)) (pw_and (pt_cmpR op_gt (pe_op op_mod (pv 10) pe_int) pe_int (nomark _)) (pw_and (pt_cmpR op_ne (pe_ix ix_list (pv 1) (pv 7) (fun _ _ => rfl)) (pe_ix ix_list (pv 1) (pv 9) (fun _ _ => rfl)) (nomark _)) (pw_and1 (pt_cmp (pc_dnotin hu (pe_tupN (pa_cons (pe_ix ix_list (pv 1) (pv 7) (fun _ _ => rfl)) (pa_cons (pe_ix ix_list (pv 1) (pv 9) (fun _ _ => rfl)) pa_nil))) (pv 6)))))))) (pss_cons (ps_dput hu (pv 6) (pe_tupN (pa_cons (pe_ix ix_list (pv 1) (pv 7) (fun _ _ => rfl)) (pa_cons (pe_ix ix_list (pv 1) (pv 9) (fun _ _ => rfl)) pa_nil))) pe_bl rfl)
                (pss_one (ps_expr (pe_bm PySem.F.plainAttrs_list PySem.F.slot_list_append PySem.F.type_list_append mt_appendN (pv 5) (pa_cons (pe_tupN (pa_cons (pe_ix ix_list (pv 1) (pv 7) (fun _ _ => rfl)) (pa_cons (pe_ix ix_list (pv 1) (pv 9) (fun _ _ => rfl)) (pa_cons (pv 11) pa_nil)))) pa_nil))))) pss_nil)
              (pss_one (ps_if (PW.pt (pw_and (pt_val (pv 12)) (pw_and (pt_cmpR op_eq (pe_op op_mod (pe_op op_fdiv (pv 10) pe_int) pe_int) pe_int (nomark _)) (pw_and (pt_cmpR op_ne (pe_ix ix_list (pv 1) (pv 7) (fun _ _ => rfl)) (pe_ix ix_list (pv 1) (pv 9) (fun _ _ => rfl)) (nomark _)) (pw_and1 (pt_cmp (pc_dnotin hu (pe_tupN (pa_cons (pe_ix ix_list (pv 1) (pv 9) (fun _ _ => rfl)) (pa_cons (pe_ix ix_list (pv 1) (pv 7) (fun _ _ => rfl)) pa_nil))) (pv 6)))))))) (pss_cons (ps_dput hu (pv 6) (pe_tupN (pa_cons (pe_ix ix_list (pv 1) (pv 9) (fun _ _ => rfl)) (pa_cons (pe_ix ix_list (pv 1) (pv 7) (fun _ _ => rfl)) pa_nil))) pe_bl rfl)
                (pss_one (ps_expr (pe_bm PySem.F.plainAttrs_list PySem.F.slot_list_append PySem.F.type_list_append mt_appendN (pv 5) (pa_cons (pe_tupN (pa_cons (pe_ix ix_list (pv 1) (pv 9) (fun _ _ => rfl)) (pa_cons (pe_ix ix_list (pv 1) (pv 7) (fun _ _ => rfl)) (pa_cons (pe_op op_mod (pe_op op_fdiv (pv 10) pe_int) pe_int) pa_nil)))) pa_nil))))) pss_nil))))))))))))))
      (pss_one (ps_ret (pv 5)))))))))), ?_⟩
    walk_at "s"
    refine ⟨(by simp), fun l1 H1 n1 s1 h1 => ?_⟩
    have hs1 := s1.seq hs
    walk_at "s"
    obtain ⟨v, hv, hvm⟩ := atI_mem (xs := [V.int 61, .int 5]) (i := cel ns 3 / 183 % 2) (by omega) (by show cel ns 3 / 183 % 2 < 2; omega)
    obtain ⟨m1, rfl, mb⟩ : ∃ m : Int, v = .int m ∧ (m = 61 ∨ m = 5) := by
      simp only [List.mem_cons, List.not_mem_nil, or_false] at hvm
      rcases hvm with rfl | rfl
      · exact ⟨_, rfl, .inl rfl⟩
      · exact ⟨_, rfl, .inr rfl⟩
    refine ⟨_, _, _, _, rfl, rfl, SqL.of h1, hv, ?_⟩
    walk_at "s"
    refine ⟨by omega, ?_⟩
    have bs0 : 0 ≤ cel ns 3 % m1 := Int.emod_nonneg _ (by omega)
    have bs1 : cel ns 3 % m1 < m1 := Int.emod_lt_of_pos _ (by omega)
    revert bs0 bs1
    dsimp only
    generalize cel ns 3 % m1 = bs
    intro bs0 bs1
    have bs2 : bs ≤ 60 := by omega
    clear bs1 mb hv hvm
    walk_at "s"
    refine ⟨(by simp), fun l2 H2 n2 s2 h2 => ?_⟩
    have s12 := Same.trans s1 s2
    have hs2 := s12.seq hs
    walk_at "s"
    obtain ⟨v, hv, hvm⟩ := atI_mem (xs := [V.int 1, .int 9, .int 90]) (i := cel ns 3 / 61 % 3) (by omega) (by show cel ns 3 / 61 % 3 < 3; omega)
    obtain ⟨m2, rfl, mb⟩ : ∃ m : Int, v = .int m ∧ (m = 1 ∨ m = 9 ∨ m = 90) := by
      simp only [List.mem_cons, List.not_mem_nil, or_false] at hvm
      rcases hvm with rfl | rfl | rfl
      · exact ⟨_, rfl, .inl rfl⟩
      · exact ⟨_, rfl, .inr (.inl rfl)⟩
      · exact ⟨_, rfl, .inr (.inr rfl)⟩
    refine ⟨_, _, _, _, rfl, rfl, SqL.of h2, hv, ?_⟩
    walk_at "s"
    refine ⟨by omega, ?_⟩
    have sp0 : 0 ≤ cel ns 4 % m2 := Int.emod_nonneg _ (by omega)
    have sp1 : cel ns 4 % m2 < m2 := Int.emod_lt_of_pos _ (by omega)
    revert sp0 sp1
    dsimp only
    generalize cel ns 4 % m2 = sq
    intro sp0 sp1
    obtain ⟨sp, esp⟩ : ∃ sp, sp = 1 + sq := ⟨_, rfl⟩
    walk_at "s"
    dsimp only
    rw [← esp]
    have sp2 : 1 ≤ sp := by omega
    have sp3 : sp ≤ 90 := by omega
    clear esp sp0 sp1 mb hv hvm
    walk_at "s"
    refine ⟨fun σ' H' => ∃ sc : Int, 1 ≤ sc ∧ sc ≤ 400000000 ∧ H' = H2 ∧ σ' = [some (.ref l), some (.ref r), some (.int bs), some (.int sp), some (.int sc), none, none, none, none, none, none, none, none], ?_, ?_⟩
    · walk_at "s"
      refine ifD (fun c1 => ?_) (fun c1 => ⟨1, by omega, by omega, rfl, rfl⟩)
      walk_at "s"
      exact ⟨_, by omega, by omega, rfl, rfl⟩
    rintro σ1 H2' ⟨sc, sc0, sc1, rfl, rfl⟩
    walk_at "s"
    refine ⟨(by simp), fun p H3 hp s3 h3 => ?_⟩
    walk_at "s"
    intro td H4 htd s4 h4
    have hp0 : H p = none := s12.free hp
    have htd0 : H td = none := (Same.trans s12 s3).free htd
    have npt : p ≠ td := ne_of_none h3 htd
    have s04 := Same.trans s12 (Same.trans s3 s4)
    have hj4 := s04.seq hj
    walk_at "s"
    rw [List.length_map]
    refine ⟨by omega, by omega, ?_⟩
    refine for_range (fun k σ H' => ∃ (ts : List Addr) (rs : List Row) (u7 u8 u9 u10 u11 u12 : Option V), σ = [some (.ref l), some (.ref r), some (.int bs), some (.int sp), some (.int sc), some (.ref p), some (.ref td), u7, u8, u9, u10, u11, u12] ∧ Same H H' ∧ H' p = some (.lst (ts.map V.ref)) ∧ H' td = some (.dT (toldK rs)) ∧ Paired (IsRow H') ts rs ∧ GoodRows rs ∧ rs.length ≤ 160)
      ⟨[], [], _, _, _, _, _, _, rfl, s04, s4 _ _ h3, h4, .nil, ⟨(fun r hr => by cases hr), List.nodup_nil⟩, by simp⟩ ?_ ?_
    · rintro k σ H5 hk ⟨ts, rs, u7, u8, u9, u10, u11, u12, rfl, s5, h5, t5, hpr, hgr, hlr⟩
      have hkx : k < xs.length := by omega
      have hs5 := s5.seq hs
      have hj5 := s5.seq hj
      walk_at "s"
      refine ⟨fun σ' H' => ∃ rc : Int, 0 ≤ rc ∧ rc ≤ 40 ∧ H' = H5 ∧ σ' = [some (.ref l), some (.ref r), some (.int bs), some (.int sp), some (.int sc), some (.ref p), some (.ref td), some (.int (0 + (k : Int))), some (.int rc), u9, u10, u11, u12], ?_, ?_⟩
      · walk_at "s"
        rw [List.length_map]
        refine ifD (fun c1 => ?_) (fun c1 => ?_)
        · walk_at "s"
          exact ⟨40, by omega, by omega, rfl, rfl⟩
        · walk_at "s"
          refine ifD (fun c2 => ?_) (fun c2 => ⟨3, by omega, by omega, rfl, rfl⟩)
          walk_at "s"
          exact ⟨40, by omega, by omega, rfl, rfl⟩
      rintro σ2 H5' ⟨rc, rc0, rc1, rfl, rfl⟩
      walk_at "s"
      obtain ⟨hi, ehi, hi0⟩ : ∃ hi : Int, hi = (if 0 + (k : Int) + rc + 1 < (((xs.map V.str).length : Nat) : Int) then 0 + (k : Int) + rc + 1 else (((xs.map V.str).length : Nat) : Int)) ∧ hi ≤ xs.length := by
        refine ⟨_, rfl, ?_⟩
        rw [List.length_map]
        split <;> omega
      have hi1 : 0 ≤ hi := by rw [ehi]; split <;> omega
      refine ⟨_, _, rfl, ?_⟩
      rw [← ehi]
      refine ⟨_, _, rfl, ⟨by omega, by omega, by omega, by omega⟩, ?_⟩
      refine for_range (fun m σ H' => ∃ (ts : List Addr) (rs : List Row) (u9 u10 u11 u12 : Option V), σ = [some (.ref l), some (.ref r), some (.int bs), some (.int sp), some (.int sc), some (.ref p), some (.ref td), some (.int (0 + (k : Int))), some (.int rc), u9, u10, u11, u12] ∧ Same H H' ∧ H' p = some (.lst (ts.map V.ref)) ∧ H' td = some (.dT (toldK rs)) ∧ Paired (IsRow H') ts rs ∧ GoodRows rs ∧ rs.length ≤ 160)
        ⟨ts, rs, _, _, _, _, rfl, s5, h5, t5, hpr, hgr, hlr⟩ ?_ ?_
      · clear h5 t5 hpr hgr hlr hs5 hj5 s5
        rintro m σ H6 hm ⟨ts, rs, u9, u10, u11, u12, rfl, s6, h6, t6, hpr, hgr, hlr⟩
        obtain ⟨jn, ejn, hjn⟩ : ∃ jn : Nat, 0 + (k : Int) + 1 + (m : Int) = (jn : Int) ∧ jn = k + 1 + m := ⟨k + 1 + m, by omega, rfl⟩
        have hjx : jn < xs.length := by omega
        rw [ejn]
        have hs6 := s6.seq hs
        have hj6 := s6.seq hj
        walk_at "s"
        refine ⟨mulSmall (by decide) (by decide), ?_⟩
        walk_at "s"
        refine ⟨mulSmall2 (by decide) (by decide), ?_⟩
        walk_at "s"
        refine ⟨mulSmall (by decide) (by decide), ?_⟩
        walk_at "s"
        refine ⟨mulSmall (by decide) (by decide), ?_⟩
        walk_at "s"
        dsimp only
        obtain ⟨mx, emx⟩ : ∃ mx, mx = (cel ns (5 + (11 * (0 + (k : Int)) + (jn : Int)) % 58) * 48271 + 7919 * (0 + (k : Int)) + 104729 * (jn : Int)) % 2147483647 := ⟨_, rfl⟩
        rw [← emx]
        have mx0 : 0 ≤ mx := by rw [emx]; exact Int.emod_nonneg _ (by decide)
        have mx1 : mx < 2147483647 := by rw [emx]; exact Int.emod_lt_of_pos _ (by decide)
        clear emx
        refine ⟨mulSmall (by omega) (by omega), ?_⟩
        walk_at "s"
        refine ⟨by omega, ?_⟩
        walk_at "s"
        refine ⟨mulSmall2 (by omega) (by omega), ?_⟩
        have pc1 : isC (.int ((bs * ((jn : Int) - (0 + (k : Int))) + mx / 7 % sp) * sc)) = true := by
          have a1 : 0 ≤ bs * ((jn : Int) - (0 + (k : Int))) := Int.mul_nonneg bs0 (by omega)
          have a2 : bs * ((jn : Int) - (0 + (k : Int))) ≤ 60 * 39 := Int.mul_le_mul bs2 (by omega) (by omega) (by omega)
          have a3 : 0 ≤ mx / 7 % sp := Int.emod_nonneg _ (by omega)
          have a4 : mx / 7 % sp < sp := Int.emod_lt_of_pos _ (by omega)
          have a5 : (bs * ((jn : Int) - (0 + (k : Int))) + mx / 7 % sp) * sc ≤ 2429 * 400000000 := Int.mul_le_mul (by omega) sc1 (by omega) (by omega)
          exact isC_of (Int.mul_nonneg (by omega) (by omega)) (by omega)
        revert pc1
        dsimp only
        generalize (bs * ((jn : Int) - (0 + (k : Int))) + mx / 7 % sp) * sc = pr1
        intro pc1
        walk_at "s"
        refine ⟨fun σ' H' => ∃ pr : Int, isC (.int pr) = true ∧ H' = H6 ∧ σ' = [some (.ref l), some (.ref r), some (.int bs), some (.int sp), some (.int sc), some (.ref p), some (.ref td), some (.int (0 + (k : Int))), some (.int rc), some (.int (jn : Int)), some (.int mx), some (.int pr), u12], ?_, ?_⟩
        · walk_at "s"
          refine ifD (fun c1 => ?_) (fun c1 => ⟨pr1, pc1, rfl, rfl⟩)
          walk_at "s"
          refine ⟨mulSmall2 (by decide) (by decide), ?_⟩
          walk_at "s"
          exact ⟨_, isC_of (by omega) (by omega), rfl, rfl⟩
        clear pc1 pr1
        rintro σ3 H6a ⟨pr1, pc1, rfl, rfl⟩
        walk_at "s"
        refine ⟨fun σ' H' => ∃ pr : Int, isC (.int pr) = true ∧ H' = H6a ∧ σ' = [some (.ref l), some (.ref r), some (.int bs), some (.int sp), some (.int sc), some (.ref p), some (.ref td), some (.int (0 + (k : Int))), some (.int rc), some (.int (jn : Int)), some (.int mx), some (.int pr), u12], ?_, ?_⟩
        · walk_at "s"
          refine ifD (fun c1 => ?_) (fun c1 => ⟨pr1, pc1, rfl, rfl⟩)
          walk_at "s"
          exact ⟨_, isC_of (by omega) (by omega), rfl, rfl⟩
        clear pc1 pr1
        rintro σ4 H6b ⟨pr, pc, rfl, rfl⟩
        have hp6 : SqL K H6b p (ts.map V.ref) := SqL.of h6
        have lts := Paired.length hpr
        walk_at "s"
        refine ⟨fun v H' => ∃ b, v = .bl b ∧ H' = H6b, ?_, ?_⟩
        · walk_at "s"
          rw [List.length_map]
          refine ifB (fun c1 => ⟨_, rfl, rfl⟩) (fun c1 => ?_)
          walk_at "s"
          refine ifB (fun c2 => ⟨_, rfl, rfl⟩) (fun c2 => ?_)
          walk_at "s"
          rfl
        rintro v H6c ⟨nr1, rfl, rfl⟩
        walk_at "s"
        refine ⟨fun v H' => ∃ b, v = .bl b ∧ H' = H6c ∧ (b = true → rs.length < 159), ?_, ?_⟩
        · walk_at "s"
          refine ifB (fun c1 => ?_) (fun c1 => ⟨false, rfl, rfl, fun z => by cases z⟩)
          walk_at "s"
          intro z
          rw [List.length_map] at z
          have := of_decide_eq_true z
          omega
        rintro v H6d ⟨nr, rfl, rfl, hnr⟩
        have e1 := xat_get hkx
        have e2 := xat_get hjx
        have p1 : isP (.str (xat xs k)) = true := hg.pl _ (List.mem_of_getElem? e1)
        have p2 : isP (.str (xat xs jn)) = true := hg.pl _ (List.mem_of_getElem? e2)
        have at1 : atI (xs.map V.str) (0 + (k : Int)) = some (.str (xat xs k)) := xat_at hkx (by omega)
        have at2 : atI (xs.map V.str) (jn : Int) = some (.str (xat xs jn)) := xat_at hjx rfl
        revert p1 p2 at1 at2
        clear e1 e2
        generalize xat xs k = z1
        generalize xat xs jn = z2
        intro p1 p2 at1 at2
        walk_at "s"
        refine ⟨fun σ' H' => ∃ (ts : List Addr) (rs : List Row), σ' = [some (.ref l), some (.ref r), some (.int bs), some (.int sp), some (.int sc), some (.ref p), some (.ref td), some (.int (0 + (k : Int))), some (.int rc), some (.int (jn : Int)), some (.int mx), some (.int pr), some (.bl nr)] ∧ Same H H' ∧ H' p = some (.lst (ts.map V.ref)) ∧ H' td = some (.dT (toldK rs)) ∧ Paired (IsRow H') ts rs ∧ GoodRows rs ∧ rs.length ≤ 160 ∧ (nr = true → rs.length < 160), ?_, ?_⟩
        · have stay : ∀ H7, Same H6d H7 → ∃ (ts : List Addr) (rs : List Row), ([some (.ref l), some (.ref r), some (.int bs), some (.int sp), some (.int sc), some (.ref p), some (.ref td), some (.int (0 + (k : Int))), some (.int rc), some (.int (jn : Int)), some (.int mx), some (.int pr), some (.bl nr)] : L2.St) = [some (.ref l), some (.ref r), some (.int bs), some (.int sp), some (.int sc), some (.ref p), some (.ref td), some (.int (0 + (k : Int))), some (.int rc), some (.int (jn : Int)), some (.int mx), some (.int pr), some (.bl nr)] ∧ Same H H7 ∧ H7 p = some (.lst (ts.map V.ref)) ∧ H7 td = some (.dT (toldK rs)) ∧ Paired (IsRow H7) ts rs ∧ GoodRows rs ∧ rs.length ≤ 160 ∧ (nr = true → rs.length < 160) := fun H7 s7 => ⟨ts, rs, rfl, Same.trans s6 s7, s7 _ _ h6, s7 _ _ t6, rows_same s7 hpr, hgr, hlr, fun z => by have := hnr z; omega⟩
          walk_at "s"
          refine ifB (fun c1 => ?_) (fun c1 => stay _ (Same.refl _))
          walk_at "s"
          refine ifD (fun c2 => ?_) (fun c2 => stay _ (Same.refl _))
          walk_at "s"
          refine ⟨_, _, _, _, rfl, rfl, hj6, at1, ?_⟩
          walk_at "s"
          refine ⟨_, _, _, _, rfl, rfl, hj6, at2, ?_⟩
          walk_at "s"
          refine ifND (fun c3 => ?_) (fun c3 => stay _ (Same.refl _))
          walk_at "s"
          refine ⟨_, _, _, _, rfl, rfl, hj6, at1, ?_⟩
          walk_at "s"
          refine ⟨_, _, _, _, rfl, rfl, hj6, at2, ?_⟩
          refine ⟨(by simp), fun t1 H7 nt1 s7 h7 => ?_⟩
          have t7 := s7 _ _ t6
          walk_at "s"
          refine ⟨td, _, rfl, DGet.t (k := wayK z1 z2) t7 h7, ?_⟩
          walk_at "s"
          rw [told_has]
          have hj6x := hj6
          refine ifND (fun c4 => ?_) (fun c4 => stay _ s7)
          have hj7 := s7.seq hj6x
          walk_at "s"
          refine ⟨_, _, _, _, rfl, rfl, hj7, at1, ?_⟩
          walk_at "s"
          refine ⟨_, _, _, _, rfl, rfl, hj7, at2, ?_⟩
          refine ⟨(by simp), fun t2 H8 nt2 s8 h8 => ?_⟩
          have t8 := s8 _ _ t7
          refine dput_go (k := wayK z1 z2) t8 h8 (by unfold toldK; rw [List.length_map]; omega) fun H9 s9 h9 => ?_
          have s09 : Same H H9 := same_mutB (Same.trans s6 (Same.trans s7 s8)) htd0 s9
          have hp9 := s9 _ _ npt (s8 _ _ (s7 _ _ h6))
          have hpr9 : Paired (IsRow H9) ts rs := Paired.mapP (rows_same (Same.trans s7 s8) hpr) fun _ _ e => s9 _ _ (ne_of e t8 (by intro z; cases z)) e
          rw [told_new (n := pr) c4] at h9
          have hj9 := s09.seq hj
          walk_at "s"
          refine ⟨.inl ⟨rfl, _, SqL.of hp9⟩, ?_⟩
          walk_at "s"
          refine ⟨_, _, _, _, rfl, rfl, hj9, at1, ?_⟩
          walk_at "s"
          refine ⟨_, _, _, _, rfl, rfl, hj9, at2, ?_⟩
          walk_at "s"
          refine ⟨(by simp), fun t3 H10 nt3 s10 h10 => ?_⟩
          have hp10 := s10 _ _ hp9
          have lts2 := Paired.length hpr9
          refine ⟨_, _, _, rfl, rfl, hp10, by rw [List.length_map]; omega, fun H11 s11 h11 => ?_⟩
          have gr : GoodRow (z1, z2, pr) := ⟨p1, p2, fun e => c3 (congrArg V.str e), pc⟩
          refine ⟨ts ++ [t3], rs ++ [(z1, z2, pr)], rfl, same_mutB (Same.trans s09 s10) hp0 s11, by rw [h11]; simp, s11 _ _ npt.symm (s10 _ _ h9), Paired.snoc (keep_rows s11 hp10 (rows_same s10 hpr9)) (s11 _ _ (ne_lt hp10 h10) h10), good_snoc hgr gr c4, by rw [List.length_append]; have := hnr c1; show _ + 1 ≤ _; omega, fun _ => by rw [List.length_append]; have := hnr c1; show _ + 1 < _; omega⟩
        · clear h6 t6 hpr hgr hlr hnr hp6 lts hs6 hj6 s6
          rintro σ5 H12 ⟨ts, rs, rfl, s12x, h6, t6, hpr, hgr, hlr, hnr⟩
          have hj6 := s12x.seq hj
          have stay2 : ∀ H7, Same H12 H7 → ∃ (ts : List Addr) (rs : List Row) (u9 u10 u11 u12 : Option V), ([some (.ref l), some (.ref r), some (.int bs), some (.int sp), some (.int sc), some (.ref p), some (.ref td), some (.int (0 + (k : Int))), some (.int rc), some (.int (jn : Int)), some (.int mx), some (.int pr), some (.bl nr)] : L2.St) = [some (.ref l), some (.ref r), some (.int bs), some (.int sp), some (.int sc), some (.ref p), some (.ref td), some (.int (0 + (k : Int))), some (.int rc), u9, u10, u11, u12] ∧ Same H H7 ∧ H7 p = some (.lst (ts.map V.ref)) ∧ H7 td = some (.dT (toldK rs)) ∧ Paired (IsRow H7) ts rs ∧ GoodRows rs ∧ rs.length ≤ 160 := fun H7 s7 => ⟨ts, rs, _, _, _, _, rfl, Same.trans s12x s7, s7 _ _ h6, s7 _ _ t6, rows_same s7 hpr, hgr, hlr⟩
          walk_at "s"
          refine ifB (fun c1 => ?_) (fun c1 => stay2 _ (Same.refl _))
          walk_at "s"
          refine ifD (fun c2 => ?_) (fun c2 => stay2 _ (Same.refl _))
          walk_at "s"
          refine ⟨_, _, _, _, rfl, rfl, hj6, at1, ?_⟩
          walk_at "s"
          refine ⟨_, _, _, _, rfl, rfl, hj6, at2, ?_⟩
          walk_at "s"
          refine ifND (fun c3 => ?_) (fun c3 => stay2 _ (Same.refl _))
          walk_at "s"
          refine ⟨_, _, _, _, rfl, rfl, hj6, at2, ?_⟩
          walk_at "s"
          refine ⟨_, _, _, _, rfl, rfl, hj6, at1, ?_⟩
          refine ⟨(by simp), fun t1 H7 nt1 s7 h7 => ?_⟩
          have t7 := s7 _ _ t6
          walk_at "s"
          refine ⟨td, _, rfl, DGet.t (k := wayK z2 z1) t7 h7, ?_⟩
          walk_at "s"
          rw [told_has]
          have hj6x := hj6
          refine ifND (fun c4 => ?_) (fun c4 => stay2 _ s7)
          have hj7 := s7.seq hj6x
          walk_at "s"
          refine ⟨_, _, _, _, rfl, rfl, hj7, at2, ?_⟩
          walk_at "s"
          refine ⟨_, _, _, _, rfl, rfl, hj7, at1, ?_⟩
          refine ⟨(by simp), fun t2 H8 nt2 s8 h8 => ?_⟩
          have t8 := s8 _ _ t7
          refine dput_go (k := wayK z2 z1) t8 h8 (by unfold toldK; rw [List.length_map]; omega) fun H9 s9 h9 => ?_
          have s09 : Same H H9 := same_mutB (Same.trans s12x (Same.trans s7 s8)) htd0 s9
          have hp9 := s9 _ _ npt (s8 _ _ (s7 _ _ h6))
          have hpr9 : Paired (IsRow H9) ts rs := Paired.mapP (rows_same (Same.trans s7 s8) hpr) fun _ _ e => s9 _ _ (ne_of e t8 (by intro z; cases z)) e
          rw [told_new (n := (mx / 35 % 1000)) c4] at h9
          have hj9 := s09.seq hj
          walk_at "s"
          refine ⟨.inl ⟨rfl, _, SqL.of hp9⟩, ?_⟩
          walk_at "s"
          refine ⟨_, _, _, _, rfl, rfl, hj9, at2, ?_⟩
          walk_at "s"
          refine ⟨_, _, _, _, rfl, rfl, hj9, at1, ?_⟩
          walk_at "s"
          refine ⟨(by simp), fun t3 H10 nt3 s10 h10 => ?_⟩
          have hp10 := s10 _ _ hp9
          have lts2 := Paired.length hpr9
          refine ⟨_, _, _, rfl, rfl, hp10, by rw [List.length_map]; omega, fun H11 s11 h11 => ?_⟩
          have gr : GoodRow (z2, z1, (mx / 35 % 1000)) := ⟨p2, p1, fun e => c3 (congrArg V.str e.symm), (show isC (.int (mx / 35 % 1000)) = true from isC_of (by omega) (by omega))⟩
          refine ⟨ts ++ [t3], rs ++ [(z2, z1, (mx / 35 % 1000))], _, _, _, _, rfl, same_mutB (Same.trans s09 s10) hp0 s11, by rw [h11]; simp, s11 _ _ npt.symm (s10 _ _ h9), Paired.snoc (keep_rows s11 hp10 (rows_same s10 hpr9)) (s11 _ _ (ne_lt hp10 h10) h10), good_snoc hgr gr c4, by rw [List.length_append]; have := hnr c1; show _ + 1 ≤ _; omega⟩
      · rintro σ H6 ⟨ts, rs, u9, u10, u11, u12, rfl, s6, h6, t6, hpr, hgr, hlr⟩
        exact ⟨ts, rs, _, _, _, _, _, _, rfl, s6, h6, t6, hpr, hgr, hlr⟩
    · rintro σ H5 ⟨ts, rs, u7, u8, u9, u10, u11, u12, rfl, s5, h5, t5, hpr, hgr, hlr⟩
      walk_at "s"
      exact q p H5 ts rs hp0 s5 h5 hpr hgr hlr
end
end Fb

namespace Fb
open PySem PySem.Spec PyProof.Rows L2
local macro_rules | `(tactic| walk_at "s") => `(tactic| repeat (first | refine ⟨_, rfl, ?_⟩ | refine ⟨_, _, rfl, rfl, ?_⟩ | refine ⟨_, _, rfl, Or.inl (by assumption), ?_⟩ | refine ⟨rfl, ?_⟩ | refine ⟨(by decide : (0 : Int) < _), ?_⟩ | refine ⟨⟨by decide, by decide⟩, ?_⟩ | refine ⟨_, _, _, rfl, (by assumption), (by first | decide | omega), ?_⟩))
/-! ### the law's table -/
def spTable (K : PySem.W.Frag) : Sp := fun vs H Q _ => ∃ (r : Addr) (ts : List Addr) (rs : List Row), vs = [.ref r] ∧ SqL K H r (ts.map V.ref) ∧ Paired (IsRow H) ts rs ∧ GoodRows rs ∧ rs.length ≤ 1000 ∧
  ∀ (d : Addr) (H' : Hp), H d = none → Same H H' → H' d = some (.dT (rs.map rowK)) → Q (.ref d) H'
abbrev s__law_table : Stmt := topS 45
abbrev N__law_table : List Str := ["_law_rows_here", "_law_table_here", "_law_row"]
theorem sc__law_table : FnScope N__law_table ["_law_rows_here"] (defScope s__law_table) := ⟨rfl, rfl, rfl, by decide +kernel, rfl, by decide +kernel, by decide +kernel⟩
section
variable {Pg : Program} {w : World} {K : PySem.W.Frag} {mg : Str → Option Value} {base : Heap} {a : Ads}
theorem ok_table {f : Addr} {fd : FuncData} (F : Fun K "_law_table" "_law_table" s__law_table f fd) (T : Txt K mg a) : FnOk Pg w K mg base (L2N.CX Pg w) 1 f fd ["_law_rows_here"] (spTable K) := by
  refine F.okN sc__law_table (fun vs H Q E h => ?_) (fun cdv A outer s H vs Q E hr h => ?_)
  · obtain ⟨_, _, _, rfl, _⟩ := h
    rfl
  · obtain ⟨r, ts, rs, rfl, hs, hpr, hg, hlen, q⟩ := h
    have hu := hu_of hr
    have lts := Paired.length hpr
    have PO : PassesOwn (model Pg w) (A.deeper (envOfC "_law_table" (defScope s__law_table) s.heap.objs.size f cdv)) (envOfC "_law_table" (defScope s__law_table) s.heap.objs.size f cdv) (cxOf (L2N.CX Pg w) Pg w K mg base N__law_table "_law_table" (defScope s__law_table) f cdv A outer s H E).xe := passes_of rfl
    refine ⟨_, (pss_cons (ps_set (i := 1) sc__law_table.nd rfl (by first | exact Or.inl rfl | exact Or.inr rfl) pe_dnewTN)
      (pss_cons (ps_for PO rfl (pi_list (pv 0)) (pg_name (i := 2) sc__law_table.nd rfl (by first | exact Or.inl rfl | exact Or.inr rfl))
        (pss_one (ps_dput hu (pv 1) (pe_tupN (pa_cons (pe_ix ix_tup (pv 2) pe_int (fun _ _ => rfl)) (pa_cons (pe_ix ix_tup (pv 2) pe_int (fun _ _ => rfl)) pa_nil))) (pe_ix ix_tup (pv 2) pe_int (fun _ _ => rfl)) rfl)))
      (pss_one (ps_ret (pv 1))))), ?_⟩
    intro d H1 hd s1 h1
    walk_at "s"
    refine ⟨⟨_, s1.seq hs⟩, for_list (K := K) (a := r) (xs := ts.map V.ref) (fun i σ H' => ∃ v2, σ = [some (.ref r), some (.ref d), v2] ∧ Same H H' ∧ H' d = some (.dT ((rs.take i).map rowK))) ⟨none, rfl, s1, h1⟩ (fun i σ H' _ ⟨_, _, s2, _⟩ => s2.seq hs) ?_ ?_⟩
    · rintro i x σ H2 hi ⟨v2, rfl, s2, h2⟩
      rw [List.getElem?_map] at hi
      obtain ⟨t, ht1, rfl⟩ := Option.map_eq_some_iff.mp hi
      obtain ⟨rr, hr1, hrow⟩ := paired_at hpr ht1
      have hrow2 : IsRow H2 t rr := s2 _ _ hrow
      walk_at "s"
      refine ⟨_, _, _, _, rfl, rfl, SqT.of hrow2, rfl, ?_⟩
      walk_at "s"
      refine ⟨_, _, _, _, rfl, rfl, SqT.of hrow2, rfl, ?_⟩
      walk_at "s"
      refine ⟨_, _, _, _, rfl, rfl, SqT.of hrow2, rfl, ?_⟩
      refine ⟨(by simp), fun u H3 hu3 s3 h3 => ?_⟩
      refine dput_go (k := wayK rr.1 rr.2.1) (s3 _ _ h2) h3 (by rw [List.length_map, List.length_take]; omega) fun H4 s4 h4 => ?_
      refine ⟨_, rfl, same_mutB (Same.trans s2 s3) hd s4, ?_⟩
      rw [h4]
      exact congrArg (fun z => some (HO.dT z)) (take_rowK hg hr1)
    · rintro σ H2 ⟨v2, rfl, s2, h2⟩
      walk_at "s"
      refine q d H2 hd s2 ?_
      rw [h2, List.length_map, lts, List.take_length]
end
end Fb

namespace Fb
open PySem PySem.Spec PyProof.Rows L2
local macro_rules | `(tactic| walk_at "s") => `(tactic| repeat (first | refine ⟨_, rfl, ?_⟩ | refine ⟨_, _, rfl, rfl, ?_⟩ | refine ⟨_, _, rfl, Or.inl (by assumption), ?_⟩ | refine ⟨rfl, ?_⟩ | refine ⟨(by decide : (0 : Int) < _), ?_⟩ | refine ⟨⟨by decide, by decide⟩, ?_⟩ | refine ⟨_, _, _, rfl, (by assumption), (by first | decide | omega), ?_⟩))
/-! ### the law's other journey -/
theorem goodJ_rev {xs : List Str} (g : GoodJ xs) : GoodJ xs.reverse := by
  refine ⟨by rw [List.length_reverse]; exact g.lo, by rw [List.length_reverse]; exact g.hi, fun x hx => g.pl x (List.mem_reverse.mp hx), fun i hi => ?_⟩
  rw [List.length_reverse] at hi
  have e1 : xat xs.reverse i = xat xs (xs.length - 1 - i) := xat_of (by rw [List.getElem?_reverse (by omega)]; exact xat_get (by omega))
  have e2 : xat xs.reverse (i + 1) = xat xs (xs.length - 1 - (i + 1)) := xat_of (by rw [List.getElem?_reverse (by omega)]; exact xat_get (by omega))
  rw [e1, e2]
  have h := g.ne (xs.length - 1 - (i + 1)) (by omega)
  rw [show xs.length - 1 - (i + 1) + 1 = xs.length - 1 - i by omega] at h
  exact fun z => h z.symm
def spOther (K : PySem.W.Frag) : Sp := fun vs H Q _ => ∃ (l r : Addr) (ns : List Int) (xs : List Str), vs = [.ref l, .ref r] ∧ SqL K H l (ns.map V.int) ∧ SqL K H r (xs.map V.str) ∧ GoodJ xs ∧
  ∀ (p : Addr) (H' : Hp) (ys : List Str), H p = none → Same H H' → H' p = some (.lst (ys.map V.str)) → GoodJ ys → ys.length ≤ xs.length → Q (.ref p) H'
abbrev s__law_other : Stmt := topS 46
abbrev N__law_other : List Str := ["_law_script", "_law_row", "_law_other_here", "_law_k"]
theorem sc__law_other : FnScope N__law_other ["_law_script", "_law_row"] (defScope s__law_other) := ⟨rfl, rfl, rfl, by decide +kernel, rfl, by decide +kernel, by decide +kernel⟩
section
variable {Pg : Program} {w : World} {K : PySem.W.Frag} {mg : Str → Option Value} {base : Heap} {a : Ads}
theorem ok_other {f : Addr} {fd : FuncData} (F : Fun K "_law_other" "_law_other" s__law_other f fd) (T : Txt K mg a) (D_cell_at : Dn Pg w K mg base 1 "_law_cell_at" ["_law_script", "_law_k"] (spCell K)) : FnOk Pg w K mg base (L2N.CX Pg w) 2 f fd ["_law_script", "_law_row"] (spOther K) := by
  refine F.okN sc__law_other (fun vs H Q E h => ?_) (fun cdv A outer s H vs Q E hr h => ?_)
  · obtain ⟨_, _, _, _, rfl, _⟩ := h
    rfl
  · obtain ⟨l, r, ns, xs, rfl, hs, hj, hg, q⟩ := h
    have h40 := hg.hi
    have h2 := hg.lo
    have PO : PassesOwn (model Pg w) (A.deeper (envOfC "_law_other" (defScope s__law_other) s.heap.objs.size f cdv)) (envOfC "_law_other" (defScope s__law_other) s.heap.objs.size f cdv) (cxOf (L2N.CX Pg w) Pg w K mg base N__law_other "_law_other" (defScope s__law_other) f cdv A outer s H E).xe := passes_of rfl
    refine ⟨_, (pss_cons (ps_set (i := 2) sc__law_other.nd rfl (by first | exact Or.inl rfl | exact Or.inr rfl) (pe_op op_catN (pe_op op_catN (pe_slice sl_listN (pv 1) po_none (po_some pe_int)) (pe_revLN (pe_slice sl_listN (pv 1) (po_some pe_int) (po_some (pe_un un_neg pe_int))))) (pe_slice sl_listN (pv 1) (po_some (pe_un un_neg pe_int)) po_none)))
      (C8.pss_cut (ps_if (pt_cmpR op_eq (pe_op op_mod (pe_fnS D_cell_at (hr.mono (by decide)) passC (pa_cons (pv 0) (pa_cons pe_int pa_nil))) pe_int) pe_int (nomark _)) (pss_one (ps_set (i := 2) sc__law_other.nd rfl (by first | exact Or.inl rfl | exact Or.inr rfl) (pe_revLN (pv 1)))) pss_nil)
      (C8.pss_cut (ps_if (PW.pt (pw_and (pt_cmpR op_eq (pe_op op_mod (pe_fnS D_cell_at (hr.mono (by decide)) passC (pa_cons (pv 0) (pa_cons pe_int pa_nil))) pe_int) pe_int (nomark _)) (pw_and1 (pt_cmpR op_gt (pe_callB call_len_seq (by rfl) T.n_len (by decide +kernel) (pa_cons (pv 1) pa_nil)) pe_int (nomark _))))) (pss_one (ps_set (i := 2) sc__law_other.nd rfl (by first | exact Or.inl rfl | exact Or.inr rfl) (pe_slice sl_listN (pv 1) (po_some (pe_op op_mod (pe_op op_fdiv (pe_fnS D_cell_at (hr.mono (by decide)) passC (pa_cons (pv 0) (pa_cons pe_int pa_nil))) pe_int) (pe_op op_sub (pe_callB call_len_seq (by rfl) T.n_len (by decide +kernel) (pa_cons (pv 1) pa_nil)) pe_int))) po_none))) pss_nil)
      (C8.pss_cut (ps_if (pt_cmpR (op_neD hr.units) (pe_lc (own := [("_law_k", 3)]) (g := (gName 3)) (tt := _) rfl sc__law_other.nd (pi_range2 (by rfl) T.n_range (pa_cons pe_int (pa_cons (pe_callB call_len_seq (by rfl) T.n_len (by decide +kernel) (pa_cons (pv 2) pa_nil)) pa_nil))) (blkOk_by (own := [("_law_k", 3)]) (N := N__law_other) (sc := (defScope s__law_other)) (by decide +kernel)) (fun _ _ _ _ _ => (pg_name (i := 3) sc__law_other.nd rfl (by first | exact Or.inl rfl | exact Or.inr rfl))) (fun _ _ _ _ _ => pts_one (pt_cmpR op_eq (pe_ix (ix_listS (K := K)) (pv 2) (pv 3) (fun _ _ => rfl)) (pe_ix (ix_listS (K := K)) (pv 2) (pe_op op_sub (pv 3) pe_int) (fun _ _ => rfl)) (nomark _))) (fun _ _ _ _ _ => (pv 3))) (pe_lstN pa_nil) (nomark _)) (pss_one (ps_set (i := 2) sc__law_other.nd rfl (by first | exact Or.inl rfl | exact Or.inr rfl) (pe_revLN (pv 1)))) pss_nil)
      (pss_one (ps_ret (pv 2))))))), ?_⟩
    have ok : ∀ (v2 : Addr) (ys : List Str) (H' : Hp), H v2 = none → Same H H' → H' v2 = some (.lst (ys.map V.str)) → (∀ y ∈ ys, y ∈ xs) → 2 ≤ ys.length → ys.length ≤ xs.length →
        ∃ (o : Addr) (ys : List Str), ([some (V.ref l), some (.ref r), some (.ref v2), none] : L2.St) = [some (.ref l), some (.ref r), some (.ref o), none] ∧ H o = none ∧ Same H H' ∧ H' o = some (.lst (ys.map V.str)) ∧ (∀ y ∈ ys, y ∈ xs) ∧ 2 ≤ ys.length ∧ ys.length ≤ xs.length := fun v2 ys H' h1 h2 h3 h4 h5 h6 => ⟨v2, ys, rfl, h1, h2, h3, h4, h5, h6⟩
    walk_at "s"
    refine ⟨_, _, rfl, hj, fun a1 H1 n1 s1 h1 => ?_⟩
    rw [cutV_map] at h1
    have hj1 := s1.seq hj
    walk_at "s"
    refine ⟨_, _, rfl, hj1, fun a2 H2 n2 s2 h2x => ?_⟩
    rw [cutV_map] at h2x
    walk_at "s"
    refine ⟨_, _, rfl, SqL.of h2x, fun a3 H3 n3 s3 h3 => ?_⟩
    rw [← List.map_reverse] at h3
    have e1 : (cutX xs none (some 1)).length = 1 := by rw [cutX_len, HT.sIx_none, sIx_one]; omega
    have e2 : (cutX xs (some 1) (some (-1))).length = xs.length - 2 := by rw [cutX_len, sIx_one, sIx_neg1]; omega
    have e3 : (cutX xs (some (-1)) none).length = 1 := by rw [cutX_len, sIx_neg1, HT.sIx_none]; omega
    refine ⟨_, _, _, _, rfl, rfl, s3 _ _ (s2 _ _ h1), h3, by rw [List.length_map, List.length_map, List.length_reverse]; omega, fun a4 H4 n4 s4 h4 => ?_⟩
    have s14 := Same.trans s1 (Same.trans s2 (Same.trans s3 s4))
    have hj4 := s14.seq hj
    walk_at "s"
    refine ⟨_, _, rfl, hj4, fun a5 H5 n5 s5 h5 => ?_⟩
    rw [cutV_map] at h5
    refine ⟨_, _, _, _, rfl, rfl, s5 _ _ h4, h5, by rw [List.length_append, List.length_map, List.length_map, List.length_map, List.length_reverse]; omega, fun a6 H6 n6 s6 h6 => ?_⟩
    have s16 := Same.trans s14 (Same.trans s5 s6)
    rw [← List.map_append, ← List.map_append] at h6
    have st1 := ok a6 _ H6 ((Same.trans s14 s5).free n6) s16 h6 (fun y hy => by
      rcases List.mem_append.mp hy with h | h
      · rcases List.mem_append.mp h with h | h
        · exact cutX_mem h
        · exact cutX_mem (List.mem_reverse.mp h)
      · exact cutX_mem h) (by rw [List.length_append, List.length_append, List.length_reverse]; omega) (by rw [List.length_append, List.length_append, List.length_reverse]; omega)
    walk_at "s"
    refine ⟨fun σ' H' => ∃ (o : Addr) (ys : List Str), σ' = [some (.ref l), some (.ref r), some (.ref o), none] ∧ H o = none ∧ Same H H' ∧ H' o = some (.lst (ys.map V.str)) ∧ (∀ y ∈ ys, y ∈ xs) ∧ 2 ≤ ys.length ∧ ys.length ≤ xs.length, ?_, ?_⟩
    · have hs6 := s16.seq hs
      have hj6 := s16.seq hj
      walk_at "s"
      refine ifD (fun c1 => ?_) (fun c1 => st1)
      walk_at "s"
      refine ⟨_, _, rfl, hj6, fun b1 H7 m1 s7 h7 => ?_⟩
      rw [← List.map_reverse] at h7
      exact ok b1 _ H7 (s16.free m1) (Same.trans s16 s7) h7 (fun y hy => List.mem_reverse.mp hy) (by rw [List.length_reverse]; exact h2) (by rw [List.length_reverse]; exact Nat.le_refl _)
    clear st1 s16 h6 n6 s6 h5 n5 s5 hj4 s14 h4 n4 s4 h3 n3 s3 h2x n2 s2 hj1 h1 n1 s1 e1 e2 e3
    rintro σ1 H1 ⟨o, ys, rfl, n1, s1, h1, hm, hl0, hl1⟩
    have hs1 := s1.seq hs
    have hj1 := s1.seq hj
    walk_at "s"
    refine ⟨fun σ' H' => ∃ (o : Addr) (ys : List Str), σ' = [some (.ref l), some (.ref r), some (.ref o), none] ∧ H o = none ∧ Same H H' ∧ H' o = some (.lst (ys.map V.str)) ∧ (∀ y ∈ ys, y ∈ xs) ∧ 2 ≤ ys.length ∧ ys.length ≤ xs.length, ?_, ?_⟩
    · have st1 := ok o ys H1 n1 s1 h1 hm hl0 hl1
      walk_at "s"
      refine ifD (fun c1 => ?_) (fun c1 => st1)
      walk_at "s"
      rw [List.length_map]
      refine ifD (fun c2 => ?_) (fun c2 => st1)
      walk_at "s"
      rw [List.length_map]
      refine ⟨by omega, ?_⟩
      obtain ⟨m, em, hm2⟩ : ∃ m : Nat, cel ns 61 / 3 % ((xs.length : Int) - 1) = (m : Int) ∧ m + 2 ≤ xs.length := by
        have m0 := Int.emod_nonneg (cel ns 61 / 3) (show ((xs.length : Int) - 1) ≠ 0 by omega)
        have m1 := Int.emod_lt_of_pos (cel ns 61 / 3) (show (0 : Int) < (xs.length : Int) - 1 by omega)
        exact ⟨(cel ns 61 / 3 % ((xs.length : Int) - 1)).toNat, by omega, by omega⟩
      walk_at "s"
      dsimp only
      rw [em]
      refine ⟨_, _, rfl, hj1, fun b1 H7 m1 s7 h7 => ?_⟩
      rw [cutV_map] at h7
      have el : (cutX xs (some (m : Int)) none).length = xs.length - m := by rw [cutX_len, HT.sIx_none, HT.sIx_nat]; omega
      exact ok b1 _ H7 (s1.free m1) (Same.trans s1 s7) h7 (fun y hy => cutX_mem hy) (by rw [el]; omega) (by rw [el]; omega)
    clear hs1 hj1 h1 hm hl0 hl1 n1 s1
    rintro σ2 H2 ⟨o, ys, rfl, n1, s1, h1, hm, hl0, hl1⟩
    have hs1 := s1.seq hs
    have hj1 := s1.seq hj
    have ho1 : SqL K H2 o (ys.map V.str) := SqL.of h1
    walk_at "s"
    refine ⟨fun σ' H' => ∃ (o : Addr) (ys : List Str), σ' = [some (.ref l), some (.ref r), some (.ref o), none] ∧ H o = none ∧ Same H H' ∧ H' o = some (.lst (ys.map V.str)) ∧ GoodJ ys ∧ ys.length ≤ xs.length, ?_, ?_⟩
    · walk_at "s"
      rw [List.length_map]
      refine ⟨_, _, rfl, ⟨by omega, by omega, by omega, by omega⟩, fun D hD => ?_⟩
      refine lc_pickR (fun i => decide (xat ys (i + 1) = xat ys i)) (fun i => .int (1 + (i : Int))) hD (by omega) (fun v => rfl) ?_ ?_ ?_
      · intro i H3 hi s3 Q3 q3
        have ho3 := s3.seq ho1
        walk_at "s"
        refine ⟨_, _, _, _, rfl, rfl, ho3, xat_at (i := i + 1) (by omega) (by omega), ?_⟩
        walk_at "s"
        refine ⟨_, _, _, _, rfl, rfl, ho3, xat_at (i := i) (by omega) (by omega), ?_⟩
        walk_at "s"
        rw [show decide (V.str (xat ys (i + 1)) = V.str (xat ys i)) = decide (xat ys (i + 1) = xat ys i) from decide_eq_decide.mpr ⟨V.str.inj, fun e => congrArg V.str e⟩]
        exact q3 _ (Same.refl _)
      · intro i H3 hi s3 Q3 q3
        walk_at "s"
        exact q3 _ (Same.refl _)
      · intro H3 s3 hDl
        walk_at "s"
        refine ⟨(by simp), fun D2 H4 hD2 s4 h4 => ?_⟩
        have hf : ∀ v ∈ pick (fun i => decide (xat ys (i + 1) = xat ys i)) (fun i => V.int (1 + (i : Int))) ((ys.length : Int) - 1).toNat, flat v := fun v hv => by
          obtain ⟨_, _, rfl⟩ := List.mem_map.mp hv
          exact .inr (.inr (.inl ⟨_, rfl⟩))
        refine ⟨_, .list [], .lst (SqL.of (s4 _ _ hDl)) (dpAll_flat hf), .lst (SqL.of h4) .nil, shaped_list hf, shaped_list (xs := []) (fun v hv => by cases hv), ?_⟩
        rw [eqv_nil]
        have s14 := Same.trans s1 (Same.trans s3 s4)
        have hj4 := s14.seq hj
        walk_at "s"
        refine ifNB (fun c1 => ?_) (fun c1 => ?_)
        · walk_at "s"
          refine ⟨_, _, rfl, hj4, fun b1 H7 m1 s7 h7 => ?_⟩
          rw [← List.map_reverse] at h7
          exact ⟨b1, _, rfl, s14.free m1, Same.trans s14 s7, h7, goodJ_rev hg, by rw [List.length_reverse]; exact Nat.le_refl _⟩
        · refine ⟨o, ys, rfl, n1, s14, s4 _ _ (s3 _ _ h1), ⟨hl0, by omega, fun x hx => hg.pl x (hm x hx), fun i hi e => ?_⟩, hl1⟩
          have := pick_nil.mp c1 i (by omega)
          rw [decide_eq_true e.symm] at this
          cases this
    · rintro σ3 H3 ⟨o, ys, rfl, n1, s1, h1, gy, hl⟩
      walk_at "s"
      exact q o H3 ys n1 s1 h1 gy hl
end
end Fb

namespace Fb
open PySem PySem.Spec PyProof.Rows L2
local macro_rules | `(tactic| walk_at "s") => `(tactic| repeat (first | refine ⟨_, rfl, ?_⟩ | refine ⟨_, _, rfl, rfl, ?_⟩ | refine ⟨_, _, rfl, Or.inl (by assumption), ?_⟩ | refine ⟨rfl, ?_⟩ | refine ⟨(by decide : (0 : Int) < _), ?_⟩ | refine ⟨⟨by decide, by decide⟩, ?_⟩ | refine ⟨_, _, _, rfl, (by assumption), (by first | decide | omega), ?_⟩))
/-! ### the law's tariff -/
def spBegun (K : PySem.W.Frag) (a : Ads) (P P2 : Addr) : Sp := fun vs H Q _ => ∃ (l r : Addr) (ns : List Int) (ts : List Addr) (rs : List Row), vs = [.ref l, .ref r] ∧ SqL K H l (ns.map V.int) ∧ SqL K H r (ts.map V.ref) ∧ Paired (IsRow H) ts rs ∧ GoodRows rs ∧ rs.length ≤ 160 ∧ H P = some (TabO P) ∧ H P2 = some (TabO P2) ∧
  ∀ (x d : Addr) (H' : Hp), H x = none → H d = none → Same H H' → TarAt a.Tariff H' x d rs → Q (.ref x) H'
abbrev s__law_begun : Stmt := topS 49
abbrev N__law_begun : List Str := ["_law_script", "_law_rows_here", "_law_tariff", "_law_one", "_law_refused", "_law_price"]
theorem sc__law_begun : FnScope N__law_begun ["_law_script", "_law_rows_here"] (defScope s__law_begun) := ⟨rfl, rfl, rfl, by decide +kernel, rfl, by decide +kernel, by decide +kernel⟩
section
variable {Pg : Program} {w : World} {K : PySem.W.Frag} {mg : Str → Option Value} {base : Heap} {a : Ads}
theorem ok_begun {f P P2 : Addr} {fd : FuncData} (F : Fun K "_law_begun" "_law_begun" s__law_begun f fd) (T : Txt K mg a) (D_cell_at : Dn Pg w K mg base 1 "_law_cell_at" ["_law_script", "_law_k"] (spCell K)) (D_tariff_of : Dn Pg w K mg base 6 "tariff_of" ["lines"] (spTofG K a P P2))
    (D_put : Dm Pg w K mg base 3 a.Tariff "put" ["self", "here", "there", "price"] (spPut a P)) (D_Tariff : Dk Pg w K mg base 4 "Tariff" a.Tariff ["self", "rows"] (spInit K a P)) : FnOk Pg w K mg base (L2N.CX Pg w) 7 f fd ["_law_script", "_law_rows_here"] (spBegun K a P P2) := by
  refine F.okN sc__law_begun (fun vs H Q E h => ?_) (fun cdv A outer s H vs Q E hr h => ?_)
  · obtain ⟨_, _, _, _, _, rfl, _⟩ := h
    rfl
  · obtain ⟨l, r, ns, ts, rs, rfl, hs, hq, hpr, hg, hlen, hP, hP2, q⟩ := h
    have lts := Paired.length hpr
    have tk : takeRows [] (rs.map givenOf) = (0, rs) := take_good (rs := []) (by simpa using hg) (by simpa using hlen)
    have PO : PassesOwn (model Pg w) (A.deeper (envOfC "_law_begun" (defScope s__law_begun) s.heap.objs.size f cdv)) (envOfC "_law_begun" (defScope s__law_begun) s.heap.objs.size f cdv) (cxOf (L2N.CX Pg w) Pg w K mg base N__law_begun "_law_begun" (defScope s__law_begun) f cdv A outer s H E).xe := passes_of rfl
    refine ⟨_, (pss_cons (ps_set (i := 2) sc__law_begun.nd rfl (by first | exact Or.inl rfl | exact Or.inr rfl) (pe_mkS D_Tariff (hr.mono (by decide)) (fun σ => L2N.passAt (L2N.takes_of rfl rfl rfl rfl) σ) (pa_cons (pe_callTy call_list_ofN (by rfl) T.n_list (by decide +kernel) (pa_cons (pv 1) pa_nil)) pa_nil)))
      (C8.pss_cut (ps_if (pt_cmpR op_eq (pe_op op_mod (pe_fnS D_cell_at (hr.mono (by decide)) passC (pa_cons (pv 0) (pa_cons pe_int pa_nil))) pe_int) pe_int (nomark _)) (pss_one (ps_set (i := 2) sc__law_begun.nd rfl (by first | exact Or.inl rfl | exact Or.inr rfl) (pe_fnS D_tariff_of (hr.mono (by decide)) (fun σ => L2N.passAt (L2N.takes_of rfl rfl rfl rfl) σ) (pa_cons (pe_lc (own := [("_law_one", 3)]) (g := (gName 3)) (tt := tYes) rfl sc__law_begun.nd (pi_list (pv 1)) (blkOk_by (own := [("_law_one", 3)]) (N := N__law_begun) (sc := (defScope s__law_begun)) (by decide +kernel)) (fun _ _ _ _ _ => (pg_name (i := 3) sc__law_begun.nd rfl (by first | exact Or.inl rfl | exact Or.inr rfl))) (fun _ _ _ _ _ => pts_nil) (fun _ _ _ _ _ => (pe_op op_add_str (pe_op op_add_str (pe_op op_add_str (pe_op op_add_str (pe_ix (ix_tupS (K := K)) (pv 3) pe_int (fun _ _ => rfl)) pe_str) (pe_ix (ix_tupS (K := K)) (pv 3) pe_int (fun _ _ => rfl))) pe_str) (pe_callTy call_str_int (by rfl) T.n_str (by decide +kernel) (pa_cons (pe_ix (ix_tupS (K := K)) (pv 3) pe_int (fun _ _ => rfl)) pa_nil))))) pa_nil)))) pss_nil)
      (pss_cons (ps_set (i := 4) sc__law_begun.nd rfl (by first | exact Or.inl rfl | exact Or.inr rfl) pe_int)
      (pss_cons (ps_for PO rfl (pi_list (pe_slice sl_listN (pv 1) po_none (po_some pe_int))) (pg_name (i := 3) sc__law_begun.nd rfl (by first | exact Or.inl rfl | exact Or.inr rfl))
        (pss_one (ps_for PO rfl (pi_tup (pe_tupN (pa_cons (pe_un un_neg pe_int) (pa_cons (pe_ix ix_list (pe_lstN (pa_cons pe_int (pa_cons pe_int pa_nil))) (pe_callTy call_int1 (by rfl) T.n_int (by decide +kernel) (pa_cons (pe_cmpR op_lt (pe_ix ix_tup (pv 3) pe_int (fun _ _ => rfl)) pe_int (nomark _)) pa_nil)) (fun _ _ => rfl)) pa_nil)))) (pg_name (i := 5) sc__law_begun.nd rfl (by first | exact Or.inl rfl | exact Or.inr rfl))
            (pss_one (ps_tryM rfl rfl takesN0
                (fun W pn xe tk PO => (pss_one (ps_expr (pe_mdS (pv 2) T.cl_Tariff D_put (hr.mono (by decide)) (fun σ => L2N.passAt tk σ) (pa_cons (pe_ix (ix_tupS (K := K)) (pv 3) pe_int (fun _ _ => rfl)) (pa_cons (pe_ix (ix_tupS (K := K)) (pv 3) pe_int (fun _ _ => rfl)) (pa_cons (pv 5) pa_nil)))))))
                (L2N.HdsOk.cons ⟨rfl, by decide, .inl T.x_FareError.g⟩ (fun a_e oe cls d pn hz hf => (pss_one (ps_set (i := 4) sc__law_begun.nd rfl (by first | exact Or.inl rfl | exact Or.inr rfl) (pe_op op_add (pv 4) pe_int)))) L2N.HdsOk.nil))))))
      (pss_cons (ps_if (pt_cmpR op_ne (pv 4) (pe_op op_mul pe_int (pe_callB call_len_seq (by rfl) T.n_len (by decide +kernel) (pa_cons (pe_slice sl_listN (pv 1) po_none (po_some pe_int)) pa_nil))) (nomark _)) (pss_one (ps_ret (pe_mkS D_Tariff (hr.mono (by decide)) (fun σ => L2N.passAt (L2N.takes_of rfl rfl rfl rfl) σ) (pa_cons (pe_lstN pa_nil) pa_nil)))) pss_nil)
      (pss_one (ps_ret (pv 2)))))))), ?_⟩
    walk_at "s"
    intro l1 H1 n1 s1 h1
    walk_at "s"
    intro x dx hx hdx hne
    have m1 : Same H1 (upd (upd H1 dx (.own x)) x (.ins a.Tariff dx [])) := fun b o e => by rw [upd_ne (ne_of_none e hx), upd_ne (ne_of_none e hdx)]; exact e
    refine ⟨x, dx, l1, ts, rs.map givenOf, rfl, upd_same, m1 _ _ (s1 _ _ hP), SqL.of (m1 _ _ h1), given_rows (rows_same m1 (rows_same s1 hpr)), good_ask hg, by rw [List.length_map]; omega, fun _ d H2 hd2 sb2 T2 => ⟨rfl, ?_⟩, fun e => absurd (by rw [tk]) e⟩
    rw [tk] at T2
    have s2 : Same H H2 := fun b o e => sb2 _ _ (ne_of_none (s1 _ _ e) hx) (m1 _ _ (s1 _ _ e))
    have hx0 := s1.free hx
    have hd0 := s1.free (m1.free hd2)
    clear m1 sb2 hne hdx n1 h1
    walk_at "s"
    refine ⟨fun σ' H' => ∃ (x d : Addr), H x = none ∧ H d = none ∧ Same H H' ∧ TarAt a.Tariff H' x d rs ∧ σ' = [some (.ref l), some (.ref r), some (.ref x), none, none, none], ?_, ?_⟩
    · have hs2 := s2.seq hs
      have hq2 := s2.seq hq
      have hpr2 := rows_same s2 hpr
      walk_at "s"
      refine ifD (fun c1 => ?_) (fun c1 => ⟨x, d, hx0, hd0, s2, T2, rfl⟩)
      walk_at "s"
      refine ⟨⟨_, hq2⟩, fun D hD => ?_⟩
      refine lc_listR (K := K) (xs := ts.map V.ref) (fun i v _ => ∃ r, rs[i]? = some r ∧ v = .str (lineOf r)) (fun _ _ _ _ _ h => h) hD hq2 (by rw [List.length_map]; omega) (fun v => rfl) ?_ ?_
      · intro i y H3 acc hi s3 hDl Q3 q3
        rw [List.getElem?_map] at hi
        obtain ⟨u, hu1, rfl⟩ := Option.map_eq_some_iff.mp hi
        obtain ⟨rr, hr1, hrow⟩ := paired_at hpr2 hu1
        have hrow3 : IsRow H3 u rr := s3 _ _ hrow
        have gr := hg.ok rr (List.mem_of_getElem? hr1)
        have hll := line_len gr
        have l1 := (isP_len gr.p1).2
        have l2 := (isP_len gr.p2).2
        obtain ⟨_, _, l3, _, _⟩ := fig_num gr.c
        have lb : blankS.length = 1 := by decide +kernel
        walk_at "s"
        refine ⟨_, _, _, _, rfl, rfl, SqT.of hrow3, rfl, ?_⟩
        walk_at "s"
        refine ⟨szl (by rw [lb]; omega), ?_⟩
        walk_at "s"
        refine ⟨_, _, _, _, rfl, rfl, SqT.of hrow3, rfl, ?_⟩
        walk_at "s"
        refine ⟨szl (by rw [len_app, lb]; omega), ?_⟩
        walk_at "s"
        refine ⟨szl (by rw [len_app, len_app, lb]; omega), ?_⟩
        walk_at "s"
        refine ⟨_, _, _, _, rfl, rfl, SqT.of hrow3, rfl, ?_⟩
        walk_at "s"
        refine ⟨log_price gr.c, ?_⟩
        walk_at "s"
        refine ⟨szl (by rw [len_app, len_app, len_app, lb]; show _ + (numS rr.2.2).length ≤ _; omega), ?_⟩
        exact q3 _ _ (Same.refl _) ⟨rr, hr1, rfl⟩
      · intro H3 ys s3 hDl hl hr3
        rw [List.length_map] at hl
        have ey : ys = (rs.map lineOf).map V.str := by
          refine List.ext_getElem? fun i => ?_
          rw [List.map_map, List.getElem?_map]
          cases hy : ys[i]? with
          | none =>
            have h3 := List.getElem?_eq_none_iff.mp hy
            rw [List.getElem?_eq_none (by omega)]; rfl
          | some v =>
            obtain ⟨rr, hr1, rfl⟩ := hr3 i v hy
            rw [hr1]; rfl
        rw [ey] at hDl
        walk_at "s"
        refine ⟨D, rs.map lineOf, rs, rfl, SqL.of hDl, fun z hz => ?_, ?_, hg, hlen, s3 _ _ (s2 _ _ hP), s3 _ _ (s2 _ _ hP2), fun x1 d1 H4 n1 n2 s4 T4 => ?_⟩
        · obtain ⟨rr, hr1, rfl⟩ := List.mem_map.mp hz
          have := line_len (hg.ok rr hr1)
          omega
        · rw [List.map_map]
          exact List.map_congr_left fun rr hr1 => parse_line (hg.ok rr hr1)
        · have s23 := Same.trans s2 s3
          exact ⟨x1, d1, s23.free n1, s23.free n2, Same.trans s23 s4, T4, rfl⟩
    clear hx0 hd0 T2 s2 hx hd2
    rintro σ1 H1 ⟨x, d, hx0, hd0, s1, T1, rfl⟩
    have hq1 := s1.seq hq
    walk_at "s"
    refine ⟨_, _, rfl, hq1, fun b1 H2 nb1 s2 h2 => ?_⟩
    have e60 : cutV (ts.map V.ref) none (some (60 : Int)) = (ts.take 60).map V.ref := by
      rw [cutV_map]
      unfold cutX
      rw [HT.sIx_none, show (60 : Int) = ((60 : Nat) : Int) from rfl, HT.sIx_nat, List.drop_zero, Nat.sub_zero]
      by_cases h : 60 ≤ ts.length
      · rw [Nat.min_eq_left h]
      · rw [Nat.min_eq_right (by omega), List.take_of_length_le (Nat.le_refl _), List.take_of_length_le (by omega)]
    rw [e60] at h2
    have s12 := Same.trans s1 s2
    have hpr2 := rows_same s12 hpr
    have T2 := T1.same s2
    have pr60 : Paired (IsRow H2) (ts.take 60) (rs.take 60) := paired_take 60 hpr2
    walk_at "s"
    refine ⟨⟨_, SqL.of h2⟩, for_list (K := K) (a := b1) (xs := (ts.take 60).map V.ref) (fun i σ H' => ∃ u3 u5, σ = [some (.ref l), some (.ref r), some (.ref x), u3, some (.int (2 * (i : Int))), u5] ∧ Same H2 H') ⟨none, none, rfl, Same.refl _⟩ (fun i σ H' _ ⟨_, _, _, s3⟩ => s3.seq (SqL.of h2)) ?_ ?_⟩
    · rintro i y σ H3 hi ⟨u3, u5, rfl, s3⟩
      rw [List.getElem?_map] at hi
      obtain ⟨u, hu1, rfl⟩ := Option.map_eq_some_iff.mp hi
      obtain ⟨rr, hr1, hrow⟩ := paired_at pr60 hu1
      have hm : rr ∈ rs := List.mem_of_mem_take (List.mem_of_getElem? hr1)
      have gr := hg.ok rr hm
      have hrow3 : IsRow H3 u rr := s3 _ _ hrow
      walk_at "s"
      refine ⟨(by simp), fun b2 H4 nb2 s4 h4 => ?_⟩
      have hrow4 : IsRow H4 u rr := s4 _ _ hrow3
      walk_at "s"
      refine ⟨_, _, _, _, rfl, rfl, SqT.of hrow4, rfl, ?_⟩
      walk_at "s"
      refine .inr ⟨_, rfl, ?_⟩
      obtain ⟨pz, hpz, pz01⟩ : ∃ pz : Int, atI [V.int 0, V.int 1000000000000] (if decide (rr.2.2 < 500000000000) = true then 1 else 0) = some (.int pz) ∧ (pz = 0 ∨ pz = 1000000000000) := by
        split
        · exact ⟨_, rfl, .inr rfl⟩
        · exact ⟨_, rfl, .inl rfl⟩
      refine ⟨_, _, _, _, rfl, rfl, SqL.of h4, hpz, ?_⟩
      walk_at "s"
      refine ⟨(by simp), fun b3 H5 nb3 s5 h5 => ?_⟩
      have s25 := Same.trans s3 (Same.trans s4 s5)
      walk_at "s"
      refine ⟨⟨_, SqT.of h5⟩, ?_⟩
      refine for_tup (K := K) (a := b3) (xs := [V.int (-1), V.int pz]) (fun j σ H' => ∃ u5, σ = [some (.ref l), some (.ref r), some (.ref x), some (.ref u), some (.int (2 * (i : Int) + (j : Int))), u5] ∧ Same H5 H') ⟨u5, ?_, Same.refl _⟩ (fun j σ H' _ ⟨_, _, s6⟩ => same_t s6 (SqT.of h5)) ?_ ?_
      · rw [show (2 * (i : Int) + ((0 : Nat) : Int)) = 2 * (i : Int) by omega]
        rfl
      · rintro j v σ H6 hj ⟨u5, rfl, s6⟩
        have s26 := Same.trans s25 s6
        have T6 := T2.same s26
        have hrow6 : IsRow H6 u rr := s26 _ _ hrow
        have hP6 := s26 _ _ (s12 _ _ hP)
        obtain ⟨dx6, hob6⟩ := T6.ob
        obtain ⟨av, n, hn, hn2⟩ : ask v ∧ ∃ n, putDue rs (.str rr.1) (.str rr.2.1) v = n ∧ (n = 2 ∨ n = 3) := by
          have hv : v = .int (-1) ∨ v = .int pz := by
            have := List.mem_of_getElem? hj
            simpa using this
          have e1 : isTold rs (.str rr.1) (.str rr.2.1) = true := told_iff.mpr (List.mem_map.mpr ⟨rr, hm, rfl⟩)
          rcases hv with rfl | rfl
          · refine ⟨.inr (.inr (.inl ⟨_, rfl⟩)), 2, ?_, .inl rfl⟩
            unfold putDue
            rw [if_pos gr.p1, if_pos gr.p2, if_neg (fun z => gr.ne (V.str.inj z)), show isC (.int (-1)) = false from by decide]
            rfl
          · have ec : isC (.int pz) = true := isC_of (by omega) (by omega)
            refine ⟨.inr (.inr (.inl ⟨_, rfl⟩)), 3, ?_, .inr rfl⟩
            unfold putDue
            rw [if_pos gr.p1, if_pos gr.p2, if_neg (fun z => gr.ne (V.str.inj z)), if_pos ec, if_pos e1]
        have ex : PySem.W.exmOne K (.ref (errOf a n)) (.ref a.FareError) = some true := by
          rcases hn2 with rfl | rfl
          · exact T.e_BadPrice
          · exact T.e_TwiceTold
        walk_at "s"
        refine ⟨x, dx6, _, rfl, hob6, prices_no d (by decide), ?_⟩
        walk_at "s"
        refine ⟨_, _, _, _, rfl, rfl, SqT.of hrow6, rfl, ?_⟩
        walk_at "s"
        refine ⟨_, _, _, _, rfl, rfl, SqT.of hrow6, rfl, ?_⟩
        walk_at "s"
        refine ⟨x, d, _, _, _, rs, rfl, isP_ask gr.p1, isP_ask gr.p2, av, hP6, T6, by omega, fun e => ?_, fun e H7 s7 => ?_⟩
        · exfalso; omega
        · rw [hn]
          refine ⟨true, ex, fun _ ae hae => ?_, fun z => nomatch z⟩
          walk_at "s"
          exact Same.trans s6 s7
      · rintro σ H6 ⟨u5, rfl, s6⟩
        refine ⟨some (.ref u), u5, ?_, Same.trans s25 s6⟩
        rw [show (2 * (((i + 1 : Nat)) : Int)) = 2 * (i : Int) + (([V.int (-1), V.int pz].length : Nat) : Int) by show _ = 2 * (i : Int) + ((2 : Nat) : Int); omega]
    · rintro σ H3 ⟨u3, u5, rfl, s3⟩
      have s13 := Same.trans s12 s3
      have hq3 := s13.seq hq
      walk_at "s"
      refine ⟨_, _, rfl, hq3, fun b4 H4 nb4 s4 h4 => ?_⟩
      rw [e60] at h4
      have h4q : SqL K H4 b4 ((ts.take 60).map V.ref) := SqL.of h4
      walk_at "s"
      refine ⟨mulSmall (by decide) (by decide), ?_⟩
      walk_at "s"
      refine ifND (fun z => absurd rfl z) (fun _ => ?_)
      walk_at "s"
      exact q x d H4 hx0 hd0 (Same.trans s13 s4) (T2.same (Same.trans s3 s4))
end
end Fb

namespace Fb
open PySem PySem.Spec PyProof.Rows L2
/-! ### str of a list, or of None -/
def rStrDN (K : PySem.W.Frag) : List V → Hp → VK → Prop := fun xs H Q => (xs = [.non] ∧ Q (.str (Str.ofString "None")) H) ∨ rStrD K xs H Q
theorem call_strDN {X : Cx} (hg : X.A.guards = some []) (hu : X.A.units + 64 < cLine) : CallR X (.type "str") (rStrDN X.K) := fun pins s σ H xs us Q I r h => by
  rcases h with ⟨e, q⟩ | h
  · subst e
    cases r with
    | cons r1 r2 =>
      cases r2
      have ev := r1
      cases ev
      exact PySem.P.str_of_none ⟨.str (Str.ofString "None"), H, I.tok _, ⟨_, rfl⟩, q⟩
  · exact call_strD hg hu pins s σ H xs us Q I r h
end Fb

namespace Fb
open PySem PySem.Spec PyProof.Rows L2
/-! ### for x in range(a, b) while an error is handled -/
theorem pi_range2H {X : Cx} {tg x y : Expr} {t : TA} {p pos : Pos} (gl : Gl X "range") (no : X.mg "range" = none) (both : PA X [x, y] t) (s2 : starEach [x, y] X.env = [(false, eval x X.env), (false, eval y X.env)] := by rfl) (s1 : starEach [y] X.env = [(false, eval y X.env)] := by rfl) :
    L2H.PIH X tg (.Call (.Name "range" p) [x, y] [] pos) (iRng2 t) := ⟨fun pins z σ H R I wish => by
  refine Call_ (ld_blt I gl no boot_range (PyProof.Rows.callWith_type1 (thn (both.run pos pins z σ H _ I wish) fun us z1 got => ?_) (by rw [s2, s1]) (by rw [s1]; rfl)))
  obtain ⟨vs, H1, I1, rel, lo, hi, ev, ⟨b1, b2, b3, b4⟩, q⟩ := got
  subst ev
  match us, rel with
  | _, .cons ⟨ta, ea⟩ (.cons ⟨tb, eb⟩ .nil) =>
    subst ea
    subst eb
    exact call_range_2 (L2H.range_itH I1 b1 b2 b3 b4 q)⟩
end Fb

namespace Fb
open PySem PySem.Spec PyProof.Rows L2
local macro_rules | `(tactic| walk_at "s") => `(tactic| repeat (first | refine ⟨_, rfl, ?_⟩ | refine ⟨_, _, rfl, rfl, ?_⟩ | refine ⟨_, _, rfl, Or.inl (by assumption), ?_⟩ | refine ⟨rfl, ?_⟩ | refine ⟨(by decide : (0 : Int) < _), ?_⟩ | refine ⟨⟨by decide, by decide⟩, ?_⟩ | refine ⟨_, _, _, rfl, (by assumption), (by first | decide | omega), ?_⟩))
/-! ### the same, while an error is handled -/
def hotS (sp : Sp) : SpE := fun _ _ vs H Q E => sp vs H Q E
section
variable {Pg : Program} {w : World} {K : PySem.W.Frag} {mg : Str → Option Value} {base : Heap} {a : Ads}
theorem ok_priceH {f : Addr} {fd : FuncData} (F : Fun K "price" "Tariff.price" s_Tariff_price f fd) (T : Txt K mg a) : FnE Pg w K mg base 1 f fd ["self", "here", "there"] (hotS (spPrice a)) := by
  refine okE F sc_Tariff_price (fun _ _ vs H Q E h => ?_) (fun cdv A outer s H vs Q E pq Cq hh er hr h => ?_)
  · obtain ⟨p, d, x, y, rs, rfl, _⟩ := h
    rfl
  · obtain ⟨p, d, x, y, rs, rfl, hT, q⟩ := h
    have hu : (A.deeper (envOfC "Tariff.price" (defScope s_Tariff_price) s.heap.objs.size f cdv)).units + 1 < cLine := by have := hotU hr; omega
    obtain ⟨dx, hob⟩ := hT.ob
    refine ⟨_, (pss_one (ps_ret (pe_dget1 hu (pe_fld (pv 0) rfl) (pe_tupN (pa_cons (pv 1) (pa_cons (pv 2) pa_nil))) ⟨rfl, rfl, rfl, rfl⟩))), ?_⟩
    walk_at "s"
    refine ⟨p, a.Tariff, dx, _, .ref d, rfl, hob, T.cl_Tariff, T.na_prices, prices_lookup d, d, rfl, .inr ⟨_, .inl hT.dc⟩, ?_⟩
    walk_at "s"
    refine ⟨(by simp), fun t H1 nt s1 h1 => ?_⟩
    exact ⟨_, DGet.t (k := [.inr x, .inr y]) (s1 _ _ hT.dc) h1, q _ s1⟩
theorem ok_first_twiceH {f : Addr} {fd : FuncData} (F : Fun K "first_twice" "first_twice" s_first_twice f fd) (T : Txt K mg a) : FnE Pg w K mg base 1 f fd ["places", "at", "to"] (hotS (spFT K)) := by
  refine okE F sc_first_twice (fun _ _ vs H Q E h => ?_) (fun cdv A outer s H vs Q E pq Cq hh er hr h => ?_)
  · obtain ⟨_, _, _, _, _, _, rfl, _⟩ := h
    rfl
  · obtain ⟨l, xs, i, j, i', j', rfl, rfl, rfl, hs, hij, hj, hlen, q⟩ := h
    have PO : PassesOwn (model Pg w) (A.deeper (envOfC "first_twice" (defScope s_first_twice) s.heap.objs.size f cdv)) (envOfC "first_twice" (defScope s_first_twice) s.heap.objs.size f cdv) (cxOf (L2N.CX Pg w) Pg w K mg base N_first_twice "first_twice" (defScope s_first_twice) f cdv A outer s H E).xe := passes_of rfl
    refine ⟨_, (pss_cons (ps_set (i := 3) sc_first_twice.nd rfl (by first | exact Or.inl rfl | exact Or.inr rfl) (pe_callTy0 cr_set0N (by rfl) T.n_set (by decide +kernel)))
      (pss_cons (L2H.ps_forH PO ⟨pq, ⟨hh, er.ctx⟩, List.mem_cons_self⟩ (pi_range2H (by rfl) T.n_range (pa_cons (pv 1) (pa_cons (pe_op op_add (pv 2) pe_int) pa_nil))) (pg_name (i := 4) sc_first_twice.nd rfl (by first | exact Or.inl rfl | exact Or.inr rfl))
        (pss_cons (ps_if (pt_cmpR or_sinK (pe_ix ix_list (pv 0) (pv 4) (fun _ _ => rfl)) (pv 3) rfl) (pss_one (ps_ret (pv 4))) pss_nil)
          (pss_one (ps_expr (pe_saddN (fun _ h => pe_saddK (pv 3) h) (fun _ _ => (pv 3)) (pa_cons (pe_ix ix_list (pv 0) (pv 4) (fun _ _ => rfl)) pa_nil) mono_var)))))
      (pss_one (ps_ret pe_non)))), ?_⟩
    walk_at "s"
    intro p H1 hp s1 h1
    walk_at "s"
    refine ⟨_, _, rfl, ⟨by omega, by omega, by omega, by omega⟩, ?_⟩
    refine for_range (fun k σ H' => ∃ v4 S n, σ = [some (.ref l), some (.int (i : Int)), some (.int (j : Int)), some (.ref p), v4] ∧ Same H H' ∧ H' p = some (SetK Pg w p S n) ∧ n ≤ k ∧ (∀ z, S (.inr z) = true ↔ ∃ m, i ≤ m ∧ m < i + k ∧ xat xs m = z) ∧ ∀ m, i ≤ m → m < i + k → ¬ again xs i m)
      ⟨none, _, 0, rfl, s1, h1, Nat.le_refl _, fun z => ⟨(fun e => by cases e), fun ⟨m, h1, h2, _⟩ => by omega⟩, fun m h1 h2 => by omega⟩ ?_ ?_
    · rintro k σ H2 hk ⟨v4, S, n, rfl, s2, h2, hn, hS, hno⟩
      have hs2 := s2.seq hs
      have hkl : i + k < xs.length := by omega
      walk_at "s"
      refine ⟨_, _, _, _, rfl, rfl, hs2, xat_at hkl (by omega), ?_⟩
      walk_at "s"
      refine ⟨.inr (xat xs (i + k)), p, S, n, rfl, rfl, h2, ?_⟩
      walk_at "s"
      refine ifB (fun c1 => ?_) (fun c1 => ?_)
      · have ag : again xs i (i + k) := (hS _).mp c1
        walk_at "s"
        rw [show ((i : Int) + (k : Int)) = ((i + k : Nat) : Int) by omega]
        exact q (some (i + k)) _ ⟨by omega, by omega, ag, fun m h1 h2 => hno m h1 h2⟩ s2
      · have nag : ¬ again xs i (i + k) := fun z => by rw [(hS _).mpr z] at c1; cases c1
        walk_at "s"
        refine ⟨⟨_, _, _, rfl, h2⟩, ?_⟩
        walk_at "s"
        refine ⟨_, _, _, _, rfl, rfl, hs2, xat_at hkl (by omega), ?_⟩
        refine ⟨p, .inr (xat xs (i + k)), S, n, rfl, rfl, h2, by omega, fun H3 b3 h3 => ?_⟩
        refine ⟨_, _, _, rfl, same_mutB s2 hp b3, h3, by split <;> omega, fun z => ?_, fun m h1 h2 => ?_⟩
        · rw [Bool.or_eq_true, hS z, decide_eq_true_iff]
          constructor
          · rintro (⟨m, h1, h2, e⟩ | e)
            · exact ⟨m, h1, by omega, e⟩
            · exact ⟨i + k, by omega, by omega, (Sum.inr.inj e).symm⟩
          · rintro ⟨m, h1, h2, e⟩
            by_cases c : m = i + k
            · right; rw [← e, c]
            · left; exact ⟨m, h1, by omega, e⟩
        · by_cases c : m = i + k
          · rw [c]; exact nag
          · exact hno m h1 (by omega)
    · rintro σ H2 ⟨v4, S, n, rfl, s2, h2, hn, hS, hno⟩
      walk_at "s"
      exact q none _ (fun m h1 h2 => hno m h1 (by omega)) s2
theorem ok_stretch_priceH {f : Addr} {fd : FuncData} (F : Fun K "stretch_price" "stretch_price" s_stretch_price f fd) (T : Txt K mg a) (D_priceE : DmE Pg w K mg base 1 a.Tariff "price" ["self", "here", "there"] (hotS (spPrice a))) : FnE Pg w K mg base 2 f fd ["tariff", "places", "at", "to"] (hotS (spSP K a)) := by
  refine okE F sc_stretch_price (fun _ _ vs H Q E h => ?_) (fun cdv A outer s H vs Q E pq Cq hh er hr h => ?_)
  · obtain ⟨_, _, _, _, _, _, _, _, _, rfl, _⟩ := h
    rfl
  · obtain ⟨p, d, l, rs, xs, i, j, i', j', rfl, ei, ej, hT, hs, hi, hj, q⟩ := h
    obtain ⟨dx, hob⟩ := hT.ob
    refine ⟨_, (pss_one (ps_ret (pe_mdE (pv 0) T.cl_Tariff D_priceE (hr.mono (by decide)) List.mem_cons_self hh er passC (pa_cons (pe_ix ix_list (pv 1) (pv 2) (fun _ _ => rfl)) (pa_cons (pe_ix ix_list (pv 1) (pv 3) (fun _ _ => rfl)) pa_nil))))), ?_⟩
    walk_at "s"
    refine ⟨p, dx, _, rfl, hob, prices_no d (by decide), ?_⟩
    walk_at "s"
    refine ⟨_, _, _, _, rfl, rfl, hs, xat_at hi ei, ?_⟩
    walk_at "s"
    refine ⟨_, _, _, _, rfl, rfl, hs, xat_at hj ej, ?_⟩
    refine ⟨p, d, _, _, rs, rfl, hT, fun H1 s1 => ?_⟩
    rw [look_pri]
    exact q H1 s1
theorem ok_first_dearerH {f : Addr} {fd : FuncData} (F : Fun K "first_dearer" "first_dearer" s_first_dearer f fd) (T : Txt K mg a) (D_stretch_priceE : DnE Pg w K mg base 2 "stretch_price" ["tariff", "places", "at", "to"] (hotS (spSP K a))) : FnE Pg w K mg base 3 f fd ["tariff", "places", "at", "to", "price"] (hotS (spFD K a)) := by
  refine okE F sc_first_dearer (fun _ _ vs H Q E h => ?_) (fun cdv A outer s H vs Q E pq Cq hh er hr h => ?_)
  · obtain ⟨_, _, _, _, _, _, _, _, _, _, rfl, _⟩ := h
    rfl
  · obtain ⟨p, d, l, rs, xs, i, j, i', j', n, rfl, rfl, rfl, hT, hs, hij, hj, hlen, q⟩ := h
    have PO : PassesOwn (model Pg w) (A.deeper (envOfC "first_dearer" (defScope s_first_dearer) s.heap.objs.size f cdv)) (envOfC "first_dearer" (defScope s_first_dearer) s.heap.objs.size f cdv) (cxOf (L2N.CX Pg w) Pg w K mg base N_first_dearer "first_dearer" (defScope s_first_dearer) f cdv A outer s H E).xe := passes_of rfl
    refine ⟨_, (pss_cons (L2H.ps_forH PO ⟨pq, ⟨hh, er.ctx⟩, List.mem_cons_self⟩ (pi_range2H (by rfl) T.n_range (pa_cons (pv 2) (pa_cons (pv 3) pa_nil))) (pg_name (i := 5) sc_first_dearer.nd rfl (by first | exact Or.inl rfl | exact Or.inr rfl))
        (pss_one (L2H.ps_forH PO ⟨pq, ⟨hh, er.ctx⟩, List.mem_cons_self⟩ (pi_range2H (by rfl) T.n_range (pa_cons (pe_op op_add (pv 5) pe_int) (pa_cons (pe_op op_add (pv 3) pe_int) pa_nil))) (pg_name (i := 6) sc_first_dearer.nd rfl (by first | exact Or.inl rfl | exact Or.inr rfl))
            (pss_cons (ps_set (i := 7) sc_first_dearer.nd rfl (by first | exact Or.inl rfl | exact Or.inr rfl) (pe_fnE1 D_stretch_priceE (hr.mono (by decide)) List.mem_cons_self hh er passC (pa_cons (pv 0) (pa_cons (pv 1) (pa_cons (pv 5) (pa_cons (pv 6) pa_nil))))))
              (pss_one (ps_if (PW.pt (pw_and (pt_cmpR op_notN (pv 7) pe_non (nomark _)) (pw_and1 (pt_cmpR op_gt (pv 7) (pv 4) (nomark _))))) (pss_one (ps_ret (pe_tupN (pa_cons (pv 5) (pa_cons (pv 6) pa_nil))))) pss_nil))))))
      (pss_one (ps_ret pe_non))), ?_⟩
    walk_at "s"
    refine ⟨_, _, rfl, ⟨by omega, by omega, by omega, by omega⟩, ?_⟩
    refine for_range (fun k σ H' => ∃ v5 v6 v7, σ = [some (.ref p), some (.ref l), some (.int (i : Int)), some (.int (j : Int)), some (.int n), v5, v6, v7] ∧ Same H H' ∧ ∀ k' m', i ≤ k' → k' < i + k → k' < m' → m' ≤ j → ¬ dear (pri rs) xs n k' m')
      ⟨none, none, none, rfl, Same.refl _, fun k' m' h1 h2 => by omega⟩ ?_ ?_
    · rintro k σ H2 hk ⟨v5, v6, v7, rfl, s2, hno⟩
      walk_at "s"
      refine ⟨_, _, rfl, ⟨by omega, by omega, by omega, by omega⟩, ?_⟩
      refine for_range (fun m σ H' => ∃ v6 v7, σ = [some (.ref p), some (.ref l), some (.int (i : Int)), some (.int (j : Int)), some (.int n), some (.int ((i : Int) + (k : Int))), v6, v7] ∧ Same H H' ∧ ∀ m', i + k < m' → m' < i + k + 1 + m → ¬ dear (pri rs) xs n (i + k) m')
        ⟨_, _, rfl, s2, fun m' h1 h2 => by omega⟩ ?_ ?_
      · rintro m σ H3 hm ⟨v6, v7, rfl, s3, hno2⟩
        walk_at "s"
        refine ⟨p, d, l, rs, xs, i + k, i + k + 1 + m, _, _, rfl, by omega, by omega, hT.same s3, s3.seq hs, by omega, by omega, fun H4 s4 => ?_⟩
        have s04 := Same.trans s3 s4
        walk_at "s"
        have next : ¬ dear (pri rs) xs n (i + k) (i + k + 1 + m) → ∀ m', i + k < m' → m' < i + k + 1 + (m + 1) → ¬ dear (pri rs) xs n (i + k) m' := fun c m' h1 h2 => by
          by_cases e : m' = i + k + 1 + m
          · rw [e]; exact c
          · exact hno2 m' h1 (by omega)
        cases e : stp (pri rs) xs (i + k) (i + k + 1 + m) with
        | none =>
          walk_at "s"
          exact ⟨_, _, rfl, s04, next fun ⟨q0, e0, _⟩ => by rw [e] at e0; cases e0⟩
        | some r =>
          walk_at "s"
          refine ifD (fun c1 => ?_) (fun c1 => ?_)
          · have hd : dear (pri rs) xs n (i + k) (i + k + 1 + m) := ⟨r, e, c1⟩
            walk_at "s"
            refine ⟨(by simp), fun t H5 ht s5 h5 => ?_⟩
            refine q (some (i + k, i + k + 1 + m)) _ _ ⟨by omega, by omega, by omega, hd, fun k' m' h1 h2 h3 h4 => hno k' m' h1 h2 h3 h4, fun m' h1 h2 => hno2 m' h1 h2⟩ ⟨t, rfl, ?_⟩ (Same.trans s04 s5)
            rw [h5, show ((i : Int) + (k : Int)) = ((i + k : Nat) : Int) by omega, show (((i + k : Nat) : Int) + 1 + (m : Int)) = ((i + k + 1 + m : Nat) : Int) by omega]
          · exact ⟨_, _, rfl, s04, next fun ⟨q0, e0, h0⟩ => by rw [e] at e0; cases e0; exact c1 h0⟩
      · rintro σ H3 ⟨v6, v7, rfl, s3, hno2⟩
        refine ⟨_, _, _, rfl, s3, fun k' m' h1 h2 h3 h4 => ?_⟩
        by_cases e : k' = i + k
        · rw [e] at h3 ⊢
          exact hno2 m' h3 (by omega)
        · exact hno k' m' h1 (by omega) h3 h4
    · rintro σ H2 ⟨v5, v6, v7, rfl, s2, hno⟩
      walk_at "s"
      exact q none _ _ (fun k' m' h1 h2 h3 => hno k' m' h1 (by omega) h2 h3) rfl s2
theorem ok_fault_ofH {f : Addr} {fd : FuncData} (F : Fun K "fault_of" "fault_of" s_fault_of f fd) (T : Txt K mg a) (D_stretch_priceE : DnE Pg w K mg base 2 "stretch_price" ["tariff", "places", "at", "to"] (hotS (spSP K a))) (D_first_twiceE : DnE Pg w K mg base 1 "first_twice" ["places", "at", "to"] (hotS (spFT K)))
    (D_first_dearerE : DnE Pg w K mg base 3 "first_dearer" ["tariff", "places", "at", "to", "price"] (hotS (spFD K a))) : FnE Pg w K mg base 4 f fd ["tariff", "places", "at", "to"] (hotS (spFO K a)) := by
  refine okE F sc_fault_of (fun _ _ vs H Q E h => ?_) (fun cdv A outer s H vs Q E pq Cq hh er hr h => ?_)
  · obtain ⟨_, _, _, _, _, _, _, _, _, rfl, _⟩ := h
    rfl
  · obtain ⟨p, d, l, rs, xs, i, j, i', j', rfl, rfl, rfl, hT, hs, hij, hj, hlen, q⟩ := h
    refine ⟨_, (pss_cons (ps_set (i := 4) sc_fault_of.nd rfl (by first | exact Or.inl rfl | exact Or.inr rfl) (pe_fnE1 D_stretch_priceE (hr.mono (by decide)) List.mem_cons_self hh er passC (pa_cons (pv 0) (pa_cons (pv 1) (pa_cons (pv 2) (pa_cons (pv 3) pa_nil))))))
      (pss_cons (ps_if (pt_cmpR op_isN (pv 4) pe_non (nomark _)) (pss_one (ps_ret (pe_tupN (pa_cons pe_str pa_nil)))) pss_nil)
      (pss_cons (ps_set (i := 5) sc_fault_of.nd rfl (by first | exact Or.inl rfl | exact Or.inr rfl) (pe_fnE1 D_first_twiceE (hr.mono (by decide)) List.mem_cons_self hh er passC (pa_cons (pv 1) (pa_cons (pv 2) (pa_cons (pv 3) pa_nil)))))
      (pss_cons (ps_if (pt_cmpR op_notN (pv 5) pe_non (nomark _)) (pss_one (ps_ret (pe_tupN (pa_cons pe_str (pa_cons (pv 5) pa_nil))))) pss_nil)
      (pss_cons (ps_set (i := 6) sc_fault_of.nd rfl (by first | exact Or.inl rfl | exact Or.inr rfl) (pe_fnE1 D_first_dearerE (hr.mono (by decide)) List.mem_cons_self hh er passC (pa_cons (pv 0) (pa_cons (pv 1) (pa_cons (pv 2) (pa_cons (pv 3) (pa_cons (pv 4) pa_nil)))))))
      (pss_cons (ps_if (pt_cmpR op_notN (pv 6) pe_non (nomark _)) (pss_cons (ps_asg (pv 6) (pg_tupA (hotIn_of ⟨pq, ⟨hh, er.ctx⟩, List.mem_cons_self⟩) (pgs_cons (pg_name (i := 7) sc_fault_of.nd rfl (by first | exact Or.inl rfl | exact Or.inr rfl)) (pgs_cons (pg_name (i := 8) sc_fault_of.nd rfl (by first | exact Or.inl rfl | exact Or.inr rfl)) pgs_nil))))
        (pss_one (ps_ret (pe_tupN (pa_cons pe_str (pa_cons (pv 7) (pa_cons (pv 8) pa_nil))))))) pss_nil)
      (pss_one (ps_ret pe_non)))))))), ?_⟩
    walk_at "s"
    refine ⟨p, d, l, rs, xs, i, j, _, _, rfl, rfl, rfl, hT, hs, by omega, hj, fun H1 s1 => ?_⟩
    walk_at "s"
    cases e : stp (pri rs) xs i j with
    | none =>
      walk_at "s"
      refine iteT ?_
      walk_at "s"
      refine ⟨(by simp), fun t H2 ht s2 h2 => ?_⟩
      exact q .price _ _ (.price e) ⟨t, rfl, h2⟩ (Same.trans s1 s2)
    | some n =>
      walk_at "s"
      refine ⟨l, xs, i, j, _, _, rfl, rfl, rfl, s1.seq hs, by omega, hj, hlen, fun r H2 hr2 s2 => ?_⟩
      have s12 := Same.trans s1 s2
      walk_at "s"
      cases r with
      | some k =>
        obtain ⟨h1, h2, h3, h4⟩ := hr2
        walk_at "s"
        refine ⟨(by simp), fun t H3 ht s3 h5 => ?_⟩
        exact q (.twice k) _ _ (.twice e h1 h2 h3 h4) ⟨t, rfl, h5⟩ (Same.trans s12 s3)
      | none =>
        have hno : ∀ l, i ≤ l → l ≤ j → ¬ again xs i l := hr2
        walk_at "s"
        refine ⟨p, d, l, rs, xs, i, j, _, _, n, rfl, rfl, rfl, hT.same s12, s12.seq hs, by omega, hj, hlen, fun r v H3 hd hv s3 => ?_⟩
        have s13 := Same.trans s12 s3
        walk_at "s"
        cases r with
        | none =>
          have ev : v = .non := hv
          subst ev
          walk_at "s"
          exact q .none _ _ (.none e hno hd) rfl s13
        | some km =>
          obtain ⟨k, m⟩ := km
          obtain ⟨h1, h2, h3, h4, h5, h6⟩ := hd
          obtain ⟨t, rfl, ht⟩ := hv
          walk_at "s"
          refine ⟨_, _, rfl, SqT.of ht, rfl, _, _, rfl, _, _, rfl, rfl, ?_⟩
          walk_at "s"
          refine ⟨(by simp), fun u H4 hu s4 h7 => ?_⟩
          exact q (.dearer k m) _ _ (.dearer e hno h1 h2 h3 h4 h5 h6) ⟨u, rfl, h7⟩ (Same.trans s13 s4)
end
end Fb

namespace Fb
open PySem PySem.Spec PyProof.Rows L2 HotX
/-! ### every walk of a comprehension in a hot def is one of a for in it -/
theorem TurnA.toH {Pg : Program} {w : World} {K : PySem.W.Frag} {tg : Expr} {J : It} {own : List Addr} {it : Addr} {st : Nat → Heap → Prop} (T : TurnA Pg w K tg J own it st) : L2H.TurnH Pg w K tg J own it st where
  mem := T.mem
  obj := T.obj
  keep := T.keep
  item := fun X e1 e2 e3 _ n pins z σ H E I free t go => T.item X e1 e2 e3 n pins z σ H E I free t go
  done := fun X e1 e2 e3 hc n pins z σ H E I free t stop => by
    obtain ⟨x1, hot⟩ := hc.at I
    exact T.done X e1 e2 e3 x1 n pins z σ H E hot I free t stop
  self := T.self
theorem PIA.toH {X : Cx} {tg l : Expr} {wi : TI} (h : PIA X tg l wi) : L2H.PIH X tg l wi := ⟨fun pins z σ H R I wish => thn (h.run pins z σ H R I wish) fun v z1 got => thn got fun itv z2 ⟨it, own, st, J, H', e, I2, T, t0, free, r⟩ => ⟨it, own, st, J, H', e, I2, T.toH, t0, free, r⟩⟩
end Fb

namespace Fb
open PySem PySem.Spec PyProof.Rows L2 HotX
/-! ### the error at hand -/
/-- in every state of X the error q, of the class C, its context None, is handled and stands apart -/
structure HotB (X : Cx) (q : Addr × Obj) (C : Addr) : Prop where
  hh : X.A.handled = some (.ref q.1)
  er : Err1 C q
  ok : ∀ (pins : List (Addr × Obj)) (σ : L2.St) (H : Hp) (s : Shared), Inv X pins σ H s → s.heap.get? q.1 = some q.2 ∧ H q.1 = none ∧ q.1 ≠ X.env.locals ∧ q.1 ∉ X.fs
theorem Err1.nocell {C : Addr} {q : Addr × Obj} (e : Err1 C q) : ∀ v, q.2.data ≠ .cell v := fun v z => by
  obtain ⟨fs, h, _⟩ := e.ctx
  rw [h] at z
  cases z
theorem hotB_pn {X : Cx} {q : Addr × Obj} {C : Addr} (m : q ∈ X.pn) (hh : X.A.handled = some (.ref q.1)) (er : Err1 C q) : HotB X q C := ⟨hh, er, fun _ _ _ _ I => let ⟨a, b, c, d, _⟩ := I.pin q (List.mem_append_left _ m); ⟨a, b, c, d⟩⟩
theorem hotB_base {X : Cx} {q : Addr × Obj} {C : Addr} (g : X.s_0.heap.get? q.1 = some q.2) (n : X.H_0 q.1 = none) (nf : q.1 ∉ X.fs) (nx : q.1 ∉ X.ex) (hh : X.A.handled = some (.ref q.1)) (er : Err1 C q) : HotB X q C :=
  ⟨hh, er, fun _ _ _ _ I => ⟨I.base.keep _ _ g n nf nx, I.base.free _ _ g n nx, fun z => by
    have h1 := Heap.lt_size g
    have h2 := I.ok.above
    rw [z] at h1
    exact absurd (Nat.lt_of_lt_of_le h1 h2) (Nat.lt_irrefl _), nf⟩⟩
section
variable {X : Cx} {q : Addr × Obj} {C : Addr} {pins : List (Addr × Obj)} {σ : L2.St} {H : Hp} {s : Shared}
theorem HotB.hotIn (h : HotB X q C) : HotIn X := fun pins σ H s I => let ⟨fs, d, c⟩ := h.er.ctx; ⟨q.1, h.hh, q.2, fs, (h.ok pins σ H s I).1, d, c⟩
theorem HotB.up (h : HotB X q C) (I : Inv X pins σ H s) : Inv (X.tr (q :: X.pn) X.xe) pins σ H s := ⟨I.ok.toTry _ _, I.os, I.bare, I.base, I.loc, I.cell, I.free, I.freeC, fun p hp => by
  have hp : p ∈ q :: (X.pn ++ pins) := hp
  rcases List.mem_cons.mp hp with e | e
  · rw [e]
    obtain ⟨a, b, c, d⟩ := h.ok pins σ H s I
    exact ⟨a, b, c, d, h.er.nocell⟩
  · exact I.pin p e, I.hok, I.len⟩
theorem HotB.down (_ : HotB X q C) (I : Inv (X.tr (q :: X.pn) X.xe) pins σ H s) : Inv X pins σ H s := ⟨Cx.Ok.ofTry I.ok, I.os, I.bare, I.base, I.loc, I.cell, I.free, I.freeC, fun p hp => I.pin p (List.mem_cons_of_mem q hp), I.hok, I.len⟩
/-- an expression, with the error among the pinned -/
theorem _root_.L2.PE.pin {e : Expr} {t : TE} (h : HotB X q C) (he : PE (X.tr (q :: X.pn) X.xe) e t) : PE X e t := ⟨fun pins s σ H Q I w => thn (he.run pins s σ H Q (h.up I) w) fun _ _ ⟨v, H1, I1, r, q1⟩ => ⟨v, H1, h.down I1, r, q1⟩⟩
end
section
variable {X : Cx}
/-- a list's comprehension while an error is handled -/
theorem pe_lcP {p : Addr × Obj} {Ce : Addr} {elt tg iter : Expr} {ifs : List Expr} {sc : Scope} {own : List (Str × Nat)} {pos : Pos} {wi : TI} {g : TG} {tt : TT} {te : TE} (pm : p ∈ X.pn) (hh : X.A.handled = some (.ref p.1)) (er : Err1 Ce p) (nd : X.N.Nodup) (hi : PIA X tg iter wi) (ok : BlkOk X.N X.env.scope sc own)
    (hg : ∀ (z : Shared) (H : Hp) (C : Addr) (cl : List (Str × Addr)) (fp : List Addr), HotB (X.blk z H sc (compEnvC sc cl C X.env) fp) p Ce → PG (X.blk z H sc (compEnvC sc cl C X.env) fp) tg g)
    (ht : ∀ (z : Shared) (H : Hp) (C : Addr) (cl : List (Str × Addr)) (fp : List Addr), HotB (X.blk z H sc (compEnvC sc cl C X.env) fp) p Ce → PTs (X.blk z H sc (compEnvC sc cl C X.env) fp) ifs tt)
    (he : ∀ (z : Shared) (H : Hp) (C : Addr) (cl : List (Str × Addr)) (fp : List Addr), HotB (X.blk z H sc (compEnvC sc cl C X.env) fp) p Ce → PE (X.blk z H sc (compEnvC sc cl C X.env) fp) elt te)
    (hs : ∀ x, foldedSetIterable iter X.env x = pure x := by intro _; rfl) : PE X (.ListComp elt [⟨tg, iter, ifs, 0⟩] sc pos) (tLc wi g tt te (own.map (·.2))) := by
  refine ⟨fun pins z0 σ H Q I wish => ?_⟩
  rw [eval_ListComp]
  obtain ⟨fe, de, cx⟩ := er.ctx
  have frees : ∀ y ∈ sc.names, y.2 = .free → ∃ c, X.env.cells.lookup y.1 = some c := fun y hy e => (ok.free y hy e).elim (fun k => I.ok.has _ (.inl k)) fun k => I.ok.has _ (.inr k)
  refine wpAny_comprehension_free rfl hs (closure_ok frees) ok.kind (fun y hy e => by rw [ok.uniq y hy, e]) (thn (hi.run pins z0 σ H _ I wish) fun xv z1 hx => thn hx fun itv z2 got => ?_)
  obtain ⟨it, fp, tn, J, H2, rfl, I2, T, t2, f2, q⟩ := got
  refine wpAny_newObj_type (newEnv_comp ?_) (Nat.zero_le _)
  generalize eD : z2.heap.objs.size = D
  have freeD : H2 D = none := I2.hok.fresh (Nat.le_of_eq eD)
  obtain ⟨W, ⟨m0, w0⟩, turn⟩ := q D freeD
  generalize e3 : ({ z2 with heap := z2.heap.push { cls := .type "list", data := .seq ([] : List Value).toArray } } : Shared) = z3
  have I3 : Inv X pins σ (upd H2 D (.lst [])) z3 := by
    rw [← e3]
    refine I2.laid (t' := z2.toks) (fun b o e => Heap.get?_push_of_some _ e) (Nat.le_of_eq eD) ⟨Nat.zero_le _, [], 0, .nil, ?_⟩
    rw [← eD]
    exact Heap.get?_push_size _ rfl
  have h3 : z3.heap = z2.heap.push { cls := .type "list", data := .seq ([] : List Value).toArray } := by rw [← e3]
  have below : ∀ c ∈ fp, c < z2.heap.objs.size := fun c hc => by
    obtain ⟨ob, e, _⟩ := T.obj _ _ t2 c hc
    exact Heap.lt_size e
  have f3 : ∀ c ∈ fp, FpOk X pins (upd H2 D (.lst [])) c ∧ c < z3.heap.objs.size := fun c hc => by
    have lt := below c hc
    refine ⟨⟨?_, (f2 c hc).2⟩, by rw [h3, Heap.size_push]; exact Nat.lt_succ_of_lt lt⟩
    rw [upd_ne (by rw [← eD]; exact Nat.ne_of_lt lt)]
    exact (f2 c hc).1
  have t3 : tn 0 z3.heap := T.keep _ _ _ t2 fun c _ o e => by rw [h3]; exact Heap.get?_push_of_some _ e
  have I4 := block_start I3 ok nd f3
  -- the error stands where the block begins
  have P3 := I3.pin p (List.mem_append_left _ pm)
  have pstk : p.1 ∉ frs X.stack := fun z => (List.mem_cons.mp (I3.stkSub p.1 z)).elim P3.2.2.1 P3.2.2.2.1
  have pfp : p.1 ∉ fp := fun z => (f3 p.1 z).1.2.2.2.2.2 p (List.mem_append_left _ pm) rfl
  have hotI : HotB (X.blk z3 (upd H2 D (.lst [])) sc (compEnvC sc (cellsFrom (z3.heap.objs.size + 1) sc.names (cloFrom X.env.cells sc.names [])) z3.heap.objs.size X.env) fp) p Ce := hotB_base P3.1 P3.2.1 pstk pfp hh er
  have pg := hg z3 (upd H2 D (.lst [])) z3.heap.objs.size (cellsFrom (z3.heap.objs.size + 1) sc.names (cloFrom X.env.cells sc.names [])) fp hotI
  have pt := ht z3 (upd H2 D (.lst [])) z3.heap.objs.size (cellsFrom (z3.heap.objs.size + 1) sc.names (cloFrom X.env.cells sc.names [])) fp hotI
  have pe := he z3 (upd H2 D (.lst [])) z3.heap.objs.size (cellsFrom (z3.heap.objs.size + 1) sc.names (cloFrom X.env.cells sc.names [])) fp hotI
  clear hotI
  show codeAny _ _ (.compStart (.ListComp elt [⟨tg, iter, ifs, 0⟩] sc pos) 0 (.ref it) (.ref D) (compEnvC sc (cellsFrom (z3.heap.objs.size + 1) sc.names (cloFrom X.env.cells sc.names [])) z3.heap.objs.size X.env)) (compPost (model X.prog X.w) X.A X.xe none _ (.ref D) z3.heap.objs.size)
    { z3 with heap := pushCells (z3.heap.push { cls := .type "dict", data := .dict #[] }) sc.names }
  have none3 : ∀ c ∈ fp, (upd H2 D (.lst [])) c = none := fun c hc => (f3 c hc).1.1
  generalize ece : compEnvC sc (cellsFrom (z3.heap.objs.size + 1) sc.names (cloFrom X.env.cells sc.names [])) z3.heap.objs.size X.env = ce at I4 pg pt pe ⊢
  have cL : ce.locals = z3.heap.objs.size := by rw [← ece]; rfl
  generalize eH : upd H2 D (.lst []) = H3 at I3 I4 pg pt pe w0 none3 f3 P3
  generalize e4 : ({ z3 with heap := pushCells (z3.heap.push { cls := .type "dict", data := .dict #[] }) sc.names } : Shared) = z4 at I4 ⊢
  have t4 : tn 0 z4.heap := T.keep _ _ _ t3 fun c _ o e => by rw [← e4]; exact pushCells_keeps _ _ _ _ (Heap.get?_push_of_some _ e)
  have hotB : ∀ {σ' : L2.St} {H' : Hp} {z : Shared} {ps : List (Addr × Obj)}, Inv (X.blk z3 H3 sc ce fp) ps σ' H' z → HotAt X.A p.1 z.heap := fun {σ' H' z ps} I' => ⟨hh, p.2, fe, I'.base.keep p.1 p.2 P3.1 P3.2.1 pstk pfp, de, cx⟩
  have stay : ∀ {σ' : L2.St} {H' : Hp} {z : Shared}, Inv (X.blk z3 H3 sc ce fp) [] σ' H' z → (∀ c ∈ fp, H' c = none) → ∀ c ∈ fp, FpOk (X.blk z3 H3 sc ce fp) [] H' c := fun {σ' H' z} I' hn c hc =>
    ⟨hn c hc, (I'.ok.exf c hc).1, I'.ok.exfs c hc, .inl hc, fun y a e => (I'.ok.exf c hc).2 y a e, fun r hr => nomatch (show r ∈ ([] : List (Addr × Obj)) from hr)⟩
  refine codeAny_compStart_list ?_ (T.self X.A 0 _ _ _ t4 ?_)
  all_goals
    refine compLoop_any (fun k z => ∃ n H', Inv (X.blk z3 H3 sc ce fp) [] (wipe σ (own.map (·.2))) H' z ∧ tn n z.heap ∧ (∀ c ∈ fp, H' c = none) ∧ W n k H') ?_ m0 ⟨0, H3, I4, t4, none3, w0⟩
    rintro k z5 ⟨n, H5, I5, t5, none5, w5⟩
    rcases turn n k H5 w5 with ⟨stop, qq⟩ | ⟨go, Nx, dec, step⟩
    · refine thnF (T.done (X.blk z3 H3 sc ce fp) rfl rfl rfl p.1 n [] z5 _ H5 (fun _ _ => False) (hotB I5) I5 (stay I5 none5) t5 stop) fun r z6 got => ?_
      obtain ⟨rfl, I6⟩ := got
      have I7 : Inv X pins σ H5 z6 := I3.call' (ch := fp) I6.os I6.base I6.hok I6.bare fun c hc => ⟨(f3 c hc).1.2.2.2.1, (f3 c hc).1.2.1, (f3 c hc).1.2.2.2.2.1, (f3 c hc).1.2.2.2.2.2⟩
      have nC : H5 z3.heap.objs.size = none := by
        have y : H5 ce.locals = none := I6.free
        rw [cL] at y
        exact y
      obtain ⟨m, hn, _⟩ := I6.loc
      have hn : z6.heap.Ns ce.locals m := hn
      rw [cL] at hn
      obtain ⟨a0, a1, a2, a3, a4, a5⟩ := I3.fpOk (Nat.le_refl _) nC
      exact ⟨m, hn, fun h'' sb => ⟨.ref D, H5, I7.turned (t' := z6.toks) (fun b o nb e => (sb.2 b nb).trans e) a0 a1 a3 a4 a5, rfl, qq⟩⟩
    · refine thnF (T.item (X.blk z3 H3 sc ce fp) rfl rfl rfl n [] z5 _ H5 (fun _ _ => False) I5 (stay I5 none5) t5 go) fun r z6 got => ?_
      obtain ⟨u, rfl, h6⟩ := got
      refine thnF h6 fun _ z7 got => ?_
      obtain ⟨x, H7, I7, r7, y7, t7, none7⟩ := got
      refine thnF (pg.run _ z7 _ H7 x u _ (I7.pinned (stay I7 none7) (T.obj _ _ t7)) r7 (step x H7 y7)) fun _ z8 got => ?_
      obtain ⟨σ8, H8, I8, wiped, q8⟩ := got
      refine thnF (pt.run _ z8 σ8 H8 _ I8 q8) fun b z9 got => ?_
      obtain ⟨H9, I9, q9⟩ := got
      have again : ∀ {z : Shared} {H' : Hp}, Inv (X.blk z3 H3 sc ce fp) ([] ++ pinsAt fp z7.heap) σ8 H' z → Nx H' → ∃ m, m < k ∧ ∃ n H', Inv (X.blk z3 H3 sc ce fp) [] (wipe σ (own.map (·.2))) H' z ∧ tn n z.heap ∧ (∀ c ∈ fp, H' c = none) ∧ W n m H' := fun {z H'} I' nx => by
        obtain ⟨m', lt, w'⟩ := dec H' nx
        have same : ∀ c ∈ fp, ∀ o, z7.heap.get? c = some o → z.heap.get? c = some o ∧ H' c = none := fun c hc o e =>
          let y := I'.pin (c, o) (List.mem_append_right _ (List.mem_append_right _ (mem_pinsAt hc e)))
          ⟨y.1, y.2.1⟩
        refine ⟨m', lt, n + 1, H', (I'.unpinned (pins := [])).weak (by rw [← wiped, wipe_length]) (fun j v e => ?_), T.keep _ _ _ t7 fun c hc o e => (same c hc o e).1, fun c hc => ?_, w'⟩
        · rw [← wiped] at e
          exact (wipe_some e).1
        · obtain ⟨o, e, _⟩ := T.obj _ _ t7 c hc
          exact (same c hc o e).2
      cases b with
      | false =>
        rw [if_neg Bool.false_ne_true] at q9 ⊢
        exact again I9 q9
      | true =>
        rw [if_pos rfl] at q9 ⊢
        refine thnF (pe.run _ z9 σ8 H9 _ I9 q9) fun y z10 got => ?_
        obtain ⟨yv, H10, I10, r10, acc, hD, room, nx⟩ := got
        exact app_ok (X := X.blk z3 H3 sc ce fp) I10 hD room r10 fun z11 I11 => again I11 nx
end
/-! ### range(a, b) in a comprehension; reversed(range(n)) in a for -/
theorem turn_rangeCA {Pg : Program} {w : World} {K : PySem.W.Frag} {tg : Expr} (it : Addr) (lo c : Int) (m : Nat) : TurnA Pg w K tg (Itc lo c m) [it] it (fun n h => IsRangeIter h it (lo + (n : Nat) * c) ((m : Int) - (n : Nat)) c) where
  mem := List.mem_singleton.mpr rfl
  obj := fun n h t b hb => by
    rw [List.mem_singleton.mp hb]
    exact ⟨_, t, fun v z => nomatch (show Data.fields _ = Data.cell v from z)⟩
  keep := fun n h h' t k => k it (List.mem_singleton.mpr rfl) _ t
  item := fun X e1 e2 e3 n pins z σ H E I free t go => by
    subst e1 e2 e3
    have F := free it (List.mem_singleton.mpr rfl)
    have lt : n < m := go
    refine wpAny_pyNext_range_item t (by omega) fun h' t' but => ?_
    have t2 : IsRangeIter h' it (lo + ((n + 1 : Nat) : Int) * c) ((m : Int) - ((n + 1 : Nat) : Int)) c := by
      rw [show lo + ((n + 1 : Nat) : Int) * c = lo + ((n : Nat) : Int) * c + c by rw [Int.natCast_add, Int.add_mul]; omega, show (m : Int) - ((n + 1 : Nat) : Int) = (m : Int) - ((n : Nat) : Int) - 1 by omega]
      exact t'
    have I' : Inv X pins σ H { z with heap := h', toks := z.toks + 1 } := I.turned (fun d ob nc g => (but.2 d nc).trans g) F.1 F.2.1 F.2.2.2.1 F.2.2.2.2.1 F.2.2.2.2.2
    exact ⟨_, rfl, go_of (s := { z with heap := h', toks := z.toks + 1 }) (n := "range_iterator") t2 rfl rfl (by decide) ⟨.int (lo + (n : Nat) * c), H, I', ⟨z.toks, rfl⟩, ⟨rfl, rfl⟩, t2, fun b hb => (free b hb).1⟩⟩
  done := fun X e1 e2 e3 x1 n pins z σ H E hot I free t stop => by
    subst e1 e2 e3
    have F := free it (List.mem_singleton.mpr rfl)
    exact pyNext_range_end_hot hot t (by have : m ≤ n := stop; omega) fun h' k => ⟨rfl, I.turned (t' := z.toks) (fun d ob _ g => k d ob g) F.1 F.2.1 F.2.2.2.1 F.2.2.2.2.1 F.2.2.2.2.2⟩
  self := fun _ _ _ _ _ t q => wpAny_pyIter_rangeiter t q
theorem pi_revRA {X : Cx} {tg e : Expr} {tr : L2.St → Hp → (Int → Int → Hp → Prop) → Prop} {p pos : Pos} (hg : Gl X "reversed") (hm : X.mg "reversed" = none) (he : PRg X e tr) (hs : starEach [e] X.env = (false, eval e X.env) :: starEach [] X.env := by rfl) :
    PIA X tg (.Call (.Name "reversed" p) [e] [] pos) (iRevR tr) := ⟨fun pins z σ H R I wish => by
  refine Call_ (ld_blt I hg hm PyProof.Rows.boot_reversed (PyProof.Rows.callWith_type1 (args_cons (thn (he pins z σ H _ I wish) fun u z1 got => args_nil ?_) hs) hs rfl))
  obtain ⟨r, a, b, t, w1, v, H1, rfl, hr, I1, b1, b2, b3, b4, q⟩ := got
  have hn : Builtin.Range.rangeSize a b 1 = (((b - a).toNat : Nat) : Int) := rangeSize_nat a b
  refine call_reversed_range hr (smallRev_one b1 b2 b3 b4) (wpAny_pyIter_rangeiter (Heap.get?_push_size _ rfl) ?_)
  refine pi_oneA I1 (fun c o g => Heap.get?_push_of_some _ g) (turn_rangeCA _ (a + (((b - a).toNat : Nat) : Int) - 1) (-1) (b - a).toNat) ?_ q
  show IsRangeIter _ _ (a + (((b - a).toNat : Nat) : Int) - 1 + ((0 : Nat) : Int) * (-1)) ((((b - a).toNat : Nat) : Int) - ((0 : Nat) : Int)) (-1)
  rw [show a + (((b - a).toNat : Nat) : Int) - 1 + ((0 : Nat) : Int) * (-1) = a + (Builtin.Range.rangeSize a b 1 - 1) * 1 by rw [hn]; omega, show (((b - a).toNat : Nat) : Int) - ((0 : Nat) : Int) = Builtin.Range.rangeSize a b 1 by rw [hn]; omega]
  exact Heap.get?_push_size _ rfl⟩
theorem pi_range2A {X : Cx} {tg x y : Expr} {t : TA} {p pos : Pos} (gl : Gl X "range") (no : X.mg "range" = none) (both : PA X [x, y] t) (s2 : starEach [x, y] X.env = [(false, eval x X.env), (false, eval y X.env)] := by rfl) (s1 : starEach [y] X.env = [(false, eval y X.env)] := by rfl) :
    PIA X tg (.Call (.Name "range" p) [x, y] [] pos) (iRng2 t) := ⟨fun pins z σ H R I wish => by
  refine Call_ (ld_blt I gl no boot_range (PyProof.Rows.callWith_type1 (thn (both.run pos pins z σ H _ I wish) fun us z1 got => ?_) (by rw [s2, s1]) (by rw [s1]; rfl)))
  obtain ⟨vs, H1, I1, rel, lo, hi, ev, ⟨b1, b2, b3, b4⟩, q⟩ := got
  subst ev
  match us, rel with
  | _, .cons ⟨ta, ea⟩ (.cons ⟨tb, eb⟩ .nil) =>
    subst ea
    subst eb
    refine call_range_2 (wpAny_pyIter_range (IsRange.new ..) (small_one b1 b2 b3 b4) ?_)
    have sz : ∀ (o : Obj), (z1.heap.push o).objs.size = z1.heap.objs.size + 1 := fun o => Heap.size_push ..
    refine ⟨_, [_], _, _, H1, rfl, I1.kept fun b o e => Heap.get?_push_of_some _ (Heap.get?_push_of_some _ e), turn_rangeA _ lo (hi - lo).toNat, ?_, fun c hc => ?_, q⟩
    · show IsRangeIter _ _ (lo + ((0 : Nat) : Int) * 1) ((((hi - lo).toNat : Nat) : Int) - ((0 : Nat) : Int)) 1
      rw [show lo + ((0 : Nat) : Int) * 1 = lo by simp, show (((hi - lo).toNat : Nat) : Int) - ((0 : Nat) : Int) = Builtin.Range.rangeSize lo hi 1 by rw [rangeSize_one]; split <;> omega]
      exact Heap.get?_push_size _ rfl
    · rw [List.mem_singleton.mp hc]
      exact I1.fpOk (Nat.le_of_lt (by rw [sz]; omega)) (I1.hok.fresh (Nat.le_of_lt (by rw [sz]; omega)))⟩
end Fb

namespace Fb
open PySem PySem.Spec PyProof.Rows L2 HotX PySem.W
/-! ### min(found, default=None) while an error is handled -/
section
variable {prog : Program} {w : World} {A : Around} {E : Value → Shared → Prop} {s : Shared}
theorem hot_min {x1 l : Addr} {ob : Obj} {fe its : Array Value} {xs : List (Tup Int)} {d : Value} {Q : Value → Shared → Prop} (hh : A.handled = some (.ref x1)) (ge : s.heap.get? x1 = some ob) (de : ob.data = .fields fe) (cx : fe[2]? = some .none)
    (hl : s.heap.IsList l its) (hold : HoldAll s.heap its.toList xs) (room : A.units + 64 < cLine) (q0 : xs = [] → ∀ h' tk, (∀ b o, s.heap.get? b = some o → h'.get? b = some o) → Q d { s with heap := h', toks := tk })
    (q1 : ∀ (y : Tup Int) (ys : List (Tup Int)) (i : Nat) v h' tk, xs = y :: ys → its[i]? = some v → PySem.W.Holds h' v (minOf y ys) → (∀ b o, s.heap.get? b = some o → h'.get? b = some o) → Q v { s with heap := h', toks := tk }) :
    wpAny (model prog w) A (call (.builtin "min") [.ref l] [(Str.ofString "default", d)]) Q E s := by
  obtain ⟨as, rd⟩ := hold
  have szs : its.size = (xs.map Datum.toD).length := readsAll_len rd
  have lt : l < s.heap.objs.size := by obtain ⟨_, e, _⟩ := hl; exact Heap.lt_size e
  have dep : PyData.depthAll (xs.map Datum.toD) ≤ Datum.depth (Tup Int) := depthAll_map xs
  have dep2 : Datum.depth (Tup Int) ≤ 60 := by decide
  refine call_min_walkD (wpAny_pyIter_list hl ?_)
  refine ⟨s.heap.objs.size, _, _, _, _, _, _, s.heap, (fun i j => dataLt ((xs.map Datum.toD).getD i .none) ((xs.map Datum.toD).getD j .none)), rfl, (walk_listA (A := A.in1) (ob := ob) hh de cx (Nat.ne_of_lt lt) its).toS,
    ⟨⟨_, Heap.get?_push_size _ rfl, rfl, rfl⟩, hl.push _, Heap.get?_push_of_some _ ge⟩, fun b hb => ?_, fun b o e hb => ?_, fun b o e => Heap.get?_push_of_some _ e, fun hz s' m => ?_, fun hp => ⟨cmpIn_lt (A := A.in1) rd (alikeAll_datum xs) ?_, fun v s' hP m => ?_⟩⟩
  · show b < (s.heap.push _).objs.size
    rw [Heap.size_push]
    have hb : b = s.heap.objs.size ∨ b = l ∨ b = x1 := by simpa using hb
    rcases hb with z | z | z <;> rw [z]
    · exact Nat.lt_succ_self _
    · exact Nat.lt_succ_of_lt lt
    · exact Nat.lt_succ_of_lt (Heap.lt_size ge)
  · exact Nat.lt_irrefl _ ((List.mem_singleton.mp hb) ▸ Heap.lt_size e)
  · obtain ⟨h', tk, rfl, k⟩ := moved_old rfl rfl m
    exact q0 (List.map_eq_nil_iff.mp (List.eq_nil_of_length_eq_zero (szs.symm.trans hz))) h' tk k
  · show A.units + 1 + PyData.depthAll (xs.map Datum.toD) < cLine
    omega
  · obtain ⟨h', tk, rfl, k⟩ := moved_old rfl rfl m
    obtain ⟨bs, r, _, _, _⟩ := readsAll_atA rd _ v hP
    cases xs with
    | nil => exact absurd hp (by rw [szs]; exact Nat.lt_irrefl 0)
    | cons y ys =>
      have e1 : its.size - 1 = (ys.map Datum.toD).length := by rw [szs]; rfl
      have e2 := (argBest_fold dataLt PyData.none (Datum.toD y) (ys.map Datum.toD) (ys.map Datum.toD).length (Nat.le_refl _)).2
      rw [List.take_length] at e2
      rw [List.map_cons, e1] at r
      refine q1 y ys _ v h' tk rfl hP ⟨bs, reads_keeps k ?_⟩ k
      rw [← minD_map]
      unfold minD
      rw [← e2]
      exact r
end
theorem cr_minTH {X : Cx} {q : Addr × Obj} {C : Addr} (hb : HotB X q C) (hu : X.A.units + 64 < cLine) : CallRK X (.builtin "min") [Str.ofString "default"] (rMinT X.K) := by
  intro pins s σ H xs zs us ws Q I rx rz h
  obtain ⟨l, ts, ps, rfl, rfl, hq, hp, q0, q1⟩ := h
  obtain ⟨u, rfl, ru⟩ := rx.one
  cases ru
  obtain ⟨d, rfl, rd⟩ := rz.one
  obtain rfl : d = .none := rd
  obtain ⟨its, rv, pl, hz⟩ := I.list hq
  obtain ⟨fs, df, cf⟩ := hb.er.ctx
  refine hot_min (xs := ps.map Tup.mk) hb.hh (hb.ok pins σ H s I).1 df cf pl.isList (by simpa using hold_tups I hp rv) hu (fun e h' tk hk => ?_) fun y ys i v h' tk e hv hh hk => ?_
  · exact ⟨.non, H, I.kept (t' := tk) hk, rfl, q0 (List.map_eq_nil_iff.mp e)⟩
  · have hl := rv.length
    have il : i < its.length := by
      have := (Array.getElem?_eq_some_iff.mp hv).1
      simpa using this
    rw [List.length_map] at hl
    have ht : ts[i]? = some ts[i] := List.getElem?_eq_getElem (by omega)
    obtain ⟨w, hw, rw2⟩ := rv.get (i := i) (x := .ref ts[i]) (by rw [List.getElem?_map, ht]; rfl)
    have ev : w = v := by
      have : its.toArray[i]? = some w := by simpa using hw
      rw [hv] at this
      exact (Option.some.inj this).symm
    subst ev
    obtain rfl : w = .ref ts[i] := rw2
    cases ps with
    | nil => cases e
    | cons p0 pr =>
      rw [List.map_cons] at e
      injection e with e1 e2
      subst e1; subst e2
      obtain ⟨pi, hpi, hti⟩ := paired_at hp ht
      have h1 := PySem.W.Holds.keeps hk (hold_tup I hti)
      have em := holds_uniq h1 hh
      refine ⟨.ref ts[i], H, I.kept (t' := tk) hk, rfl, q1 i _ p0 pr rfl ht ?_⟩
      rw [hpi, ← show (Tup.mk pi).items = minT p0 pr from by rw [em]; rfl]
end Fb

namespace Fb
open PySem PySem.Spec PyProof.Rows L2
/-! ### a def that may raise while an error is handled: what leaves it has a context -/
structure FnX (Pg : Program) (w : World) (K : PySem.W.Frag) (mg : Str → Option Value) (base : Heap) (k : Nat) (f : Addr) (fd : FuncData) (ps : List Str) (sp : SpE) : Prop where
  len : ∀ e C vs H Q E, sp e C vs H Q E → vs.length = ps.length
  run : ∀ (A : Around) (outer : List Env) (s : Shared) (H : Hp) (args : Args) (us : List Value) (vs : List V) (Q : VK) (E : XK) (p : Addr × Obj) (C : Addr), L2H.RoomH k A → A.handled = some (.ref p.1) → Err1 C p → L2H.PinOk outer H s p → Env0 Pg w K mg base A outer s H →
    BindsTo s fd args (ps.zip us) → Vals vs us → sp p.1 C vs H Q E → codeAny (model Pg w) A (.call (.ref f) args) (CR (L2.CX Pg w) outer Pg w H s Q E) s
section
variable {Pg : Program} {w : World} {K : PySem.W.Frag} {mg : Str → Option Value} {base : Heap}
theorem run_hot0 (CXT : CXT) {x qual : Str} {st : Stmt} {f : Addr} {kV doc pm cdv ct oc : Value} {an od : Option Addr} {osl : Array (Option Value)} {N ps : List Str} {k : Nat} {sp : SpE} (lk : K.lookup f = some ⟨oc, od, .func (PySem.W.fnOf x qual (defArgs st) (defBody st) (defScope st) .none kV doc pm an cdv ct), osl⟩)
    (code : PySem.W.codeIn K cdv qual = true) (S : FnScope N ps (defScope st)) (len : ∀ e C vs H Q E, sp e C vs H Q E → vs.length = ps.length)
    (hbody : ∀ (A : Around) (outer : List Env) (s : Shared) (H : Hp) (vs : List V) (Q : VK) (E : XK) (p : Addr × Obj) (C : Addr), A.handled = some (.ref p.1) → Err1 C p → L2H.PinOk outer H s p → L2H.RoomH k (A.deeper (envOfC qual (defScope st) s.heap.objs.size f cdv)) → sp p.1 C vs H Q E →
      ∃ t, PSs (L2H.cxH CXT Pg w K mg base N qual (defScope st) f cdv A outer s H E p) (defBody st) t ∧ t { nx := fun _ H' => Q .non H', rt := Q } (L2.start N vs) H)
    (A : Around) (outer : List Env) (s : Shared) (H : Hp) (args : Args) (us : List Value) (vs : List V) (Q : VK) (E : XK) (p : Addr × Obj) (C : Addr) (room : L2H.RoomH (k + 1) A) (hh : A.handled = some (.ref p.1)) (er : Err1 C p) (pin : L2H.PinOk outer H s p) (env : Env0 Pg w K mg base A outer s H)
    (binds : BindsTo s (PySem.W.fnOf x qual (defArgs st) (defBody st) (defScope st) .none kV doc pm an cdv ct) args (ps.zip us)) (rel : Vals vs us) (wish : sp p.1 C vs H Q E) : codeAny (model Pg w) A (.call (.ref f) args) (CR CXT outer Pg w H s Q E) s := by
  have ln := len _ _ _ _ _ _ wish
  have down : ∀ b o, base.get? b = some o → s.heap.get? b = some o := fun b o e => (env.bs b o e).1
  have KX : K.In s.heap := env.mod.kin.keeps down
  have kinds : ∀ y ∈ ps.zip us, (defScope st).names.lookup y.1 = some .local ∨ ((defScope st).names.lookup y.1 = some .cell ∧ ((cellsFrom (s.heap.objs.size + 1) (defScope st).names []).lookup y.1).isSome = true) := fun y hy =>
    (S.par y.1 (List.of_mem_zip (a := y.1) (b := y.2) hy).1).imp id fun q => ⟨q, PySem.W.cellsFrom_some _ _ _ (.inl q)⟩
  refine codeAny_call_function room.depth (KX _ _ lk) rfl S.co S.gen rfl (PySem.W.codeRec_of KX code) (binds _ _ _ _ (wpAny_newFunctionEnv_cells S.kind kinds fun env' he s1 x => ?_))
  subst he
  refine ⟨(env.mod.nolimit.keeps down).keeps x.toInCall.keep, codeAny_func ?_⟩
  obtain ⟨t, ht, got⟩ := hbody A outer s H vs Q E p C hh er pin (room.deeper _) wish
  have I : Inv (L2H.cxH CXT Pg w K mg base N qual (defScope st) f cdv A outer s H E p) [] (L2.start N vs) H s1 := L2H.inv_startH S pin env ln rel x
  refine wpAny_mono (ht.run [] s1 (L2.start N vs) H _ I got) (fun fl s' hs => ?_) fun _ _ hs => hs
  cases fl with
  | ret u => obtain ⟨v, _, H', J, rv, q⟩ := hs; exact ⟨v, H', J.os, J.bare, J.base, J.hok, rv, q⟩
  | next => obtain ⟨_, H', J, q⟩ := hs; exact ⟨V.non, H', J.os, J.bare, J.base, J.hok, rfl, q⟩
  | brk => obtain ⟨_, _, _, q⟩ := hs; exact q.elim
  | cont => obtain ⟨_, _, _, q⟩ := hs; exact q.elim
theorem run_hot (CXT : CXT) {x qual : Str} {st : Stmt} {f : Addr} {fd : FuncData} {N ps : List Str} {k : Nat} {sp : SpE} (F : Fun K x qual st f fd) (S : FnScope N ps (defScope st)) (len : ∀ e C vs H Q E, sp e C vs H Q E → vs.length = ps.length)
    (hbody : ∀ (cdv : Value) (A : Around) (outer : List Env) (s : Shared) (H : Hp) (vs : List V) (Q : VK) (E : XK) (p : Addr × Obj) (C : Addr), A.handled = some (.ref p.1) → Err1 C p → L2H.PinOk outer H s p → L2H.RoomH k (A.deeper (envOfC qual (defScope st) s.heap.objs.size f cdv)) → sp p.1 C vs H Q E →
      ∃ t, PSs (L2H.cxH CXT Pg w K mg base N qual (defScope st) f cdv A outer s H E p) (defBody st) t ∧ t { nx := fun _ H' => Q .non H', rt := Q } (L2.start N vs) H)
    (A : Around) (outer : List Env) (s : Shared) (H : Hp) (args : Args) (us : List Value) (vs : List V) (Q : VK) (E : XK) (p : Addr × Obj) (C : Addr) (room : L2H.RoomH (k + 1) A) (hh : A.handled = some (.ref p.1)) (er : Err1 C p) (pin : L2H.PinOk outer H s p) (env : Env0 Pg w K mg base A outer s H)
    (binds : BindsTo s fd args (ps.zip us)) (rel : Vals vs us) (wish : sp p.1 C vs H Q E) : codeAny (model Pg w) A (.call (.ref f) args) (CR CXT outer Pg w H s Q E) s := by
  obtain ⟨oc, od, kV, doc, pm, an, cdv, ct, osl, rfl, lk, code⟩ := F.ex
  exact run_hot0 CXT lk code S len (hbody cdv) A outer s H args us vs Q E p C room hh er pin env binds rel wish
/-- .. of a def whose code object is known -/
theorem FunC.okE2 {x qual : Str} {st : Stmt} {f c : Addr} {fd : FuncData} {N ps : List Str} {k : Nat} {sp : SpE} (F : FunC K x qual st f fd c) (S : FnScope N ps (defScope st)) (len : ∀ e C vs H Q E, sp e C vs H Q E → vs.length = ps.length)
    (hbody : ∀ (A : Around) (outer : List Env) (s : Shared) (H : Hp) (vs : List V) (Q : VK) (E : XK) (p : Addr × Obj) (C : Addr), A.handled = some (.ref p.1) → Err1 C p → L2H.PinOk outer H s p → L2H.RoomH k (A.deeper (envOfC qual (defScope st) s.heap.objs.size f (.ref c))) → sp p.1 C vs H Q E →
      ∃ t, PSs (L2H.cxH (L2N.CX Pg w) Pg w K mg base N qual (defScope st) f (.ref c) A outer s H E p) (defBody st) t ∧ t { nx := fun _ H' => Q .non H', rt := Q } (L2.start N vs) H) : FnE Pg w K mg base (k + 1) f fd ps sp := by
  obtain ⟨oc, od, kV, doc, pm, an, ct, osl, rfl, lk, code⟩ := F.ex
  exact ⟨len, fun A outer s H args us vs Q E p C r hh er pin env b v wi => run_hot0 (L2N.CX Pg w) lk code S len hbody A outer s H args us vs Q E p C r hh er pin env b v wi⟩
theorem okX {x qual : Str} {st : Stmt} {f : Addr} {fd : FuncData} {N ps : List Str} {k : Nat} {sp : SpE} (F : Fun K x qual st f fd) (S : FnScope N ps (defScope st)) (len : ∀ e C vs H Q E, sp e C vs H Q E → vs.length = ps.length)
    (hbody : ∀ (cdv : Value) (A : Around) (outer : List Env) (s : Shared) (H : Hp) (vs : List V) (Q : VK) (E : XK) (p : Addr × Obj) (C : Addr), A.handled = some (.ref p.1) → Err1 C p → L2H.PinOk outer H s p → L2H.RoomH k (A.deeper (envOfC qual (defScope st) s.heap.objs.size f cdv)) → sp p.1 C vs H Q E →
      ∃ t, PSs (L2H.cxH (L2.CX Pg w) Pg w K mg base N qual (defScope st) f cdv A outer s H E p) (defBody st) t ∧ t { nx := fun _ H' => Q .non H', rt := Q } (L2.start N vs) H) : FnX Pg w K mg base (k + 1) f fd ps sp :=
  ⟨len, fun A outer s H args us vs Q E p C r hh er pin env b v wi => run_hot (L2.CX Pg w) F S len hbody A outer s H args us vs Q E p C r hh er pin env b v wi⟩
theorem okE2 {x qual : Str} {st : Stmt} {f : Addr} {fd : FuncData} {N ps : List Str} {k : Nat} {sp : SpE} (F : Fun K x qual st f fd) (S : FnScope N ps (defScope st)) (len : ∀ e C vs H Q E, sp e C vs H Q E → vs.length = ps.length)
    (hbody : ∀ (cdv : Value) (A : Around) (outer : List Env) (s : Shared) (H : Hp) (vs : List V) (Q : VK) (E : XK) (p : Addr × Obj) (C : Addr), A.handled = some (.ref p.1) → Err1 C p → L2H.PinOk outer H s p → L2H.RoomH k (A.deeper (envOfC qual (defScope st) s.heap.objs.size f cdv)) → sp p.1 C vs H Q E →
      ∃ t, PSs (L2H.cxH (L2N.CX Pg w) Pg w K mg base N qual (defScope st) f cdv A outer s H E p) (defBody st) t ∧ t { nx := fun _ H' => Q .non H', rt := Q } (L2.start N vs) H) : FnE Pg w K mg base (k + 1) f fd ps sp :=
  ⟨len, fun A outer s H args us vs Q E p C r hh er pin env b v wi => run_hot (L2N.CX Pg w) F S len hbody A outer s H args us vs Q E p C r hh er pin env b v wi⟩
end
/-- the error at hand, anywhere in the def's own frame -/
theorem hotB_fr {CXT : CXT} {Pg : Program} {w : World} {K : PySem.W.Frag} {mg : Str → Option Value} {base : Heap} {N : List Str} {qual : Str} {sc : Scope} {f : Addr} {cdv : Value} {A : Around} {outer : List Env} {s : Shared} {H : Hp} {E : XK} {p : Addr × Obj} {C : Addr} {pn : List (Addr × Obj)} {xe : Value → Shared → Prop}
    (hh : A.handled = some (.ref p.1)) (er : Err1 C p) (pin : L2H.PinOk outer H s p) : HotB ((L2H.cxH CXT Pg w K mg base N qual sc f cdv A outer s H E p).tr pn xe) p C := hotB_base pin.get pin.free pin.nofs (fun z => nomatch (show p.1 ∈ ([] : List Addr) from z)) hh er
theorem takes_pin {X : Cx} {q : Addr × Obj} {C : Addr} {W : WX} (h : HotB X q C) (tk : L2.Takes X W) : L2.Takes (X.tr (q :: X.pn) X.xe) W := fun u s' ⟨a, B, sI, pins, σ, H, cls, d, e, I, nb, up, sky, na, os, ag, w⟩ => tk u s' ⟨a, B, sI, pins, σ, H, cls, d, e, h.down I, nb, up, sky, na, os, ag, w⟩
structure DnX (Pg : Program) (w : World) (K : PySem.W.Frag) (mg : Str → Option Value) (base : Heap) (k : Nat) (x : Str) (ps : List Str) (sp : SpE) : Prop where
  ex : ∃ f fd, FnX Pg w K mg base k f fd ps sp ∧ mg x = some (.ref f) ∧ PySem.W.keepIn K (.ref f) = true ∧ Binds K fd ps []
section
variable {X : Cx} {k : Nat} {x : Str} {ps : List Str} {sp : SpE} {p pos : Pos} {e : Expr} {es : List Expr} {t : TA} {E : L2.St → XK}
/-- f(e, ..) while the error q is handled, f may raise -/
theorem pe_fnX {q : Addr × Obj} {C : Addr} (D : DnX X.prog X.w X.K X.mg X.base k x ps sp) (hr : L2H.RoomH k X.A) (hq : q ∈ X.pn) (hh : X.A.handled = some (.ref q.1)) (er : Err1 C q) (hx : ∀ σ, PassesAt (L2.CX X.prog X.w) X σ (E σ)) (ha : PA X (e :: es) t) (hg : Gl X x := by rfl)
    (hdb : (x == ("__debug__" : Str)) = false := by decide) (he : starEach (e :: es) X.env = (false, eval e X.env) :: starEach es X.env := by rfl) (hpl : (backTo pos (starEach es X.env)).any (·.1) = false := by rfl) :
    PE X (.Call (.Name x p) (e :: es) [] pos) (tCallE q.1 C sp E t) := by
  obtain ⟨f, fd, F, hm, hk, hb⟩ := D.ex
  refine ⟨fun pins s σ H Q I wish => ?_⟩
  refine wpAny_Call_Name_kw (ld_glob I hg hm (PySem.W.callWith_K (h₀ := X.base) I.ok.mod.kin hk (thn (ha.run pos pins s σ H _ I wish) fun us s1 got => ?_) he hpl) hdb)
  obtain ⟨vs, H1, I1, r, w1⟩ := got
  refine ⟨I1.kIn, ?_⟩
  have ln : us.length = ps.length := by rw [← r.length]; exact F.len _ _ _ _ _ _ w1
  have b := hb s1 us I1.kIn (by rw [List.append_nil]; exact ln)
  rw [List.append_nil] at b
  have P1 := I1.pin q (List.mem_append_left _ hq)
  refine wpAny_call (codeAny_mono (F.run X.A X.stack s1 H1 ⟨us, []⟩ us vs Q (E σ) q C hr hh er ⟨P1.1, P1.2.1, fun hm => (List.mem_cons.mp (I1.stkSub q.1 hm)).elim P1.2.2.1 P1.2.2.2.1, P1.2.2.2.2⟩ I1.env0 b r w1) fun r s' hq => ?_)
  cases r with
  | error er => exact hx σ pins H1 s1 er s' I1 hq
  | ok fl =>
    cases fl with
    | ret u => exact I1.after hq
    | next => exact hq.elim
    | brk => exact hq.elim
    | cont => exact hq.elim
end
section
variable {Pg : Program} {w : World} {K : PySem.W.Frag} {mg : Str → Option Value} {base h : Heap} {x : Str} {st : Stmt} {f : Addr} {ps : List Str} {sp : SpE} {k : Nat}
theorem FA.dnx (A : FA K x st f) (X : K.In h) (G : h.Ns mainGlobals mg) (ok : ∀ fd, Fun K x x st f fd → FnX Pg w K mg base k f fd ps sp)
    (hb : ∀ (kV doc pm : Value) (an : Option Addr) (cdv ct : Value) (us : List Value), us.length = ps.length → bindArgs (PySem.W.fnOf x x (defArgs st) (defBody st) (defScope st) .none kV doc pm an cdv ct) ⟨us, []⟩ = pure (ps.zip us)) : DnX Pg w K mg base k x ps sp := by
  obtain ⟨oc, od, kV, dc, pm, an, cd, ct, osl, l, c⟩ := A.l
  have F := fun_mk (st := st) l c A.k
  exact ⟨f, _, ok _ F, PySem.W.mg_of X G A.a, A.k, F.binds (ps := ps) hb⟩
end
theorem FAC.dne {Pg : Program} {w : World} {K : PySem.W.Frag} {mg : Str → Option Value} {base h : Heap} {x : Str} {st : Stmt} {f c P : Addr} {ps : List Str} {sp : SpE} {k : Nat} (A : FAC K x st f c P) (X : K.In h) (G : h.Ns mainGlobals mg) (ok : ∀ fd, FunC K x x st f fd c → FnE Pg w K mg base k f fd ps sp)
    (hb : ∀ (kV doc pm : Value) (an : Option Addr) (cdv ct : Value) (us : List Value), us.length = ps.length → bindArgs (PySem.W.fnOf x x (defArgs st) (defBody st) (defScope st) .none kV doc pm an cdv ct) ⟨us, []⟩ = pure (ps.zip us)) : DnE Pg w K mg base k x ps sp := by
  obtain ⟨oc, od, kV, dc, pm, an, ct, osl, l⟩ := A.l
  have F := fun_mk (st := st) l A.q A.k
  exact ⟨f, _, ok _ ⟨oc, od, kV, dc, pm, an, ct, osl, rfl, l, A.q⟩, PySem.W.mg_of X G A.a, A.k, F.binds (ps := ps) hb⟩
/-! ### try in a def that runs while an error is handled -/
theorem ps_tryX {X : Cx} {body : List Stmt} {h₀ : ExceptHandler} {hds : List ExceptHandler} {l : List (Value × (Addr → Value → Option Addr → TS))} {pos : Pos} {tb : WX → TS} {Wout : WX} (hs : X.stack = X.env :: X.outer) (hf : X.env.frame = some X.env.locals) (tk : L2.Takes X Wout)
    (hb : ∀ (W : WX) (pn : List (Addr × Obj)) (xe : Value → Shared → Prop), L2.Takes (X.tr pn xe) W → PassesOwn (model X.prog X.w) X.A X.env xe → PSs (X.tr pn xe) body (tb W))
    (hh : L2.HdsOk X (h₀ :: hds) l) : PS X (.Try body (h₀ :: hds) [] [] pos) (tTryM X.K Wout l tb) := L2.ps_try_many hs hf tk hb hh
end Fb

namespace Fb
open PySem PySem.Spec PyProof.Rows L2 HotX
/-! ### a generator that is drawn from while an error is handled -/
/-- what the generator gives for the i-th thing, whatever is handled -/
def EltF (prog : Program) (w : World) (ce : Env) (x : Str) (elt : Expr) (P F : Nat → Value → Prop) : Prop :=
  ∀ (B : Around) (E : Value → Shared → Prop) (i : Nat) (v : Value) (z : Shared) (m : Str → Option Value), P i v → z.heap.Ns ce.locals m → m x = some v → wpAny (model prog w) B (eval elt ce) (fun y z' => F i y ∧ Keeps z z') E z
abbrev yesN : Nat → Bool := fun _ => true
section
variable {prog : Program} {w : World} {A : Around} {E : Value → Shared → Prop} {s : Shared}
theorem walk_strA {x1 I : Addr} {ob : Obj} {fe : Array Value} (hh : A.handled = some (.ref x1)) (de : ob.data = .fields fe) (cx : fe[2]? = some .none) (x : Str) (t : Tok) {ty : String} (hty : ty = "str_ascii_iterator" ∨ ty = "str_iterator") :
    Walks prog w A I [I, x1] [I] x.cps.size (SignAt x) (fun i h => h.IsStrIter I ty x t i ∧ h.get? x1 = some ob) where
  sub := fun b hb => by rw [List.mem_singleton.mp hb]; exact List.mem_cons_self
  frame := fun _ _ _ st k => ⟨let ⟨o, g, r⟩ := st.1; ⟨o, k I (by simp) o g, r⟩, k x1 (by simp) _ st.2⟩
  item := fun i z Q E lt st post => by
    obtain ⟨st, g1⟩ := st
    have nx : x1 ≠ I := fun e => by
      obtain ⟨oi, gi, _, di⟩ := st
      rw [e, gi] at g1
      cases g1
      rw [di] at de
      cases de
      simp at cx
    have hx : x.cps[i]? = some x.cps[i] := Array.getElem?_eq_getElem lt
    rcases hty with e | e <;> subst e
    · exact wpAny_pyNext_ascii_item st hx fun h' st' but => post _ h' _ ⟨_, _, hx, rfl⟩ ⟨st', but.extBut x1 ob nx g1⟩ fun b o nb g => but.extBut b o (fun e => nb (by simp [e])) g
    · exact wpAny_pyNext_wide_item st hx fun h' st' but => post _ h' _ ⟨_, _, hx, rfl⟩ ⟨st', but.extBut x1 ob nx g1⟩ fun b o nb g => but.extBut b o (fun e => nb (by simp [e])) g
  done := fun z Q E st post => by
    obtain ⟨st, g1⟩ := st
    have hx : x.cps[x.cps.size]? = none := by simp
    rcases hty with e | e <;> subst e
    · exact hot_ascii_end ⟨hh, ob, fe, g1, de, cx⟩ st hx fun h' but => post h' z.toks fun b o nb g => but b o (fun e => nb (by simp [e])) g
    · exact hot_wide_end ⟨hh, ob, fe, g1, de, cx⟩ st hx fun h' but => post h' z.toks fun b o nb g => but b o (fun e => nb (by simp [e])) g
  self := fun _ _ _ _ st q => by
    rcases hty with e | e
    · rw [e] at st; exact wpAny_pyIter_striter_ascii st.1 q
    · rw [e] at st; exact wpAny_pyIter_striter_wide st.1 q
section
variable {elt iter : Expr} {x : Str} {px pos : Pos} {scope : Scope} {I : Addr} {hv : Option Value} {fp wr : List Addr} {n : Nat} {P F : Nat → Value → Prop} {St : Nat → Heap → Prop} {ce : Env}
theorem hot_genLoop (hh : A.handled = hv) (W : ∀ B : Around, B.handled = hv → Walks prog w B I fp wr n P St) (loc : ce.kindOf x = some .local) (hp : (ce.scope.kind == .class || (ce.scope.kind == .module && ce.locals != ce.globals)) = false)
    (co : ce.scope.isCoroutine = false) (nC : ce.locals ∉ fp) (el : EltF prog w ce x elt P F) : ∀ (k i : Nat) (s0 z : Shared) (m : Str → Option Value), n - i = k → i ≤ n → St i z.heap → z.heap.Ns ce.locals m → GenSince ce.locals wr s0 z →
      Seg (model prog w) A (fun c a r b => r = .ok .next ∧ (c = 0 ∧ GenSince ce.locals wr a b)) (genProto ce.locals fp wr yesN n F) (passing yesN n i).length s0 (.compLoop (.GeneratorExp elt [⟨.Name x px, iter, [], 0⟩] scope pos) 0 (.ref I) .none ce)
        ((model prog w).den (.compLoop (.GeneratorExp elt [⟨.Name x px, iter, [], 0⟩] scope pos) 0 (.ref I) .none ce)) [] z := by
  have nW : ce.locals ∉ wr := fun e => nC ((W A hh).sub _ e)
  have hc : ∀ c : Code, (A.over c []).handled = hv := fun _ => hh
  intro k
  induction k with
  | zero =>
    intro i s0 z m hk hi st ns since
    obtain rfl : i = n := by omega
    show Seg _ A _ _ _ s0 _ ((compTurn (.GeneratorExp elt [⟨.Name x px, iter, [], 0⟩] scope pos) 0 (.ref I) .none ce).onRaise (leaving ce)) [] z
    rw [compTurn_gen, Sem.onRaise_eq_wrap]
    refine seg_bind_wrap (wpAny_standAt (seg_bind_wrap ((W _ (hc _)).done z _ _ st fun h1 t1 k1 => ?_)))
    exact seg_end (.ok .next) ⟨rfl, by rw [passing_end]; rfl, since.step fun b o _ nb e => k1 b o nb e⟩
  | succ k ih =>
    intro i s0 z m hk hi st ns since
    have lt : i < n := by omega
    show Seg _ A _ _ _ s0 _ ((compTurn (.GeneratorExp elt [⟨.Name x px, iter, [], 0⟩] scope pos) 0 (.ref I) .none ce).onRaise (leaving ce)) [] z
    rw [compTurn_gen, Sem.onRaise_eq_wrap]
    refine seg_bind_wrap (wpAny_standAt (seg_bind_wrap ((W _ (hc _)).item i z _ _ lt st fun v h1 t1 pv st1 k1 => ?_)))
    refine seg_bind_wrap (wpAny_of_eq (rfl : letOwnedTupleGo (.Name x px) (.ref I) v = pure ()) (seg_bind_wrap (wpAny_assign_Name (wpAny_storeName_local loc (ns.at' fun o e => k1 _ o nW e) (fun h2 n2 b2 => ?_) hp))))
    have up : ∀ b o, b ≠ ce.locals → b ∉ wr → z.heap.get? b = some o → h2.get? b = some o := fun b o nb nw e => b2.extBut b o nb (k1 b o nw e)
    have st2 : St (i + 1) h2 := (W A hh).frame _ _ _ st1 fun b hb o e => b2.extBut b o (fun q => nC (q ▸ hb)) e
    refine seg_bind_wrap ?_
    show wpAny _ _ (pure true : Sem Bool) _ _ _
    refine wpAny_pure ?_
    rw [PySem.passing_true lt rfl, List.length_cons]
    simp only [if_true]
    have hy : ∀ u, yieldOut ce u = yieldValue u := fun u => by simp only [yieldOut, co, Bool.false_eq_true, if_false]
    simp only [hy]
    rw [Sem.bind_eq_wrap', Sem.bind_eq_wrap', Sem.wrap_wrap, Sem.wrap_wrap]
    refine seg_wrap (wpAny_mono (el _ _ i v _ _ pv n2 (by simp)) (fun y z4 got => ?_) fun _ _ e => e)
    obtain ⟨Fy, h4, t4, rfl, k4⟩ := got
    refine seg_at (seg_yield rfl rfl rfl ⟨⟨i, passing_here lt rfl, Fy⟩, since.step fun b o nb nw e => k4 b o (up b o nb nw e), fun z' al => ?_⟩)
    exact seg_again rfl (ih (i + 1) z' z' _ (by omega) lt ((W A hh).frame _ _ _ st2 fun b hb o e => al b (List.mem_cons_of_mem _ hb) o (k4 b o e)) ((n2.keeps k4).at' fun o e => al _ List.mem_cons_self o e) (GenSince.refl _ _ _))
theorem hot_genStart (hh : A.handled = hv) (W : ∀ B : Around, B.handled = hv → Walks prog w B I fp wr n P St) (loc : ce.kindOf x = some .local) (hp : (ce.scope.kind == .class || (ce.scope.kind == .module && ce.locals != ce.globals)) = false)
    (co : ce.scope.isCoroutine = false) (nC : ce.locals ∉ fp) (el : EltF prog w ce x elt P F) (z : Shared) (m : Str → Option Value) (st : St 0 z.heap) (ns : z.heap.Ns ce.locals m) :
      Seg (model prog w) A (fun c a r b => r = .ok .next ∧ (c = 0 ∧ GenSince ce.locals wr a b)) (genProto ce.locals fp wr yesN n F) (passing yesN n 0).length z (.compStart (.GeneratorExp elt [⟨.Name x px, iter, [], 0⟩] scope pos) 0 (.ref I) .none ce)
        ((model prog w).den (.compStart (.GeneratorExp elt [⟨.Name x px, iter, [], 0⟩] scope pos) 0 (.ref I) .none ce)) [] z := by
  have hc : ∀ c : Code, (A.over c []).handled = hv := fun _ => hh
  have loop := hot_genLoop (iter := iter) (px := px) (pos := pos) (scope := scope) hh W loc hp co nC el n 0 z z m (Nat.sub_zero _) (Nat.zero_le _) st ns (GenSince.refl _ _ _)
  show Seg _ A _ _ _ z _ ((compStart (.GeneratorExp elt [⟨.Name x px, iter, [], 0⟩] scope pos) 0 (.ref I) .none ce).onRaise (leaving ce)) [] z
  unfold compStart
  rw [Sem.onRaise_eq_wrap]
  show Seg _ A _ _ _ z _ ((PySem.ask >>= _).wrap _ _ _ _) [] z
  refine seg_bind_wrap (wpAny_askSetting ?_)
  split
  · exact seg_again rfl loop
  · refine seg_bind_wrap (wpAny_rule ?_)
    first
    | exact seg_bind_wrap (wpAny_standAt (seg_bind_wrap ((W _ (hc _)).self 0 z _ _ st (seg_again rfl loop))))
    | (show Seg _ A _ _ _ z _ ((standAt iter.pos >>= _).wrap _ _ _ _) [] z; exact seg_bind_wrap (wpAny_standAt (seg_bind_wrap ((W _ (hc _)).self 0 z _ _ st (seg_again rfl loop)))))
end
theorem hot_nextGen {a x1 : Addr} {g n : Nat} {gs : GenState} {P : Nat → Shared → Shared → Prop} {Y : Protocol} {Q : Option Value → Shared → Prop} (nl : s.heap.NoLimit) (room : A.depth < recursionLimit) (hg : s.heap.IsGen a g) (hgs : s.gens[g]? = some gs)
    (go : gs.Goes (model prog w) A.in1 (fun c u r v => r = .ok .next ∧ P c u v) Y n (.send .none) (s.setGen g .running))
    (each : ∀ v z gs', gs'.bare = true → Y (n - 1) (s.setGen g .running) v z (fun r' z' => match n with | 0 => False | m + 1 => gs'.Goes (model prog w) A.in1 (fun c u r v => r = .ok .next ∧ P c u v) Y m r' z') → Q (some v) (z.setGen g gs'))
    (last : ∀ z, P n (s.setGen g .running) z → HotAt A x1 z.heap ∧ ∀ h', (∀ b o, z.heap.get? b = some o → h'.get? b = some o) → Q none { z.setGen g .finished with heap := h' }) : wpAny (model prog w) A (pyNext (.ref a)) Q E s := by
  unfold pyNext
  refine wpAny_bind (wpAny_attempt (wpAny_callSpecial?_slot (name := Str.ofString "__next__") hg.typeIs slot_gen_next (wpAny_call_entry slot_gen_next hg.typeIs entry_gen_next ?_ (args_gen_next _))))
  show wpAny _ A.in1 (Builtin.Generator.genWake (.ref a) (.send .none)) _ _ s
  unfold Builtin.Generator.genWake
  refine wpAny_bind (wpAny_holding (wpAny_genNumber hg (wpAny_bind (wpAny_genState hgs ?_))))
  cases gs with
  | running => exact go.elim
  | finished => exact go.elim
  | _ =>
    refine wpAny_bind (wpAny_roomToWake nl room ?_)
    show wpAny _ A.in1 (.resume g (.send .none) [] _) _ _ s
    refine wpAny_resumeQ hgs go (fun r z hx => ?_) (fun v z gs' hb hv => wpAny_pure ⟨v, rfl, wpAny_pure (each v z gs' hb hv)⟩)
    obtain ⟨rfl, hp⟩ := hx
    obtain ⟨hot, q⟩ := last z hp
    show wpAny _ A.in1 (newExc (.type "StopIteration") [] >>= _) _ _ _
    obtain ⟨hh, oe, fe, ge, de, ce⟩ := hot
    refine wpAny_bind ?_
    simp only [newExc, newTuple]
    refine wpAny_bind (wpAny_newObj_type ?_ (by size_fits))
    refine wpAny_bind (m := firstArgMember _ _) (wpAny_of_eq (a := Value.none) (by first | rfl | (simp only [firstArgMember]; rfl)) (wpAny_newObj_type ?_ (by size_fits)))
    have g1 : ((z.setGen g .finished).heap.push { cls := .type "tuple", data := .seq ([] : List Value).toArray }).get? x1 = some oe := Heap.get?_push_of_some _ ge
    refine wpAny_bind (raiseNew_hot (A := A.in1) ⟨hh, oe, fe, Heap.get?_push_of_some _ g1, de, ce⟩ (Nat.ne_of_lt (Heap.lt_size g1)) (Heap.get?_push_size _ rfl) rfl (by first | (simp; done) | (simp; omega)) ?_)
    refine wpAny_bind (wpAny_isInstance (T := "StopIteration") (b := true) ⟨_, Heap.get?_update_self _ (Heap.get?_push_size _ rfl) rfl, rfl⟩ isSubtype_stop (wpAny_pure (q _ fun b o e => ?_)))
    have g2 : ((z.setGen g .finished).heap.push { cls := .type "tuple", data := .seq ([] : List Value).toArray }).get? b = some o := Heap.get?_push_of_some _ e
    rw [Heap.get?_update_other _ _ (Nat.ne_of_gt (Heap.lt_size g2))]
    exact Heap.get?_push_of_some _ g2
end
end Fb

namespace Fb
open PySem PySem.Spec PyProof.Rows L2 HotX
theorem pass_len (n : Nat) : (passing yesN n 0).length = n := by rw [show passing yesN n 0 = List.range n from GxR.passing_true n, List.length_range]
theorem pass_at {n j i : Nat} (h : (passing yesN n 0)[j]? = some i) : i = j := by
  rw [show passing yesN n 0 = List.range n from GxR.passing_true n] at h
  obtain ⟨lt, e⟩ := List.getElem?_eq_some_iff.mp h
  rw [List.getElem_range] at e
  exact e.symm
section
variable {prog : Program} {w : World} {A : Around} {E : Value → Shared → Prop} {s : Shared}
theorem walk_genA {x1 a C : Addr} {g n : Nat} {ob : Obj} {fe : Array Value} {fp wr : List Addr} {F : Nat → Value → Prop} (hh : A.handled = some (.ref x1)) (de : ob.data = .fields fe) (cx : fe[2]? = some .none) (aC : a ≠ C) (af : a ∉ fp) (sub : ∀ b ∈ wr, b ∈ fp)
    (room : A.depth < recursionLimit) (cs : cStatics ∈ fp) (cC : cStatics ≠ C) (cw : cStatics ∉ wr) (xf : x1 ∈ fp) (xC : x1 ≠ C) (xw : x1 ∉ wr) :
    WalksS prog w A a (a :: C :: fp) (C :: wr) (GenOnlyQ g) n F (fun j z => GenAt prog w A a g C fp wr yesN n F j z ∧ z.heap.get? x1 = some ob) where
  sub := fun b hb => (List.mem_cons.mp hb).elim (fun e => by simp [e]) fun hb => List.mem_cons_of_mem _ (List.mem_cons_of_mem _ (sub b hb))
  grefl := fun _ => .inl rfl
  gtrans := fun _ _ _ u v => u.trans v
  frame := fun j z h' tk st _ k => ⟨⟨let ⟨o, nm, qn, ho, r⟩ := st.1.1; ⟨o, nm, qn, k a List.mem_cons_self o ho, r⟩,
      let ⟨mc, ns, nn⟩ := st.1.2.1; ⟨mc, ns.at' fun o e => k cStatics (List.mem_cons_of_mem _ (List.mem_cons_of_mem _ cs)) o e, nn⟩,
      let ⟨gs, hgs, go⟩ := st.1.2.2; ⟨gs, hgs, fun z' al => go z' fun b hb o e => al b hb o (k b (List.mem_cons_of_mem _ hb) o e)⟩⟩,
    k x1 (List.mem_cons_of_mem _ (List.mem_cons_of_mem _ xf)) _ st.2⟩
  item := fun j z Q E lt st post => by
    obtain ⟨⟨hg, nl, gs, hgs, go⟩, g1⟩ := st
    rw [pass_len] at go
    obtain ⟨m, hm⟩ : ∃ m, n - j = m + 1 := ⟨n - j - 1, by omega⟩
    rw [hm] at go
    refine wpAny_with_toks (Nat.le_refl z.toks) ?_
    refine hot_nextGen (x1 := x1) (P := fun c u v => c = 0 ∧ GenSince C wr u v) nl room hg hgs (go _ fun _ _ _ e => e) (fun v z1 gs' hb hv => ?_) (fun z1 hp => absurd hp.1 (Nat.succ_ne_zero m))
    obtain ⟨⟨i, hi, Fi⟩, ⟨h1, t1, rfl, k1⟩, kap⟩ := hv
    rw [pass_len] at hi
    have ei := pass_at hi
    obtain rfl : i = j := by omega
    have aw : a ∉ wr := fun e => af (sub a e)
    intro htk
    refine post v _ Fi ⟨⟨let ⟨o, nm, qn, ho, r⟩ := hg; ⟨o, nm, qn, k1 a o aC aw ho, r⟩, let ⟨mc, ns, nn⟩ := nl; ⟨mc, ns.at' fun o e => k1 cStatics o cC cw e, nn⟩, gs', setGen_self (gs := .running) (setGen_self hgs), fun z' al => ?_⟩, k1 x1 ob xC xw g1⟩
      ⟨fun b o nb e => k1 b o (fun q => nb (q ▸ List.mem_cons_self)) (fun q => nb (List.mem_cons_of_mem _ q)) e, .of ((GenOnly.setGen z g .running).trans (GenOnly.setGen _ g gs')) (setGen_self (gs := .running) (setGen_self hgs)) hb, rfl, rfl, htk⟩
    rw [pass_len, show n - (i + 1) = m by omega]
    exact kap z' al
  done := fun z Q E st post => by
    obtain ⟨⟨hg, nl, gs, hgs, go⟩, g1⟩ := st
    rw [pass_len, Nat.sub_self] at go
    refine wpAny_with_toks (Nat.le_refl z.toks) ?_
    refine hot_nextGen (x1 := x1) (P := fun c u v => c = 0 ∧ GenSince C wr u v) nl room hg hgs (go _ fun _ _ _ e => e) (fun v z1 gs' hb hv => ((hv.2.2 z1 fun _ _ _ e => e) : False).elim) (fun z1 hp => ?_)
    obtain ⟨_, h1, t1, rfl, k1⟩ := hp
    refine ⟨⟨hh, ob, fe, k1 x1 ob xC xw g1, de, cx⟩, fun h' k htk => post _ ⟨fun b o nb e => k b o (k1 b o (fun q => nb (q ▸ List.mem_cons_self)) (fun q => nb (List.mem_cons_of_mem _ q)) e), ?_, rfl, rfl, htk⟩⟩
    exact .of ((GenOnly.setGen z g .running).trans (GenOnly.setGen _ g .finished)) (setGen_self (gs := .running) (setGen_self hgs)) rfl
  self := fun _ _ _ _ st q => wpAny_pyIter_gen st.1.1 q
end
/-- what is wished of the generator when it is made -/
def MadeG (X : Cx) (elt iter : Expr) (x : Str) (px gpos : Pos) (scope : Scope) (it : Addr) (Q' : Value → Shared → Prop) (code : Value) (bi : Addr) (s4 : Shared) : Prop :=
  ∀ h' : Heap, h'.Ns s4.heap.objs.size (fun y => if y = ".0" then some (.ref it) else none) → Heap.SameBut s4.heap.objs.size (s4.heap.push { cls := .type "frame", data := .dict #[] }) h' →
    Q' (.ref h'.objs.size) { s4 with
      gens := s4.gens.push (.fresh (.compStart (.GeneratorExp elt [⟨.Name x px, iter, [], 0⟩] scope gpos) 0 (.ref it) .none (genEnv scope (cloFrom X.env.cells scope.names []) s4.heap.objs.size code bi X.env)))
      toks := s4.toks + 1 + 1 + 1
      heap := h'.push { cls := .type "generator", data := .fields #[.int s4.gens.size 0, .str "<genexpr>" (s4.toks + 1), .str (X.env.qual ++ "<genexpr>") (s4.toks + 1 + 1)] } }
section
variable {X : Cx} {pins : List (Addr × Obj)} {σ : L2.St} {H : Hp} {s : Shared}
theorem hot_gen {c P : Addr} {elt iter : Expr} {x : Str} {px gpos : Pos} {scope : Scope} {pb : Nat → Bool} {te : TE} {q : Addr × Obj} {Ce : Addr} {Q' : Value → Shared → Prop} {R : Str → Hp → Prop} (hb : HotB X q Ce) (room : X.A.depth < recursionLimit)
    (TB : GxR.TabB X.base X.mg c P) (hcode : X.env.code = .ref c) (S : GxR.GenS X.env scope x) (hi : PE X iter te) (hel : GxR.EltP X.prog X.w scope x elt pb) (hs : ∀ v, genFold iter X.env v = pure v) (I : Inv X pins σ H s)
    (wish : te σ H fun v H1 => ∃ a : Str, v = .str a ∧ GxR.TabG H1 P ∧ R a H1) (hQ : ∀ a H1 g z, R a H1 → GxR.Ready X pins σ H1 P a pb g z → Q' (.ref g) z) :
    wpAny (model X.prog X.w) X.A (eval (.GeneratorExp elt [⟨.Name x px, iter, [], 0⟩] scope gpos) X.env) Q' X.xe s := by
  refine wpAny_GeneratorExp_make S.co (closure_ok S.free) S.cell S.dot S.kind room ?_ hs
  refine thn (hi.run pins s σ H _ I wish) fun xv s1 got => ?_
  obtain ⟨v, H1, I1, r1, a, rfl, ⟨ps, hP, ht⟩, q1⟩ := got
  obtain ⟨t, rfl⟩ := r1
  obtain ⟨fe, de, cx⟩ := hb.er.ctx
  have g1 := (hb.ok pins σ H1 s1 I1).1
  have atP : s1.heap.get? P = some { cls := .none, data := .fields ps } := I1.hok P _ hP
  have ltP : P < s1.heap.objs.size := Heap.lt_size atP
  have xP : q.1 ≠ P := fun e => by
    have z := (hb.ok pins σ H1 s1 I1).2.1
    rw [e, hP] at z
    cases z
  have all : ∀ ty : String, ty = "str_ascii_iterator" ∨ ty = "str_iterator" → (s1.heap.push { cls := .type ty, data := .fields #[.str a t, .int 0 0] }).NoLimit ∧
      wpAny (model X.prog X.w) X.A (genexprCode X.env gpos (X.env.qual ++ "<genexpr>") scope) (fun code s3 => wpAny (model X.prog X.w) X.A (builtinsFor X.env.globals X.env.builtins) (fun bi s4 => MadeG X elt iter x px gpos scope s1.heap.objs.size Q' code bi s4) X.xe s3) X.xe { s1 with heap := s1.heap.push { cls := .type ty, data := .fields #[.str a t, .int 0 0] } } := by
    intro ty hty
    generalize eo : ({ cls := .type ty, data := .fields #[.str a t, .int 0 0] } : Obj) = o
    have st0 : (s1.heap.push o).IsStrIter s1.heap.objs.size ty a t 0 := ⟨o, Heap.get?_push_size _ (by rw [← eo]; rfl), by rw [← eo], by rw [← eo]; rfl⟩
    have sz2 : (s1.heap.push o).objs.size = s1.heap.objs.size + 1 := Heap.size_push ..
    have atP2 : (s1.heap.push o).get? P = some { cls := .none, data := .fields ps } := Heap.get?_push_of_some _ atP
    have cd : PySem.W.CodeHd (s1.heap.push o) c P := TB.code.keeps fun b u e => Heap.get?_push_of_some _ (I1.bk b u e)
    have nl2 : (s1.heap.push o).NoLimit := I1.nolimit.push o
    refine ⟨nl2, ?_⟩
    have go : ∀ (code : Value) (h3 : Heap) (tk : Nat) (ps' : Array Value), Heap.ExtBut P (s1.heap.push o) h3 → (s1.heap.push o).objs.size ≤ h3.objs.size → h3.get? P = some { cls := .none, data := .fields ps' } → (∃ more, ps' = ps ++ more) → TriplesOk ps'.toList →
        wpAny (model X.prog X.w) X.A (builtinsFor X.env.globals X.env.builtins) (fun bi s4 => MadeG X elt iter x px gpos scope s1.heap.objs.size Q' code bi s4) X.xe { s1 with heap := h3, toks := tk } := by
      intro code h3 tk ps' ext le3 atP3 hmore ht3
      obtain ⟨bm, ob, e1, e2, e3, e4, e5, e6, e7, e8⟩ := TB.bm
      have csP : cStatics ≠ P := fun e => by
        obtain ⟨_, ns, _⟩ := I1.nolimit
        obtain ⟨o', _, _, ho, hd, _⟩ := ns
        rw [e, atP] at ho
        cases ho
        cases hd
      have csl : cStatics < s1.heap.objs.size := let ⟨_, ns, _⟩ := I1.nolimit; ns.lt
      have k3 : ∀ b u, b ≠ P → s1.heap.get? b = some u → h3.get? b = some u := fun b u nb e => ext b u nb (Heap.get?_push_of_some _ e)
      refine wpAny_builtinsFor (m := X.mg) (by rw [I1.ok.glob]; exact ((I1.mod.glob.keeps I1.bk).push o).extBut ext TB.gP) e1 e2 (k3 _ _ e4 (I1.bk _ _ e5)) e6 e7 e8 fun h' ns sb => ?_
      have nl3 : h3.NoLimit := nl2.extBut ext csP
      have sz3 : s1.heap.objs.size + 1 ≤ h3.objs.size := by rw [← sz2]; exact le3
      have szh : h'.objs.size = h3.objs.size + 1 := by rw [sb.1, Heap.size_push]
      have kh : ∀ b u, h3.get? b = some u → h'.get? b = some u := fun b u e => sb.extBut b u (Nat.ne_of_lt (Heap.lt_size e)) (Heap.get?_push_of_some _ e)
      generalize eg : ({ cls := .type "generator", data := .fields #[.int s1.gens.size 0, .str "<genexpr>" (tk + 1), .str (X.env.qual ++ "<genexpr>") (tk + 1 + 1)] } : Obj) = og
      have k5 : ∀ b u, h3.get? b = some u → (h'.push og).get? b = some u := fun b u e => Heap.get?_push_of_some _ (kh b u e)
      have x3 : h3.get? q.1 = some q.2 := k3 _ _ xP g1
      have xl : q.1 < s1.heap.objs.size := Heap.lt_size g1
      have lt1 : s1.heap.objs.size < h3.objs.size := sz3
      have itP : s1.heap.objs.size ≠ P := Nat.ne_of_gt ltP
      have st3 : h3.IsStrIter s1.heap.objs.size ty a t 0 := let ⟨oi, gi, r⟩ := st0; ⟨oi, ext _ _ itP gi, r⟩
      have rng : ∀ {b : Addr}, b < h3.objs.size → b ∈ List.range h3.objs.size := fun h => List.mem_range.mpr h
      have W : ∀ B : Around, B.handled = some (.ref q.1) → Walks X.prog X.w B s1.heap.objs.size (List.range h3.objs.size) [s1.heap.objs.size] a.cps.size (SignAt a) (fun i h => h.IsStrIter s1.heap.objs.size ty a t i ∧ h.get? q.1 = some q.2) := fun B hB =>
        (walk_strA (prog := X.prog) (w := X.w) (I := s1.heap.objs.size) hB de cx a t hty).mono_fp fun b hb => by
          rcases List.mem_cons.mp hb with e | e
          · rw [e]; exact rng lt1
          · rw [List.mem_singleton.mp e]; exact rng (Nat.lt_trans xl lt1)
      have el : EltF X.prog X.w (genEnv scope (cloFrom X.env.cells scope.names []) h3.objs.size code builtinsNs X.env) x elt (SignAt a) (fun i y => ∃ cc, a.cps[i]? = some cc ∧ y = .bool (pb cc)) := fun B E' i v z m ⟨cc, u, hcc, ev⟩ hn hm => by
        subst ev
        exact wpAny_mono (hel _ B E' cc u z m rfl hn hm) (fun y z3 r => ⟨⟨cc, hcc, r.1⟩, r.2⟩) fun _ _ e => e
      have nself : ∀ {b : Addr}, b < h3.objs.size → b ≠ h3.objs.size := fun h => Nat.ne_of_lt h
      have at0 : GenAt X.prog X.w X.A.in1 h'.objs.size s1.gens.size h3.objs.size (List.range h3.objs.size) [s1.heap.objs.size] yesN a.cps.size (fun i y => ∃ cc, a.cps[i]? = some cc ∧ y = .bool (pb cc)) 0
          { s1 with gens := s1.gens.push (.fresh (.compStart (.GeneratorExp elt [⟨.Name x px, iter, [], 0⟩] scope gpos) 0 (.ref s1.heap.objs.size) .none (genEnv scope (cloFrom X.env.cells scope.names []) h3.objs.size code builtinsNs X.env))), toks := tk + 1 + 1 + 1, heap := h'.push og } := by
        refine ⟨⟨_, _, _, Heap.get?_push_size _ (by rw [← eg]; rfl), by rw [← eg], by rw [← eg], by rw [← eg]⟩, nl3.keeps k5, _, Array.getElem?_push_size .., fun z al => ⟨rfl, ?_⟩⟩
        refine hot_genStart (A := X.A.in1.in1) (hv := some (.ref q.1)) (ce := genEnv scope (cloFrom X.env.cells scope.names []) h3.objs.size code builtinsNs X.env) hb.hh W S.loc (by simp [genEnv, S.kind]) S.co (fun hm => Nat.lt_irrefl _ (List.mem_range.mp hm)) el z (fun y => if y = ".0" then some (.ref s1.heap.objs.size) else none) ⟨?_, ?_⟩ ?_
        · obtain ⟨oi, gi, r⟩ := st3
          exact ⟨oi, al _ (List.mem_cons_of_mem _ (rng lt1)) oi (k5 _ _ gi), r⟩
        · exact al _ (List.mem_cons_of_mem _ (rng (Nat.lt_trans xl lt1))) _ (k5 _ _ x3)
        · exact (ns.push _).at' fun o e => al _ List.mem_cons_self o e
      refine hQ a H1 _ _ q1 ⟨_, _, _, _, _, walk_genA (A := X.A.in1) (x1 := q.1) (a := h'.objs.size) (F := fun i y => ∃ cc, a.cps[i]? = some cc ∧ y = .bool (pb cc)) (g := s1.gens.size) (C := h3.objs.size) (fp := List.range h3.objs.size) (wr := [s1.heap.objs.size]) (n := a.cps.size) (ob := q.2) hb.hh de cx (by rw [szh]; exact Nat.succ_ne_self _) (fun hm => by have y := List.mem_range.mp hm; rw [szh] at y; exact Nat.lt_irrefl _ (Nat.lt_trans (Nat.lt_succ_self _) y))
        (fun b e => by rw [List.mem_singleton.mp e]; exact rng lt1) room (rng (Nat.lt_trans csl lt1)) (nself (Nat.lt_trans csl lt1)) (fun e => Nat.ne_of_lt csl (List.mem_singleton.mp e)) (rng (Nat.lt_trans xl lt1)) (nself (Nat.lt_trans xl lt1)) (fun e => Nat.ne_of_lt xl (List.mem_singleton.mp e)), ⟨at0, k5 _ _ x3⟩, ?_, fun z hm => ?_⟩
      · rintro j y sj Qj Ej ⟨cc, hcc, rfl⟩ hQj
        have e9 : a.cps.toList[j]? = some cc := by rw [Array.getElem?_toList]; exact hcc
        rw [GxR.trF_some e9] at hQj
        exact wpAny_truthy_bool hQj
      · obtain ⟨more, em⟩ := hmore
        have nwr : ∀ b u, s1.heap.get? b = some u → b ∉ h3.objs.size :: [s1.heap.objs.size] := fun b u e hb => by
          have hl := Heap.lt_size e
          rcases List.mem_cons.mp hb with y | y
          · rw [y] at hl; exact Nat.lt_irrefl _ (Nat.lt_trans hl lt1)
          · rw [List.mem_singleton.mp y] at hl; exact Nat.lt_irrefl _ hl
        have J := GxR.inv_tab (more := more) (h' := z.heap) (g' := z.gens) (d' := z.drawn) (t' := z.toks) I1 hP (fun b u nb e => hm.heap b u (nwr b u e) (k5 b u (k3 b u nb e))) (by rw [← em]; exact hm.heap P _ (nwr P _ atP) (k5 P _ atP3)) (AllBare.movedS (I1.bare.push rfl) hm)
        rw [GxR.sh_eta s1 z hm.os] at J
        exact ⟨upd H1 P (.tbl (ps ++ more)), ⟨⟨ps ++ more, upd_same, by rw [← em]; exact ht3⟩, fun b nb => upd_ne nb⟩, J⟩
    cases hf : codeAmong gpos ps.toList with
    | none =>
      refine wpAny_genexprCodeX hcode (cd.code atP2 ht) (cd.tab atP2) hf fun c' h' tk ext hge hlt hco' _ htab' _ => ?_
      obtain ⟨o1, vs, f1, tf, fl, tg, inF, tx, tt, op, _, _, _, _, _, _, _, _, _, htr, _⟩ := hco'
      exact go _ h' tk _ ext (Nat.le_trans hge (Nat.le_of_lt hlt)) htab'.2 ⟨_, rfl⟩ htr
    | some cv => exact wpAny_genexprCode_hit hcode (cd.code atP2 ht) hf (go cv (s1.heap.push o) s1.toks ps (Heap.ExtBut.refl _ _) (Nat.le_refl _) atP2 ⟨#[], by simp⟩ ht)
  cases ha : a.cps.all (· < 128) with
  | false => exact wpAny_pyIter_wide ha (all _ (.inr rfl))
  | true => exact wpAny_pyIter_ascii ha (all _ (.inl rfl))
theorem pe_allSH {c P : Addr} {elt iter : Expr} {x : Str} {px p pos gpos : Pos} {scope : Scope} {pb : Nat → Bool} {te : TE} {q : Addr × Obj} {Ce : Addr} (hb : HotB X q Ce) (room : X.A.depth < recursionLimit) (hg : Gl X "all") (hm : X.mg "all" = none) (hbt : bootBuiltins "all" = some (.builtin "all"))
    (TB : GxR.TabB X.base X.mg c P) (hcode : X.env.code = .ref c) (S : GxR.GenS X.env scope x) (hi : PE X iter te) (hel : GxR.EltP X.prog X.w scope x elt pb) (hs : ∀ v, genFold iter X.env v = pure v)
    (he : starEach [.GeneratorExp elt [⟨.Name x px, iter, [], 0⟩] scope gpos] X.env = (false, eval (.GeneratorExp elt [⟨.Name x px, iter, [], 0⟩] scope gpos) X.env) :: starEach [] X.env := by rfl) :
    PE X (.Call (.Name "all" p) [.GeneratorExp elt [⟨.Name x px, iter, [], 0⟩] scope gpos] [] pos) (GxR.tAllS P pb te) := by
  refine ⟨fun pins s σ H Q I h => wpAny_Call_Name_kw (ld_blt I hg hm hbt (PyProof.Rows.callWith_builtin1 ?_ he (by rfl)))⟩
  rw [he]
  show wpAny _ _ (spliced ((false, eval (.GeneratorExp elt [⟨.Name x px, iter, [], 0⟩] scope gpos) X.env) :: backTo pos (starEach [] X.env))) _ _ s
  refine Calls.spliced_cons (hot_gen (R := fun a H1 => ∀ H2, GxR.Tabbed P H1 H2 → Q (.bl (a.cps.toList.all pb)) H2) hb room TB hcode S hi hel hs I h fun a H1 g z hR hG => Calls.spliced_nil ?_)
  obtain ⟨fp, wr, G, F, St, W, st, tr, hI⟩ := hG
  refine call_all_walkS (W.self 0 _ _ _ st ⟨g, fp, wr, G, _, F, St, _, rfl, W, st, tr, fun z' mv => ?_⟩)
  obtain ⟨H2, hT, J⟩ := hI z' mv
  exact ⟨.bl _, H2, J, rfl, by rw [GxR.all_signs a pb]; exact hR H2 hT⟩
end
end Fb

namespace Fb
open PySem PySem.Spec PyProof.Rows L2 HotX
/-! ### for i, x in enumerate(xs) while an error is handled -/
section
variable {prog : Program} {w : World} {A : Around} {E : Value → Shared → Prop} {s : Shared}
theorem hot_list_out {it l x1 : Addr} {i : Nat} {its : Array Value} {Q : Value → Shared → Prop} (hot : HotAt A x1 s.heap) (iter : s.heap.IsListIter it l i) (lst : s.heap.IsList l its) (last : its[i]? = none)
    (post : ∀ h' e, Heap.ExtBut it s.heap h' → (∃ o, h'.get? e = some o ∧ o.cls = .type "StopIteration") → E (.ref e) { s with heap := h' }) : wpAny (model prog w) A (Builtin.SmallTypes.nextOf (.ref it)) Q E s := by
  obtain ⟨hh, oe, fe, ge, de, ce⟩ := hot
  obtain ⟨oi, gi, ci, di⟩ := id iter
  obtain ⟨ol, gl, _, nl, dl⟩ := lst
  have ne : it ≠ x1 := fun z => by
    rw [← z, gi] at ge
    cases ge
    rw [di] at de
    cases de
    simp at ce
  unfold Builtin.SmallTypes.nextOf
  refine wpAny_bind (wpAny_callSpecial?_slot (name := Str.ofString "__next__") iter.typeIs slot_listiter_next (wpAny_call_entry slot_listiter_next iter.typeIs entry_listiter_next ?_ (args_listiter_next _)))
  show wpAny _ _ (field (.ref it) 0 >>= _) _ _ s
  refine wpAny_bind (wpAny_field gi di (x := .ref l) rfl ?_)
  show wpAny _ _ (if (Value.ref l == Value.none) = true then _ else _) _ _ s
  rw [if_neg (show (Value.ref l == Value.none) ≠ true from fun z => Bool.false_ne_true z)]
  show wpAny _ _ (field (.ref it) 1 >>= _) _ _ s
  refine wpAny_bind (wpAny_field gi di (x := .int i 0) rfl ?_)
  show wpAny _ _ (seqItems? (.ref l) >>= _) _ _ s
  refine wpAny_bind (wpAny_seqItems gl dl ?_)
  simp only [Int.toNat_natCast, last]
  refine wpAny_bind (wpAny_rule (wpAny_bind (wpAny_setField gi di (by simp) ?_)))
  refine hot_stop (x1 := x1) ⟨hh, oe, fe, (Heap.get?_update_other _ _ ne).trans ge, de, ce⟩ fun h' a kept isStop => post h' a (fun b o nb e => kept b o ?_) isStop
  rw [Heap.get?_update_other _ _ (Ne.symm nb)]
  exact e
theorem hot_enum_end {e it l x1 : Addr} {i : Nat} {its : Array Value} {old : Value} {Q : Option Value → Shared → Prop} (hot : HotAt A x1 s.heap) (he : IsEnum s.heap e it i old) (iter : s.heap.IsListIter it l i) (lst : s.heap.IsList l its) (last : its[i]? = none)
    (post : ∀ h', Heap.ExtBut it s.heap h' → Q none { s with heap := h' }) : wpAny (model prog w) A (pyNext (.ref e)) Q E s := by
  have hT : s.TypeIs (.ref e) "enumerate" := ⟨_, he, rfl⟩
  unfold pyNext
  refine wpAny_bind (wpAny_attempt (wpAny_callSpecial?_slot (name := Str.ofString "__next__") hT F.slot_enumerate_next (wpAny_call_entry F.slot_enumerate_next hT F.entry_enumerate_next ?_ (F.args_enumerate_next_1 _))))
  show wpAny _ _ (field (.ref e) 2 >>= _) _ _ _
  refine wpAny_bind (wpAny_field he rfl (x := .ref it) rfl ?_)
  refine wpAny_bind (hot_list_out (x1 := x1) hot iter lst last fun h' a but isStop => ?_)
  exact wpAny_bind (wpAny_isInstance (T := "StopIteration") (b := true) isStop isSubtype_stop (wpAny_pure (post _ but)))
end
theorem turn_enumA {Pg : Program} {w : World} {K : PySem.W.Frag} {elts : List Expr} {kk : Nat} {tpos : Pos} (a e it : Addr) :
    TurnA Pg w K (.Tuple elts kk tpos) (Ite K a) [e, it] e (fun i h => (∃ old, IsEnum h e it ((i : Nat) : Int) old) ∧ h.IsListIter it a i ∧ e ≠ it) where
  mem := List.mem_cons_self
  obj := fun n h st b hb => by
    obtain ⟨⟨old, he⟩, ⟨o, ho, hc, hd⟩, _⟩ := st
    rcases List.mem_cons.mp hb with z | z
    · rw [z]; exact ⟨_, he, fun v q => nomatch q⟩
    · rw [List.mem_singleton.mp z]; exact ⟨o, ho, fun v q => by rw [hd] at q; cases q⟩
  keep := fun n h h' st k => let ⟨⟨old, he⟩, hi, ne⟩ := st; ⟨⟨old, k e (by simp) _ he⟩, hi.at fun o q => k it (by simp) o q, ne⟩
  item := fun X e1 e2 e3 n pins z σ H E I free st go => by
    subst e1 e2 e3
    obtain ⟨⟨old, he⟩, hit, ne⟩ := st
    obtain ⟨xs, x, hq, hx⟩ := go
    obtain ⟨its, rv, pl, _⟩ := I.list hq
    obtain ⟨u, hu, ru⟩ := rv.get hx
    have le : e < z.heap.objs.size := Heap.lt_size he
    have li : it < z.heap.objs.size := by obtain ⟨_, q, _⟩ := hit; exact Heap.lt_size q
    refine wpAny_pyNext_enum_item he hit pl.isList (x := u) (by simpa using hu) ne fun h' ho hit' hT hsz hk => ⟨_, rfl, wpAny_letOwnedTupleGo_enum (s := { z with heap := h', toks := z.toks + 1 }) ho fun h'' he' sb => ?_⟩
    have at2 : h''.get? z.heap.objs.size = some { cls := .type "tuple", data := .seq #[.int n z.toks, u] } := (sb.2 _ (Nat.ne_of_gt le)).trans hT
    have I1 : Inv X pins σ (upd H z.heap.objs.size (.tup [.int (n : Nat), x])) { z with heap := h'', toks := z.toks + 1 } :=
      I.turnedNew (ch := [e, it]) (fun b ob hb q => (sb.2 b (fun y => hb (by simp [y]))).trans (hk b ob (fun y => hb (by simp [y])) (fun y => hb (by simp [y])) q)) free (Nat.le_refl _) ⟨by show 2 ≤ sizeLine; decide, [.int n z.toks, u], .cons ⟨_, rfl⟩ (.cons ru .nil), ⟨_, at2, rfl, _, rfl⟩⟩
    refine ⟨.ref z.heap.objs.size, _, I1, rfl, ⟨_, x, rfl, I.hok.fresh (Nat.le_refl _), rfl, fun ys hy => by rw [I.list_inj hy hq]; exact hx⟩, ⟨⟨u, ?_⟩, hit'.at fun o q => (sb.2 it (Ne.symm ne)).trans q, ne⟩, fun b hb => ?_⟩
    · rw [show ((n + 1 : Nat) : Int) = (n : Int) + 1 by omega]
      exact he'
    · have lb : b < z.heap.objs.size := by
        rcases List.mem_cons.mp hb with y | y
        · rw [y]; exact le
        · rw [List.mem_singleton.mp y]; exact li
      rw [upd_ne (Nat.ne_of_lt lb)]
      exact (free b hb).1
  done := fun X e1 e2 e3 x1 n pins z σ H E hot I free st stop => by
    subst e1 e2 e3
    obtain ⟨⟨old, he⟩, hit, ne⟩ := st
    obtain ⟨xs, hq, hx⟩ := stop
    obtain ⟨its, rv, pl, _⟩ := I.list hq
    have F := free it (by simp)
    have len := rv.length
    exact hot_enum_end hot he hit pl.isList (by simp; omega) fun h' but => ⟨rfl, I.turned (t' := z.toks) (fun c ob nc g => but c ob nc g) F.1 F.2.1 F.2.2.2.1 F.2.2.2.2.1 F.2.2.2.2.2⟩
  self := fun _ _ _ _ _ st q => let ⟨⟨_, he⟩, _⟩ := st; wpAny_pyIter_enum he q
theorem pi_enumA {X : Cx} {e : Expr} {ta : TA} {p pos tpos : Pos} {elts : List Expr} {kk : Nat} (gl : Gl X "enumerate") (no : X.mg "enumerate" = none) (ha : PA X [e] ta) (hs : starEach [e] X.env = [(false, eval e X.env)] := by rfl) :
    PIA X (.Tuple elts kk tpos) (.Call (.Name "enumerate" p) [e] [] pos) (iEnum X.K ta) := ⟨fun pins z σ H R I wish => by
  refine Call_ (ld_blt I gl no boot_enumerate (PyProof.Rows.callWith_type1 (thn (ha.run pos pins z σ H _ I wish) fun us z1 got => ?_) hs rfl))
  obtain ⟨vs, H1, I1, r1, a, xs, rfl, hq, q⟩ := got
  cases r1 with
  | cons r rr =>
    cases rr
    cases r
    obtain ⟨its, rv, pl, _⟩ := I1.list hq
    refine call_enumerate_list pl.isList fun h' he hit hsz hk => wpAny_pyIter_enum he ?_
    refine ⟨z1.heap.objs.size + 1, [z1.heap.objs.size + 1, z1.heap.objs.size], _, _, H1, rfl, I1.kept (t' := z1.toks) hk, turn_enumA a _ _, ⟨⟨.none, he⟩, hit, Nat.succ_ne_self _⟩, fun b hb => ?_, q⟩
    have le : z1.heap.objs.size ≤ b := by
      rcases List.mem_cons.mp hb with y | y
      · rw [y]; exact Nat.le_add_right _ _
      · rw [List.mem_singleton.mp y]; exact Nat.le_refl _
    exact I1.fpOk le (I1.hok.fresh le)⟩
end Fb

namespace Fb
open PySem PySem.Spec PyProof.Rows L2
local macro_rules | `(tactic| walk_at "s") => `(tactic| repeat (first | refine ⟨_, rfl, ?_⟩ | refine ⟨_, _, rfl, rfl, ?_⟩ | refine ⟨_, _, rfl, Or.inl (by assumption), ?_⟩ | refine ⟨rfl, ?_⟩ | refine ⟨(by decide : (0 : Int) < _), ?_⟩ | refine ⟨⟨by decide, by decide⟩, ?_⟩ | refine ⟨_, _, _, rfl, (by assumption), (by first | decide | omega), ?_⟩))
/-! ### a good journey is looked at while an error is handled -/
def spNeedE (K : PySem.W.Frag) (P : Addr) : SpE := fun _ _ vs H Q _ => ∃ (l : Addr) (xs : List V), vs = [.ref l] ∧ SqL K H l xs ∧ xs.length ≤ 100 ∧ (∀ v ∈ xs, ask v) ∧ H P = some (TabO P) ∧ due xs = 0 ∧ ∀ (p : Addr) (H' : Hp), H p = none → Same H H' → H' p = some (.lst xs) → Q (.ref p) H'
section
variable {Pg : Program} {w : World} {K : PySem.W.Frag} {mg : Str → Option Value} {base : Heap} {a : Ads}
theorem ok_is_placeH {f c P : Addr} {fd : FuncData} (F : FunC K "is_place" "is_place" s_is_place f fd c) (T : Txt K mg a) (TB : GxR.TabB base mg c P) : FnE Pg w K mg base 2 f fd ["thing"] (hotS (spIsPlace P)) := by
  refine F.okE2 sc_is_place (fun _ _ vs H Q E h => ?_) (fun A outer s H vs Q E pq Cq hh er pin hr h => ?_)
  · obtain ⟨c, rfl, _⟩ := h
    rfl
  · obtain ⟨v, rfl, ha, hP, q⟩ := h
    refine ⟨_, (pss_cons (ps_if (pt_not (pt_val (pe_callB call_isi (by rfl) T.n_isinstance (by decide +kernel) (pa_cons (pv 0) (pa_cons (pe_bty (n := "str") T.n_str (by decide +kernel)) pa_nil))))) (pss_one (ps_ret pe_bl)) pss_nil)
      (pss_cons (ps_if (pt_not (pt_chain op_le op_le pe_int (pe_callB call_len_str (by rfl) T.n_len (by decide +kernel) (pa_cons (pv 0) pa_nil)) (pe_gint T.c_LONGEST_PLACE rfl))) (pss_one (ps_ret pe_bl)) pss_nil)
      (pss_one (ps_ret (pe_allP (i := 0) (pe_allSH (hotB_pn List.mem_cons_self hh er) hr.depth rfl T.n_all (by decide +kernel) TB rfl ⟨rfl, rfl, by decide +kernel, rfl, rfl, nofree_ex (by decide +kernel)⟩ (pv 0) (elt_btw rfl rfl) (fun _ => rfl))))))), ?_⟩
    rcases ha with rfl | ⟨b, rfl⟩ | ⟨i, rfl⟩ | ⟨z, rfl, hz⟩
    · walk_at "s"
      exact ⟨_, _, _, _, false, rfl, .ty "str", .base .non, kit_ty (by decide +kernel), _, rfl, q⟩
    · walk_at "s"
      exact ⟨_, _, _, _, false, rfl, .ty "str", .base (.bl b), kit_ty (by decide +kernel), _, rfl, q⟩
    · walk_at "s"
      exact ⟨_, _, _, _, false, rfl, .ty "str", .base (.int i), kit_ty (by decide +kernel), _, rfl, q⟩
    · walk_at "s"
      refine ⟨_, _, _, _, true, rfl, .ty "str", .base (.str z), kit_ty (by decide +kernel), _, rfl, ?_⟩
      walk_at "s"
      refine ⟨szl (Nat.le_trans hz.1 (by decide)), ?_⟩
      walk_at "s"
      refine ifD (fun c1 => ?_) (fun c1 => ?_)
      · walk_at "s"
        refine ifND (fun c2 => ?_) (fun c2 => ?_)
        · rw [isP_long c2] at q
          exact q
        · refine ⟨z, rfl, hP, ?_⟩
          rw [isP_mid c1 c2] at q
          rw [show (fun c => !decide (([c] : List Nat) < (Str.ofString "a").cps.toList) && !decide ((Str.ofString "z").cps.toList < ([c] : List Nat))) = letter from funext btw_letter]
          exact q
      · walk_at "s"
        refine ifT1 ?_
        rw [isP_short c1] at q
        exact q
theorem ok_needH {f P : Addr} {fd : FuncData} (F : Fun K "need_journey" "need_journey" s_need_journey f fd) (T : Txt K mg a) (D_is_placeE : DnE Pg w K mg base 2 "is_place" ["thing"] (hotS (spIsPlace P))) : FnE Pg w K mg base 3 f fd ["places"] (spNeedE K P) := by
  refine okE F sc_need_journey (fun _ _ vs H Q E h => ?_) (fun cdv A outer s H vs Q E pq Cq hh er hr h => ?_)
  · obtain ⟨c, _, rfl, _⟩ := h
    rfl
  · obtain ⟨l, xs, rfl, hs, hlen, hask, hP, hdue, q0⟩ := h
    have PO : PassesOwn (model Pg w) (A.deeper (envOfC "need_journey" (defScope s_need_journey) s.heap.objs.size f cdv)) (envOfC "need_journey" (defScope s_need_journey) s.heap.objs.size f cdv) (cxOf (L2N.CX Pg w) Pg w K mg base N_need_journey "need_journey" (defScope s_need_journey) f cdv A outer s H E).xe := passes_of rfl
    refine ⟨_, (pss_cons (ps_if (pt_not (pt_chain op_le op_le (pe_gint T.c_FEWEST_PLACES rfl) (pe_callB call_len_seq (by rfl) T.n_len (by decide +kernel) (pa_cons (pv 0) pa_nil)) (pe_gint T.c_MOST_PLACES rfl))) pss_no pss_nil)
      (pss_cons (L2H.ps_forH PO ⟨pq, ⟨hh, er.ctx⟩, List.mem_cons_self⟩ (PIA.toH (pi_enumA (by rfl) T.n_enumerate (pa_cons (pv 0) pa_nil))) (pg_tupA (hotIn_of ⟨pq, ⟨hh, er.ctx⟩, List.mem_cons_self⟩) (pgs_cons (pg_name (i := 1) sc_need_journey.nd rfl (by first | exact Or.inl rfl | exact Or.inr rfl)) (pgs_cons (pg_name (i := 2) sc_need_journey.nd rfl (by first | exact Or.inl rfl | exact Or.inr rfl)) pgs_nil)))
        (pss_cons (ps_if (pt_not (pt_val (pe_fnE1 D_is_placeE (hr.mono (by decide)) List.mem_cons_self hh er passC (pa_cons (pv 2) pa_nil)))) pss_no pss_nil)
          (pss_one (ps_if (PW.pt (pw_and (pt_cmpR op_gt (pv 1) pe_int (nomark _)) (pw_and1 (pt_cmpR op_eq (pv 2) (pe_ix ix_list (pv 0) (pe_op op_sub (pv 1) pe_int) (fun _ _ => rfl)) (nomark _))))) pss_no pss_nil))))
      (pss_one (ps_ret (pe_callTy call_list_ofN (by rfl) T.n_list (by decide +kernel) (pa_cons (pv 0) pa_nil)))))), ?_⟩
    walk_at "s"
    refine ifD (fun c1 => ?_) (fun c1 => ?_)
    · walk_at "s"
      refine ifND (fun c2 => ?_) (fun c2 => ?_)
      · exact absurd (hdue.symm.trans (due_out fun z => by omega)) (by decide)
      · have e0 := due_in (xs := xs) (by omega) (by omega)
        walk_at "s"
        refine ⟨_, _, rfl, hs, ?_⟩
        refine for_enum (K := K) (a := l) (xs := xs) (fun i σ H' => ∃ kv pv, σ = [some (.ref l), kv, pv] ∧ Same H H' ∧ dueAt xs i = due xs) ⟨none, none, rfl, Same.refl _, e0.symm⟩ (fun i σ H' _ ⟨_, _, _, s2, _⟩ => s2.seq hs) ?_ ?_
        · rintro i x σ H2 U hx ⟨kv, pv, rfl, s2, hd⟩ hU
          have hil : i < xs.length := (List.getElem?_eq_some_iff.mp hx).1
          have hax := hask x (List.mem_of_getElem? hx)
          have s3 : Same H (upd H2 U (.tup [.int (i : Nat), x])) := Same.trans s2 (same_new hU)
          have hs3 : SqL K (upd H2 U (.tup [.int (i : Nat), x])) l xs := s3.seq hs
          refine ⟨_, _, rfl, SqT.of upd_same, rfl, _, _, rfl, _, _, rfl, rfl, ?_⟩
          walk_at "s"
          refine ⟨hax, s3 _ _ hP, ?_⟩
          walk_at "s"
          refine ifNB (fun c3 => ?_) (fun c3 => ?_)
          · have e1 := due_place hx c3
            rw [hd] at e1
            exact absurd (hdue.symm.trans e1) (by decide)
          · walk_at "s"
            refine ifD (fun c4 => ?_) (fun c4 => ?_)
            · walk_at "s"
              have hil2 : i - 1 < xs.length := by omega
              have hx2 : xs[i - 1]? = some xs[i - 1] := List.getElem?_eq_getElem hil2
              obtain ⟨z, hz⟩ := isP_str c3
              refine ⟨_, _, _, _, rfl, rfl, hs3, atI_of (by omega) (by rw [show ((i : Int) - 1).toNat = i - 1 by omega]; exact hx2), (by rw [hz]; exact scal_str (hask _ (List.getElem_mem hil2))), ?_⟩
              walk_at "s"
              refine ifD (fun c5 => ?_) (fun c5 => ?_)
              · have e1 := due_same hx c3 (by omega) (by rw [hx2, c5])
                rw [hd] at e1
                exact absurd (hdue.symm.trans e1) (by decide)
              · exact ⟨_, _, rfl, s3, by rw [← hd]; exact (due_go hx c3 fun _ e => c5 (by rw [hx2] at e; exact (Option.some.inj e).symm)).symm⟩
            · exact ⟨_, _, rfl, s3, by rw [← hd]; exact (due_go hx c3 fun h0 => by omega).symm⟩
        · rintro σ H2 ⟨kv, pv, rfl, s2, hd⟩
          have e1 : due xs = 0 := by rw [← hd]; exact dueAt_end xs
          have hs2 : SqL K H2 l xs := s2.seq hs
          walk_at "s"
          intro p H3 hp s3 h3
          exact q0 p _ (s2.free hp) (Same.trans s2 s3) h3
    · exact absurd (hdue.symm.trans (due_out fun z => by omega)) (by decide)
end
end Fb

namespace Fb
open PySem PySem.Spec PyProof.Rows L2
local macro_rules | `(tactic| walk_at "s") => `(tactic| repeat (first | refine ⟨_, rfl, ?_⟩ | refine ⟨_, _, rfl, rfl, ?_⟩ | refine ⟨_, _, rfl, Or.inl (by assumption), ?_⟩ | refine ⟨rfl, ?_⟩ | refine ⟨(by decide : (0 : Int) < _), ?_⟩ | refine ⟨⟨by decide, by decide⟩, ?_⟩ | refine ⟨_, _, _, rfl, (by assumption), (by first | decide | omega), ?_⟩))
section
variable {Pg : Program} {w : World} {K : PySem.W.Frag} {mg : Str → Option Value} {base : Heap} {a : Ads}
theorem ok_best_onH {f : Addr} {fd : FuncData} (F : Fun K "best_on" "best_on" s_best_on f fd) (T : Txt K mg a) (D_stretch_priceE : DnE Pg w K mg base 2 "stretch_price" ["tariff", "places", "at", "to"] (hotS (spSP K a))) : FnE Pg w K mg base 3 f fd ["tariff", "places", "at", "ends", "ways"] (hotS (spBest K a)) := by
  refine okE F sc_best_on (fun _ _ vs H Q E h => ?_) (fun cdv A outer s H vs Q E pq Cq hh er hr h => ?_)
  · obtain ⟨_, _, _, _, _, _, _, _, _, _, _, rfl, _⟩ := h
    rfl
  · obtain ⟨p, d, l, e, wq, rs, xs, i, i', ws, tail, rfl, rfl, hT, hs, hi, h1000, he, hw, hwl, hways, q⟩ := h
    have PO : PassesOwn (model Pg w) (A.deeper (envOfC "best_on" (defScope s_best_on) s.heap.objs.size f cdv)) (envOfC "best_on" (defScope s_best_on) s.heap.objs.size f cdv) (cxOf (L2N.CX Pg w) Pg w K mg base N_best_on "best_on" (defScope s_best_on) f cdv A outer s H E).xe := passes_of rfl
    refine ⟨_, (pss_cons (ps_set (i := 5) sc_best_on.nd rfl (by first | exact Or.inl rfl | exact Or.inr rfl) (pe_lstN pa_nil))
      (pss_cons (L2H.ps_forH PO ⟨pq, ⟨hh, er.ctx⟩, List.mem_cons_self⟩ (PIA.toH (pi_listA (pv 3))) (pg_name (i := 6) sc_best_on.nd rfl (by first | exact Or.inl rfl | exact Or.inr rfl))
        (pss_one (ps_if (pt_cmpR op_notN (pe_ix ix_list (pv 4) (pv 6) (fun _ _ => rfl)) pe_non (nomark _)) (pss_cons (ps_asg (pe_ix ix_list (pv 4) (pv 6) (fun _ _ => rfl)) (pg_tupA (hotIn_of ⟨pq, ⟨hh, er.ctx⟩, List.mem_cons_self⟩) (pgs_cons (pg_name (i := 7) sc_best_on.nd rfl (by first | exact Or.inl rfl | exact Or.inr rfl)) (pgs_cons (pg_name (i := 8) sc_best_on.nd rfl (by first | exact Or.inl rfl | exact Or.inr rfl)) (pgs_cons (pg_name (i := 9) sc_best_on.nd rfl (by first | exact Or.inl rfl | exact Or.inr rfl)) pgs_nil)))))
            (pss_one (ps_expr (pe_bm PySem.F.plainAttrs_list PySem.F.slot_list_append PySem.F.type_list_append mt_appendN (pv 5) (pa_cons (pe_tupN (pa_cons (pe_op op_add (pv 7) (pe_fnE1 D_stretch_priceE (hr.mono (by decide)) List.mem_cons_self hh er passC (pa_cons (pv 0) (pa_cons (pv 1) (pa_cons (pv 2) (pa_cons (pv 6) pa_nil)))))) (pa_cons (pe_op op_add (pv 8) pe_int) (pa_cons (pe_un un_neg (pv 6)) pa_nil)))) pa_nil))))) pss_nil)))
      (pss_one (ps_ret (pe_callBK (cr_minTH (hotB_pn List.mem_cons_self hh er) (hotU hr)) (by rfl) T.n_min (by decide +kernel) (pa_cons (pv 5) pa_nil) (pk_cons pe_non pk_nil)))))), ?_⟩
    walk_at "s"
    refine ⟨(by simp), fun D H1 nD s1 h1 => ?_⟩
    have he1 := s1.seq he
    have hel : (heldV (pri rs) xs i).length ≤ xs.length := by unfold heldV; rw [List.length_map]; exact heldN_le
    walk_at "s"
    refine ⟨⟨_, he1⟩, for_list (K := K) (a := e) (xs := heldV (pri rs) xs i) (fun k σ H' => ∃ (v6 v7 v8 v9 : Option V) (ts : List Addr), σ = [some (.ref p), some (.ref l), some (.int (i : Int)), some (.ref e), some (.ref wq), some (.ref D), v6, v7, v8, v9] ∧ Same H H' ∧ H' D = some (.lst (ts.map V.ref)) ∧ ts.length ≤ k ∧ Paired (IsTi H') ts (((heldN (pri rs) xs i).take k).filterMap (candOf (pri rs) xs i tail))) ⟨none, none, none, none, [], rfl, s1, h1, Nat.le_refl _, .nil⟩ (fun k σ H' _ ⟨_, _, _, _, _, _, s2, _⟩ => s2.seq he) ?_ ?_⟩
    · rintro k y σ H2 hk ⟨v6, v7, v8, v9, ts, rfl, s2, hD2, htl, hp2⟩
      unfold heldV at hk
      rw [List.getElem?_map] at hk
      obtain ⟨to, hto, rfl⟩ := Option.map_eq_some_iff.mp hk
      obtain ⟨t1, t2, t3⟩ := mem_heldN.mp (List.mem_of_getElem? hto)
      obtain ⟨v, hv, hvw⟩ := hways to t1 t2
      have kl := (List.getElem?_eq_some_iff.mp hto).1
      have hw2 := s2.seq hw
      walk_at "s"
      refine ⟨_, _, _, _, rfl, rfl, hw2, (by rw [atI_nat]; exact hv), ?_⟩
      walk_at "s"
      have ht2 : (heldN (pri rs) xs i).take k ++ [to] = (heldN (pri rs) xs i).take (k + 1) := take_snoc hto
      generalize hc : tail.getD (to - i - 1) none = cw at hvw
      cases cw with
      | none =>
        obtain rfl : v = .non := hvw
        have ec : candOf (pri rs) xs i tail to = none := by unfold candOf; rw [hc]
        walk_at "s"
        refine ⟨_, _, _, _, ts, rfl, s2, hD2, by omega, ?_⟩
        rw [← ht2, List.filterMap_append, List.filterMap_cons, ec]
        simpa using hp2
      | some pl =>
        obtain ⟨l3, t, rfl, ht⟩ := hvw
        obtain ⟨a1, a2, a3, rfl⟩ : ∃ a b c, pl = [a, b, c] := by
          match pl, l3 with
          | [a, b, c], _ => exact ⟨a, b, c, rfl⟩
        obtain ⟨pr, hpr⟩ := t3.pr
        have ec : candOf (pri rs) xs i tail to = some [a1 + pr, a2 + 1, -(to : Int)] := by unfold candOf; rw [hc, hpr]; rfl
        walk_at "s"
        refine ⟨_, _, _, _, rfl, rfl, hw2, (by rw [atI_nat]; exact hv), ?_⟩
        refine ⟨_, _, rfl, SqT.of (s2 _ _ ht), rfl, _, _, rfl, _, _, rfl, _, _, rfl, rfl, ?_⟩
        walk_at "s"
        refine ⟨.inl ⟨rfl, _, SqL.of hD2⟩, ?_⟩
        walk_at "s"
        refine ⟨p, d, l, rs, xs, i, to, _, _, rfl, rfl, rfl, hT.same s2, s2.seq hs, hi, t2, fun H3 s3 => ?_⟩
        rw [hpr]
        walk_at "s"
        refine ⟨(by simp), fun u H4 n4 s4 h4 => ?_⟩
        have s14 := Same.trans s2 (Same.trans s3 s4)
        have hD4 := s4 _ _ (s3 _ _ hD2)
        have hnl := heldN_le (P := pri rs) (xs := xs) (i := i)
        refine ⟨D, _, _, rfl, rfl, hD4, by rw [List.length_map]; omega, fun H5 s5 h5 => ?_⟩
        have kT : ∀ t p, IsTi H4 t p → IsTi H5 t p := fun t p h => s5 _ _ (ne_of h hD4 (by intro z; cases z)) h
        refine ⟨some (.int (to : Int)), some (.int a1), some (.int a2), some (.int a3), ts ++ [u], rfl, same_mutB s14 nD s5, by rw [h5, List.map_append]; rfl, by rw [List.length_append]; show _ + 1 ≤ _; omega, ?_⟩
        rw [← ht2, List.filterMap_append, List.filterMap_cons, ec]
        exact paired_snocT (Paired.mapP hp2 fun _ _ h => kT _ _ (s4 _ _ (s3 _ _ h))) (kT _ _ h4)
    · rintro σ H2 ⟨v6, v7, v8, v9, ts, rfl, s2, hD2, htl, hp2⟩
      have e9 : (heldV (pri rs) xs i).length = (heldN (pri rs) xs i).length := by unfold heldV; rw [List.length_map]
      rw [e9, List.take_length] at hp2
      walk_at "s"
      refine ⟨D, ts, _, rfl, rfl, SqL.of hD2, hp2, fun e0 => q _ _ s2 ?_, fun j t y ys e0 hj hm => q _ _ s2 ?_⟩
      · unfold bestOf; rw [e0]; rfl
      · unfold bestOf; rw [e0]
        refine ⟨?_, t, rfl, ?_⟩
        · have : minT y ys ∈ (heldN (pri rs) xs i).filterMap (candOf (pri rs) xs i tail) := List.mem_of_getElem? hm
          obtain ⟨to, _, h2⟩ := List.mem_filterMap.mp this
          exact cand_len h2
        · obtain ⟨pp, h1, h2⟩ := paired_at hp2 hj
          rw [hm] at h1; cases h1
          exact h2
theorem ok_heldH {f P : Addr} {fd : FuncData} (F : Fun K "held" "held" s_held f fd) (T : Txt K mg a) (D_need_journeyE : DnE Pg w K mg base 3 "need_journey" ["places"] (spNeedE K P)) (D_fault_ofE : DnE Pg w K mg base 4 "fault_of" ["tariff", "places", "at", "to"] (hotS (spFO K a))) :
    FnE Pg w K mg base 5 f fd ["tariff", "journey"] (hotS (spHeld K a P)) := by
  refine okE F sc_held (fun _ _ vs H Q E h => ?_) (fun cdv A outer s H vs Q E pq Cq hh er hr h => ?_)
  · obtain ⟨_, _, _, _, _, rfl, _⟩ := h
    rfl
  · obtain ⟨p, d, l, rs, xs, rfl, hT, hs, hg, hP, q⟩ := h
    have h40 := hg.hi
    refine ⟨_, (pss_cons (ps_set (i := 2) sc_held.nd rfl (by first | exact Or.inl rfl | exact Or.inr rfl) (pe_fnE1 D_need_journeyE (hr.mono (by decide)) List.mem_cons_self hh er passC (pa_cons (pv 1) pa_nil)))
      (pss_cons (ps_set (i := 3) sc_held.nd rfl (by first | exact Or.inl rfl | exact Or.inr rfl) (pe_callB call_len_seq (by rfl) T.n_len (by decide +kernel) (pa_cons (pv 2) pa_nil)))
      (pss_one (ps_ret (pe_lcP (own := [("at", 4)]) (g := (gName 4)) (tt := tYes) List.mem_cons_self hh er sc_held.nd (pi_range1A (by rfl) T.n_range (pa_cons (pv 3) pa_nil)) (blkOk_by (own := [("at", 4)]) (N := N_held) (sc := (defScope s_held)) (by decide +kernel)) (fun _ _ _ _ _ hi => (pg_name (i := 4) sc_held.nd rfl (by first | exact Or.inl rfl | exact Or.inr rfl))) (fun _ _ _ _ _ hi => pts_nil) (fun _ _ _ _ _ hi => (PE.pin hi (pe_lcP (own := [("to", 5)]) (g := (gName 5)) (tt := _) List.mem_cons_self hi.hh hi.er sc_held.nd (pi_range2A (by rfl) T.n_range (pa_cons (pe_op op_add (pv 4) pe_int) (pa_cons (pv 3) pa_nil))) (blkOk_by (own := [("to", 5)]) (N := N_held) (sc := (lcSc (defScope s_held) ((defBody s_held).getD 2 (.Pass ⟨0, 0, 0, 0⟩)))) (by decide +kernel)) (fun _ _ _ _ _ hi => (pg_name (i := 5) sc_held.nd rfl (by first | exact Or.inl rfl | exact Or.inr rfl))) (fun _ _ _ _ _ hi => pts_one (pt_cmpR op_isN (PE.pin hi (pe_fnE1 D_fault_ofE (hr.mono (by decide)) List.mem_cons_self hi.hh hi.er passC (pa_cons (pv 0) (pa_cons (pv 2) (pa_cons (pv 4) (pa_cons (pv 5) pa_nil)))))) pe_non (nomark _))) (fun _ _ _ _ _ hi => (pv 5)))))))))), ?_⟩
    walk_at "s"
    refine ⟨l, _, rfl, hs, by rw [List.length_map]; omega, hg.ask, hP, hg.due, fun m H1 hm s1 h1 => ?_⟩
    have hs1 : SqL K H1 m (xs.map V.str) := SqL.of h1
    have hT1 := hT.same s1
    walk_at "s"
    rw [List.length_map]
    refine ⟨by omega, by omega, fun D hD => ?_⟩
    refine lc_rangeR (fun i v H' => ∃ t, v = .ref t ∧ t ≠ D ∧ H1 t = none ∧ H' t = some (.lst (heldV (pri rs) xs i))) ?_ hD (by omega) (fun v => rfl) ?_ ?_
    · rintro i v H2 H3 sb ⟨t, e, n, n1, h⟩
      exact ⟨t, e, n, n1, sb _ _ n h⟩
    · intro i H2 acc hi s2 hDl Q2 q2
      have hi2 : i < xs.length := by omega
      walk_at "s"
      refine ⟨_, _, rfl, ⟨by omega, by omega, by omega, by omega⟩, fun D2 hD2 => ?_⟩
      refine lc_pickR (fun k => hb (pri rs) xs i (i + 1 + k)) (fun k => V.int ((i + 1 + k : Nat) : Int)) hD2 (by omega) (fun v => rfl) ?_ ?_ ?_
      · intro k H3 hk s3 Q3 q3
        have s13 := Same.trans s2 s3
        walk_at "s"
        refine ⟨p, d, m, rs, xs, i, i + 1 + k, _, _, rfl, by omega, by omega, hT1.same s13, s13.seq hs1, by omega, by omega, by omega, fun f v H4 hf hv s4 => ?_⟩
        walk_at "s"
        have e : decide (v = V.non) = hb (pri rs) xs i (i + 1 + k) := by
          cases f with
          | none => rw [hb_true hf, decide_eq_true (hv.non.mpr rfl)]
          | price => rw [hf.hb (fun z => by cases z), decide_eq_false fun z => by have := hv.non.mp z; cases this]
          | twice _ => rw [hf.hb (fun z => by cases z), decide_eq_false fun z => by have := hv.non.mp z; cases this]
          | dearer _ _ => rw [hf.hb (fun z => by cases z), decide_eq_false fun z => by have := hv.non.mp z; cases this]
        rw [e]
        exact q3 _ s4
      · intro k H3 hk s3 Q3 q3
        walk_at "s"
        rw [show ((0 : Int) + (i : Int) + 1 + (k : Int)) = ((i + 1 + k : Nat) : Int) by omega]
        exact q3 _ (Same.refl _)
      · intro H3 s3 hDl2
        have e0 : (((xs.length : Int) - (0 + (i : Int) + 1)).toNat) = xs.length - (i + 1) := by omega
        rw [e0, heldV_pick] at hDl2
        exact q2 _ _ s3 ⟨D2, rfl, (ne_of_none hDl hD2).symm, s2.free hD2, hDl2⟩
    · intro H2 ys s2 hDl hl hr
      rw [show (Int.toNat (xs.length : Int)) = xs.length by omega] at hl
      obtain ⟨ts, rfl, hts⟩ := refs_of hr
      rw [List.length_map] at hl
      refine q D ts H2 (s1.free hD) (Same.trans s1 s2) hDl hl fun i t ht => ?_
      obtain ⟨n, n1, h⟩ := hts i t ht
      exact ⟨s1.free n1, n, h⟩
theorem ok_ways_onH {f P : Addr} {fd : FuncData} (F : Fun K "ways_on" "ways_on" s_ways_on f fd) (T : Txt K mg a) (D_heldE : DnE Pg w K mg base 5 "held" ["tariff", "journey"] (hotS (spHeld K a P))) (D_best_onE : DnE Pg w K mg base 3 "best_on" ["tariff", "places", "at", "ends", "ways"] (hotS (spBest K a))) : FnE Pg w K mg base 6 f fd ["tariff", "places"] (hotS (spWays K a P)) := by
  refine okE F sc_ways_on (fun _ _ vs H Q E h => ?_) (fun cdv A outer s H vs Q E pq Cq hh er hr h => ?_)
  · obtain ⟨_, _, _, _, _, rfl, _⟩ := h
    rfl
  · obtain ⟨p, d, l, rs, xs, rfl, hT, hs, hg, hP, q⟩ := h
    have lo := hg.lo
    have h40 := hg.hi
    have PO : PassesOwn (model Pg w) (A.deeper (envOfC "ways_on" (defScope s_ways_on) s.heap.objs.size f cdv)) (envOfC "ways_on" (defScope s_ways_on) s.heap.objs.size f cdv) (cxOf (L2N.CX Pg w) Pg w K mg base N_ways_on "ways_on" (defScope s_ways_on) f cdv A outer s H E).xe := passes_of rfl
    refine ⟨_, (pss_cons (ps_set (i := 2) sc_ways_on.nd rfl (by first | exact Or.inl rfl | exact Or.inr rfl) (pe_fnE1 D_heldE (hr.mono (by decide)) List.mem_cons_self hh er passC (pa_cons (pv 0) (pa_cons (pv 1) pa_nil))))
      (pss_cons (ps_set (i := 3) sc_ways_on.nd rfl (by first | exact Or.inl rfl | exact Or.inr rfl) (pe_op op_sub (pe_callB call_len_seq (by rfl) T.n_len (by decide +kernel) (pa_cons (pv 1) pa_nil)) pe_int))
      (pss_cons (ps_set (i := 4) sc_ways_on.nd rfl (by first | exact Or.inl rfl | exact Or.inr rfl) (pe_op op_catN (pe_op op_repN (pe_lstN (pa_cons pe_non pa_nil)) (pv 3)) (pe_lstN (pa_cons (pe_tupN (pa_cons pe_int (pa_cons pe_int (pa_cons (pe_un un_neg (pv 3)) pa_nil)))) pa_nil))))
      (pss_cons (L2H.ps_forH PO ⟨pq, ⟨hh, er.ctx⟩, List.mem_cons_self⟩ (PIA.toH (pi_revRA (by rfl) T.n_reversed (prg_1 (by rfl) T.n_range (pv 3)))) (pg_name (i := 5) sc_ways_on.nd rfl (by first | exact Or.inl rfl | exact Or.inr rfl))
        (pss_one (ps_asg (pe_fnE1 D_best_onE (hr.mono (by decide)) List.mem_cons_self hh er passC (pa_cons (pv 0) (pa_cons (pv 1) (pa_cons (pv 5) (pa_cons (pe_ix ix_list (pv 2) (pv 5) (fun _ _ => rfl)) (pa_cons (pv 4) pa_nil)))))) (pg_sub (pv 4) (pv 5) set_listN))))
      (pss_one (ps_ret (pv 4))))))), ?_⟩
    walk_at "s"
    refine ⟨p, d, l, rs, xs, rfl, hT, hs, hg, hP, fun e es H1 ne s1 h1 hel hin => ?_⟩
    have hs1 := s1.seq hs
    walk_at "s"
    rw [List.length_map]
    walk_at "s"
    refine ⟨(by simp), fun D1 H2 n2 s2 h2 => ?_⟩
    walk_at "s"
    refine ⟨D1, _, _, rfl, rfl, h2, by omega, by omega, by show 1 * _ ≤ _; omega, fun D2 H3 n3 s3 h3 => ?_⟩
    walk_at "s"
    refine ⟨(by simp), fun u H4 n4 s4 h4 => ?_⟩
    refine ⟨(by simp), fun D3 H5 n5 s5 h5 => ?_⟩
    walk_at "s"
    refine ⟨D2, D3, _, _, rfl, rfl, s5 _ _ (s4 _ _ h3), h5, by simp; omega, fun W H6 n6 s6 h6 => ?_⟩
    have en : ((xs.length : Int) - 1).toNat = xs.length - 1 := by omega
    rw [en] at h6
    have s16 := Same.trans s2 (Same.trans s3 (Same.trans s4 (Same.trans s5 s6)))
    have s06 := Same.trans s1 s16
    have nW := s1.free (s2.free (s3.free (s4.free (s5.free n6))))
    have h4b := s6 _ _ (s5 _ _ h4)
    generalize hws : (List.replicate (xs.length - 1) [V.non]).flatten ++ [V.ref u] = ws0 at h6
    have wl : ws0.length = xs.length := by rw [← hws]; simp; omega
    have wlast : ws0[xs.length - 1]? = some (.ref u) := by
      rw [← hws, List.getElem?_append_right (by simp)]; simp
    have he6 : SqL K H6 e (es.map V.ref) := SqL.of (s16 _ _ h1)
    walk_at "s"
    refine ⟨by omega, by omega, by omega, by omega, ?_⟩
    have ez : ((xs.length : Int) - 1 - 0).toNat = xs.length - 1 := by omega
    refine for_rangeC (fun j σ H' => ∃ (v5 : Option V) (ws : List V), σ = [some (.ref p), some (.ref l), some (.ref e), some (.int ((xs.length : Int) - 1)), some (.ref W), v5] ∧ Same H H' ∧ SameB W H6 H' ∧ H' W = some (.lst ws) ∧ ws.length = xs.length ∧ ∀ to, xs.length - 1 - j ≤ to → to < xs.length → ∃ v, ws[to]? = some v ∧ IsWay H' v ((tabW (pri rs) xs j).getD (to - (xs.length - 1 - j)) none)) ?_ ?_ ?_
    · refine ⟨none, ws0, rfl, s06, SameB.refl, h6, wl, fun to h1 h2 => ?_⟩
      obtain rfl : to = xs.length - 1 := by omega
      refine ⟨_, wlast, ?_⟩
      rw [show xs.length - 1 - (xs.length - 1 - 0) = 0 by omega]
      refine ⟨rfl, u, rfl, ?_⟩
      show H6 u = some (.tup [.int 0, .int 0, .int (-((xs.length - 1 : Nat) : Int))])
      rw [h4b, show ((xs.length - 1 : Nat) : Int) = (xs.length : Int) - 1 by omega]
    · rintro j σ H7 hj ⟨v5, ws, rfl, s7, sb7, hW7, wl7, hw7⟩
      obtain ⟨at_, eat⟩ : ∃ at_ : Nat, at_ = xs.length - 1 - (j + 1) := ⟨_, rfl⟩
      obtain ⟨t, ht⟩ : ∃ t, es[at_]? = some t := ⟨_, List.getElem?_eq_getElem (by omega)⟩
      obtain ⟨f1, f2, f3⟩ := hin at_ t ht
      have nWe : e ≠ W := fun z => by rw [← z, s5 _ _ (s4 _ _ (s3 _ _ (s2 _ _ h1)))] at n6; cases n6
      have nWt : t ≠ W := fun z => by rw [← z, s5 _ _ (s4 _ _ (s3 _ _ (s2 _ _ f3)))] at n6; cases n6
      have he7 : SqL K H7 e (es.map V.ref) := SqL.of (sb7 _ _ nWe (s16 _ _ h1))
      have ht7 : SqL K H7 t (heldV (pri rs) xs at_) := SqL.of (sb7 _ _ nWt (s16 _ _ f3))
      have hs7 := s7.seq hs
      rw [show (0 : Int) + ((((xs.length : Int) - 1 - 0).toNat : Nat) : Int) - 1 + (j : Int) * -1 = (at_ : Int) by omega]
      walk_at "s"
      refine ⟨_, _, _, _, rfl, rfl, he7, atI_of (by omega) (by rw [Int.toNat_natCast, List.getElem?_map, ht]; rfl), ?_⟩
      walk_at "s"
      refine ⟨p, d, l, t, W, rs, xs, at_, _, ws, tabW (pri rs) xs j, rfl, rfl, hT.same s7, hs7, by omega, by omega, ht7, SqL.of hW7, wl7, fun to h1 h2 => ?_, fun v H8 s8 hv => ?_⟩
      · obtain ⟨v, e1, e2⟩ := hw7 to (by omega) h2
        exact ⟨v, e1, by rw [show to - at_ - 1 = to - (xs.length - 1 - j) by omega]; exact e2⟩
      walk_at "s"
      have hW8 := s8 _ _ hW7
      refine ⟨W, ws, _, at_, rfl, rfl, hW8, ixN_of (by omega) (by omega), fun H9 s9 h9 => ?_⟩
      have kW : ∀ {v : V} {c : Way}, IsWay H8 v c → IsWay H9 v c := fun {v c} h => by
        cases c with
        | none => exact h
        | some p => obtain ⟨l3, t, e, ht⟩ := h; exact ⟨l3, t, e, s9 _ _ (ne_of ht hW8 (by intro z; cases z)) ht⟩
      refine ⟨some (.int (at_ : Int)), ws.set at_ v, rfl, same_mutB (Same.trans s7 s8) nW s9, (sb7.same s8).trans s9, h9, by rw [List.length_set]; exact wl7, fun to h1 h2 => ?_⟩
      by_cases ca : to = at_
      · subst ca
        refine ⟨v, List.getElem?_set_self (by omega), ?_⟩
        rw [show to - (xs.length - 1 - (j + 1)) = 0 by omega]
        have := kW hv
        rw [eat] at this
        exact this
      · obtain ⟨v2, e1, e2⟩ := hw7 to (by omega) h2
        refine ⟨v2, by rw [List.getElem?_set_ne (Ne.symm ca)]; exact e1, ?_⟩
        rw [show to - (xs.length - 1 - (j + 1)) = (to - (xs.length - 1 - j)) + 1 by omega]
        exact kW (e2.same s8)
    · rintro σ H7 ⟨v5, ws, rfl, s7, sb7, hW7, wl7, hw7⟩
      rw [ez] at hw7
      walk_at "s"
      refine q W H7 ws nW s7 hW7 wl7 fun i hi => ?_
      obtain ⟨v, e1, e2⟩ := hw7 i (by omega) hi
      exact ⟨v, e1, by rw [show i - (xs.length - 1 - (xs.length - 1)) = i by omega] at e2; exact e2⟩
end
end Fb

namespace Fb
open PySem PySem.Spec PyProof.Rows L2
local macro_rules | `(tactic| walk_at "s") => `(tactic| repeat (first | refine ⟨_, rfl, ?_⟩ | refine ⟨_, _, rfl, rfl, ?_⟩ | refine ⟨_, _, rfl, Or.inl (by assumption), ?_⟩ | refine ⟨rfl, ?_⟩ | refine ⟨(by decide : (0 : Int) < _), ?_⟩ | refine ⟨⟨by decide, by decide⟩, ?_⟩ | refine ⟨_, _, _, rfl, (by assumption), (by first | decide | omega), ?_⟩))
/-! ### no parting, while an error is handled -/
def spNonX (K : PySem.W.Frag) (a : Ads) (P : Addr) : SpE := fun _ _ vs H _ E => ∃ (p d l : Addr) (rs : List Row) (xs : List Str), vs = [.ref p, .ref l] ∧ TarAt a.Tariff H p d rs ∧ SqL K H l (xs.map V.str) ∧ GoodJ xs ∧ H P = some (TabO P) ∧ wayAt (pri rs) xs 0 = none ∧ ∀ H', Same H H' → E (.ref a.NoParting) none H'
section
variable {Pg : Program} {w : World} {K : PySem.W.Frag} {mg : Str → Option Value} {base : Heap} {a : Ads}
theorem ok_pricedX {f P : Addr} {fd : FuncData} (F : Fun K "priced" "priced" s_priced f fd) (T : Txt K mg a) (D_need_journeyE : DnE Pg w K mg base 3 "need_journey" ["places"] (spNeedE K P)) (D_ways_onE : DnE Pg w K mg base 6 "ways_on" ["tariff", "places"] (hotS (spWays K a P))) : FnX Pg w K mg base 7 f fd ["tariff", "journey"] (spNonX K a P) := by
  refine okX F sc_priced (fun _ _ vs H Q E h => ?_) (fun cdv A outer s H vs Q E pq Cq hh er pin hr h => ?_)
  · obtain ⟨_, _, _, _, _, rfl, _⟩ := h
    rfl
  · obtain ⟨p, d, l, rs, xs, rfl, hT, hs, hg, hP, e, qN⟩ := h
    have lo := hg.lo
    have h40 := hg.hi
    refine ⟨_, (pss_cons (ps_set (i := 2) sc_priced.nd rfl (by first | exact Or.inl rfl | exact Or.inr rfl) (pe_fnE1 D_ways_onE (hr.mono (by decide)) List.mem_cons_self hh er passC (pa_cons (pv 0) (pa_cons (pe_fnE1 D_need_journeyE (hr.mono (by decide)) List.mem_cons_self hh er passC (pa_cons (pv 1) pa_nil)) pa_nil))))
      (pss_cons (ps_if (pt_cmpR op_isN (pe_ix ix_list (pv 2) pe_int (fun _ _ => rfl)) pe_non (nomark _)) (pss_one (L2H.ps_raiseH ⟨pq, ⟨hh, er.ctx⟩, List.mem_cons_self⟩ (L2.takes_of rfl rfl rfl rfl) (L2N.pmk_own PySem.F.excBase_ValueError T.x_NoParting.x T.x_NoParting.g T.x_NoParting.k (raises_own T.x_NoParting.b T.x_NoParting.t) rfl))) pss_nil)
      pss_no)), ?_⟩
    walk_at "s"
    refine ⟨l, _, rfl, hs, by rw [List.length_map]; omega, hg.ask, hP, hg.due, fun m H1 hm s1 h1 => ?_⟩
    have hs1 : SqL K H1 m (xs.map V.str) := SqL.of h1
    walk_at "s"
    refine ⟨p, d, m, rs, xs, rfl, hT.same s1, hs1, hg, s1 _ _ hP, fun W H2 ws nW s2 hW wl hways => ?_⟩
    have hWq : SqL K H2 W ws := SqL.of hW
    obtain ⟨v, hv, hvw⟩ := hways 0 (by omega)
    rw [e] at hvw
    obtain rfl : v = .non := hvw
    walk_at "s"
    refine ⟨_, _, _, _, rfl, rfl, hWq, atI_of (by omega) hv, ?_⟩
    walk_at "s"
    exact qN _ (Same.trans s1 s2)
theorem ok_partedX {f P : Addr} {fd : FuncData} (F : Fun K "parted" "parted" s_parted f fd) (T : Txt K mg a) (D_pricedX : DnX Pg w K mg base 7 "priced" ["tariff", "journey"] (spNonX K a P)) : FnX Pg w K mg base 8 f fd ["tariff", "journey"] (spNonX K a P) := by
  refine okX F sc_parted (fun _ _ vs H Q E h => ?_) (fun cdv A outer s H vs Q E pq Cq hh er pin hr h => ?_)
  · obtain ⟨_, _, _, _, _, rfl, _⟩ := h
    rfl
  · obtain ⟨p, d, l, rs, xs, rfl, hT, hs, hg, hP, e, qN⟩ := h
    refine ⟨_, (pss_cons (ps_asg (pe_fnX D_pricedX (hr.mono (by decide)) List.mem_cons_self hh er (fun σ => L2.passAt (L2.takes_of rfl rfl rfl rfl) σ) (pa_cons (pv 0) (pa_cons (pv 1) pa_nil))) (pg_tupA (hotIn_of ⟨pq, ⟨hh, er.ctx⟩, List.mem_cons_self⟩) (pgs_cons (pg_name (i := 2) sc_parted.nd rfl (by first | exact Or.inl rfl | exact Or.inr rfl)) (pgs_cons (pg_name (i := 3) sc_parted.nd rfl (by first | exact Or.inl rfl | exact Or.inr rfl)) pgs_nil))))
      pss_no), ?_⟩
    walk_at "s"
    exact ⟨p, d, l, rs, xs, rfl, hT, hs, hg, hP, e, fun H1 s1 => qN H1 s1⟩
end
end Fb

namespace Fb
open PySem PySem.Spec PyProof.Rows L2
local macro_rules | `(tactic| walk_at "s") => `(tactic| repeat (first | refine ⟨_, rfl, ?_⟩ | refine ⟨_, _, rfl, rfl, ?_⟩ | refine ⟨_, _, rfl, Or.inl (by assumption), ?_⟩ | refine ⟨rfl, ?_⟩ | refine ⟨(by decide : (0 : Int) < _), ?_⟩ | refine ⟨⟨by decide, by decide⟩, ?_⟩ | refine ⟨_, _, _, rfl, (by assumption), (by first | decide | omega), ?_⟩))
/-! ### the told parting, or None -/
def spCuts (K : PySem.W.Frag) (a : Ads) (P : Addr) : Sp := fun vs H Q _ => ∃ (p d l : Addr) (rs : List Row) (xs : List Str), vs = [.ref p, .ref l] ∧ TarAt a.Tariff H p d rs ∧ SqL K H l (xs.map V.str) ∧ GoodJ xs ∧ H P = some (TabO P) ∧
  (∀ x b c, wayAt (pri rs) xs 0 = some [x, b, c] → ∀ (D : Addr) (H' : Hp), H D = none → Same H H' → H' D = some (.lst ((pathL (pri rs) xs).map V.int)) → Q (.ref D) H') ∧ (wayAt (pri rs) xs 0 = none → ∀ H', Same H H' → Q .non H')
def spCutsE (K : PySem.W.Frag) (a : Ads) (P : Addr) : SpE := fun _ _ vs H Q _ => ∃ (p d l : Addr) (rs : List Row) (xs : List Str), vs = [.ref p, .ref l] ∧ TarAt a.Tariff H p d rs ∧ SqL K H l (xs.map V.str) ∧ GoodJ xs ∧ H P = some (TabO P) ∧ wayAt (pri rs) xs 0 = none ∧ ∀ H', Same H H' → Q .non H'
abbrev s__law_cuts : Stmt := topS 47
abbrev N__law_cuts : List Str := ["_law_tariff", "_law_row"]
theorem sc__law_cuts : FnScope N__law_cuts ["_law_tariff", "_law_row"] (defScope s__law_cuts) := ⟨rfl, rfl, rfl, by decide +kernel, rfl, by decide +kernel, by decide +kernel⟩
section
variable {Pg : Program} {w : World} {K : PySem.W.Frag} {mg : Str → Option Value} {base : Heap} {a : Ads}
theorem ok_cuts11 {f P : Addr} {fd : FuncData} (F : Fun K "_law_cuts" "_law_cuts" s__law_cuts f fd) (T : Txt K mg a) (D_parted : Dn Pg w K mg base 8 "parted" ["tariff", "journey"] (spParted K a P)) :
    FnOk Pg w K mg base (L2N.CX Pg w) 9 f fd ["_law_tariff", "_law_row"] (spCuts K a P) := by
  refine F.okN sc__law_cuts (fun vs H Q E h => ?_) (fun cdv A outer s H vs Q E hr h => ?_)
  · obtain ⟨_, _, _, _, _, rfl, _⟩ := h
    rfl
  · obtain ⟨p, d, l, rs, xs, rfl, hT, hx, gj, hP, qO, qN⟩ := h
    have PO : PassesOwn (model Pg w) (A.deeper (envOfC "_law_cuts" (defScope s__law_cuts) s.heap.objs.size f cdv)) (envOfC "_law_cuts" (defScope s__law_cuts) s.heap.objs.size f cdv) (cxOf (L2N.CX Pg w) Pg w K mg base N__law_cuts "_law_cuts" (defScope s__law_cuts) f cdv A outer s H E).xe := passes_of rfl
    refine ⟨_, (pss_one (ps_tryM rfl rfl takesN0
        (fun W pn xe tk PO => (pss_one (ps_ret (pe_fnS D_parted (hr.mono (by decide)) (fun σ => L2N.passAt tk σ) (pa_cons (pv 0) (pa_cons (pe_callTy (call_list_ofNS (K := K)) (by rfl) T.n_list (by decide +kernel) (pa_cons (pv 1) pa_nil)) pa_nil))))))
        (L2N.HdsOk.cons ⟨rfl, by decide, .inl T.x_NoParting.g⟩ (fun a_e oe cls d pn hz hf => (pss_one (ps_ret pe_non))) L2N.HdsOk.nil))), ?_⟩
    walk_at "s"
    intro R H1 nR s1 hR
    walk_at "s"
    refine .inl ⟨p, d, R, rs, xs, rfl, hT.same s1, SqL.of hR, gj, s1 _ _ hP, (fun x b c e D H2 nD s2 hD => ?_), (fun e H2 s2 => ?_)⟩
    · exact qO x b c e D H2 (s1.free nD) (Same.trans s1 s2) hD
    · refine ⟨true, T.m_NoParting, fun _ ae hae => ?_, fun z => nomatch z⟩
      walk_at "s"
      exact qN e _ (Same.trans s1 s2)
theorem ok_cuts11E {f P : Addr} {fd : FuncData} (F : Fun K "_law_cuts" "_law_cuts" s__law_cuts f fd) (T : Txt K mg a) (D_partedX : DnX Pg w K mg base 8 "parted" ["tariff", "journey"] (spNonX K a P)) :
    FnE Pg w K mg base 9 f fd ["_law_tariff", "_law_row"] (spCutsE K a P) := by
  refine okE2 F sc__law_cuts (fun _ _ vs H Q E h => ?_) (fun cdv A outer s H vs Q E pq Cq hh er pin hr h => ?_)
  · obtain ⟨_, _, _, _, _, rfl, _⟩ := h
    rfl
  · obtain ⟨p, d, l, rs, xs, rfl, hT, hx, gj, hP, e, qN⟩ := h
    refine ⟨_, (pss_one (ps_tryX rfl rfl L2.takes_none5
        (fun W pn xe tk PO => (pss_one (ps_ret (PE.pin (hotB_fr hh er pin) (pe_fnX D_partedX (hr.mono (by decide)) List.mem_cons_self hh er (fun σ => L2.passAt (takes_pin (hotB_fr hh er pin) tk) σ) (pa_cons (pv 0) (pa_cons (pe_callTy (call_list_ofNS (K := K)) (by rfl) T.n_list (by decide +kernel) (pa_cons (pv 1) pa_nil)) pa_nil)))))))
        (L2.HdsOk.cons ⟨rfl, by decide, .inl T.x_NoParting.g⟩ (fun a_e oe cls d pn hz hf => (pss_one (ps_ret pe_non))) L2.HdsOk.nil))), ?_⟩
    walk_at "s"
    intro R H1 nR s1 hR
    walk_at "s"
    refine ⟨p, d, R, rs, xs, rfl, hT.same s1, SqL.of hR, gj, s1 _ _ hP, e, fun H2 s2 => ?_⟩
    refine ⟨true, T.m_NoParting, fun _ ae hae => ?_, fun z => nomatch z⟩
    walk_at "s"
    exact qN _ (Same.trans s1 s2)
end
end Fb

namespace Fb
open PySem PySem.Spec PyProof.Rows L2
local macro_rules | `(tactic| walk_at "s") => `(tactic| repeat (first | refine ⟨_, rfl, ?_⟩ | refine ⟨_, _, rfl, rfl, ?_⟩ | refine ⟨_, _, rfl, Or.inl (by assumption), ?_⟩ | refine ⟨rfl, ?_⟩ | refine ⟨(by decide : (0 : Int) < _), ?_⟩ | refine ⟨⟨by decide, by decide⟩, ?_⟩ | refine ⟨_, _, _, rfl, (by assumption), (by first | decide | omega), ?_⟩))
def spGood11 (K : PySem.W.Frag) (a : Ads) (P : Addr) : Sp := fun vs H Q _ => ∃ (p d t l : Addr) (rs : List Row) (xs : List Str), vs = [.ref p, .ref t, .ref l] ∧ TarAt a.Tariff H p d rs ∧ H t = some (.dT (rs.map rowK)) ∧ GoodRows rs ∧ SqL K H l (xs.map V.str) ∧ GoodJ xs ∧ H P = some (TabO P) ∧ ∀ H', Same H H' → Q (.bl true) H'
abbrev s__law_good : Stmt := topS 48
abbrev N__law_good : List Str := ["_law_tariff", "_law_table_here", "_law_handed", "_law_row", "_law_cuts_here", "_law_found", "_law_total", "_law_k", "_law_here", "_law_there", "_law_price"]
theorem sc__law_good : FnScope N__law_good ["_law_tariff", "_law_table_here", "_law_handed"] (defScope s__law_good) := ⟨rfl, rfl, rfl, by decide +kernel, rfl, by decide +kernel, by decide +kernel⟩
section
variable {Pg : Program} {w : World} {K : PySem.W.Frag} {mg : Str → Option Value} {base : Heap} {a : Ads}
theorem ok_good11 {f P : Addr} {fd : FuncData} (F : Fun K "_law_good" "_law_good" s__law_good f fd) (T : Txt K mg a) (D_bill : Dn Pg w K mg base 8 "bill" ["tariff", "journey"] (spBill K a P)) (D_cuts : Dn Pg w K mg base 9 "_law_cuts" ["_law_tariff", "_law_row"] (spCuts K a P)) (D_cutsE : DnE Pg w K mg base 9 "_law_cuts" ["_law_tariff", "_law_row"] (spCutsE K a P)) :
    FnOk Pg w K mg base (L2N.CX Pg w) 10 f fd ["_law_tariff", "_law_table_here", "_law_handed"] (spGood11 K a P) := by
  refine F.okN sc__law_good (fun vs H Q E h => ?_) (fun cdv A outer s H vs Q E hr h => ?_)
  · obtain ⟨_, _, _, _, _, _, rfl, _⟩ := h
    rfl
  · obtain ⟨p, d, t, l, rs, xs, rfl, hT, ht, hg, hx, gj, hP, q⟩ := h
    have lo := gj.lo
    have h40 := gj.hi
    have hu := hu_of hr
    have PO : PassesOwn (model Pg w) (A.deeper (envOfC "_law_good" (defScope s__law_good) s.heap.objs.size f cdv)) (envOfC "_law_good" (defScope s__law_good) s.heap.objs.size f cdv) (cxOf (L2N.CX Pg w) Pg w K mg base N__law_good "_law_good" (defScope s__law_good) f cdv A outer s H E).xe := passes_of rfl
    refine ⟨_, (pss_cons (ps_set (i := 3) sc__law_good.nd rfl (by first | exact Or.inl rfl | exact Or.inr rfl) (pe_callTy call_list_ofN (by rfl) T.n_list (by decide +kernel) (pa_cons (pv 2) pa_nil)))
      (pss_cons (ps_set (i := 4) sc__law_good.nd rfl (by first | exact Or.inl rfl | exact Or.inr rfl) pe_non)
      (pss_cons (ps_set (i := 5) sc__law_good.nd rfl (by first | exact Or.inl rfl | exact Or.inr rfl) pe_non)
      (pss_cons (ps_tryM rfl rfl takesN0
        (fun W pn xe tk PO => (pss_one (ps_set (i := 5) sc__law_good.nd rfl (by first | exact Or.inl rfl | exact Or.inr rfl) (pe_fnS D_bill (hr.mono (by decide)) (fun σ => L2N.passAt tk σ) (pa_cons (pv 0) (pa_cons (pv 2) pa_nil))))))
        (L2N.HdsOk.cons ⟨rfl, by decide, .inl T.x_NoParting.g⟩ (fun a_e oe cls d pn hz hf => (pss_one (ps_ret (pe_and (pe_cmpR op_isN (pe_fnEG D_cutsE (roomE hr (by decide)) hz hf passC (pa_cons (pv 0) (pa_cons (pv 3) pa_nil))) pe_non (nomark _)) (pe_one (pe_cmpR (op_eqS (K := K) hr.units) (pv 2) (pv 3) (nomark _))))))) L2N.HdsOk.nil))
      (pss_cons (ps_set (i := 4) sc__law_good.nd rfl (by first | exact Or.inl rfl | exact Or.inr rfl) (pe_fnS D_cuts (hr.mono (by decide)) passC (pa_cons (pv 0) (pa_cons (pv 3) pa_nil))))
      (pss_cons (ps_if (PW.pt (pw_or (pt_cmpR op_isN (pv 4) pe_non (nomark _)) (pw_or (pt_not (pt_val (pe_callB call_isi (by rfl) T.n_isinstance (by decide +kernel) (pa_cons (pv 5) (pa_cons (pe_bty (n := "list") T.n_list (by decide +kernel)) pa_nil))))) (pw_or (pt_cmpR op_ne (pe_callB call_len_seq (by rfl) T.n_len (by decide +kernel) (pa_cons (pv 5) pa_nil)) (pe_callB call_len_seq (by rfl) T.n_len (by decide +kernel) (pa_cons (pv 4) pa_nil)) (nomark _)) (pw_or1 (pt_cmpR (op_neD hr.units) (pv 2) (pv 3) (nomark _))))))) (pss_one (ps_ret pe_bl)) pss_nil)
      (pss_cons (ps_set (i := 6) sc__law_good.nd rfl (by first | exact Or.inl rfl | exact Or.inr rfl) pe_int)
      (pss_cons (ps_for PO rfl (pi_range2 (by rfl) T.n_range (pa_cons pe_int (pa_cons (pe_callB call_len_seq (by rfl) T.n_len (by decide +kernel) (pa_cons (pv 4) pa_nil)) pa_nil))) (pg_name (i := 7) sc__law_good.nd rfl (by first | exact Or.inl rfl | exact Or.inr rfl))
        (pss_cons (ps_set (i := 8) sc__law_good.nd rfl (by first | exact Or.inl rfl | exact Or.inr rfl) (pe_ix ix_list (pv 3) (pe_ix ix_list (pv 4) (pe_op op_sub (pv 7) pe_int) (fun _ _ => rfl)) (fun _ _ => rfl)))
          (pss_cons (ps_set (i := 9) sc__law_good.nd rfl (by first | exact Or.inl rfl | exact Or.inr rfl) (pe_ix ix_list (pv 3) (pe_ix ix_list (pv 4) (pv 7) (fun _ _ => rfl)) (fun _ _ => rfl)))
          (pss_cons (ps_set (i := 10) sc__law_good.nd rfl (by first | exact Or.inl rfl | exact Or.inr rfl) (pe_dget2 hu (pv 1) (pe_tupN (pa_cons (pv 8) (pa_cons (pv 9) pa_nil))) pe_int ⟨rfl, rfl, rfl, rfl⟩))
          (pss_cons (ps_set (i := 6) sc__law_good.nd rfl (by first | exact Or.inl rfl | exact Or.inr rfl) (pe_op op_add (pv 6) (pv 10)))
          (pss_one (ps_if (PW.pt (pw_or (pt_not (pt_val (pe_callB call_isi (by rfl) T.n_isinstance (by decide +kernel) (pa_cons (pe_ix ix_list (pv 5) (pe_op op_sub (pv 7) pe_int) (fun _ _ => rfl)) (pa_cons (pe_bty (n := "str") T.n_str (by decide +kernel)) pa_nil))))) (pw_or1 (pt_cmpR op_ne (pe_ix ix_list (pv 5) (pe_op op_sub (pv 7) pe_int) (fun _ _ => rfl)) (pe_op op_add_str (pe_op op_add_str (pe_op op_add_str (pe_op op_add_str (pv 8) pe_str) (pv 9)) pe_str) (pe_callTy call_str_int (by rfl) T.n_str (by decide +kernel) (pa_cons (pv 10) pa_nil))) (nomark _))))) (pss_one (ps_ret pe_bl)) pss_nil)))))))
      (pss_one (ps_ret (pe_and (pe_callB call_isi (by rfl) T.n_isinstance (by decide +kernel) (pa_cons (pe_ix ix_list (pv 5) (pe_un un_neg pe_int) (fun _ _ => rfl)) (pa_cons (pe_bty (n := "str") T.n_str (by decide +kernel)) pa_nil))) (pe_one (pe_cmpR op_eq (pe_ix ix_list (pv 5) (pe_un un_neg pe_int) (fun _ _ => rfl)) (pe_op op_add_str pe_str (pe_callTy call_str_int (by rfl) T.n_str (by decide +kernel) (pa_cons (pv 6) pa_nil))) (nomark _)))))))))))))), ?_⟩
    walk_at "s"
    intro R H1 nR s1 hR
    have hRq : SqL K H1 R (xs.map V.str) := SqL.of hR
    have hx1 := s1.seq hx
    have shx : SeqAt.shaped (.list ((xs.map V.str).map dat)) = true := shaped_list gj.flat
    walk_at "s"
    refine ⟨p, d, l, rs, xs, rfl, hT.same s1, hg, hx1, gj, s1 _ _ hP, (fun x b c e B H2 nB s2 hB => ?_), (fun e H2 s2 => ?_)⟩
    · have hRq2 := s2.seq hRq
      have s12 := Same.trans s1 s2
      have hx2 := s12.seq hx
      walk_at "s"
      refine ⟨p, d, R, rs, xs, rfl, hT.same s12, hRq2, gj, s12 _ _ hP, (fun x' b' c' e' D H3 nD s3 hD => ?_), (fun e' => by rw [e] at e'; cases e')⟩
      rw [e] at e'
      cases e'
      have hB3 := s3 _ _ hB
      have hBq3 : SqL K H3 B ((billL (pri rs) xs (pathL (pri rs) xs) x).map V.str) := SqL.of hB3
      have hDq3 : SqL K H3 D ((pathL (pri rs) xs).map V.int) := SqL.of hD
      have hx3 := s3.seq hx2
      have hR3 := s3.seq hRq2
      obtain ⟨g1, g2, g3, g4, g5, g6, _⟩ : GoodPath (pri rs) xs 0 x b (pathL (pri rs) xs) := path_good lo _ 0 x b c (by omega) (Nat.le_refl _) e
      have pl : (pathL (pri rs) xs).length ≤ 40 := by
        have := pathG_len (P := pri rs) (xs := xs) (xs.length - 1) 0
        show (pathG (pri rs) xs (xs.length - 1) 0).length ≤ 40
        omega
      have pl0 : 0 < (pathL (pri rs) xs).length := List.length_pos_iff.mpr g1
      have pl2 : 2 ≤ (pathL (pri rs) xs).length := by
        by_cases h : (pathL (pri rs) xs).length = 1
        · rw [h] at g3
          rw [show (1 : Nat) - 1 = 0 from rfl, g2] at g3
          omega
        · omega
      generalize pathL (pri rs) xs = cs at *
      have bl : (billL (pri rs) xs cs x).length = cs.length := by unfold billL; rw [List.length_append, List.length_map, List.length_range]; show _ + 1 = _; omega
      walk_at "s"
      refine ⟨_, _, _, _, true, rfl, .ty "list", .base (.lst hB3), kit_ty (by decide +kernel), ?_⟩
      walk_at "s"
      rw [List.length_map, List.length_map, bl]
      refine ifND (fun z => absurd rfl z) (fun _ => ?_)
      walk_at "s"
      refine ⟨_, _, .lst hx3 (dpAll_flat gj.flat), .lst hR3 (dpAll_flat gj.flat), shx, shx, ?_⟩
      rw [eqv_self shx]
      walk_at "s"
      rw [List.length_map]
      refine ⟨_, _, rfl, ⟨by omega, by omega, by omega, by omega⟩, ?_⟩
      have s03 := Same.trans s12 s3
      have ht3 := s03 _ _ ht
      have cle : ∀ j, j < cs.length → 0 ≤ cn cs j ∧ cn cs j ≤ (xs.length : Int) - 1 := fun j hj => by
        have tl : Tells cs (xs.length : Int) := ⟨pl2, g2, g3, g4⟩
        exact ⟨tl.ge hj, tl.le hj⟩
      have bat : ∀ k, k + 1 < cs.length → (billL (pri rs) xs cs x)[k]? = some (lineOf (legAt (pri rs) xs cs k)) := fun k hk => by
        unfold billL
        rw [List.getElem?_append_left (by rw [List.length_map, List.length_range]; omega), List.getElem?_map, List.getElem?_range (by omega)]; rfl
      refine for_range (fun k σ H' => ∃ v7 v8 v9 v10 : Option V, σ = [some (.ref p), some (.ref t), some (.ref l), some (.ref R), some (.ref D), some (.ref B), some (.int (psum (pri rs) xs cs k)), v7, v8, v9, v10] ∧ Same H3 H') ⟨none, none, none, none, rfl, Same.refl _⟩ ?_ ?_
      · rintro k σ H6 hk ⟨v7, v8, v9, v10, rfl, s6⟩
        have k1 : k + 1 < cs.length := by omega
        have hDq6 := s6.seq hDq3
        have hR6 := s6.seq hR3
        have hB6 := s6.seq hBq3
        obtain ⟨z0, z1⟩ := cle k (by omega)
        obtain ⟨z2, z3⟩ := cle (k + 1) k1
        obtain ⟨prc, hprc⟩ := (g5 k k1).pr
        have a1 : atI (cs.map V.int) (1 + (k : Int)) = some (.int (cn cs (k + 1))) := cn_at k1 (by omega)
        have a0 : atI (cs.map V.int) (1 + (k : Int) - 1) = some (.int (cn cs k)) := cn_at (by omega) (by omega)
        have ab : atI ((billL (pri rs) xs cs x).map V.str) (1 + (k : Int) - 1) = some (.str (lineOf (legAt (pri rs) xs cs k))) := atI_of (by omega) (by rw [show (1 + (k : Int) - 1).toNat = k by omega, List.getElem?_map, bat k k1]; rfl)
        have gr := hg.ok _ (pri_mem hprc)
        have eg : legAt (pri rs) xs cs k = (xat xs (cn cs k).toNat, xat xs (cn cs (k + 1)).toNat, prc) := by unfold legAt; rw [hprc]; rfl
        walk_at "s"
        refine ⟨_, _, _, _, rfl, rfl, hDq6, a0, ?_⟩
        walk_at "s"
        refine ⟨_, _, _, _, rfl, rfl, hR6, xat_at (i := (cn cs k).toNat) (by omega) (by omega), ?_⟩
        walk_at "s"
        refine ⟨_, _, _, _, rfl, rfl, hDq6, a1, ?_⟩
        walk_at "s"
        refine ⟨_, _, _, _, rfl, rfl, hR6, xat_at (i := (cn cs (k + 1)).toNat) (by omega) (by omega), ?_⟩
        walk_at "s"
        refine ⟨.inr ⟨_, .inl (s6 _ _ ht3)⟩, ?_⟩
        walk_at "s"
        refine ⟨(by simp), fun u1 H8 nu1 s8 h8 => ?_⟩
        have hv : valV (rs.map rowK) (wayK (xat xs (cn cs k).toNat) (xat xs (cn cs (k + 1)).toNat)) = some (.int prc) := pri_val hprc
        have dg := DGet.t (k := wayK (xat xs (cn cs k).toNat) (xat xs (cn cs (k + 1)).toNat)) (s8 _ _ (s6 _ _ ht3)) h8
        rw [hv] at dg
        have hB8 := s8.seq hB6
        walk_at "s"
        refine ⟨_, dg, ?_⟩
        have ep : psum (pri rs) xs cs (k + 1) = psum (pri rs) xs cs k + prc := by
          show _ + (stp (pri rs) xs _ _).getD 0 = _
          rw [hprc]; rfl
        have l1 : (xat xs (cn cs k).toNat).length ≤ 12 := (isP_len gr.p1).2
        have l2 : (xat xs (cn cs (k + 1)).toNat).length ≤ 12 := (isP_len gr.p2).2
        have l3 : (numS prc).length ≤ 13 := (fig_num gr.c).2.2.1
        have lb : blankS.length = 1 := by decide +kernel
        walk_at "s"
        refine ⟨_, _, _, _, rfl, rfl, hB8, ab, ?_⟩
        walk_at "s"
        refine ⟨_, _, _, _, true, rfl, .ty "str", .base (.str _), kit_ty (by decide +kernel), ?_⟩
        walk_at "s"
        refine ⟨_, _, _, _, rfl, rfl, hB8, ab, ?_⟩
        walk_at "s"
        refine ⟨szl (by rw [lb]; omega), ?_⟩
        walk_at "s"
        refine ⟨szl (by rw [len_app, lb]; omega), ?_⟩
        walk_at "s"
        refine ⟨szl (by rw [len_app, len_app, lb]; omega), ?_⟩
        walk_at "s"
        refine ⟨log_price gr.c, ?_⟩
        walk_at "s"
        refine ⟨szl (by rw [len_app, len_app, len_app, lb]; show _ + (numS prc).length ≤ _; omega), ?_⟩
        walk_at "s"
        refine ifND (fun z => absurd (by rw [eg]; rfl) z) (fun _ => ?_)
        walk_at "s"
        exact ⟨_, _, _, _, by rw [ep]; rfl, Same.trans s6 s8⟩
      · rintro σ H6 ⟨v7, v8, v9, v10, rfl, s6⟩
        rw [show ((cs.length : Int) - 1).toNat = cs.length - 1 by omega, g6]
        have hB6 := s6.seq hBq3
        have bz : (billL (pri rs) xs cs x)[cs.length - 1]? = some (allS x) := by
          unfold billL
          rw [List.getElem?_append_right (by rw [List.length_map, List.length_range]; omega), List.length_map, List.length_range, Nat.sub_self]; rfl
        have aL : atI ((billL (pri rs) xs cs x).map V.str) (-1) = some (.str (allS x)) := by
          rw [atI_neg1 (by rw [List.length_map, bl]; omega), List.length_map, bl, List.getElem?_map, bz]; rfl
        walk_at "s"
        refine ⟨_, _, _, _, rfl, rfl, hB6, aL, ?_⟩
        walk_at "s"
        refine ⟨_, _, _, _, true, rfl, .ty "str", .base (.str _), kit_ty (by decide +kernel), ?_⟩
        walk_at "s"
        refine ⟨_, _, _, _, rfl, rfl, hB6, aL, ?_⟩
        obtain ⟨z1, z2⟩ := psum_ok hg (xs := xs) (ns := cs) (cs.length - 1)
        rw [g6] at z1 z2
        have ix := int_show z1 (by omega : x ≤ 100000000000000)
        have lx : x.natAbs.log2 < 1920 := of_decide_eq_true (by have := ix.1; unfold PyData.showable at this; exact this)
        have ln : (numS x).length ≤ 40 := of_decide_eq_true (by have := ix.2; unfold PyData.leavesShort at this; exact this)
        have la : (Str.ofString "all ").length ≤ 10 := by decide +kernel
        walk_at "s"
        refine ⟨lx, ?_⟩
        walk_at "s"
        refine ⟨szl (by show _ + (numS x).length ≤ _; omega), ?_⟩
        walk_at "s"
        rw [show decide (V.str (allS x) = V.str (Str.ofString "all " ++ Str.ofString (toString x))) = true from decide_eq_true rfl]
        exact q _ (Same.trans s03 s6)
    · refine ⟨true, T.m_NoParting, fun _ ae hae => ?_, fun z => nomatch z⟩
      have s12 := Same.trans s1 s2
      walk_at "s"
      refine ⟨p, d, R, rs, xs, rfl, hT.same s12, s2.seq hRq, gj, s12 _ _ hP, e, fun H3 s3 => ?_⟩
      have s13 := Same.trans s12 s3
      walk_at "s"
      refine ⟨_, _, .lst (s13.seq hx) (dpAll_flat gj.flat), .lst (s3.seq (s2.seq hRq)) (dpAll_flat gj.flat), shx, shx, ?_⟩
      rw [eqv_self shx]
      exact q _ s13
end
end Fb

namespace Fb
open PySem PySem.Spec PyProof.Rows L2
local macro_rules | `(tactic| walk_at "s") => `(tactic| repeat (first | refine ⟨_, rfl, ?_⟩ | refine ⟨_, _, rfl, rfl, ?_⟩ | refine ⟨_, _, rfl, Or.inl (by assumption), ?_⟩ | refine ⟨rfl, ?_⟩ | refine ⟨(by decide : (0 : Int) < _), ?_⟩ | refine ⟨⟨by decide, by decide⟩, ?_⟩ | refine ⟨_, _, _, rfl, (by assumption), (by first | decide | omega), ?_⟩))
theorem strs_show : ∀ {zs : List Str}, (∀ z ∈ zs, okS 60 z) → PyData.showableAll ((zs.map V.str).map dat) = true ∧ PyData.leavesShortAll 40 ((zs.map V.str).map dat) = true ∧ PyData.hasDictAll ((zs.map V.str).map dat) = false ∧ PyData.bulkAll ((zs.map V.str).map dat) ≤ 61 * zs.length ∧ PyData.depthAll ((zs.map V.str).map dat) = 0
  | [], _ => ⟨rfl, rfl, rfl, Nat.le_refl _, rfl⟩
  | z :: zs, h => by
    obtain ⟨a1, a2, a3, a4, a5⟩ := strs_show fun m hm => h m (List.mem_cons_of_mem _ hm)
    obtain ⟨b1, b2⟩ := h z List.mem_cons_self
    have b3 : PyData.leavesShort 40 (.str z) = true := by
      unfold PyData.leavesShort
      exact List.all_eq_true.mpr fun c hc => decide_eq_true (Nat.lt_trans (b2 c hc) (by decide))
    have b4 : z.cps.size ≤ 60 := b1
    rw [List.map_cons, List.map_cons]
    show PyData.showableAll (PyData.str z :: _) = true ∧ PyData.leavesShortAll 40 (PyData.str z :: _) = true ∧ PyData.hasDictAll (PyData.str z :: _) = false ∧ PyData.bulkAll (PyData.str z :: _) ≤ _ ∧ PyData.depthAll (PyData.str z :: _) = 0
    refine ⟨by rw [PyData.showableAll, a1]; rfl, by rw [PyData.leavesShortAll, a2, b3]; rfl, by rw [PyData.hasDictAll, a3]; rfl, by rw [PyData.bulkAll, List.length_cons]; show z.cps.size + 1 + _ ≤ _; omega, by rw [PyData.depthAll, a5]; rfl⟩
theorem list_show {zs : List Str} (h : ∀ z ∈ zs, okS 60 z) (hl : zs.length ≤ 50) : PyData.showable (.list ((zs.map V.str).map dat)) = true ∧ PyData.hasDict (.list ((zs.map V.str).map dat)) = false ∧ PyData.depth (.list ((zs.map V.str).map dat)) ≤ 10 ∧ (PyData.shown (.list ((zs.map V.str).map dat))).length ≤ sizeLine := by
  obtain ⟨a1, a2, a3, a4, a5⟩ := strs_show h
  refine ⟨by unfold PyData.showable; exact a1, by unfold PyData.hasDict; exact a3, by unfold PyData.depth; rw [a5]; decide, ?_⟩
  have lb : PyData.leavesShort 40 (.list ((zs.map V.str).map dat)) = true := by unfold PyData.leavesShort; exact a2
  have hb := PyData.shown_le_bulk 40 (by decide) _ lb
  have eb : PyData.bulk (.list ((zs.map V.str).map dat)) = PyData.bulkAll ((zs.map V.str).map dat) := by rw [PyData.bulk]
  rw [eb] at hb
  have : (16777216 : Nat) = sizeLine := by decide
  omega
theorem strs_flat {zs : List Str} (h : ∀ z ∈ zs, okS 60 z) : ∀ v ∈ zs.map V.str, flat v := fun v hv => by
  obtain ⟨z, hz, rfl⟩ := List.mem_map.mp hv
  exact .inr (.inr (.inr ⟨z, rfl, okS_data (h z hz)⟩))
theorem all_ok {x : Int} (h0 : 0 ≤ x) (h1 : x ≤ 100000000000000) : okS 60 (allS x) := by
  obtain ⟨m, rfl⟩ : ∃ m : Nat, x = (m : Int) := ⟨x.toNat, by omega⟩
  have hl : (TL.numL m).length ≤ 15 := TL.numL_len (by decide) (by omega)
  have hlen : (numS (m : Int)).length = (TL.numL m).length := by rw [len_tl, numS_nat]
  have la : (Str.ofString "all ").length ≤ 10 := by decide +kernel
  have lc : ∀ c ∈ (Str.ofString "all ").cps.toList, c < 1114112 := by decide +kernel
  unfold allS
  refine ⟨by rw [len_app]; omega, fun c hc => ?_⟩
  have hc2 : c ∈ TL.tl (Str.ofString "all " ++ numS (m : Int)) := hc
  rw [TL.tl_append] at hc2
  rcases List.mem_append.mp hc2 with h | h
  · exact lc c h
  · have h2 : c ∈ (numS (m : Int)).cps.toList := h
    rw [numS_nat] at h2
    by_cases hn : c < 1114112
    · exact hn
    · exact absurd h2 (TL.numL_free (by omega))
theorem fig_codes {z : Str} (h : isFig z = true) : ∀ c ∈ z.cps.toList, c < 1114112 := fun c hc => by
  unfold isFig at h
  simp only [Bool.and_eq_true] at h
  have h2 := h.2
  split at h2
  · have := of_decide_eq_true h2
    rw [this] at hc
    rw [List.mem_singleton.mp hc]; decide
  · have := List.all_eq_true.mp h2 c hc
    unfold digit at this
    simp only [Bool.and_eq_true, decide_eq_true_eq] at this
    omega
theorem line_ok {r : Row} (g : GoodRow r) : okS 60 (lineOf r) := by
  have nm : ∀ {z : Str}, isP (.str z) = true → okS 12 z := fun {z} h => by
    have hl := (isP_len h).2
    rcases isP_ask h with h | ⟨b, h⟩ | ⟨i, h⟩ | ⟨y, h, hy⟩
    · cases h
    · cases h
    · cases h
    · cases h; exact ⟨hl, hy.2⟩
  have bl : okS 1 blankS := ⟨by decide +kernel, by decide +kernel⟩
  obtain ⟨f1, _, f3, _, _⟩ := fig_num g.c
  have fo : okS 13 (numS r.2.2) := ⟨f3, fig_codes f1⟩
  exact (((((nm g.p1).app bl).app (nm g.p2)).app bl).app fo).mono (by decide)
def spLaw (K : PySem.W.Frag) (P P2 : Addr) : Sp := fun vs H Q _ => ∃ (l : Addr) (ns : List Int), vs = [.ref l] ∧ SqL K H l (ns.map V.int) ∧ H P = some (TabO P) ∧ H P2 = some (TabO P2) ∧ ∀ H', H' P = some (TabO P) → H' P2 = some (TabO P2) → Q (.bl true) H'
abbrev s_law : Stmt := topS 50
abbrev N_law : List Str := ["_law_script", "_law_row", "_law_rows_here", "_law_cut", "_law_tariff", "_law_one", "_law_table_here", "_law_told", "_law_shown", "_law_mine"]
theorem sc_law : FnScope N_law ["_law_script"] (defScope s_law) := ⟨rfl, rfl, rfl, by decide +kernel, rfl, by decide +kernel, by decide +kernel⟩
section
variable {Pg : Program} {w : World} {K : PySem.W.Frag} {mg : Str → Option Value} {base : Heap} {a : Ads}
theorem ok_law {f P P2 : Addr} {fd : FuncData} (F : Fun K "law" "law" s_law f fd) (T : Txt K mg a) (D_cell_at : Dn Pg w K mg base 1 "_law_cell_at" ["_law_script", "_law_k"] (spCell K)) (D_journey : Dn Pg w K mg base 2 "_law_journey" ["_law_script"] (spJourney K))
    (D_rows : Dn Pg w K mg base 2 "_law_rows" ["_law_script", "_law_row"] (spLRows K)) (D_table : Dn Pg w K mg base 1 "_law_table" ["_law_rows_here"] (spTable K)) (D_other : Dn Pg w K mg base 2 "_law_other" ["_law_script", "_law_row"] (spOther K))
    (D_begun : Dn Pg w K mg base 7 "_law_begun" ["_law_script", "_law_rows_here"] (spBegun K a P P2)) (D_good : Dn Pg w K mg base 10 "_law_good" ["_law_tariff", "_law_table_here", "_law_handed"] (spGood11 K a P)) (D_bill : Dn Pg w K mg base 8 "bill" ["tariff", "journey"] (spBill K a P))
    (D_put : Dm Pg w K mg base 3 a.Tariff "put" ["self", "here", "there", "price"] (spPut a P)) (D_Tariff : Dk Pg w K mg base 4 "Tariff" a.Tariff ["self", "rows"] (spInit K a P)) : FnG Pg w K mg base 11 f fd ["_law_script"] (spLaw K P P2) := by
  refine F.okG sc_law (fun vs H Q E h => ?_) (fun cdv A outer s H vs Q E hgd hr h => ?_)
  · obtain ⟨_, _, rfl, _⟩ := h
    rfl
  · obtain ⟨l, ns, rfl, hs, hP, hP2, q⟩ := h
    have PO : PassesOwn (model Pg w) (A.deeper (envOfC "law" (defScope s_law) s.heap.objs.size f cdv)) (envOfC "law" (defScope s_law) s.heap.objs.size f cdv) (cxOf (L2N.CX Pg w) Pg w K mg base N_law "law" (defScope s_law) f cdv A outer s H E).xe := passes_of rfl
    refine ⟨_, (pss_cons (ps_set (i := 1) sc_law.nd rfl (by first | exact Or.inl rfl | exact Or.inr rfl) (pe_fnS D_journey (hr.mono (by decide)) passC (pa_cons (pv 0) pa_nil)))
      (pss_cons (ps_set (i := 2) sc_law.nd rfl (by first | exact Or.inl rfl | exact Or.inr rfl) (pe_fnS D_rows (hr.mono (by decide)) passC (pa_cons (pv 0) (pa_cons (pv 1) pa_nil))))
      (pss_cons (ps_if (pt_cmpR op_gt (pe_callB call_len_seq (by rfl) T.n_len (by decide +kernel) (pa_cons (pv 1) pa_nil)) pe_int (nomark _)) (pss_one (ps_ret (pe_fnS D_good (hr.mono (by decide)) passC (pa_cons (pe_mkS D_Tariff (hr.mono (by decide)) (fun σ => L2N.passAt (L2N.takes_of rfl rfl rfl rfl) σ) (pa_cons (pe_callTy call_list_ofN (by rfl) T.n_list (by decide +kernel) (pa_cons (pv 2) pa_nil)) pa_nil)) (pa_cons (pe_fnS D_table (hr.mono (by decide)) passC (pa_cons (pv 2) pa_nil)) (pa_cons (pv 1) pa_nil)))))) pss_nil)
      (pss_cons (ps_set (i := 3) sc_law.nd rfl (by first | exact Or.inl rfl | exact Or.inr rfl) (pe_op op_mod (pe_fnS D_cell_at (hr.mono (by decide)) passC (pa_cons (pv 0) (pa_cons pe_int pa_nil))) (pe_op op_add (pe_callB call_len_seq (by rfl) T.n_len (by decide +kernel) (pa_cons (pv 2) pa_nil)) pe_int)))
      (pss_cons (ps_set (i := 4) sc_law.nd rfl (by first | exact Or.inl rfl | exact Or.inr rfl) (pe_fnS D_begun (hr.mono (by decide)) passC (pa_cons (pv 0) (pa_cons (pe_slice sl_listN (pv 2) po_none (po_some (pv 3))) pa_nil))))
      (pss_cons (ps_if (pt_not (pt_val (pe_fnS D_good (hr.mono (by decide)) passC (pa_cons (pv 4) (pa_cons (pe_fnS D_table (hr.mono (by decide)) passC (pa_cons (pe_slice sl_listN (pv 2) po_none (po_some (pv 3))) pa_nil)) (pa_cons (pv 1) pa_nil)))))) (pss_one (ps_ret pe_bl)) pss_nil)
      (pss_cons (ps_for PO rfl (pi_list (pe_slice sl_listN (pv 2) (po_some (pv 3)) po_none)) (pg_name (i := 5) sc_law.nd rfl (by first | exact Or.inl rfl | exact Or.inr rfl))
        (pss_one (ps_expr (pe_mdS (pv 4) T.cl_Tariff D_put (hr.mono (by decide)) (fun σ => L2N.passAt (L2N.takes_of rfl rfl rfl rfl) σ) (pa_cons (pe_ix ix_tup (pv 5) pe_int (fun _ _ => rfl)) (pa_cons (pe_ix ix_tup (pv 5) pe_int (fun _ _ => rfl)) (pa_cons (pe_ix ix_tup (pv 5) pe_int (fun _ _ => rfl)) pa_nil)))))))
      (pss_cons (ps_set (i := 6) sc_law.nd rfl (by first | exact Or.inl rfl | exact Or.inr rfl) (pe_fnS D_table (hr.mono (by decide)) passC (pa_cons (pv 2) pa_nil)))
      (pss_cons (ps_set (i := 7) sc_law.nd rfl (by first | exact Or.inl rfl | exact Or.inr rfl) pe_non)
      (C8.pss_cut (ps_tryM rfl rfl takesN0
        (fun W pn xe tk PO => (pss_one (ps_set (i := 7) sc_law.nd rfl (by first | exact Or.inl rfl | exact Or.inr rfl) (pe_fnS D_bill (hr.mono (by decide)) (fun σ => L2N.passAt tk σ) (pa_cons (pv 4) (pa_cons (pe_callTy (call_list_ofNS (K := K)) (by rfl) T.n_list (by decide +kernel) (pa_cons (pv 1) pa_nil)) pa_nil))))))
        (L2N.HdsOk.cons ⟨rfl, by decide, .inl T.x_NoParting.g⟩ (fun a_e oe cls d pn hz hf => (pss_one (ps_set (i := 7) sc_law.nd rfl (by first | exact Or.inl rfl | exact Or.inr rfl) pe_non))) L2N.HdsOk.nil))
      (pss_cons (ps_set (i := 8) sc_law.nd rfl (by first | exact Or.inl rfl | exact Or.inr rfl) (pe_callTy (call_strDN hgd hr.units) (by rfl) T.n_str (by decide +kernel) (pa_cons (pv 7) pa_nil)))
      (pss_cons (ps_set (i := 9) sc_law.nd rfl (by first | exact Or.inl rfl | exact Or.inr rfl) (pe_callTy call_list_ofN (by rfl) T.n_list (by decide +kernel) (pa_cons (pv 1) pa_nil)))
      (pss_cons (ps_if (pt_not (pt_val (pe_fnS D_good (hr.mono (by decide)) passC (pa_cons (pv 4) (pa_cons (pv 6) (pa_cons (pv 9) pa_nil)))))) (pss_one (ps_ret pe_bl)) pss_nil)
      (pss_cons (ps_expr (pe_bm0 PySem.F.plainAttrs_list PySem.F.slot_list_clear PySem.F.type_list_clear mt_clearN (pv 9)))
      (pss_cons (ps_expr (pe_bm PySem.F.plainAttrs_list PySem.F.slot_list_extend PySem.F.type_list_extend mt_extendN (pv 9) (pa_cons (pe_fnS D_other (hr.mono (by decide)) passC (pa_cons (pv 0) (pa_cons (pv 1) pa_nil))) pa_nil)))
      (pss_cons (ps_if (pt_not (pt_val (pe_fnS D_good (hr.mono (by decide)) passC (pa_cons (pv 4) (pa_cons (pv 6) (pa_cons (pv 9) pa_nil)))))) (pss_one (ps_ret pe_bl)) pss_nil)
      (pss_one (ps_ret (pe_cmpR op_eq (pe_callTy (call_strDN hgd hr.units) (by rfl) T.n_str (by decide +kernel) (pa_cons (pv 7) pa_nil)) (pv 8) (nomark _)))))))))))))))))))), ?_⟩
    walk_at "s"
    refine ⟨l, ns, rfl, hs, fun jw H1 xs n1 s1 h1 gj => ?_⟩
    have hj1 : SqL K H1 jw (xs.map V.str) := SqL.of h1
    have hs1 := s1.seq hs
    have lo := gj.lo
    have hi := gj.hi
    walk_at "s"
    refine ⟨l, jw, ns, xs, rfl, hs1, hj1, gj, fun rw2 H2 ts rs n2 s2 h2 pr gr hlen => ?_⟩
    have s02 := Same.trans s1 s2
    have hs2 := s02.seq hs
    have hj2 := s2.seq hj1
    have hq2 : SqL K H2 rw2 (ts.map V.ref) := SqL.of h2
    have lts := Paired.length pr
    have shr := shaped_rows gr.ok
    have hP2a := s02 _ _ hP
    have hP22a := s02 _ _ hP2
    walk_at "s"
    rw [List.length_map]
    refine ifD (fun c16 => ?_) (fun c16 => ?_)
    · walk_at "s"
      intro l2 H5 n5 s5 h5
      have tk : takeRows [] (rs.map givenOf) = (0, rs) := take_good (rs := []) (by simpa using gr) (by simpa using hlen)
      have hP5 := s5 _ _ hP2a
      walk_at "s"
      intro x dx hx hdx hne
      have m1 : Same H5 (upd (upd H5 dx (.own x)) x (.ins a.Tariff dx [])) := fun b o e => by rw [upd_ne (ne_of_none e hx), upd_ne (ne_of_none e hdx)]; exact e
      refine ⟨x, dx, l2, ts, rs.map givenOf, rfl, upd_same, m1 _ _ hP5, SqL.of (m1 _ _ h5), given_rows (rows_same m1 (rows_same s5 pr)), good_ask gr, by rw [List.length_map]; omega, fun _ d H6 hd6 sb6 T6 => ⟨rfl, ?_⟩, fun e => absurd (by rw [tk]) e⟩
      rw [tk] at T6
      have s6 : Same H5 H6 := fun b o e => sb6 _ _ (ne_of_none e hx) (m1 _ _ e)
      clear m1 sb6 hne hdx
      have s26 := Same.trans s5 s6
      have hq6 := s26.seq hq2
      walk_at "s"
      refine ⟨rw2, ts, rs, rfl, hq6, rows_same s26 pr, gr, by omega, fun t3 H7 n7 s7 h7 => ?_⟩
      have s27 := Same.trans s26 s7
      have hj7 := s27.seq hj2
      walk_at "s"
      refine ⟨x, d, t3, jw, rs, xs, rfl, T6.same s7, h7, gr, hj7, gj, s27 _ _ hP2a, fun H8 s8 => ?_⟩
      exact q _ (s8 _ _ (s27 _ _ hP2a)) (s8 _ _ (s27 _ _ hP22a))
    walk_at "s"
    refine ⟨by rw [List.length_map]; omega, ?_⟩
    obtain ⟨c, ec, hc⟩ : ∃ c : Nat, cel ns 62 % (((ts.map V.ref).length : Int) + 1) = (c : Int) ∧ c ≤ ts.length := by
      rw [List.length_map]
      obtain ⟨c, e1, e2⟩ := modN (cel ns 62) (n := ts.length + 1) (by omega)
      exact ⟨c, by rw [← e1]; rfl, by omega⟩
    dsimp only
    rw [ec]
    have ec1 : cutV (ts.map V.ref) none (some (c : Int)) = (ts.take c).map V.ref := by
      rw [cutV_map]
      unfold cutX
      rw [HT.sIx_none, HT.sIx_nat, List.drop_zero, Nat.sub_zero, Nat.min_eq_left hc]
    have ec2 : cutV (ts.map V.ref) (some (c : Int)) none = (ts.drop c).map V.ref := by
      rw [cutV_map]
      unfold cutX
      rw [HT.sIx_none, HT.sIx_nat, Nat.min_eq_left hc]
      rw [List.take_of_length_le (by rw [List.length_drop]; exact Nat.le_refl _)]
    walk_at "s"
    refine ⟨_, _, rfl, hq2, fun b1 H6 nb1 s6 h6 => ?_⟩
    rw [ec1] at h6
    have s26 := s6
    have hs6 := s6.seq hs2
    have hP6 := s26 _ _ (s02 _ _ hP)
    have hP26 := s26 _ _ (s02 _ _ hP2)
    walk_at "s"
    refine ⟨l, b1, ns, ts.take c, rs.take c, rfl, hs6, SqL.of h6, paired_take c (rows_same s26 pr), good_take gr c, by rw [List.length_take]; omega, hP6, hP26, fun x d H7 nx nd s7 T7 => ?_⟩
    have s67 := s7
    have hs7 := s7.seq hs6
    have hj7 := s7.seq (s6.seq hj2)
    have hq7 := s7.seq (s6.seq hq2)
    walk_at "s"
    refine ⟨_, _, rfl, hq7, fun b2 H11 nb2 s11 h11 => ?_⟩
    rw [ec1] at h11
    have pr11 := rows_same (Same.trans s26 (Same.trans s7 s11)) pr
    walk_at "s"
    refine ⟨b2, ts.take c, rs.take c, rfl, SqL.of h11, paired_take c pr11, good_take gr c, by rw [List.length_take]; omega, fun t1 H12 nt1 s12 h12 => ?_⟩
    have s712 := Same.trans s11 s12
    have hj12 := s712.seq hj7
    walk_at "s"
    refine ⟨x, d, t1, jw, rs.take c, xs, rfl, T7.same s712, h12, good_take gr c, hj12, gj, s712 _ _ (s7 _ _ hP6), fun H13 s13 => ?_⟩
    have s713 := Same.trans s712 s13
    have hq13 := s713.seq hq7
    have T13 := T7.same s713
    walk_at "s"
    refine ⟨_, _, rfl, hq13, fun b3 H14 nb3 s14 h14 => ?_⟩
    rw [ec2] at h14
    walk_at "s"
    have hh3 : SqL K H14 b3 ((ts.drop c).map V.ref) := SqL.of h14
    have lrs : ts.length = rs.length := lts
    have T14 := T13.same s14
    have s614 := Same.trans s67 (Same.trans s713 s14)
    have prd := paired_drop c pr
    refine ⟨⟨_, hh3⟩, for_list (K := K) (a := b3) (xs := (ts.drop c).map V.ref) (fun i σ H' => ∃ v6, σ = [some (.ref l), some (.ref jw), some (.ref rw2), some (.int (c : Int)), some (.ref x), v6, none, none, none, none] ∧ Same H6 H' ∧ H' b3 = some (.lst ((ts.drop c).map V.ref)) ∧ TarAt a.Tariff H' x d (rs.take (c + i))) ⟨none, rfl, s614, h14, T14⟩ (fun i σ H' _ ⟨_, _, _, h3, _⟩ => SqL.of h3) ?_ ?_⟩
    · rintro i y σ H15 hi ⟨v10, rfl, s15, h15, T15⟩
      rw [List.getElem?_map] at hi
      obtain ⟨u, hu1, rfl⟩ := Option.map_eq_some_iff.mp hi
      obtain ⟨rr, hr1, hrow⟩ := paired_at prd hu1
      rw [List.getElem?_drop] at hr1
      have il := (List.getElem?_eq_some_iff.mp hr1).1
      have gr1 := gr.ok rr (List.mem_of_getElem? hr1)
      have hrow15 : IsRow H15 u rr := s15 _ _ (s26 _ _ hrow)
      obtain ⟨dx, hob⟩ := T15.ob
      walk_at "s"
      refine ⟨x, dx, _, rfl, hob, prices_no d (by decide), ?_⟩
      walk_at "s"
      refine ⟨_, _, _, _, rfl, rfl, SqT.of hrow15, rfl, ?_⟩
      walk_at "s"
      refine ⟨_, _, _, _, rfl, rfl, SqT.of hrow15, rfl, ?_⟩
      walk_at "s"
      refine ⟨_, _, _, _, rfl, rfl, SqT.of hrow15, rfl, ?_⟩
      walk_at "s"
      have pg := put_good (rs := rs.take (c + i)) gr1 (nd_fresh gr hr1) (by rw [List.length_take]; omega)
      refine ⟨x, d, _, _, _, rs.take (c + i), rfl, isP_ask gr1.p1, isP_ask gr1.p2, .inr (.inr (.inl ⟨_, rfl⟩)), s15 _ _ hP6, T15, by rw [List.length_take]; omega, fun _ H16 sb16 T16 => ?_, fun e => absurd pg e⟩
      rw [show rs.take (c + i) ++ [mkRow (.str rr.1) (.str rr.2.1) (.int rr.2.2)] = rs.take (c + (i + 1)) from take_snoc hr1] at T16
      walk_at "s"
      exact ⟨same_mutB s15 nd sb16, sb16 _ _ (ne_of h15 T15.dc (by intro z; cases z)) h15, T16⟩
    clear h14 T14 hh3 s614 T13 hq13 s713 s712 h12 h11 pr11 hj12 hq7 hj7 hs7 s67 s14 s13 s12 s11 T7 s7
    rintro σ H15 ⟨v10, rfl, s15, _, T15⟩
    rw [List.length_map, List.length_drop, List.take_of_length_le (by omega)] at T15
    have s215 := Same.trans s26 s15
    have hq15 := s215.seq hq2
    have hs15 := s215.seq (s02.seq hs)
    have hj15 := s215.seq (s2.seq hj1)
    have hP15 := s15 _ _ hP6
    have hP215 := s15 _ _ hP26
    walk_at "s"
    refine ⟨rw2, ts, rs, rfl, hq15, rows_same s215 pr, gr, by omega, fun t3 H16 n16 s16 h16 => ?_⟩
    have hj16 := s16.seq hj15
    have T16 := T15.same s16
    walk_at "s"
    refine ⟨fun σ' H' => ∃ v : V, σ' = [some (.ref l), some (.ref jw), some (.ref rw2), some (.int (c : Int)), some (.ref x), v10, some (.ref t3), some v, none, none] ∧ Same H16 H' ∧ (v = .non ∨ ∃ (B : Addr) (zs : List Str), v = .ref B ∧ H16 B = none ∧ H' B = some (.lst (zs.map V.str)) ∧ zs.length ≤ 50 ∧ ∀ z ∈ zs, okS 60 z), ?_, ?_⟩
    · walk_at "s"
      intro R H17 nR s17 hR
      walk_at "s"
      refine ⟨x, d, R, rs, xs, rfl, T16.same s17, gr, SqL.of hR, gj, s17 _ _ (s16 _ _ hP15), (fun b1' b2' b3' e B H18 nB s18 hB => ?_), (fun e H18 s18 => ?_)⟩
      · obtain ⟨g1, g2, g3, g4, g5, g6, _⟩ : GoodPath (pri rs) xs 0 b1' b2' (pathL (pri rs) xs) := path_good lo _ 0 b1' b2' b3' (by omega) (Nat.le_refl _) e
        have pl : (pathL (pri rs) xs).length ≤ 40 := by
          have := pathG_len (P := pri rs) (xs := xs) (xs.length - 1) 0
          show (pathG (pri rs) xs (xs.length - 1) 0).length ≤ 40
          omega
        walk_at "s"
        refine ⟨Same.trans s17 s18, .inr ⟨B, _, rfl, s17.free nB, hB, ?_, fun z hz => ?_⟩⟩
        · unfold billL
          rw [List.length_append, List.length_map, List.length_range]
          show _ + 1 ≤ _
          omega
        · unfold billL at hz
          rcases List.mem_append.mp hz with h | h
          · obtain ⟨k, hk, rfl⟩ := List.mem_map.mp h
            have hk2 := List.mem_range.mp hk
            obtain ⟨prc, hprc⟩ := (g5 k (by omega)).pr
            have gr1 := gr.ok _ (pri_mem hprc)
            have eg : legAt (pri rs) xs (pathL (pri rs) xs) k = (xat xs (cn (pathL (pri rs) xs) k).toNat, xat xs (cn (pathL (pri rs) xs) (k + 1)).toNat, prc) := by unfold legAt; rw [hprc]; rfl
            rw [eg]
            exact line_ok gr1
          · rw [List.mem_singleton.mp h]
            obtain ⟨z1, z2⟩ := psum_ok gr (xs := xs) (ns := pathL (pri rs) xs) ((pathL (pri rs) xs).length - 1)
            rw [g6] at z1 z2
            exact all_ok z1 (by omega)
      · refine ⟨true, T.m_NoParting, fun _ ae hae => ?_, fun z => nomatch z⟩
        walk_at "s"
        exact ⟨Same.trans s17 s18, .inl rfl⟩
    · rintro σ H17 ⟨v, rfl, s17, hv⟩
      have T17 := T16.same s17
      have hj17 := s17.seq hj16
      have ht17 := s17 _ _ h16
      have s1517 := Same.trans s16 s17
      have hP17 := s1517 _ _ hP15
      have hP217 := s1517 _ _ hP215
      have hs17 := s1517.seq hs15
      obtain ⟨wd, hw⟩ : ∃ wd : Str, ∀ (H' : Hp) (Q2 : VK), (∀ B zs, v = .ref B → H17 B = some (.lst zs) → H' B = some (.lst zs)) → Q2 (.str wd) H' → rStrDN K [v] H' Q2 := by
        rcases hv with rfl | ⟨B, zs, rfl, _, hB, hl, ok⟩
        · exact ⟨Str.ofString "None", fun H' Q2 _ q2 => .inl ⟨rfl, q2⟩⟩
        · obtain ⟨sh1, sh2, sh3, sh4⟩ := list_show ok hl
          exact ⟨_, fun H' Q2 hk q2 => .inr ⟨B, _, rfl, .lst (SqL.of (hk B _ rfl hB)) (dpAll_flat (strs_flat ok)), sh1, sh2, sh3, sh4, q2⟩⟩
      walk_at "s"
      dsimp only [tNil]
      refine hw _ _ (fun _ _ _ e => e) ?_
      walk_at "s"
      intro mw H18 nm s18 h18
      have hm18 : SqL K H18 mw (xs.map V.str) := SqL.of h18
      walk_at "s"
      refine ⟨x, d, t3, mw, rs, xs, rfl, T17.same s18, s18 _ _ ht17, gr, hm18, gj, s18 _ _ hP17, fun H19 s19 => ?_⟩
      have s1719 := Same.trans s18 s19
      have hm19 := s19 _ _ h18
      walk_at "s"
      refine ⟨.inl ⟨rfl, _, SqL.of hm19⟩, ?_⟩
      refine ⟨mw, _, rfl, rfl, hm19, fun H20 s20 h20 => ?_⟩
      have s1720 : Same H17 H20 := same_mutB s1719 nm s20
      have hs20 := s1720.seq hs17
      have hj20 := s1720.seq hj17
      walk_at "s"
      refine ⟨.inl ⟨rfl, _, SqL.of h20⟩, ?_⟩
      walk_at "s"
      refine ⟨l, jw, ns, xs, rfl, hs20, hj20, gj, fun ow H21 ys nw s21 h21 gy hyl => ?_⟩
      have s1721 := Same.trans s1720 s21
      have h21m := s21 _ _ h20
      walk_at "s"
      refine ⟨mw, ow, _, _, rfl, rfl, h21m, h21, by rw [List.length_map, List.length_nil]; omega, fun H22 s22 h22 => ?_⟩
      rw [List.nil_append] at h22
      have s1722 : Same H17 H22 := same_mutB s1721 nm s22
      walk_at "s"
      refine ⟨x, d, t3, mw, rs, ys, rfl, T17.same s1722, s1722 _ _ ht17, gr, SqL.of h22, gy, s1722 _ _ hP17, fun H23 s23 => ?_⟩
      have s1723 := Same.trans s1722 s23
      walk_at "s"
      dsimp only [tNil]
      refine hw _ _ (fun B zs _ e => s1723 _ _ e) ?_
      walk_at "s"
      --@c
      rw [show decide (V.str wd = V.str wd) = true from decide_eq_true rfl]
      exact q _ (s1723 _ _ hP17) (s1723 _ _ hP217)
end
end Fb

namespace Fb
open PySem PySem.Spec PyProof.Rows L2
theorem all_mk {w : World} {K : PySem.W.Frag} {h : Heap} {mg : Str → Option Value} {fa cFareError cBadPlace cBadPrice cTwiceTold cTooMany cBadJourney cNoParting cBadLine cTariff f_is_place f_is_price f_Tariff_put f_Tariff_init f_Tariff_price f_Tariff_told f_need_journey f_stretch_price f_first_twice f_first_dearer f_fault_of f_held f_best_on f_ways_on f_cuts_along f_priced f_parted f_stretches_of f_line_of f_bill f_are_figures f_row_of f_tariff_of f__law_cell_at f__law_names f__law_journey f__law_rows f__law_table f__law_other f__law_begun f__law_cuts f__law_good f_law c_is_place P_is_place c_are_figures P_are_figures : Addr} {l : PySem.W.OpenLaw} (X : K.In h) (G : h.Ns mainGlobals mg) (hfa : mg "law" = some (.ref fa)) (tabs : ∀ g ∈ (["is_place", "are_figures"] : List Str), TabN mg h g)
    (hFareError : EA K "FareError" cFareError) (hBadPlace : EA K "BadPlace" cBadPlace) (hBadPrice : EA K "BadPrice" cBadPrice) (hTwiceTold : EA K "TwiceTold" cTwiceTold)
    (hTooMany : EA K "TooMany" cTooMany) (hBadJourney : EA K "BadJourney" cBadJourney) (hNoParting : EA K "NoParting" cNoParting) (hBadLine : EA K "BadLine" cBadLine)
    (sBadPlace : PySem.W.subIn K (.ref cBadPlace) (.ref cFareError) = some true) (sBadPrice : PySem.W.subIn K (.ref cBadPrice) (.ref cFareError) = some true) (sTwiceTold : PySem.W.subIn K (.ref cTwiceTold) (.ref cFareError) = some true) (sTooMany : PySem.W.subIn K (.ref cTooMany) (.ref cFareError) = some true)
    (sBadJourney : PySem.W.subIn K (.ref cBadJourney) (.ref cFareError) = some true) (sNoParting : PySem.W.subIn K (.ref cNoParting) (.ref cFareError) = some true) (sBadLine : PySem.W.subIn K (.ref cBadLine) (.ref cFareError) = some true) (sNoParting_self : PySem.W.subIn K (.ref cNoParting) (.ref cNoParting) = some true)
    (hTariff : CA K "Tariff" cTariff) (naP : PySem.W.findIn K (.ref cTariff) "_prices" = some none) (gLONGEST_PLACE : ∃ t, PySem.W.nsIn K mainGlobals "LONGEST_PLACE" = some (some (.int 12 t))) (gHIGHEST_PRICE : ∃ t, PySem.W.nsIn K mainGlobals "HIGHEST_PRICE" = some (some (.int 1000000000000 t)))
    (gMOST_ROWS : ∃ t, PySem.W.nsIn K mainGlobals "MOST_ROWS" = some (some (.int 160 t))) (gFEWEST_PLACES : ∃ t, PySem.W.nsIn K mainGlobals "FEWEST_PLACES" = some (some (.int 2 t))) (gMOST_PLACES : ∃ t, PySem.W.nsIn K mainGlobals "MOST_PLACES" = some (some (.int 40 t))) (gMOST_FIGURES : ∃ t, PySem.W.nsIn K mainGlobals "MOST_FIGURES" = some (some (.int 13 t)))
    (n_len : PySem.W.nsIn K mainGlobals "len" = some none) (n_int : PySem.W.nsIn K mainGlobals "int" = some none) (n_str : PySem.W.nsIn K mainGlobals "str" = some none) (n_list : PySem.W.nsIn K mainGlobals "list" = some none)
    (n_tuple : PySem.W.nsIn K mainGlobals "tuple" = some none) (n_dict : PySem.W.nsIn K mainGlobals "dict" = some none) (n_isinstance : PySem.W.nsIn K mainGlobals "isinstance" = some none) (n_range : PySem.W.nsIn K mainGlobals "range" = some none)
    (n_enumerate : PySem.W.nsIn K mainGlobals "enumerate" = some none) (n_all : PySem.W.nsIn K mainGlobals "all" = some none) (n_any : PySem.W.nsIn K mainGlobals "any" = some none) (n_sum : PySem.W.nsIn K mainGlobals "sum" = some none)
    (n_min : PySem.W.nsIn K mainGlobals "min" = some none) (n_max : PySem.W.nsIn K mainGlobals "max" = some none) (n_abs : PySem.W.nsIn K mainGlobals "abs" = some none) (n_sorted : PySem.W.nsIn K mainGlobals "sorted" = some none)
    (n_zip : PySem.W.nsIn K mainGlobals "zip" = some none) (n_reversed : PySem.W.nsIn K mainGlobals "reversed" = some none) (n_bool : PySem.W.nsIn K mainGlobals "bool" = some none) (n_ValueError : PySem.W.nsIn K mainGlobals "ValueError" = some none)
    (n_set : PySem.W.nsIn K mainGlobals "set" = some none) (h_is_place : FAC K "is_place" s_is_place f_is_place c_is_place P_is_place) (h_is_price : FA K "is_price" s_is_price f_is_price) (h_Tariff_put : FM K cTariff "put" "Tariff.put" s_Tariff_put f_Tariff_put)
    (h_Tariff_init : FM K cTariff "__init__" "Tariff.__init__" s_Tariff_init f_Tariff_init) (h_Tariff_price : FM K cTariff "price" "Tariff.price" s_Tariff_price f_Tariff_price) (h_Tariff_told : FM K cTariff "told" "Tariff.told" s_Tariff_told f_Tariff_told) (h_need_journey : FA K "need_journey" s_need_journey f_need_journey)
    (h_stretch_price : FA K "stretch_price" s_stretch_price f_stretch_price) (h_first_twice : FA K "first_twice" s_first_twice f_first_twice) (h_first_dearer : FA K "first_dearer" s_first_dearer f_first_dearer) (h_fault_of : FA K "fault_of" s_fault_of f_fault_of)
    (h_held : FA K "held" s_held f_held) (h_best_on : FA K "best_on" s_best_on f_best_on) (h_ways_on : FA K "ways_on" s_ways_on f_ways_on) (h_cuts_along : FA K "cuts_along" s_cuts_along f_cuts_along)
    (h_priced : FA K "priced" s_priced f_priced) (h_parted : FA K "parted" s_parted f_parted) (h_stretches_of : FA K "stretches_of" s_stretches_of f_stretches_of) (h_line_of : FA K "line_of" s_line_of f_line_of)
    (h_bill : FA K "bill" s_bill f_bill) (h_are_figures : FAC K "are_figures" s_are_figures f_are_figures c_are_figures P_are_figures) (h_row_of : FA K "row_of" s_row_of f_row_of) (h_tariff_of : FA K "tariff_of" s_tariff_of f_tariff_of)
    (h__law_cell_at : FA K "_law_cell_at" s__law_cell_at f__law_cell_at) (h__law_names : FA K "_law_names" s__law_names f__law_names) (h__law_journey : FA K "_law_journey" s__law_journey f__law_journey) (h__law_rows : FA K "_law_rows" s__law_rows f__law_rows)
    (h__law_table : FA K "_law_table" s__law_table f__law_table) (h__law_other : FA K "_law_other" s__law_other f__law_other) (h__law_begun : FA K "_law_begun" s__law_begun f__law_begun) (h__law_cuts : FA K "_law_cuts" s__law_cuts f__law_cuts)
    (h__law_good : FA K "_law_good" s__law_good f__law_good) (h_law : FA K "law" s_law f_law)
    : LawG l w K 11 63 "_law_script" mg fa h := by
  have e := hfa.symm.trans (PySem.W.mg_of X G h_law.a)
  cases e
  obtain ⟨a, ea⟩ : ∃ a : Ads, a = ⟨cFareError, cBadPlace, cBadPrice, cTwiceTold, cTooMany, cBadJourney, 0, 0, cNoParting, cBadLine, cTariff⟩ := ⟨_, rfl⟩
  have T : Txt K mg a := by
    rw [ea]
    exact { n_len := PySem.W.mg_none_of X G n_len, n_int := PySem.W.mg_none_of X G n_int, n_str := PySem.W.mg_none_of X G n_str, n_list := PySem.W.mg_none_of X G n_list, n_tuple := PySem.W.mg_none_of X G n_tuple, n_dict := PySem.W.mg_none_of X G n_dict, n_isinstance := PySem.W.mg_none_of X G n_isinstance, n_range := PySem.W.mg_none_of X G n_range, n_enumerate := PySem.W.mg_none_of X G n_enumerate, n_all := PySem.W.mg_none_of X G n_all, n_any := PySem.W.mg_none_of X G n_any, n_sum := PySem.W.mg_none_of X G n_sum, n_min := PySem.W.mg_none_of X G n_min, n_max := PySem.W.mg_none_of X G n_max, n_abs := PySem.W.mg_none_of X G n_abs, n_sorted := PySem.W.mg_none_of X G n_sorted, n_zip := PySem.W.mg_none_of X G n_zip, n_reversed := PySem.W.mg_none_of X G n_reversed, n_bool := PySem.W.mg_none_of X G n_bool, n_ValueError := PySem.W.mg_none_of X G n_ValueError, n_set := PySem.W.mg_none_of X G n_set, c_LONGEST_PLACE := FA.gint X G gLONGEST_PLACE, c_HIGHEST_PRICE := FA.gint X G gHIGHEST_PRICE, c_MOST_ROWS := FA.gint X G gMOST_ROWS, c_FEWEST_PLACES := FA.gint X G gFEWEST_PLACES, c_MOST_PLACES := FA.gint X G gMOST_PLACES, c_MOST_FIGURES := FA.gint X G gMOST_FIGURES, x_FareError := hFareError.exk X G, x_BadPlace := hBadPlace.exk X G, x_BadPrice := hBadPrice.exk X G, x_TwiceTold := hTwiceTold.exk X G, x_TooMany := hTooMany.exk X G, x_BadJourney := hBadJourney.exk X G, x_NoParting := hNoParting.exk X G, x_BadLine := hBadLine.exk X G, e_BadPlace := hFareError.exm sBadPlace, i_BadPlace := hBadPlace.exc, v_BadPlace := hBadPlace.kitV, k_BadPlace_BadPlace := kit_self, e_BadPrice := hFareError.exm sBadPrice, i_BadPrice := hBadPrice.exc, v_BadPrice := hBadPrice.kitV, k_BadPrice_BadPrice := kit_self, e_TwiceTold := hFareError.exm sTwiceTold, i_TwiceTold := hTwiceTold.exc, v_TwiceTold := hTwiceTold.kitV, k_TwiceTold_TwiceTold := kit_self, e_TooMany := hFareError.exm sTooMany, i_TooMany := hTooMany.exc, v_TooMany := hTooMany.kitV, k_TooMany_TooMany := kit_self, e_BadJourney := hFareError.exm sBadJourney, i_BadJourney := hBadJourney.exc, v_BadJourney := hBadJourney.kitV, k_BadJourney_BadJourney := kit_self, e_NoParting := hFareError.exm sNoParting, i_NoParting := hNoParting.exc, v_NoParting := hNoParting.kitV, k_NoParting_NoParting := kit_self, e_BadLine := hFareError.exm sBadLine, i_BadLine := hBadLine.exc, v_BadLine := hBadLine.kitV, k_BadLine_BadLine := kit_self, m_NoParting := hNoParting.exm sNoParting_self, cl_Tariff := hTariff.cls, na_prices := naP }
  have eT : a.Tariff = cTariff := by rw [ea]
  obtain ⟨hT_is_place, hC_is_place⟩ := h_is_place.tab X G (tabs _ (by simp))
  obtain ⟨hT_are_figures, hC_are_figures⟩ := h_are_figures.tab X G (tabs _ (by simp))
  obtain ⟨oc, od, kV, dc, pm, an, cd, ct, osl, lL, cL⟩ := h_law.l
  refine ⟨PySem.W.fnOf "law" "law" (defArgs s_law) (defBody s_law) (defScope s_law) .none kV dc pm an cd ct, [(c_is_place, P_is_place), (c_are_figures, P_are_figures)], (spLaw K P_is_place P_are_figures), fun p hp => ?_, fun p hp => ?_, fun p hp => ?_, fun s u => .of_eq rfl, fun H b ns _ hbits hP hS => ?_, fun base hb hn hB => ?_⟩
  · simp only [List.mem_cons, List.not_mem_nil, or_false] at hp
    rcases hp with hp | hp <;> subst hp
    · exact hT_is_place
    · exact hT_are_figures
  · simp only [List.mem_cons, List.not_mem_nil, or_false] at hp
    rcases hp with hp | hp <;> subst hp
    · exact h_is_place.n
    · exact h_are_figures.n
  · simp only [List.mem_cons, List.not_mem_nil, or_false] at hp
    rcases hp with hp | hp <;> subst hp
    · exact hC_is_place
    · exact hC_are_figures
  · refine ⟨b, ns, rfl, hS, hP (c_is_place, P_is_place) (by simp), hP (c_are_figures, P_are_figures) (by simp), fun H' q0 q1 => ⟨fun p hp => ?_, rfl⟩⟩
    simp only [List.mem_cons, List.not_mem_nil, or_false] at hp
    rcases hp with hp | hp <;> subst hp <;> assumption
  · have TB_is_place : GxR.TabB base mg c_is_place P_is_place := hB (c_is_place, P_is_place) (by simp)
    have TB_are_figures : GxR.TabB base mg c_are_figures P_are_figures := hB (c_are_figures, P_are_figures) (by simp)
    have D_is_place : Dn l.prog w K mg base 2 "is_place" ["thing"] (spIsPlace P_is_place) := h_is_place.dn X G (fun _ F => ok_is_place F T TB_is_place) (fun _ _ _ _ _ _ us hl => match us, hl with | [_], _ => rfl)
    have D_is_placeE : DnE l.prog w K mg base 2 "is_place" ["thing"] (hotS (spIsPlace P_is_place)) := h_is_place.dne X G (fun _ F => ok_is_placeH F T TB_is_place) (fun _ _ _ _ _ _ us hl => match us, hl with | [_], _ => rfl)
    have D_is_price : Dn l.prog w K mg base 1 "is_price" ["thing"] spIsPrice := h_is_price.dn X G (fun _ F => ok_is_price F T ) (fun _ _ _ _ _ _ us hl => match us, hl with | [_], _ => rfl)
    have D_Tariff_put : Dm l.prog w K mg base 3 a.Tariff "put" ["self", "here", "there", "price"] (spPut a P_is_place) := by
      rw [eT]
      exact h_Tariff_put.dm (fun _ F => by have z := ok_put (Pg := l.prog) (w := w) (base := base) F T D_is_place D_is_price; exact z) (fun _ _ _ _ _ _ us hl => match us, hl with | [_, _, _, _], _ => rfl)
    have D_Tariff_init : Dk l.prog w K mg base 4 "Tariff" a.Tariff ["self", "rows"] (spInit K a P_is_place) := by
      have z := h_Tariff_init.dk (Pg := l.prog) (w := w) (base := base) hTariff X G (fun _ F => ok_init F T D_Tariff_put) (fun _ _ _ _ _ _ us hl => match us, hl with | [_, _], _ => rfl)
      rw [eT]; exact z
    have D_Tariff_price : Dm l.prog w K mg base 1 a.Tariff "price" ["self", "here", "there"] (spPrice a) := by
      rw [eT]
      exact h_Tariff_price.dm (fun _ F => by have z := ok_price (Pg := l.prog) (w := w) (base := base) F T ; exact z) (fun _ _ _ _ _ _ us hl => match us, hl with | [_, _, _], _ => rfl)
    have D_Tariff_priceE : DmE l.prog w K mg base 1 a.Tariff "price" ["self", "here", "there"] (hotS (spPrice a)) := by
      rw [eT]
      exact h_Tariff_price.dme (fun _ F => by have z := ok_priceH (Pg := l.prog) (w := w) (base := base) F T ; exact z) (fun _ _ _ _ _ _ us hl => match us, hl with | [_, _, _], _ => rfl)
    have D_Tariff_told : Dm l.prog w K mg base 1 a.Tariff "told" ["self"] (spTold a) := by
      rw [eT]
      exact h_Tariff_told.dm (fun _ F => by have z := ok_told (Pg := l.prog) (w := w) (base := base) F T ; exact z) (fun _ _ _ _ _ _ us hl => match us, hl with | [_], _ => rfl)
    have D_need_journey : Dn l.prog w K mg base 3 "need_journey" ["places"] (spNeed K a P_is_place) := h_need_journey.dn X G (fun _ F => ok_need F T D_is_place) (fun _ _ _ _ _ _ us hl => match us, hl with | [_], _ => rfl)
    have D_need_journeyE : DnE l.prog w K mg base 3 "need_journey" ["places"] (spNeedE K P_is_place) := h_need_journey.dne X G (fun _ F => ok_needH F T D_is_placeE) (fun _ _ _ _ _ _ us hl => match us, hl with | [_], _ => rfl)
    have D_stretch_price : Dn l.prog w K mg base 2 "stretch_price" ["tariff", "places", "at", "to"] (spSP K a) := h_stretch_price.dn X G (fun _ F => ok_stretch_price F T D_Tariff_price) (fun _ _ _ _ _ _ us hl => match us, hl with | [_, _, _, _], _ => rfl)
    have D_stretch_priceE : DnE l.prog w K mg base 2 "stretch_price" ["tariff", "places", "at", "to"] (hotS (spSP K a)) := h_stretch_price.dne X G (fun _ F => ok_stretch_priceH F T D_Tariff_priceE) (fun _ _ _ _ _ _ us hl => match us, hl with | [_, _, _, _], _ => rfl)
    have D_first_twice : Dn l.prog w K mg base 1 "first_twice" ["places", "at", "to"] (spFT K) := h_first_twice.dn X G (fun _ F => ok_first_twice F T ) (fun _ _ _ _ _ _ us hl => match us, hl with | [_, _, _], _ => rfl)
    have D_first_twiceE : DnE l.prog w K mg base 1 "first_twice" ["places", "at", "to"] (hotS (spFT K)) := h_first_twice.dne X G (fun _ F => ok_first_twiceH F T ) (fun _ _ _ _ _ _ us hl => match us, hl with | [_, _, _], _ => rfl)
    have D_first_dearer : Dn l.prog w K mg base 3 "first_dearer" ["tariff", "places", "at", "to", "price"] (spFD K a) := h_first_dearer.dn X G (fun _ F => ok_first_dearer F T D_stretch_price) (fun _ _ _ _ _ _ us hl => match us, hl with | [_, _, _, _, _], _ => rfl)
    have D_first_dearerE : DnE l.prog w K mg base 3 "first_dearer" ["tariff", "places", "at", "to", "price"] (hotS (spFD K a)) := h_first_dearer.dne X G (fun _ F => ok_first_dearerH F T D_stretch_priceE) (fun _ _ _ _ _ _ us hl => match us, hl with | [_, _, _, _, _], _ => rfl)
    have D_fault_of : Dn l.prog w K mg base 4 "fault_of" ["tariff", "places", "at", "to"] (spFO K a) := h_fault_of.dn X G (fun _ F => ok_fault_of F T D_stretch_price D_first_twice D_first_dearer) (fun _ _ _ _ _ _ us hl => match us, hl with | [_, _, _, _], _ => rfl)
    have D_fault_ofE : DnE l.prog w K mg base 4 "fault_of" ["tariff", "places", "at", "to"] (hotS (spFO K a)) := h_fault_of.dne X G (fun _ F => ok_fault_ofH F T D_stretch_priceE D_first_twiceE D_first_dearerE) (fun _ _ _ _ _ _ us hl => match us, hl with | [_, _, _, _], _ => rfl)
    have D_held : Dn l.prog w K mg base 5 "held" ["tariff", "journey"] (spHeld K a P_is_place) := h_held.dn X G (fun _ F => ok_held F T D_need_journey D_fault_of) (fun _ _ _ _ _ _ us hl => match us, hl with | [_, _], _ => rfl)
    have D_heldE : DnE l.prog w K mg base 5 "held" ["tariff", "journey"] (hotS (spHeld K a P_is_place)) := h_held.dne X G (fun _ F => ok_heldH F T D_need_journeyE D_fault_ofE) (fun _ _ _ _ _ _ us hl => match us, hl with | [_, _], _ => rfl)
    have D_best_on : Dn l.prog w K mg base 3 "best_on" ["tariff", "places", "at", "ends", "ways"] (spBest K a) := h_best_on.dn X G (fun _ F => ok_best_on F T D_stretch_price) (fun _ _ _ _ _ _ us hl => match us, hl with | [_, _, _, _, _], _ => rfl)
    have D_best_onE : DnE l.prog w K mg base 3 "best_on" ["tariff", "places", "at", "ends", "ways"] (hotS (spBest K a)) := h_best_on.dne X G (fun _ F => ok_best_onH F T D_stretch_priceE) (fun _ _ _ _ _ _ us hl => match us, hl with | [_, _, _, _, _], _ => rfl)
    have D_ways_on : Dn l.prog w K mg base 6 "ways_on" ["tariff", "places"] (spWays K a P_is_place) := h_ways_on.dn X G (fun _ F => ok_ways_on F T D_held D_best_on) (fun _ _ _ _ _ _ us hl => match us, hl with | [_, _], _ => rfl)
    have D_ways_onE : DnE l.prog w K mg base 6 "ways_on" ["tariff", "places"] (hotS (spWays K a P_is_place)) := h_ways_on.dne X G (fun _ F => ok_ways_onH F T D_heldE D_best_onE) (fun _ _ _ _ _ _ us hl => match us, hl with | [_, _], _ => rfl)
    have D_cuts_along : Dn l.prog w K mg base 1 "cuts_along" ["ways"] (spAlong K) := h_cuts_along.dn X G (fun _ F => ok_cuts_along F T ) (fun _ _ _ _ _ _ us hl => match us, hl with | [_], _ => rfl)
    have D_priced : Dn l.prog w K mg base 7 "priced" ["tariff", "journey"] (spPriced K a P_is_place) := h_priced.dn X G (fun _ F => ok_priced F T D_need_journey D_ways_on D_cuts_along) (fun _ _ _ _ _ _ us hl => match us, hl with | [_, _], _ => rfl)
    have D_pricedX : DnX l.prog w K mg base 7 "priced" ["tariff", "journey"] (spNonX K a P_is_place) := h_priced.dnx X G (fun _ F => ok_pricedX F T D_need_journeyE D_ways_onE) (fun _ _ _ _ _ _ us hl => match us, hl with | [_, _], _ => rfl)
    have D_parted : Dn l.prog w K mg base 8 "parted" ["tariff", "journey"] (spParted K a P_is_place) := h_parted.dn X G (fun _ F => ok_parted F T D_priced) (fun _ _ _ _ _ _ us hl => match us, hl with | [_, _], _ => rfl)
    have D_partedX : DnX l.prog w K mg base 8 "parted" ["tariff", "journey"] (spNonX K a P_is_place) := h_parted.dnx X G (fun _ F => ok_partedX F T D_pricedX) (fun _ _ _ _ _ _ us hl => match us, hl with | [_, _], _ => rfl)
    have D_stretches_of : Dn l.prog w K mg base 1 "stretches_of" ["cuts"] (spStretches K) := h_stretches_of.dn X G (fun _ F => ok_stretches_of F T ) (fun _ _ _ _ _ _ us hl => match us, hl with | [_], _ => rfl)
    have D_line_of : Dn l.prog w K mg base 1 "line_of" ["here", "there", "price"] spLineOf := h_line_of.dn X G (fun _ F => ok_line_of F T ) (fun _ _ _ _ _ _ us hl => match us, hl with | [_, _, _], _ => rfl)
    have D_bill : Dn l.prog w K mg base 8 "bill" ["tariff", "journey"] (spBill K a P_is_place) := h_bill.dn X G (fun _ F => ok_bill F T D_need_journey D_priced D_stretches_of D_stretch_price D_line_of) (fun _ _ _ _ _ _ us hl => match us, hl with | [_, _], _ => rfl)
    have D_are_figures : Dn l.prog w K mg base 2 "are_figures" ["word"] (spFig P_are_figures) := h_are_figures.dn X G (fun _ F => ok_are_figures F T TB_are_figures) (fun _ _ _ _ _ _ us hl => match us, hl with | [_], _ => rfl)
    have D_row_of : Dn l.prog w K mg base 3 "row_of" ["line"] (spRowOf a P_are_figures) := h_row_of.dn X G (fun _ F => ok_row_of F T D_are_figures) (fun _ _ _ _ _ _ us hl => match us, hl with | [_], _ => rfl)
    have D_tariff_of : Dn l.prog w K mg base 6 "tariff_of" ["lines"] (spTofG K a P_is_place P_are_figures) := h_tariff_of.dn X G (fun _ F => ok_tariff_of F T D_row_of D_Tariff_init) (fun _ _ _ _ _ _ us hl => match us, hl with | [_], _ => rfl)
    have D__law_cell_at : Dn l.prog w K mg base 1 "_law_cell_at" ["_law_script", "_law_k"] (spCell K) := h__law_cell_at.dn X G (fun _ F => ok_cell F T ) (fun _ _ _ _ _ _ us hl => match us, hl with | [_, _], _ => rfl)
    have D__law_names : Dn l.prog w K mg base 1 "_law_names" ["_law_cell", "_law_many"] spNames := h__law_names.dn X G (fun _ F => ok_names F T ) (fun _ _ _ _ _ _ us hl => match us, hl with | [_, _], _ => rfl)
    have D__law_journey : Dn l.prog w K mg base 2 "_law_journey" ["_law_script"] (spJourney K) := h__law_journey.dn X G (fun _ F => ok_journey F T D__law_cell_at D__law_names) (fun _ _ _ _ _ _ us hl => match us, hl with | [_], _ => rfl)
    have D__law_rows : Dn l.prog w K mg base 2 "_law_rows" ["_law_script", "_law_row"] (spLRows K) := h__law_rows.dn X G (fun _ F => ok_lrows F T D__law_cell_at) (fun _ _ _ _ _ _ us hl => match us, hl with | [_, _], _ => rfl)
    have D__law_table : Dn l.prog w K mg base 1 "_law_table" ["_law_rows_here"] (spTable K) := h__law_table.dn X G (fun _ F => ok_table F T ) (fun _ _ _ _ _ _ us hl => match us, hl with | [_], _ => rfl)
    have D__law_other : Dn l.prog w K mg base 2 "_law_other" ["_law_script", "_law_row"] (spOther K) := h__law_other.dn X G (fun _ F => ok_other F T D__law_cell_at) (fun _ _ _ _ _ _ us hl => match us, hl with | [_, _], _ => rfl)
    have D__law_begun : Dn l.prog w K mg base 7 "_law_begun" ["_law_script", "_law_rows_here"] (spBegun K a P_is_place P_are_figures) := h__law_begun.dn X G (fun _ F => ok_begun F T D__law_cell_at D_tariff_of D_Tariff_put D_Tariff_init) (fun _ _ _ _ _ _ us hl => match us, hl with | [_, _], _ => rfl)
    have D__law_cuts : Dn l.prog w K mg base 9 "_law_cuts" ["_law_tariff", "_law_row"] (spCuts K a P_is_place) := h__law_cuts.dn X G (fun _ F => ok_cuts11 F T D_parted) (fun _ _ _ _ _ _ us hl => match us, hl with | [_, _], _ => rfl)
    have D__law_cutsE : DnE l.prog w K mg base 9 "_law_cuts" ["_law_tariff", "_law_row"] (spCutsE K a P_is_place) := h__law_cuts.dne X G (fun _ F => ok_cuts11E F T D_partedX) (fun _ _ _ _ _ _ us hl => match us, hl with | [_, _], _ => rfl)
    have D__law_good : Dn l.prog w K mg base 10 "_law_good" ["_law_tariff", "_law_table_here", "_law_handed"] (spGood11 K a P_is_place) := h__law_good.dn X G (fun _ F => ok_good11 F T D_bill D__law_cuts D__law_cutsE) (fun _ _ _ _ _ _ us hl => match us, hl with | [_, _, _], _ => rfl)
    exact ok_law (fun_mk (st := s_law) lL cL h_law.k) T D__law_cell_at D__law_journey D__law_rows D__law_table D__law_other D__law_begun D__law_good D_bill D_Tariff_put D_Tariff_init
end Fb
open PySem PySem.W PyProof.Rows
set_option maxRecDepth 100000 in
set_option maxHeartbeats 0 in
theorem PySem.Challenge.cw_farebreak_k11_bills_holds : PySem.Challenge.rw_farebreak_k11_bills.Holds := by
  w_on; o_law; k_head; (case hw => w_witness2)
  k_fill
  refine Fb.walk_tabG (l := PySem.Challenge.rw_farebreak_k11_bills) (n := 63) (k := 11) (x := "_law_script") ["is_place", "are_figures"] rfl (by decide) rfl ⟨rfl, by decide, by decide⟩ (fun g hg => ?R) (fun w h Y => PySem.W.kIn_of Y) ?F
  case R =>
    simp only [List.mem_cons, List.not_mem_nil, or_false] at hg
    rcases hg with hg | hg <;> subst hg <;> first | decide +kernel | rfl
  case F =>
    intro w mg fa h Y KX G hmg tabs
    refine' Fb.all_mk (l := PySem.Challenge.rw_farebreak_k11_bills) KX G hmg tabs ?ahFareError ?ahBadPlace ?ahBadPrice ?ahTwiceTold ?ahTooMany ?ahBadJourney ?ahNoParting ?ahBadLine ?asBadPlace ?asBadPrice ?asTwiceTold ?asTooMany ?asBadJourney ?asNoParting ?asBadLine ?asNoParting_self ?ahTariff ?anaP ?agLONGEST_PLACE ?agHIGHEST_PRICE ?agMOST_ROWS ?agFEWEST_PLACES ?agMOST_PLACES ?agMOST_FIGURES ?an_len ?an_int ?an_str ?an_list ?an_tuple ?an_dict ?an_isinstance ?an_range ?an_enumerate ?an_all ?an_any ?an_sum ?an_min ?an_max ?an_abs ?an_sorted ?an_zip ?an_reversed ?an_bool ?an_ValueError ?an_set ?ah_is_place ?ah_is_price ?ah_Tariff_put ?ah_Tariff_init ?ah_Tariff_price ?ah_Tariff_told ?ah_need_journey ?ah_stretch_price ?ah_first_twice ?ah_first_dearer ?ah_fault_of ?ah_held ?ah_best_on ?ah_ways_on ?ah_cuts_along ?ah_priced ?ah_parted ?ah_stretches_of ?ah_line_of ?ah_bill ?ah_are_figures ?ah_row_of ?ah_tariff_of ?ah__law_cell_at ?ah__law_names ?ah__law_journey ?ah__law_rows ?ah__law_table ?ah__law_other ?ah__law_begun ?ah__law_cuts ?ah__law_good ?ah_law
    (case ahFareError => exact Fb.EA.mk (by k_is) (by k_is) (by k_exc) (by k_is) (by k_is) (by k_is) (by k_is) (by k_is) (by k_is) (by k_is) (by k_is) (by k_is) (by k_is) (by k_is))
    (case ahBadPlace => exact Fb.EA.mk (by k_is) (by k_is) (by k_exc) (by k_is) (by k_is) (by k_is) (by k_is) (by k_is) (by k_is) (by k_is) (by k_is) (by k_is) (by k_is) (by k_is))
    (case ahBadPrice => exact Fb.EA.mk (by k_is) (by k_is) (by k_exc) (by k_is) (by k_is) (by k_is) (by k_is) (by k_is) (by k_is) (by k_is) (by k_is) (by k_is) (by k_is) (by k_is))
    (case ahTwiceTold => exact Fb.EA.mk (by k_is) (by k_is) (by k_exc) (by k_is) (by k_is) (by k_is) (by k_is) (by k_is) (by k_is) (by k_is) (by k_is) (by k_is) (by k_is) (by k_is))
    (case ahTooMany => exact Fb.EA.mk (by k_is) (by k_is) (by k_exc) (by k_is) (by k_is) (by k_is) (by k_is) (by k_is) (by k_is) (by k_is) (by k_is) (by k_is) (by k_is) (by k_is))
    (case ahBadJourney => exact Fb.EA.mk (by k_is) (by k_is) (by k_exc) (by k_is) (by k_is) (by k_is) (by k_is) (by k_is) (by k_is) (by k_is) (by k_is) (by k_is) (by k_is) (by k_is))
    (case ahNoParting => exact Fb.EA.mk (by k_is) (by k_is) (by k_exc) (by k_is) (by k_is) (by k_is) (by k_is) (by k_is) (by k_is) (by k_is) (by k_is) (by k_is) (by k_is) (by k_is))
    (case ahBadLine => exact Fb.EA.mk (by k_is) (by k_is) (by k_exc) (by k_is) (by k_is) (by k_is) (by k_is) (by k_is) (by k_is) (by k_is) (by k_is) (by k_is) (by k_is) (by k_is))
    (case asBadPlace => k_is)
    (case asBadPrice => k_is)
    (case asTwiceTold => k_is)
    (case asTooMany => k_is)
    (case asBadJourney => k_is)
    (case asNoParting => k_is)
    (case asBadLine => k_is)
    (case asNoParting_self => k_is)
    (case ahTariff => exact Fb.CA.mk (by k_is) (by k_is) (by k_is) (by k_is) (by k_is) (by k_is) (by k_is))
    (case anaP => k_is)
    (case agLONGEST_PLACE => exact Fb.gi_mk (by k_is))
    (case agHIGHEST_PRICE => exact Fb.gi_mk (by k_is))
    (case agMOST_ROWS => exact Fb.gi_mk (by k_is))
    (case agFEWEST_PLACES => exact Fb.gi_mk (by k_is))
    (case agMOST_PLACES => exact Fb.gi_mk (by k_is))
    (case agMOST_FIGURES => exact Fb.gi_mk (by k_is))
    (case an_len => k_is)
    (case an_int => k_is)
    (case an_str => k_is)
    (case an_list => k_is)
    (case an_tuple => k_is)
    (case an_dict => k_is)
    (case an_isinstance => k_is)
    (case an_range => k_is)
    (case an_enumerate => k_is)
    (case an_all => k_is)
    (case an_any => k_is)
    (case an_sum => k_is)
    (case an_min => k_is)
    (case an_max => k_is)
    (case an_abs => k_is)
    (case an_sorted => k_is)
    (case an_zip => k_is)
    (case an_reversed => k_is)
    (case an_bool => k_is)
    (case an_ValueError => k_is)
    (case an_set => k_is)
    (case ah_is_place => exact Fb.fac_mk (by k_is) (by k_is) (by k_is) (by k_is) (by k_is) (by rfl) (by first | rfl | decide +kernel))
    (case ah_is_price => exact Fb.fa_mk (by k_is) (by k_is) (by k_is) (by k_is))
    (case ah_Tariff_put => exact Fb.fm_mk (by k_is) (by k_is) (by k_is) (by k_is) (by k_is))
    (case ah_Tariff_init => exact Fb.fm_mk (by k_is) (by k_is) (by k_is) (by k_is) (by k_is))
    (case ah_Tariff_price => exact Fb.fm_mk (by k_is) (by k_is) (by k_is) (by k_is) (by k_is))
    (case ah_Tariff_told => exact Fb.fm_mk (by k_is) (by k_is) (by k_is) (by k_is) (by k_is))
    (case ah_need_journey => exact Fb.fa_mk (by k_is) (by k_is) (by k_is) (by k_is))
    (case ah_stretch_price => exact Fb.fa_mk (by k_is) (by k_is) (by k_is) (by k_is))
    (case ah_first_twice => exact Fb.fa_mk (by k_is) (by k_is) (by k_is) (by k_is))
    (case ah_first_dearer => exact Fb.fa_mk (by k_is) (by k_is) (by k_is) (by k_is))
    (case ah_fault_of => exact Fb.fa_mk (by k_is) (by k_is) (by k_is) (by k_is))
    (case ah_held => exact Fb.fa_mk (by k_is) (by k_is) (by k_is) (by k_is))
    (case ah_best_on => exact Fb.fa_mk (by k_is) (by k_is) (by k_is) (by k_is))
    (case ah_ways_on => exact Fb.fa_mk (by k_is) (by k_is) (by k_is) (by k_is))
    (case ah_cuts_along => exact Fb.fa_mk (by k_is) (by k_is) (by k_is) (by k_is))
    (case ah_priced => exact Fb.fa_mk (by k_is) (by k_is) (by k_is) (by k_is))
    (case ah_parted => exact Fb.fa_mk (by k_is) (by k_is) (by k_is) (by k_is))
    (case ah_stretches_of => exact Fb.fa_mk (by k_is) (by k_is) (by k_is) (by k_is))
    (case ah_line_of => exact Fb.fa_mk (by k_is) (by k_is) (by k_is) (by k_is))
    (case ah_bill => exact Fb.fa_mk (by k_is) (by k_is) (by k_is) (by k_is))
    (case ah_are_figures => exact Fb.fac_mk (by k_is) (by k_is) (by k_is) (by k_is) (by k_is) (by rfl) (by first | rfl | decide +kernel))
    (case ah_row_of => exact Fb.fa_mk (by k_is) (by k_is) (by k_is) (by k_is))
    (case ah_tariff_of => exact Fb.fa_mk (by k_is) (by k_is) (by k_is) (by k_is))
    (case ah__law_cell_at => exact Fb.fa_mk (by k_is) (by k_is) (by k_is) (by k_is))
    (case ah__law_names => exact Fb.fa_mk (by k_is) (by k_is) (by k_is) (by k_is))
    (case ah__law_journey => exact Fb.fa_mk (by k_is) (by k_is) (by k_is) (by k_is))
    (case ah__law_rows => exact Fb.fa_mk (by k_is) (by k_is) (by k_is) (by k_is))
    (case ah__law_table => exact Fb.fa_mk (by k_is) (by k_is) (by k_is) (by k_is))
    (case ah__law_other => exact Fb.fa_mk (by k_is) (by k_is) (by k_is) (by k_is))
    (case ah__law_begun => exact Fb.fa_mk (by k_is) (by k_is) (by k_is) (by k_is))
    (case ah__law_cuts => exact Fb.fa_mk (by k_is) (by k_is) (by k_is) (by k_is))
    (case ah__law_good => exact Fb.fa_mk (by k_is) (by k_is) (by k_is) (by k_is))
    (case ah_law => exact Fb.fa_mk (by k_is) (by k_is) (by k_is) (by k_is))
#print axioms PySem.Challenge.cw_farebreak_k11_bills_holds
